/- lens: the chapter's truth played on its islet, and the first fault with 11 tanks. -/
import Derived.Test.YtffdidleebognaaDoorZR13
namespace Go.CE
open Go Go.RowKit Go.Proofs
def m11_13 : Memo :=
  ⟨11, #[.agg #[inN 1000, inN 400, inN 600, inN 200, inN 10000, inN 300, inN 400, inN 50, inN 100, inN 30, inN 250, inN 10, .slice (some ⟨8, 0, none⟩) 2 1, .slice (some ⟨9, 0, none⟩) 3 6, inN 2, inN 2], inN 12, .agg #[inN 400, inN 300, inN 100, .slice (some ⟨10, 0, none⟩) 3 1, .slice (some ⟨11, 0, none⟩) 3 1, .slice (some ⟨12, 0, none⟩) 3 1]], [(10, .cells #[.bool false, .bool true, .bool true] 4 (0, 0)), (11, .cells #[inN 100, inN 0, inN 0] 3 (0, 0)), (12, .cells #[inN 50, inN 50, inN 50] 3 (0, 0)), (8, .cells #[inN 200, inN 300] 3 (0, 0)), (9, .cells #[inN 100, inN 150, inN 0, inN 20, inN 40, inN 50, inN 100, inN 150, inN 0, inN 20, inN 40, inN 50, inN 100, inN 150, inN 0, inN 20, inN 40, inN 50] 70 (0, 0))], 13, .tuple #[.slice (some ⟨73, 0, none⟩) 3 3, .agg #[inN 520, inN 320, inN 150, inN 189, inN 20, inN 481], inN 0], [(73, .cells #[inN 70, inN 630, inN 0, inN 20, inN 567, inN 0, inN 0, inN 481, inN 0] 59 (0, 0))], 84⟩
theorem m11_13_ok : isMemo m11_13 (m11_13.run Tryd.prog goFns noOrc 100000) = true := by decide +kernel
def m22_1854 : Memo :=
  ⟨22, #[.agg #[inN 1000, inN 400, inN 600, inN 200, inN 10000, inN 300, inN 400, inN 50, inN 100, inN 30, inN 250, inN 10, .slice (some ⟨1819, 0, none⟩) 2 1, .slice (some ⟨1820, 0, none⟩) 3 6, inN 2, inN 2], inN 11], [(1819, .cells #[inN 200, inN 300] 3 (0, 0)), (1820, .cells #[inN 100, inN 150, inN 0, inN 20, inN 40, inN 50, inN 100, inN 150, inN 0, inN 20, inN 40, inN 50, inN 100, inN 150, inN 0, inN 20, inN 40, inN 50] 70 (0, 0))], 1854, .agg #[.slice (some ⟨2047, 0, none⟩) 3 1, inN 2, inN 2, inN 0], [(2047, .cells #[.bool false, .bool true, .bool true] 4 (0, 0))], 2109⟩
theorem m22_1854_ok : isMemo m22_1854 (m22_1854.run Tryd.prog goFns noOrc 100000) = true := by decide +kernel
noncomputable def orcFault : Orc := memoOrc [m22_1854]
theorem orcFault_ok (B : Lo) : OrcS Tryd.prog B orcFault := orcS_cons goFns_ok mixed_ok (noOrc_ok _ _) m22_1854_ok (orcS_nil _ _)
def m8_1821 : Memo :=
  ⟨8, #[.agg #[inN 1000, inN 400, inN 600, inN 200, inN 10000, inN 300, inN 400, inN 50, inN 100, inN 30, inN 250, inN 10, .slice (some ⟨1819, 0, none⟩) 2 1, .slice (some ⟨1820, 0, none⟩) 3 6, inN 2, inN 2], inN 11], [(1819, .cells #[inN 200, inN 300] 3 (0, 0)), (1820, .cells #[inN 100, inN 150, inN 0, inN 20, inN 40, inN 50, inN 100, inN 150, inN 0, inN 20, inN 40, inN 50, inN 100, inN 150, inN 0, inN 20, inN 40, inN 50] 70 (0, 0))], 1821, .tuple #[.agg #[.slice (some ⟨2047, 0, none⟩) 3 1, inN 2, inN 2, inN 0], inN 0], [(2047, .cells #[.bool false, .bool true, .bool true] 4 (0, 0))], 2109⟩
theorem m8_1821_ok : isMemo m8_1821 (m8_1821.run Tryd.prog goFns orcFault 100000) = true := by decide +kernel
end Go.CE
