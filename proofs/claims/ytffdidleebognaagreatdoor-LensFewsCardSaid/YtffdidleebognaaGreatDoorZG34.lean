/- lens: the chapter's truth played on its islet, and the first fault with 11 tanks. -/
import Derived.Test.YtffdidleebognaaGreatDoorZG13
namespace Go.CE
open Go Go.RowKit Go.Proofs
def m20_13 : Memo :=
  ⟨20, #[.agg #[inN 1000, inN 400, inN 600, inN 200, inN 10000, inN 300, inN 400, inN 50, inN 100, inN 30, inN 250, inN 10, .slice (some ⟨8, 0, none⟩) 2 1, .slice (some ⟨9, 0, none⟩) 3 6, inN 2, inN 2], inN 12, .agg #[inN 400, inN 300, inN 100, .slice (some ⟨10, 0, none⟩) 3 1, .slice (some ⟨11, 0, none⟩) 3 1, .slice (some ⟨12, 0, none⟩) 3 1]], [(10, .cells #[.bool false, .bool true, .bool true] 4 (0, 0)), (11, .cells #[inN 100, inN 0, inN 0] 3 (0, 0)), (12, .cells #[inN 50, inN 50, inN 50] 3 (0, 0)), (8, .cells #[inN 200, inN 300] 3 (0, 0)), (9, .cells #[inN 100, inN 150, inN 0, inN 20, inN 40, inN 50, inN 100, inN 150, inN 0, inN 20, inN 40, inN 50, inN 100, inN 150, inN 0, inN 20, inN 40, inN 50] 81 (0, 0))], 13, .tuple #[.slice (some ⟨73, 0, none⟩) 3 3, .agg #[inN 520, inN 320, inN 150, inN 189, inN 20, inN 481], inN 0], [(73, .cells #[inN 70, inN 630, inN 0, inN 20, inN 567, inN 0, inN 0, inN 481, inN 0] 53 (0, 0))], 84⟩
theorem m20_13_ok : isMemo m20_13 (m20_13.run Tryz.prog goFns noOrc 100000) = true := by decide +kernel
def m47_1854 : Memo :=
  ⟨47, #[.agg #[inN 1000, inN 400, inN 600, inN 200, inN 10000, inN 300, inN 400, inN 50, inN 100, inN 30, inN 250, inN 10, .slice (some ⟨1819, 0, none⟩) 2 1, .slice (some ⟨1820, 0, none⟩) 3 6, inN 2, inN 2], inN 11], [(1819, .cells #[inN 200, inN 300] 3 (0, 0)), (1820, .cells #[inN 100, inN 150, inN 0, inN 20, inN 40, inN 50, inN 100, inN 150, inN 0, inN 20, inN 40, inN 50, inN 100, inN 150, inN 0, inN 20, inN 40, inN 50] 81 (0, 0))], 1854, .agg #[.slice (some ⟨2047, 0, none⟩) 3 1, inN 2, inN 2, inN 0], [(2047, .cells #[.bool false, .bool true, .bool true] 4 (0, 0))], 2109⟩
theorem m47_1854_ok : isMemo m47_1854 (m47_1854.run Tryz.prog goFns noOrc 100000) = true := by decide +kernel
noncomputable def orcFault : Orc := memoOrc [m47_1854]
theorem orcFault_ok (B : Lo) : OrcS Tryz.prog B orcFault := orcS_cons goFns_ok mixed_ok (noOrc_ok _ _) m47_1854_ok (orcS_nil _ _)
def m25_1821 : Memo :=
  ⟨25, #[.agg #[inN 1000, inN 400, inN 600, inN 200, inN 10000, inN 300, inN 400, inN 50, inN 100, inN 30, inN 250, inN 10, .slice (some ⟨1819, 0, none⟩) 2 1, .slice (some ⟨1820, 0, none⟩) 3 6, inN 2, inN 2], inN 11], [(1819, .cells #[inN 200, inN 300] 3 (0, 0)), (1820, .cells #[inN 100, inN 150, inN 0, inN 20, inN 40, inN 50, inN 100, inN 150, inN 0, inN 20, inN 40, inN 50, inN 100, inN 150, inN 0, inN 20, inN 40, inN 50] 81 (0, 0))], 1821, .tuple #[.agg #[.slice (some ⟨2047, 0, none⟩) 3 1, inN 2, inN 2, inN 0], inN 0], [(2047, .cells #[.bool false, .bool true, .bool true] 4 (0, 0))], 2109⟩
theorem m25_1821_ok : isMemo m25_1821 (m25_1821.run Tryz.prog goFns orcFault 100000) = true := by decide +kernel
end Go.CE
