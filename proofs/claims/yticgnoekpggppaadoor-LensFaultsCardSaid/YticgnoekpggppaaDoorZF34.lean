/- lens: the chapter's truth played on its islet, and the first fault with 11 tanks. -/
import Derived.Test.YticgnoekpggppaaDoorZF13
namespace Go.CE
open Go Go.RowKit Go.Proofs
def m23_13 : Memo :=
  ⟨23, #[.agg #[inN 1000, inN 400, inN 600, inN 200, inN 10000, inN 300, inN 400, inN 50, inN 100, inN 30, inN 250, inN 10, .slice (some ⟨8, 0, none⟩) 2 1, .slice (some ⟨9, 0, none⟩) 3 6, inN 2, inN 2], inN 12, .agg #[inN 400, inN 300, inN 100, .slice (some ⟨10, 0, none⟩) 3 1, .slice (some ⟨11, 0, none⟩) 3 1, .slice (some ⟨12, 0, none⟩) 3 1]], [(10, .cells #[.bool false, .bool true, .bool true] 4 (0, 0)), (11, .cells #[inN 100, inN 0, inN 0] 3 (0, 0)), (12, .cells #[inN 50, inN 50, inN 50] 3 (0, 0)), (8, .cells #[inN 200, inN 300] 3 (0, 0)), (9, .cells #[inN 100, inN 150, inN 0, inN 20, inN 40, inN 50, inN 100, inN 150, inN 0, inN 20, inN 40, inN 50, inN 100, inN 150, inN 0, inN 20, inN 40, inN 50] 77 (0, 0))], 13, .tuple #[.slice (some ⟨61, 0, none⟩) 3 3, .agg #[inN 520, inN 320, inN 150, inN 189, inN 20, inN 481], inN 0], [(61, .cells #[inN 70, inN 630, inN 0, inN 20, inN 567, inN 0, inN 0, inN 481, inN 0] 53 (0, 0))], 72⟩
theorem m23_13_ok : isMemo m23_13 (m23_13.run Tryd.prog goFns noOrc 100000) = true := by decide +kernel
def m53_1558 : Memo :=
  ⟨53, #[.agg #[inN 1000, inN 400, inN 600, inN 200, inN 10000, inN 300, inN 400, inN 50, inN 100, inN 30, inN 250, inN 10, .slice (some ⟨1535, 0, none⟩) 2 1, .slice (some ⟨1536, 0, none⟩) 3 6, inN 2, inN 2], inN 11], [(1535, .cells #[inN 200, inN 300] 3 (0, 0)), (1536, .cells #[inN 100, inN 150, inN 0, inN 20, inN 40, inN 50, inN 100, inN 150, inN 0, inN 20, inN 40, inN 50, inN 100, inN 150, inN 0, inN 20, inN 40, inN 50] 77 (0, 0))], 1558, .agg #[.slice (some ⟨1751, 0, none⟩) 3 1, inN 2, inN 2, inN 0], [(1751, .cells #[.bool false, .bool true, .bool true] 4 (0, 0))], 1813⟩
theorem m53_1558_ok : isMemo m53_1558 (m53_1558.run Tryd.prog goFns noOrc 100000) = true := by decide +kernel
noncomputable def orcFault : Orc := memoOrc [m53_1558]
theorem orcFault_ok (B : Lo) : OrcS Tryd.prog B orcFault := orcS_cons goFns_ok mixed_ok (noOrc_ok _ _) m53_1558_ok (orcS_nil _ _)
def m30_1537 : Memo :=
  ⟨30, #[.agg #[inN 1000, inN 400, inN 600, inN 200, inN 10000, inN 300, inN 400, inN 50, inN 100, inN 30, inN 250, inN 10, .slice (some ⟨1535, 0, none⟩) 2 1, .slice (some ⟨1536, 0, none⟩) 3 6, inN 2, inN 2], inN 11], [(1535, .cells #[inN 200, inN 300] 3 (0, 0)), (1536, .cells #[inN 100, inN 150, inN 0, inN 20, inN 40, inN 50, inN 100, inN 150, inN 0, inN 20, inN 40, inN 50, inN 100, inN 150, inN 0, inN 20, inN 40, inN 50] 77 (0, 0))], 1537, .tuple #[.agg #[.slice (some ⟨1751, 0, none⟩) 3 1, inN 2, inN 2, inN 0], inN 0], [(1751, .cells #[.bool false, .bool true, .bool true] 4 (0, 0))], 1813⟩
theorem m30_1537_ok : isMemo m30_1537 (m30_1537.run Tryd.prog goFns orcFault 100000) = true := by decide +kernel
end Go.CE
