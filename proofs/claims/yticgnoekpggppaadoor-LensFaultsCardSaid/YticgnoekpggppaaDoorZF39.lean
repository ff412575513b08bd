/- lens: the first faults of the chapter's islet with some numbers of tanks. -/
import Derived.Test.YticgnoekpggppaaDoorZF13
namespace Go.CE
open Go Go.RowKit Go.Proofs
def m53_2545 : Memo :=
  ⟨53, #[.agg #[inN 1000, inN 400, inN 600, inN 200, inN 10000, inN 300, inN 400, inN 50, inN 100, inN 30, inN 250, inN 10, .slice (some ⟨1822, 0, none⟩) 2 1, .slice (some ⟨1823, 0, none⟩) 3 6, inN 2, inN 2], inN 15], [(1822, .cells #[inN 200, inN 300] 3 (0, 0)), (1823, .cells #[inN 100, inN 150, inN 0, inN 20, inN 40, inN 50, inN 100, inN 150, inN 0, inN 20, inN 40, inN 50, inN 100, inN 150, inN 0, inN 20, inN 40, inN 50] 77 (0, 0))], 2545, .agg #[.slice none 0 0, inN 0, inN 1, inN 0], [], 2988⟩
theorem m53_2545_ok : isMemo m53_2545 (m53_2545.run Tryd.prog goFns noOrc 100000) = true := by decide +kernel
def m53_3874 : Memo :=
  ⟨53, #[.agg #[inN 1000, inN 400, inN 600, inN 200, inN 10000, inN 300, inN 400, inN 50, inN 100, inN 30, inN 250, inN 10, .slice (some ⟨1822, 0, none⟩) 2 1, .slice (some ⟨1823, 0, none⟩) 3 6, inN 2, inN 2], inN 11], [(1822, .cells #[inN 200, inN 300] 3 (0, 0)), (1823, .cells #[inN 100, inN 150, inN 0, inN 20, inN 40, inN 50, inN 100, inN 150, inN 0, inN 20, inN 40, inN 50, inN 100, inN 150, inN 0, inN 20, inN 40, inN 50] 77 (0, 0))], 3874, .agg #[.slice (some ⟨4067, 0, none⟩) 3 1, inN 2, inN 2, inN 0], [(4067, .cells #[.bool false, .bool true, .bool true] 4 (0, 0))], 4129⟩
theorem m53_3874_ok : isMemo m53_3874 (m53_3874.run Tryd.prog goFns noOrc 100000) = true := by decide +kernel
end Go.CE
