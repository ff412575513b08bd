/- lens: the first faults of the chapter's islet with some numbers of tanks. -/
import Derived.Test.YticgnoekpggppaaDoorZF13
namespace Go.CE
open Go Go.RowKit Go.Proofs
def m53_1847 : Memo :=
  ⟨53, #[.agg #[inN 1000, inN 400, inN 600, inN 200, inN 10000, inN 300, inN 400, inN 50, inN 100, inN 30, inN 250, inN 10, .slice (some ⟨1822, 0, none⟩) 2 1, .slice (some ⟨1823, 0, none⟩) 3 6, inN 2, inN 2], inN 20], [(1822, .cells #[inN 200, inN 300] 3 (0, 0)), (1823, .cells #[inN 100, inN 150, inN 0, inN 20, inN 40, inN 50, inN 100, inN 150, inN 0, inN 20, inN 40, inN 50, inN 100, inN 150, inN 0, inN 20, inN 40, inN 50] 77 (0, 0))], 1847, .agg #[.slice none 0 0, inN 0, inN 1, inN 0], [], 2290⟩
theorem m53_1847_ok : isMemo m53_1847 (m53_1847.run Tryd.prog goFns noOrc 100000) = true := by decide +kernel
def m53_2988 : Memo :=
  ⟨53, #[.agg #[inN 1000, inN 400, inN 600, inN 200, inN 10000, inN 300, inN 400, inN 50, inN 100, inN 30, inN 250, inN 10, .slice (some ⟨1822, 0, none⟩) 2 1, .slice (some ⟨1823, 0, none⟩) 3 6, inN 2, inN 2], inN 13], [(1822, .cells #[inN 200, inN 300] 3 (0, 0)), (1823, .cells #[inN 100, inN 150, inN 0, inN 20, inN 40, inN 50, inN 100, inN 150, inN 0, inN 20, inN 40, inN 50, inN 100, inN 150, inN 0, inN 20, inN 40, inN 50] 77 (0, 0))], 2988, .agg #[.slice none 0 0, inN 0, inN 1, inN 0], [], 3431⟩
theorem m53_2988_ok : isMemo m53_2988 (m53_2988.run Tryd.prog goFns noOrc 100000) = true := by decide +kernel
end Go.CE
