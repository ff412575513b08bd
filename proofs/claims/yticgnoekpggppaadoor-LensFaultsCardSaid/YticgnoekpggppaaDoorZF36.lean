/- lens: what is known of the chapter's islet with 12 tanks. -/
import Derived.Test.YticgnoekpggppaaDoorZF35
namespace Go.CE
open Go Go.RowKit Go.Proofs
def m16_83 : Memo :=
  ⟨16, #[.agg #[inN 1000, inN 400, inN 600, inN 200, inN 10000, inN 300, inN 400, inN 50, inN 100, inN 30, inN 250, inN 10, .slice (some ⟨81, 0, none⟩) 2 1, .slice (some ⟨82, 0, none⟩) 3 6, inN 2, inN 2], inN 12], [(81, .cells #[inN 200, inN 300] 3 (0, 0)), (82, .cells #[inN 100, inN 150, inN 0, inN 20, inN 40, inN 50, inN 100, inN 150, inN 0, inN 20, inN 40, inN 50, inN 100, inN 150, inN 0, inN 20, inN 40, inN 50] 77 (0, 0))], 83, .tuple #[.slice (some ⟨106, 0, none⟩) 3 6, inN 0], [(106, .cells #[inN 70, inN 80, inN 360, inN 950, inN 0, inN 0, inN 20, inN 70, inN 324, inN 950, inN 0, inN 0, inN 0, inN 60, inN 481, inN 950, inN 0, inN 0] 56 (0, 0))], 1527⟩
theorem m16_83_ok : isMemo m16_83 (m16_83.run Tryd.prog goFns orcFol 100000) = true := by decide +kernel
end Go.CE
