/- lens: what is known of the chapter's islet with 12 tanks. -/
import Derived.Test.YtffdidleebognaaDoorZR35
namespace Go.CE
open Go Go.RowKit Go.Proofs
def m13_95 : Memo :=
  ⟨13, #[.agg #[inN 1000, inN 400, inN 600, inN 200, inN 10000, inN 300, inN 400, inN 50, inN 100, inN 30, inN 250, inN 10, .slice (some ⟨93, 0, none⟩) 2 1, .slice (some ⟨94, 0, none⟩) 3 6, inN 2, inN 2], inN 12], [(93, .cells #[inN 200, inN 300] 3 (0, 0)), (94, .cells #[inN 100, inN 150, inN 0, inN 20, inN 40, inN 50, inN 100, inN 150, inN 0, inN 20, inN 40, inN 50, inN 100, inN 150, inN 0, inN 20, inN 40, inN 50] 70 (0, 0))], 95, .tuple #[.slice (some ⟨129, 0, none⟩) 3 6, inN 0], [(129, .cells #[inN 70, inN 80, inN 360, inN 950, inN 0, inN 0, inN 20, inN 70, inN 324, inN 950, inN 0, inN 0, inN 0, inN 60, inN 481, inN 950, inN 0, inN 0] 63 (0, 0))], 1811⟩
theorem m13_95_ok : isMemo m13_95 (m13_95.run Tryd.prog goFns orcFol 100000) = true := by decide +kernel
end Go.CE
