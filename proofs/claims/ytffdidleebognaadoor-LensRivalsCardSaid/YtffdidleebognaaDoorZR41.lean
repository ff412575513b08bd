/- lens: the chapter's log as a text. -/
import Derived.Test.YtffdidleebognaaDoorZR13
import Derived.Test.YtffdidleebognaaDoorZR32
namespace Go.CE
open Go Go.RowKit Go.Proofs
def m14_4438 : Memo :=
  ⟨14, #[.slice (some ⟨4437, 0, none⟩) 2 4], [(4437, .cells #[inN 0, inN 1, inN 250, inN 90, inN 2, inN 0, inN 1400, inN 85] 55 (0, 0))], 4438, .tuple #[.string ⟨#[48, 32, 49, 32, 50, 53, 48, 32, 57, 48, 10, 50, 32, 48, 32, 49, 52, 48, 48, 32, 56, 53, 10, 101, 110, 100, 32, 103, 102, 10]⟩, inN 0], [], 4457⟩
theorem m14_4438_ok : isMemo m14_4438 (m14_4438.run Tryd.prog goFns strOrc 100000) = true := by decide +kernel
end Go.CE
