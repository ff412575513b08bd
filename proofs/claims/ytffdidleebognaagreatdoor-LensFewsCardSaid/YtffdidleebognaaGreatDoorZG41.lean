/- lens: the chapter's log as a text. -/
import Derived.Test.YtffdidleebognaaGreatDoorZG13
import Derived.Test.YtffdidleebognaaGreatDoorZG32
namespace Go.CE
open Go Go.RowKit Go.Proofs
def m34_4438 : Memo :=
  ⟨34, #[.slice (some ⟨4437, 0, none⟩) 2 4], [(4437, .cells #[inN 0, inN 1, inN 250, inN 90, inN 2, inN 0, inN 1400, inN 85] 75 (0, 0))], 4438, .tuple #[.string ⟨#[48, 32, 49, 32, 50, 53, 48, 32, 57, 48, 10, 50, 32, 48, 32, 49, 52, 48, 48, 32, 56, 53, 10, 101, 110, 100, 32, 103, 102, 10]⟩, inN 0], [], 4457⟩
theorem m34_4438_ok : isMemo m34_4438 (m34_4438.run Tryz.prog goFns strOrc 100000) = true := by decide +kernel
end Go.CE
