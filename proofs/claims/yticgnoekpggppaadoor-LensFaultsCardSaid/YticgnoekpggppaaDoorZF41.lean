/- lens: the chapter's log as a text. -/
import Derived.Test.YticgnoekpggppaaDoorZF13
import Derived.Test.YticgnoekpggppaaDoorZF32
namespace Go.CE
open Go Go.RowKit Go.Proofs
def m42_4130 : Memo :=
  ⟨42, #[.slice (some ⟨4129, 0, none⟩) 2 4], [(4129, .cells #[inN 0, inN 1, inN 250, inN 90, inN 2, inN 0, inN 1400, inN 85] 85 (0, 0))], 4130, .tuple #[.string ⟨#[48, 32, 49, 32, 50, 53, 48, 32, 57, 48, 10, 50, 32, 48, 32, 49, 52, 48, 48, 32, 56, 53, 10, 101, 110, 100, 32, 103, 102, 10]⟩, inN 0], [], 4142⟩
theorem m42_4130_ok : isMemo m42_4130 (m42_4130.run Tryd.prog goFns strOrc 100000) = true := by decide +kernel
end Go.CE
