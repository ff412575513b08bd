/- Contract of the reference's Drought. -/
import Derived.Test.YtffdidleebognaaDoorZR15
import Derived.Test.YtffdidleebognaaDoorZR16
namespace Go.Proofs.YtffdidleebognaaDoor
open Go Go.RowKit Lens
end Go.Proofs.YtffdidleebognaaDoor
