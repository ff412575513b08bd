/- Contract of the reference's Truth. -/
import Derived.Test.YtffdidleebognaaDoorZR17
import Derived.Test.YtffdidleebognaaDoorZR18
import Derived.Test.YtffdidleebognaaDoorZR19
namespace Go.Proofs.YtffdidleebognaaDoor
open Go Go.RowKit Lens
end Go.Proofs.YtffdidleebognaaDoor
