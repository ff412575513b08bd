/- Contract of Play. -/
import Derived.Test.YtffdidleebognaaDoorZR23
import Derived.Test.YtffdidleebognaaDoorZR26
import Derived.Test.YtffdidleebognaaDoorZR19
namespace Go.Proofs.YtffdidleebognaaDoor
open Go Go.RowKit Lens
end Go.Proofs.YtffdidleebognaaDoor
