/- Contract of the reference's SameSeen, at two lists that are equal. -/
import Derived.Test.YtffdidleebognaaDoorZR18
import Derived.Test.YtffdidleebognaaDoorZR11
import Derived.Test.YtffdidleebognaaDoorZR10
namespace Go.Proofs.YtffdidleebognaaDoor
open Go Go.RowKit Lens
end Go.Proofs.YtffdidleebognaaDoor
