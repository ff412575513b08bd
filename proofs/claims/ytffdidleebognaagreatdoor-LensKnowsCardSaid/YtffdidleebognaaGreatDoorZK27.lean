/- Contract of Play. -/
import Derived.Test.YtffdidleebognaaGreatDoorZK23
import Derived.Test.YtffdidleebognaaGreatDoorZK26
import Derived.Test.YtffdidleebognaaGreatDoorZK19
namespace Go.Proofs.YtffdidleebognaaGreatDoor
open Go Go.RowKit Lens
end Go.Proofs.YtffdidleebognaaGreatDoor
