/- Contract of Play. -/
import Derived.Test.YtffdidleebognaaGreatDoorZF23
import Derived.Test.YtffdidleebognaaGreatDoorZF26
import Derived.Test.YtffdidleebognaaGreatDoorZF19
namespace Go.Proofs.YtffdidleebognaaGreatDoor
open Go Go.RowKit Lens
end Go.Proofs.YtffdidleebognaaGreatDoor
