/- Contract of the reference's Truth. -/
import Derived.Test.YtffdidleebognaaGreatDoorZF17
import Derived.Test.YtffdidleebognaaGreatDoorZF18
import Derived.Test.YtffdidleebognaaGreatDoorZF19
namespace Go.Proofs.YtffdidleebognaaGreatDoor
open Go Go.RowKit Lens
end Go.Proofs.YtffdidleebognaaGreatDoor
