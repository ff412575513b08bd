/- Contract of the reference's SameSeen, at two lists that are equal. -/
import Derived.Test.YtffdidleebognaaGreatDoorZF18
import Derived.Test.YtffdidleebognaaGreatDoorZF11
import Derived.Test.YtffdidleebognaaGreatDoorZF10
namespace Go.Proofs.YtffdidleebognaaGreatDoor
open Go Go.RowKit Lens
end Go.Proofs.YtffdidleebognaaGreatDoor
