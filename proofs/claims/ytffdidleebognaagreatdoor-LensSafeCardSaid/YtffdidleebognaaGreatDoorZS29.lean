/- Contract of the reference's SameSeen, at two lists that are equal. -/
import Derived.Test.YtffdidleebognaaGreatDoorZS18
import Derived.Test.YtffdidleebognaaGreatDoorZS11
import Derived.Test.YtffdidleebognaaGreatDoorZS10
namespace Go.Proofs.YtffdidleebognaaGreatDoor
open Go Go.RowKit Lens
end Go.Proofs.YtffdidleebognaaGreatDoor
