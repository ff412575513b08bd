/- Contract of the reference's SameSeen, at two lists that are equal. -/
import Derived.Test.YtffdidleebognaaGreatDoorZK18
import Derived.Test.YtffdidleebognaaGreatDoorZK11
import Derived.Test.YtffdidleebognaaGreatDoorZK10
namespace Go.Proofs.YtffdidleebognaaGreatDoor
open Go Go.RowKit Lens
end Go.Proofs.YtffdidleebognaaGreatDoor
