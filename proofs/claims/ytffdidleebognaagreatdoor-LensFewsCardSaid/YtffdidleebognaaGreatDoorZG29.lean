/- Contract of the reference's SameSeen, at two lists that are equal. -/
import Derived.Test.YtffdidleebognaaGreatDoorZG18
import Derived.Test.YtffdidleebognaaGreatDoorZG11
import Derived.Test.YtffdidleebognaaGreatDoorZG10
namespace Go.Proofs.YtffdidleebognaaGreatDoor
open Go Go.RowKit Lens
end Go.Proofs.YtffdidleebognaaGreatDoor
