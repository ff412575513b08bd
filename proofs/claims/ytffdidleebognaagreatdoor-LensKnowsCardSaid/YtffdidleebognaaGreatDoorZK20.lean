/- Contract of the reference's Truth. -/
import Derived.Test.YtffdidleebognaaGreatDoorZK17
import Derived.Test.YtffdidleebognaaGreatDoorZK18
import Derived.Test.YtffdidleebognaaGreatDoorZK19
namespace Go.Proofs.YtffdidleebognaaGreatDoor
open Go Go.RowKit Lens
end Go.Proofs.YtffdidleebognaaGreatDoor
