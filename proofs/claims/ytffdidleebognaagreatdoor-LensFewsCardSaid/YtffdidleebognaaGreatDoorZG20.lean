/- Contract of the reference's Truth. -/
import Derived.Test.YtffdidleebognaaGreatDoorZG17
import Derived.Test.YtffdidleebognaaGreatDoorZG18
import Derived.Test.YtffdidleebognaaGreatDoorZG19
namespace Go.Proofs.YtffdidleebognaaGreatDoor
open Go Go.RowKit Lens
end Go.Proofs.YtffdidleebognaaGreatDoor
