/- Contract of Play. -/
import Derived.Test.YtffdidleebognaaGreatDoorZG23
import Derived.Test.YtffdidleebognaaGreatDoorZG26
import Derived.Test.YtffdidleebognaaGreatDoorZG19
namespace Go.Proofs.YtffdidleebognaaGreatDoor
open Go Go.RowKit Lens
end Go.Proofs.YtffdidleebognaaGreatDoor
