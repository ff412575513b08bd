/- Contract of isTruth. -/
import Derived.Test.YtffdidleebognaaGreatDoorZK18
import Derived.Test.YtffdidleebognaaGreatDoorZK16
import Derived.Test.YtffdidleebognaaGreatDoorZK10
namespace Go.Proofs.YtffdidleebognaaGreatDoor
open Go Go.RowKit Lens
end Go.Proofs.YtffdidleebognaaGreatDoor
