/- Contract of isTruth. -/
import Derived.Test.YtffdidleebognaaGreatDoorZG18
import Derived.Test.YtffdidleebognaaGreatDoorZG16
import Derived.Test.YtffdidleebognaaGreatDoorZG10
namespace Go.Proofs.YtffdidleebognaaGreatDoor
open Go Go.RowKit Lens
end Go.Proofs.YtffdidleebognaaGreatDoor
