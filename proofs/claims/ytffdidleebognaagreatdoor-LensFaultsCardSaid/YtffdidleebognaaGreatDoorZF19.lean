/- Contract of isTruth. -/
import Derived.Test.YtffdidleebognaaGreatDoorZF18
import Derived.Test.YtffdidleebognaaGreatDoorZF16
import Derived.Test.YtffdidleebognaaGreatDoorZF10
namespace Go.Proofs.YtffdidleebognaaGreatDoor
open Go Go.RowKit Lens
end Go.Proofs.YtffdidleebognaaGreatDoor
