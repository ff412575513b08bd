/- Contract of bounds.None. -/
import Derived.Test.YtffdidleebognaaGreatDoorZF45
namespace Go.Proofs.YtffdidleebognaaGreatDoor
open Go Go.RowKit Lens
end Go.Proofs.YtffdidleebognaaGreatDoor
