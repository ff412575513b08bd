/- Contract of Play, of what is as defined. -/
import Derived.Test.YtffdidleebognaaGreatDoorZG27
namespace Go.Proofs.YtffdidleebognaaGreatDoor
open Go Go.RowKit Lens
end Go.Proofs.YtffdidleebognaaGreatDoor
