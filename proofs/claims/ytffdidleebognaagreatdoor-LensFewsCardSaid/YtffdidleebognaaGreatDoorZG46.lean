/- Contract of bounds.None. -/
import Derived.Test.YtffdidleebognaaGreatDoorZG45
namespace Go.Proofs.YtffdidleebognaaGreatDoor
open Go Go.RowKit Lens
end Go.Proofs.YtffdidleebognaaGreatDoor
