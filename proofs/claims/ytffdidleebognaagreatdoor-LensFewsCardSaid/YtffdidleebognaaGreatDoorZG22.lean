/- Contract of the law's asked. -/
import Derived.Test.YtffdidleebognaaGreatDoorZG21
namespace Go.Proofs.YtffdidleebognaaGreatDoor
open Go Go.RowKit Lens
end Go.Proofs.YtffdidleebognaaGreatDoor
