/- Contract of the reference's SameSeen, at two lists that are equal. -/
import Derived.Test.YtffdidleebognaaGreatDoorZT17
import Derived.Test.YtffdidleebognaaGreatDoorZT10
import Derived.Test.YtffdidleebognaaGreatDoorZT09
namespace Go.Proofs.YtffdidleebognaaGreatDoor
open Go Go.RowKit Lens
end Go.Proofs.YtffdidleebognaaGreatDoor
