/- Contracts of wrong and of the comparisons. -/
import Derived.Deep.RegionHeld3
import Derived.Test.YtffdidleebognaaGreatDoorZK09
import Derived.Test.YtffdidleebognaaGreatDoorZK10
namespace Go.Proofs.YtffdidleebognaaGreatDoor
open Go Go.RowKit Lens
def encSeen (s : Lens.Seen) : Nat → Value
  | 0 => .int .i64 s.tanks | 1 => .int .i64 s.lens | _ => .int .i64 s.lack
abbrev SeensAt := AtN 3 encSeen
end Go.Proofs.YtffdidleebognaaGreatDoor
