/- LensPlays holds: for every islet, number of tanks and truth, motulaw01.LensPlays returns true and leaves its arguments as they were.
   Conditions: those of the row alone (the package-level tables of math/bits and internal/strconv start as the program's text lays them: tied). -/
import Derived.Test.YtffdidleebognaaGreatDoorZP42
import Derived.Test.YtffdidleebognaaGreatDoorZP43
namespace Go.Proofs.YtffdidleebognaaGreatDoor
theorem lensPlays_holds : Rows.LensPlaysCardSaid := lensPlays_card plays_walk
#print axioms lensPlays_holds
end Go.Proofs.YtffdidleebognaaGreatDoor
