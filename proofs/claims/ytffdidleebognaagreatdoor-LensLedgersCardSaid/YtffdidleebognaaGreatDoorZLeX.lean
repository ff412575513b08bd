/- LensLedgers holds: for every islet, number of tanks and truth, motulaw01.LensLedgers returns true and leaves its arguments as they were.
   Conditions: those of the row alone (the package-level tables of math/bits and internal/strconv start as the program's text lays them: tied). -/
import Derived.Test.YtffdidleebognaaGreatDoorZLe37
import Derived.Test.YtffdidleebognaaGreatDoorZLe39
namespace Go.Proofs.YtffdidleebognaaGreatDoor
theorem lensLedgers_holds : Rows.LensLedgersCardSaid := lensLedgers_card ledgers_walk
#print axioms lensLedgers_holds
end Go.Proofs.YtffdidleebognaaGreatDoor
