/- LensSafe holds: for every islet, number of tanks and truth, motulaw01.LensSafe returns true and leaves its arguments as they were.
   Conditions: those of the row alone (the package-level tables of math/bits and internal/strconv start as the program's text lays them: tied). -/
import Derived.Test.YtffdidleebognaaGreatDoorZS50
import Derived.Test.YtffdidleebognaaGreatDoorZS51
namespace Go.Proofs.YtffdidleebognaaGreatDoor
theorem lensSafe_holds : Rows.LensSafeCardSaid := lensSafe_card safe_walk
#print axioms lensSafe_holds
end Go.Proofs.YtffdidleebognaaGreatDoor
