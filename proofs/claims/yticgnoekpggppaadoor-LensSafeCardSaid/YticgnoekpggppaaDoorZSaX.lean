/- LensSafe holds: for every islet, number of tanks and truth, motulaw01.LensSafe returns true and leaves its arguments as they were.
   Conditions: those of the row alone (the package-level tables of math/bits and internal/strconv start as the program's text lays them: tied). -/
import Derived.Test.YticgnoekpggppaaDoorZSa49
import Derived.Test.YticgnoekpggppaaDoorZSa50
namespace Go.Proofs.YticgnoekpggppaaDoor
theorem lensSafe_holds : Rows.LensSafeCardSaid := lensSafe_card safe_walk
#print axioms lensSafe_holds
end Go.Proofs.YticgnoekpggppaaDoor
