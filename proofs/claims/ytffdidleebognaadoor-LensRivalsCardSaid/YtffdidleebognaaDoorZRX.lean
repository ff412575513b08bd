/- LensRivals holds: for every islet and number of tanks, motulaw01.LensRivals returns true and leaves its arguments as they were.
   Conditions: those of the row alone (the package-level tables of math/bits and internal/strconv start as the program's text lays them: tied). -/
import Derived.Test.YtffdidleebognaaDoorZR49
import Derived.Test.YtffdidleebognaaDoorZR50
namespace Go.Proofs.YtffdidleebognaaDoor
theorem lensRivals_holds : Rows.LensRivalsCardSaid := lensRivals_card rivals_walk
#print axioms lensRivals_holds
end Go.Proofs.YtffdidleebognaaDoor
