/- LensFaults holds: for every islet and number of tanks, motulaw01.LensFaults returns true and leaves its arguments as they were.
   Conditions: those of the row alone (the package-level tables of math/bits and internal/strconv start as the program's text lays them: tied). -/
import Derived.Test.YtffdidleebognaaGreatDoorZF50
import Derived.Test.YtffdidleebognaaGreatDoorZF51
namespace Go.Proofs.YtffdidleebognaaGreatDoor
theorem lensFaults_holds : Rows.LensFaultsCardSaid := lensFaults_card faults_walk
#print axioms lensFaults_holds
end Go.Proofs.YtffdidleebognaaGreatDoor
