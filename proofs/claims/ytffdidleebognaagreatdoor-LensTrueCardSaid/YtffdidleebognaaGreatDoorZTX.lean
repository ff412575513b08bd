/- LensTrue holds: for every islet, number of tanks and truth, motulaw01.LensTrue returns true and leaves its arguments as they were.
   Conditions: those of the row alone (the package-level tables of math/bits and internal/strconv start as the program's text lays them: tied). -/
import Derived.Test.YtffdidleebognaaGreatDoorZT49
import Derived.Test.YtffdidleebognaaGreatDoorZT50
namespace Go.Proofs.YtffdidleebognaaGreatDoor
theorem lensTrue_holds : Rows.LensTrueCardSaid := lensTrue_card true_walk
#print axioms lensTrue_holds
end Go.Proofs.YtffdidleebognaaGreatDoor
