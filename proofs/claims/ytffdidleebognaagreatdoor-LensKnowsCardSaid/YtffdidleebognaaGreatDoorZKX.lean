/- LensKnows holds: for every islet and number of tanks, motulaw01.LensKnows returns true and leaves its arguments as they were.
   Conditions: those of the row alone (the package-level tables of math/bits and internal/strconv start as the program's text lays them: tied). -/
import Derived.Test.YtffdidleebognaaGreatDoorZK50
import Derived.Test.YtffdidleebognaaGreatDoorZK51
namespace Go.Proofs.YtffdidleebognaaGreatDoor
theorem lensKnows_holds : Rows.LensKnowsCardSaid := lensKnows_card knows_walk
#print axioms lensKnows_holds
end Go.Proofs.YtffdidleebognaaGreatDoor
