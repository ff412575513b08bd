/- LensFews holds: for every islet, motulaw01.LensFews returns true and leaves its arguments as they were.
   Conditions: those of the row alone (the package-level tables of math/bits and internal/strconv start as the program's text lays them: tied). -/
import Derived.Test.YtffdidleebognaaGreatDoorZG51
import Derived.Test.YtffdidleebognaaGreatDoorZG52
namespace Go.Proofs.YtffdidleebognaaGreatDoor
theorem lensFews_holds : Rows.LensFewsCardSaid := lensFews_card fews_walk
#print axioms lensFews_holds
end Go.Proofs.YtffdidleebognaaGreatDoor
