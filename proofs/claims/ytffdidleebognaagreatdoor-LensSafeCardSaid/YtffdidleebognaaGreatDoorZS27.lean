/- Contract of Play. -/
import Derived.Test.YtffdidleebognaaGreatDoorZS23
import Derived.Test.YtffdidleebognaaGreatDoorZS26
import Derived.Test.YtffdidleebognaaGreatDoorZS19
namespace Go.Proofs.YtffdidleebognaaGreatDoor
open Go Go.RowKit Lens
theorem three_below (w : World) (X Y Z : Obj) : Below w.heap.size w (((w.alloc X).alloc Y).alloc Z) := b_alloc (two_below _ _ _) (by simp; omega)
end Go.Proofs.YtffdidleebognaaGreatDoor
