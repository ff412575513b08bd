/- Contract of Play. -/
import Derived.Test.YticgnoekpggppaaDoorZTr22
import Derived.Test.YticgnoekpggppaaDoorZTr25
import Derived.Test.YticgnoekpggppaaDoorZTr18
namespace Go.Proofs.YticgnoekpggppaaDoor
open Go Go.RowKit Lens
theorem three_below (w : World) (X Y Z : Obj) : Below w.heap.size w (((w.alloc X).alloc Y).alloc Z) := b_alloc (two_below _ _ _) (by simp; omega)
end Go.Proofs.YticgnoekpggppaaDoor
