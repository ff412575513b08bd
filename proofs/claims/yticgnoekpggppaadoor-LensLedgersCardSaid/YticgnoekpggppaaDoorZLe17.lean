/- Contract of Play. -/
import Derived.Test.YticgnoekpggppaaDoorZLe12
import Derived.Test.YticgnoekpggppaaDoorZLe16
import Derived.Test.YticgnoekpggppaaDoorZLe08
namespace Go.Proofs.YticgnoekpggppaaDoor
open Go Go.RowKit Lens
theorem three_below (w : World) (X Y Z : Obj) : Below w.heap.size w (((w.alloc X).alloc Y).alloc Z) := b_alloc (two_below _ _ _) (by simp; omega)
end Go.Proofs.YticgnoekpggppaaDoor
