/- Contract of the reference's SameSeen, at two lists that are equal. -/
import Derived.Test.YticgnoekpggppaaDoorZRi18
import Derived.Test.YticgnoekpggppaaDoorZRi11
import Derived.Test.YticgnoekpggppaaDoorZRi10
namespace Go.Proofs.YticgnoekpggppaaDoor
open Go Go.RowKit Lens
end Go.Proofs.YticgnoekpggppaaDoor
