/- Contract of the reference's SameSeen, at two lists that are equal. -/
import Derived.Test.YticgnoekpggppaaDoorZSa18
import Derived.Test.YticgnoekpggppaaDoorZSa11
import Derived.Test.YticgnoekpggppaaDoorZSa10
namespace Go.Proofs.YticgnoekpggppaaDoor
open Go Go.RowKit Lens
end Go.Proofs.YticgnoekpggppaaDoor
