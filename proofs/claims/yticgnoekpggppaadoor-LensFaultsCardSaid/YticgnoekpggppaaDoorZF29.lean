/- Contract of the reference's SameSeen, at two lists that are equal. -/
import Derived.Test.YticgnoekpggppaaDoorZF18
import Derived.Test.YticgnoekpggppaaDoorZF11
import Derived.Test.YticgnoekpggppaaDoorZF10
namespace Go.Proofs.YticgnoekpggppaaDoor
open Go Go.RowKit Lens
end Go.Proofs.YticgnoekpggppaaDoor
