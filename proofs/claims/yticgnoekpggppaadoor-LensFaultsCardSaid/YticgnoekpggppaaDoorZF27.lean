/- Contract of Play. -/
import Derived.Test.YticgnoekpggppaaDoorZF23
import Derived.Test.YticgnoekpggppaaDoorZF26
import Derived.Test.YticgnoekpggppaaDoorZF19
namespace Go.Proofs.YticgnoekpggppaaDoor
open Go Go.RowKit Lens
end Go.Proofs.YticgnoekpggppaaDoor
