/- Contract of the reference's Truth. -/
import Derived.Test.YticgnoekpggppaaDoorZF17
import Derived.Test.YticgnoekpggppaaDoorZF18
import Derived.Test.YticgnoekpggppaaDoorZF19
namespace Go.Proofs.YticgnoekpggppaaDoor
open Go Go.RowKit Lens
end Go.Proofs.YticgnoekpggppaaDoor
