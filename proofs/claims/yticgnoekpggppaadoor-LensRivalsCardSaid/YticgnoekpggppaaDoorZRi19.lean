/- Contract of isTruth. -/
import Derived.Test.YticgnoekpggppaaDoorZRi18
import Derived.Test.YticgnoekpggppaaDoorZRi16
import Derived.Test.YticgnoekpggppaaDoorZRi10
namespace Go.Proofs.YticgnoekpggppaaDoor
open Go Go.RowKit Lens
end Go.Proofs.YticgnoekpggppaaDoor
