/- Contract of Play. -/
import Derived.Test.YticgnoekpggppaaDoorZRi23
import Derived.Test.YticgnoekpggppaaDoorZRi26
import Derived.Test.YticgnoekpggppaaDoorZRi19
namespace Go.Proofs.YticgnoekpggppaaDoor
open Go Go.RowKit Lens
end Go.Proofs.YticgnoekpggppaaDoor
