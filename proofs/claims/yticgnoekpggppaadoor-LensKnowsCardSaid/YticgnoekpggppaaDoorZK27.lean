/- Contract of Play. -/
import Derived.Test.YticgnoekpggppaaDoorZK23
import Derived.Test.YticgnoekpggppaaDoorZK26
import Derived.Test.YticgnoekpggppaaDoorZK19
namespace Go.Proofs.YticgnoekpggppaaDoor
open Go Go.RowKit Lens
end Go.Proofs.YticgnoekpggppaaDoor
