/- Contract of the reference's Truth. -/
import Derived.Test.YticgnoekpggppaaDoorZRi17
import Derived.Test.YticgnoekpggppaaDoorZRi18
import Derived.Test.YticgnoekpggppaaDoorZRi19
namespace Go.Proofs.YticgnoekpggppaaDoor
open Go Go.RowKit Lens
end Go.Proofs.YticgnoekpggppaaDoor
