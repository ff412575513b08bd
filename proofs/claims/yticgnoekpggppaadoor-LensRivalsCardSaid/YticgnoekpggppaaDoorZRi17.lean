/- Contract of the reference's Drought. -/
import Derived.Test.YticgnoekpggppaaDoorZRi15
import Derived.Test.YticgnoekpggppaaDoorZRi16
namespace Go.Proofs.YticgnoekpggppaaDoor
open Go Go.RowKit Lens
end Go.Proofs.YticgnoekpggppaaDoor
