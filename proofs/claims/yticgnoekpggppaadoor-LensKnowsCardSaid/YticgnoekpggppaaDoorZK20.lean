/- Contract of the reference's Truth. -/
import Derived.Test.YticgnoekpggppaaDoorZK17
import Derived.Test.YticgnoekpggppaaDoorZK18
import Derived.Test.YticgnoekpggppaaDoorZK19
namespace Go.Proofs.YticgnoekpggppaaDoor
open Go Go.RowKit Lens
end Go.Proofs.YticgnoekpggppaaDoor
