/- Contract of the reference's SameSeen, at two lists that are equal. -/
import Derived.Test.YticgnoekpggppaaDoorZK18
import Derived.Test.YticgnoekpggppaaDoorZK11
import Derived.Test.YticgnoekpggppaaDoorZK10
namespace Go.Proofs.YticgnoekpggppaaDoor
open Go Go.RowKit Lens
end Go.Proofs.YticgnoekpggppaaDoor
