/- Contract of isTruth. -/
import Derived.Test.YticgnoekpggppaaDoorZK18
import Derived.Test.YticgnoekpggppaaDoorZK16
import Derived.Test.YticgnoekpggppaaDoorZK10
namespace Go.Proofs.YticgnoekpggppaaDoor
open Go Go.RowKit Lens
end Go.Proofs.YticgnoekpggppaaDoor
