/- Contract of isTruth. -/
import Derived.Test.YticgnoekpggppaaDoorZF18
import Derived.Test.YticgnoekpggppaaDoorZF16
import Derived.Test.YticgnoekpggppaaDoorZF10
namespace Go.Proofs.YticgnoekpggppaaDoor
open Go Go.RowKit Lens
end Go.Proofs.YticgnoekpggppaaDoor
