/- Contract of Play, of what is as defined. -/
import Derived.Test.YticgnoekpggppaaDoorZF27
namespace Go.Proofs.YticgnoekpggppaaDoor
open Go Go.RowKit Lens
end Go.Proofs.YticgnoekpggppaaDoor
