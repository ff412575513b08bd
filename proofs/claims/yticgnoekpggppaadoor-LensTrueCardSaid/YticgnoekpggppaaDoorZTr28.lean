/- Contract of the reference's SameSeen, at two lists that are equal. -/
import Derived.Test.YticgnoekpggppaaDoorZTr17
import Derived.Test.YticgnoekpggppaaDoorZTr10
import Derived.Test.YticgnoekpggppaaDoorZTr09
namespace Go.Proofs.YticgnoekpggppaaDoor
open Go Go.RowKit Lens
end Go.Proofs.YticgnoekpggppaaDoor
