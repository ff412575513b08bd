/- Contract of bounds.None. -/
import Derived.Test.YtffdidleebognaaDoorZR45
namespace Go.Proofs.YtffdidleebognaaDoor
open Go Go.RowKit Lens
end Go.Proofs.YtffdidleebognaaDoor
