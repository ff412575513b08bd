/- Contract of Play, of what is as defined. -/
import Derived.Test.YtffdidleebognaaDoorZR27
namespace Go.Proofs.YtffdidleebognaaDoor
open Go Go.RowKit Lens
end Go.Proofs.YtffdidleebognaaDoor
