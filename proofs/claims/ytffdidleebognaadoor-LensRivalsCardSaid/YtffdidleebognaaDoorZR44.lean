/- Contracts of the comparisons, of the functions on one month's end, and of bounds. -/
import Derived.Test.YtffdidleebognaaDoorZR11
namespace Go.Proofs.YtffdidleebognaaDoor
open Go Go.RowKit Lens
theorem endTanks_any (s : Seen) (w : World) : Calls Tryd.prog 62 #[.agg #[.int .i64 s.tanks, .int .i64 s.lens, .int .i64 s.lack]] w
   fun e' w' => e' = .returned (.int .i64 s.tanks) ∧ Below w.heap.size w w' := by
  go_enter Tryd.func62, Tryd.ntmps62
  go_wp2
  go_ret
  exact ⟨rfl, alloc_below _ _⟩
theorem endLens_any (s : Seen) (w : World) : Calls Tryd.prog 63 #[.agg #[.int .i64 s.tanks, .int .i64 s.lens, .int .i64 s.lack]] w
   fun e' w' => e' = .returned (.int .i64 s.lens) ∧ Below w.heap.size w w' := by
  go_enter Tryd.func63, Tryd.ntmps63
  go_wp2
  go_ret
  exact ⟨rfl, alloc_below _ _⟩
theorem endLack_any (s : Seen) (w : World) : Calls Tryd.prog 64 #[.agg #[.int .i64 s.tanks, .int .i64 s.lens, .int .i64 s.lack]] w
   fun e' w' => e' = .returned (.int .i64 s.lack) ∧ Below w.heap.size w w' := by
  go_enter Tryd.func64, Tryd.ntmps64
  go_wp2
  go_ret
  exact ⟨rfl, alloc_below _ _⟩
end Go.Proofs.YtffdidleebognaaDoor
