/- Contracts of the comparisons, of the functions on one month's end, and of bounds. -/
import Derived.Test.YtffdidleebognaaGreatDoorZG11
namespace Go.Proofs.YtffdidleebognaaGreatDoor
open Go Go.RowKit Lens
theorem endTanks_any (s : Seen) (w : World) : Calls Tryz.prog 81 #[.agg #[.int .i64 s.tanks, .int .i64 s.lens, .int .i64 s.lack]] w
   fun e' w' => e' = .returned (.int .i64 s.tanks) ∧ Below w.heap.size w w' := by
  go_enter Tryz.func81, Tryz.ntmps81
  go_wp2
  go_ret
  exact ⟨rfl, alloc_below _ _⟩
theorem endLens_any (s : Seen) (w : World) : Calls Tryz.prog 82 #[.agg #[.int .i64 s.tanks, .int .i64 s.lens, .int .i64 s.lack]] w
   fun e' w' => e' = .returned (.int .i64 s.lens) ∧ Below w.heap.size w w' := by
  go_enter Tryz.func82, Tryz.ntmps82
  go_wp2
  go_ret
  exact ⟨rfl, alloc_below _ _⟩
theorem endLack_any (s : Seen) (w : World) : Calls Tryz.prog 83 #[.agg #[.int .i64 s.tanks, .int .i64 s.lens, .int .i64 s.lack]] w
   fun e' w' => e' = .returned (.int .i64 s.lack) ∧ Below w.heap.size w w' := by
  go_enter Tryz.func83, Tryz.ntmps83
  go_wp2
  go_ret
  exact ⟨rfl, alloc_below _ _⟩
end Go.Proofs.YtffdidleebognaaGreatDoor
