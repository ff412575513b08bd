/- Contract of bounds.None. -/
import Derived.Test.YtffdidleebognaaGreatDoorZK45
namespace Go.Proofs.YtffdidleebognaaGreatDoor
open Go Go.RowKit Lens
theorem none_any (w : World) : Calls Tryz.prog 56 #[] w
   fun e' w' => e' = .returned (.agg #[.int .i64 9223372036854775807, .int .i64 (-9223372036854775808)]) ∧ Below w.heap.size w w' := by
  go_enter Tryz.func56, Tryz.ntmps56
  go_wp2
  refine bodyPost_ret (v := .agg #[.int .i64 9223372036854775807, .int .i64 (-9223372036854775808)]) (by simp [results, Tryz.results56, go_sem]) rfl ⟨rfl, ?_⟩
  repeat (first | with_reducible exact Below.refl _ _ | with_reducible assumption | with_reducible apply b_undrew | with_reducible apply b_drew | with_reducible apply b_alloc | with_reducible apply b_set | (show (_ : Nat) ≤ _; first | exact Nat.le_refl _ | focus (simp; done) | omega | (simp; omega)) | (refine Below.trans ?_ (Below.mono (by with_reducible assumption) ?_)))
end Go.Proofs.YtffdidleebognaaGreatDoor
