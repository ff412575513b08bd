/- Contracts of the reference's small functions. -/
import Derived.Test.YtffdidleebognaaGreatDoorZG09
namespace Go.Proofs.YtffdidleebognaaGreatDoor
open Go Go.RowKit Lens
theorem rin_any (n lo hi : Int) (w : World) : Calls Tryz.prog 39 #[.int .i64 n, .int .i64 lo, .int .i64 hi] w
   fun e w' => e = .returned (.bool (isInB n lo hi)) ∧ w = w' := by
  go_enter Tryz.func39, Tryz.ntmps39
  go_wp2
  all_goals go_ret
  all_goals exact ⟨ret_bool (by first | rw [isInB_t (by assumption)] | rw [isInB_f (by assumption)]), rfl⟩
theorem rSpan_any (lo hi m : Int) (w : World) : Calls Tryz.prog 40 #[.agg #[.int .i64 lo, .int .i64 hi], .int .i64 m] w
   fun e w' => e = .returned (.bool (isSpanB lo hi m)) ∧ Below w.heap.size w w' := by
  go_enter Tryz.func40, Tryz.ntmps40
  go_wp2
  all_goals go_ret
  all_goals refine ⟨ret_bool ?_, (Below.refl _ _).alloc (Nat.le_refl _) _⟩
  all_goals simp [isSpanB]
  all_goals omega
theorem rRain_any (m : Mon) (d : Bool) (w : World) : Calls Tryz.prog 46 #[.agg #[.int .i64 m.wl, .int .i64 m.wh, .int .i64 m.dl, .int .i64 m.dh, .int .i64 m.nl, .int .i64 m.nh], .bool d] w
   fun e' w' => e' = .returned (.agg #[.int .i64 (rlo m d), .int .i64 (rhi m d)]) ∧ Below w.heap.size w w' := by
  cases d
  all_goals
    go_enter Tryz.func46, Tryz.ntmps46
    go_wp2
    refine bodyPost_ret (v := .agg #[.int .i64 (rlo m _), .int .i64 (rhi m _)]) (by simp [results, Tryz.results46, go_sem, rlo, rhi]) rfl ⟨rfl, ?_⟩
    repeat (first | with_reducible exact Below.refl _ _ | with_reducible assumption | with_reducible apply b_undrew | with_reducible apply b_drew | with_reducible apply b_alloc | with_reducible apply b_set | (show (_ : Nat) ≤ _; first | exact Nat.le_refl _ | focus (simp; done) | omega | (simp; omega)) | (refine Below.trans ?_ (Below.mono (by with_reducible assumption) ?_)))
def shortB (i : Isl) : Bool := decide (i.nw ≤ 10) && decide (i.nm ≤ 12)
theorem short_any (i : Isl) (wa : Option Addr) (wc : Nat) (ma : Option Addr) (mc : Nat) (w : World) : Calls Tryz.prog 18 #[islV i wa wc ma mc] w
   fun e' w' => e' = .returned (.bool (shortB i)) ∧ Below w.heap.size w w' := by
  unfold islV
  go_enter Tryz.func18, Tryz.ntmps18
  go_wp2
  all_goals go_ret
  all_goals refine ⟨ret_bool ?_, (Below.refl _ _).alloc (Nat.le_refl _) _⟩
  all_goals rw [Bool.eq_iff_iff]
  all_goals simp [shortB]
  all_goals omega
end Go.Proofs.YtffdidleebognaaGreatDoor
