/- Contracts of the reference's small functions. -/
import Derived.Test.YtffdidleebognaaDoorZR09
namespace Go.Proofs.YtffdidleebognaaDoor
open Go Go.RowKit Lens
theorem rin_any (n lo hi : Int) (w : World) : Calls Tryd.prog 23 #[.int .i64 n, .int .i64 lo, .int .i64 hi] w
   fun e w' => e = .returned (.bool (isInB n lo hi)) ∧ w = w' := by
  go_enter Tryd.func23, Tryd.ntmps23
  go_wp2
  all_goals go_ret
  all_goals exact ⟨ret_bool (by first | rw [isInB_t (by assumption)] | rw [isInB_f (by assumption)]), rfl⟩
theorem rTanks_any (n : Int) (w : World) : Calls Tryd.prog 9 #[.int .i64 n] w
   fun e w' => e = .returned (.bool (tanksB n)) ∧ w = w' := by
  go_enter Tryd.func9, Tryd.ntmps9
  go_wp2_with (go_at_call 23; refine (rin_any _ _ _ _).mono ?_; rintro e' w' ⟨rfl, rfl⟩)
  go_ret
  exact ⟨rfl, rfl⟩
theorem rSpan_any (lo hi m : Int) (w : World) : Calls Tryd.prog 24 #[.agg #[.int .i64 lo, .int .i64 hi], .int .i64 m] w
   fun e w' => e = .returned (.bool (isSpanB lo hi m)) ∧ Below w.heap.size w w' := by
  go_enter Tryd.func24, Tryd.ntmps24
  go_wp2
  all_goals go_ret
  all_goals refine ⟨ret_bool ?_, (Below.refl _ _).alloc (Nat.le_refl _) _⟩
  all_goals simp [isSpanB]
  all_goals omega
def shortB (i : Isl) : Bool := decide (i.nw ≤ 10) && decide (i.nm ≤ 12)
theorem short_any (i : Isl) (wa : Option Addr) (wc : Nat) (ma : Option Addr) (mc : Nat) (w : World) : Calls Tryd.prog 4 #[islV i wa wc ma mc] w
   fun e' w' => e' = .returned (.bool (shortB i)) ∧ Below w.heap.size w w' := by
  unfold islV
  go_enter Tryd.func4, Tryd.ntmps4
  go_wp2
  all_goals go_ret
  all_goals refine ⟨ret_bool ?_, (Below.refl _ _).alloc (Nat.le_refl _) _⟩
  all_goals rw [Bool.eq_iff_iff]
  all_goals simp [shortB]
  all_goals omega
end Go.Proofs.YtffdidleebognaaDoor
