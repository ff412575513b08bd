/- Contract of the law's asked. -/
import Derived.Test.YtffdidleebognaaDoorZR21
namespace Go.Proofs.YtffdidleebognaaDoor
open Go Go.RowKit Lens
set_option maxHeartbeats 1000000 in
theorem asked_any (i : Isl) (wa : Option Addr) (wc : Nat) (ma : Option Addr) (mc : Nat) (n : Int) (w : World) (hi : IslAt w w.heap.size i wa ma) : Calls Tryd.prog 5 #[islV i wa wc ma mc, .int .i64 n] w
   fun e' w' => e' = .returned (.bool (islB i && tanksB n)) ∧ Below w.heap.size w w' := by
  have hi1 : ∀ X, IslAt (w.alloc X) (w.heap.size + 1) i wa ma := fun X => hi.below (alloc_below w X) (by omega)
  have HI := Lib.hid hi1; clear hi1
  have HC := rIslet_any i wa wc ma mc
  unfold islV at *
  have HC := Lib.hid HC
  go_enter Tryd.func5, Tryd.ntmps5
  go_wp2_with fail
  refine (calls_from (B := w.heap.size + 1) (HC.out _ ((HI.out _).below (Below.refl _ _) (by simp))) (by exact Below.refl _ _) (by simp)).mono ?_
  rintro e' w' ⟨rfl, hb, hz, hc⟩
  cases h1 : islB i
  · have H1 := Lib.hid h1; clear h1
    go_wp2
    go_ret
    exact ⟨ret_bool (by simp [H1.out]), (alloc_below _ _).trans (hb.mono (by omega))⟩
  have H1 := Lib.hid h1; clear h1
  go_wp2_with fail
  refine (rTanks_any _ _).mono ?_
  rintro e' w' ⟨rfl, rfl⟩
  go_wp2
  go_ret
  exact ⟨ret_bool (by simp [H1.out]), (alloc_below _ _).trans (hb.mono (by omega))⟩
end Go.Proofs.YtffdidleebognaaDoor
