/- Contract of Play. -/
import Derived.Test.YtffdidleebognaaGreatDoorZP22
import Derived.Test.YtffdidleebognaaGreatDoorZP25
import Derived.Test.YtffdidleebognaaGreatDoorZP18
namespace Go.Proofs.YtffdidleebognaaGreatDoor
open Go Go.RowKit Lens
theorem three_below (w : World) (X Y Z : Obj) : Below w.heap.size w (((w.alloc X).alloc Y).alloc Z) := b_alloc (two_below _ _ _) (by simp; omega)
def playErr : Ending := .returned (.tuple #[.slice none 0 0, .agg #[.int .i64 0, .int .i64 0, .int .i64 0, .int .i64 0, .int .i64 0, .int .i64 0], .int .i64 2])
set_option maxRecDepth 100000 in
set_option maxHeartbeats 2000000 in
theorem play_no (i : Isl) (wa : Option Addr) (wc : Nat) (ma : Option Addr) (mc : Nat) (tanks : Int) (t : Tru) (da : Option Addr) (dc : Nat) (ra : Option Addr) (rc : Nat) (na : Option Addr) (nc : Nat) (w : World)
    (hi : IslAt w w.heap.size i wa ma) (ht : TruAt w w.heap.size t da ra na) (hno : (islB i && tanksB tanks && truB i t) = false) :
    Calls Tryz.prog 20 #[islV i wa wc ma mc, .int .i64 tanks, truV t da dc ra rc na nc] w
   fun e' w' => e' = playErr ∧ Below w.heap.size w w' := by
  have HI : ∀ X Y Z, IslAt (((w.alloc X).alloc Y).alloc Z) (w.heap.size + 3) i wa ma := fun X Y Z => hi.below (three_below w X Y Z) (by omega)
  have HT : ∀ X Y Z, TruAt (((w.alloc X).alloc Y).alloc Z) (w.heap.size + 3) t da ra na := fun X Y Z => ht.below (three_below w X Y Z) (by omega)
  have HI := Lib.hid HI
  have HT := Lib.hid HT
  have HC := isIslet_any i wa wc ma mc
  have HC2 := isTruth_any i wa wc ma mc t da dc ra rc na nc
  unfold islV truV at *
  have HC := Lib.hid HC
  have HC2 := Lib.hid HC2
  have HNO := Lib.hid hno
  clear hno
  go_enter Tryz.func20, Tryz.ntmps20
  go_wp2_with fail
  refine (calls_from (B := w.heap.size + 3) (HC.out _ ((HI.out _ _ _).below (Below.refl _ _) (by simp))) (by exact Below.refl _ _) (by simp)).mono ?_
  rintro e' w' ⟨rfl, hb, hz, hc⟩
  cases h1 : islB i
  · have H1 := Lib.hid h1; clear h1
    have hff := fun b o h => hb.frozen (p := ⟨b, o, none⟩) h
    go_wp2
    refine bodyPost_ret (v := .tuple #[.slice none 0 0, .agg #[.int .i64 0, .int .i64 0, .int .i64 0, .int .i64 0, .int .i64 0, .int .i64 0], .int .i64 2]) (by simp [results, Tryz.results20, go_sem, hc]) rfl ⟨rfl, ?_⟩
    have h3 := (three_below w _ _ _).trans (hb.mono (by omega))
    repeat (first | with_reducible exact Below.refl _ _ | with_reducible assumption | with_reducible apply b_undrew | with_reducible apply b_drew | with_reducible apply b_alloc | with_reducible apply b_set | (show (_ : Nat) ≤ _; first | exact Nat.le_refl _ | focus (simp; done) | omega | (simp; omega)) | (refine Below.trans ?_ (Below.mono (by with_reducible assumption) ?_)))
  have H1 := Lib.hid h1; clear h1
  go_wp2_with fail
  refine (areTanks_any _ _).mono ?_
  rintro e' w' ⟨rfl, rfl⟩
  cases h2 : tanksB tanks
  · have H2 := Lib.hid h2; clear h2
    have hff := fun b o h => hb.frozen (p := ⟨b, o, none⟩) h
    go_wp2
    refine bodyPost_ret (v := .tuple #[.slice none 0 0, .agg #[.int .i64 0, .int .i64 0, .int .i64 0, .int .i64 0, .int .i64 0, .int .i64 0], .int .i64 2]) (by simp [results, Tryz.results20, go_sem, hc]) rfl ⟨rfl, ?_⟩
    have h3 := (three_below w _ _ _).trans (hb.mono (by omega))
    repeat (first | with_reducible exact Below.refl _ _ | with_reducible assumption | with_reducible apply b_undrew | with_reducible apply b_drew | with_reducible apply b_alloc | with_reducible apply b_set | (show (_ : Nat) ≤ _; first | exact Nat.le_refl _ | focus (simp; done) | omega | (simp; omega)) | (refine Below.trans ?_ (Below.mono (by with_reducible assumption) ?_)))
  have H2 := Lib.hid h2; clear h2
  go_wp2_with fail
  refine (calls_from (B := w.heap.size + 3) (HC2.out _ ((HI.out _ _ _).below hb hz) ((HT.out _ _ _).below hb hz)) hb hz).mono ?_
  clear hb hz hc
  rintro e' w' ⟨rfl, hb, hz, hc⟩
  have h3 : truB i t = false := by
    have := HNO.out
    simpa [H1.out, H2.out] using this
  rw [h3]
  have H3 := Lib.hid h3; clear h3
  have hff := fun b o h => hb.frozen (p := ⟨b, o, none⟩) h
  go_wp2
  refine bodyPost_ret (v := .tuple #[.slice none 0 0, .agg #[.int .i64 0, .int .i64 0, .int .i64 0, .int .i64 0, .int .i64 0, .int .i64 0], .int .i64 2]) (by simp [results, Tryz.results20, go_sem, hc]) rfl ⟨rfl, ?_⟩
  have h3 := (three_below w _ _ _).trans (hb.mono (by omega))
  repeat (first | with_reducible exact Below.refl _ _ | with_reducible assumption | with_reducible apply b_undrew | with_reducible apply b_drew | with_reducible apply b_alloc | with_reducible apply b_set | (show (_ : Nat) ≤ _; first | exact Nat.le_refl _ | focus (simp; done) | omega | (simp; omega)) | (refine Below.trans ?_ (Below.mono (by with_reducible assumption) ?_)))
end Go.Proofs.YtffdidleebognaaGreatDoor
