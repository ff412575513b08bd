/- Contracts of widened, withEnd and of the comparisons. -/
import Derived.Test.YticgnoekpggppaaDoorZF44
namespace Go.Proofs.YticgnoekpggppaaDoor
open Go Go.RowKit Lens
theorem min_if (a b : Int) : (if b < a then b else a) = min a b := by omega
theorem max_if (a b : Int) : (if a < b then b else a) = max a b := by omega
theorem widenedTanks_any (lo hi : Int) (s : Seen) (w : World) :
    Calls Tryd.prog 81 #[.agg #[.int .i64 lo, .int .i64 hi], .agg #[.int .i64 s.tanks, .int .i64 s.lens, .int .i64 s.lack], .func (.func 82) #[] #[]] w
   fun e' w' => e' = .returned (.agg #[.int .i64 (min lo s.tanks), .int .i64 (max hi s.tanks)]) ∧ Below w.heap.size w w' := by
  have HF := Lib.hid (endTanks_any s)
  obtain ⟨A, hA⟩ : ∃ A, min lo s.tanks = A := ⟨_, rfl⟩
  obtain ⟨B, hB⟩ : ∃ B, max hi s.tanks = B := ⟨_, rfl⟩
  rw [hA, hB]
  have hm1 := min_if lo s.tanks
  have hm2 := max_if hi s.tanks
  rw [hA] at hm1
  rw [hB] at hm2
  have HM1 := Lib.hid hm1
  have HM2 := Lib.hid hm2
  clear hA hB hm1 hm2
  go_enter Tryd.func81, Tryd.ntmps81
  go_wp2_with fail
  refine (calls_from (B := w.heap.size + 3) (HF.out _) (by exact Below.refl _ _) (by simp)).mono ?_
  rintro e' w' ⟨rfl, hb, hz, hc⟩
  have hff := fun b o h => hb.frozen (p := ⟨b, o, none⟩) h
  have hm1 := HM1.out
  have hm2 := HM2.out
  go_wp2
  refine bodyPost_ret (v := .agg #[.int .i64 A, .int .i64 B]) (by simp [results, Tryd.results81, go_sem, hc]) rfl ⟨rfl, ?_⟩
  have h3 : Below w.heap.size w w' := (b_alloc (b_alloc (alloc_below w _) (by simp)) (by simp; omega)).trans (hb.mono (by omega))
  repeat (first | with_reducible exact Below.refl _ _ | with_reducible assumption | with_reducible apply b_undrew | with_reducible apply b_drew | with_reducible apply b_alloc | with_reducible apply b_set | (show (_ : Nat) ≤ _; first | exact Nat.le_refl _ | focus (simp; done) | omega | (simp; omega)) | (refine Below.trans ?_ (Below.mono (by with_reducible assumption) ?_)))
theorem widenedLens_any (lo hi : Int) (s : Seen) (w : World) :
    Calls Tryd.prog 81 #[.agg #[.int .i64 lo, .int .i64 hi], .agg #[.int .i64 s.tanks, .int .i64 s.lens, .int .i64 s.lack], .func (.func 83) #[] #[]] w
   fun e' w' => e' = .returned (.agg #[.int .i64 (min lo s.lens), .int .i64 (max hi s.lens)]) ∧ Below w.heap.size w w' := by
  have HF := Lib.hid (endLens_any s)
  obtain ⟨A, hA⟩ : ∃ A, min lo s.lens = A := ⟨_, rfl⟩
  obtain ⟨B, hB⟩ : ∃ B, max hi s.lens = B := ⟨_, rfl⟩
  rw [hA, hB]
  have hm1 := min_if lo s.lens
  have hm2 := max_if hi s.lens
  rw [hA] at hm1
  rw [hB] at hm2
  have HM1 := Lib.hid hm1
  have HM2 := Lib.hid hm2
  clear hA hB hm1 hm2
  go_enter Tryd.func81, Tryd.ntmps81
  go_wp2_with fail
  refine (calls_from (B := w.heap.size + 3) (HF.out _) (by exact Below.refl _ _) (by simp)).mono ?_
  rintro e' w' ⟨rfl, hb, hz, hc⟩
  have hff := fun b o h => hb.frozen (p := ⟨b, o, none⟩) h
  have hm1 := HM1.out
  have hm2 := HM2.out
  go_wp2
  refine bodyPost_ret (v := .agg #[.int .i64 A, .int .i64 B]) (by simp [results, Tryd.results81, go_sem, hc]) rfl ⟨rfl, ?_⟩
  have h3 : Below w.heap.size w w' := (b_alloc (b_alloc (alloc_below w _) (by simp)) (by simp; omega)).trans (hb.mono (by omega))
  repeat (first | with_reducible exact Below.refl _ _ | with_reducible assumption | with_reducible apply b_undrew | with_reducible apply b_drew | with_reducible apply b_alloc | with_reducible apply b_set | (show (_ : Nat) ≤ _; first | exact Nat.le_refl _ | focus (simp; done) | omega | (simp; omega)) | (refine Below.trans ?_ (Below.mono (by with_reducible assumption) ?_)))
theorem widenedLack_any (lo hi : Int) (s : Seen) (w : World) :
    Calls Tryd.prog 81 #[.agg #[.int .i64 lo, .int .i64 hi], .agg #[.int .i64 s.tanks, .int .i64 s.lens, .int .i64 s.lack], .func (.func 84) #[] #[]] w
   fun e' w' => e' = .returned (.agg #[.int .i64 (min lo s.lack), .int .i64 (max hi s.lack)]) ∧ Below w.heap.size w w' := by
  have HF := Lib.hid (endLack_any s)
  obtain ⟨A, hA⟩ : ∃ A, min lo s.lack = A := ⟨_, rfl⟩
  obtain ⟨B, hB⟩ : ∃ B, max hi s.lack = B := ⟨_, rfl⟩
  rw [hA, hB]
  have hm1 := min_if lo s.lack
  have hm2 := max_if hi s.lack
  rw [hA] at hm1
  rw [hB] at hm2
  have HM1 := Lib.hid hm1
  have HM2 := Lib.hid hm2
  clear hA hB hm1 hm2
  go_enter Tryd.func81, Tryd.ntmps81
  go_wp2_with fail
  refine (calls_from (B := w.heap.size + 3) (HF.out _) (by exact Below.refl _ _) (by simp)).mono ?_
  rintro e' w' ⟨rfl, hb, hz, hc⟩
  have hff := fun b o h => hb.frozen (p := ⟨b, o, none⟩) h
  have hm1 := HM1.out
  have hm2 := HM2.out
  go_wp2
  refine bodyPost_ret (v := .agg #[.int .i64 A, .int .i64 B]) (by simp [results, Tryd.results81, go_sem, hc]) rfl ⟨rfl, ?_⟩
  have h3 : Below w.heap.size w w' := (b_alloc (b_alloc (alloc_below w _) (by simp)) (by simp; omega)).trans (hb.mono (by omega))
  repeat (first | with_reducible exact Below.refl _ _ | with_reducible assumption | with_reducible apply b_undrew | with_reducible apply b_drew | with_reducible apply b_alloc | with_reducible apply b_set | (show (_ : Nat) ≤ _; first | exact Nat.le_refl _ | focus (simp; done) | omega | (simp; omega)) | (refine Below.trans ?_ (Below.mono (by with_reducible assumption) ?_)))
end Go.Proofs.YticgnoekpggppaaDoor
