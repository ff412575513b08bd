/- Contracts of lens's small functions: islets, droughts. -/
import Derived.Test.YtffdidleebognaaDoorZR09
namespace Go.Proofs.YtffdidleebognaaDoor
open Go Go.RowKit Lens
set_option maxHeartbeats 1000000 in
theorem isIslet_any (i : Isl) (wa : Option Addr) (wc : Nat) (ma : Option Addr) (mc : Nat) (w : World) (hi : IslAt w w.heap.size i wa ma) : Calls Tryd.prog 19 #[islV i wa wc ma mc] w
   fun e' w' => e' = .returned (.bool (islB i)) ∧ Below w.heap.size w w' := by
  unfold islV
  have hnw := hi.nw
  have hnm := hi.nm
  have hi1 : ∀ X, IslAt (w.alloc X) (w.heap.size + 1) i wa ma := fun X => hi.below (alloc_below w X) (by omega)
  have HI := Lib.hid hi1; clear hi1
  go_enter Tryd.func19, Tryd.ntmps19
  go_wp2_with fail
  with_reducible refine (isIn_any _ _ _ _).mono ?_
  rintro e' w' ⟨rfl, rfl⟩
  cases h : isInB i.cap 1 10000000
  · have H0 := Lib.hid h; clear h
    dsimp only; go_step; refine idle_sound (by kernel_rfl) ?_; go_step; go_step; apply wp_ret; refine ⟨by kernel_rfl, .bool false, by kernel_rfl, ?_⟩
    exact ⟨ret_bool (by simp [islB, H0.out]), by first | exact alloc_below _ _ | exact (alloc_below _ _).trans (Below.mono (by assumption) (Nat.le_succ _))⟩
  have H0 := Lib.hid h; clear h
  go_wp2_with fail
  refine (calls_from (B := w.heap.size + 1) (isSpan_any _ _ _ _) (by first | assumption | exact Below.refl _ _) (by first | assumption | simp)).mono ?_
  rintro e' w' ⟨rfl, hb, hz, hc⟩
  cases h : isSpanB i.sl i.sh i.cap
  · have H1 := Lib.hid h; clear h
    dsimp only; go_step; refine idle_sound (by kernel_rfl) ?_; go_step; go_step; apply wp_ret; refine ⟨by kernel_rfl, .bool false, by kernel_rfl, ?_⟩
    exact ⟨ret_bool (by simp [islB, H1.out]), by first | exact alloc_below _ _ | exact (alloc_below _ _).trans (Below.mono (by assumption) (Nat.le_succ _))⟩
  have H1 := Lib.hid h; clear h
  go_wp2_with fail
  with_reducible refine (isIn_any _ _ _ _).mono ?_
  rintro e' w' ⟨rfl, rfl⟩
  cases h : isInB i.roof 0 100000
  · have H2 := Lib.hid h; clear h
    dsimp only; go_step; refine idle_sound (by kernel_rfl) ?_; go_step; go_step; apply wp_ret; refine ⟨by kernel_rfl, .bool false, by kernel_rfl, ?_⟩
    exact ⟨ret_bool (by simp [islB, H2.out]), by first | exact alloc_below _ _ | exact (alloc_below _ _).trans (Below.mono (by assumption) (Nat.le_succ _))⟩
  have H2 := Lib.hid h; clear h
  go_wp2_with fail
  with_reducible refine (isIn_any _ _ _ _).mono ?_
  rintro e' w' ⟨rfl, rfl⟩
  cases h : isInB i.sand 0 10000000
  · have H3 := Lib.hid h; clear h
    dsimp only; go_step; refine idle_sound (by kernel_rfl) ?_; go_step; go_step; apply wp_ret; refine ⟨by kernel_rfl, .bool false, by kernel_rfl, ?_⟩
    exact ⟨ret_bool (by simp [islB, H3.out]), by first | exact alloc_below _ _ | exact (alloc_below _ _).trans (Below.mono (by assumption) (Nat.le_succ _))⟩
  have H3 := Lib.hid h; clear h
  go_wp2_with fail
  refine (calls_from (B := w.heap.size + 1) (isSpan_any _ _ _ _) (by first | assumption | exact Below.refl _ _) (by first | assumption | simp)).mono ?_
  rintro e' w' ⟨rfl, hb, hz, hc⟩
  cases h : isSpanB i.kl i.kh 1000
  · have H4 := Lib.hid h; clear h
    dsimp only; go_step; refine idle_sound (by kernel_rfl) ?_; go_step; go_step; apply wp_ret; refine ⟨by kernel_rfl, .bool false, by kernel_rfl, ?_⟩
    exact ⟨ret_bool (by simp [islB, H4.out]), by first | exact alloc_below _ _ | exact (alloc_below _ _).trans (Below.mono (by assumption) (Nat.le_succ _))⟩
  have H4 := Lib.hid h; clear h
  go_wp2_with fail
  refine (calls_from (B := w.heap.size + 1) (isSpan_any _ _ _ _) (by first | assumption | exact Below.refl _ _) (by first | assumption | simp)).mono ?_
  rintro e' w' ⟨rfl, hb, hz, hc⟩
  cases h : isSpanB i.ll i.lh 1000
  · have H5 := Lib.hid h; clear h
    dsimp only; go_step; refine idle_sound (by kernel_rfl) ?_; go_step; go_step; apply wp_ret; refine ⟨by kernel_rfl, .bool false, by kernel_rfl, ?_⟩
    exact ⟨ret_bool (by simp [islB, H5.out]), by first | exact alloc_below _ _ | exact (alloc_below _ _).trans (Below.mono (by assumption) (Nat.le_succ _))⟩
  have H5 := Lib.hid h; clear h
  go_wp2_with fail
  with_reducible refine (isIn_any _ _ _ _).mono ?_
  rintro e' w' ⟨rfl, rfl⟩
  cases h : isInB i.pump 0 10000000
  · have H6 := Lib.hid h; clear h
    dsimp only; go_step; refine idle_sound (by kernel_rfl) ?_; go_step; go_step; apply wp_ret; refine ⟨by kernel_rfl, .bool false, by kernel_rfl, ?_⟩
    exact ⟨ret_bool (by simp [islB, H6.out]), by first | exact alloc_below _ _ | exact (alloc_below _ _).trans (Below.mono (by assumption) (Nat.le_succ _))⟩
  have H6 := Lib.hid h; clear h
  go_wp2_with fail
  with_reducible refine (isIn_any _ _ _ _).mono ?_
  rintro e' w' ⟨rfl, rfl⟩
  cases h : isInB i.size 0 10000000
  · have H7 := Lib.hid h; clear h
    dsimp only; go_step; refine idle_sound (by kernel_rfl) ?_; go_step; go_step; apply wp_ret; refine ⟨by kernel_rfl, .bool false, by kernel_rfl, ?_⟩
    exact ⟨ret_bool (by simp [islB, H7.out]), by first | exact alloc_below _ _ | exact (alloc_below _ _).trans (Below.mono (by assumption) (Nat.le_succ _))⟩
  have H7 := Lib.hid h; clear h
  go_wp2_with fail
  with_reducible refine (isIn_any _ _ _ _).mono ?_
  rintro e' w' ⟨rfl, rfl⟩
  cases h : isInB i.keep 0 i.cap
  · have H8 := Lib.hid h; clear h
    dsimp only; go_step; refine idle_sound (by kernel_rfl) ?_; go_step; go_step; apply wp_ret; refine ⟨by kernel_rfl, .bool false, by kernel_rfl, ?_⟩
    exact ⟨ret_bool (by simp [islB, H8.out]), by first | exact alloc_below _ _ | exact (alloc_below _ _).trans (Below.mono (by assumption) (Nat.le_succ _))⟩
  have H8 := Lib.hid h; clear h
  go_wp2_with fail
  refine (areWells_any _ _ _ _ _ _ hnw ((HI.out _).below (by assumption) (by assumption)).wells).mono ?_
  rintro e' w' ⟨rfl, rfl⟩
  cases h : wellsB i.nw i.wells i.cap
  · have H9 := Lib.hid h; clear h
    dsimp only; go_step; refine idle_sound (by kernel_rfl) ?_; go_step; go_step; apply wp_ret; refine ⟨by kernel_rfl, .bool false, by kernel_rfl, ?_⟩
    exact ⟨ret_bool (by simp [islB, H9.out]), by first | exact alloc_below _ _ | exact (alloc_below _ _).trans (Below.mono (by assumption) (Nat.le_succ _))⟩
  have H9 := Lib.hid h; clear h
  go_wp2_with fail
  refine (calls_from (B := w.heap.size + 1) (areMonths_any _ _ _ _ _ hnm ((HI.out _).below (by assumption) (by assumption)).months) (by assumption) (by assumption)).mono ?_
  rintro e' w' ⟨rfl, hb, hz, hc⟩
  cases h : monthsB i.nm i.months
  · have H10 := Lib.hid h; clear h
    dsimp only; go_step; refine idle_sound (by kernel_rfl) ?_; go_step; go_step; apply wp_ret; refine ⟨by kernel_rfl, .bool false, by kernel_rfl, ?_⟩
    exact ⟨ret_bool (by simp [islB, H10.out]), by first | exact alloc_below _ _ | exact (alloc_below _ _).trans (Below.mono (by assumption) (Nat.le_succ _))⟩
  have H10 := Lib.hid h; clear h
  go_wp2_with fail
  with_reducible refine (isIn_any _ _ _ _).mono ?_
  rintro e' w' ⟨rfl, rfl⟩
  cases h : isInB i.most 0 i.nm
  · have H11 := Lib.hid h; clear h
    dsimp only; go_step; refine idle_sound (by kernel_rfl) ?_; go_step; go_step; apply wp_ret; refine ⟨by kernel_rfl, .bool false, by kernel_rfl, ?_⟩
    exact ⟨ret_bool (by simp [islB, H11.out]), by first | exact alloc_below _ _ | exact (alloc_below _ _).trans (Below.mono (by assumption) (Nat.le_succ _))⟩
  have H11 := Lib.hid h; clear h
  go_wp2_with fail
  with_reducible refine (isIn_any _ _ _ _).mono ?_
  rintro e' w' ⟨rfl, rfl⟩
  go_wp2_with fail
  go_ret
  exact ⟨ret_bool (by simp [islB, H0.out, H1.out, H2.out, H3.out, H4.out, H5.out, H6.out, H7.out, H8.out, H9.out, H10.out, H11.out]), (alloc_below _ _).trans (Below.mono (by assumption) (Nat.le_succ _))⟩
end Go.Proofs.YtffdidleebognaaDoor
