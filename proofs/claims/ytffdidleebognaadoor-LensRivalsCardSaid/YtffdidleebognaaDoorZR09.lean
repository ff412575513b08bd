/- Contracts of lens's small functions: what is as defined. -/
import Derived.Test.YtffdidleebognaaDoorZR08
namespace Go.Proofs.YtffdidleebognaaDoor
open Go Go.RowKit Lens
theorem alloc_below (w : World) (X : Obj) : Below w.heap.size w (w.alloc X) := (Below.refl _ _).alloc (Nat.le_refl _) _
theorem isIn_any (n lo hi : Int) (w : World) : Calls Tryd.prog 31 #[.int .i64 n, .int .i64 lo, .int .i64 hi] w
   fun e w' => e = .returned (.bool (isInB n lo hi)) ∧ w = w' := by
  go_enter Tryd.func31, Tryd.ntmps31
  go_wp2
  all_goals go_ret
  all_goals exact ⟨ret_bool (by first | rw [isInB_t (by assumption)] | rw [isInB_f (by assumption)]), rfl⟩
theorem areTanks_any (n : Int) (w : World) : Calls Tryd.prog 21 #[.int .i64 n] w
   fun e w' => e = .returned (.bool (tanksB n)) ∧ w = w' := by
  go_enter Tryd.func21, Tryd.ntmps21
  go_wp2_with (go_at_call 31; refine (isIn_any _ _ _ _).mono ?_; rintro e' w' ⟨rfl, rfl⟩)
  go_ret
  exact ⟨rfl, rfl⟩
theorem isSpan_any (lo hi m : Int) (w : World) : Calls Tryd.prog 32 #[.agg #[.int .i64 lo, .int .i64 hi], .int .i64 m] w
   fun e w' => e = .returned (.bool (isSpanB lo hi m)) ∧ Below w.heap.size w w' := by
  go_enter Tryd.func32, Tryd.ntmps32
  go_wp2
  all_goals go_ret
  all_goals refine ⟨ret_bool ?_, b_alloc (alloc_below w _) (by simp)⟩
  all_goals simp [isSpanB]
  all_goals omega
theorem low_any (lo hi : Int) (w : World) : Calls Tryd.prog 57 #[.agg #[.int .i64 lo, .int .i64 hi]] w
   fun e w' => e = .returned (.int .i64 lo) ∧ Below w.heap.size w w' := by
  go_enter Tryd.func57, Tryd.ntmps57
  go_wp2
  go_ret
  exact ⟨rfl, (Below.refl _ _).alloc (Nat.le_refl _) _⟩
theorem high_any (lo hi : Int) (w : World) : Calls Tryd.prog 58 #[.agg #[.int .i64 lo, .int .i64 hi]] w
   fun e w' => e = .returned (.int .i64 hi) ∧ Below w.heap.size w w' := by
  go_enter Tryd.func58, Tryd.ntmps58
  go_wp2
  go_ret
  exact ⟨rfl, (Below.refl _ _).alloc (Nat.le_refl _) _⟩
theorem isMonth_any (m : Mon) (w : World) : Calls Tryd.prog 54 #[.agg #[.int .i64 m.wl, .int .i64 m.wh, .int .i64 m.dl, .int .i64 m.dh, .int .i64 m.nl, .int .i64 m.nh]] w
   fun e' w' => e' = .returned (.bool (monB m)) ∧ Below w.heap.size w w' := by
  go_enter Tryd.func54, Tryd.ntmps54
  go_wp2_with (go_at_call 32; refine (calls_from (B := w.heap.size + 1) (isSpan_any _ _ _ _) (by first | assumption | exact Below.refl _ _) (by first | assumption | simp)).mono ?_; rintro e' w' ⟨rfl, hb, hz, hc⟩)
  all_goals go_ret
  all_goals refine ⟨ret_bool ?_, ?_⟩
  all_goals first | exact ((Below.refl _ _).alloc (Nat.le_refl _) _).trans (Below.mono (by assumption) (Nat.le_succ _)) | (simp [monB, *]; try omega)
theorem allIn_any (a : Option Addr) (n cap : Nat) (f : Nat → Int) (lo m : Int) (w : World) (hn : n ≤ maxLen) (hs : IntsAt w w.heap.size a n f) : Calls Tryd.prog 53 #[.slice a n cap, .int .i64 lo, .int .i64 m] w
   fun e' w' => e' = .returned (.bool (allTo n fun k => isInB (f k) lo m)) ∧ w = w' := by
  unfold maxLen at hn
  go_enter Tryd.func53, Tryd.ntmps53
  go_wp2
  go_loop [11] (fun i => ∃ k : Nat, k ≤ n ∧ i = .int .i64 k ∧ (allTo k fun k => isInB (f k) lo m) = true) (fun i => n - (intOf i).toNat)
  case atStart => exact ⟨0, Nat.zero_le _, rfl, rfl⟩
  case round =>
    obtain ⟨k, hk, rfl, hall⟩ := hrel
    have HALL := Lib.hid hall; clear hall
    by_cases hlt : k < n
    · obtain ⟨b, off, rfl, hb, hck⟩ := intsGet hs hlt
      cases hin : isInB (f k) lo m
      all_goals have HIN := Lib.hid hin; clear hin
      all_goals go_wp2_with (go_at_call 31; refine (isIn_any _ _ _ _).mono ?_; rintro e' w' ⟨rfl, rfl⟩; rw [HIN.out])
      · go_ret
        exact ⟨ret_bool (by rw [allTo_false hlt HIN.out]), rfl⟩
      · go_round
        case rel => exact ⟨k + 1, by omega, by go_num, allTo_succ HALL.out HIN.out⟩
        case measure => simp [intOf]; omega
    · go_wp2
      go_ret
      obtain rfl : k = n := by omega
      exact ⟨ret_bool (by rw [HALL.out]), rfl⟩
theorem areWells_any (a : Option Addr) (n cap : Nat) (f : Nat → Int) (m : Int) (w : World) (hn : n ≤ maxLen) (hs : IntsAt w w.heap.size a n f) : Calls Tryd.prog 33 #[.slice a n cap, .int .i64 m] w
   fun e' w' => e' = .returned (.bool (wellsB n f m)) ∧ w = w' := by
  have hn' := hn
  unfold maxLen at hn
  by_cases h4 : n ≤ 4
  · have h4' : (4 : Int) < n → False := by omega
    have h4'' : (n : Int) ≤ 4 := by omega
    go_enter Tryd.func33, Tryd.ntmps33
    go_wp2_with (go_at_call 53; refine (allIn_any _ _ _ f 0 m _ hn' hs).mono ?_; rintro e' w' ⟨rfl, rfl⟩)
    all_goals go_ret
    all_goals exact ⟨ret_bool (by unfold wellsB; simp [h4]), rfl⟩
  · have h4' : ¬ (n : Int) ≤ 4 := by omega
    go_enter Tryd.func33, Tryd.ntmps33
    go_wp2
    all_goals go_ret
    all_goals exact ⟨ret_bool (by simp [wellsB, h4]), rfl⟩
theorem areMonths_any (a : Option Addr) (n cap : Nat) (f : Nat → Mon) (w : World) (hn : n ≤ maxLen) (hs : MonsAt w w.heap.size a n f) : Calls Tryd.prog 34 #[.slice a n cap] w
   fun e' w' => e' = .returned (.bool (monthsB n f)) ∧ Below w.heap.size w w' := by
  unfold maxLen at hn
  cases h4 : isInB n 1 8
  · have H4 := Lib.hid h4; clear h4
    go_enter Tryd.func34, Tryd.ntmps34
    go_wp2_with (go_at_call 31; refine (isIn_any _ _ _ _).mono ?_; rintro e' w' ⟨rfl, rfl⟩; rw [H4.out])
    go_ret
    exact ⟨ret_bool (by simp [monthsB, H4.out]), Below.refl _ _⟩
  · have H4 := Lib.hid h4; clear h4
    go_enter Tryd.func34, Tryd.ntmps34
    go_wp2_with (go_at_call 31; refine (isIn_any _ _ _ _).mono ?_; rintro e' w' ⟨rfl, rfl⟩; rw [H4.out])
    go_loopw [11] (fun i wr => ∃ k : Nat, k ≤ n ∧ i = .int .i64 k ∧ (allTo k fun k => monB (f k)) = true ∧ Below w.heap.size w wr) (fun i _ => n - (intOf i).toNat)
    case atStart => exact ⟨0, Nat.zero_le _, rfl, rfl, Below.refl _ _⟩
    case round =>
      obtain ⟨k, hk, rfl, hall, hB⟩ := hrel
      have HALL := Lib.hid hall; clear hall
      by_cases hlt : k < n
      · obtain ⟨b, off, rfl, hb, h0, h1, h2, h3, h4, h5⟩ := monsGet (hs.below' hB) hlt
        have hz := hB.size
        cases hin : monB (f k)
        all_goals have HIN := Lib.hid hin; clear hin
        all_goals go_wp2_with (go_at_call 54; refine (isMonth_any (f k) _).mono ?_; rintro e' w' ⟨rfl, hb2⟩; rw [HIN.out])
        · go_ret
          exact ⟨ret_bool (by unfold monthsB; rw [allTo_false hlt HIN.out]; simp), (hB.alloc hz _).trans (hb2.mono (by simp; omega))⟩
        · go_roundw
          case rel => exact ⟨k + 1, by omega, by go_num, allTo_succ HALL.out HIN.out, (hB.alloc hz _).trans (hb2.mono (by simp; omega))⟩
          case measure => simp [intOf]; omega
      · go_wp2
        go_ret
        obtain rfl : k = n := by omega
        exact ⟨ret_bool (by unfold monthsB; rw [HALL.out, H4.out]; simp), hB⟩
theorem rainOf_any (m : Mon) (d : Bool) (w : World) : Calls Tryd.prog 41 #[.agg #[.int .i64 m.wl, .int .i64 m.wh, .int .i64 m.dl, .int .i64 m.dh, .int .i64 m.nl, .int .i64 m.nh], .bool d] w
   fun e' w' => e' = .returned (.agg #[.int .i64 (rlo m d), .int .i64 (rhi m d)]) ∧ Below w.heap.size w w' := by
  cases d
  all_goals
    go_enter Tryd.func41, Tryd.ntmps41
    go_wp2
    refine bodyPost_ret (v := .agg #[.int .i64 (rlo m _), .int .i64 (rhi m _)]) (by simp [results, Tryd.results41, go_sem, rlo, rhi]) rfl ⟨rfl, ?_⟩
    repeat (first | with_reducible exact Below.refl _ _ | with_reducible assumption | with_reducible apply b_undrew | with_reducible apply b_drew | with_reducible apply b_alloc | with_reducible apply b_set | (show (_ : Nat) ≤ _; first | exact Nat.le_refl _ | focus (simp; done) | omega | (simp; omega)) | (refine Below.trans ?_ (Below.mono (by with_reducible assumption) ?_)))
end Go.Proofs.YtffdidleebognaaDoor
