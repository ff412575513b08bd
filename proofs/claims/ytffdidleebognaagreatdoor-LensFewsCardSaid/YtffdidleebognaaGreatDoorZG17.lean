/- Contract of the reference's Drought. -/
import Derived.Test.YtffdidleebognaaGreatDoorZG15
import Derived.Test.YtffdidleebognaaGreatDoorZG16
namespace Go.Proofs.YtffdidleebognaaGreatDoor
open Go Go.RowKit Lens
theorem eqB_int (a b : Nat) : ((a : Int) == (b : Int)) = decide (a = b) := by
  rw [Bool.eq_iff_iff]
  simp
  omega
set_option maxHeartbeats 1000000 in
theorem rDrought_any (i : Isl) (wa : Option Addr) (wc : Nat) (ma : Option Addr) (mc : Nat) (da : Option Addr) (n dc : Nat) (d : Nat → Bool) (w : World) (hn : n ≤ maxLen) (hs : BoolsAt w w.heap.size da n d) (hmost : 0 ≤ i.most) (hrow : 0 ≤ i.row) :
    Calls Tryz.prog 28 #[islV i wa wc ma mc, .slice da n dc] w
   fun e' w' => e' = .returned (.bool (drB i.most i.row n d && decide (n = i.nm))) ∧ Below w.heap.size w w' := by
  unfold islV
  unfold maxLen at hn
  go_enter Tryz.func28, Tryz.ntmps28
  go_wp2
  go_loop [5, 6, 7] (fun all row j => ∃ k : Nat, k ≤ n ∧ j = .int .i64 k ∧ all = .int .i64 (drAll d k) ∧ row = .int .i64 (drRow d k) ∧ allTo k (drOk i.most i.row d) = true ∧ (drAll d k : Int) ≤ i.most ∧ (drRow d k : Int) ≤ i.row) (fun _ _ j => n - (intOf j).toNat)
  case atStart => exact ⟨0, Nat.zero_le _, rfl, rfl, rfl, rfl, by simpa [drAll] using hmost, by simpa [drRow] using hrow⟩
  case round =>
    obtain ⟨k, hk, rfl, rfl, rfl, hall, hm1, hm2⟩ := hrel
    have HALL := Lib.hid hall; clear hall
    have b1 := drAll_le d k
    have b2 := drRow_le d k
    by_cases hlt : k < n
    · obtain ⟨b, off, rfl, hb, hck⟩ := boolsGet hs hlt
      cases hd : d k with
      | false =>
        rw [hd] at hck
        have HD := Lib.hid hd; clear hd
        go_wp2
        go_round
        case rel => exact ⟨k + 1, by omega, by go_num, by simp [drAll, HD.out], by simp [drRow, HD.out], allTo_succ HALL.out (drOk_skip HD.out), by simp [drAll, HD.out]; omega, by simp [drRow, HD.out]; omega⟩
        case measure => simp [intOf]; omega
      | true =>
        rw [hd] at hck
        have HD := Lib.hid hd; clear hd
        by_cases h1 : i.most < (drAll d k : Int) + 1
        · go_wp2
          go_ret
          exact ⟨ret_bool (by unfold drB; rw [allTo_false hlt (drOk_no1 HD.out h1)]; rfl), alloc_below _ _⟩
        · by_cases h2 : i.row < (drRow d k : Int) + 1
          · go_wp2
            go_ret
            exact ⟨ret_bool (by unfold drB; rw [allTo_false hlt (drOk_no2 HD.out h2)]; rfl), alloc_below _ _⟩
          · go_wp2
            go_round
            case rel => exact ⟨k + 1, by omega, by go_num, by simp [drAll, HD.out], by simp [drRow, HD.out], allTo_succ HALL.out (drOk_yes HD.out (by omega) (by omega)), by simp [drAll, HD.out]; omega, by simp [drRow, HD.out]; omega⟩
            case measure => simp [intOf]; omega
    · obtain rfl : k = n := by omega
      go_wp2
      go_ret
      exact ⟨ret_bool (by unfold drB; rw [HALL.out]; simp [eqB_int]), alloc_below _ _⟩
end Go.Proofs.YtffdidleebognaaGreatDoor
