/- Contract of isDrought. -/
import Derived.Test.YtffdidleebognaaDoorZR09
namespace Go.Proofs.YtffdidleebognaaDoor
open Go Go.RowKit Lens
theorem drOk_skip {most row : Int} {d : Nat → Bool} {k : Nat} (h : d k = false) : drOk most row d k = true := by simp [drOk, h]
theorem drOk_yes {most row : Int} {d : Nat → Bool} {k : Nat} (h : d k = true) (h1 : (drAll d k : Int) + 1 ≤ most) (h2 : (drRow d k : Int) + 1 ≤ row) : drOk most row d k = true := by
  simp [drOk, drAll, drRow, h]; omega
theorem drOk_no1 {most row : Int} {d : Nat → Bool} {k : Nat} (h : d k = true) (h1 : most < (drAll d k : Int) + 1) : drOk most row d k = false := by
  simp [drOk, drAll, drRow, h]; omega
theorem drOk_no2 {most row : Int} {d : Nat → Bool} {k : Nat} (h : d k = true) (h1 : row < (drRow d k : Int) + 1) : drOk most row d k = false := by
  simp [drOk, drAll, drRow, h]; omega
theorem isDrought_any (i : Isl) (wa : Option Addr) (wc : Nat) (ma : Option Addr) (mc : Nat) (da : Option Addr) (n dc : Nat) (d : Nat → Bool) (w : World) (hn : n ≤ maxLen) (hs : BoolsAt w w.heap.size da n d) :
    Calls Tryd.prog 40 #[islV i wa wc ma mc, .slice da n dc] w
   fun e' w' => e' = .returned (.bool (drB i.most i.row n d)) ∧ Below w.heap.size w w' := by
  unfold islV
  unfold maxLen at hn
  go_enter Tryd.func40, Tryd.ntmps40
  go_wp2
  go_loop [5, 6, 11] (fun all row j => ∃ k : Nat, k ≤ n ∧ j = .int .i64 k ∧ all = .int .i64 (drAll d k) ∧ row = .int .i64 (drRow d k) ∧ allTo k (drOk i.most i.row d) = true) (fun _ _ j => n - (intOf j).toNat)
  case atStart => exact ⟨0, Nat.zero_le _, rfl, rfl, rfl, rfl⟩
  case round =>
    obtain ⟨k, hk, rfl, rfl, rfl, hall⟩ := hrel
    have HALL := Lib.hid hall; clear hall
    have b1 := drAll_le d k
    have b2 := drRow_le d k
    by_cases hlt : k < n
    · obtain ⟨b, off, rfl, hb, hck⟩ := boolsGet hs hlt
      cases hd : d k with
      | false =>
        rw [hd] at hck
        have HD := Lib.hid hd; clear hd
        go_wp2
        go_round
        case rel => exact ⟨k + 1, by omega, by go_num, by simp [drAll, HD.out], by simp [drRow, HD.out], allTo_succ HALL.out (drOk_skip HD.out)⟩
        case measure => simp [intOf]; omega
      | true =>
        rw [hd] at hck
        have HD := Lib.hid hd; clear hd
        by_cases h1 : i.most < (drAll d k : Int) + 1
        · go_wp2
          go_ret
          exact ⟨ret_bool (by unfold drB; rw [allTo_false hlt (drOk_no1 HD.out h1)]), alloc_below _ _⟩
        · by_cases h2 : i.row < (drRow d k : Int) + 1
          · go_wp2
            go_ret
            exact ⟨ret_bool (by unfold drB; rw [allTo_false hlt (drOk_no2 HD.out h2)]), alloc_below _ _⟩
          · go_wp2
            go_round
            case rel => exact ⟨k + 1, by omega, by go_num, by simp [drAll, HD.out], by simp [drRow, HD.out], allTo_succ HALL.out (drOk_yes HD.out (by omega) (by omega))⟩
            case measure => simp [intOf]; omega
    · obtain rfl : k = n := by omega
      go_wp2
      go_ret
      exact ⟨ret_bool (by unfold drB; rw [HALL.out]), alloc_below _ _⟩
end Go.Proofs.YtffdidleebognaaDoor
