/- Contracts of wrong and of the comparisons. -/
import Derived.Deep.RegionHeld3
import Derived.Test.YtffdidleebognaaDoorZR09
import Derived.Test.YtffdidleebognaaDoorZR10
namespace Go.Proofs.YtffdidleebognaaDoor
open Go Go.RowKit Lens
def encSeen (s : Lens.Seen) : Nat → Value
  | 0 => .int .i64 s.tanks | 1 => .int .i64 s.lens | _ => .int .i64 s.lack
abbrev SeensAt := AtN 3 encSeen
theorem wrong_any (i : Isl) (wa : Option Addr) (wc : Nat) (ma : Option Addr) (mc : Nat) (s : Seen) (w : World) (hi : IslAt w w.heap.size i wa ma) :
    Calls Tryd.prog 38 #[islV i wa wc ma mc, .agg #[.int .i64 s.tanks, .int .i64 s.lens, .int .i64 s.lack]] w
   fun e' w' => e' = .returned (.tuple #[.int .i64 (wrongRule i s), .int .i64 (wrongWell i s)]) ∧ Below w.heap.size w w' := by
  unfold islV
  have hn := hi.nw
  unfold maxLen at hn
  have hs := hi.wells
  by_cases hl : 0 < s.lack
  · go_enter Tryd.func38, Tryd.ntmps38
    go_wp2
    go_ret2
    exact ⟨by rw [wrongRule_lack (by omega), wrongWell_lack (by omega)]; rfl, (alloc_below _ _).trans ((Below.refl _ _).alloc (by simp) _)⟩
  · go_enter Tryd.func38, Tryd.ntmps38
    go_wp2
    go_loop [14] (fun j => ∃ k : Nat, k ≤ i.nw ∧ j = .int .i64 k ∧ firstLow i s k = none) (fun j => i.nw - (intOf j).toNat)
    case atStart => exact ⟨0, Nat.zero_le _, rfl, rfl⟩
    case round =>
      obtain ⟨k, hk, rfl, hall⟩ := hrel
      have HALL := Lib.hid hall; clear hall
      by_cases hlt : k < i.nw
      · obtain ⟨b, off, rfl, hb, hck⟩ := intsGet hs hlt
        by_cases hw : s.lens < i.wells k
        · go_wp2
          go_ret2
          exact ⟨by rw [wrongRule_low (by omega) HALL.out (by omega) hlt, wrongWell_low (by omega) HALL.out (by omega) hlt]; rfl, (alloc_below _ _).trans ((Below.refl _ _).alloc (by simp) _)⟩
        · go_wp2
          go_round
          case rel => exact ⟨k + 1, by omega, by go_num, by simp [firstLow, HALL.out]; omega⟩
          case measure => simp [intOf]; omega
      · obtain rfl : k = i.nw := by omega
        go_wp2
        go_ret2
        exact ⟨by rw [wrongRule_fine (by omega) HALL.out, wrongWell_fine (by omega) HALL.out]; rfl, (alloc_below _ _).trans ((Below.refl _ _).alloc (by simp) _)⟩
end Go.Proofs.YtffdidleebognaaDoor
