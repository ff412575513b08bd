/- Contracts of what is followed: scaled, fill, rain, leak, supply. -/
import Derived.Deep.RegionHeld3
import Derived.Test.YtffdidleebognaaDoorZR09
namespace Go.Proofs.YtffdidleebognaaDoor
open Go Go.RowKit Lens
def prodTo (f : Nat → Int) : Nat → Int
  | 0 => 1
  | k + 1 => prodTo f k * f k
theorem wrap_in {n : Int} (h0 : 0 ≤ n) (h1 : n ≤ 9223372036854775807) : IntKind.i64.wrap n = n := IntWalk.i64_in n (by omega)
theorem scaled_any (d : Int) (a : Option Addr) (n cap : Nat) (f : Nat → Int) (w : World) (hn : n ≤ 3) (hd : 1 ≤ d) (hs : IntsAt w w.heap.size a n f)
    (hp : ∀ k, k ≤ n → 0 ≤ prodTo f k ∧ prodTo f k ≤ 1000000000000000) : Calls Tryd.prog 60 #[.int .i64 d, .slice a n cap] w
   fun e' w' => e' = .returned (.int .i64 (prodTo f n / d)) ∧ w = w' := by
  go_enter Tryd.func60, Tryd.ntmps60
  go_wp2
  go_loop [5, 10] (fun p i => ∃ k : Nat, k ≤ n ∧ i = .int .i64 k ∧ p = .int .i64 (prodTo f k)) (fun _ i => n - (intOf i).toNat)
  case atStart => exact ⟨0, Nat.zero_le _, rfl, rfl⟩
  case round =>
    obtain ⟨k, hk, rfl, rfl⟩ := hrel
    by_cases hlt : k < n
    · obtain ⟨b, off, rfl, hb, hck⟩ := intsGet hs hlt
      have hp1 : 0 ≤ prodTo f k * f k := (hp (k + 1) hlt).1
      have hp2 : prodTo f k * f k ≤ 1000000000000000 := (hp (k + 1) hlt).2
      have HP := Lib.hid hp; clear hp
      go_wp2
      go_round
      case rel => exact ⟨k + 1, by omega, by go_num, by first | rfl | simp [prodTo]⟩
      case measure => simp [intOf]; omega
    · obtain rfl : k = n := by omega
      have hp1 := hp k (Nat.le_refl _)
      have HP := Lib.hid hp; clear hp
      obtain ⟨hp2, hp3⟩ := hp1
      have hq : 0 ≤ prodTo f k / d := Int.ediv_nonneg hp2 (by omega)
      have hq2 : prodTo f k / d ≤ prodTo f k := Int.ediv_le_self _ hp2
      generalize hP : prodTo f k = p at *
      have HPP := Lib.hid hP; clear hP
      go_wp2
      go_ret
      exact ⟨ret_int (by rw [HPP.out]), rfl⟩
theorem cellOf {w : World} {b k : Nat} {cs : Array Value} {t : TypeId} {fr : Nat × Nat} {v : Value} (h : w.heap[b]? = some (.cells cs t fr)) (hk : cs[k]? = some v) : w.cell? ⟨b, k, none⟩ = some v := by
  simp [World.cell?, h, hk]
theorem freeOf {w : World} {b k : Nat} {cs : Array Value} {t : TypeId} (h : w.heap[b]? = some (.cells cs t (0, 0))) : w.frozen? ⟨b, k, none⟩ = false := by simp [World.frozen?, h]
theorem setOf' {w : World} {b k : Nat} {cs : Array Value} {t : TypeId} {fr : Nat × Nat} {v : Value} (h : w.heap[b]? = some (.cells cs t fr)) : (w.setCell ⟨b, k, none⟩ v).heap[b]? = some (.cells (cs.setIfInBounds k v) t fr) := by
  simp [World.setCell, Array.getElem?_modify, h]
theorem ltOf {w : World} {b : Nat} {o : Obj} (h : w.heap[b]? = some o) : b < w.heap.size := by
  rcases Nat.lt_or_ge b w.heap.size with h1 | h1
  · exact h1
  · rw [Array.getElem?_eq_none h1] at h; cases h
theorem grown_set (w : World) (b k : Nat) (v : Value) : w.grownBy (w.setCell ⟨b, k, none⟩ v) (some b) :=
  ⟨rfl, rfl, rfl, by simp [World.setCell], fun j _ hne => Below.heap_setCell _ _ _ _ (fun e => hne (by rw [e]))⟩
theorem grown_trans {w w1 w2 : World} {r : Option Nat} (h : w.grownBy w1 r) (h' : w1.grownBy w2 r) : w.grownBy w2 r :=
  ⟨h'.os.trans h.os, h'.tape.trans h.tape, h'.output.trans h.output, Nat.le_trans h.size h'.size, fun k hk hne => (h'.block k (Nat.lt_of_lt_of_le hk h.size) hne).trans (h.block k hk hne)⟩
theorem grown_drew (w : World) (r : Option Nat) : w.grownBy w.drew r := ⟨rfl, rfl, rfl, Nat.le_refl _, fun _ _ _ => rfl⟩
theorem drewOf {w : World} {b : Nat} {o : Obj} (h : w.heap[b]? = some o) : w.drew.heap[b]? = some o := h
theorem allocOf {w : World} {b : Nat} {o X : Obj} (h : w.heap[b]? = some o) : (w.alloc X).heap[b]? = some o := (Below.heap_alloc w X b (ltOf h)).trans h
theorem grown_refl (w : World) (r : Option Nat) : w.grownBy w r := ⟨rfl, rfl, rfl, Nat.le_refl _, fun _ _ _ => rfl⟩
theorem g_drew {w w1 : World} {r : Option Nat} (h : w.grownBy w1 r) : w.grownBy w1.drew r := grown_trans h (grown_drew _ _)
theorem g_alloc {w w1 : World} {r : Option Nat} {o : Obj} (h : w.grownBy w1 r) : w.grownBy (w1.alloc o) r := grown_trans h (World.grownBy_alloc _ _ _)
theorem g_set {w w1 : World} {b k : Nat} {v : Value} (h : w.grownBy w1 (some b)) : w.grownBy (w1.setCell ⟨b, k, none⟩ v) (some b) := grown_trans h (grown_set _ _ _ _)
theorem fill_any (b : Nat) (cs : Array Value) (r0 s0 water rain most : Int) (w : World) (hF : w.heap[b]? = some (.cells cs 93 (0, 0))) (h28 : cs[28]? = some (.int .i64 r0)) (h31 : cs[31]? = some (.int .i64 s0))
    (a0 : 0 ≤ water) (a1 : water ≤ 1000000000) (b0 : 0 ≤ rain) (b1 : rain ≤ 1000000000) (m0 : 0 ≤ most) (m1 : most ≤ 1000000000) (c0 : 0 ≤ r0) (c1 : r0 ≤ 1000000000000) (d0 : 0 ≤ s0) (d1 : s0 ≤ 1000000000000) :
    Calls Tryd.prog 59 #[.pointer (some ⟨b, 0, none⟩), .int .i64 water, .int .i64 rain, .int .i64 most] w
   fun e' w' => e' = .returned (.int .i64 (water + rain - max 0 (water + rain - most))) ∧ w' = (w.setCell ⟨b, 28, none⟩ (.int .i64 (r0 + rain))).setCell ⟨b, 31, none⟩ (.int .i64 (s0 + max 0 (water + rain - most))) := by
  have e28 := cellOf hF h28
  have e31 := cellOf hF h31
  have f28 := freeOf (k := 28) hF
  have f31 := freeOf (k := 31) hF
  clear hF h28 h31
  have x0 : 0 ≤ max 0 (water + rain - most) := by omega
  have x1 : max 0 (water + rain - most) ≤ 2000000000 := by omega
  have x2 : max 0 (water + rain - most) ≤ water + rain := by omega
  go_enter Tryd.func59, Tryd.ntmps59
  go_wp2
  · go_ret
    have e : max 0 (water + rain - most) = water + rain - most := by omega
    exact ⟨ret_int (by omega), by rw [e]⟩
  · go_ret
    have e : max 0 (water + rain - most) = 0 := by omega
    exact ⟨ret_int (by omega), by rw [e]; simp⟩
theorem prod2 {f : Nat → Int} {x y : Int} (h0 : f 0 = x) (h1 : f 1 = y) : prodTo f 2 = x * y := by simp [prodTo, h0, h1]
theorem prod3 {f : Nat → Int} {x y z : Int} (h0 : f 0 = x) (h1 : f 1 = y) (h2 : f 2 = z) : prodTo f 3 = x * y * z := by simp [prodTo, h0, h1, h2]
/-- scaled with two factors that lie in a block of their own. -/
theorem scaled2_any (d x y : Int) (bl cap : Nat) (w : World) (hd : 1 ≤ d) (hw : w.heap[bl]? = some (.cells #[.int .i64 x, .int .i64 y] 3 (0, 0)))
    (x0 : 0 ≤ x) (x1 : x ≤ 1000000000000000) (p0 : 0 ≤ x * y) (p1 : x * y ≤ 1000000000000000) : Calls Tryd.prog 60 #[.int .i64 d, .slice (some ⟨bl, 0, none⟩) 2 cap] w
   fun e' w' => e' = .returned (.int .i64 (x * y / d)) ∧ w = w' := by
  have h := scaled_any d (some ⟨bl, 0, none⟩) 2 cap (fun k => if k = 0 then x else y) w (by omega) hd
    (fun _ => ⟨bl, 0, rfl, ltOf hw, fun k hk j hj => by
      obtain rfl : j = 0 := by omega
      rcases (by omega : k = 0 ∨ k = 1) with rfl | rfl <;> simp [World.cell?, hw, encInt]⟩)
    (fun k hk => by
      rcases (by omega : k = 0 ∨ k = 1 ∨ k = 2) with rfl | rfl | rfl <;> simp [prodTo] <;> omega)
  rw [prod2 (x := x) (y := y) rfl rfl] at h
  exact h
theorem scaled3_any (d x y z : Int) (bl cap : Nat) (w : World) (hd : 1 ≤ d) (hw : w.heap[bl]? = some (.cells #[.int .i64 x, .int .i64 y, .int .i64 z] 3 (0, 0)))
    (x0 : 0 ≤ x) (x1 : x ≤ 1000000000000000) (p0 : 0 ≤ x * y) (p1 : x * y ≤ 1000000000000000) (q0 : 0 ≤ x * y * z) (q1 : x * y * z ≤ 1000000000000000) :
    Calls Tryd.prog 60 #[.int .i64 d, .slice (some ⟨bl, 0, none⟩) 3 cap] w
   fun e' w' => e' = .returned (.int .i64 (x * y * z / d)) ∧ w = w' := by
  have h := scaled_any d (some ⟨bl, 0, none⟩) 3 cap (fun k => if k = 0 then x else if k = 1 then y else z) w (by omega) hd
    (fun _ => ⟨bl, 0, rfl, ltOf hw, fun k hk j hj => by
      obtain rfl : j = 0 := by omega
      rcases (by omega : k = 0 ∨ k = 1 ∨ k = 2) with rfl | rfl | rfl <;> simp [World.cell?, hw, encInt]⟩)
    (fun k hk => by
      rcases (by omega : k = 0 ∨ k = 1 ∨ k = 2 ∨ k = 3) with rfl | rfl | rfl | rfl <;> simp [prodTo] <;> omega)
  rw [prod3 (x := x) (y := y) (z := z) rfl rfl rfl] at h
  exact h
theorem leak_any (b : Nat) (cs : Array Value) (l0 lk g0 : Int) (w : World) (hF : w.heap[b]? = some (.cells cs 93 (0, 0))) (h25 : cs[25]? = some (.int .i64 l0)) (h18 : cs[18]? = some (.int .i64 lk)) (h30 : cs[30]? = some (.int .i64 g0))
    (a0 : 0 ≤ l0) (a1 : l0 ≤ 1000000000) (b0 : 0 ≤ lk) (b1 : lk ≤ 1000) (c0 : 0 ≤ g0) (c1 : g0 ≤ 1000000000000) :
    Calls Tryd.prog 43 #[.pointer (some ⟨b, 0, none⟩)] w
   fun e' w' => e' = .returned (.tuple #[]) ∧ w'.heap[b]? = some (.cells ((cs.setIfInBounds 25 (.int .i64 (l0 - l0 * lk / 1000))).setIfInBounds 30 (.int .i64 (g0 + l0 * lk / 1000))) 93 (0, 0)) ∧ w.grownBy w' (some b) := by
  have e25 := cellOf hF h25
  have e18 := cellOf hF h18
  have e30 := cellOf hF h30
  have f25 := freeOf (k := 25) hF
  have f30 := freeOf (k := 30) hF
  have hbl := ltOf hF
  have HF := Lib.hid hF
  clear hF h25 h18 h30
  have p0 : 0 ≤ l0 * lk := Int.mul_nonneg a0 b0
  have p1 : l0 * lk ≤ 1000000000 * 1000 := Int.mul_le_mul a1 b1 b0 (by omega)
  have x0 : 0 ≤ l0 * lk / 1000 := by omega
  have x1 : l0 * lk / 1000 ≤ l0 := by
    have : l0 * lk ≤ l0 * 1000 := Int.mul_le_mul_of_nonneg_left b1 a0
    omega
  go_enter Tryd.func43, Tryd.ntmps43
  go_wp2_with fail
  go_region_held3 (fun w' => w'.cell? ⟨b, 25, none⟩ = some (.int .i64 l0) ∧ w'.cell? ⟨b, 18, none⟩ = some (.int .i64 lk)) (go_keep)
    (first | (go_at_call 60; refine (scaled2_any 1000 l0 lk _ _ _ (by omega) (by first | exact heap_alloc_new _ _ | simp) a0 (by omega) p0 (by omega)).mono ?_; rintro e' w' ⟨rfl, rfl⟩))
  go_wp2
  go_end0
  refine ⟨rfl, ?_, ?_⟩
  · repeat (first | with_reducible exact HF.out | with_reducible apply drewOf | with_reducible apply allocOf | with_reducible apply setOf')
  · repeat (first | with_reducible exact grown_refl _ _ | with_reducible apply g_drew | with_reducible apply g_alloc | with_reducible apply g_set)
end Go.Proofs.YtffdidleebognaaDoor
