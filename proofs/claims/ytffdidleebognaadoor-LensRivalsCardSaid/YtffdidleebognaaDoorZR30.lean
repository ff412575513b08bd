/- The arguments of layer 1's laws, opened: an islet, a truth, a number of tanks. -/
import Derived.ProofKit
import Derived.Deep.Slices
import Derived.Deep.Fields
import Derived.Test.YtffdidleebognaaDoorZR08
namespace Go.Proofs.YtffdidleebognaaDoor
open Go Go.ChangeShapes Go.WideShapes Go.ChangeAt Go.RowKit Go.WideElems Lens
section
variable {H : Type} {enc : TypeId × Value → H} {w : World} {base : Nat} {spare : Nat → Bool} {held : Bool}
theorem cells23 : Tryd.prog.cellsOf 23 = 2 := by kernel_rfl
theorem cells77 : Tryd.prog.cellsOf 70 = 6 := by kernel_rfl
theorem cells27 : Tryd.prog.cellsOf 27 = 16 := by kernel_rfl
theorem cells3 : Tryd.prog.cellsOf 3 = 1 := by kernel_rfl
theorem cells24 : Tryd.prog.cellsOf 24 = 1 := by kernel_rfl
theorem cells25 : Tryd.prog.cellsOf 25 = 1 := by kernel_rfl
theorem field_of {fs : Array Field} {n : Nat} {cs : List Value} {xs : List (DataW H × List MemPlace)} (hg : ∀ (i : Nat) (f : Field), fs[i]? = some f → DataW.trod enc Tryd.prog w base spare held n f.type ((cs.drop f.offset).take (Tryd.prog.cellsOf f.type)) = xs[i]?)
    (i : Nat) (ty off k : Nat) (h : (fs[i]?).map (fun f => (f.type, f.offset)) = some (ty, off)) (hk : Tryd.prog.cellsOf ty = k) : DataW.trod enc Tryd.prog w base spare held n ty ((cs.drop off).take k) = xs[i]? := by
  obtain ⟨f, hf, he⟩ := Option.map_eq_some_iff.1 h
  have := hg i f hf
  obtain ⟨h1, h2⟩ := Prod.mk.injEq .. ▸ he
  rw [h1, h2, hk] at this
  exact this
theorem list_two {α : Type} {l : List α} (h : l.length = 2) : ∃ a b, l = [a, b] := by
  match l, h with
  | [a, b], _ => exact ⟨a, b, rfl⟩
theorem list_six {α : Type} {l : List α} (h : l.length = 6) : ∃ a b c d e f, l = [a, b, c, d, e, f] := by
  match l, h with
  | [a, b, c, d, e, f], _ => exact ⟨a, b, c, d, e, f, rfl⟩
theorem list_sixteen {α : Type} {l : List α} (h : l.length = 16) : ∃ a b c d e f g h' i j k m n o p q, l = [a, b, c, d, e, f, g, h', i, j, k, m, n, o, p, q] := by
  match l, h with
  | [a, b, c, d, e, f, g, h', i, j, k, m, n, o, p, q], _ => exact ⟨a, b, c, d, e, f, g, h', i, j, k, m, n, o, p, q, rfl⟩
theorem open_int1 {n : Nat} {v : Value} {o : Option (DataW H × List MemPlace)} {x : DataW H × List MemPlace} (h : DataW.trod enc Tryd.prog w base spare held n 3 [v] = o) (ho : o = some x) : ∃ z, v = .int .i64 z := by
  subst ho
  obtain ⟨z, hz, _⟩ := DataW.trod_int Tryd.underlying3 h
  exact ⟨z, by simpa using hz⟩
theorem open_span2 {n : Nat} {c0 c1 : Value} {o : Option (DataW H × List MemPlace)} {x : DataW H × List MemPlace} (h : DataW.trod enc Tryd.prog w base spare held n 23 [c0, c1] = o) (ho : o = some x) : ∃ a b, c0 = .int .i64 a ∧ c1 = .int .i64 b := by
  subst ho
  obtain ⟨xs, m, _, _, _, hlen, hg⟩ := DataW.trod_struct Tryd.underlying23 h
  have h0 := field_of hg 0 3 0 1 rfl cells3
  have h1 := field_of hg 1 3 1 1 rfl cells3
  obtain ⟨a, b, rfl⟩ := list_two (show xs.length = 2 from hlen)
  obtain ⟨z, rfl⟩ := open_int1 h0 rfl
  obtain ⟨y, rfl⟩ := open_int1 h1 rfl
  exact ⟨z, y, rfl, rfl⟩
theorem open_month6 {n : Nat} {cs : List Value} {x : DataW H × List MemPlace} (h : DataW.trod enc Tryd.prog w base spare held n 70 cs = some x) : ∃ m : Mon, cs = [encMon m 0, encMon m 1, encMon m 2, encMon m 3, encMon m 4, encMon m 5] := by
  obtain ⟨xs, m, _, _, hl, hlen, hg⟩ := DataW.trod_struct Tryd.underlying70 h
  rw [cells77] at hl
  obtain ⟨c0, c1, c2, c3, c4, c5, rfl⟩ := list_six hl
  have h0 := field_of hg 0 23 0 2 rfl cells23
  have h1 := field_of hg 1 23 2 2 rfl cells23
  have h2 := field_of hg 2 23 4 2 rfl cells23
  have hx : ∀ j, j < 3 → ∃ y, xs[j]? = some y := fun j hj => ⟨xs[j]'(by have : xs.length = 3 := hlen; omega), by simp⟩
  obtain ⟨_, e0⟩ := hx 0 (by decide)
  obtain ⟨_, e1⟩ := hx 1 (by decide)
  obtain ⟨_, e2⟩ := hx 2 (by decide)
  obtain ⟨a0, b0, rfl, rfl⟩ := open_span2 h0 e0
  obtain ⟨a1, b1, rfl, rfl⟩ := open_span2 h1 e1
  obtain ⟨a2, b2, rfl, rfl⟩ := open_span2 h2 e2
  exact ⟨⟨a0, b0, a1, b1, a2, b2⟩, rfl⟩
theorem addr_plain {a : Addr} {v : Value} (h : w.cell? a = some v) : ∃ b o, a = ⟨b, o, none⟩ ∧ b < w.heap.size := by
  obtain ⟨b, o, s⟩ := a
  unfold World.cell? at h
  split at h
  · rename_i c _ _ hb
    cases s with
    | some _ => simp at h
    | none => exact ⟨b, o, rfl, (Array.getElem?_eq_some_iff.1 hb).1⟩
  · cases h
theorem add_off (b o j : Nat) : (⟨b, o, none⟩ : Addr).add j = ⟨b, o + j, none⟩ := by
  unfold Addr.add
  split <;> simp_all
/-- A slice whose elements all read so, as the walks take it. -/
theorem open_atN {α : Type} [Inhabited α] {sz : Nat} {enc' : α → Nat → Value} {a : Addr} {n : Nat} (hsz : 0 < sz) (h : ∀ k, k < n → ∃ x : α, ∀ j, j < sz → w.cell? (a.add (k * sz + j)) = some (enc' x j)) : ∃ f : Nat → α, AtN sz enc' w w.heap.size (some a) n f := by
  classical
  rcases Nat.eq_zero_or_pos n with rfl | hn
  · exact ⟨fun _ => default, AtN.nil⟩
  obtain ⟨x0, hx0⟩ := h 0 hn
  obtain ⟨b, o, hab, hlt⟩ := addr_plain (hx0 0 hsz)
  obtain rfl : a = ⟨b, o, none⟩ := by simpa [Addr.add] using hab
  refine ⟨fun k => if hk : k < n then (h k hk).choose else default, fun _ => ⟨b, o, rfl, hlt, fun k hk j hj => ?_⟩⟩
  have := (h k hk).choose_spec j hj
  simp only [dif_pos hk]
  rw [← this, add_off, Nat.add_assoc]
instance : Inhabited Mon := ⟨⟨0, 0, 0, 0, 0, 0⟩⟩
theorem open_ints1 {n : Nat} {v : Value} {o : Option (DataW H × List MemPlace)} {x : DataW H × List MemPlace} (h : DataW.trod enc Tryd.prog w base spare held n 24 [v] = o) (ho : o = some x) :
    ∃ (a : Option Addr) (k c : Nat) (f : Nat → Int), v = .slice a k c ∧ k ≤ maxLen ∧ IntsAt w w.heap.size a k f := by
  subst ho
  rcases Deep.open_slice Tryd.underlying24 h with ⟨hcs, _⟩ | ⟨a, len, cap, m, n', D, Pl, hcs, _, hl, hm, hmm, _, hi⟩
  · exact ⟨none, 0, 0, fun _ => 0, by simpa using hcs, Nat.zero_le _, AtN.nil⟩
  · obtain ⟨f, hf⟩ := open_atN (w := w) (sz := 1) (enc' := encInt) (a := a) (n := len) (by decide) fun k hk => by
      obtain ⟨cs', hc, ht⟩ := hi k (by rw [hmm]; split <;> omega)
      obtain ⟨z, rfl, _⟩ := DataW.trod_int Tryd.underlying3 ht
      obtain ⟨_, _, hat⟩ := World.cells?_some hc
      refine ⟨z, fun j hj => ?_⟩
      have := hat 0 (by rw [cells3]; decide)
      rw [cells3] at this
      obtain rfl : j = 0 := by omega
      rw [Deep.add_add] at this; simpa [encInt] using this
    exact ⟨some a, len, cap, f, by simpa using hcs, by omega, hf⟩
theorem open_months1 {n : Nat} {v : Value} {o : Option (DataW H × List MemPlace)} {x : DataW H × List MemPlace} (h : DataW.trod enc Tryd.prog w base spare held n 25 [v] = o) (ho : o = some x) :
    ∃ (a : Option Addr) (k c : Nat) (f : Nat → Mon), v = .slice a k c ∧ k ≤ maxLen ∧ MonsAt w w.heap.size a k f := by
  subst ho
  rcases Deep.open_slice Tryd.underlying25 h with ⟨hcs, _⟩ | ⟨a, len, cap, m, n', D, Pl, hcs, _, hl, hm, hmm, _, hi⟩
  · exact ⟨none, 0, 0, fun _ => default, by simpa using hcs, Nat.zero_le _, AtN.nil⟩
  · obtain ⟨f, hf⟩ := open_atN (w := w) (sz := 6) (enc' := encMon) (a := a) (n := len) (by decide) fun k hk => by
      obtain ⟨cs', hc, ht⟩ := hi k (by rw [hmm]; split <;> omega)
      obtain ⟨z, rfl⟩ := open_month6 ht
      obtain ⟨_, _, hat⟩ := World.cells?_some hc
      rw [cells77] at hat
      refine ⟨z, fun j hj => ?_⟩
      have := hat j hj
      rw [← Deep.add_add]
      rw [this]
      match j, hj with
      | 0, _ => rfl
      | 1, _ => rfl
      | 2, _ => rfl
      | 3, _ => rfl
      | 4, _ => rfl
      | 5, _ => rfl
    exact ⟨some a, len, cap, f, by simpa using hcs, by omega, hf⟩
set_option maxRecDepth 100000 in
theorem open_islet {r : Reach} {b0 : Nat} {v : Value} {d : DataW H} {p : List MemPlace} (hv : Value.okWide Tryd.prog w r b0 27 v) (h : DataW.Trod enc Tryd.prog w base spare held 27 v d p) :
    ∃ (i : Isl) (wa : Option Addr) (wc : Nat) (ma : Option Addr) (mc : Nat), v = islV i wa wc ma mc ∧ IslAt w w.heap.size i wa ma := by
  obtain ⟨cs, rfl, hsz⟩ := okWide_struct Tryd.underlying27 hv
  rw [cells27] at hsz
  obtain ⟨fuel, hf⟩ := h
  obtain ⟨xs, n, _, _, _, hlen, hg⟩ := DataW.trod_struct Tryd.underlying27 hf
  obtain ⟨l⟩ := cs
  obtain ⟨c0, c1, c2, c3, c4, c5, c6, c7, c8, c9, c10, c11, c12, c13, c14, c15, rfl⟩ := list_sixteen (show l.length = 16 from hsz)
  have g0 := field_of hg 0 3 0 1 rfl cells3
  have g1 := field_of hg 1 23 1 2 rfl cells23
  have g2 := field_of hg 2 3 3 1 rfl cells3
  have g3 := field_of hg 3 3 4 1 rfl cells3
  have g4 := field_of hg 4 23 5 2 rfl cells23
  have g5 := field_of hg 5 23 7 2 rfl cells23
  have g6 := field_of hg 6 3 9 1 rfl cells3
  have g7 := field_of hg 7 3 10 1 rfl cells3
  have g8 := field_of hg 8 3 11 1 rfl cells3
  have g9 := field_of hg 9 24 12 1 rfl cells24
  have g10 := field_of hg 10 25 13 1 rfl cells25
  have g11 := field_of hg 11 3 14 1 rfl cells3
  have g12 := field_of hg 12 3 15 1 rfl cells3
  clear hg
  have hx : ∀ j, j < 13 → ∃ y, xs[j]? = some y := fun j hj => ⟨xs[j]'(by have : xs.length = 13 := hlen; omega), by simp⟩
  obtain ⟨_, x0⟩ := hx 0 (by decide)
  obtain ⟨_, x1⟩ := hx 1 (by decide)
  obtain ⟨_, x2⟩ := hx 2 (by decide)
  obtain ⟨_, x3⟩ := hx 3 (by decide)
  obtain ⟨_, x4⟩ := hx 4 (by decide)
  obtain ⟨_, x5⟩ := hx 5 (by decide)
  obtain ⟨_, x6⟩ := hx 6 (by decide)
  obtain ⟨_, x7⟩ := hx 7 (by decide)
  obtain ⟨_, x8⟩ := hx 8 (by decide)
  obtain ⟨_, x9⟩ := hx 9 (by decide)
  obtain ⟨_, x10⟩ := hx 10 (by decide)
  obtain ⟨_, x11⟩ := hx 11 (by decide)
  obtain ⟨_, x12⟩ := hx 12 (by decide)
  obtain ⟨cap, rfl⟩ := open_int1 g0 x0
  obtain ⟨sl, sh, rfl, rfl⟩ := open_span2 g1 x1
  obtain ⟨roof, rfl⟩ := open_int1 g2 x2
  obtain ⟨sand, rfl⟩ := open_int1 g3 x3
  obtain ⟨kl, kh, rfl, rfl⟩ := open_span2 g4 x4
  obtain ⟨ll, lh, rfl, rfl⟩ := open_span2 g5 x5
  obtain ⟨pump, rfl⟩ := open_int1 g6 x6
  obtain ⟨keep, rfl⟩ := open_int1 g7 x7
  obtain ⟨size, rfl⟩ := open_int1 g8 x8
  obtain ⟨wa, nw, wc, wf, rfl, hw1, hw2⟩ := open_ints1 g9 x9
  obtain ⟨ma, nm, mc, mf, rfl, hm1, hm2⟩ := open_months1 g10 x10
  obtain ⟨most, rfl⟩ := open_int1 g11 x11
  obtain ⟨row, rfl⟩ := open_int1 g12 x12
  exact ⟨⟨cap, sl, sh, roof, sand, kl, kh, ll, lh, pump, keep, size, nw, wf, nm, mf, most, row⟩, wa, wc, ma, mc, rfl, hw1, hm1, hw2, hm2⟩
end
end Go.Proofs.YtffdidleebognaaDoor
