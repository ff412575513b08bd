/- The plain functions of layer 1, and facts about them: nothing of Go stands here. -/
import Derived.WalkKit
import Derived.Lib.Hide
import Derived.Test.YtffdidleebognaaDoorProg
namespace Lens
def isInB (n lo hi : Int) : Bool := decide (lo ≤ n) && decide (n ≤ hi)
theorem isInB_t {n lo hi : Int} (h1 : lo ≤ n) : isInB n lo hi = decide (n ≤ hi) := by simp [isInB, h1]
theorem isInB_f {n lo hi : Int} (h1 : n < lo) : isInB n lo hi = false := by simp [isInB]; omega
theorem isInB_iff {n lo hi : Int} : isInB n lo hi = true ↔ lo ≤ n ∧ n ≤ hi := by simp [isInB]
def isSpanB (lo hi m : Int) : Bool := decide (0 ≤ lo) && decide (lo ≤ hi) && decide (hi ≤ m)
theorem isSpanB_iff {lo hi m : Int} : isSpanB lo hi m = true ↔ 0 ≤ lo ∧ lo ≤ hi ∧ hi ≤ m := by simp [isSpanB, and_assoc]
def allTo : Nat → (Nat → Bool) → Bool
  | 0, _ => true
  | n + 1, p => allTo n p && p n
theorem allTo_iff {n : Nat} {p : Nat → Bool} : allTo n p = true ↔ ∀ k, k < n → p k = true := by
  induction n with
  | zero => simp [allTo]
  | succ n ih =>
    simp only [allTo, Bool.and_eq_true, ih]
    constructor
    · rintro ⟨h1, h2⟩ k hk
      rcases Nat.lt_succ_iff_lt_or_eq.1 hk with h | rfl
      · exact h1 k h
      · exact h2
    · exact fun h => ⟨fun k hk => h k (by omega), h n (by omega)⟩
theorem allTo_false {n k : Nat} {p : Nat → Bool} (hk : k < n) (h : p k = false) : allTo n p = false := by
  cases e : allTo n p with
  | false => rfl
  | true => have := allTo_iff.1 e k hk; rw [h] at this; cases this
theorem allTo_succ {n : Nat} {p : Nat → Bool} (h : allTo n p = true) (hp : p n = true) : allTo (n + 1) p = true := by simp [allTo, h, hp]
structure Mon where
  wl : Int
  wh : Int
  dl : Int
  dh : Int
  nl : Int
  nh : Int
def monB (m : Mon) : Bool := isSpanB m.wl m.wh 2000 && isSpanB m.dl m.dh 2000 && isSpanB m.nl m.nh 10000000 && decide (m.dl ≤ m.wl) && decide (m.dh ≤ m.wh)
structure Isl where
  cap : Int
  sl : Int
  sh : Int
  roof : Int
  sand : Int
  kl : Int
  kh : Int
  ll : Int
  lh : Int
  pump : Int
  keep : Int
  size : Int
  nw : Nat
  wells : Nat → Int
  nm : Nat
  months : Nat → Mon
  most : Int
  row : Int
def wellsB (n : Nat) (f : Nat → Int) (m : Int) : Bool := decide (n ≤ 4) && allTo n fun k => isInB (f k) 0 m
def monthsB (n : Nat) (f : Nat → Mon) : Bool := isInB n 1 8 && allTo n fun k => monB (f k)
def islB (i : Isl) : Bool := isInB i.cap 1 10000000 && isSpanB i.sl i.sh i.cap && isInB i.roof 0 100000 && isInB i.sand 0 10000000 && isSpanB i.kl i.kh 1000 && isSpanB i.ll i.lh 1000 &&
  isInB i.pump 0 10000000 && isInB i.size 0 10000000 && isInB i.keep 0 i.cap && wellsB i.nw i.wells i.cap && monthsB i.nm i.months && isInB i.most 0 i.nm && isInB i.row 0 i.nm
def tanksB (n : Int) : Bool := isInB n 0 40
structure Tru where
  start : Int
  soak : Int
  leak : Int
  nd : Nat
  dry : Nat → Bool
  nr : Nat
  rains : Nat → Int
  nn : Nat
  needs : Nat → Int
def drAll (d : Nat → Bool) : Nat → Nat
  | 0 => 0
  | k + 1 => if d k then drAll d k + 1 else drAll d k
def drRow (d : Nat → Bool) : Nat → Nat
  | 0 => 0
  | k + 1 => if d k then drRow d k + 1 else 0
theorem drAll_le (d : Nat → Bool) (k : Nat) : drAll d k ≤ k := by
  induction k with
  | zero => simp [drAll]
  | succ k ih => simp only [drAll]; split <;> omega
theorem drRow_le (d : Nat → Bool) (k : Nat) : drRow d k ≤ k := by
  induction k with
  | zero => simp [drRow]
  | succ k ih => simp only [drRow]; split <;> omega
def drOk (most row : Int) (d : Nat → Bool) (k : Nat) : Bool := !d k || (decide ((drAll d (k + 1) : Int) ≤ most) && decide ((drRow d (k + 1) : Int) ≤ row))
def drB (most row : Int) (n : Nat) (d : Nat → Bool) : Bool := allTo n (drOk most row d)
def rlo (m : Mon) (d : Bool) : Int := if d then m.dl else m.wl
def rhi (m : Mon) (d : Bool) : Int := if d then m.dh else m.wh
structure Seen where
  tanks : Int
  lens : Int
  lack : Int
structure Led where
  start : Int
  rain : Int
  used : Int
  leak : Int
  sea : Int
  kept : Int
structure Kn where
  tl : Int
  th : Int
  ll : Int
  lh : Int
  kl : Int
  kh : Int
/-- The first well below k that is salt. -/
def firstLow (i : Isl) (s : Seen) : Nat → Option Nat
  | 0 => none
  | k + 1 => match firstLow i s k with
    | some j => some j
    | none => if s.lens < i.wells k then some k else none
theorem firstLow_le {i : Isl} {s : Seen} {k j n : Nat} (h : firstLow i s k = some j) (hk : k ≤ n) : firstLow i s n = some j := by
  induction n with
  | zero =>
    obtain rfl : k = 0 := by omega
    exact h
  | succ n ih =>
    rcases (by omega : k ≤ n ∨ k = n + 1) with h1 | rfl
    · simp [firstLow, ih h1]
    · exact h
def wrongRule (i : Isl) (s : Seen) : Int := if 0 < s.lack then 2 else match firstLow i s i.nw with
  | some _ => 3
  | none => 1
def wrongWell (i : Isl) (s : Seen) : Int := if 0 < s.lack then 0 else match firstLow i s i.nw with
  | some j => j
  | none => 0
theorem wrongRule_lack {i : Isl} {s : Seen} (h : 0 < s.lack) : wrongRule i s = 2 := by simp [wrongRule, h]
theorem wrongWell_lack {i : Isl} {s : Seen} (h : 0 < s.lack) : wrongWell i s = 0 := by simp [wrongWell, h]
theorem wrongRule_fine {i : Isl} {s : Seen} (h : ¬ 0 < s.lack) (hn : firstLow i s i.nw = none) : wrongRule i s = 1 := by simp [wrongRule, h, hn]
theorem wrongWell_fine {i : Isl} {s : Seen} (h : ¬ 0 < s.lack) (hn : firstLow i s i.nw = none) : wrongWell i s = 0 := by simp [wrongWell, h, hn]
theorem firstLow_low {i : Isl} {s : Seen} {k : Nat} (hn : firstLow i s k = none) (hw : s.lens < i.wells k) (hk : k < i.nw) : firstLow i s i.nw = some k :=
  firstLow_le (k := k + 1) (by simp [firstLow, hn, hw]) hk
theorem wrongRule_low {i : Isl} {s : Seen} {k : Nat} (h : ¬ 0 < s.lack) (hn : firstLow i s k = none) (hw : s.lens < i.wells k) (hk : k < i.nw) : wrongRule i s = 3 := by simp [wrongRule, h, firstLow_low hn hw hk]
theorem wrongWell_low {i : Isl} {s : Seen} {k : Nat} (h : ¬ 0 < s.lack) (hn : firstLow i s k = none) (hw : s.lens < i.wells k) (hk : k < i.nw) : wrongWell i s = k := by simp [wrongWell, h, firstLow_low hn hw hk]
structure St where
  tanks : Int
  lens : Int
  lack : Int
  rain : Int
  used : Int
  leak : Int
  sea : Int
def stepSt (i : Isl) (full : Int) (t : Tru) (k : Nat) (s : St) : St :=
  let r1 := i.roof * t.rains k / 1000
  let r2 := i.sand * t.rains k * t.soak / 1000000
  let x1 := max 0 (s.tanks + r1 - full)
  let a := s.tanks + r1 - x1
  let x2 := max 0 (s.lens + r2 - i.cap)
  let b := s.lens + r2 - x2
  let g := b * t.leak / 1000
  let c := b - g
  let T := min (t.needs k) a
  let U := min (min (t.needs k - T) i.pump) (max 0 (c - i.keep))
  ⟨a - T, c - U, t.needs k - T - U, s.rain + r1 + r2, s.used + (T + U), s.leak + g, s.sea + x1 + x2⟩
def runTo (i : Isl) (tanks : Int) (t : Tru) : Nat → St
  | 0 => ⟨i.size * tanks, t.start, 0, 0, 0, 0, 0⟩
  | k + 1 => stepSt i (i.size * tanks) t k (runTo i tanks t k)
def seenOf (s : St) : Seen := ⟨s.tanks, s.lens, s.lack⟩
/-- What a followed islet needs: its numbers are in their bounds. -/
structure Fit (i : Isl) (tanks : Int) (t : Tru) : Prop where
  cap0 : 0 ≤ i.cap
  cap1 : i.cap ≤ 10000000
  roof0 : 0 ≤ i.roof
  roof1 : i.roof ≤ 100000
  sand0 : 0 ≤ i.sand
  sand1 : i.sand ≤ 10000000
  pump0 : 0 ≤ i.pump
  pump1 : i.pump ≤ 10000000
  keep0 : 0 ≤ i.keep
  keep1 : i.keep ≤ i.cap
  size0 : 0 ≤ i.size
  size1 : i.size ≤ 10000000
  tanks0 : 0 ≤ tanks
  tanks1 : tanks ≤ 40
  nm : i.nm ≤ 8
  start0 : 0 ≤ t.start
  start1 : t.start ≤ i.cap
  soak0 : 0 ≤ t.soak
  soak1 : t.soak ≤ 1000
  leak0 : 0 ≤ t.leak
  leak1 : t.leak ≤ 1000
  nr : t.nr = i.nm
  nn : t.nn = i.nm
  rain : ∀ k, k < i.nm → 0 ≤ t.rains k ∧ t.rains k ≤ 2000
  need : ∀ k, k < i.nm → 0 ≤ t.needs k ∧ t.needs k ≤ 10000000
structure StOk (i : Isl) (full : Int) (k : Int) (s : St) : Prop where
  t0 : 0 ≤ s.tanks
  t1 : s.tanks ≤ full
  l0 : 0 ≤ s.lens
  l1 : s.lens ≤ i.cap
  k0 : 0 ≤ s.lack
  k1 : s.lack ≤ 10000000
  r0 : 0 ≤ s.rain
  r1 : s.rain ≤ k * 30000000
  u0 : 0 ≤ s.used
  u1 : s.used ≤ k * 10000000
  g0 : 0 ≤ s.leak
  g1 : s.leak ≤ k * 10000000
  s0 : 0 ≤ s.sea
  s1 : s.sea ≤ k * 500000000
theorem full_le {i : Isl} {tanks : Int} {t : Tru} (h : Fit i tanks t) : 0 ≤ i.size * tanks ∧ i.size * tanks ≤ 400000000 := by
  have h1 := Int.mul_nonneg h.size0 h.tanks0
  have h2 : i.size * tanks ≤ 10000000 * 40 := Int.mul_le_mul h.size1 h.tanks1 h.tanks0 (by omega)
  omega
theorem roof_le {i : Isl} {tanks : Int} {t : Tru} (h : Fit i tanks t) {k : Nat} (hk : k < i.nm) : 0 ≤ i.roof * t.rains k / 1000 ∧ i.roof * t.rains k / 1000 ≤ 200000 := by
  obtain ⟨a, b⟩ := h.rain k hk
  have h1 := Int.mul_nonneg h.roof0 a
  have h2 : i.roof * t.rains k ≤ 100000 * 2000 := Int.mul_le_mul h.roof1 b a (by omega)
  omega
theorem sand_le {i : Isl} {tanks : Int} {t : Tru} (h : Fit i tanks t) {k : Nat} (hk : k < i.nm) : 0 ≤ i.sand * t.rains k * t.soak / 1000000 ∧ i.sand * t.rains k * t.soak / 1000000 ≤ 20000000 := by
  obtain ⟨a, b⟩ := h.rain k hk
  have h1 := Int.mul_nonneg h.sand0 a
  have h2 : i.sand * t.rains k ≤ 10000000 * 2000 := Int.mul_le_mul h.sand1 b a (by omega)
  have h3 := Int.mul_nonneg h1 h.soak0
  have h4 : i.sand * t.rains k * t.soak ≤ 10000000 * 2000 * 1000 := Int.mul_le_mul h2 h.soak1 h.soak0 (by omega)
  omega
theorem leak_le {b l : Int} (hb : 0 ≤ b) (h0 : 0 ≤ l) (h1 : l ≤ 1000) : 0 ≤ b * l / 1000 ∧ b * l / 1000 ≤ b := by
  have h2 := Int.mul_nonneg hb h0
  have h3 : b * l ≤ b * 1000 := Int.mul_le_mul_of_nonneg_left h1 hb
  omega
theorem stepSt_ok {i : Isl} {tanks : Int} {t : Tru} (h : Fit i tanks t) {k : Nat} (hk : k < i.nm) {s : St} (hs : StOk i (i.size * tanks) k s) : StOk i (i.size * tanks) (k + 1) (stepSt i (i.size * tanks) t k s) := by
  obtain ⟨f0, f1⟩ := full_le h
  obtain ⟨a0, a1⟩ := roof_le h hk
  obtain ⟨b0, b1⟩ := sand_le h hk
  obtain ⟨n0, n1⟩ := h.need k hk
  have c0 := h.cap0; have c1 := h.cap1; have p0 := h.pump0; have e0 := h.keep0
  obtain ⟨t0, t1, l0, l1, _, _, r0, r1, u0, u1, g0, g1, s0, s1⟩ := hs
  have hb : 0 ≤ s.lens + i.sand * t.rains k * t.soak / 1000000 - max 0 (s.lens + i.sand * t.rains k * t.soak / 1000000 - i.cap) := by omega
  obtain ⟨d0, d1⟩ := leak_le hb h.leak0 h.leak1
  constructor <;> simp only [stepSt] <;> omega
theorem runTo_ok {i : Isl} {tanks : Int} {t : Tru} (h : Fit i tanks t) {k : Nat} (hk : k ≤ i.nm) : StOk i (i.size * tanks) k (runTo i tanks t k) := by
  induction k with
  | zero =>
    have := full_le h
    have := h.start0; have := h.start1
    constructor <;> simp only [runTo] <;> omega
  | succ k ih => exact stepSt_ok h hk (ih (by omega))
end Lens

namespace Go.Proofs.YtffdidleebognaaDoor
open Go Go.RowKit
theorem ret_bool {a b : Bool} (h : a = b) : Ending.returned (.bool a) = .returned (.bool b) := by rw [h]
theorem ret_int {k : IntKind} {a b : Int} (h : a = b) : Ending.returned (.int k a) = .returned (.int k b) := by rw [h]
theorem calls_from {P : Program} {f : FuncId} {args : Array Value} {w W : World} {B : Nat} {Q : Ending → World → Prop}
    (h : Calls P f args w fun e w' => Q e w' ∧ Below w.heap.size w w') (hW : Below B W w) (hB : B ≤ w.heap.size) :
    Calls P f args w fun e w' => Q e w' ∧ Below B W w' ∧ B ≤ w'.heap.size ∧ (∀ b o, b < B → w'.cell? ⟨b, o, none⟩ = W.cell? ⟨b, o, none⟩) :=
  h.mono fun _ _ ⟨h1, h2⟩ => ⟨h1, hW.trans (h2.mono hB), Nat.le_trans hB h2.size, fun b o hb => (hW.trans (h2.mono hB)).cell (p := ⟨b, o, none⟩) hb⟩

/-- n elements of sz cells each, beginning at a, in a block below B. -/
def AtN {α : Type} (sz : Nat) (enc : α → Nat → Value) (w : World) (B : Nat) (a : Option Addr) (n : Nat) (f : Nat → α) : Prop :=
  0 < n → ∃ b off, a = some ⟨b, off, none⟩ ∧ b < B ∧ ∀ k, k < n → ∀ j, j < sz → w.cell? ⟨b, off + k * sz + j, none⟩ = some (enc (f k) j)
theorem AtN.below {α : Type} {sz : Nat} {enc : α → Nat → Value} {w w' : World} {B B' : Nat} {a : Option Addr} {n : Nat} {f : Nat → α}
    (h : AtN sz enc w B a n f) (hb : Below B w w') (hB : B ≤ B') : AtN sz enc w' B' a n f := by
  intro hn
  obtain ⟨b, off, rfl, hlt, hc⟩ := h hn
  exact ⟨b, off, rfl, by omega, fun k hk j hj => (hb.cell (p := ⟨b, _, none⟩) hlt).trans (hc k hk j hj)⟩
theorem AtN.below' {α : Type} {sz : Nat} {enc : α → Nat → Value} {w w' : World} {B : Nat} {a : Option Addr} {n : Nat} {f : Nat → α}
    (h : AtN sz enc w B a n f) (hb : Below B w w') : AtN sz enc w' B a n f := h.below hb (Nat.le_refl _)
theorem AtN.congr {α : Type} {sz : Nat} {enc : α → Nat → Value} {w : World} {B : Nat} {a : Option Addr} {n : Nat} {f g : Nat → α}
    (h : AtN sz enc w B a n f) (hfg : ∀ k, k < n → f k = g k) : AtN sz enc w B a n g := by
  intro hn
  obtain ⟨b, off, rfl, hlt, hc⟩ := h hn
  exact ⟨b, off, rfl, hlt, fun k hk j hj => by rw [← hfg k hk]; exact hc k hk j hj⟩
theorem AtN.nil {α : Type} {sz : Nat} {enc : α → Nat → Value} {w : World} {B : Nat} {a : Option Addr} {f : Nat → α} : AtN sz enc w B a 0 f := fun h => absurd h (by omega)
def encInt (x : Int) (_ : Nat) : Value := .int .i64 x
def encBool (x : Bool) (_ : Nat) : Value := .bool x
def encMon (m : Lens.Mon) : Nat → Value
  | 0 => .int .i64 m.wl | 1 => .int .i64 m.wh | 2 => .int .i64 m.dl | 3 => .int .i64 m.dh | 4 => .int .i64 m.nl | _ => .int .i64 m.nh
abbrev IntsAt := AtN 1 encInt
abbrev BoolsAt := AtN 1 encBool
abbrev MonsAt := AtN 6 encMon
theorem intsGet {w : World} {B : Nat} {a : Option Addr} {n : Nat} {f : Nat → Int} (h : IntsAt w B a n f) {k : Nat} (hk : k < n) :
    ∃ b off, a = some ⟨b, off, none⟩ ∧ b < B ∧ w.cell? ⟨b, off + k, none⟩ = some (.int .i64 (f k)) := by
  obtain ⟨b, off, rfl, hlt, hc⟩ := h (by omega)
  exact ⟨b, off, rfl, hlt, by simpa [encInt] using hc k hk 0 (by decide)⟩
theorem boolsGet {w : World} {B : Nat} {a : Option Addr} {n : Nat} {f : Nat → Bool} (h : BoolsAt w B a n f) {k : Nat} (hk : k < n) :
    ∃ b off, a = some ⟨b, off, none⟩ ∧ b < B ∧ w.cell? ⟨b, off + k, none⟩ = some (.bool (f k)) := by
  obtain ⟨b, off, rfl, hlt, hc⟩ := h (by omega)
  exact ⟨b, off, rfl, hlt, by simpa [encBool] using hc k hk 0 (by decide)⟩
theorem monsGet {w : World} {B : Nat} {a : Option Addr} {n : Nat} {f : Nat → Lens.Mon} (h : MonsAt w B a n f) {k : Nat} (hk : k < n) :
    ∃ b off, a = some ⟨b, off, none⟩ ∧ b < B ∧ w.cell? ⟨b, off + k * 6, none⟩ = some (.int .i64 (f k).wl) ∧ w.cell? ⟨b, off + k * 6 + 1, none⟩ = some (.int .i64 (f k).wh) ∧
      w.cell? ⟨b, off + k * 6 + 2, none⟩ = some (.int .i64 (f k).dl) ∧ w.cell? ⟨b, off + k * 6 + 3, none⟩ = some (.int .i64 (f k).dh) ∧
      w.cell? ⟨b, off + k * 6 + 4, none⟩ = some (.int .i64 (f k).nl) ∧ w.cell? ⟨b, off + k * 6 + 5, none⟩ = some (.int .i64 (f k).nh) := by
  obtain ⟨b, off, rfl, hlt, hc⟩ := h (by omega)
  exact ⟨b, off, rfl, hlt, hc k hk 0 (by decide), hc k hk 1 (by decide), hc k hk 2 (by decide), hc k hk 3 (by decide), hc k hk 4 (by decide), hc k hk 5 (by decide)⟩
/-- An islet's value: where its lists lie is open. -/
def islV (i : Lens.Isl) (wa : Option Addr) (wc : Nat) (ma : Option Addr) (mc : Nat) : Value :=
  .agg #[.int .i64 i.cap, .int .i64 i.sl, .int .i64 i.sh, .int .i64 i.roof, .int .i64 i.sand, .int .i64 i.kl, .int .i64 i.kh, .int .i64 i.ll, .int .i64 i.lh, .int .i64 i.pump, .int .i64 i.keep, .int .i64 i.size,
    .slice wa i.nw wc, .slice ma i.nm mc, .int .i64 i.most, .int .i64 i.row]
structure IslAt (w : World) (B : Nat) (i : Lens.Isl) (wa ma : Option Addr) : Prop where
  nw : i.nw ≤ maxLen
  nm : i.nm ≤ maxLen
  wells : IntsAt w B wa i.nw i.wells
  months : MonsAt w B ma i.nm i.months
theorem IslAt.below {w w' : World} {B B' : Nat} {i : Lens.Isl} {wa ma : Option Addr} (h : IslAt w B i wa ma) (hb : Below B w w') (hB : B ≤ B') : IslAt w' B' i wa ma :=
  ⟨h.nw, h.nm, h.wells.below hb hB, h.months.below hb hB⟩
def truV (t : Lens.Tru) (da : Option Addr) (dc : Nat) (ra : Option Addr) (rc : Nat) (na : Option Addr) (nc : Nat) : Value :=
  .agg #[.int .i64 t.start, .int .i64 t.soak, .int .i64 t.leak, .slice da t.nd dc, .slice ra t.nr rc, .slice na t.nn nc]
structure TruAt (w : World) (B : Nat) (t : Lens.Tru) (da ra na : Option Addr) : Prop where
  nd : t.nd ≤ maxLen
  nr : t.nr ≤ maxLen
  nn : t.nn ≤ maxLen
  dry : BoolsAt w B da t.nd t.dry
  rains : IntsAt w B ra t.nr t.rains
  needs : IntsAt w B na t.nn t.needs
theorem TruAt.below {w w' : World} {B B' : Nat} {t : Lens.Tru} {da ra na : Option Addr} (h : TruAt w B t da ra na) (hb : Below B w w') (hB : B ≤ B') : TruAt w' B' t da ra na :=
  ⟨h.nd, h.nr, h.nn, h.dry.below hb hB, h.rains.below hb hB, h.needs.below hb hB⟩

/-- What a list of operations leaves in the slots where nothing is called any more: what is guarded and not wanted is passed over. -/
def idle (ops : Array Oper) : List Oper → Act → Option Act
  | [], a => some a
  | o :: rest, a =>
    if Region.wanted o (yielded ops a.tmps) then
      match o.op with
      | .move x => idle ops rest (a.put o.dst (a.eval x))
      | .assign x => idle ops rest (a.put o.dst (a.eval x))
      | .pick c x y => match a.eval c with
        | .bool b => idle ops rest (a.put o.dst (if b then a.eval x else a.eval y))
        | _ => none
      | .unOp .not _ x => match a.eval x with
        | .bool b => idle ops rest (a.put o.dst (.bool (!b)))
        | _ => none
      | _ => none
    else idle ops rest (a.put o.dst undef)
theorem idle_some {P : Program} {ops : Array Oper} {Q : Exit → Act → World → Prop} {w : World} : ∀ (l : List Oper) (a a' : Act), idle ops l a = some a' →
    Q .normal a' w → wpList P ops Q l a w
  | [], a, a', h, hq => by simp only [idle, Option.some.injEq] at h; subst h; simpa [wpList] using hq
  | o :: rest, a, a', h, hq => by
    unfold wpList
    unfold idle at h
    by_cases hw : Region.wanted o (yielded ops a.tmps) = true
    · rw [if_pos hw]
      rw [if_pos hw] at h
      refine .inl ?_
      unfold Oper.wp
      cases hop : o.op with
      | move x => simp only [hop] at h; (have hr : (execOp a.eval o).run P w = .ok (.value (a.eval x)) w := by simp only [execOp, hop]; rfl); rw [hr]; exact idle_some rest _ _ h hq
      | assign x => simp only [hop] at h; (have hr : (execOp a.eval o).run P w = .ok (.value (a.eval x)) w := by simp only [execOp, hop]; rfl); rw [hr]; exact idle_some rest _ _ h hq
      | pick c x y =>
        simp only [hop] at h
        cases hb : a.eval c with
        | bool b =>
          simp only [hb] at h
          have hr : (execOp a.eval o).run P w = .ok (.value (if b then a.eval x else a.eval y)) w := by simp only [execOp, hop, hb]; rfl
          rw [hr]
          exact idle_some rest _ _ h hq
        | _ => simp [hb] at h
      | unOp u t x =>
        cases u with
        | not =>
          simp only [hop] at h
          cases hb : a.eval x with
          | bool b =>
            simp only [hb] at h
            have hr : (execOp a.eval o).run P w = .ok (.value (.bool (!b))) w := by simp only [execOp, hop, hb]; rfl
            rw [hr]
            exact idle_some rest _ _ h hq
          | _ => simp [hb] at h
        | _ => simp [hop] at h
      | _ => simp [hop] at h
    · rw [if_neg hw]
      rw [if_neg hw] at h
      exact idle_some rest _ _ h hq
theorem idle_sound {P : Program} {ops : Array Oper} {Q : Exit → Act → World → Prop} {w : World} {l : List Oper} {a : Act} (h : (idle ops l a).isSome = true)
    (hq : Q .normal ((idle ops l a).get h) w) : wpList P ops Q l a w := idle_some l a _ (Option.some_get h).symm hq
theorem b_undrew {B : Nat} {w w' : World} (h : Below B w w') : Below B w.drew w' := ⟨h.os, h.tape, h.output, h.size, h.block⟩
theorem b_drew {B : Nat} {W w : World} (h : Below B W w) : Below B W w.drew := h.drew
theorem b_alloc {B : Nat} {W w : World} {o : Obj} (h : Below B W w) (hB : B ≤ w.heap.size) : Below B W (w.alloc o) := h.alloc hB o
theorem b_set {B : Nat} {W w : World} {b k : Nat} {v : Value} (h : Below B W w) (hB : B ≤ b) : Below B W (w.setCell ⟨b, k, none⟩ v) := h.setCell (p := ⟨b, k, none⟩) hB v
end Go.Proofs.YtffdidleebognaaDoor
