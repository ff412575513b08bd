/- Readings of memory for layer 1's values, and small laws for walks. -/
import Derived.WalkKit
import Derived.Lib.Hide
import Derived.Test.YtfaboddhhepdiaaDoorProg
import Derived.Test.YtfaboddhhepdiaaDoorPure
namespace Go.Proofs.YtfaboddhhepdiaaDoor
open Go Go.RowKit
theorem ret_bool {a b : Bool} (h : a = b) : Ending.returned (.bool a) = .returned (.bool b) := by rw [h]
theorem ret_int {k : IntKind} {a b : Int} (h : a = b) : Ending.returned (.int k a) = .returned (.int k b) := by rw [h]
theorem calls_from {P : Program} {f : FuncId} {args : Array Value} {w W : World} {B : Nat} {Q : Ending → World → Prop}
    (h : Calls P f args w fun e w' => Q e w' ∧ Below w.heap.size w w') (hW : Below B W w) (hB : B ≤ w.heap.size) :
    Calls P f args w fun e w' => Q e w' ∧ Below B W w' ∧ B ≤ w'.heap.size ∧ (∀ b o, b < B → w'.cell? ⟨b, o, none⟩ = W.cell? ⟨b, o, none⟩) :=
  h.mono fun _ _ ⟨h1, h2⟩ => ⟨h1, hW.trans (h2.mono hB), Nat.le_trans hB h2.size, fun b o hb => (hW.trans (h2.mono hB)).cell (p := ⟨b, o, none⟩) hb⟩
theorem calls_sames {P : Program} {f : FuncId} {args : Array Value} {w : World} {Q : Ending → Prop}
    (h : Calls P f args w fun e w' => Q e ∧ w = w') : Calls P f args w fun e w' => Q e ∧ Below w.heap.size w w' :=
  h.mono fun _ _ ⟨h1, h2⟩ => ⟨h1, h2 ▸ Below.refl _ _⟩

/-- n elements of sz cells each, beginning at a, in a block below B. -/
def AtN {α : Type} (sz : Nat) (enc : α → Nat → Value) (w : World) (B : Nat) (a : Option Addr) (n : Nat) (f : Nat → α) : Prop :=
  0 < n → ∃ b off, a = some ⟨b, off, none⟩ ∧ b < B ∧ ∀ k, k < n → ∀ j, j < sz → w.cell? ⟨b, off + k * sz + j, none⟩ = some (enc (f k) j)
theorem AtN.below {α : Type} {sz : Nat} {enc : α → Nat → Value} {w w' : World} {B B' : Nat} {a : Option Addr} {n : Nat} {f : Nat → α}
    (h : AtN sz enc w B a n f) (hb : Below B w w') (hB : B ≤ B') : AtN sz enc w' B' a n f := by
  intro hn
  obtain ⟨b, off, rfl, hlt, hc⟩ := h hn
  exact ⟨b, off, rfl, by omega, fun k hk j hj => (hb.cell (p := ⟨b, _, none⟩) hlt).trans (hc k hk j hj)⟩
theorem AtN.below' {α : Type} {sz : Nat} {enc : α → Nat → Value} {w w' : World} {B : Nat} {a : Option Addr} {n : Nat} {f : Nat → α}
    (h : AtN sz enc w B a n f) (hb : Below B w w') : AtN sz enc w' B a n f := h.below hb (Nat.le_refl _)
theorem AtN.congr {α : Type} {sz : Nat} {enc : α → Nat → Value} {w : World} {B : Nat} {a : Option Addr} {n : Nat} {f g : Nat → α}
    (h : AtN sz enc w B a n f) (hfg : ∀ k, k < n → f k = g k) : AtN sz enc w B a n g := by
  intro hn
  obtain ⟨b, off, rfl, hlt, hc⟩ := h hn
  exact ⟨b, off, rfl, hlt, fun k hk j hj => by rw [← hfg k hk]; exact hc k hk j hj⟩
theorem AtN.nil {α : Type} {sz : Nat} {enc : α → Nat → Value} {w : World} {B : Nat} {a : Option Addr} {f : Nat → α} : AtN sz enc w B a 0 f := fun h => absurd h (by omega)
def encInt (x : Int) (_ : Nat) : Value := .int .i64 x
def encBool (x : Bool) (_ : Nat) : Value := .bool x
def encMon (m : Lens.Mon) : Nat → Value
  | 0 => .int .i64 m.wl | 1 => .int .i64 m.wh | 2 => .int .i64 m.dl | 3 => .int .i64 m.dh | 4 => .int .i64 m.nl | _ => .int .i64 m.nh
abbrev IntsAt := AtN 1 encInt
abbrev BoolsAt := AtN 1 encBool
abbrev MonsAt := AtN 6 encMon
theorem intsGet {w : World} {B : Nat} {a : Option Addr} {n : Nat} {f : Nat → Int} (h : IntsAt w B a n f) {k : Nat} (hk : k < n) :
    ∃ b off, a = some ⟨b, off, none⟩ ∧ b < B ∧ w.cell? ⟨b, off + k, none⟩ = some (.int .i64 (f k)) := by
  obtain ⟨b, off, rfl, hlt, hc⟩ := h (by omega)
  exact ⟨b, off, rfl, hlt, by simpa [encInt] using hc k hk 0 (by decide)⟩
theorem boolsGet {w : World} {B : Nat} {a : Option Addr} {n : Nat} {f : Nat → Bool} (h : BoolsAt w B a n f) {k : Nat} (hk : k < n) :
    ∃ b off, a = some ⟨b, off, none⟩ ∧ b < B ∧ w.cell? ⟨b, off + k, none⟩ = some (.bool (f k)) := by
  obtain ⟨b, off, rfl, hlt, hc⟩ := h (by omega)
  exact ⟨b, off, rfl, hlt, by simpa [encBool] using hc k hk 0 (by decide)⟩
theorem monsGet {w : World} {B : Nat} {a : Option Addr} {n : Nat} {f : Nat → Lens.Mon} (h : MonsAt w B a n f) {k : Nat} (hk : k < n) :
    ∃ b off, a = some ⟨b, off, none⟩ ∧ b < B ∧ w.cell? ⟨b, off + k * 6, none⟩ = some (.int .i64 (f k).wl) ∧ w.cell? ⟨b, off + k * 6 + 1, none⟩ = some (.int .i64 (f k).wh) ∧
      w.cell? ⟨b, off + k * 6 + 2, none⟩ = some (.int .i64 (f k).dl) ∧ w.cell? ⟨b, off + k * 6 + 3, none⟩ = some (.int .i64 (f k).dh) ∧
      w.cell? ⟨b, off + k * 6 + 4, none⟩ = some (.int .i64 (f k).nl) ∧ w.cell? ⟨b, off + k * 6 + 5, none⟩ = some (.int .i64 (f k).nh) := by
  obtain ⟨b, off, rfl, hlt, hc⟩ := h (by omega)
  exact ⟨b, off, rfl, hlt, hc k hk 0 (by decide), hc k hk 1 (by decide), hc k hk 2 (by decide), hc k hk 3 (by decide), hc k hk 4 (by decide), hc k hk 5 (by decide)⟩
/-- An islet's value: where its lists lie is open. -/
def islV (i : Lens.Isl) (wa : Option Addr) (wc : Nat) (ma : Option Addr) (mc : Nat) : Value :=
  .agg #[.int .i64 i.cap, .int .i64 i.sl, .int .i64 i.sh, .int .i64 i.roof, .int .i64 i.sand, .int .i64 i.kl, .int .i64 i.kh, .int .i64 i.ll, .int .i64 i.lh, .int .i64 i.pump, .int .i64 i.keep, .int .i64 i.size,
    .slice wa i.nw wc, .slice ma i.nm mc, .int .i64 i.most, .int .i64 i.row]
structure IslAt (w : World) (B : Nat) (i : Lens.Isl) (wa ma : Option Addr) : Prop where
  nw : i.nw ≤ maxLen
  nm : i.nm ≤ maxLen
  wells : IntsAt w B wa i.nw i.wells
  months : MonsAt w B ma i.nm i.months
theorem IslAt.below {w w' : World} {B B' : Nat} {i : Lens.Isl} {wa ma : Option Addr} (h : IslAt w B i wa ma) (hb : Below B w w') (hB : B ≤ B') : IslAt w' B' i wa ma :=
  ⟨h.nw, h.nm, h.wells.below hb hB, h.months.below hb hB⟩
def truV (t : Lens.Tru) (da : Option Addr) (dc : Nat) (ra : Option Addr) (rc : Nat) (na : Option Addr) (nc : Nat) : Value :=
  .agg #[.int .i64 t.start, .int .i64 t.soak, .int .i64 t.leak, .slice da t.nd dc, .slice ra t.nr rc, .slice na t.nn nc]
structure TruAt (w : World) (B : Nat) (t : Lens.Tru) (da ra na : Option Addr) : Prop where
  nd : t.nd ≤ maxLen
  nr : t.nr ≤ maxLen
  nn : t.nn ≤ maxLen
  dry : BoolsAt w B da t.nd t.dry
  rains : IntsAt w B ra t.nr t.rains
  needs : IntsAt w B na t.nn t.needs
theorem TruAt.below {w w' : World} {B B' : Nat} {t : Lens.Tru} {da ra na : Option Addr} (h : TruAt w B t da ra na) (hb : Below B w w') (hB : B ≤ B') : TruAt w' B' t da ra na :=
  ⟨h.nd, h.nr, h.nn, h.dry.below hb hB, h.rains.below hb hB, h.needs.below hb hB⟩

/-- What a list of operations leaves in the slots where nothing is called any more: what is guarded and not wanted is passed over. -/
def idle (ops : Array Oper) : List Oper → Act → Option Act
  | [], a => some a
  | o :: rest, a =>
    if Region.wanted o (yielded ops a.tmps) then
      match o.op with
      | .move x => idle ops rest (a.put o.dst (a.eval x))
      | .assign x => idle ops rest (a.put o.dst (a.eval x))
      | .pick c x y => match a.eval c with
        | .bool b => idle ops rest (a.put o.dst (if b then a.eval x else a.eval y))
        | _ => none
      | .unOp .not _ x => match a.eval x with
        | .bool b => idle ops rest (a.put o.dst (.bool (!b)))
        | _ => none
      | _ => none
    else idle ops rest (a.put o.dst undef)
theorem idle_some {P : Program} {ops : Array Oper} {Q : Exit → Act → World → Prop} {w : World} : ∀ (l : List Oper) (a a' : Act), idle ops l a = some a' →
    Q .normal a' w → wpList P ops Q l a w
  | [], a, a', h, hq => by simp only [idle, Option.some.injEq] at h; subst h; simpa [wpList] using hq
  | o :: rest, a, a', h, hq => by
    unfold wpList
    unfold idle at h
    by_cases hw : Region.wanted o (yielded ops a.tmps) = true
    · rw [if_pos hw]
      rw [if_pos hw] at h
      refine .inl ?_
      unfold Oper.wp
      cases hop : o.op with
      | move x => simp only [hop] at h; (have hr : (execOp a.eval o).run P w = .ok (.value (a.eval x)) w := by simp only [execOp, hop]; rfl); rw [hr]; exact idle_some rest _ _ h hq
      | assign x => simp only [hop] at h; (have hr : (execOp a.eval o).run P w = .ok (.value (a.eval x)) w := by simp only [execOp, hop]; rfl); rw [hr]; exact idle_some rest _ _ h hq
      | pick c x y =>
        simp only [hop] at h
        cases hb : a.eval c with
        | bool b =>
          simp only [hb] at h
          have hr : (execOp a.eval o).run P w = .ok (.value (if b then a.eval x else a.eval y)) w := by simp only [execOp, hop, hb]; rfl
          rw [hr]
          exact idle_some rest _ _ h hq
        | _ => simp [hb] at h
      | unOp u t x =>
        cases u with
        | not =>
          simp only [hop] at h
          cases hb : a.eval x with
          | bool b =>
            simp only [hb] at h
            have hr : (execOp a.eval o).run P w = .ok (.value (.bool (!b))) w := by simp only [execOp, hop, hb]; rfl
            rw [hr]
            exact idle_some rest _ _ h hq
          | _ => simp [hb] at h
        | _ => simp [hop] at h
      | _ => simp [hop] at h
    · rw [if_neg hw]
      rw [if_neg hw] at h
      exact idle_some rest _ _ h hq
theorem idle_sound {P : Program} {ops : Array Oper} {Q : Exit → Act → World → Prop} {w : World} {l : List Oper} {a : Act} (h : (idle ops l a).isSome = true)
    (hq : Q .normal ((idle ops l a).get h) w) : wpList P ops Q l a w := idle_some l a _ (Option.some_get h).symm hq
theorem b_undrew {B : Nat} {w w' : World} (h : Below B w w') : Below B w.drew w' := ⟨h.os, h.tape, h.output, h.size, h.block⟩
theorem b_drew {B : Nat} {W w : World} (h : Below B W w) : Below B W w.drew := h.drew
theorem b_alloc {B : Nat} {W w : World} {o : Obj} (h : Below B W w) (hB : B ≤ w.heap.size) : Below B W (w.alloc o) := h.alloc hB o
theorem b_set {B : Nat} {W w : World} {b k : Nat} {v : Value} (h : Below B W w) (hB : B ≤ b) : Below B W (w.setCell ⟨b, k, none⟩ v) := h.setCell (p := ⟨b, k, none⟩) hB v
end Go.Proofs.YtfaboddhhepdiaaDoor
