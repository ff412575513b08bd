/- SE: runs of which something is told. Nothing of any program stands here. -/
import Derived.Test.YtffdidleebognaaDoorZR05
import Derived.IntWalk
/- SE 1: canonical memory under other numbers; runs from a function's entry on. -/
namespace Go.CE
open Go Go.RowKit

/-! ### Other numbers -/
/-- New numbers to old ones. -/
def rnA (ρ : Nat → Nat) (a : Addr) : Addr := match a.spot with
  | none => ⟨ρ a.block, a.off, none⟩
  | some _ => a
def rnS (ρ : Nat → Nat) : Value → Value
  | .pointer (some a) => .pointer (some (rnA ρ a))
  | .slice (some a) n c => .slice (some (rnA ρ a)) n c
  | .map (some r) => .map (some (ρ r))
  | .func (.yield l) xs ys => .func (.yield (ρ l)) xs ys
  | v => v
def rnV (ρ : Nat → Nat) : Nat → Value → Value
  | 0, v => rnS ρ v
  | f + 1, v => match v with
    | .func (.func g) xs ys => .func (.func g) (xs.map (rnV ρ f)) (ys.map (rnV ρ f))
    | .iface t x => .iface t (rnV ρ f x)
    | .agg xs => .agg (xs.map (rnV ρ f))
    | .tuple xs => .tuple (xs.map (rnV ρ f))
    | v => rnS ρ v
def okA (m : Nat) (a : Addr) : Bool := match a.spot with
  | none => Nat.blt a.block m
  | some _ => true
def okS (m : Nat) : Value → Bool
  | .pointer (some a) => okA m a
  | .slice (some a) _ _ => okA m a
  | .map (some r) => Nat.blt r m
  | .func (.yield l) _ _ => Nat.blt l m
  | .func (.func _) xs ys => Nat.beq xs.size 0 && Nat.beq ys.size 0
  | .iface _ _ | .agg _ | .tuple _ => false
  | _ => true
def okV (m : Nat) : Nat → Value → Bool
  | 0, v => okS m v
  | f + 1, v => match v with
    | .func (.func _) xs ys => xs.all (okV m f) && ys.all (okV m f)
    | .iface _ x => okV m f x
    | .agg xs => xs.all (okV m f)
    | .tuple xs => xs.all (okV m f)
    | v => okS m v
section
variable {μ μ1 : Mu} {ρ : Nat → Nat} {m : Nat}
theorem rnS_VR (hμ : ∀ b, b < m → ∀ im, μ (ρ b) = some im → μ1 b = some im) {v1 v' : Value} (ho : okS m v1 = true) (h : VR μ (rnS ρ v1) v') : VR μ1 v1 v' := by
  have lt : ∀ {b}, Nat.blt b m = true → b < m := fun h => Nat.le_of_ble_eq_true h
  cases v1 with
  | pointer a =>
    cases a with
    | none => cases h; exact .nilPtr
    | some a =>
      obtain ⟨b, o, sp⟩ := a
      cases sp with
      | none =>
        simp only [rnS, rnA] at h
        cases h with
        | ptr har =>
          obtain ⟨im, h1, _, rfl⟩ := har
          exact .ptr ⟨im, hμ b (lt ho) im h1, rfl, rfl⟩
      | some k =>
        simp only [rnS, rnA] at h
        cases h with
        | ptr har => obtain ⟨im, _, h2, _⟩ := har; cases h2
        | rawPtr => exact .rawPtr b o k
  | slice a n c =>
    cases a with
    | none => cases h; exact .nilSlice n c
    | some a =>
      obtain ⟨b, o, sp⟩ := a
      cases sp with
      | none =>
        simp only [rnS, rnA] at h
        cases h with
        | slice har h1 h2 h3 =>
          obtain ⟨im, hi, _, rfl⟩ := har
          have hi1 := hμ b (lt ho) im hi
          refine .slice ⟨im, hi1, rfl, rfl⟩ h1 h2 fun hs im' him' => ?_
          rw [hi1] at him'; cases him'
          exact h3 hs im hi
      | some k =>
        simp only [rnS, rnA] at h
        cases h with
        | slice har => obtain ⟨im, _, h2, _⟩ := har; cases h2
        | rawSlice => exact .rawSlice b o k n c
  | map r =>
    cases r with
    | none => cases h; exact .nilMap
    | some r =>
      simp only [rnS] at h
      cases h with
      | map hr => exact .map (hμ r (lt ho) _ hr)
  | func fn xs ys =>
    cases fn with
    | yield l =>
      simp only [rnS] at h
      cases h with
      | yield hl => exact .yield (hμ l (lt ho) _ hl)
    | func g =>
      simp only [okS, Bool.and_eq_true] at ho
      have e1 := Array.eq_empty_of_size_eq_zero (Nat.eq_of_beq_eq_true ho.1)
      have e2 := Array.eq_empty_of_size_eq_zero (Nat.eq_of_beq_eq_true ho.2)
      subst e1 e2
      simp only [rnS] at h
      cases h with
      | func h1 h2 _ _ => exact .func h1 h2 (fun i v v' hv _ => by simp at hv) (fun i v v' hv _ => by simp at hv)
    | method s => simp only [rnS] at h; cases h
    | methodOf t s => simp only [rnS] at h; cases h
    | via t p f q => simp only [rnS] at h; cases h
  | iface t v => cases ho
  | agg xs => cases ho
  | tuple xs => cases ho
  | bool b => cases h; exact .bool b
  | int k n => cases h; exact .int k n
  | string s => cases h; exact .string s
  | nilFunc => cases h; exact .nilFunc
  | nilIface => cases h; exact .nilIface
  | chan r =>
    simp only [rnS] at h
    cases h with
    | junk a b c => exact .junk a b c
  | float k b => simp only [rnS] at h; cases h
  | complex k a b => simp only [rnS] at h; cases h
theorem map_get {f : Value → Value} {xs : Array Value} {i : Nat} {v : Value} (h : xs[i]? = some v) : (xs.map f)[i]? = some (f v) := by simp [h]
theorem rnV_VR (hμ : ∀ b, b < m → ∀ im, μ (ρ b) = some im → μ1 b = some im) : ∀ (f : Nat) (v1 v' : Value), okV m f v1 = true → VR μ (rnV ρ f v1) v' → VR μ1 v1 v'
  | 0, v1, v', ho, h => rnS_VR hμ ho h
  | f + 1, v1, v', ho, h => by
    have arr : ∀ {xs xs' : Array Value}, xs.all (okV m f) = true → (∀ (i : Nat) v v', (xs.map (rnV ρ f))[i]? = some v → xs'[i]? = some v' → VR μ v v') → ∀ (i : Nat) v v', xs[i]? = some v → xs'[i]? = some v' → VR μ1 v v' := by
      intro xs xs' ha hx i v v' hv hv'
      exact rnV_VR hμ f v v' (Array.all_eq_true'.1 ha v (Array.mem_of_getElem? hv)) (hx i _ v' (map_get hv) hv')
    cases v1 with
    | agg xs =>
      cases h with
      | agg h1 h2 => exact .agg (by simpa using h1) (arr ho h2)
    | tuple xs =>
      cases h with
      | tuple h1 h2 => exact .tuple (by simpa using h1) (arr ho h2)
    | iface t v =>
      cases h with
      | iface h => exact .iface (rnV_VR hμ f v _ ho h)
    | func fn xs ys =>
      cases fn with
      | func g =>
        simp only [okV, Bool.and_eq_true] at ho
        cases h with
        | func h1 h2 h3 h4 => exact .func (by simpa using h1) (by simpa using h2) (arr ho.1 h3) (arr ho.2 h4)
      | _ => exact rnS_VR hμ ho h
    | _ => exact rnS_VR hμ ho h
end

/-! ### What nobody reads -/
/-- A value that stands for what it does wherever blocks lie. -/
def Loose (v : Value) : Prop := ∀ μ μ1 v', VR μ v v' → VR μ1 v v'
theorem loose_af {v : Value} (h : af v = true) : Loose v := fun _ _ _ hv => by rw [af_eq h hv]; exact vr_af h
theorem loose_junk : Loose (.chan none) := fun _ _ _ h => by
  cases h with
  | junk a b c => exact .junk a b c
theorem loose_agg {xs : Array Value} (h : ∀ x ∈ xs, Loose x) : Loose (.agg xs) := fun μ μ1 v' hv => by
  cases hv with
  | agg h1 h2 => exact .agg h1 fun i v v' a b => h v (Array.mem_of_getElem? a) μ μ1 v' (h2 i v v' a b)
theorem loose_tuple {xs : Array Value} (h : ∀ x ∈ xs, Loose x) : Loose (.tuple xs) := fun μ μ1 v' hv => by
  cases hv with
  | tuple h1 h2 => exact .tuple h1 fun i v v' a b => h v (Array.mem_of_getElem? a) μ μ1 v' (h2 i v v' a b)
theorem loose_func {g : FuncId} {xs ys : Array Value} (h : ∀ x ∈ xs, Loose x) (k : ∀ x ∈ ys, Loose x) : Loose (.func (.func g) xs ys) := fun μ μ1 v' hv => by
  cases hv with
  | func h1 h2 h3 h4 => exact .func h1 h2 (fun i v v' a b => h v (Array.mem_of_getElem? a) μ μ1 v' (h3 i v v' a b)) (fun i v v' a b => k v (Array.mem_of_getElem? a) μ μ1 v' (h4 i v v' a b))
theorem loose_iface {t : TypeId} {v : Value} (h : Loose v) : Loose (.iface t v) := fun μ μ1 v' hv => by
  cases hv with
  | iface hv => exact .iface (h μ μ1 _ hv)
theorem arr_ex {xs : Array Value} (h : ∀ x ∈ xs, ∃ d, Loose d ∧ ∀ μ v', VR μ x v' → VR μ d v') : ∃ ds : Array Value, ds.size = xs.size ∧ (∀ d ∈ ds, Loose d) ∧ ∀ μ (xs' : Array Value), (∀ (i : Nat) v v', xs[i]? = some v → xs'[i]? = some v' → VR μ v v') → ∀ (i : Nat) v v', ds[i]? = some v → xs'[i]? = some v' → VR μ v v' := by
  have h' : ∀ i : Fin xs.size, ∃ d, Loose d ∧ ∀ μ v', VR μ xs[i] v' → VR μ d v' := fun i => h xs[i] (Array.getElem_mem i.2)
  refine ⟨Array.ofFn fun i => Classical.choose (h' i), by simp, fun d hd => ?_, fun μ xs' hx i v v' hv hv' => ?_⟩
  · obtain ⟨i, hi⟩ := Array.mem_ofFn.1 hd
    rw [← hi]
    exact (Classical.choose_spec (h' i)).1
  · rw [Array.getElem?_ofFn] at hv
    split at hv
    · rename_i hi
      simp only [Option.some.injEq] at hv
      subst hv
      exact (Classical.choose_spec (h' ⟨i, hi⟩)).2 μ v' (hx i _ v' (by simp [hi]) hv')
    · cases hv
theorem forget_ex (v : Value) : ∃ d, Loose d ∧ ∀ μ v', VR μ v v' → VR μ d v' := by
  have junk : ∀ {v : Value}, (∀ μ v', VR μ v v' → (∀ b, v' ≠ .bool b) ∧ v'.cells = #[v'] ∧ v'.oneCell' = true) → ∃ d, Loose d ∧ ∀ μ v', VR μ v v' → VR μ d v' :=
    fun h => ⟨.chan none, loose_junk, fun μ v' hv => .junk (h μ v' hv).1 (h μ v' hv).2.1 (h μ v' hv).2.2⟩
  match v with
  | .agg xs =>
    obtain ⟨ds, e, hl, hd⟩ := arr_ex (xs := xs) fun x _ => forget_ex x
    refine ⟨.agg ds, loose_agg hl, fun μ v' hv => ?_⟩
    cases hv with
    | agg h1 h2 => exact .agg (e.trans h1) (hd μ _ h2)
  | .tuple xs =>
    obtain ⟨ds, e, hl, hd⟩ := arr_ex (xs := xs) fun x _ => forget_ex x
    refine ⟨.tuple ds, loose_tuple hl, fun μ v' hv => ?_⟩
    cases hv with
    | tuple h1 h2 => exact .tuple (e.trans h1) (hd μ _ h2)
  | .func (.func g) xs ys =>
    obtain ⟨ds, e, hl, hd⟩ := arr_ex (xs := xs) fun x _ => forget_ex x
    obtain ⟨es, e', hl', hd'⟩ := arr_ex (xs := ys) fun x _ => forget_ex x
    refine ⟨.func (.func g) ds es, loose_func hl hl', fun μ v' hv => ?_⟩
    cases hv with
    | func h1 h2 h3 h4 => exact .func (e.trans h1) (e'.trans h2) (hd μ _ h3) (hd' μ _ h4)
  | .iface t x =>
    obtain ⟨d, hl, hd⟩ := forget_ex x
    refine ⟨.iface t d, loose_iface hl, fun μ v' hv => ?_⟩
    cases hv with
    | iface hv => exact .iface (hd μ _ hv)
  | .bool b => exact ⟨_, loose_af rfl, fun _ _ h => h⟩
  | .int k n => exact ⟨_, loose_af rfl, fun _ _ h => h⟩
  | .string s => exact ⟨_, loose_af rfl, fun _ _ h => h⟩
  | .nilFunc => exact ⟨_, loose_af rfl, fun _ _ h => h⟩
  | .nilIface => exact ⟨_, loose_af rfl, fun _ _ h => h⟩
  | .chan r => exact junk fun μ v' h => by cases h with | junk a b c => exact ⟨a, b, c⟩
  | .pointer a => exact junk fun μ v' h => by cases h <;> exact ⟨(fun b e => by cases e), rfl, rfl⟩
  | .slice a n c => exact junk fun μ v' h => by cases h <;> exact ⟨(fun b e => by cases e), rfl, rfl⟩
  | .map r => exact junk fun μ v' h => by cases h <;> exact ⟨(fun b e => by cases e), rfl, rfl⟩
  | .func (.yield l) xs ys => exact junk fun μ v' h => by cases h <;> exact ⟨(fun b e => by cases e), rfl, rfl⟩
  | .func (.method s) xs ys => exact junk fun μ v' h => by cases h
  | .func (.methodOf t s) xs ys => exact junk fun μ v' h => by cases h
  | .func (.via t p f q) xs ys => exact junk fun μ v' h => by cases h
  | .float k b => exact junk fun μ v' h => by cases h
  | .complex k a b => exact junk fun μ v' h => by cases h
termination_by SizeOf.sizeOf v
decreasing_by
  all_goals simp_wf
  all_goals first
    | (have := Array.sizeOf_lt_of_mem ‹_ ∈ _›; omega)
    | omega
end Go.CE
/-! ### Values of which nothing is at an address of this memory -/
namespace Go.CE
open Go Go.RowKit
def rawO : Option Addr → Option Addr
  | none => none
  | some ⟨b, o, none⟩ => some ⟨b, o, some 0⟩
  | some ⟨b, o, some k⟩ => some ⟨b, o, some (k + 1)⟩
def rawS (a : Option Addr) (n c : Nat) : Value := .slice (rawO a) n c
theorem vr_rawS (μ : Mu) (a : Option Addr) (n c : Nat) : VR μ (rawS a n c) (.slice a n c) := by
  cases a with
  | none => exact .nilSlice n c
  | some a =>
    obtain ⟨b, o, sp⟩ := a
    cases sp with
    | none => exact .rawSlice b o 0 n c
    | some k => exact .rawSlice b o (k + 1) n c
theorem rawS_eq {μ : Mu} {a : Option Addr} {n c : Nat} {v' : Value} (h : VR μ (rawS a n c) v') : v' = .slice a n c := by
  cases a with
  | none => cases h; rfl
  | some a =>
    obtain ⟨b, o, sp⟩ := a
    cases sp with
    | none =>
      simp only [rawS, rawO] at h
      cases h with
      | slice har => obtain ⟨im, _, h2, _⟩ := har; cases h2
      | rawSlice => rfl
    | some k =>
      simp only [rawS, rawO] at h
      cases h with
      | slice har => obtain ⟨im, _, h2, _⟩ := har; cases h2
      | rawSlice => rfl
theorem loose_rawS (a : Option Addr) (n c : Nat) : Loose (rawS a n c) := fun μ μ1 v' h => by
  rw [rawS_eq h]; exact vr_rawS μ1 a n c
end Go.CE
/- SE 2: runs from a function's entry on; blocks that nobody needs any more are dropped, and the others numbered anew. -/
namespace Go.CE
open Go Go.RowKit

/-- A run from an entry, at which there are n blocks, to where a frame is later. -/
structure GoE (P : Program) (B : Lo) (c0 : CF) (H0 : Heap) (n : Nat) (c' : CF) (H' : Heap) (n' : Nat) (W : List Nat) : Prop where
  under : Under H' n'
  le : n ≤ n'
  sem : ∀ (μ : Mu) (w : World) (fr : Frame) (cs : List Frame), Ok B (fun i => i < n) μ (hget H0) w → B.has w → (∀ i, n ≤ i → μ i = none) → FrR Bot.no μ c0 fr →
    ∃ fr' w' μ', Post B (fun i => i < n) n n' W μ μ' H0 H' w w' ∧ FrR Bot.no μ' c' fr' ∧ fr'.roundOf = fr.roundOf ∧ fr'.fn = fr.fn ∧ Steps P (lone fr cs w) (lone fr' cs w')
section
variable {P : Program} {B : Lo} {c0 c1 c2 : CF} {H0 H1 H2 : Heap} {n n1 n2 : Nat} {W W1 W2 R2 : List Nat}
theorem GoE.refl (hu : Under H0 n) : GoE P B c0 H0 n c0 H0 n [] :=
  ⟨hu, Nat.le_refl _, fun μ w fr _ hok _ _ hfr => ⟨fr, w, μ, Post.refl hok, hfr, rfl, rfl, Steps.refl _ _⟩⟩
theorem GoE.lists (h : GoE P B c0 H0 n c1 H1 n1 W) (hW : ∀ i, i < n → (i ∈ W1 ↔ i ∈ W)) : GoE P B c0 H0 n c1 H1 n1 W1 :=
  ⟨h.under, h.le, fun μ w fr cs hok hB hf hfr => let ⟨fr', w', μ', hp, a⟩ := h.sem μ w fr cs hok hB hf hfr; ⟨fr', w', μ', hp.lists hW, a⟩⟩
theorem GoE.step (h : GoE P B c0 H0 n c1 H1 n1 W1) (k : GoJ P B c1 H1 n1 c2 H2 n2 R2 W2) : GoE P B c0 H0 n c2 H2 n2 (W1 ++ W2) := by
  refine ⟨h.under.shape k.shape, Nat.le_trans h.le k.shape.le, fun μ w fr cs hok hB hf hfr => ?_⟩
  have le1 := h.le
  obtain ⟨fr1, w1, μ1, hp, hfr1, hr, hfn, hst⟩ := h.sem μ w fr cs hok hB hf hfr
  obtain ⟨fr2, w2, μ2, hp2, hfr2, hr2, hfn2, hst2⟩ := k.sem _ μ1 w1 fr1 cs Bot.no hp.ok (hB.post hok hp) (fun i hi => hi.elim (fun e => by omega) (fun e => e.2)) (fun q a b => by rw [hp.ext q (by omega)]; exact hf q (by omega)) hfr1
    (fun q _ hlt => by
      rcases Nat.lt_or_ge q n with h1 | h1
      · exact .inl h1
      · exact .inr ⟨h1, hlt⟩)
  exact ⟨fr2, w2, μ2, hp.trans hp2, hfr2, hr2.trans hr, hfn2.trans hfn, hst.trans hst2⟩
/-- To the end of the frame. -/
theorem GoE.fj {out : OO} (h : GoE P B c0 H0 n c1 H1 n1 W1) (k : FJ P B c1 H1 n1 out H2 n2 R2 W2) (μ : Mu) (w : World) (fr : Frame) (cs : List Frame) (hok : Ok B (fun i => i < n) μ (hget H0) w) (hB : B.has w) (hf : ∀ i, n ≤ i → μ i = none) (hfr : FrR Bot.no μ c0 fr) :
    ∃ out' w' μ', Post B (fun i => i < n) n n2 (W1 ++ W2) μ μ' H0 H2 w w' ∧ OR2 μ' out out' ∧ EndsAs P fr cs w out' w' := by
  have le1 := h.le
  obtain ⟨fr1, w1, μ1, hp, hfr1, hr, hfn, hst⟩ := h.sem μ w fr cs hok hB hf hfr
  obtain ⟨out', w2, μ2, hp2, ho, he⟩ := k.sem _ μ1 w1 fr1 cs hp.ok (hB.post hok hp) (fun i hi => hi.elim (fun e => by omega) (fun e => e.2)) (fun q a b => by rw [hp.ext q (by omega)]; exact hf q (by omega)) hfr1
    (fun q _ hlt => by
      rcases Nat.lt_or_ge q n with h1 | h1
      · exact .inl h1
      · exact .inr ⟨h1, hlt⟩)
  exact ⟨out', w2, μ2, hp.trans hp2, ho, he.of_steps hst hr hfn⟩
end

/-! ### Other numbers for blocks -/
/-- An object in which no other numbers than those below a stand. -/
def FixO (a : Nat) : Obj → Prop
  | .cells cs _ _ => ∀ v ∈ cs, Loose v ∨ okV a 3 v = true
  | .loop r => ∀ v ∈ r.tmps, Loose v ∨ okV a 3 v = true
  | .deferred _ => True
  | .map es _ => ∀ (i : Nat) e, es[i]? = some e → Loose e.val
  | _ => False
theorem rnS_id {ρ : Nat → Nat} {a : Nat} (h : ∀ b, b < a → ρ b = b) {v : Value} (ho : okS a v = true) : rnS ρ v = v := by
  have lt : ∀ {b}, Nat.blt b a = true → ρ b = b := fun hb => h _ (Nat.le_of_ble_eq_true hb)
  have adr : ∀ x : Addr, okA a x = true → rnA ρ x = x := by
    rintro ⟨b, o, sp⟩ hx
    cases sp with
    | none => simp only [rnA, lt hx]
    | some k => rfl
  cases v with
  | pointer x => cases x with
    | none => rfl
    | some x => simp only [rnS, adr x ho]
  | slice x n c => cases x with
    | none => rfl
    | some x => simp only [rnS, adr x ho]
  | map r => cases r with
    | none => rfl
    | some r => simp only [rnS, lt ho]
  | func fn xs ys => cases fn with
    | yield l => simp only [rnS, lt ho]
    | _ => rfl
  | _ => rfl
theorem rnV_id {ρ : Nat → Nat} {a : Nat} (h : ∀ b, b < a → ρ b = b) : ∀ (f : Nat) (v : Value), okV a f v = true → rnV ρ f v = v
  | 0, v, ho => by
    show rnS ρ v = v
    exact rnS_id h (a := a) (by simpa only [okV] using ho)
  | f + 1, v, ho => by
    have arr : ∀ xs : Array Value, xs.all (okV a f) = true → xs.map (rnV ρ f) = xs := fun xs hx => by
      refine Array.ext (by simp) fun i h1 h2 => ?_
      rw [Array.getElem_map]
      exact rnV_id h f _ (Array.all_eq_true.1 hx i h2)
    cases v with
    | agg xs => simp only [rnV, arr xs ho]
    | tuple xs => simp only [rnV, arr xs ho]
    | iface t x => simp only [rnV, rnV_id h f x ho]
    | func fn xs ys =>
      cases fn with
      | func g =>
        simp only [okV, Bool.and_eq_true] at ho
        simp only [rnV, arr xs ho.1, arr ys ho.2]
      | _ => exact rnS_id (a := a) h (by simpa only [okV] using ho)
    | _ => exact rnS_id (a := a) h (by simpa only [okV] using ho)
inductive RO (ρ : Nat → Nat) (m : Nat) : Obj → Obj → Prop
  | fix {a o} : (∀ b, b < a → ρ b = b) → a ≤ m → FixO a o → RO ρ m o o
  | same {cs t fz} : (∀ v ∈ cs, Loose v) → RO ρ m (.cells cs t fz) (.cells cs t fz)
  | ren {cs t fz} : cs.all (okV m 3) = true → RO ρ m (.cells cs t fz) (.cells (cs.map (rnV ρ 3)) t fz)
theorem RO.live {ρ : Nat → Nat} {m : Nat} {o1 o : Obj} (h : RO ρ m o1 o) : live o := by
  cases h with
  | fix _ _ h => cases o1 <;> first | trivial | exact h.elim
  | _ => trivial
theorem RO.or {ρ : Nat → Nat} {m : Nat} {μ μ1 : Mu} {w : World} {im : Img} {o1 o : Obj} (h : RO ρ m o1 o) (hμ : ∀ b, b < m → ∀ im, μ (ρ b) = some im → μ1 b = some im) (hor : OR μ w im o) : OR μ1 w im o1 := by
  cases h with
  | fix hid hle hfix =>
    rename_i a
    have key : ∀ v v', (Loose v ∨ okV a 3 v = true) → VR μ v v' → VR μ1 v v' := fun v v' hv hr => by
      rcases hv with hv | hv
      · exact hv _ _ _ hr
      · have hidv := rnV_id hid 3 v hv
        refine rnV_VR (m := a) (fun b hb im him => hμ b (by omega) im him) 3 v v' hv ?_
        rw [hidv]; exact hr
    cases o1 with
    | cells cs t fz =>
      rcases hor with ⟨h1, h2, h3, arr, h4, h5, h6, h7⟩ | ⟨h1, h2⟩
      · exact .inl ⟨h1, h2, h3, arr, h4, h5, h6, fun i v hv => let ⟨v', x, y⟩ := h7 i v hv; ⟨v', x, key v v' (hfix v (Array.mem_of_getElem? hv)) y⟩⟩
      · exact .inr ⟨h1, fun i v hv => let ⟨v', x, y⟩ := h2 i v hv; ⟨v', x, key v v' (hfix v (Array.mem_of_getElem? hv)) y⟩⟩
    | loop r =>
      obtain ⟨h1, tm, df, h2, h3⟩ := hor
      exact ⟨h1, tm, df, h2, h3.1, fun i v v' x y => key v v' (hfix v (Array.mem_of_getElem? x)) (h3.2 i v v' x y)⟩
    | deferred ds => exact hor
    | map es clk =>
      obtain ⟨h1, es', h2, h3, h4⟩ := hor
      exact ⟨h1, es', h2, h3, fun i e e' x y => let ⟨p, q, r, s⟩ := h4 i e e' x y; ⟨p, q, r, hfix i e x _ _ _ s⟩⟩
    | _ => exact hfix.elim
  | same ha =>
    rename_i cs t fz
    have key : ∀ (i : Nat) v v', cs[i]? = some v → VR μ v v' → VR μ1 v v' := fun i v v' hv hr => ha v (Array.mem_of_getElem? hv) _ _ _ hr
    rcases hor with ⟨h1, h2, h3, arr, h4, h5, h6, h7⟩ | ⟨h1, h2⟩
    · exact .inl ⟨h1, h2, h3, arr, h4, h5, h6, fun i v hv => let ⟨v', a, b⟩ := h7 i v hv; ⟨v', a, key i v v' hv b⟩⟩
    · exact .inr ⟨h1, fun i v hv => let ⟨v', a, b⟩ := h2 i v hv; ⟨v', a, key i v v' hv b⟩⟩
  | ren ha =>
    rename_i cs t fz
    have key : ∀ (i : Nat) v v', cs[i]? = some v → VR μ (rnV ρ 3 v) v' → VR μ1 v v' := fun i v v' hv hr =>
      rnV_VR hμ 3 v v' (Array.all_eq_true'.1 ha v (Array.mem_of_getElem? hv)) hr
    rcases hor with ⟨h1, h2, h3, arr, h4, h5, h6, h7⟩ | ⟨h1, h2⟩
    · exact .inl ⟨h1, h2, h3, arr, h4, by simpa using h5, h6, fun i v hv => let ⟨v', a, b⟩ := h7 i _ (map_get hv); ⟨v', a, key i v v' hv b⟩⟩
    · exact .inr ⟨h1, fun i v hv => let ⟨v', a, b⟩ := h2 i _ (map_get hv); ⟨v', a, key i v v' hv b⟩⟩
/-- Which blocks stay, in which order, and that they are as told. -/
structure Keeps (n n' n1 : Nat) (W : List Nat) (H H' H1 : Heap) (ρ : Nat → Nat) : Prop where
  le : n ≤ n1
  id : ∀ i, i < n → ρ i = i
  rng : ∀ i, n ≤ i → i < n1 → n ≤ ρ i ∧ ρ i < n'
  inj : ∀ i j, n ≤ i → i < n1 → n ≤ j → j < n1 → ρ i = ρ j → i = j
  under : Under H1 n1
  old : ∀ i, i < n → i ∉ W → hget H1 i = hget H i
  obj : ∀ i o1, i < n1 → (n ≤ i ∨ i ∈ W) → hget H1 i = some o1 → ∃ o, hget H' (ρ i) = some o ∧ RO ρ n1 o1 o
def cmu (n n1 : Nat) (ρ : Nat → Nat) (μ μ' : Mu) : Mu := fun i => if n ≤ i ∧ i < n1 then μ' (ρ i) else μ i
theorem Post.compact {B n n' n1 : Nat} {W : List Nat} {μ μ' : Mu} {H H' H1 : Heap} {w w' : World} {ρ : Nat → Nat} (hok : Ok B (fun i => i < n) μ (hget H) w) (hf : ∀ i, n ≤ i → μ i = none) (hp : Post B (fun i => i < n) n n' W μ μ' H H' w w') (k : Keeps n n' n1 W H H' H1 ρ) :
    Post B (fun i => i < n) n n1 W μ (cmu n n1 ρ μ μ') H H1 w w' ∧ ∀ b, b < n1 → ∀ im, μ' (ρ b) = some im → cmu n n1 ρ μ μ' b = some im := by
  have le1 := k.le
  have hmu : ∀ b, b < n1 → ∀ im, μ' (ρ b) = some im → cmu n n1 ρ μ μ' b = some im := by
    intro b hb im him
    unfold cmu
    by_cases h : n ≤ b
    · rw [if_pos ⟨h, hb⟩]; exact him
    · rw [if_neg (by omega)]
      rw [k.id b (by omega), hp.ext b (by omega)] at him
      exact him
  have hlow : ∀ i, i < n → cmu n n1 ρ μ μ' i = μ i := fun i hi => by unfold cmu; rw [if_neg (by omega)]
  have hhigh : ∀ i, n ≤ i → i < n1 → cmu n n1 ρ μ μ' i = μ' (ρ i) := fun i h1 h2 => by unfold cmu; rw [if_pos ⟨h1, h2⟩]
  have hext : Ext μ (cmu n n1 ρ μ μ') := by
    intro i im him
    rcases Nat.lt_or_ge i n with h | h
    · rw [hlow i h]; exact him
    · rw [hf i h] at him; cases him
  -- an object of the new heap: an old one that was left, or one of the run
  have split : ∀ i o1, i < n1 → hget H1 i = some o1 → live o1 → (i < n ∧ i ∉ W ∧ hget H i = some o1) ∨ ((n ≤ i ∨ i ∈ W) ∧ ∃ o, hget H' (ρ i) = some o ∧ RO ρ n1 o1 o) := by
    intro i o1 hi ho hl
    by_cases h : n ≤ i ∨ i ∈ W
    · exact .inr ⟨h, k.obj i o1 hi h ho⟩
    · have hh : i < n ∧ i ∉ W := ⟨by omega, fun e => h (.inr e)⟩
      exact .inl ⟨hh.1, hh.2, by rw [← k.old i hh.1 hh.2]; exact ho⟩
  have other : ∀ i o im, i < n → i ∉ W → hget H i = some o → live o → μ i = some im → w'.heap[im.blk]? = w.heap[im.blk]? := by
    intro i o im hi hw ho hl him
    refine hp.frame _ (hok.low i o im hi ho hl him).1 fun q hq hqn im' him' hb => ?_
    obtain ⟨_, ⟨oq, hoq, hlq⟩, im2, him2, hr⟩ := hp.wr q hq hqn
    rw [him'] at him2; cases him2
    by_cases hra : im.rw = true
    · exact hok.inj q i oq o im' im hqn hi (fun e => hw (e ▸ hq)) hoq ho hlq hl him' him hr hra hb
    · have a := (hok.low i o im hi ho hl him).2.2 (by simpa using hra)
      have b := (hok.low q oq im' hqn hoq hlq him').2.1 hr
      omega
  have hS' : ∀ i, i < n1 → (ρ i < n ∨ n ≤ ρ i ∧ ρ i < n') := by
    intro i hi
    rcases Nat.lt_or_ge i n with h | h
    · exact .inl (by rw [k.id i h]; exact h)
    · exact .inr (k.rng i h hi)
  have hmuR : ∀ i, i < n1 → cmu n n1 ρ μ μ' i = μ' (ρ i) := by
    intro i hi
    rcases Nat.lt_or_ge i n with h | h
    · rw [hlow i h, k.id i h, hp.ext i (by omega)]
    · exact hhigh i h hi
  have hall : ∀ i, (i < n ∨ n ≤ i ∧ i < n1) → i < n1 := fun i hi => hi.elim (fun e => by omega) (fun e => e.2)
  have liveH' : ∀ i o1, i < n1 → hget H1 i = some o1 → live o1 → ∃ o, hget H' (ρ i) = some o ∧ live o := by
    intro i o1 hi ho hl
    rcases split i o1 hi ho hl with ⟨h1, h2, h3⟩ | ⟨_, o, h1, h2⟩
    · exact ⟨o1, by rw [k.id i h1, hp.keep i h1 h2]; exact h3, hl⟩
    · exact ⟨o, h1, h2.live⟩
  have hinj : ∀ i j, i < n1 → j < n1 → ρ i = ρ j → i = j := by
    intro i j hi hj e
    rcases Nat.lt_or_ge i n with h | h <;> rcases Nat.lt_or_ge j n with h' | h'
    · rw [k.id i h, k.id j h'] at e; exact e
    · have := k.rng j h' hj; rw [k.id i h] at e; omega
    · have := k.rng i h hi; rw [k.id j h'] at e; omega
    · exact k.inj i j h hi h' hj e
  refine ⟨⟨⟨fun i o hi ho hl => ?_, fun i o im hi ho hl him => ?_, fun i j oi oj a b hi hj hij hoi hoj hli hlj ha hb hra hrb => ?_⟩, le1, fun i hi => ?_, fun i hi hw => k.old i hi hw, hp.grow, hp.frame, hp.wr, fun i im o h1 h2 ho hl him => ?_, hp.os, hp.tape, hp.output⟩, hmu⟩
  · have hi1 := hall i hi
    rcases split i o hi1 ho hl with ⟨h1, h2, h3⟩ | ⟨_, o', h1, h2⟩
    · obtain ⟨im, him, hor⟩ := hok.rel i o h1 h3 hl
      exact ⟨im, hext _ _ him, hor.keep hext (other i o im h1 h2 h3 hl him)⟩
    · obtain ⟨im, him, hor⟩ := hp.ok.rel (ρ i) o' (hS' i hi1) h1 h2.live
      exact ⟨im, hmu i hi1 im him, h2.or hmu hor⟩
  · have hi1 := hall i hi
    obtain ⟨o', h1, h2⟩ := liveH' i o hi1 ho hl
    rw [hmuR i hi1] at him
    exact hp.ok.low (ρ i) o' im (hS' i hi1) h1 h2 him
  · have hi1 := hall i hi
    have hj1 := hall j hj
    obtain ⟨o1, h1, h2⟩ := liveH' i oi hi1 hoi hli
    obtain ⟨o2, h3, h4⟩ := liveH' j oj hj1 hoj hlj
    rw [hmuR i hi1] at ha
    rw [hmuR j hj1] at hb
    exact hp.ok.inj (ρ i) (ρ j) o1 o2 a b (hS' i hi1) (hS' j hj1) (fun e => hij (hinj i j hi1 hj1 e)) h1 h3 h2 h4 ha hb hra hrb
  · unfold cmu; rw [if_neg hi]
  · obtain ⟨o', h3, h4⟩ := liveH' i o h2 ho hl
    rw [hmuR i h2] at him
    obtain ⟨a, b⟩ := k.rng i h1 h2
    obtain ⟨hr, hfr⟩ := hp.fresh (ρ i) im o' a b h3 h4 him
    refine ⟨hr, hfr.imp id fun ⟨q, hq, hqn, hb, hd⟩ => ⟨q, hq, hqn, hb, fun oq hoq hlq => ?_⟩⟩
    obtain ⟨oq', h5, h6⟩ := liveH' q oq (by omega) hoq hlq
    rw [k.id q hqn] at h5
    exact hd oq' h5 h6

/-! ### Temporaries of a loop's head -/
def look : List (Nat × Value) → Nat → Value → Value
  | [], _, d => d
  | (a, v) :: l, t, d => bif Nat.beq a t then v else look l t d
theorem look_cases (l : List (Nat × Value)) (t : Nat) (d : Value) : look l t d = d ∨ ∃ v, (t, v) ∈ l ∧ look l t d = v := by
  induction l with
  | nil => exact .inl rfl
  | cons p l ih =>
    obtain ⟨a, v⟩ := p
    cases hb : Nat.beq a t with
    | true =>
      have := Nat.eq_of_beq_eq_true hb
      subst this
      exact .inr ⟨v, by simp, by simp [look]⟩
    | false =>
      simp only [look, hb, cond_false]
      exact ih.imp id fun ⟨v, h1, h2⟩ => ⟨v, List.mem_cons_of_mem _ h1, h2⟩
def mkL (live : List (Nat × Value)) (d : Nat → Value) : Nat → Nat → List Value
  | 0, _ => []
  | k + 1, t => look live t (d t) :: mkL live d k (t + 1)
theorem mkL_length (live : List (Nat × Value)) (d : Nat → Value) : ∀ (k t : Nat), (mkL live d k t).length = k
  | 0, _ => rfl
  | k + 1, t => by simp [mkL, mkL_length live d k]
theorem mkL_get (live : List (Nat × Value)) (d : Nat → Value) : ∀ (k t i : Nat), i < k → (mkL live d k t).getD i undef = look live (t + i) (d (t + i))
  | 0, _, i, h => by omega
  | k + 1, t, 0, _ => rfl
  | k + 1, t, i + 1, h => by
    have := mkL_get live d k (t + 1) i (by omega)
    rw [show t + (i + 1) = t + 1 + i by omega, ← this]
    rfl
/-- Temporaries, of which those that are read later are told. -/
def mkT (len : Nat) (live : List (Nat × Value)) (d : Nat → Value) : Tm := ofList len (mkL live d len 0)
theorem mkT_get {len : Nat} {live : List (Nat × Value)} {d : Nat → Value} (hl : len ≤ 16000) (t : Nat) : tget (mkT len live d) t = if t < len then look live t (d t) else undef := by
  have h := ofL_get (mkL live d len 0) 0 .lf t (by rw [mkL_length]; omega)
  have e : tget (mkT len live d) t = (ofL (mkL live d len 0) 0 .lf).get t := rfl
  rw [e, h]
  simp only [Nat.zero_le, true_and, Nat.zero_add, mkL_length, Nat.sub_zero, Tri.get_lf]
  split
  · rename_i ht
    rw [mkL_get live d len 0 t ht, Nat.zero_add]
  · rfl
theorem TR.compact {μ' μ1 : Mu} {ρ : Nat → Nat} {n1 : Nat} {T' : Tm} {A : Array Value} {len : Nat} {live : List (Nat × Value)} (h : TR μ' T' A) (hμ : ∀ b, b < n1 → ∀ im, μ' (ρ b) = some im → μ1 b = some im) (hlen : T'.len = len) (hl : len ≤ 16000)
    (hlive : ∀ p ∈ live, okV n1 3 p.2 = true ∧ tget T' p.1 = rnV ρ 3 p.2) {d : Nat → Value} (hd : ∀ t, Loose (d t) ∧ ∀ μ v', VR μ (tget T' t) v' → VR μ (d t) v') : TR μ1 (mkT len live d) A := by
  refine ⟨hlen ▸ h.1, fun t => ?_⟩
  rw [mkT_get hl]
  have ht := h.2 t
  split
  · rcases look_cases live t (d t) with e | ⟨v, hv, e⟩
    · rw [e]
      exact (hd t).1 μ' μ1 _ ((hd t).2 μ' _ ht)
    · rw [e]
      obtain ⟨a, b⟩ := hlive _ hv
      rw [b] at ht
      exact rnV_VR hμ 3 v _ a ht
  · rename_i hlt
    have : A.getD t undef = undef := by
      have : A.size ≤ t := by rw [← h.1, hlen]; omega
      simp [this]
    rw [this]
    exact VR.undef
def plainItem : Item → Bool
  | .endRangeFunc _ => false
  | .inRangeFunc _ => false
  | _ => true
theorem TodoR.plain {μ μ1 : Mu} {l L : List Item} (h : TodoR μ l L) (hp : l.all plainItem = true) : TodoR μ1 l L := by
  induction h with
  | nil => exact .nil
  | cons hi _ ih =>
    simp only [List.all_cons, Bool.and_eq_true] at hp
    refine .cons ?_ (ih hp.2)
    cases hi with
    | code c => exact .code c
    | inBlock id => exact .inBlock id
    | inLoop c => exact .inLoop c
    | inScope c => exact .inScope c
    | beginRound => exact .beginRound
    | endRF h => cases hp.1
/-- A frame at a loop's head. -/
def headC (f : FuncId) (len : Nat) (live : List (Nat × Value)) (d : Nat → Value) (todo : List Item) : CF := ⟨f, mkT len live d, todo, [], .run, none⟩
theorem GoE.compact {P : Program} {B : Lo} {c0 c' : CF} {H0 H' H1 : Heap} {n n' n1 : Nat} {W W1 : List Nat} {ρ : Nat → Nat} {len : Nat} {live : List (Nat × Value)} {todo : List Item} {f : FuncId} (h : GoE P B c0 H0 n c' H' n' W) (hW : ∀ i, i < n → (i ∈ W1 ↔ i ∈ W)) (k : Keeps n n' n1 W1 H0 H' H1 ρ)
    (hfn : c'.fn = f) (hlen : c'.tmps.len = len) (hl : len ≤ 16000) (htodo : c'.todo = todo) (hplain : todo.all plainItem = true) (hds : c'.defers = []) (hm : c'.mode = .run) (hr : c'.roundOf = none)
    (hlive : ∀ p ∈ live, okV n1 3 p.2 = true ∧ tget c'.tmps p.1 = rnV ρ 3 p.2) :
    ∃ d : Nat → Value, (∀ t, Loose (d t)) ∧ GoE P B c0 H0 n (headC f len live d todo) H1 n1 W1 := by
  have hd : ∀ t, ∃ d, Loose d ∧ ∀ μ v', VR μ (tget c'.tmps t) v' → VR μ d v' := fun t => forget_ex _
  refine ⟨fun t => Classical.choose (hd t), fun t => (Classical.choose_spec (hd t)).1, k.under, k.le, fun μ w fr cs hok hB hf hfr => ?_⟩
  obtain ⟨fr', w', μ', hp, hfr', a, b, hst⟩ := h.sem μ w fr cs hok hB hf hfr
  obtain ⟨hp1, hmu⟩ := (hp.lists hW).compact hok hf k
  have hpans : c'.mode.pans = false := by rw [hm]; rfl
  refine ⟨fr', w', _, hp1, ⟨by rw [hfr'.fn, hfn]; rfl, hfr'.tmps.compact hmu hlen hl hlive fun t => Classical.choose_spec (hd t), fun _ => (htodo ▸ hfr'.todo hpans).plain hplain, ?_, ?_, hfr'.kind, ?_⟩, a, b, hst⟩
  · have := hfr'.defers
    rw [hds] at this
    exact .of_empty this.empty
  · have := hfr'.mode
    rw [hm] at this
    generalize fr'.mode = ds at this
    cases this
    exact .run
  · have := hfr'.round
    rw [hr] at this
    generalize fr'.roundOf = x at this
    cases x with
    | none => trivial
    | some x => cases this
end Go.CE
/- SE 3: operations of which something is told that the kernel can't reckon, as numbers are not known. -/
namespace Go.CE
open Go Go.RowKit

/-! ### What is told of an operation -/
inductive Hint where
  | val (v : Value)
  | idx (k : Nat)
  | ld (v : Value)
  | raw (v : Value)
  | len (n : Nat)
  | eq (b : Bool)
  | app (cs : Array Value)
  | mk (m : Nat) (cs : Array Value)
  | st (cs : Array Value)
  | call (keys : List Nat) (out : Value) (ups : Heap) (n' : Nat) (W : List Nat)
  | look (v : Value)
  | upd (es : Array MapEntry) (clk : Nat)
  | nil
def veq : Value → Value → Prop
  | .int k a, .int k' b => bif decide (k = k') then a = b else False
  | .bool a, .bool b => a = b
  | u, v => u = v
theorem veq_eq {u v : Value} (h : veq u v) : u = v := by
  unfold veq at h
  split at h
  · rename_i k a k' b
    by_cases e : k = k'
    · simp only [e, decide_true, cond_true] at h
      rw [e, h]
    · simp [e] at h
  · rw [h]
  · exact h
def plainSpot : Option Nat → Bool
  | none => true
  | some 0 => true
  | _ => false
def SliceLen (v : Value) (m : Nat) : Prop := ∀ μ v', VR μ v v' → ∃ a c, v' = .slice a m c
theorem cPart_run' {P : Program} {t : TypeId} {cs : Array Value} {off : Nat} {v : Value} (h : cPart P t cs off = some v) (w : World) : (part t cs off).run P w = .ok v w := by
  unfold cPart at h
  cases ha : aggT P t with
  | none => rw [ha] at h; cases h
  | some b =>
    rw [ha] at h
    cases b with
    | true =>
      cases hs : szOf P t with
      | none => rw [hs] at h; cases h
      | some s =>
        rw [hs] at h
        dsimp only at h
        cases hb : Nat.ble (off + s) cs.size with
        | false => rw [hb] at h; cases h
        | true =>
          rw [hb] at h
          simp only [cond_true, Option.some.injEq] at h
          subst h
          simp only [part, Sem.run_bind, aggT_run ha, Result.andThen_ok, if_true, szOf_run hs, Sem.run_pure]
    | false =>
      simp only at h
      simp only [part, Sem.run_bind, aggT_run ha, Result.andThen_ok, h]
      rfl
/-- An aggregate that stands for itself. -/
def loosePart (v : Value) : Bool := af v
/-! ### Comparisons of structs -/
def eqFs (P : Program) (rec : TypeId → Value → Value → Option Bool) : List Field → Array Value → Array Value → Option Bool
  | [], _, _ => some true
  | f :: fs, xs, ys => bif decide (f.name = "_") then eqFs P rec fs xs ys else
    match cPart P f.type xs f.offset, cPart P f.type ys f.offset with
    | some a, some b => match rec f.type a b, eqFs P rec fs xs ys with
      | some r, some q => some (r && q)
      | _, _ => none
    | _, _ => none
def eqT (P : Program) : Nat → TypeId → Value → Value → Option Bool
  | 0, _, _, _ => none
  | d + 1, t, x, y => match und P t, x, y with
    | some (.int _), .int k a, .int k' b => bif decide (k = k') then some (eqq a b) else none
    | some .bool, .bool a, .bool b => some (bif a then b else !b)
    | some (.struct fs), .agg xs, .agg ys => bif P.stoodInHeld t then none else eqFs P (eqT P d) fs.toList xs ys
    | _, _, _ => none
theorem eqFs_run {P : Program} {rec : TypeId → Value → Value → Option Bool} (d : Nat) (hrec : ∀ t x y r, rec t x y = some r → ∀ (D : Nat) (w : World), d ≤ D → (Op.equalIn D t x y).run P w = .ok r w) : ∀ (fs : List Field) (xs ys : Array Value) (r : Bool), eqFs P rec fs xs ys = some r → ∀ (D : Nat) (w : World), d ≤ D → (Op.eqFields D xs ys fs).run P w = .ok r w
  | [], xs, ys, r, h, D, w, hD => by
    simp only [eqFs, Option.some.injEq] at h
    subst h
    simp [Op.eqFields]
  | f :: fs, xs, ys, r, h, D, w, hD => by
    unfold eqFs at h
    by_cases e : f.name = "_"
    · simp only [e, decide_true, cond_true] at h
      simp only [Op.eqFields, e, ne_eq, not_true_eq_false, if_false]
      exact eqFs_run d hrec fs xs ys r h D w hD
    · simp only [e, decide_false, cond_false] at h
      split at h
      · rename_i a b ha hb
        split at h
        · rename_i r1 q h1 h2
          simp only [Option.some.injEq] at h
          subst h
          have pa : (part f.type xs f.offset).run P w = .ok a w := cPart_run' ha w
          have pb : (part f.type ys f.offset).run P w = .ok b w := cPart_run' hb w
          simp only [Op.eqFields, e, ne_eq, not_false_eq_true, if_true, Sem.run_bind, pa, Result.andThen_ok, pb, hrec f.type a b r1 h1 D w hD]
          cases r1 with
          | true => simpa using eqFs_run d hrec fs xs ys q h2 D w hD
          | false => simp
        · cases h
      · cases h
theorem eqT_run {P : Program} : ∀ (d : Nat) (t : TypeId) (x y : Value) (r : Bool), eqT P d t x y = some r → ∀ (D : Nat) (w : World), d ≤ D → (Op.equalIn D t x y).run P w = .ok r w
  | 0, t, x, y, r, h, D, w, hD => by simp [eqT] at h
  | d + 1, t, x, y, r, h, D, w, hD => by
    obtain ⟨D, rfl⟩ : ∃ e, D = e + 1 := ⟨D - 1, by omega⟩
    unfold eqT at h
    simp only [und_eq] at h
    split at h
    · rename_i k0 k a k' b hu
      by_cases e : k = k'
      · subst e
        simp only [decide_true, cond_true, Option.some.injEq] at h
        rw [run_equalIn_int w D t k k0 a b hu, ← h, eqq_eq]
      · simp [e] at h
    · rename_i a b hu
      simp only [Option.some.injEq] at h
      rw [run_equalIn_bool' w D t a b hu, ← h]
      cases a <;> cases b <;> rfl
    · rename_i fs xs ys hu
      cases hs : P.stoodInHeld t with
      | true => rw [hs] at h; cases h
      | false =>
        rw [hs] at h
        simp only [cond_false] at h
        have hf : P.fieldsOf t = fs := by simp [Program.fieldsOf, hu]
        rw [run_equalIn_struct w D t xs ys (by rw [hf]; exact hu) hs, hf]
        exact eqFs_run d (eqT_run d) fs.toList xs ys r h D w (by omega)
    · cases h
/-- A cell of memory that nobody writes. -/
def RawCell (B : Lo) (b off : Nat) (v : Value) : Prop := ∀ w, B.has w → ∃ v', w.cell? ⟨b, off, none⟩ = some v' ∧ ∀ μ, VR μ v v'
def CallJ (P : Program) (B : Lo) (g : FuncId) (args : Array Value) (H : Heap) (n : Nat) (out : OO) (H' : Heap) (n' : Nat) (R W : List Nat) : Prop :=
  Shape H n H' n' R W ∧ ∀ (S : Nat → Prop) (μ : Mu) (w : World) (args' : Array Value) (cs : List Frame), Ok B S μ (hget H) w → B.has w → (∀ i, S i → i < n) → Free μ n n' → VRs μ args args' → (∀ i ∈ R, i < n → S i) →
    ∃ out' w' μ', Post B S n n' W μ μ' H H' w w' ∧ OR2 μ' out out' ∧ EndsAs P (Frame.enter P g args' .normal) cs w out' w'
/-- What a call comes to, in whatever heap that has some blocks. -/
def CJ (P : Program) (B : Lo) (g : FuncId) (args : Array Value) (Hs : List (Nat × Option Obj)) (n : Nat) (out : Value) (ups : Heap) (n' : Nat) (W : List Nat) : Prop :=
  ∀ H, Under H n → (∀ p ∈ Hs, hget H p.1 = p.2) → CallJ P B g args H n (.ret out) (ups ++ H) n' (Hs.map (·.1)) W
/-- What a frame comes to, in whatever heap that has some blocks. -/
def RJ (P : Program) (B : Lo) (c : CF) (Hs : List (Nat × Option Obj)) (n : Nat) (out : Value) (ups : Heap) (n' : Nat) (W : List Nat) : Prop :=
  ∀ H, Under H n → (∀ p ∈ Hs, hget H p.1 = p.2) → FJ P B c H n (.ret out) (ups ++ H) n' (Hs.map (·.1)) W
open Classical in
/-- Of one frame it is known what it comes to. -/
noncomputable def recOne (c : CF) (H1 : Heap) (n : Nat) (s : Rs) : CF → Heap → Nat → Option Rs := fun c' H' m' => if c' = c ∧ H' = H1 ∧ m' = n then some s else none
theorem recOne_eq (c : CF) (H1 : Heap) (n : Nat) (s : Rs) : recOne c H1 n s c H1 n = some s := by simp [recOne]
theorem RJ.recS {P : Program} {B : Lo} {c : CF} {H1 : Heap} {n : Nat} {out : Value} {ups : Heap} {n' : Nat} {W keys : List Nat} (hu : Under H1 n) (h : RJ P B c (keys.map fun k => (k, hget H1 k)) n out ups n' W) : RecS P B (recOne c H1 n ⟨.ret out, ups ++ H1, n', keys, W⟩) := by
  intro c' H' m' s _ hs
  unfold recOne at hs
  split at hs
  · rename_i q
    obtain ⟨rfl, rfl, rfl⟩ := q
    simp only [Option.some.injEq] at hs
    subst hs
    have := h H' hu (fun p hp => by
      obtain ⟨k, _, rfl⟩ := List.mem_map.1 hp
      rfl)
    rw [List.map_map] at this
    have e : keys.map ((fun p : Nat × Option Obj => p.1) ∘ fun k => (k, hget H' k)) = keys := List.map_id' _
    rw [e] at this
    exact this
  · cases hs
structure Told where
  s : Rs
  p : Option Prop
def appH (P : Program) (t : TypeId) (H : Heap) (n : Nat) (s x : Value) (cs' : Array Value) : Option (CR × Prop) :=
  match und P t with
  | some (.slice e) => match inf P e with
    | some i => match i.zero, i.size with
      | some zv, z + 1 => match s with
        | .slice (some ⟨b, 0, none⟩) k s' => match hget H b with
          | some (.cells cs te (0, 0)) => match newsOf H (z + 1) x with
            | some (ns, m, bx) => bif Nat.beq te e && Nat.beq s' (z + 1) && ones ns && Nat.beq zv.cells.size (z + 1) && Nat.blt 0 m then
                some (⟨.val (.slice (some ⟨n, 0, none⟩) (k + m) (z + 1)), (n, .cells cs' e (0, 0)) :: killo H (some b), n + 1, [bx, b], [b]⟩, cs.size = k * (z + 1) ∧ k + m ≤ maxLen ∧ (k + m) * i.bytes ≤ 140737488355328 ∧ cs ++ ns = cs')
              else none
            | none => none
          | _ => none
        | _ => none
      | _, _ => none
    | none => none
  | _ => none
/-- An operation of which nothing is told, or something. -/

def MapGet (P : Program) (t : TypeId) (es : Array MapEntry) (ok : Bool) (k v : Value) : Prop := ∀ H r clk, hget H r = some (.map es clk) → cLookup P t H ok (.map (some r)) k = some (v, [r])
def MapPut (P : Program) (t : TypeId) (es : Array MapEntry) (clk : Nat) (k v : Value) (es' : Array MapEntry) (clk' : Nat) : Prop := ∀ H r, hget H r = some (.map es clk) → cMapUpdate P t H (.map (some r)) k v = some (hset H r (.map es' clk'), r)
def opH (P : Program) (F : FuncId → Bool) (B : Lo) (T : Tm) (o : Oper) (H : Heap) (n : Nat) : Option Hint → Option Told
  | none => match o.op with
    | .fieldAddr s x f => match evC T x with
      | some (.pointer (some ⟨b, off, some 0⟩)) => match cFieldAddr P s f (.pointer (some ⟨b, off, none⟩)) with
        | some (.pointer (some ⟨b', off', none⟩)) => some ⟨⟨.ret (.pointer (some ⟨b', off', some 0⟩)), H, n, [], []⟩, none⟩
        | _ => none
      | _ => match opS P F noOrc (fun _ _ _ => none) T o H n with | some s => some ⟨s, none⟩ | none => none
    | _ => match opS P F noOrc (fun _ _ _ => none) T o H n with | some s => some ⟨s, none⟩ | none => none
  | some (.val v) => match opS P F noOrc (fun _ _ _ => none) T o H n with
    | some ⟨.ret u, H1, n1, R, W⟩ => some ⟨⟨.ret v, H1, n1, R, W⟩, some (veq u v)⟩
    | _ => none
  | some (.idx k) => match o.op with
    | .indexAddr t x i => match evC T x, evC T i with
      | some (.slice (some ⟨b, off, sp⟩) len _), some (.int _ q) => match und P t with
        | some (.slice e) => match szOf P e with
          | some z => bif plainSpot sp then some ⟨⟨.ret (.pointer (some ⟨b, off + k * z, sp⟩)), H, n, [], []⟩, some (q = (k : Int) ∧ k < len)⟩ else none
          | none => none
        | _ => none
      | some (.pointer (some ⟨b, off, sp⟩)), some (.int _ q) => match und P t with
        | some (.array len e) => match szOf P e with
          | some z => bif plainSpot sp then some ⟨⟨.ret (.pointer (some ⟨b, off + k * z, sp⟩)), H, n, [], []⟩, some (q = (k : Int) ∧ k < len)⟩ else none
          | none => none
        | _ => none
      | _, _ => none
    | _ => none
  | some (.ld v) => match o.op with
    | .load t a => match evC T a with
      | some (.pointer (some ⟨b, off, none⟩)) => match hget H b with
        | some (.cells cs _ _) => bif Nat.blt b n then match aggT P t with
          | some true => match szOf P t, v with
            | some z, .agg xs => some ⟨⟨.ret v, H, n, [b], []⟩, some (off + z ≤ cs.size ∧ cs.extract off (off + z) = xs)⟩
            | _, _ => none
          | some false => some ⟨⟨.ret v, H, n, [b], []⟩, some (cs[off]? = some v)⟩
          | none => none
          else none
        | _ => none
      | _ => none
    | _ => none
  | some (.raw v) => match o.op with
    | .load t a => match evC T a with
      | some (.pointer (some ⟨b, off, some 0⟩)) => match aggT P t with
        | some true => match szOf P t, v with
          | some z, .agg xs => bif Nat.beq xs.size z then some ⟨⟨.ret v, H, n, [], []⟩, some (∀ (j : Nat) u, xs[j]? = some u → RawCell B b (off + j) u)⟩ else none
          | _, _ => none
        | some false => some ⟨⟨.ret v, H, n, [], []⟩, some (RawCell B b off v)⟩
        | none => none
      | _ => none
    | _ => none
  | some (.eq b) => match o.op with
    | .binOp op t x y _ => match evC T x, evC T y with
      | some (.agg xs), some (.agg ys) => bif P.eqGuardType P.depth t then none else match op with
        | .eql => match eqT P 100 t (.agg xs) (.agg ys) with
          | some r => bif loosePart (.agg xs) && loosePart (.agg ys) then some ⟨⟨.ret (.bool b), H, n, [], []⟩, some (r = b)⟩ else none
          | none => none
        | .neq => match eqT P 100 t (.agg xs) (.agg ys) with
          | some r => bif loosePart (.agg xs) && loosePart (.agg ys) then some ⟨⟨.ret (.bool b), H, n, [], []⟩, some ((!r) = b)⟩ else none
          | none => none
        | _ => none
      | _, _ => none
    | _ => none
  | some (.len m) => match o.op with
    | .call c => match c.callee with
      | .builtin .len => match c.args.toList, c.argTypes.toList with
        | [x], [t] => match evC T x, und P t with
          | some v, some (.slice _) => some ⟨⟨.ret (.int .i64 m), H, n, [], []⟩, some (SliceLen v m)⟩
          | _, _ => none
        | _, _ => none
      | _ => none
    | _ => none
  | some (.app cs') => match o.op with
    | .call c => match c.callee with
      | .builtin .append => match c.args.toList, c.argTypes.toList with
        | [s, x], [t, t'] => bif Nat.beq t t' then
            match evC T s, evC T x with
            | some sv, some xv => match appH P t H n sv xv cs' with
              | some (⟨.val v, H1, n1, R, W⟩, p) => bif R.all (fun i => Nat.blt i n) then some ⟨⟨.ret v, H1, n1, R, W⟩, some p⟩ else none
              | _ => none
            | _, _ => none
          else none
        | _, _ => none
      | _ => none
    | _ => none
  | some (.mk m cs) => match o.op with
    | .makeSlice t l c => match evC T l, evC T c with
      | some x, some y => match und P t with
        | some (.slice e) => match szOf P e with
          | some z => some ⟨⟨.ret (.slice (some ⟨n, 0, none⟩) m z), (n, .cells cs e (0, 0)) :: H, n + 1, [], []⟩, some (cMake P t x y = some (e, cs, m, z))⟩
          | none => none
        | _ => none
      | _, _ => none
    | _ => none
  | some (.st cs') => match o.op with
    | .store t a x => match evC T a, evC T x with
      | some (.pointer (some ⟨b, off, none⟩)), some v => match hget H b with
        | some (.cells cs te (0, 0)) => match szOf P t with
          | some z => bif Nat.blt b n && Nat.beq v.cells.size z && ones v.cells then some ⟨⟨.ret undef, hset H b (.cells cs' te (0, 0)), n, [b], [b]⟩, some (off + z ≤ cs.size ∧ splice cs off v.cells = cs')⟩ else none
          | none => none
        | _ => none
      | _, _ => none
    | _ => none
  | some (.call keys out ups n' W) => match o.op with
    | .call _ => match copR P F (evC T) o H n with
      | some ⟨.enter g args, H1, n1, R, W1⟩ => bif Nat.beq n1 n && W1.isEmpty then some ⟨⟨.ret out, ups ++ H1, n', R ++ keys, W⟩, some (CJ P B g args (keys.map fun k => (k, hget H1 k)) n out ups n' W)⟩ else none
      | some ⟨.round l fn tm a b, H1, n1, R, W1⟩ => bif Nat.beq n1 n && W1.isEmpty && Nat.ble tm.size 16000 then some ⟨⟨.ret out, ups ++ H1, n', R ++ keys, W⟩, some (RJ P B ⟨fn, ofList tm.size tm.toList, [.code a, .beginRound, .code b], [], .run, some l⟩ (keys.map fun k => (k, hget H1 k)) n out ups n' W)⟩ else none
      | _ => none
    | _ => none
  | some (.look v) => match o.op with
    | .lookup t x k ok => match evC T x, evC T k with
      | some (.map (some r)), some kv => match hget H r with
        | some (.map es _) => bif Nat.blt r n then some ⟨⟨.ret v, H, n, [r], []⟩, some (MapGet P t es ok kv v)⟩ else none
        | _ => none
      | _, _ => none
    | _ => none
  | some (.upd es' clk') => match o.op with
    | .mapUpdate t m k x => match evC T m, evC T k, evC T x with
      | some (.map (some r)), some kv, some v => match hget H r with
        | some (.map es clk) => bif Nat.blt r n then some ⟨⟨.ret undef, hset H r (.map es' clk'), n, [r], [r]⟩, some (MapPut P t es clk kv v es' clk')⟩ else none
        | _ => none
      | _, _, _ => none
    | _ => none
  | some .nil => match o.op with
    | .call c => match c.callee with
      | .builtin .append => match c.args.toList, c.argTypes.toList with
        | [s, x], [t, t'] => bif Nat.beq t t' then match evC T s, evC T x with
            | some (.slice none 0 0), some (.slice none 0 0) => match und P t with
              | some (.slice e) => match szOf P e with
                | some _ => some ⟨⟨.ret (.slice none 0 0), H, n, [], []⟩, none⟩
                | none => none
              | _ => none
            | _, _ => none
          else none
        | _, _ => none
      | _ => none
    | _ => none
section
variable {P : Program} {F : FuncId → Bool} {B : Lo} {T : Tm} {o : Oper} {H : Heap} {n : Nat}
theorem recS_none : RecS P B (fun _ _ _ => none) := fun _ _ _ _ _ h => by cases h
theorem does_val {v : Value} {ev : Operand → Option Value} (hd : ∀ c, o.op ≠ .defer c) (h : ∀ (μ : Mu) (w : World) (ρ : Operand → Value), B.has w → (∀ x ∈ o.op.operands, ∀ v, ev x = some v → VR μ v (ρ x)) → ∃ v', (execOp ρ o).run P w = .ok (.value v') w ∧ VR μ v v') :
    Does P B o ev H n (.ret v) H n [] [] := fun _ μ w fr _ _ _ _ _ hok hB _ _ hev _ hm ht ho hw =>
  let ⟨v', h1, h2⟩ := h μ w fr.eval hB hev
  ⟨.ret v', w, μ, Post.refl hok, .ret h2, opTo_value hm ht ho hw hd h1⟩
theorem cFieldAddr_raw {s : TypeId} {f b off : Nat} {b' off' : Nat} (h : cFieldAddr P s f (.pointer (some ⟨b, off, none⟩)) = some (.pointer (some ⟨b', off', none⟩))) (w : World) : b' = b ∧ (Instr.fieldAt s (.pointer (some ⟨b, off, none⟩)) f).run P w = .ok (.pointer (some ⟨b', off', none⟩)) w := by
  unfold cFieldAddr at h
  simp only [und_eq] at h
  split at h
  · rename_i fields hu
    cases hfd : fields[f]? with
    | none => rw [hfd] at h; cases h
    | some fd =>
      rw [hfd] at h
      dsimp only at h
      split at h
      · rename_i z hz
        simp only [Option.some.injEq, Value.pointer.injEq, Addr.mk.injEq, and_true] at h
        obtain ⟨rfl, rfl⟩ := h
        refine ⟨rfl, ?_⟩
        simp only [Instr.fieldAt, Sem.run_bind, run_underlying hu, Result.andThen_ok, hfd, Instr.sureAddr, Sem.run_pure, fieldPlace, szOf_run hz, add_none]
        simp
      · cases h
  · cases h
theorem index_run {t e : TypeId} {b off len c z k : Nat} {q : Int} {kk : IntKind} (hu : und P t = some (.slice e)) (hz : szOf P e = some z) (hq : q = (k : Int)) (hk : k < len) (w : World) :
    (Instr.indexAt t (.slice (some ⟨b, off, none⟩) len c) (.int kk q)).run P w = .ok (.pointer (some ⟨b, off + k * z, none⟩)) w := by
  rw [und_eq] at hu
  subst hq
  have hc : 0 ≤ (k : Int) ∧ (k : Int) < len := by omega
  simp only [Instr.indexAt, Sem.run_bind, asIntOf, Sem.run_pure, Result.andThen_ok, run_underlying hu, hc, and_self, if_true, szOf_run hz, add_none, Int.toNat_natCast]
theorem indexArr_run {t e : TypeId} {b off len z k : Nat} {q : Int} {kk : IntKind} (hu : und P t = some (.array len e)) (hz : szOf P e = some z) (hq : q = (k : Int)) (hk : k < len) (w : World) :
    (Instr.indexAt t (.pointer (some ⟨b, off, none⟩)) (.int kk q)).run P w = .ok (.pointer (some ⟨b, off + k * z, none⟩)) w := by
  rw [und_eq] at hu
  subst hq
  have hc : 0 ≤ (k : Int) ∧ (k : Int) < len := by omega
  simp only [Instr.indexAt, Sem.run_bind, asIntOf, Sem.run_pure, Result.andThen_ok, run_underlying hu, Instr.sureAddr, hc, and_self, if_true, szOf_run hz, add_none, Int.toNat_natCast]
theorem addr_VR {μ : Mu} {b off k z : Nat} {sp : Option Nat} {v' : Value} (hsp : plainSpot sp = true) (h : VR μ (.pointer (some ⟨b, off, sp⟩)) v') : ∃ b' off', v' = .pointer (some ⟨b', off', none⟩) ∧ VR μ (.pointer (some ⟨b, off + k * z, sp⟩)) (.pointer (some ⟨b', off' + k * z, none⟩)) := by
  cases h with
  | ptr har =>
    obtain ⟨im, h1, h2, rfl⟩ := har
    simp only at h2
    subst h2
    exact ⟨_, _, rfl, .ptr ⟨im, h1, rfl, by simp [Nat.add_assoc]⟩⟩
  | rawPtr _ _ q =>
    cases q with
    | zero => exact ⟨_, _, rfl, .rawPtr _ _ 0⟩
    | succ q => cases hsp
theorem slice_VR {μ : Mu} {b off len s k z : Nat} {sp : Option Nat} {v' : Value} (hsp : plainSpot sp = true) (h : VR μ (.slice (some ⟨b, off, sp⟩) len s) v') : ∃ b' off' c', v' = .slice (some ⟨b', off', none⟩) len c' ∧ VR μ (.pointer (some ⟨b, off + k * z, sp⟩)) (.pointer (some ⟨b', off' + k * z, none⟩)) := by
  cases h with
  | slice har =>
    obtain ⟨im, h1, h2, rfl⟩ := har
    simp only at h2
    subst h2
    exact ⟨_, _, _, rfl, .ptr ⟨im, h1, rfl, by simp [Nat.add_assoc]⟩⟩
  | rawSlice _ _ q =>
    cases q with
    | zero => exact ⟨_, _, _, rfl, .rawPtr _ _ 0⟩
    | succ q => cases hsp
theorem int_VR {μ : Mu} {k : IntKind} {q : Int} {v' : Value} (h : VR μ (.int k q) v') : v' = .int k q := by cases h; rfl
theorem appendNil_run {t e ty : TypeId} {z : Nat} (hu : und P t = some (.slice e)) (hz : szOf P e = some z) (w : World) : (Builtin.append_ #[t, t] ty #[.slice none 0 0, .slice none 0 0]).run P w = .ok (.slice none 0 0) w := by
  rw [und_eq] at hu
  simp [Builtin.append_, Sem.run_bind, run_underlying hu, Result.andThen_ok, szOf_run hz, Builtin.lenOf, Builtin.firstCells, Sem.run_pure]
/-- An operation does what is told of it, if that is so. -/
theorem opH_sound (hF : ∀ g, F g = true → okFn P g = true) (hu : Under H n) {h : Option Hint} {a : Told} (e : opH P F B T o H n h = some a) (hp : ∀ p, a.p = some p → p) :
    Does P B o (evC T) H n a.s.out a.s.H a.s.n a.s.R a.s.W ∧ Shape H n a.s.H a.s.n a.s.R a.s.W := by
  have plain : ∀ {s : Rs}, opS P F noOrc (fun _ _ _ => none) T o H n = some s → Does P B o (evC T) H n s.out s.H s.n s.R s.W ∧ Shape H n s.H s.n s.R s.W := fun h => opS_sound hF recS_none (noOrc_ok P B) hu h
  have plain' : (match opS P F noOrc (fun _ _ _ => none) T o H n with | some s => some (⟨s, none⟩ : Told) | none => none) = some a → Does P B o (evC T) H n a.s.out a.s.H a.s.n a.s.R a.s.W ∧ Shape H n a.s.H a.s.n a.s.R a.s.W := by
    intro h
    split at h
    · rename_i s hs
      simp only [Option.some.injEq] at h
      subst h
      exact plain hs
    · cases h
  unfold opH at e
  split at e
  · -- nothing is told
    split at e
    · rename_i s x f hop
      split at e
      · rename_i b off hx
        split at e
        · rename_i b' off' hc
          simp only [Option.some.injEq] at e
          subst e
          refine ⟨does_val (fun c h => by rw [hop] at h; cases h) fun μ w ρ _ hev => ?_, Shape.same _ _ _⟩
          have hv := hev x (by simp [hop, Op.operands]) _ hx
          obtain ⟨rfl, hr⟩ := cFieldAddr_raw (P := P) hc w
          generalize hg : ρ x = u at hv
          cases hv with
          | ptr har => obtain ⟨im, _, h2, _⟩ := har; cases h2
          | rawPtr => exact ⟨_, by simp [execOp, hop, hg, hr, unspot], .rawPtr _ _ 0⟩
        · cases e
      · exact plain' e
    · exact plain' e
  · -- a value
    rename_i v
    split at e
    · rename_i u H1 n1 R W hs
      simp only [Option.some.injEq] at e
      subst e
      have := veq_eq (hp _ rfl)
      subst this
      exact plain hs
    · cases e
  · -- an element's address
    rename_i k
    split at e
    · rename_i t x i hop
      split at e
      · rename_i b off sp len c kk q hx hi
        split at e
        · rename_i el hue
          split at e
          · rename_i z hz
            have hsp : plainSpot sp = true := by
              cases h : plainSpot sp with
              | true => rfl
              | false => rw [h] at e; cases e
            rw [hsp] at e
            simp only [cond_true, Option.some.injEq] at e
            subst e
            obtain ⟨hq, hk⟩ := hp _ rfl
            refine ⟨does_val (fun c h => by rw [hop] at h; cases h) fun μ w ρ _ hev => ?_, Shape.same _ _ _⟩
            obtain ⟨b', off', c', h1, h2⟩ := slice_VR (k := k) (z := z) hsp (hev x (by simp [hop, Op.operands]) _ hx)
            have h3 := int_VR (hev i (by simp [hop, Op.operands]) _ hi)
            exact ⟨_, by simp [execOp, hop, h1, h3, index_run hue hz hq hk], h2⟩
          · cases e
        · cases e
      · rename_i b off sp kk q hx hi
        split at e
        · rename_i len el hue
          split at e
          · rename_i z hz
            have hsp : plainSpot sp = true := by
              cases h : plainSpot sp with
              | true => rfl
              | false => rw [h] at e; cases e
            rw [hsp] at e
            simp only [cond_true, Option.some.injEq] at e
            subst e
            obtain ⟨hq, hk⟩ := hp _ rfl
            refine ⟨does_val (fun c h => by rw [hop] at h; cases h) fun μ w ρ _ hev => ?_, Shape.same _ _ _⟩
            obtain ⟨b', off', h1, h2⟩ := addr_VR (k := k) (z := z) hsp (hev x (by simp [hop, Op.operands]) _ hx)
            have h3 := int_VR (hev i (by simp [hop, Op.operands]) _ hi)
            exact ⟨_, by simp [execOp, hop, h1, h3, indexArr_run hue hz hq hk], h2⟩
          · cases e
        · cases e
      · cases e
    · cases e
  · -- a load of one's own
    rename_i v
    split at e
    · rename_i t x hop
      split at e
      · rename_i b off hx
        split at e
        · rename_i cs te fz hg
          have key : Nat.blt b n = true → cPart P t cs off = some v → Does P B o (evC T) H n (.ret v) H n [b] [] ∧ Shape H n H n [b] [] := by
            intro hb hc
            refine plain (s := ⟨.ret v, H, n, [b], []⟩) ?_
            have hcop : cop P F (evC T) o H n = some ⟨.val v, H, n, [b], []⟩ := by simp [cop, hop, hx, cLoad, hg, hc]
            have hcr : copR P F (evC T) o H n = some ⟨.val v, H, n, [b], []⟩ := by simp [copR, hcop, hb]
            simp [opS, hop, hcr]
          have e := bif_some' (q := Nat.blt b n) e
          have hb : Nat.blt b n = true := by
            have := hu.lt hg
            exact Nat.ble_eq_true_of_le this
          split at e
          · rename_i hag
            split at e
            · rename_i z xs hz _
              simp only [Option.some.injEq] at e
              subst e
              obtain ⟨h1, h2⟩ := hp _ rfl
              refine key hb ?_
              simp only [cPart, hag, hz, Nat.ble_eq_true_of_le h1, cond_true, h2]
            · cases e
          · rename_i hag
            simp only [Option.some.injEq] at e
            subst e
            refine key hb ?_
            simp only [cPart, hag]
            exact hp _ rfl
          · cases e
        · cases e
      · cases e
    · cases e
  · -- a load of memory that nobody writes
    rename_i v
    split at e
    · rename_i t x hop
      split at e
      · rename_i b off hx
        split at e
        · rename_i hag
          split at e
          · rename_i z xs hz
            cases hsz : Nat.beq xs.size z with
            | false => rw [hsz] at e; cases e
            | true =>
              rw [hsz] at e
              simp only [cond_true, Option.some.injEq] at e
              subst e
              have hsz := Nat.eq_of_beq_eq_true hsz
              have hc := hp _ rfl
              refine ⟨does_val (fun c h => by rw [hop] at h; cases h) fun μ w ρ hB hev => ?_, Shape.same _ _ _⟩
              have hv := hev x (by simp [hop, Op.operands]) _ hx
              have hf : ∀ j, j < z → ∃ v, xs[j]? = some v ∧ w.cell? ⟨b, off + j, none⟩ = some ((w.cell? ⟨b, off + j, none⟩).getD undef) ∧ VR μ v ((w.cell? ⟨b, off + j, none⟩).getD undef) := by
                intro j hj
                have hlt : j < xs.size := by omega
                obtain ⟨v', a, b⟩ := hc j xs[j] (by simp [hlt]) w hB
                exact ⟨xs[j], by simp [hlt], by simp [a], by simpa [a] using b μ⟩
              have hr := run_loadCells (P := P) w ⟨b, off, none⟩ z (fun j => (w.cell? ⟨b, off + j, none⟩).getD undef) (fun j hj => by
                obtain ⟨_, _, hc, _⟩ := hf j hj
                rw [add_none]; exact hc)
              generalize hg : ρ x = u at hv
              cases hv with
              | ptr har => obtain ⟨im, _, h2, _⟩ := har; cases h2
              | rawPtr =>
                refine ⟨.agg _, by simp [execOp, hop, hg, Instr.loadAt, Instr.sureAddr, loadVar, aggT_run hag, szOf_run hz, unspot, hr]; rfl, .agg (by simp [hsz]) fun i v v' hv hv' => ?_⟩
                have hi : i < z := by
                  have := (Array.getElem?_eq_some_iff.1 hv).1
                  omega
                obtain ⟨u, h1, _, h2⟩ := hf i hi
                rw [hv] at h1; cases h1
                simp [hi] at hv'
                rw [← hv']
                exact h2
          · cases e
        · rename_i hag
          simp only [Option.some.injEq] at e
          subst e
          have hc := hp _ rfl
          refine ⟨does_val (fun c h => by rw [hop] at h; cases h) fun μ w ρ hB hev => ?_, Shape.same _ _ _⟩
          have hv := hev x (by simp [hop, Op.operands]) _ hx
          obtain ⟨v', h1, h2⟩ := hc w hB
          generalize hg : ρ x = u at hv
          cases hv with
          | ptr har => obtain ⟨im, _, h2, _⟩ := har; cases h2
          | rawPtr => exact ⟨v', by simp [execOp, hop, hg, Instr.loadAt, Instr.sureAddr, loadVar, aggT_run hag, run_load, unspot, h1], h2 μ⟩
        · cases e
      · cases e
    · cases e
  · -- a comparison of structs
    rename_i b
    split at e
    · rename_i op t x y ty hop
      split at e
      · rename_i xs ys hx hy
        cases hgt : P.eqGuardType P.depth t with
        | true => rw [hgt] at e; cases e
        | false =>
          rw [hgt] at e
          simp only [cond_false] at e
          have vals : loosePart (.agg xs) = true → loosePart (.agg ys) = true → ∀ (μ : Mu) (ρ : Operand → Value), (∀ x ∈ o.op.operands, ∀ v, evC T x = some v → VR μ v (ρ x)) → ρ x = .agg xs ∧ ρ y = .agg ys := fun h1 h2 μ ρ hev =>
            ⟨af_eq h1 (hev x (by simp [hop, Op.operands]) _ hx), af_eq h2 (hev y (by simp [hop, Op.operands]) _ hy)⟩
          split at e
          · split at e
            · rename_i r hr
              cases hl : (loosePart (.agg xs) && loosePart (.agg ys)) with
              | false => simp only [hl] at e; cases e
              | true =>
                simp only [hl, cond_true, Option.some.injEq] at e
                subst e
                have hrb : r = b := hp _ rfl
                subst hrb
                simp only [Bool.and_eq_true] at hl
                refine ⟨does_val (fun c h => by rw [hop] at h; cases h) fun μ w ρ _ hev => ?_, Shape.same _ _ _⟩
                obtain ⟨e1, e2⟩ := vals hl.1 hl.2 μ ρ hev
                refine ⟨.bool r, ?_, .bool _⟩
                simp [execOp, hop, e1, e2, run_eqGuard_agg w _ t x y xs ys hgt, run_eql_struct, eqT_run 100 t _ _ r hr 10000 w (by omega)]
            · cases e
          · split at e
            · rename_i r hr
              cases hl : (loosePart (.agg xs) && loosePart (.agg ys)) with
              | false => simp only [hl] at e; cases e
              | true =>
                simp only [hl, cond_true, Option.some.injEq] at e
                subst e
                have hrb : (!r) = b := hp _ rfl
                subst hrb
                simp only [Bool.and_eq_true] at hl
                refine ⟨does_val (fun c h => by rw [hop] at h; cases h) fun μ w ρ _ hev => ?_, Shape.same _ _ _⟩
                obtain ⟨e1, e2⟩ := vals hl.1 hl.2 μ ρ hev
                refine ⟨.bool (!r), ?_, .bool _⟩
                simp [execOp, hop, e1, e2, run_eqGuard_agg w _ t x y xs ys hgt, binOp, Op.equal, Op.maxDepth, eqT_run 100 t _ _ r hr 10000 w (by omega)]
            · cases e
          · cases e
      · cases e
    · cases e
  · -- a slice's length
    rename_i m
    split at e
    · rename_i c hop
      split at e
      · rename_i hc
        split at e
        · rename_i x t ha ht
          split at e
          · rename_i v el hx hu
            rw [und_eq] at hu
            simp only [Option.some.injEq] at e
            subst e
            refine ⟨does_val (fun c h => by rw [hop] at h; cases h) fun μ w ρ hB hev => ?_, Shape.same _ _ _⟩
            have ea : c.args = #[x] := by rw [← ha]
            have et : c.argTypes = #[t] := by rw [← ht]
            obtain ⟨a, cp, hv⟩ := hp _ rfl μ _ (hev x (by simp [hop, Op.operands, Call.operands, hc, ea]) _ hx)
            refine ⟨.int .i64 m, ?_, .int _ _⟩
            simp [execOp, hop, resolve, hc, invoke, builtin, ea, et, hv, Builtin.len_, run_underlying hu, goInt]
          · cases e
        · cases e
      · cases e
    · cases e
  · -- append
    rename_i cs'
    split at e
    · rename_i c hop
      split at e
      · rename_i hcal
        split at e
        · rename_i s x t t' ha ht
          cases htt : Nat.beq t t' with
          | false => rw [htt] at e; cases e
          | true =>
            rw [htt] at e
            simp only [cond_true] at e
            split at e
            · rename_i sv xv hs hx
              split at e
              · rename_i v H1 n1 R W p hap
                cases hR : R.all (fun i => Nat.blt i n) with
                | false => rw [hR] at e; cases e
                | true =>
                  rw [hR] at e
                  simp only [cond_true, Option.some.injEq] at e
                  subst e
                  have hpp : p := hp _ rfl
                  refine plain (s := ⟨.ret v, H1, n1, R, W⟩) ?_
                  have hca : cAppend P t H n sv xv = some ⟨.val v, H1, n1, R, W⟩ := by
                    unfold appH at hap
                    unfold cAppend
                    split at hap
                    · rename_i e1 hue
                      rw [hue]
                      simp only
                      split at hap
                      · rename_i inf1 hinf
                        rw [hinf]
                        simp only
                        split at hap
                        · rename_i zv z hzv hsz
                          rw [hzv, hsz]
                          simp only
                          split at hap
                          · rename_i b k s'
                            split at hap
                            · rename_i cs te hg
                              split at hap
                              · rename_i ns m bx hns
                                cases hq : (Nat.beq te e1 && Nat.beq s' (z + 1) && ones ns && Nat.beq zv.cells.size (z + 1) && Nat.blt 0 m) with
                                | false => rw [hq] at hap; cases hap
                                | true =>
                                  rw [hq] at hap
                                  simp only [cond_true, Option.some.injEq, Prod.mk.injEq, CR.mk.injEq, CN.val.injEq] at hap
                                  obtain ⟨⟨rfl, rfl, rfl, rfl, rfl⟩, rfl⟩ := hap
                                  obtain ⟨p1, p2, p3, p4⟩ := hpp
                                  simp only [Bool.and_eq_true] at hq
                                  obtain ⟨⟨⟨⟨q1, q2⟩, q3⟩, q4⟩, q5⟩ := hq
                                  have hh : headOf H e1 (z + 1) (.slice (some ⟨b, 0, none⟩) k s') = some (cs, k, some b) := by
                                    simp [headOf, hg, Nat.eq_of_beq_eq_true q1, Nat.eq_of_beq_eq_true q2, p1]
                                  rw [hh, hns]
                                  simp only [q3, q4, q5, Nat.ble_eq_true_of_le p2, Nat.ble_eq_true_of_le p3, Bool.and_self, cond_true, p4]
                                  rfl
                              · cases hap
                            · cases hap
                          · cases hap
                        · cases hap
                      · cases hap
                    · cases hap
                  have hcop : cop P F (evC T) o H n = some ⟨.val v, H1, n1, R, W⟩ := by simp [cop, hop, hcal, ha, ht, hs, hx]; unfold cApp; rw [htt, cond_true, hca]
                  have hcr : copR P F (evC T) o H n = some ⟨.val v, H1, n1, R, W⟩ := by
                    simp only [copR, hcop, hR, cond_true]
                  simp [opS, hop, hcr]
              · cases e
            · cases e
        · cases e
      · cases e
    · cases e
  · -- make
    rename_i m cs
    split at e
    · rename_i t l c hop
      split at e
      · rename_i x y hx hy
        split at e
        · rename_i el hu1
          split at e
          · rename_i z hz
            simp only [Option.some.injEq] at e
            subst e
            have hc := hp _ rfl
            exact plain (s := ⟨.ret (.slice (some ⟨n, 0, none⟩) m z), (n, .cells cs el (0, 0)) :: H, n + 1, [], []⟩) (by simp [opS, hop, copR, cop, hx, hy, hc])
          · cases e
        · cases e
      · cases e
    · cases e
  · -- a store
    rename_i cs'
    split at e
    · rename_i t ad x hop
      split at e
      · rename_i b off v hx hy
        split at e
        · rename_i cs te hg
          split at e
          · rename_i z hz
            cases hq : (Nat.blt b n && Nat.beq v.cells.size z && ones v.cells) with
            | false => rw [hq] at e; cases e
            | true =>
              rw [hq] at e
              simp only [cond_true, Option.some.injEq] at e
              subst e
              obtain ⟨h1, h2⟩ := hp _ rfl
              simp only [Bool.and_eq_true] at hq
              have hst : cStore P t H v (.pointer (some ⟨b, off, none⟩)) = some (hset H b (.cells cs' te (0, 0)), b) := by
                simp only [cStore, hg, hz, hq.1.2, hq.2, Nat.ble_eq_true_of_le h1, Bool.and_self, cond_true, h2]
              exact plain (s := ⟨.ret undef, hset H b (.cells cs' te (0, 0)), n, [b], [b]⟩) (by simp [opS, hop, copR, cop, hx, hy, hst, hq.1.1])
          · cases e
        · cases e
      · cases e
    · cases e
  · -- a call
    rename_i keys out ups n' W
    split at e
    · rename_i c hop
      split at e
      · rename_i g args H1 n1 R W1 hcr
        cases hn : (Nat.beq n1 n && W1.isEmpty) with
        | false => rw [hn] at e; cases e
        | true =>
          rw [hn] at e
          simp only [cond_true, Option.some.injEq] at e
          subst e
          simp only [Bool.and_eq_true, List.isEmpty_iff] at hn
          obtain ⟨hn1, rfl⟩ := hn
          have hn1 := Nat.eq_of_beq_eq_true hn1
          subst hn1
          have hu1 : Under H1 n1 := hu.shape (cop_shape hu (copR_cop hcr).1)
          have hcj := hp _ rfl H1 hu1 (fun p hp => by
            obtain ⟨k, _, rfl⟩ := List.mem_map.1 hp
            rfl)
          have hk : (keys.map fun k => (k, hget H1 k)).map (·.1) = keys := by
            rw [List.map_map]
            exact List.map_id' _
          rw [hk] at hcj
          have horc : OrcS P B (fun g' a' H' m' => open Classical in if g' = g ∧ a' = args ∧ H' = H1 ∧ m' = n1 then some ⟨.ret out, ups ++ H1, n', keys, W⟩ else none) := by
            intro g' a' H' m' s _ h
            simp only at h
            split at h
            · rename_i q
              obtain ⟨rfl, rfl, rfl, rfl⟩ := q
              simp only [Option.some.injEq] at h
              subst h
              exact hcj
            · cases h
          have := opS_sound hF recS_none horc hu (T := T) (o := o) (s := ⟨.ret out, ups ++ H1, n', R ++ keys, W⟩) (by
            simp [opS, hop, hcr])
          exact this
      · rename_i l fn tm cda cdb H1 n1 R W1 hcr
        cases hn : (Nat.beq n1 n && W1.isEmpty && Nat.ble tm.size 16000) with
        | false => rw [hn] at e; cases e
        | true =>
          rw [hn] at e
          simp only [cond_true, Option.some.injEq] at e
          subst e
          simp only [Bool.and_eq_true, List.isEmpty_iff] at hn
          obtain ⟨⟨hn1, rfl⟩, hsz⟩ := hn
          have hn1 := Nat.eq_of_beq_eq_true hn1
          subst hn1
          have hu1 : Under H1 n1 := hu.shape (cop_shape hu (copR_cop hcr).1)
          have hrj := hp _ rfl
          have hrec := RJ.recS hu1 hrj
          have := opS_sound hF hrec (noOrc_ok P B) hu (T := T) (o := o) (s := ⟨.ret out, ups ++ H1, n', R ++ keys, W⟩) (by
            simp [opS, hop, hcr, hsz, recOne_eq])
          exact this
      · cases e
    · cases e
  · -- what is found in a map
    rename_i v
    split at e
    · rename_i t x k ok hop
      split at e
      · rename_i r kv hx hk
        split at e
        · rename_i es clk hg
          cases hq : Nat.blt r n with
          | false => rw [hq] at e; cases e
          | true =>
            rw [hq] at e
            simp only [cond_true, Option.some.injEq] at e
            subst e
            have hl := hp _ rfl H r clk hg
            exact plain (s := ⟨.ret v, H, n, [r], []⟩) (by simp [opS, hop, copR, cop, hx, hk, hl, hq])
        · cases e
      · cases e
    · cases e
  · -- what a map becomes
    rename_i es' clk'
    split at e
    · rename_i t m k x hop
      split at e
      · rename_i r kv v hm hk hx
        split at e
        · rename_i es clk hg
          cases hq : Nat.blt r n with
          | false => rw [hq] at e; cases e
          | true =>
            rw [hq] at e
            simp only [cond_true, Option.some.injEq] at e
            subst e
            have hl := hp _ rfl H r hg
            exact plain (s := ⟨.ret undef, hset H r (.map es' clk'), n, [r], [r]⟩) (by simp [opS, hop, copR, cop, hm, hk, hx, hl, hq])
        · cases e
      · cases e
    · cases e
  · -- nothing behind nothing
    split at e
    · rename_i c hop
      split at e
      · rename_i hcal
        split at e
        · rename_i s x t t' ha ht
          cases htt : Nat.beq t t' with
          | false => rw [htt] at e; cases e
          | true =>
            rw [htt] at e
            simp only [cond_true] at e
            have htt := Nat.eq_of_beq_eq_true htt
            subst htt
            split at e
            · rename_i hs hx
              split at e
              · rename_i el hue
                split at e
                · rename_i z hz
                  simp only [Option.some.injEq] at e
                  subst e
                  have ea : c.args = #[s, x] := by rw [← ha]
                  have et : c.argTypes = #[t, t] := by rw [← ht]
                  refine ⟨does_val (fun c h => by rw [hop] at h; cases h) fun μ w ρ _ hev => ?_, Shape.same _ _ _⟩
                  have h1 := af_eq (v := .slice none 0 0) rfl (hev s (by simp [hop, Op.operands, Call.operands, hcal, ea]) _ hs)
                  have h2 := af_eq (v := .slice none 0 0) rfl (hev x (by simp [hop, Op.operands, Call.operands, hcal, ea]) _ hx)
                  refine ⟨.slice none 0 0, ?_, .nilSlice 0 0⟩
                  have hr := appendNil_run (ty := o.type) hue hz w
                  simp [execOp, hop, resolve, hcal, invoke, builtin, ea, et, hr, h1, h2]
                · cases e
              · cases e
            · cases e
        · cases e
      · cases e
    · cases e
end
end Go.CE
/- SE 4: runs of which something is told. -/
namespace Go.CE
open Go Go.RowKit

def AllP : List Prop → Prop
  | [] => True
  | p :: l => p ∧ AllP l
abbrev Script := List (Nat × Hint)
def told (sc : Script) (q : Nat) : Option Hint × Script := match sc with
  | (k, h) :: l => bif Nat.beq k q then (some h, l) else (none, sc)
  | [] => (none, [])
structure RR where
  recs : List Rec
  T : Tm
  H : Heap
  n : Nat
  sc : Script
  q : Nat
  L : List Prop
def more (p : Option Prop) (L : List Prop) : List Prop := match p with | some p => p :: L | none => L
def rrunH (P : Program) (F : FuncId → Bool) (B : Lo) (ops : Array Oper) : List Oper → Tm → Heap → Nat → Script → Nat → List Prop → Option RR
  | [], T, H, n, sc, q, L => some ⟨[], T, H, n, sc, q, L⟩
  | o :: l, T, H, n, sc, q, L =>
    bif dstOk T o.dst then
      bif Region.wanted o (yieldedC ops T) then
        match told sc q with
        | (h, sc') => match opH P F B T o H n h with
          | some ⟨⟨.ret v, H1, n1, R, W⟩, p⟩ => match rrunH P F B ops l (tput T o.dst v) H1 n1 sc' (q + 1) (more p L) with
            | some r => some { r with recs := ⟨o, true, v, T, H, H1, n, n1, R, W⟩ :: r.recs }
            | none => none
          | _ => none
      else match rrunH P F B ops l (tput T o.dst undef) H n sc (q + 1) L with
        | some r => some { r with recs := ⟨o, false, undef, T, H, H, n, n, [], []⟩ :: r.recs }
        | none => none
    else none
inductive SR where
  | at (c : CF) (H : Heap) (n : Nat)
  | fin (out : OO) (H : Heap) (n : Nat)
structure ST where
  r : SR
  W : List Nat
  L : List Prop
/-- A loop over a function, of whose call it is told what it comes to. -/
def iterH (P : Program) (F : FuncId → Bool) (B : Lo) (c : CF) (H : Heap) (n : Nat) (f : Operand) (params : Array Tmp) (assign body : Code) (k : List Item) (keys : List Nat) (out : Value) (ups : Heap) (n' : Nat) (W : List Nat) : Option (CF × Heap × Prop) :=
  match evC c.tmps f with
  | some fv => match openLoop c H n params assign body with
    | some (H1, l, ds, _) => match cCall F H1 fv #[.func (.yield l) #[] #[]] with
      | some (.enter g args, _) => match enterC P g args with
        | some c1 => some ({ c with todo := .endRangeFunc l :: k, defers := ds ++ c.defers }, ups ++ H1, RJ P B c1 (keys.map fun k => (k, hget H1 k)) (l + 1) out ups n' W)
        | none => none
      | _ => none
    | none => none
  | none => none
def srun (P : Program) (F : FuncId → Bool) (B : Lo) : Nat → Nat → CF → Heap → Nat → Script → Nat → List Nat → List Prop → Option ST
  | 0, _, c, H, n, _, _, W, L => some ⟨.at c H n, W, L⟩
  | k + 1, b, c, H, n, sc, q, W, L =>
    match c.mode, c.todo with
    | .run, .code (.region _ ops draw) :: todo => match rrunH P F B ops ops.toList c.tmps H n sc q L with
      | some r => bif !draw || (edgesOk 0 ops.toList && indep ops 0 r.recs (befs ops.toList [])) then srun P F B k b { c with tmps := r.T, todo := todo } r.H r.n r.sc r.q (addl b (allW r.recs) W) r.L else none
      | none => none
    | .run, .code (.rangeFunc f params assign body) :: todo => match told sc q with
      | (some (.call keys out ups n1 W1), sc') => match iterH P F B c H n f params assign body todo keys out ups n1 W1 with
        | some (c', H', p) => srun P F B k b c' H' n1 sc' q (addl b W1 W) (p :: L)
        | none => none
      | _ => none
    | _, _ => match fstep P F noOrc (fun _ _ _ => none) c H n with
      | some (.go c' H' n' _ W') => srun P F B k b c' H' n' sc q (addl b W' W) L
      | some (.done out H' n' _ W') => some ⟨.fin out H' n', addl b W' W, L⟩
      | none => none
section
variable {P : Program} {F : FuncId → Bool} {B : Lo}
theorem more_all {p : Option Prop} {L : List Prop} (h : AllP (more p L)) : (∀ x, p = some x → x) ∧ AllP L := by
  cases p with
  | none => exact ⟨(fun x h => by cases h), h⟩
  | some p => exact ⟨(fun x e => by cases e; exact h.1), h.2⟩
theorem rrunH_mono {ops : Array Oper} : ∀ (l : List Oper) (T : Tm) (H : Heap) (n : Nat) (sc : Script) (q : Nat) (L : List Prop) (r : RR), rrunH P F B ops l T H n sc q L = some r → AllP r.L → AllP L
  | [], T, H, n, sc, q, L, r, h, ha => by
    simp only [rrunH, Option.some.injEq] at h
    subst h
    exact ha
  | o :: l, T, H, n, sc, q, L, r, h, ha => by
    simp only [rrunH] at h
    cases hd : dstOk T o.dst with
    | false => rw [hd] at h; cases h
    | true =>
      rw [hd] at h
      simp only [cond_true] at h
      cases hw : Region.wanted o (yieldedC ops T) with
      | true =>
        rw [hw] at h
        simp only [cond_true] at h
        split at h
        · rename_i v H1 n1 R W p hop
          split at h
          · rename_i r' hr
            simp only [Option.some.injEq] at h
            subst h
            exact (more_all (rrunH_mono l _ _ _ _ _ _ r' hr ha)).2
          · cases h
        · cases h
      | false =>
        rw [hw] at h
        simp only [cond_false] at h
        split at h
        · rename_i r' hr
          simp only [Option.some.injEq] at h
          subst h
          exact rrunH_mono l _ _ _ _ _ _ r' hr ha
        · cases h
theorem rrunH_sound (hF : ∀ g, F g = true → okFn P g = true) {ops : Array Oper} {len : Nat} : ∀ (l : List Oper) (T : Tm) (H : Heap) (n : Nat) (sc : Script) (q : Nat) (L : List Prop) (r : RR), T.len = len → Under H n → rrunH P F B ops l T H n sc q L = some r → AllP r.L →
    (∀ x ∈ r.recs, Sane len x) ∧ (∀ x ∈ r.recs, RecOk P B ops x) ∧ Chain r.recs T H n r.T r.H r.n ∧ r.recs.map (·.o) = l ∧ Under r.H r.n
  | [], T, H, n, sc, q, L, r, hl, hu, h, ha => by
    simp only [rrunH, Option.some.injEq] at h
    subst h
    exact ⟨fun r hr => by simp at hr, fun r hr => by simp at hr, ⟨rfl, rfl, rfl⟩, rfl, hu⟩
  | o :: l, T, H, n, sc, q, L, r, hl, hu, h, ha => by
    simp only [rrunH] at h
    cases hd : dstOk T o.dst with
    | false => rw [hd] at h; cases h
    | true =>
      have hdst := dstOk_spec hd
      rw [hl] at hdst
      rw [hd] at h
      simp only [cond_true] at h
      cases hw : Region.wanted o (yieldedC ops T) with
      | true =>
        rw [hw] at h
        simp only [cond_true] at h
        split at h
        · rename_i v H1 n1 R W p hop
          split at h
          · rename_i r' hr
            simp only [Option.some.injEq] at h
            subst h
            have hpL := more_all (rrunH_mono l _ _ _ _ _ _ r' hr ha)
            obtain ⟨hdo, hsh⟩ := opH_sound hF hu hop hpL.1
            obtain ⟨h1, h2, h3, h4, h5⟩ := rrunH_sound hF (ops := ops) (len := len) l (tput T o.dst v) H1 n1 _ _ _ r' (by rw [tput_len]; exact hl) (hu.shape hsh) hr ha
            refine ⟨fun x hx => ?_, fun x hx => ?_, ⟨rfl, rfl, rfl, h3⟩, by simp [h4], h5⟩
            · rcases List.mem_cons.1 hx with rfl | hx
              · exact ⟨hsh.le, hsh.keep, hsh.top, hsh.sub, hsh.wlt, hdst⟩
              · exact h1 x hx
            · rcases List.mem_cons.1 hx with rfl | hx
              · exact ⟨hw.symm, (fun _ => hdo), (fun e => by cases e)⟩
              · exact h2 x hx
          · cases h
        · cases h
      | false =>
        rw [hw] at h
        simp only [cond_false] at h
        split at h
        · rename_i r' hr
          simp only [Option.some.injEq] at h
          subst h
          obtain ⟨h1, h2, h3, h4, h5⟩ := rrunH_sound hF (ops := ops) (len := len) l (tput T o.dst undef) H n _ _ _ r' (by rw [tput_len]; exact hl) hu hr ha
          refine ⟨fun x hx => ?_, fun x hx => ?_, ⟨rfl, rfl, rfl, h3⟩, by simp [h4], h5⟩
          · rcases List.mem_cons.1 hx with rfl | hx
            · exact ⟨Nat.le_refl _, fun _ _ _ => rfl, fun _ _ => rfl, fun i hi => by simp at hi, fun i hi => by simp at hi, hdst⟩
            · exact h1 x hx
          · rcases List.mem_cons.1 hx with rfl | hx
            · exact ⟨hw.symm, (fun e => by cases e), fun _ => ⟨rfl, rfl, rfl, rfl⟩⟩
            · exact h2 x hx
        · cases h
theorem go_region_of {c : CF} {H : Heap} {n : Nat} (hmix : P.follows .mixedOrders = true) {id : Nat} {ops : Array Oper} {draw : Bool} {k : List Item} {recs : List Rec} {T' : Tm} {H' : Heap} {n' : Nat} (hm : c.mode = .run)
    (ht : c.todo = .code (.region id ops draw) :: k) (hs : ∀ x ∈ recs, Sane c.tmps.len x) (hk : ∀ x ∈ recs, RecOk P B ops x) (hch : Chain recs c.tmps H n T' H' n') (hmap : recs.map (·.o) = ops.toList) (hd : (!draw || (edgesOk 0 ops.toList && indep ops 0 recs (befs ops.toList []))) = true) :
    GoJ P B c H n { c with tmps := T', todo := k } H' n' (allR recs) (allW recs) := by
  have hown := own_of_map (l := ops.toList) (l2 := []) (by rw [List.append_nil]; exact hmap) rfl
  have hlen : recs.length = ops.size := by have := congrArg List.length hmap; simpa using this
  refine ⟨chain_shape recs _ _ _ _ _ _ hch hs, fun S μ w fr cs Z hok hB hS hf hfr hR => ?_⟩
  obtain ⟨a, b, d⟩ := hfr.running hm
  rw [ht] at d
  obtain ⟨L', e, hL⟩ := d.code
  cases draw with
  | false =>
    obtain ⟨μ', A', w', hp, hT, hst⟩ := seq_run (fr := fr) (cs := cs) (k := L') a recs 0 c.tmps H n T' H' n' [] hch hs hk (fun j r hj => by rw [Nat.zero_add]; exact hown j r hj) rfl S μ w fr.tmps hok hB hS hf hR b
    rw [List.append_nil, hlen] at hst
    exact ⟨{ fr with tmps := A', todo := L' }, w', μ', hp, ⟨hfr.fn, hT, fun _ => hL.mono (hp.mu hf), hfr.defers.mono (hp.mu hf), hfr.mode.mono (hp.mu hf), hfr.kind, hfr.round.mono (hp.mu hf)⟩, rfl, rfl,
      .head (step_region_text a e) (hst.trans (.one (step_inReg_end a)))⟩
  | true =>
    simp only [Bool.not_true, Bool.false_or, Bool.and_eq_true] at hd
    have hedge : ∀ (q : Nat) o, ops[q]? = some o → ∀ e ∈ o.after, Region.binds .any e = true → e.on < q := by
      intro q o ho e he hb
      have := edgesOk_spec ops.toList 0 hd.1 q o (by rw [Array.getElem?_toList]; exact ho) e he hb
      omega
    have hbef := befs_ok ops.toList [] [] rfl ⟨by simp, fun q b hq => by simp at hq⟩ (fun q o ho => hedge q o (by simpa using ho))
    have hset : Setup P B ops recs (befs ops.toList []) c.tmps H n T' H' n' := ⟨hch, hs, hk, hown, hlen, by simpa using hbef.1, hd.2, hedge⟩
    obtain ⟨μ', A', w', hp, hT, hst⟩ := region_draw hmix hset hok hS hR hf hB (fr := fr) (cs := cs) (id := id) (k := L') a b e
    exact ⟨{ fr with tmps := A', todo := L' }, w', μ', hp, ⟨hfr.fn, hT, fun _ => hL.mono (hp.mu hf), hfr.defers.mono (hp.mu hf), hfr.mode.mono (hp.mu hf), hfr.kind, hfr.round.mono (hp.mu hf)⟩, rfl, rfl, hst⟩
/-- Where a run has come to. -/
def SRJ (P : Program) (B : Lo) (c : CF) (H : Heap) (n : Nat) (R W : List Nat) : SR → Prop
  | .at c' H' n' => GoJ P B c H n c' H' n' R W
  | .fin out H' n' => FJ P B c H n out H' n' R W
theorem GoJ.srj {c c' : CF} {H H' : Heap} {n n' : Nat} {R R' W W' : List Nat} {r : SR} (h : GoJ P B c H n c' H' n' R W) (k : SRJ P B c' H' n' R' W' r) : SRJ P B c H n (R ++ R') (W ++ W') r := by
  cases r with
  | «at» => exact h.trans k
  | fin => exact h.fj k
theorem srun_mono (b : Nat) : ∀ (fuel : Nat) (c : CF) (H : Heap) (n : Nat) (sc : Script) (q : Nat) (W0 : List Nat) (L : List Prop) (s : ST), srun P F B fuel b c H n sc q W0 L = some s → AllP s.L → AllP L := by
  intro fuel
  induction fuel with
  | zero => intro c H n sc q W0 L s h ha; simp only [srun, Option.some.injEq] at h; subst h; exact ha
  | succ k ih =>
    intro c H n sc q W0 L s h ha
    simp only [srun] at h
    split at h
    · split at h
      · rename_i r' hr'
        have h := bif_some' h
        exact rrunH_mono _ _ _ _ _ _ _ _ hr' (ih _ _ _ _ _ _ _ _ h ha)
      · cases h
    · split at h
      · split at h
        · exact (ih _ _ _ _ _ _ _ _ h ha).2
        · cases h
      · cases h
    · split at h
      · exact ih _ _ _ _ _ _ _ _ h ha
      · simp only [Option.some.injEq] at h; subst h; exact ha
      · cases h
theorem iterH_sound (hF : ∀ g, F g = true → okFn P g = true) (hmix : P.follows .mixedOrders = true) {c c' : CF} {H H' : Heap} {n n' : Nat} {f : Operand} {params : Array Tmp} {assign body : Code} {k : List Item} {keys W : List Nat} {out : Value} {ups : Heap} {p : Prop} (hu : Under H n) (hm : c.mode = .run) (ht : c.todo = .code (.rangeFunc f params assign body) :: k)
    (h : iterH P F B c H n f params assign body k keys out ups n' W = some (c', H', p)) (hp : p) : ∃ R, GoJ P B c H n c' H' n' R W := by
  unfold iterH at h
  split at h
  · rename_i fv hfv
    split at h
    · rename_i H1 l ds R1 ho
      split at h
      · rename_i g args R2 hc
        split at h
        · rename_i c1 he
          simp only [Option.some.injEq, Prod.mk.injEq] at h
          obtain ⟨rfl, rfl, rfl⟩ := h
          have hu1 : Under H1 (l + 1) := hu.shape (openLoop_sound (P := P) (B := B) hu ho).1
          have hrec := RJ.recS hu1 hp
          refine ⟨R1 ++ R2 ++ keys, ?_⟩
          have : fstep P F noOrc (recOne c1 H1 (l + 1) ⟨.ret out, ups ++ H1, n', keys, W⟩) c H n = some (.go { c with todo := .endRangeFunc l :: k, defers := ds ++ c.defers } (ups ++ H1) n' (R1 ++ R2 ++ keys) W) := by
            unfold fstep
            simp only [hm, ht, hfv, ho, hc, he, recOne_eq]
          exact fstep_sound hF hmix (noOrc_ok P B) hrec hu this
        · cases h
      · cases h
    · cases h
  · cases h
theorem srun_sound (hF : ∀ g, F g = true → okFn P g = true) (hmix : P.follows .mixedOrders = true) : ∀ (fuel b : Nat) (c : CF) (H : Heap) (n : Nat) (sc : Script) (q : Nat) (W0 : List Nat) (L : List Prop) (s : ST), Under H n → srun P F B fuel b c H n sc q W0 L = some s → AllP s.L →
    ∃ R W, SRJ P B c H n R W s.r ∧ ∀ i, i < b → (i ∈ s.W ↔ i ∈ W0 ∨ i ∈ W)
  | 0, b, c, H, n, sc, q, W0, L, s, hu, h, ha => by
    simp only [srun, Option.some.injEq] at h
    subst h
    exact ⟨[], [], GoJ.refl c H n, fun i _ => by simp⟩
  | k + 1, b, c, H, n, sc, q, W0, L, s, hu, h, ha => by
    have plain : (match fstep P F noOrc (fun _ _ _ => none) c H n with
      | some (.go c' H' n' _ W') => srun P F B k b c' H' n' sc q (addl b W' W0) L
      | some (.done out H' n' _ W') => some ⟨.fin out H' n', addl b W' W0, L⟩
      | none => none) = some s → ∃ R W, SRJ P B c H n R W s.r ∧ ∀ i, i < b → (i ∈ s.W ↔ i ∈ W0 ∨ i ∈ W) := by
      intro h
      split at h
      · rename_i c' H' n' R' W' hs
        have hgo : GoJ P B c H n c' H' n' R' W' := fstep_sound hF hmix (noOrc_ok P B) recS_none hu hs
        obtain ⟨R, W, h1, h2⟩ := srun_sound hF hmix k b c' H' n' sc q _ L s (hu.shape hgo.shape) h ha
        refine ⟨_, _, hgo.srj h1, fun i hi => ?_⟩
        rw [h2 i hi, addl_iff hi, List.mem_append, or_assoc]
      · rename_i out H' n' R' W' hs
        have hdone : FJ P B c H n out H' n' R' W' := fstep_sound hF hmix (noOrc_ok P B) recS_none hu hs
        simp only [Option.some.injEq] at h
        subst h
        exact ⟨R', W', hdone, fun i hi => addl_iff hi⟩
      · cases h
    simp only [srun] at h
    split at h
    · rename_i id ops draw todo hm ht
      split at h
      · rename_i r hr
        cases hd : (!draw || (edgesOk 0 ops.toList && indep ops 0 r.recs (befs ops.toList []))) with
        | false => rw [hd] at h; cases h
        | true =>
          rw [hd] at h
          simp only [cond_true] at h
          have hL : AllP r.L := by
            exact srun_mono b k _ _ _ _ _ _ _ s h ha
          obtain ⟨h1, h2, h3, h4, h5⟩ := rrunH_sound hF (len := c.tmps.len) ops.toList c.tmps H n sc q L r rfl hu hr hL
          have hgo := go_region_of hmix hm ht h1 h2 h3 h4 hd
          obtain ⟨R, W, k1, k2⟩ := srun_sound hF hmix k b _ _ _ _ _ _ _ s h5 h ha
          refine ⟨_, _, hgo.srj k1, fun i hi => ?_⟩
          rw [k2 i hi, addl_iff hi, List.mem_append, or_assoc]
      · cases h
    · rename_i f params assign body todo hm ht
      split at h
      · rename_i keys out ups n1 W1 sc' htold
        split at h
        · rename_i c' H' p hi
          have hL := srun_mono b k _ _ _ _ _ _ _ s h ha
          obtain ⟨R0, hgo⟩ := iterH_sound hF hmix hu hm ht hi hL.1
          obtain ⟨R, W, h1, h2⟩ := srun_sound hF hmix k b _ _ _ _ _ _ _ s (hu.shape hgo.shape) h ha
          refine ⟨_, _, hgo.srj h1, fun i hi => ?_⟩
          rw [h2 i hi, addl_iff hi, List.mem_append, or_assoc]
        · cases h
      · cases h
    · exact plain h
end
end Go.CE
/- SE 5: heads of loops, ends of calls. -/
namespace Go.CE
open Go Go.RowKit

/-! ### Where a run has come to, as far as it matters -/
structure Land where
  fn : FuncId
  len : Nat
  todo : List Item
  defers : List Nat
  mode : CM
  roundOf : Option Nat
  vals : List Value
  objs : List (Option Obj)
  n : Nat
  L : List Prop
def land (s : Option ST) (slots olds : List Nat) : Option Land := match s with
  | some ⟨.at c H n, _, L⟩ => some ⟨c.fn, c.tmps.len, c.todo, c.defers, c.mode, c.roundOf, slots.map (tget c.tmps), olds.map (hget H), n, L⟩
  | _ => none
structure Fin where
  out : OO
  objs : List (Option Obj)
  n : Nat
  L : List Prop
def ended (s : Option ST) (olds : List Nat) : Option Fin := match s with
  | some ⟨.fin out H n, _, L⟩ => some ⟨out, olds.map (hget H), n, L⟩
  | _ => none
/-- Blocks of a loop's head: the number that each had; whether there are addresses in it; the object. -/
structure Kept where
  old : Nat
  ren : Bool
  o : Obj
def heapK : Nat → List Kept → Heap
  | _, [] => []
  | i, k :: l => (i, k.o) :: heapK (i + 1) l
def rhoK (l : List Kept) (i : Nat) : Nat := match nth l i with
  | some k => k.old
  | none => i
def rnO (ρ : Nat → Nat) : Obj → Obj
  | .cells cs t fz => .cells (cs.map (rnV ρ 3)) t fz
  | o => o
def wasK (ρ : Nat → Nat) (k : Kept) : Obj := bif k.ren then rnO ρ k.o else k.o
def okO (m : Nat) : Obj → Bool
  | .cells cs _ _ => cs.all (okV m 3)
  | _ => false
def looseO : Obj → Prop
  | .cells cs _ _ => ∀ v ∈ cs, Loose v
  | _ => False
def distinct : List Nat → Bool
  | [] => true
  | a :: l => l.all (fun b => !(Nat.beq a b)) && distinct l
theorem heapK_get : ∀ (l : List Kept) (i j : Nat), hget (heapK i l) j = if i ≤ j then (l[j - i]?).map (·.o) else none
  | [], i, j => by simp [heapK, hget]
  | k :: l, i, j => by
    simp only [heapK, hget_cons]
    by_cases h : j = i
    · subst h; simp
    · rw [if_neg h, heapK_get l (i + 1) j]
      by_cases h2 : i ≤ j
      · rw [if_pos (by omega), if_pos h2, show j - i = (j - (i + 1)) + 1 by omega]
        rfl
      · rw [if_neg (by omega), if_neg h2]
theorem distinct_inj {l : List Nat} (h : distinct l = true) : ∀ (i j : Nat) a, l[i]? = some a → l[j]? = some a → i = j := by
  induction l with
  | nil => intro i j a hi; simp at hi
  | cons b l ih =>
    simp only [distinct, Bool.and_eq_true] at h
    have hne : ∀ a ∈ l, a ≠ b := by
      intro a ha e
      have := List.all_eq_true.1 h.1 a ha
      rw [e] at this
      simp at this
    intro i j a hi hj
    cases i with
    | zero =>
      cases j with
      | zero => rfl
      | succ j =>
        simp only [List.getElem?_cons_zero, Option.some.injEq, List.getElem?_cons_succ] at hi hj
        exact absurd hi.symm (hne a (List.mem_of_getElem? hj))
    | succ i =>
      cases j with
      | zero =>
        simp only [List.getElem?_cons_zero, Option.some.injEq, List.getElem?_cons_succ] at hi hj
        exact absurd hj.symm (hne a (List.mem_of_getElem? hi))
      | succ j =>
        simp only [List.getElem?_cons_succ] at hi hj
        rw [ih h.2 i j a hi hj]
theorem rhoK_eq {l : List Kept} {i : Nat} {k : Kept} (h : l[i]? = some k) : rhoK l i = k.old := by
  unfold rhoK; rw [nth_eq, h]
section
variable {P : Program} {F : FuncId → Bool} {B : Lo}
theorem ro_of {ρ : Nat → Nat} {m : Nat} {k : Kept} (h : (k.ren = true ∧ okO m k.o = true) ∨ (k.ren = false ∧ looseO k.o)) : RO ρ m k.o (wasK ρ k) := by
  rcases h with ⟨h1, h2⟩ | ⟨h1, h2⟩
  · unfold wasK
    rw [h1, cond_true]
    generalize k.o = o at h2
    cases o with
    | cells cs t fz => exact .ren h2
    | _ => cases h2
  · unfold wasK
    rw [h1, cond_false]
    generalize k.o = o at h2
    cases o with
    | cells cs t fz => exact .same h2
    | _ => exact h2.elim
theorem keeps_of {n' : Nat} {keep : List Kept} {H' : Heap} (hold : (keep.all fun k => Nat.blt k.old n') = true) (hd : distinct (keep.map (·.old)) = true) (hobj : keep.map (fun k => hget H' k.old) = keep.map (fun k => some (wasK (rhoK keep) k)))
    (hro : ∀ k ∈ keep, RO (rhoK keep) keep.length k.o (wasK (rhoK keep) k)) : Keeps 0 n' keep.length [] [] H' (heapK 0 keep) (rhoK keep) := by
  have hget' : ∀ i, i < keep.length → ∃ k, keep[i]? = some k ∧ k ∈ keep := fun i hi => ⟨keep[i], by simp [hi], List.getElem_mem hi⟩
  refine ⟨Nat.zero_le _, fun i hi => by omega, fun i _ hi => ?_, fun i j _ hi _ hj he => ?_, fun i hi => ?_, fun i hi => by omega, fun i o1 hi _ ho => ?_⟩
  · obtain ⟨k, hk, hm⟩ := hget' i hi
    rw [rhoK_eq hk]
    exact ⟨Nat.zero_le _, Nat.le_of_ble_eq_true (List.all_eq_true.1 hold k hm)⟩
  · obtain ⟨k, hk, _⟩ := hget' i hi
    obtain ⟨k', hk', _⟩ := hget' j hj
    rw [rhoK_eq hk, rhoK_eq hk'] at he
    exact distinct_inj hd i j k.old (by rw [List.getElem?_map, hk]; rfl) (by rw [List.getElem?_map, hk', he]; rfl)
  · rw [heapK_get, if_pos (Nat.zero_le _)]
    simpa using hi
  · obtain ⟨k, hk, hm⟩ := hget' i hi
    rw [heapK_get, if_pos (Nat.zero_le _), Nat.sub_zero, hk] at ho
    simp only [Option.map_some, Option.some.injEq] at ho
    subst ho
    have e : hget H' k.old = some (wasK (rhoK keep) k) := by
      have := congrArg (fun l => l[i]?) hobj
      simp only [List.getElem?_map, hk, Option.map_some, Option.some.injEq] at this
      exact this
    exact ⟨wasK (rhoK keep) k, by rw [rhoK_eq hk]; exact e, hro k hm⟩
/-- From where a run is to a loop's head. -/
theorem GoE.head {c0 c : CF} {H : Heap} {n : Nat} {W : List Nat} (hF : ∀ g, F g = true → okFn P g = true) (hmix : P.follows .mixedOrders = true) (h : GoE P B c0 [] 0 c H n W) {fuel : Nat} {sc : Script} {f : FuncId} {len n' : Nat} {todo : List Item} {live : List (Nat × Value)} {keep : List Kept} {L : List Prop}
    (e : land (srun P F B fuel 0 c H n sc 0 [] []) (live.map (·.1)) (keep.map (·.old)) = some ⟨f, len, todo, [], .run, none, live.map (fun p => rnV (rhoK keep) 3 p.2), keep.map (fun k => some (wasK (rhoK keep) k)), n', L⟩)
    (hL : AllP L) (hlen : Nat.ble len 16000 = true) (hplain : todo.all plainItem = true) (hlive : (live.all fun p => okV keep.length 3 p.2) = true) (hold : (keep.all fun k => Nat.blt k.old n') = true) (hd : distinct (keep.map (·.old)) = true)
    (hok : ∀ k ∈ keep, (k.ren = true ∧ okO keep.length k.o = true) ∨ (k.ren = false ∧ looseO k.o)) :
    ∃ d : Nat → Value, (∀ t, Loose (d t)) ∧ GoE P B c0 [] 0 (headC f len live d todo) (heapK 0 keep) keep.length [] := by
  unfold land at e
  split at e
  · rename_i c' H' n'' W' L' hs
    simp only [Option.some.injEq, Land.mk.injEq] at e
    obtain ⟨e1, e2, e3, e4, e5, e6, e7, e8, e9, e10⟩ := e
    subst e9 e10
    obtain ⟨R, W2, hgo, -⟩ := srun_sound hF hmix fuel 0 c H n sc 0 [] [] _ h.under hs hL
    have hg := h.step hgo
    refine hg.compact (W1 := []) (fun i hi => by omega) (keeps_of hold hd (by simpa [List.map_map] using e8) fun k hk => ro_of (hok k hk)) e1 e2 (Nat.le_of_ble_eq_true hlen) e3 hplain e4 e5 e6 fun p hp => ⟨List.all_eq_true.1 hlive p hp, ?_⟩
    obtain ⟨i, hi⟩ := List.getElem?_of_mem hp
    have := congrArg (fun l => l[i]?) e7
    simpa [List.getElem?_map, hi] using this
  · cases e
/-! ### A head's blocks, told apart from the numbers that they had -/
def kz : List Nat → List (Bool × Obj) → List Kept
  | a :: l, b :: m => ⟨a, b.1, b.2⟩ :: kz l m
  | _, _ => []
def heapO : Nat → List (Bool × Obj) → Heap
  | _, [] => []
  | i, b :: l => (i, b.2) :: heapO (i + 1) l
theorem kz_heap : ∀ (olds : List Nat) (os : List (Bool × Obj)) (i : Nat), olds.length = os.length → heapK i (kz olds os) = heapO i os ∧ (kz olds os).length = os.length
  | [], [], _, _ => ⟨rfl, rfl⟩
  | a :: l, b :: m, i, h => by
    have := kz_heap l m (i + 1) (by simpa using h)
    exact ⟨by simp only [kz, heapK, heapO, this.1], by simp only [kz, List.length_cons, this.2]⟩
  | [], _ :: _, _, h => by simp at h
  | _ :: _, [], _, h => by simp at h
def OkAll (m : Nat) : List (Bool × Obj) → Prop
  | [] => True
  | b :: l => (b.1 = true ∧ okO m b.2 = true ∨ b.1 = false ∧ looseO b.2) ∧ OkAll m l
theorem OkAll.kz {m : Nat} : ∀ (olds : List Nat) (os : List (Bool × Obj)), OkAll m os → ∀ k ∈ kz olds os, (k.ren = true ∧ okO m k.o = true) ∨ (k.ren = false ∧ looseO k.o)
  | [], os, _, k, hk => by cases os <;> simp [CE.kz] at hk
  | _ :: _, [], _, k, hk => by simp [CE.kz] at hk
  | a :: l, b :: os, h, k, hk => by
    simp only [CE.kz, List.mem_cons] at hk
    rcases hk with rfl | hk
    · exact h.1
    · exact OkAll.kz l os h.2 k hk
/-- What lies in a world where a call has ended. -/
def NewAt (w : World) (μ' : Mu) (w' : World) (j : Nat) (cs : Array Value) (t : TypeId) : Prop :=
  ∃ b cap arr, w.heap.size ≤ b ∧ μ' j = some ⟨b, 0, cap, true⟩ ∧ w'.heap[b]? = some (.cells arr t (0, 0)) ∧ cs.size ≤ arr.size ∧ arr.size = cap ∧ ∀ (i : Nat) v, cs[i]? = some v → ∃ v', arr[i]? = some v' ∧ VR μ' v v'
theorem GoE.calls {f : FuncId} {args args' : Array Value} {c0 c : CF} {H : Heap} {n : Nat} {W : List Nat} (hF : ∀ g, F g = true → okFn P g = true) (hmix : P.follows .mixedOrders = true) (hc : enterC P f args = some c0) (h : GoE P B c0 [] 0 c H n W) {fuel n' : Nat} {sc : Script} {v : Value} {olds : List Nat} {objs : List (Option Obj)} {L : List Prop}
    (e : ended (srun P F B fuel 0 c H n sc 0 [] []) olds = some ⟨.ret v, objs, n', L⟩) (hL : AllP L) {w : World} (hB : B.has w) (hv : VRs (fun _ => none) args args') :
    Calls P f args' w fun en w' => ∃ v' μ', en = .returned v' ∧ VR μ' v v' ∧ Below w.heap.size w w' ∧ ∀ (i j : Nat) cs t, olds[i]? = some j → objs[i]? = some (some (.cells cs t (0, 0))) → NewAt w μ' w' j cs t := by
  unfold ended at e
  split at e
  · rename_i out H' n'' W' L' hs
    simp only [Option.some.injEq, Fin.mk.injEq] at e
    obtain ⟨rfl, rfl, rfl, rfl⟩ := e
    obtain ⟨R, W2, hfj, -⟩ := srun_sound hF hmix fuel 0 c H n sc 0 [] [] _ h.under hs hL
    intro cs
    have hok : Ok B (fun i => i < 0) (fun _ => none) (hget []) w := ⟨fun _ _ h => absurd h (by omega), fun _ _ _ h => absurd h (by omega), fun _ _ _ _ _ _ h => absurd h (by omega)⟩
    obtain ⟨out', w', μ', hp, ho, he⟩ := h.fj hfj (fun _ => none) w (Frame.enter P f args' .normal) cs hok hB (fun _ _ => rfl) (enterC_FrR hc hv)
    cases ho with
    | ret hvr =>
      rename_i v'
      obtain ⟨frE, h1, h2, h3⟩ := he.1 rfl
      refine ⟨.returned v', w', frE, ⟨v', μ', rfl, hvr, ⟨hp.os, hp.tape, hp.output, hp.grow, fun b hb => hp.frame b hb fun i _ hi => by omega⟩, fun i j cells t hi hj => ?_⟩, h1, h2, h3⟩
      rw [List.getElem?_map, hi] at hj
      simp only [Option.map_some, Option.some.injEq] at hj
      have hlt : j < n'' := by
        have hu : Under H' n'' := h.under.shape hfj.shape
        exact hu.lt hj
      obtain ⟨im, him, hor⟩ := hp.ok.rel j _ (.inr ⟨Nat.zero_le _, hlt⟩) hj trivial
      obtain ⟨hrw, hfr⟩ := hp.fresh j im _ (Nat.zero_le _) hlt hj trivial him
      rcases hor with ⟨_, _, ho, arr, ha, hle, hcap, hcells⟩ | ⟨hz, _⟩
      · obtain ⟨blk, off, cap, rw⟩ := im
        simp only at ho hrw hcap ha hfr
        subst ho hrw
        exact ⟨blk, cap, arr, hfr.elim id fun ⟨k, _, hk, _⟩ => by omega, him, ha, hle, hcap, hcells⟩
      · exact absurd rfl hz
  · cases e
end
/-- A part of a function's text: the way down to it, 0 to the left or inward, 1 to the right. -/
def nav : Code → List Nat → Code
  | c, [] => c
  | .seq a b, k :: l => bif Nat.beq k 0 then nav a l else nav b l
  | .cond _ a b, k :: l => bif Nat.beq k 0 then nav a l else nav b l
  | .block _ a, _ :: l => nav a l
  | .loop a, _ :: l => nav a l
  | .scope a, _ :: l => nav a l
  | .rangeFunc _ _ a b, k :: l => bif Nat.beq k 0 then nav a l else nav b l
  | c, _ => c
def bodyOf (P : Program) (f : FuncId) : Code := match nth P.funcs.toList f with
  | some fn => match fn.body with
    | some c => c
    | none => .skip
  | none => .skip
/-- What is to do: items, and parts of the text. -/
inductive It where
  | code (l : List Nat)
  | inBlock (k : Nat)
  | inLoop (l : List Nat)
  | inScope (l : List Nat)
def it (b : Code) : It → Item
  | .code l => .code (nav b l)
  | .inBlock k => .inBlock k
  | .inLoop l => .inLoop (nav b l)
  | .inScope l => .inScope (nav b l)
def entryC (P : Program) (f : FuncId) (len : Nat) (args : List Value) : CF := ⟨f, ofList len args, [.code (bodyOf P f)], [], .run, none⟩
end Go.CE
/- SE 6: aids: numbers, worlds, cells of memory that nobody writes, rows that grow, calls. -/
namespace Go.CE
open Go Go.RowKit

/-! ### Numbers -/
theorem wq_in {x : Int} (h1 : -9223372036854775808 ≤ x) (h2 : x ≤ 9223372036854775807) : wq x = x := by
  rw [wq_eq]
  exact IntWalk.i64_in _ ⟨h1, h2⟩
theorem wrap_in {x : Int} (h1 : -9223372036854775808 ≤ x) (h2 : x ≤ 9223372036854775807) : IntKind.i64.wrap x = x := IntWalk.i64_in _ ⟨h1, h2⟩
theorem quo_in {x d q : Int} (h0 : 0 ≤ x) (hd : 0 < d) (hq : x / d = q) (h1 : q ≤ 9223372036854775807) : IntKind.i64.wrap (x.tdiv d) = q := by
  rw [Int.tdiv_eq_ediv_of_nonneg h0, hq]
  have : 0 ≤ q := hq ▸ Int.ediv_nonneg h0 (by omega)
  exact wrap_in (by omega) h1
theorem ltq_t {a b : Int} (h : a < b) : ltq a b = true := by rw [ltq_eq]; simpa using h
theorem ltq_f {a b : Int} (h : b ≤ a) : ltq a b = false := by rw [ltq_eq]; simpa using h
theorem eqq_f {a b : Int} (h : a ≠ b) : eqq a b = false := by rw [eqq_eq]; simpa using h

/-! ### Worlds -/
/-- What is below a world's size, as it is there. -/
def worldLo (w : World) : Lo := ⟨w.heap.size, fun w' => ∀ b, b < w.heap.size → w'.heap[b]? = w.heap[b]?, fun _ _ h hi b hb => (h b hb).trans (hi b hb)⟩
theorem worldLo_has (w : World) : (worldLo w).has w := ⟨Nat.le_refl _, fun _ _ => rfl⟩
theorem worldLo_cell {w w' : World} (h : (worldLo w).has w') {b o : Nat} (hb : b < w.heap.size) : w'.cell? ⟨b, o, none⟩ = w.cell? ⟨b, o, none⟩ := by
  simp only [World.cell?, h.inv b hb]
theorem raw_of {w : World} {b off : Nat} {v v' : Value} (hb : b < w.heap.size) (h : w.cell? ⟨b, off, none⟩ = some v') (hv : ∀ μ, VR μ v v') : RawCell (worldLo w) b off v :=
  fun _ hw => ⟨v', (worldLo_cell hw hb).trans h, hv⟩
theorem raw_af {w : World} {b off : Nat} {v : Value} (hb : b < w.heap.size) (h : w.cell? ⟨b, off, none⟩ = some v) (hv : af v = true) : RawCell (worldLo w) b off v := raw_of hb h fun _ => vr_af hv

/-! ### Rows that grow -/
def rowA (e : Nat → List Value) : Nat → Array Value
  | 0 => #[]
  | k + 1 => rowA e k ++ (e k).toArray
theorem rowA_size {e : Nat → List Value} {z : Nat} (h : ∀ k, (e k).length = z) : ∀ k, (rowA e k).size = k * z
  | 0 => by simp [rowA]
  | k + 1 => by simp [rowA, rowA_size h k, h, Nat.succ_mul]
theorem rowA_get {e : Nat → List Value} {z : Nat} (h : ∀ k, (e k).length = z) {j : Nat} (hj : j < z) : ∀ (n k : Nat), k < n → (rowA e n)[k * z + j]? = (e k)[j]?
  | 0, k, hk => by omega
  | n + 1, k, hk => by
    have hs := rowA_size h n
    simp only [rowA]
    rcases Nat.lt_or_ge k n with hlt | hge
    · have : k * z + j < (rowA e n).size := by
        rw [hs]
        calc k * z + j < k * z + z := by omega
          _ = (k + 1) * z := by rw [Nat.succ_mul]
          _ ≤ n * z := Nat.mul_le_mul_right _ hlt
      rw [Array.getElem?_append_left this]
      exact rowA_get h hj n k hlt
    · have : k = n := by omega
      subst this
      rw [Array.getElem?_append_right (by rw [hs]; omega), hs, Nat.add_sub_cancel_left]
      simp
theorem rowA_mem {e : Nat → List Value} {Q : Value → Prop} : ∀ (n : Nat), (∀ k, k < n → ∀ v ∈ e k, Q v) → ∀ v ∈ rowA e n, Q v
  | 0, _, v, h => by simp [rowA] at h
  | n + 1, hq, v, h => by
    simp only [rowA, Array.mem_append, List.mem_toArray] at h
    exact h.elim (rowA_mem n (fun k hk => hq k (by omega)) v) (hq n (by omega) v)
theorem loose_int (k : IntKind) (n : Int) : Loose (.int k n) := loose_af rfl
theorem loose_bool (b : Bool) : Loose (.bool b) := loose_af rfl
theorem loose_cells {l : List Value} (h : ∀ v ∈ l, Loose v) : ∀ v ∈ l.toArray, Loose v := fun v hv => h v (by simpa using hv)

/-! ### What came of a call -/
theorem af_row {w w' : World} {μ' : Mu} {j : Nat} {cs : Array Value} {t : TypeId} (h : NewAt w μ' w' j cs t) (hcs : ∀ v ∈ cs, af v = true) :
    ∃ b cap, w.heap.size ≤ b ∧ b < w'.heap.size ∧ μ' j = some ⟨b, 0, cap, true⟩ ∧ ∀ (i : Nat) v, cs[i]? = some v → w'.cell? ⟨b, i, none⟩ = some v := by
  obtain ⟨b, cap, arr, h1, h2, h3, _, _, h6⟩ := h
  refine ⟨b, cap, h1, ?_, h2, fun i v hv => ?_⟩
  · exact (Array.getElem?_eq_some_iff.1 h3).1
  · obtain ⟨v', h7, h8⟩ := h6 i v hv
    rw [af_eq (hcs v (Array.mem_of_getElem? hv)) h8] at h7
    simp [World.cell?, h3, h7]
theorem VR.slice_new {μ : Mu} {j n s : Nat} {v' : Value} {im : Img} (h : VR μ (.slice (some ⟨j, 0, none⟩) n s) v') (hj : μ j = some im) : ∃ c, v' = .slice (some ⟨im.blk, im.off, none⟩) n c ∧ n ≤ c ∧ c ≤ maxLen := by
  cases h with
  | slice har h1 h2 _ =>
    obtain ⟨im', h3, _, rfl⟩ := har
    rw [hj] at h3; cases h3
    exact ⟨_, by simp, h1, h2⟩
theorem vr_aggl {μ : Mu} {l l' : List Value} (h : VRl μ l l') : VR μ (.agg l.toArray) (.agg l'.toArray) := .agg h.vrs'.1 h.vrs'.2

/-! ### Calls of which a contract is known -/
section
variable {P : Program} {B : Lo}
theorem callJ_pure {g : FuncId} {args : Array Value} {H : Heap} {n : Nat} {R : List Nat} {v : Value}
    (h : ∀ (S : Nat → Prop) (μ : Mu) (w : World) (args' : Array Value), Ok B S μ (hget H) w → B.has w → VRs μ args args' → (∀ i ∈ R, i < n → S i) → Calls P g args' w fun e w' => (∃ v', e = .returned v' ∧ ∀ μ, VR μ v v') ∧ Below w.heap.size w w') :
    CallJ P B g args H n (.ret v) H n R [] := by
  refine ⟨Shape.same _ _ _, fun S μ w args' cs hok hB hS _ ha hR => ?_⟩
  obtain ⟨e, w1, fr, ⟨⟨v', rfl, hvr⟩, hb⟩, hc, hf, hl⟩ := h S μ w args' hok hB ha hR cs
  refine ⟨.ret v', w1, μ, Post.ofBelow hok hb, .ret (hvr μ), fun _ => ⟨fr, hc, by rw [hf]; rfl, hl⟩, fun c cs' e => ?_⟩
  subst e
  exact Steps.trans hc (.one (step_leave_returned hl))
/-- A call that looks at no block of the run's own, and answers with a plain value. -/
theorem cj_plain {g : FuncId} {args : Array Value} {n : Nat} {v : Value} (hv : af v = true) (h : ∀ (μ : Mu) (w : World) (args' : Array Value), B.has w → VRs μ args args' → Calls P g args' w fun e w' => e = .returned v ∧ Below w.heap.size w w') :
    CJ P B g args [] n v [] n [] := fun _ _ _ =>
  callJ_pure fun _ μ w args' _ hB ha _ => (h μ w args' hB ha).mono fun _ _ ⟨h1, h2⟩ => ⟨⟨v, h1, fun _ => vr_af hv⟩, h2⟩
end
end Go.CE
namespace Go.CE
open Go Go.RowKit
/-- A new block that a call made, and that nobody writes any more. -/
theorem Post.adoptR {B : Nat} {S : Nat → Prop} {n : Nat} {μ : Mu} {H : Heap} {w w' : World} (hok : Ok B S μ (hget H) w) (hB : B ≤ w.heap.size) (hS : ∀ i, S i → i < n) (hf : μ n = none) (hbel : Below w.heap.size w w') {blk : Nat} {cs : Array Value} {t : TypeId} (hblk : w.heap.size ≤ blk) (hlt : blk < w'.heap.size)
    (hcs : ∀ (i : Nat) v, cs[i]? = some v → w'.cell? ⟨blk, i, none⟩ = some v ∧ af v = true) : Post B S n (n + 1) [] μ (upd μ n ⟨blk, 0, 0, true⟩) H ((n, .cells cs t (1, 1)) :: H) w w' := by
  have hne : ∀ i, S i → i ≠ n := fun i hi => by have := hS i hi; omega
  have hmu : ∀ i, S i → upd μ n ⟨blk, 0, 0, true⟩ i = μ i := fun i hi => by simp [upd, hne i hi]
  have hg : ∀ i, S i → hget ((n, .cells cs t (1, 1)) :: H) i = hget H i := fun i hi => by rw [hget_cons, if_neg (hne i hi)]
  have hgn : hget ((n, .cells cs t (1, 1)) :: H) n = some (.cells cs t (1, 1)) := by rw [hget_cons, if_pos rfl]
  refine ⟨⟨fun i x hi hx hl => ?_, fun i x im hi hx hl hm => ?_, fun i j x y a b hi hj hij hx hy hlx hly ha hb hra hrb => ?_⟩, by omega, fun i hi => ?_, fun i hi _ => ?_, hbel.size, fun b hb _ => hbel.block b hb, fun i hi => by simp at hi,
    fun i im x h1 h2 hx hl hm => ?_, hbel.os, hbel.tape, hbel.output⟩
  · rcases hi with hi | hi
    · rw [hg i hi] at hx
      obtain ⟨im, him, hr⟩ := hok.rel i x hi hx hl
      exact ⟨im, by rw [hmu i hi]; exact him, hr.keep (upd_ext hf) (hbel.block _ (hok.low i x im hi hx hl him).1)⟩
    · obtain rfl : i = n := by omega
      rw [hgn] at hx; cases hx
      exact ⟨_, upd_self, .inr ⟨by simp, fun k v hv => ⟨v, by simpa using (hcs k v hv).1, vr_af (hcs k v hv).2⟩⟩⟩
  · rcases hi with hi | hi
    · rw [hg i hi] at hx
      rw [hmu i hi] at hm
      have := hok.low i x im hi hx hl hm
      exact ⟨Nat.lt_of_lt_of_le this.1 hbel.size, this.2⟩
    · obtain rfl : i = n := by omega
      rw [upd_self] at hm; cases hm
      exact ⟨hlt, fun _ => Nat.le_trans hB hblk, fun h => by cases h⟩
  · rcases hi with hi | hi <;> rcases hj with hj | hj
    · rw [hg i hi] at hx
      rw [hg j hj] at hy
      rw [hmu i hi] at ha
      rw [hmu j hj] at hb
      exact hok.inj i j x y a b hi hj hij hx hy hlx hly ha hb hra hrb
    · obtain rfl : j = n := by omega
      rw [hg i hi] at hx
      rw [hmu i hi] at ha
      rw [upd_self] at hb; cases hb
      have := (hok.low i x a hi hx hlx ha).1
      simp only; omega
    · obtain rfl : i = n := by omega
      rw [hg j hj] at hy
      rw [hmu j hj] at hb
      rw [upd_self] at ha; cases ha
      have := (hok.low j y b hj hy hly hb).1
      simp only; omega
    · omega
  · simp [upd, show i ≠ n by omega]
  · rw [hget_cons, if_neg (by omega)]
  · obtain rfl : i = n := by omega
    rw [upd_self] at hm; cases hm
    exact ⟨rfl, .inl hblk⟩
section
variable {P : Program} {B : Lo}
/-- A call that makes a row of plain cells, which is not written any more. -/
theorem cj_row {g : FuncId} {args : Array Value} {n : Nat} {out : Value} {cs : Array Value} {t : TypeId} (hcs : ∀ v ∈ cs, af v = true)
    (h : ∀ (μ : Mu) (w : World) (args' : Array Value), B.has w → VRs μ args args' → Calls P g args' w fun e w' => (∃ b v', w.heap.size ≤ b ∧ b < w'.heap.size ∧ e = .returned v' ∧ (∀ (i : Nat) v, cs[i]? = some v → w'.cell? ⟨b, i, none⟩ = some v) ∧ ∀ μ', μ' n = some ⟨b, 0, 0, true⟩ → VR μ' out v') ∧ Below w.heap.size w w') :
    CJ P B g args [] n out [(n, .cells cs t (1, 1))] (n + 1) [] := by
  intro H hu _
  refine ⟨⟨by omega, fun i hi _ => by rw [List.singleton_append, hget_cons, if_neg (by omega)], fun i hi => by rw [List.singleton_append, hget_cons, if_neg (by omega)], fun _ h => by simp at h, fun _ h => by simp at h⟩, fun S μ w args' cs' hok hB hS hf ha _ => ?_⟩
  obtain ⟨e, w1, fr, ⟨⟨b, v', h1, h2, rfl, h3, h4⟩, hb⟩, hc, hfn, hl⟩ := h μ w args' hB ha cs'
  have hfn0 : μ n = none := hf n (Nat.le_refl _) (by omega)
  refine ⟨.ret v', w1, upd μ n ⟨b, 0, 0, true⟩, Post.adoptR hok hB.le hS hfn0 hb h1 h2 (fun i v hv => ⟨h3 i v hv, hcs v (Array.mem_of_getElem? hv)⟩), .ret (h4 _ upd_self), fun _ => ⟨fr, hc, by rw [hfn]; rfl, hl⟩, fun c cs'' e => ?_⟩
  subst e
  exact Steps.trans hc (.one (step_leave_returned hl))
/-- A call that looks at rows of plain cells of the run's own. -/
theorem cj_read {g : FuncId} {args : Array Value} {Hs : List (Nat × Option Obj)} {n : Nat} {v : Value} (hv : af v = true) (hlt : ∀ p ∈ Hs, p.1 < n)
    (h : ∀ (μ : Mu) (w : World) (args' : Array Value), B.has w → VRs μ args args' → (∀ p ∈ Hs, ∀ cs t fz, p.2 = some (.cells cs t fz) → ∃ im, μ p.1 = some im ∧ im.blk < w.heap.size ∧ OR μ w im (.cells cs t fz)) → Calls P g args' w fun e w' => e = .returned v ∧ Below w.heap.size w w') :
    CJ P B g args Hs n v [] n [] := by
  intro H _ hH
  refine callJ_pure fun S μ w args' hok hB ha hR => ?_
  refine (h μ w args' hB ha fun p hp cs t fz he => ?_).mono fun _ _ ⟨h1, h2⟩ => ⟨⟨v, h1, fun _ => vr_af hv⟩, h2⟩
  have hS := hR p.1 (List.mem_map.2 ⟨p, hp, rfl⟩) (hlt p hp)
  have hg : hget H p.1 = some (.cells cs t fz) := by rw [hH p hp, he]
  obtain ⟨im, him, hor⟩ := hok.rel p.1 _ hS hg trivial
  exact ⟨im, him, (hok.low p.1 _ im hS hg trivial him).1, hor⟩
end
/-! ### Values that stand for one value alone -/
def Exact (v v' : Value) : Prop := (∀ μ, VR μ v v') ∧ ∀ μ u, VR μ v u → u = v'
theorem exact_af {v : Value} (h : af v = true) : Exact v v := ⟨fun _ => vr_af h, fun _ _ hu => af_eq h hu⟩
theorem exact_rawS (a : Option Addr) (n c : Nat) : Exact (rawS a n c) (.slice a n c) := ⟨fun μ => vr_rawS μ a n c, fun _ _ h => rawS_eq h⟩
inductive ExL : List Value → List Value → Prop
  | nil : ExL [] []
  | cons {a a' l l'} : Exact a a' → ExL l l' → ExL (a :: l) (a' :: l')
theorem ExL.vrl {μ : Mu} {l l' : List Value} (h : ExL l l') : VRl μ l l' := by
  induction h with
  | nil => exact .nil
  | cons h _ ih => exact .cons (h.1 μ) ih
theorem ExL.eq {μ : Mu} {l l' m : List Value} (h : ExL l l') (k : VRl μ l m) : m = l' := by
  induction h generalizing m with
  | nil => cases k; rfl
  | cons h _ ih => cases k with
    | cons k1 k2 => rw [h.2 μ _ k1, ih k2]
theorem exact_agg {l l' : List Value} (h : ExL l l') : Exact (.agg l.toArray) (.agg l'.toArray) :=
  ⟨fun _ => vr_aggl h.vrl, fun μ u hu => by
    obtain ⟨ys, rfl, hl⟩ := hu.agg_inv
    rw [h.eq hl]⟩
theorem exact_tuple {l l' : List Value} (h : ExL l l') : Exact (.tuple l.toArray) (.tuple l'.toArray) :=
  ⟨fun μ => .tuple (h.vrl (μ := μ)).vrs'.1 (h.vrl (μ := μ)).vrs'.2, fun μ u hu => by
    obtain ⟨ys, rfl, hl⟩ := hu.tuple_inv
    rw [h.eq hl]⟩
theorem Exact.loose {v v' : Value} (h : Exact v v') : Loose v := fun μ μ1 u hu => by rw [h.2 μ u hu]; exact h.1 μ1
theorem ExL.args {μ : Mu} {l l' : List Value} {args' : Array Value} (h : ExL l l') (k : VRs μ l.toArray args') : args' = l'.toArray := by
  have : VRl μ l args'.toList := vrl_mk _ _ (by simpa using k.1) fun i v v' a b => k.2 i v v' (by simpa using a) (by simpa using b)
  have e := h.eq this
  rw [← e]
theorem con_of {P : Program} {B : Lo} {g : FuncId} {l l' : List Value} {n : Nat} {v v' : Value} (hl : ExL l l') (hv : Exact v v') (h : ∀ w', B.has w' → Calls P g l'.toArray w' fun e w'' => e = .returned v' ∧ Below w'.heap.size w' w'') : CJ P B g l.toArray [] n v [] n [] :=
  fun _ _ _ => callJ_pure fun _ _ w' args' _ hB ha _ => by
    rw [hl.args ha]
    exact (h w' hB).mono fun _ _ ⟨h1, h2⟩ => ⟨⟨v', h1, hv.1⟩, h2⟩
end Go.CE
