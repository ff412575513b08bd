/- CE: calls whose arguments are known, at the level of worlds. -/
import Derived.Test.YtiaaikkmipmhnaaGreatDoorZCS06
import Derived.Laws.StructEq
import Derived.IntWalk
set_option linter.all false
namespace Go.CE
open Go Go.RowKit

def noOrc : Orc := fun _ _ _ _ => none
theorem noOrc_ok (P : Program) (B : Lo) : OrcS P B noOrc := fun _ _ _ _ _ _ h => by cases h
noncomputable def callC (P : Program) (F : FuncId → Bool) (orc : Orc) (fuel : Nat) (f : FuncId) (args : Array Value) (H : Heap) (n : Nat) : Option Rs :=
  Option.rec none (fun c => CF.rec (fun fn T todo ds mode ro => CM.rec (Tm.rec (fun len tr => frunF P F orc fuel n fn len tr todo ds ro H n [] []) T) none (fun _ => none) mode) c) (enterC P f args)
theorem callC_frun {P : Program} {F : FuncId → Bool} {orc : Orc} {fuel : Nat} {f : FuncId} {args : Array Value} {H : Heap} {n : Nat} {s : Rs} (h : callC P F orc fuel f args H n = some s) : ∃ c, enterC P f args = some c ∧ frun P F orc fuel n c H n [] [] = some s := by
  unfold callC at h
  cases hc : enterC P f args with
  | none => rw [hc] at h; cases h
  | some c =>
    rw [hc] at h
    obtain ⟨fn, ⟨len, tr⟩, todo, ds, mode, ro⟩ := c
    cases mode with
    | run =>
      refine ⟨_, rfl, ?_⟩
      rw [← frunQ_eq, ← frunF_eq]
      exact h
    | ret => cases h
    | pan v => cases h
theorem callC_under {P : Program} {F : FuncId → Bool} {orc : Orc} {B : Lo} (horc : OrcS P B orc) (hF : ∀ g, F g = true → okFn P g = true) (hmix : P.follows .mixedOrders = true) {fuel : Nat} {f : FuncId} {args : Array Value} {H : Heap} {n : Nat} {s : Rs} (h : callC P F orc fuel f args H n = some s) (hu : Under H n) : Under s.H s.n := by
  obtain ⟨c, _, hr⟩ := callC_frun h
  obtain ⟨Rr, Wr, hfj, _, _, _, _⟩ := frun_sound (B := B) hF hmix horc fuel n c H n [] [] s hu (fun i hi => by simp at hi) (fun i hi => by simp at hi) hr
  exact hu.shape hfj.shape
theorem calls_closed {P : Program} {F : FuncId → Bool} {orc : Orc} (hF : ∀ g, F g = true → okFn P g = true) (hmix : P.follows .mixedOrders = true) {fuel : Nat} {f : FuncId} {args args' : Array Value} {H : Heap} {n : Nat} {s : Rs} (h : callC P F orc fuel f args H n = some s) (hu : Under H n) {w : World} {μ : Mu}
    {I : World → Prop} {hI : ∀ w1 w2 : World, (∀ b, b < w.heap.size → w2.heap[b]? = w1.heap[b]?) → I w1 → I w2} (horc : OrcS P ⟨w.heap.size, I, hI⟩ orc) (hi : I w) (hok : Ok w.heap.size (fun i => i < n) μ (hget H) w) (hv : VRs μ args args') (hf : ∀ i, n ≤ i → μ i = none) :
    Calls P f args' w fun e w' => ∃ out' μ', Post w.heap.size (fun i => i < n) n s.n s.W μ μ' H s.H w w' ∧ OR2 μ' s.out out' ∧ e = out'.ending := by
  obtain ⟨c, hc, hr⟩ := callC_frun h
  obtain ⟨Rr, Wr, hfj, a1, a2, a3, a4⟩ := frun_sound (B := ⟨w.heap.size, I, hI⟩) hF hmix horc fuel n c H n [] [] s hu (fun i hi => by simp at hi) (fun i hi => by simp at hi) hr
  have hfj := hfj.lists (fun i hi => by simpa using a1 i hi) (fun i hi => by simpa using a2 i hi) a4
  intro cs
  obtain ⟨out', w', μ', hp, ho, he⟩ := hfj.sem _ μ w _ cs hok ⟨Nat.le_refl _, hi⟩ (fun _ hi => hi) (fun i hi _ => hf i hi) (enterC_FrR hc hv) (fun i _ hi => hi)
  obtain ⟨frE, h1, h2, h3⟩ := he.1 rfl
  refine ⟨out'.ending, w', frE, ⟨out', μ', hp, ho, rfl⟩, ?_, h2, h3⟩
  cases out' with
  | ret v => exact h1
  | pan v => exact h1
def Lies (w : World) (blk off : Nat) (cs : Array Value) : Prop := blk < w.heap.size ∧ ∀ (i : Nat) v, cs[i]? = some v → w.cell? ⟨blk, off + i, none⟩ = some v
def muOf (l : List (Nat × Nat)) : Mu := fun i => (l[i]?).map fun x => ⟨x.1, x.2, 0, false, nofm⟩
def heapOf (i : Nat) : List (Array Value × TypeId) → Heap
  | [] => []
  | (cs, t) :: l => (i, .cells cs t (1, 1)) :: heapOf (i + 1) l
theorem hget_heapOf : ∀ (l : List (Array Value × TypeId)) (i k : Nat), hget (heapOf i l) k = if i ≤ k then (l[k - i]?).map fun x => .cells x.1 x.2 (1, 1) else none
  | [], i, k => by simp [heapOf, hget]
  | (cs, t) :: l, i, k => by
    simp only [heapOf]
    rw [hget_cons, hget_heapOf l (i + 1) k]
    by_cases e : k = i
    · subst e; simp
    · rw [if_neg e]
      by_cases h : i ≤ k
      · rw [if_pos h, if_pos (by omega), show k - i = (k - (i + 1)) + 1 by omega]
        simp
      · rw [if_neg h, if_neg (by omega)]
theorem ok_lies {w : World} {l : List (Array Value × TypeId)} {at' : List (Nat × Nat)} (hl : at'.length = l.length) (h : ∀ (i : Nat) x a, l[i]? = some x → at'[i]? = some a → Lies w a.1 a.2 x.1 ∧ x.1.all af = true) : Ok w.heap.size (fun i => i < l.length) (muOf at') (hget (heapOf 0 l)) w := by
  have key : ∀ i o, i < l.length → hget (heapOf 0 l) i = some o → ∃ x a, l[i]? = some x ∧ at'[i]? = some a ∧ o = .cells x.1 x.2 (1, 1) := by
    intro i o hi ho
    rw [hget_heapOf, if_pos (Nat.zero_le _), Nat.sub_zero] at ho
    have h1 : l[i]? = some l[i] := by simp [hi]
    have h2 : at'[i]? = some (at'[i]'(by omega)) := by simp [hl ▸ hi]
    rw [h1] at ho
    simp only [Option.map_some, Option.some.injEq] at ho
    exact ⟨_, _, h1, h2, ho.symm⟩
  refine ⟨fun i o hi ho _ => ?_, fun i o im hi ho _ him => ?_, fun i j oi oj a b hi hj _ hoi _ _ _ ha _ hra _ => ?_, fun i o hi ho hr => ?_, fun i j oi oj a b x hi hj hoi hoj hr => ?_⟩
  · obtain ⟨x, a, h1, h2, rfl⟩ := key i o hi ho
    obtain ⟨⟨_, hc⟩, haf⟩ := h i x a h1 h2
    refine ⟨⟨a.1, a.2, 0, false, nofm⟩, by simp [muOf, h2], .inr ⟨by simp, fun k v hv => ⟨v, hc k v hv, vr_af (Array.all_eq_true'.1 haf v (Array.mem_of_getElem? hv))⟩, fun h => by cases h⟩⟩
  · obtain ⟨x, a, h1, h2, rfl⟩ := key i o hi ho
    simp only [muOf, h2, Option.map_some, Option.some.injEq] at him
    subst him
    exact ⟨(h i x a h1 h2).1.1, (fun h => by cases h), fun _ => (h i x a h1 h2).1.1⟩
  · obtain ⟨x, q, h1, h2, _⟩ := key i oi hi hoi
    simp only [muOf, h2, Option.map_some, Option.some.injEq] at ha
    subst ha
    cases hra
  · obtain ⟨x, a, _, _, rfl⟩ := key i o hi ho
    exact hr.elim
  · obtain ⟨x, a, _, _, rfl⟩ := key i oi hi hoi
    exact hr.elim
theorem under_heapOf (l : List (Array Value × TypeId)) : Under (heapOf 0 l) l.length := by
  intro i hi
  rw [hget_heapOf, if_pos (Nat.zero_le _), Nat.sub_zero, List.getElem?_eq_none (by omega)]
  rfl
theorem muOf_free {at' : List (Nat × Nat)} : ∀ i, at'.length ≤ i → muOf at' i = none := fun i hi => by simp [muOf, List.getElem?_eq_none hi]
end Go.CE

namespace Go.CE
open Go Go.RowKit

def eqL (p : Value → Value → Bool) : List Value → List Value → Bool
  | [], [] => true
  | x :: l, y :: m => p x y && eqL p l m
  | _, _ => false
theorem eqL_sound {p : Value → Value → Bool} (hp : ∀ x y, p x y = true → x = y) : ∀ (l m : List Value), eqL p l m = true → l = m
  | [], [], _ => rfl
  | x :: l, y :: m, h => by
    simp only [eqL, Bool.and_eq_true] at h
    rw [hp x y h.1, eqL_sound hp l m h.2]
  | [], _ :: _, h => by cases h
  | _ :: _, [], h => by cases h
def eqBy : List UInt8 → List UInt8 → Bool
  | [], [] => true
  | x :: l, y :: m => Nat.beq x.toNat y.toNat && eqBy l m
  | _, _ => false
theorem eqBy_sound : ∀ (l m : List UInt8), eqBy l m = true → l = m
  | [], [], _ => rfl
  | x :: l, y :: m, h => by
    simp only [eqBy, Bool.and_eq_true] at h
    rw [UInt8.toNat_inj.1 (Nat.eq_of_beq_eq_true h.1), eqBy_sound l m h.2]
  | [], _ :: _, h => by cases h
  | _ :: _, [], h => by cases h
def eqV0 : Value → Value → Bool
  | .bool a, .bool b => a == b
  | .int k a, .int l b => decide (k = l) && eqq a b
  | .slice (some ⟨a, o, none⟩) n s, .slice (some ⟨b, p, none⟩) m t => Nat.beq a b && Nat.beq o p && Nat.beq n m && Nat.beq s t
  | .slice none n s, .slice none m t => Nat.beq n m && Nat.beq s t
  | .string a, .string b => eqBy a.data.toList b.data.toList
  | .pointer (some ⟨a, o, none⟩), .pointer (some ⟨b, p, none⟩) => Nat.beq a b && Nat.beq o p
  | .func (.func g) x y, .func (.func g') x' y' => Nat.beq g g' && (Nat.beq x.toList.length 0 && (Nat.beq y.toList.length 0 && (Nat.beq x'.toList.length 0 && Nat.beq y'.toList.length 0)))
  | _, _ => false
theorem eqq_true {a b : Int} (h : eqq a b = true) : a = b := by
  rw [eqq_eq] at h
  simpa using h
theorem eqV0_sound (x y : Value) (h : eqV0 x y = true) : x = y := by
  unfold eqV0 at h
  split at h
  · simp only [beq_iff_eq] at h; rw [h]
  · simp only [Bool.and_eq_true, decide_eq_true_eq] at h
    rw [h.1, eqq_true h.2]
  · simp only [Bool.and_eq_true] at h
    obtain ⟨⟨⟨h1, h2⟩, h3⟩, h4⟩ := h
    rw [Nat.eq_of_beq_eq_true h1, Nat.eq_of_beq_eq_true h2, Nat.eq_of_beq_eq_true h3, Nat.eq_of_beq_eq_true h4]
  · simp only [Bool.and_eq_true] at h
    rw [Nat.eq_of_beq_eq_true h.1, Nat.eq_of_beq_eq_true h.2]
  · rename_i a b
    obtain ⟨a⟩ := a
    obtain ⟨b⟩ := b
    simp only at h
    rw [Array.ext' (eqBy_sound _ _ h)]
  · simp only [Bool.and_eq_true] at h
    rw [Nat.eq_of_beq_eq_true h.1, Nat.eq_of_beq_eq_true h.2]
  · rename_i x y _ x' y'
    simp only [Bool.and_eq_true, Nat.beq_eq] at h
    obtain ⟨h1, h2, h3, h4, h5⟩ := h
    have e : ∀ z : Array Value, z.toList.length = 0 → z = #[] := fun z hz => by
      have := List.eq_nil_of_length_eq_zero hz
      exact Array.ext' this
    rw [h1, e x h2, e y h3, e x' h4, e y' h5]
  · cases h
def eqV : Nat → Value → Value → Bool
  | f + 1, .agg x, .agg y => eqL (eqV f) x.toList y.toList
  | f + 1, .tuple x, .tuple y => eqL (eqV f) x.toList y.toList
  | _, x, y => eqV0 x y
theorem eqV_sound : ∀ (f : Nat) (x y : Value), eqV f x y = true → x = y
  | 0, x, y, h => eqV0_sound x y (by simpa [eqV] using h)
  | f + 1, x, y, h => by
    unfold eqV at h
    split at h
    · rename_i f' a b e
      cases e
      rw [Array.ext' (eqL_sound (eqV_sound f) _ _ h)]
    · rename_i f' a b e
      cases e
      rw [Array.ext' (eqL_sound (eqV_sound f) _ _ h)]
    · exact eqV0_sound _ _ h
def hasCells (H : Heap) (x : Nat × Array Value × TypeId) : Bool := match hget H x.1 with
  | some (.cells ds t (0, 0)) => eqL (eqV 1) ds.toList x.2.1.toList && Nat.beq t x.2.2
  | _ => false
def isAns (x : Option Rs) (out : Value) (bs : List (Nat × Array Value × TypeId)) : Bool := match x with
  | some ⟨.ret v, H, _, _, []⟩ => eqV 3 v out && bs.all (hasCells H)
  | _ => false
theorem isAns_spec {x : Option Rs} {out : Value} {bs : List (Nat × Array Value × TypeId)} (h : isAns x out bs = true) : ∃ s, x = some s ∧ s.out = .ret out ∧ s.W = [] ∧ ∀ y ∈ bs, hget s.H y.1 = some (.cells y.2.1 y.2.2 (0, 0)) := by
  unfold isAns at h
  split at h
  · rename_i v H n R
    simp only [Bool.and_eq_true] at h
    refine ⟨_, rfl, by rw [eqV_sound 3 _ _ h.1], rfl, fun y hy => ?_⟩
    have := List.all_eq_true.1 h.2 y hy
    unfold hasCells at this
    split at this
    · rename_i ds t hg
      simp only [Bool.and_eq_true] at this
      have e1 := Array.ext' (eqL_sound (eqV_sound 1) _ _ this.1)
      have e2 := Nat.eq_of_beq_eq_true this.2
      simp only
      rw [hg, e1, e2]
    · cases this
  · cases h
theorem calls_ans {P : Program} {F : FuncId → Bool} {orc : Orc} (hF : ∀ g, F g = true → okFn P g = true) (hmix : P.follows .mixedOrders = true) {fuel : Nat} {f : FuncId} {args args' : Array Value} {l : List (Array Value × TypeId)} {at' : List (Nat × Nat)} {out : Value} {bs : List (Nat × Array Value × TypeId)}
    (h : isAns (callC P F orc fuel f args (heapOf 0 l) l.length) out bs = true) {w : World} {I : World → Prop} {hI : ∀ w1 w2 : World, (∀ b, b < w.heap.size → w2.heap[b]? = w1.heap[b]?) → I w1 → I w2} (horc : OrcS P ⟨w.heap.size, I, hI⟩ orc) (hi : I w) (hl : at'.length = l.length) (hlies : ∀ (i : Nat) x a, l[i]? = some x → at'[i]? = some a → Lies w a.1 a.2 x.1 ∧ x.1.all af = true) (hv : VRs (muOf at') args args') :
    Calls P f args' w fun e w' => ∃ v' n' H' μ', e = .returned v' ∧ Post w.heap.size (fun i => i < l.length) l.length n' [] (muOf at') μ' (heapOf 0 l) H' w w' ∧ VR μ' out v' ∧ (∀ y ∈ bs, hget H' y.1 = some (.cells y.2.1 y.2.2 (0, 0))) ∧ Under H' n' ∧ Below w.heap.size w w' := by
  obtain ⟨s, hs, ho, hW, hb⟩ := isAns_spec h
  obtain hc := calls_closed hF hmix hs (under_heapOf l) horc hi (ok_lies hl hlies) hv (fun i hi => muOf_free i (by omega))
  intro cs
  obtain ⟨e, w', fr, ⟨out', μ', hp, hor, he⟩, h1, h2, h3⟩ := hc cs
  refine ⟨e, w', fr, ?_, h1, h2, h3⟩
  rw [ho] at hor
  rw [hW] at hp
  cases hor with
  | ret hvr => exact ⟨_, s.n, s.H, μ', he, hp, hvr, hb, callC_under horc hF hmix hs (under_heapOf l), ⟨hp.os, hp.tape, hp.output, hp.grow, fun b hb => hp.frame b hb fun i hi => by simp at hi⟩⟩
theorem vrl_mk {μ : Mu} : ∀ (l m : List Value), l.length = m.length → (∀ (i : Nat) v v', l[i]? = some v → m[i]? = some v' → VR μ v v') → VRl μ l m
  | [], [], _, _ => .nil
  | x :: l, y :: m, hl, h => .cons (h 0 x y rfl rfl) (vrl_mk l m (by simpa using hl) fun i v v' a b => h (i + 1) v v' (by simpa using a) (by simpa using b))
  | [], _ :: _, hl, _ => by simp at hl
  | _ :: _, [], hl, _ => by simp at hl
end Go.CE

namespace Go.CE
open Go Go.RowKit

def eqObj : Obj → Obj → Bool
  | .cells a t (x, y), .cells b u (z, v) => eqL (eqV 1) a.toList b.toList && Nat.beq t u && Nat.beq x z && Nat.beq y v
  | _, _ => false
theorem eqObj_sound {a b : Obj} (h : eqObj a b = true) : a = b := by
  unfold eqObj at h
  split at h
  · simp only [Bool.and_eq_true] at h
    obtain ⟨⟨⟨h1, h2⟩, h3⟩, h4⟩ := h
    rw [Array.ext' (eqL_sound (eqV_sound 1) _ _ h1), Nat.eq_of_beq_eq_true h2, Nat.eq_of_beq_eq_true h3, Nat.eq_of_beq_eq_true h4]
  · cases h
def hasAll (H : Heap) : Heap → Bool
  | [] => true
  | (i, o) :: l => (match hget H i with | some x => eqObj x o | none => false) && hasAll H l
theorem hasAll_sound {H : Heap} : ∀ {l : Heap}, hasAll H l = true → ∀ i o, hget l i = some o → hget H i = some o
  | [], _, i, o, ho => by cases ho
  | (k, x) :: l, h, i, o, ho => by
    simp only [hasAll, Bool.and_eq_true] at h
    rw [hget_cons] at ho
    by_cases e : i = k
    · subst e
      rw [if_pos rfl] at ho
      simp only [Option.some.injEq] at ho
      subst ho
      have h1 := h.1
      split at h1
      · rename_i y hy
        rw [hy, eqObj_sound h1]
      · cases h1
    · rw [if_neg e] at ho
      exact hasAll_sound h.2 i o ho
structure Memo where
  g : FuncId
  args : Array Value
  H0 : Heap
  n : Nat
  out : Value
  news : Heap
  n' : Nat
def within (n n' : Nat) (l : Heap) : Bool := l.all fun x => Nat.ble n x.1 && Nat.blt x.1 n'
def isMemo (m : Memo) (x : Option Rs) : Bool := match x with
  | some ⟨.ret v, H, n', R, []⟩ => eqV 3 v m.out && Nat.beq n' m.n' && hasAll H m.news && within m.n m.n' m.news && within 0 m.n m.H0 && R.all (fun i => Nat.ble m.n i || (hget m.H0 i).isSome)
  | _ => false
noncomputable def Memo.run (P : Program) (F : FuncId → Bool) (orc : Orc) (fuel : Nat) (m : Memo) : Option Rs := callC P F orc fuel m.g m.args m.H0 m.n
def memoOrc : List Memo → Orc
  | [], _, _, _, _ => none
  | m :: l, g, args, H, n => bif Nat.beq m.n n && Nat.beq m.g g && eqL (eqV 1) args.toList m.args.toList && hasAll H m.H0 then some ⟨.ret m.out, m.news ++ H, m.n', m.H0.map (·.1), []⟩ else memoOrc l g args H n
theorem hget_append : ∀ (l H : Heap) (i : Nat), hget (l ++ H) i = match hget l i with | some o => some o | none => hget H i
  | [], H, i => rfl
  | (k, o) :: l, H, i => by
    rw [List.cons_append, hget_cons, hget_cons]
    by_cases e : i = k
    · rw [if_pos e, if_pos e]
    · rw [if_neg e, if_neg e]
      exact hget_append l H i
theorem within_sound {n n' : Nat} : ∀ {l : Heap}, within n n' l = true → ∀ i o, hget l i = some o → n ≤ i ∧ i < n'
  | [], _, i, o, ho => by cases ho
  | (k, x) :: l, h, i, o, ho => by
    simp only [within, List.all_cons, Bool.and_eq_true] at h
    rw [hget_cons] at ho
    by_cases e : i = k
    · subst e
      exact ⟨Nat.le_of_ble_eq_true h.1.1, Nat.le_of_ble_eq_true h.1.2⟩
    · rw [if_neg e] at ho
      exact within_sound h.2 i o ho
theorem hget_none_of_within {n n' : Nat} {l : Heap} (h : within n n' l = true) {i : Nat} (hi : i < n ∨ n' ≤ i) : hget l i = none := by
  cases hg : hget l i with
  | none => rfl
  | some o => have := within_sound h i o hg; omega
theorem hget_mem_map {l : Heap} {i : Nat} {o : Obj} (h : hget l i = some o) : i ∈ l.map (·.1) := by
  induction l with
  | nil => cases h
  | cons p l ih =>
    obtain ⟨k, x⟩ := p
    rw [hget_cons] at h
    by_cases e : i = k
    · subst e; simp
    · rw [if_neg e] at h
      exact List.mem_cons_of_mem _ (ih h)
theorem isMemo_spec {m : Memo} {x : Option Rs} (h : isMemo m x = true) : ∃ H R, x = some ⟨.ret m.out, H, m.n', R, []⟩ ∧ (∀ i o, hget m.news i = some o → hget H i = some o) ∧ within m.n m.n' m.news = true ∧ within 0 m.n m.H0 = true ∧ ∀ i ∈ R, i < m.n → ∃ o, hget m.H0 i = some o := by
  unfold isMemo at h
  split at h
  · rename_i v H n' R
    simp only [Bool.and_eq_true] at h
    obtain ⟨⟨⟨⟨⟨h1, h2⟩, h3⟩, h4⟩, h5⟩, h6⟩ := h
    refine ⟨H, R, by rw [eqV_sound 3 _ _ h1, Nat.eq_of_beq_eq_true h2], hasAll_sound h3, h4, h5, fun i hi hl => ?_⟩
    have := List.all_eq_true.1 h6 i hi
    simp only [Bool.or_eq_true] at this
    rcases this with h | h
    · have := Nat.le_of_ble_eq_true h; omega
    · exact Option.isSome_iff_exists.1 h
  · cases h
theorem orcS_cons {P : Program} {F : FuncId → Bool} {orc : Orc} {B : Lo} (hF : ∀ g, F g = true → okFn P g = true) (hmix : P.follows .mixedOrders = true) (horc : OrcS P B orc) {fuel : Nat} {m : Memo} {l : List Memo} (hm : isMemo m (m.run P F orc fuel) = true) (hl : OrcS P B (memoOrc l)) : OrcS P B (memoOrc (m :: l)) := by
  intro g args H n s hu h
  simp only [memoOrc] at h
  cases hq : (Nat.beq m.n n && Nat.beq m.g g && eqL (eqV 1) args.toList m.args.toList && hasAll H m.H0) with
  | false =>
    rw [hq] at h
    exact hl g args H n s hu h
  | true =>
    rw [hq] at h
    simp only [cond_true, Option.some.injEq] at h
    simp only [Bool.and_eq_true] at hq
    obtain ⟨⟨⟨q1, q2⟩, q3⟩, q4⟩ := hq
    obtain rfl := Nat.eq_of_beq_eq_true q1
    obtain rfl := Nat.eq_of_beq_eq_true q2
    obtain rfl := Array.ext' (eqL_sound (eqV_sound 1) _ _ q3)
    have hH := hasAll_sound q4
    subst h
    obtain ⟨Hs, R, hrun, hnews, hw, hw0, hR0⟩ := isMemo_spec hm
    obtain ⟨c, hc, hr⟩ := callC_frun hrun
    have hu0 : Under m.H0 m.n := fun i hi => hget_none_of_within hw0 (.inr hi)
    obtain ⟨Rr, Wr, hfj, a1, a2, a3, a4⟩ := frun_sound (B := B) hF hmix horc fuel m.n c m.H0 m.n [] [] _ hu0 (fun i hi => by simp at hi) (fun i hi => by simp at hi) hr
    have hfj := hfj.lists (fun i hi => by simpa using a1 i hi) (fun i hi => by simpa using a2 i hi) a4
    have hle : m.n ≤ m.n' := hfj.shape.le
    have hgo : ∀ i, i < m.n ∨ m.n' ≤ i → hget (m.news ++ H) i = hget H i := fun i hi => by
      rw [hget_append, hget_none_of_within hw hi]
    have hgn : ∀ i o, m.n ≤ i → hget (m.news ++ H) i = some o → hget Hs i = some o := by
      intro i o h1 h2
      rw [hget_append] at h2
      cases hg : hget m.news i with
      | some x =>
        rw [hg] at h2
        rw [hnews i x hg]; exact h2
      | none =>
        rw [hg, hu i h1] at h2
        cases h2
    refine ⟨⟨hle, fun i hi _ => hgo i (.inl hi), fun i hi => hgo i (.inr hi), fun _ h => by simp at h, fun _ h => by simp at h⟩, fun S μ w args' cs hok hB hS hf hv hR => ?_⟩
    simp only at hf hR ⊢
    have hok0 : Ok B (fun i => S i ∧ ∃ o, hget m.H0 i = some o) μ (hget m.H0) w := by
      refine ⟨fun i o hi ho hl => hok.rel i o hi.1 (hH i o ho) hl, fun i o im hi ho hl => hok.low i o im hi.1 (hH i o ho) hl, fun i j oi oj a b hi hj hij hoi hoj => hok.inj i j oi oj a b hi.1 hj.1 hij (hH i oi hoi) (hH j oj hoj),
        fun i o hi ho => hok.reg i o hi.1 (hH i o ho), fun i j oi oj a b x hi hj hoi hoj => hok.sep i j oi oj a b x hi.1 hj.1 (hH i oi hoi) (hH j oj hoj)⟩
    obtain ⟨out', w', μ', hp, ho, he⟩ := hfj.sem _ μ w _ cs hok0 hB (fun i hi => hS i hi.1) hf (enterC_FrR hc hv) (fun i hi hl => by
      obtain ⟨o, ho⟩ := hR0 i hi hl
      exact ⟨hR i (hget_mem_map ho) hl, o, ho⟩)
    simp only at hp ho
    have hold : ∀ i im, S i → μ i = some im → μ' i = some im := fun i im hi h => by
      have := hS i hi
      rw [hp.ext i (by omega)]; exact h
    have hext : Ext μ μ' := hp.mu hf
    have hfr : ∀ i im o, m.n ≤ i → i < m.n' → hget (m.news ++ H) i = some o → live o → μ' i = some im → im.rw = true ∧ w.heap.size ≤ im.blk := by
      intro i im o h1 h2 h3 h4 h5
      obtain ⟨x, y⟩ := hp.fresh i im o h1 h2 (hgn i o h1 h3) h4 h5
      exact ⟨x, y.elim id fun ⟨k, hk, _⟩ => by simp at hk⟩
    have hOld : ∀ i o, S i → hget (m.news ++ H) i = some o → live o → ∃ im, μ i = some im ∧ μ' i = some im ∧ hget H i = some o ∧ im.blk < w.heap.size := by
      intro i o hi ho hl
      have := hS i hi
      rw [hgo i (.inl this)] at ho
      obtain ⟨im, him, _⟩ := hok.rel i o hi ho hl
      exact ⟨im, him, hold i im hi him, ho, (hok.low i o im hi ho hl him).1⟩
    refine ⟨out', w', μ', ⟨⟨fun i o hi ho hl => ?_, fun i o im hi ho hl him => ?_, fun i j oi oj a b hi hj hij hoi hoj hli hlj ha hb hra hrb => ?_, fun i o hi ho hr => ?_, fun i j oi oj a b x hi hj hoi hoj hri hlj ha hb hrb hx => ?_⟩, hle, hp.ext, fun i hi _ => hgo i (.inl hi), hp.grow, fun b hb _ => hp.frame b hb fun i hi => by simp at hi, fun i hi => by simp at hi,
      fun i im o h1 h2 h3 h4 h5 => ⟨(hfr i im o h1 h2 h3 h4 h5).1, .inl (hfr i im o h1 h2 h3 h4 h5).2⟩, fun i im o hi ho hr hm b x hx => ?_, hp.os, hp.tape, hp.output⟩, ho, he⟩
    · rcases hi with hi | hi
      · obtain ⟨im, him, him', ho', hlt⟩ := hOld i o hi ho hl
        obtain ⟨im2, him2, hr2⟩ := hok.rel i o hi ho' hl
        rw [him] at him2; cases him2
        exact ⟨im, him', hr2.keep hext (hp.frame _ hlt fun i hi => by simp at hi)⟩
      · exact hp.ok.rel i o (.inr hi) (hgn i o hi.1 ho) hl
    · rcases hi with hi | hi
      · obtain ⟨im2, him2, him', ho', hlt⟩ := hOld i o hi ho hl
        rw [him] at him'; cases him'
        exact ⟨Nat.lt_of_lt_of_le hlt hp.grow, (hok.low i o im hi ho' hl him2).2⟩
      · exact hp.ok.low i o im (.inr hi) (hgn i o hi.1 ho) hl him
    · rcases hi with hi | hi <;> rcases hj with hj | hj
      · obtain ⟨im, h1, h2, h3, _⟩ := hOld i oi hi hoi hli
        obtain ⟨jm, k1, k2, k3, _⟩ := hOld j oj hj hoj hlj
        rw [ha] at h2; cases h2
        rw [hb] at k2; cases k2
        exact hok.inj i j oi oj a b hi hj hij h3 k3 hli hlj h1 k1 hra hrb
      · obtain ⟨im, h1, h2, h3, h4⟩ := hOld i oi hi hoi hli
        rw [ha] at h2; cases h2
        have := (hfr j b oj hj.1 hj.2 hoj hlj hb).2
        omega
      · obtain ⟨im, h1, h2, h3, h4⟩ := hOld j oj hj hoj hlj
        rw [hb] at h2; cases h2
        have := (hfr i a oi hi.1 hi.2 hoi hli ha).2
        omega
      · exact hp.ok.inj i j oi oj a b (.inr hi) (.inr hj) hij (hgn i oi hi.1 hoi) (hgn j oj hj.1 hoj) hli hlj ha hb hra hrb
    · rcases hi with hi | hi
      · have := hS i hi
        rw [hgo i (.inl this)] at ho
        obtain ⟨im, him, hf⟩ := hok.reg i o hi ho hr
        exact ⟨im, hold i im hi him, fun b x hx => by rw [hp.frame b (reg_lt hok hi ho hr him hx) fun i hi => by simp at hi]; exact hf b x hx⟩
      · exact hp.ok.reg i o (.inr hi) (hgn i o hi.1 ho) hr
    · have oldR : ∀ i oi a, S i → hget (m.news ++ H) i = some oi → μ' i = some a → isReg oi → hget H i = some oi ∧ μ i = some a := by
        intro i oi a hi hoi ha hr
        have := hS i hi
        rw [hgo i (.inl this)] at hoi
        rw [hp.ext i (by omega)] at ha
        exact ⟨hoi, ha⟩
      rcases hi with hi | hi <;> rcases hj with hj | hj
      · obtain ⟨h1, h2⟩ := oldR i oi a hi hoi ha hri
        obtain ⟨jm, k1, k2, k3, _⟩ := hOld j oj hj hoj hlj
        rw [hb] at k2; cases k2
        exact hok.sep i j oi oj a b x hi hj h1 k3 hri hlj h2 k1 hrb hx
      · obtain ⟨h1, h2⟩ := oldR i oi a hi hoi ha hri
        have := (hfr j b oj hj.1 hj.2 hoj hlj hb).2
        have := reg_lt hok hi h1 hri h2 hx
        omega
      · obtain ⟨jm, k1, k2, k3, k4⟩ := hOld j oj hj hoj hlj
        rw [hb] at k2; cases k2
        rcases hp.rf i a oi (.inl hi) (hgn i oi hi.1 hoi) hri ha b.blk x hx with e | ⟨k, kim, ko, hSk, _, hko, hkr, hkm, hkb⟩ | ⟨k, hk, _⟩
        · omega
        · exact hok.sep k j ko oj kim b x hSk.1 hj (hH k ko hko) k3 hkr hlj hkm k1 hrb hkb
        · simp at hk
      · exact hp.ok.sep i j oi oj a b x (.inr hi) (.inr hj) (hgn i oi hi.1 hoi) (hgn j oj hj.1 hoj) hri hlj ha hb hrb hx
    · have hin : m.n ≤ i ∧ i < m.n' := hi.elim id fun h => by simp at h
      rcases hp.rf i im o (.inl hin) (hgn i o hin.1 ho) hr hm b x hx with e | ⟨k, kim, ko, hSk, hkn, hko, c⟩ | ⟨k, hk, _⟩
      · exact .inl e
      · exact .inr (.inl ⟨k, kim, ko, hSk.1, hkn, hH k ko hko, c⟩)
      · simp at hk
theorem orcS_nil (P : Program) (B : Lo) : OrcS P B (memoOrc []) := fun _ _ _ _ _ _ h => by cases h
def orElse (a b : Orc) : Orc := fun g args H n => match a g args H n with
  | some s => some s
  | none => b g args H n
theorem orElse_ok {P : Program} {B : Lo} {a b : Orc} (ha : OrcS P B a) (hb : OrcS P B b) : OrcS P B (orElse a b) := by
  intro g args H n s hu h
  unfold orElse at h
  split at h
  · rename_i s' hs
    cases h
    exact ha g args H n s hu hs
  · exact hb g args H n s hu h
end Go.CE

namespace Go.CE
open Go Go.RowKit

section
variable {P : Program} {fr : Frame} {cs : List Frame} {w : World} {A : Array Value} {ops : Array Oper} {i : Nat} {l : List Nat} {k : List Item} {o : Oper}
end

section
variable {P : Program} {F : FuncId → Bool} {orc : Orc} {B : Lo}
theorem GoJ.refl (c : CF) (H : Heap) (n : Nat) : GoJ P B c H n c H n [] [] := ⟨Shape.same _ _ _, fun _ μ w fr _ _ hok _ _ _ hfr _ => ⟨fr, w, μ, Post.refl hok, hfr, rfl, rfl, Steps.refl _ _⟩⟩
theorem GoJ.trans {c c' c'' : CF} {H H' H'' : Heap} {n n' n'' : Nat} {R R' W W' : List Nat} (h : GoJ P B c H n c' H' n' R W) (k : GoJ P B c' H' n' c'' H'' n'' R' W') : GoJ P B c H n c'' H'' n'' (R ++ R') (W ++ W') := by
  refine ⟨h.shape.trans k.shape, fun S μ w fr cs Z hok hB hS hf hfr hR => ?_⟩
  have l1 := h.shape.le
  have l2 := k.shape.le
  obtain ⟨fr1, w1, μ1, hp, hfr1, hr, hfn, hst⟩ := h.sem S μ w fr cs Z hok hB hS (fun q a b => hf q a (by omega)) hfr (fun q hq hlt => hR q (List.mem_append_left _ hq) hlt)
  obtain ⟨fr2, w2, μ2, hp2, hfr2, hr2, hfn2, hst2⟩ := k.sem _ μ1 w1 fr1 cs Z hp.ok (hB.post hok hp) (fun q hq => hq.elim (fun e => by have := hS q e; omega) (fun e => e.2))
    (fun q a b => by rw [hp.ext q (by omega)]; exact hf q (by omega) b) hfr1 (fun q hq hlt => by
      rcases Nat.lt_or_ge q n with h1 | h1
      · exact .inl (hR q (List.mem_append_right _ hq) h1)
      · exact .inr ⟨h1, hlt⟩)
  exact ⟨fr2, w2, μ2, hp.trans hp2, hfr2, hr2.trans hr, hfn2.trans hfn, hst.trans hst2⟩
variable {S : Nat → Prop} {n N m m2 : Nat} {W W2 R2 : List Nat} {μ0 μ : Mu} {H0 H H2 : Heap} {w0 w : World}
end
end Go.CE

namespace Go.CE
open Go Go.RowKit

section
variable {μ μ1 : Mu} {ρ : Nat → Nat} {m : Nat}
end

def Loose (v : Value) : Prop := ∀ μ μ1 v', VR μ v v' → VR μ1 v v'
theorem loose_af {v : Value} (h : af v = true) : Loose v := fun _ _ _ hv => by rw [af_eq h hv]; exact vr_af h
theorem loose_junk : Loose (.chan none) := fun _ _ _ h => by
  cases h with
  | junk a b c => exact .junk a b c
theorem loose_agg {xs : Array Value} (h : ∀ x ∈ xs, Loose x) : Loose (.agg xs) := fun μ μ1 v' hv => by
  cases hv with
  | agg h1 h2 => exact .agg h1 fun i v v' a b => h v (Array.mem_of_getElem? a) μ μ1 v' (h2 i v v' a b)
theorem loose_tuple {xs : Array Value} (h : ∀ x ∈ xs, Loose x) : Loose (.tuple xs) := fun μ μ1 v' hv => by
  cases hv with
  | tuple h1 h2 => exact .tuple h1 fun i v v' a b => h v (Array.mem_of_getElem? a) μ μ1 v' (h2 i v v' a b)
theorem loose_func {g : FuncId} {xs ys : Array Value} (h : ∀ x ∈ xs, Loose x) (k : ∀ x ∈ ys, Loose x) : Loose (.func (.func g) xs ys) := fun μ μ1 v' hv => by
  cases hv with
  | func h1 h2 h3 h4 => exact .func h1 h2 (fun i v v' a b => h v (Array.mem_of_getElem? a) μ μ1 v' (h3 i v v' a b)) (fun i v v' a b => k v (Array.mem_of_getElem? a) μ μ1 v' (h4 i v v' a b))
theorem loose_iface {t : TypeId} {v : Value} (h : Loose v) : Loose (.iface t v) := fun μ μ1 v' hv => by
  cases hv with
  | iface hv => exact .iface (h μ μ1 _ hv)
theorem arr_ex {xs : Array Value} (h : ∀ x ∈ xs, ∃ d, Loose d ∧ ∀ μ v', VR μ x v' → VR μ d v') : ∃ ds : Array Value, ds.size = xs.size ∧ (∀ d ∈ ds, Loose d) ∧ ∀ μ (xs' : Array Value), (∀ (i : Nat) v v', xs[i]? = some v → xs'[i]? = some v' → VR μ v v') → ∀ (i : Nat) v v', ds[i]? = some v → xs'[i]? = some v' → VR μ v v' := by
  have h' : ∀ i : Fin xs.size, ∃ d, Loose d ∧ ∀ μ v', VR μ xs[i] v' → VR μ d v' := fun i => h xs[i] (Array.getElem_mem i.2)
  refine ⟨Array.ofFn fun i => Classical.choose (h' i), by simp, fun d hd => ?_, fun μ xs' hx i v v' hv hv' => ?_⟩
  · obtain ⟨i, hi⟩ := Array.mem_ofFn.1 hd
    rw [← hi]
    exact (Classical.choose_spec (h' i)).1
  · rw [Array.getElem?_ofFn] at hv
    split at hv
    · rename_i hi
      simp only [Option.some.injEq] at hv
      subst hv
      exact (Classical.choose_spec (h' ⟨i, hi⟩)).2 μ v' (hx i _ v' (by simp [hi]) hv')
    · cases hv
theorem forget_ex (v : Value) : ∃ d, Loose d ∧ ∀ μ v', VR μ v v' → VR μ d v' := by
  have junk : ∀ {v : Value}, (∀ μ v', VR μ v v' → (∀ b, v' ≠ .bool b) ∧ v'.cells = #[v'] ∧ v'.oneCell' = true) → ∃ d, Loose d ∧ ∀ μ v', VR μ v v' → VR μ d v' :=
    fun h => ⟨.chan none, loose_junk, fun μ v' hv => .junk (h μ v' hv).1 (h μ v' hv).2.1 (h μ v' hv).2.2⟩
  match v with
  | .agg xs =>
    obtain ⟨ds, e, hl, hd⟩ := arr_ex (xs := xs) fun x _ => forget_ex x
    refine ⟨.agg ds, loose_agg hl, fun μ v' hv => ?_⟩
    cases hv with
    | agg h1 h2 => exact .agg (e.trans h1) (hd μ _ h2)
  | .tuple xs =>
    obtain ⟨ds, e, hl, hd⟩ := arr_ex (xs := xs) fun x _ => forget_ex x
    refine ⟨.tuple ds, loose_tuple hl, fun μ v' hv => ?_⟩
    cases hv with
    | tuple h1 h2 => exact .tuple (e.trans h1) (hd μ _ h2)
  | .func (.func g) xs ys =>
    obtain ⟨ds, e, hl, hd⟩ := arr_ex (xs := xs) fun x _ => forget_ex x
    obtain ⟨es, e', hl', hd'⟩ := arr_ex (xs := ys) fun x _ => forget_ex x
    refine ⟨.func (.func g) ds es, loose_func hl hl', fun μ v' hv => ?_⟩
    cases hv with
    | func h1 h2 h3 h4 => exact .func (e.trans h1) (e'.trans h2) (hd μ _ h3) (hd' μ _ h4)
  | .iface t x =>
    obtain ⟨d, hl, hd⟩ := forget_ex x
    refine ⟨.iface t d, loose_iface hl, fun μ v' hv => ?_⟩
    cases hv with
    | iface hv => exact .iface (hd μ _ hv)
  | .bool b => exact ⟨_, loose_af rfl, fun _ _ h => h⟩
  | .int k n => exact ⟨_, loose_af rfl, fun _ _ h => h⟩
  | .string s => exact ⟨_, loose_af rfl, fun _ _ h => h⟩
  | .nilFunc => exact ⟨_, loose_af rfl, fun _ _ h => h⟩
  | .nilIface => exact ⟨_, loose_af rfl, fun _ _ h => h⟩
  | .chan r => exact junk fun μ v' h => by cases h with
    | junk a b c => exact ⟨a, b, c⟩
    | noCap => exact ⟨(fun b e => by cases e), rfl, rfl⟩
  | .pointer a => exact junk fun μ v' h => by cases h <;> exact ⟨(fun b e => by cases e), rfl, rfl⟩
  | .slice a n c => exact junk fun μ v' h => by cases h <;> exact ⟨(fun b e => by cases e), rfl, rfl⟩
  | .map r => exact junk fun μ v' h => by cases h <;> exact ⟨(fun b e => by cases e), rfl, rfl⟩
  | .func (.yield l) xs ys => exact junk fun μ v' h => by cases h <;> exact ⟨(fun b e => by cases e), rfl, rfl⟩
  | .func (.method s) xs ys => exact junk fun μ v' h => by cases h
  | .func (.methodOf t s) xs ys => exact junk fun μ v' h => by cases h
  | .func (.via t p f q) xs ys => exact junk fun μ v' h => by cases h with | top a b c => exact ⟨c.nobool a, c.one a⟩
  | .float k b => exact junk fun μ v' h => by cases h
  | .complex k a b => exact junk fun μ v' h => by cases h
termination_by SizeOf.sizeOf v
decreasing_by
  all_goals simp_wf
  all_goals first
    | (have := Array.sizeOf_lt_of_mem ‹_ ∈ _›; omega)
    | omega
end Go.CE
namespace Go.CE
open Go Go.RowKit
end Go.CE

namespace Go.CE
open Go Go.RowKit

structure GoE (P : Program) (B : Lo) (c0 : CF) (H0 : Heap) (n : Nat) (c' : CF) (H' : Heap) (n' : Nat) (W : List Nat) : Prop where
  under : Under H' n'
  le : n ≤ n'
  sem : ∀ (Z : Bot) (μ : Mu) (w : World) (fr : Frame) (cs : List Frame), Ok B (fun i => i < n) μ (hget H0) w → B.has w → (∀ i, n ≤ i → μ i = none) → FrR Z μ c0 fr →
    ∃ fr' w' μ', Post B (fun i => i < n) n n' W μ μ' H0 H' w w' ∧ FrR Z μ' c' fr' ∧ fr'.roundOf = fr.roundOf ∧ fr'.fn = fr.fn ∧ Steps P (lone fr cs w) (lone fr' cs w')
section
variable {P : Program} {B : Lo} {c0 c1 c2 : CF} {H0 H1 H2 : Heap} {n n1 n2 : Nat} {W W1 W2 R2 : List Nat}
theorem GoE.refl (hu : Under H0 n) : GoE P B c0 H0 n c0 H0 n [] :=
  ⟨hu, Nat.le_refl _, fun _ μ w fr _ hok _ _ hfr => ⟨fr, w, μ, Post.refl hok, hfr, rfl, rfl, Steps.refl _ _⟩⟩
theorem GoE.lists (h : GoE P B c0 H0 n c1 H1 n1 W) (hW : ∀ i, i < n → (i ∈ W1 ↔ i ∈ W)) : GoE P B c0 H0 n c1 H1 n1 W1 :=
  ⟨h.under, h.le, fun Z μ w fr cs hok hB hf hfr => let ⟨fr', w', μ', hp, a⟩ := h.sem Z μ w fr cs hok hB hf hfr; ⟨fr', w', μ', hp.lists hW, a⟩⟩
theorem GoE.step (h : GoE P B c0 H0 n c1 H1 n1 W1) (k : GoJ P B c1 H1 n1 c2 H2 n2 R2 W2) : GoE P B c0 H0 n c2 H2 n2 (W1 ++ W2) := by
  refine ⟨h.under.shape k.shape, Nat.le_trans h.le k.shape.le, fun Z μ w fr cs hok hB hf hfr => ?_⟩
  have le1 := h.le
  obtain ⟨fr1, w1, μ1, hp, hfr1, hr, hfn, hst⟩ := h.sem Z μ w fr cs hok hB hf hfr
  obtain ⟨fr2, w2, μ2, hp2, hfr2, hr2, hfn2, hst2⟩ := k.sem _ μ1 w1 fr1 cs Z hp.ok (hB.post hok hp) (fun i hi => hi.elim (fun e => by omega) (fun e => e.2)) (fun q a b => by rw [hp.ext q (by omega)]; exact hf q (by omega)) hfr1
    (fun q _ hlt => by
      rcases Nat.lt_or_ge q n with h1 | h1
      · exact .inl h1
      · exact .inr ⟨h1, hlt⟩)
  exact ⟨fr2, w2, μ2, hp.trans hp2, hfr2, hr2.trans hr, hfn2.trans hfn, hst.trans hst2⟩
theorem GoE.fj {out : OO} (h : GoE P B c0 H0 n c1 H1 n1 W1) (k : FJ P B c1 H1 n1 out H2 n2 R2 W2) (μ : Mu) (w : World) (fr : Frame) (cs : List Frame) (hok : Ok B (fun i => i < n) μ (hget H0) w) (hB : B.has w) (hf : ∀ i, n ≤ i → μ i = none) (hfr : FrR Bot.no μ c0 fr) :
    ∃ out' w' μ', Post B (fun i => i < n) n n2 (W1 ++ W2) μ μ' H0 H2 w w' ∧ OR2 μ' out out' ∧ EndsAs P fr cs w out' w' := by
  have le1 := h.le
  obtain ⟨fr1, w1, μ1, hp, hfr1, hr, hfn, hst⟩ := h.sem Bot.no μ w fr cs hok hB hf hfr
  obtain ⟨out', w2, μ2, hp2, ho, he⟩ := k.sem _ μ1 w1 fr1 cs hp.ok (hB.post hok hp) (fun i hi => hi.elim (fun e => by omega) (fun e => e.2)) (fun q a b => by rw [hp.ext q (by omega)]; exact hf q (by omega)) hfr1
    (fun q _ hlt => by
      rcases Nat.lt_or_ge q n with h1 | h1
      · exact .inl h1
      · exact .inr ⟨h1, hlt⟩)
  exact ⟨out', w2, μ2, hp.trans hp2, ho, he.of_steps hst hr hfn⟩
end

def look : List (Nat × Value) → Nat → Value → Value
  | [], _, d => d
  | (a, v) :: l, t, d => bif Nat.beq a t then v else look l t d
theorem look_cases (l : List (Nat × Value)) (t : Nat) (d : Value) : look l t d = d ∨ ∃ v, (t, v) ∈ l ∧ look l t d = v := by
  induction l with
  | nil => exact .inl rfl
  | cons p l ih =>
    obtain ⟨a, v⟩ := p
    cases hb : Nat.beq a t with
    | true =>
      have := Nat.eq_of_beq_eq_true hb
      subst this
      exact .inr ⟨v, by simp, by simp [look]⟩
    | false =>
      simp only [look, hb, cond_false]
      exact ih.imp id fun ⟨v, h1, h2⟩ => ⟨v, List.mem_cons_of_mem _ h1, h2⟩
def mkL (live : List (Nat × Value)) (d : Nat → Value) : Nat → Nat → List Value
  | 0, _ => []
  | k + 1, t => look live t (d t) :: mkL live d k (t + 1)
theorem mkL_length (live : List (Nat × Value)) (d : Nat → Value) : ∀ (k t : Nat), (mkL live d k t).length = k
  | 0, _ => rfl
  | k + 1, t => by simp [mkL, mkL_length live d k]
theorem mkL_get (live : List (Nat × Value)) (d : Nat → Value) : ∀ (k t i : Nat), i < k → (mkL live d k t).getD i undef = look live (t + i) (d (t + i))
  | 0, _, i, h => by omega
  | k + 1, t, 0, _ => rfl
  | k + 1, t, i + 1, h => by
    have := mkL_get live d k (t + 1) i (by omega)
    rw [show t + (i + 1) = t + 1 + i by omega, ← this]
    rfl
def mkT (len : Nat) (live : List (Nat × Value)) (d : Nat → Value) : Tm := ofList len (mkL live d len 0)
theorem mkT_get {len : Nat} {live : List (Nat × Value)} {d : Nat → Value} (hl : len ≤ 16000) (t : Nat) : tget (mkT len live d) t = if t < len then look live t (d t) else undef := by
  have h := ofL_get (mkL live d len 0) 0 .lf t (by rw [mkL_length]; omega)
  have e : tget (mkT len live d) t = (ofL (mkL live d len 0) 0 .lf).get t := rfl
  rw [e, h]
  simp only [Nat.zero_le, true_and, Nat.zero_add, mkL_length, Nat.sub_zero, Tri.get_lf]
  split
  · rename_i ht
    rw [mkL_get live d len 0 t ht, Nat.zero_add]
  · rfl
def plainItem : Item → Bool
  | .endRangeFunc _ => false
  | .inRangeFunc _ => false
  | _ => true
theorem TodoR.plain {μ μ1 : Mu} {l L : List Item} (h : TodoR μ l L) (hp : l.all plainItem = true) : TodoR μ1 l L := by
  induction h with
  | nil => exact .nil
  | cons hi _ ih =>
    simp only [List.all_cons, Bool.and_eq_true] at hp
    refine .cons ?_ (ih hp.2)
    cases hi with
    | code c => exact .code c
    | inBlock id => exact .inBlock id
    | inLoop c => exact .inLoop c
    | inScope c => exact .inScope c
    | beginRound => exact .beginRound
    | endRF h => cases hp.1
def headC (f : FuncId) (len : Nat) (live : List (Nat × Value)) (d : Nat → Value) (todo : List Item) : CF := ⟨f, mkT len live d, todo, [], .run, none⟩
end Go.CE

namespace Go.CE
open Go Go.RowKit

inductive Hint where
  | val (v : Value)
  | idx (k : Nat)
  | ld (v : Value)
  | raw (v : Value)
  | len (n : Nat)
  | eq (b : Bool)
  | app (cs : Array Value)
  | mk (m : Nat) (cs : Array Value)
  | st (cs : Array Value)
  | call (keys : List Nat) (out : Value) (ups : Heap) (n' : Nat) (W : List Nat)
  | look (v : Value)
  | upd (es : Array MapEntry) (clk : Nat)
  | nil
def veq : Value → Value → Prop
  | .int k a, .int k' b => bif decide (k = k') then a = b else False
  | .bool a, .bool b => a = b
  | u, v => u = v
theorem veq_eq {u v : Value} (h : veq u v) : u = v := by
  unfold veq at h
  split at h
  · rename_i k a k' b
    by_cases e : k = k'
    · simp only [e, decide_true, cond_true] at h
      rw [e, h]
    · simp [e] at h
  · rw [h]
  · exact h
def plainSpot : Option Nat → Bool
  | none => true
  | some 0 => true
  | _ => false
def SliceLen (v : Value) (m : Nat) : Prop := ∀ μ v', VR μ v v' → ∃ a c, v' = .slice a m c
theorem cPart_run' {P : Program} {t : TypeId} {cs : Array Value} {off : Nat} {v : Value} (h : cPart P t cs off = some v) (w : World) : (part t cs off).run P w = .ok v w := by
  unfold cPart at h
  cases ha : aggT P t with
  | none => rw [ha] at h; cases h
  | some b =>
    rw [ha] at h
    cases b with
    | true =>
      cases hs : szOf P t with
      | none => rw [hs] at h; cases h
      | some s =>
        rw [hs] at h
        dsimp only at h
        cases hb : Nat.ble (off + s) cs.size with
        | false => rw [hb] at h; cases h
        | true =>
          rw [hb] at h
          simp only [cond_true, Option.some.injEq] at h
          subst h
          simp only [part, Sem.run_bind, aggT_run ha, Result.andThen_ok, if_true, szOf_run hs, Sem.run_pure]
    | false =>
      simp only at h
      simp only [part, Sem.run_bind, aggT_run ha, Result.andThen_ok, h]
      rfl
def loosePart (v : Value) : Bool := af v
def eqFs (P : Program) (rec : TypeId → Value → Value → Option Bool) : List Field → Array Value → Array Value → Option Bool
  | [], _, _ => some true
  | f :: fs, xs, ys => bif decide (f.name = "_") then eqFs P rec fs xs ys else
    match cPart P f.type xs f.offset, cPart P f.type ys f.offset with
    | some a, some b => match rec f.type a b, eqFs P rec fs xs ys with
      | some r, some q => some (r && q)
      | _, _ => none
    | _, _ => none
def eqT (P : Program) : Nat → TypeId → Value → Value → Option Bool
  | 0, _, _, _ => none
  | d + 1, t, x, y => match und P t, x, y with
    | some (.int _), .int k a, .int k' b => bif decide (k = k') then some (eqq a b) else none
    | some .bool, .bool a, .bool b => some (bif a then b else !b)
    | some (.struct fs), .agg xs, .agg ys => bif P.stoodInHeld t then none else eqFs P (eqT P d) fs.toList xs ys
    | _, _, _ => none
theorem eqFs_run {P : Program} {rec : TypeId → Value → Value → Option Bool} (d : Nat) (hrec : ∀ t x y r, rec t x y = some r → ∀ (D : Nat) (w : World), d ≤ D → (Op.equalIn D t x y).run P w = .ok r w) : ∀ (fs : List Field) (xs ys : Array Value) (r : Bool), eqFs P rec fs xs ys = some r → ∀ (D : Nat) (w : World), d ≤ D → (Op.eqFields D xs ys fs).run P w = .ok r w
  | [], xs, ys, r, h, D, w, hD => by
    simp only [eqFs, Option.some.injEq] at h
    subst h
    simp [Op.eqFields]
  | f :: fs, xs, ys, r, h, D, w, hD => by
    unfold eqFs at h
    by_cases e : f.name = "_"
    · simp only [e, decide_true, cond_true] at h
      simp only [Op.eqFields, e, ne_eq, not_true_eq_false, if_false]
      exact eqFs_run d hrec fs xs ys r h D w hD
    · simp only [e, decide_false, cond_false] at h
      split at h
      · rename_i a b ha hb
        split at h
        · rename_i r1 q h1 h2
          simp only [Option.some.injEq] at h
          subst h
          have pa : (part f.type xs f.offset).run P w = .ok a w := cPart_run' ha w
          have pb : (part f.type ys f.offset).run P w = .ok b w := cPart_run' hb w
          simp only [Op.eqFields, e, ne_eq, not_false_eq_true, if_true, Sem.run_bind, pa, Result.andThen_ok, pb, hrec f.type a b r1 h1 D w hD]
          cases r1 with
          | true => simpa using eqFs_run d hrec fs xs ys q h2 D w hD
          | false => simp
        · cases h
      · cases h
theorem eqT_run {P : Program} : ∀ (d : Nat) (t : TypeId) (x y : Value) (r : Bool), eqT P d t x y = some r → ∀ (D : Nat) (w : World), d ≤ D → (Op.equalIn D t x y).run P w = .ok r w
  | 0, t, x, y, r, h, D, w, hD => by simp [eqT] at h
  | d + 1, t, x, y, r, h, D, w, hD => by
    obtain ⟨D, rfl⟩ : ∃ e, D = e + 1 := ⟨D - 1, by omega⟩
    unfold eqT at h
    simp only [und_eq] at h
    split at h
    · rename_i k0 k a k' b hu
      by_cases e : k = k'
      · subst e
        simp only [decide_true, cond_true, Option.some.injEq] at h
        rw [run_equalIn_int w D t k k0 a b hu, ← h, eqq_eq]
      · simp [e] at h
    · rename_i a b hu
      simp only [Option.some.injEq] at h
      rw [run_equalIn_bool' w D t a b hu, ← h]
      cases a <;> cases b <;> rfl
    · rename_i fs xs ys hu
      cases hs : P.stoodInHeld t with
      | true => rw [hs] at h; cases h
      | false =>
        rw [hs] at h
        simp only [cond_false] at h
        have hf : P.fieldsOf t = fs := by simp [Program.fieldsOf, hu]
        rw [run_equalIn_struct w D t xs ys (by rw [hf]; exact hu) hs, hf]
        exact eqFs_run d (eqT_run d) fs.toList xs ys r h D w (by omega)
    · cases h
def RawCell (B : Lo) (b off : Nat) (v : Value) : Prop := ∀ w, B.has w → ∃ v', w.cell? ⟨b, off, none⟩ = some v' ∧ ∀ μ, VR μ v v'
def CallJ (P : Program) (B : Lo) (g : FuncId) (args : Array Value) (H : Heap) (n : Nat) (out : OO) (H' : Heap) (n' : Nat) (R W : List Nat) : Prop :=
  Shape H n H' n' R W ∧ ∀ (S : Nat → Prop) (μ : Mu) (w : World) (args' : Array Value) (cs : List Frame), Ok B S μ (hget H) w → B.has w → (∀ i, S i → i < n) → Free μ n n' → VRs μ args args' → (∀ i ∈ R, i < n → S i) →
    ∃ out' w' μ', Post B S n n' W μ μ' H H' w w' ∧ OR2 μ' out out' ∧ EndsAs P (Frame.enter P g args' .normal) cs w out' w'
def CJ (P : Program) (B : Lo) (g : FuncId) (args : Array Value) (Hs : List (Nat × Option Obj)) (n : Nat) (out : Value) (ups : Heap) (n' : Nat) (W : List Nat) : Prop :=
  ∀ H, Under H n → (∀ p ∈ Hs, hget H p.1 = p.2) → CallJ P B g args H n (.ret out) (ups ++ H) n' (Hs.map (·.1)) W
def RJ (P : Program) (B : Lo) (c : CF) (Hs : List (Nat × Option Obj)) (n : Nat) (out : Value) (ups : Heap) (n' : Nat) (W : List Nat) : Prop :=
  ∀ H, Under H n → (∀ p ∈ Hs, hget H p.1 = p.2) → FJ P B c H n (.ret out) (ups ++ H) n' (Hs.map (·.1)) W
open Classical in
noncomputable def recOne (c : CF) (H1 : Heap) (n : Nat) (s : Rs) : CF → Heap → Nat → Option Rs := fun c' H' m' => if c' = c ∧ H' = H1 ∧ m' = n then some s else none
theorem recOne_eq (c : CF) (H1 : Heap) (n : Nat) (s : Rs) : recOne c H1 n s c H1 n = some s := by simp [recOne]
theorem RJ.recS {P : Program} {B : Lo} {c : CF} {H1 : Heap} {n : Nat} {out : Value} {ups : Heap} {n' : Nat} {W keys : List Nat} (hu : Under H1 n) (h : RJ P B c (keys.map fun k => (k, hget H1 k)) n out ups n' W) : RecS P B (recOne c H1 n ⟨.ret out, ups ++ H1, n', keys, W⟩) := by
  intro c' H' m' s _ hs
  unfold recOne at hs
  split at hs
  · rename_i q
    obtain ⟨rfl, rfl, rfl⟩ := q
    simp only [Option.some.injEq] at hs
    subst hs
    have := h H' hu (fun p hp => by
      obtain ⟨k, _, rfl⟩ := List.mem_map.1 hp
      rfl)
    rw [List.map_map] at this
    have e : keys.map ((fun p : Nat × Option Obj => p.1) ∘ fun k => (k, hget H' k)) = keys := List.map_id' _
    rw [e] at this
    exact this
  · cases hs
structure Told where
  s : Rs
  p : Option Prop
def appH (P : Program) (t : TypeId) (H : Heap) (n : Nat) (s x : Value) (cs' : Array Value) : Option (CR × Prop) :=
  match und P t with
  | some (.slice e) => match inf P e with
    | some i => match i.zero, i.size with
      | some zv, z + 1 => match s with
        | .slice (some ⟨b, 0, none⟩) k s' => match hget H b with
          | some (.cells cs te (0, 0)) => match newsOf H (z + 1) x with
            | some (ns, m, bx) => bif Nat.beq te e && Nat.beq s' (z + 1) && ones ns && Nat.beq zv.cells.size (z + 1) && Nat.blt 0 m then
                some (⟨.val (.slice (some ⟨n, 0, none⟩) (k + m) (z + 1)), (n, .cells cs' e (0, 0)) :: killo H (some b), n + 1, [bx, b], [b]⟩, cs.size = k * (z + 1) ∧ k + m ≤ maxLen ∧ (k + m) * i.bytes ≤ 140737488355328 ∧ cs ++ ns = cs')
              else none
            | none => none
          | _ => none
        | _ => none
      | _, _ => none
    | none => none
  | _ => none

def MapGet (P : Program) (t : TypeId) (es : Array MapEntry) (ok : Bool) (k v : Value) : Prop := ∀ H r clk, hget H r = some (.map es clk) → cLookup P t H ok (.map (some r)) k = some (v, [r])
def MapPut (P : Program) (t : TypeId) (es : Array MapEntry) (clk : Nat) (k v : Value) (es' : Array MapEntry) (clk' : Nat) : Prop := ∀ H r, hget H r = some (.map es clk) → cMapUpdate P t H (.map (some r)) k v = some (hset H r (.map es' clk'), r)
def opH (P : Program) (F : FuncId → Bool) (B : Lo) (T : Tm) (o : Oper) (H : Heap) (n : Nat) : Option Hint → Option Told
  | none => match o.op with
    | .fieldAddr s x f => match evC T x with
      | some (.pointer (some ⟨b, off, some 0⟩)) => match cFieldAddr P s f (.pointer (some ⟨b, off, none⟩)) with
        | some (.pointer (some ⟨b', off', none⟩)) => some ⟨⟨.ret (.pointer (some ⟨b', off', some 0⟩)), H, n, [], []⟩, none⟩
        | _ => none
      | _ => match opS P F noOrc (fun _ _ _ => none) T o H n with | some s => some ⟨s, none⟩ | none => none
    | _ => match opS P F noOrc (fun _ _ _ => none) T o H n with | some s => some ⟨s, none⟩ | none => none
  | some (.val v) => match opS P F noOrc (fun _ _ _ => none) T o H n with
    | some ⟨.ret u, H1, n1, R, W⟩ => some ⟨⟨.ret v, H1, n1, R, W⟩, some (veq u v)⟩
    | _ => none
  | some (.idx k) => match o.op with
    | .indexAddr t x i => match evC T x, evC T i with
      | some (.slice (some ⟨b, off, sp⟩) len _), some (.int _ q) => match und P t with
        | some (.slice e) => match szOf P e with
          | some z => bif plainSpot sp then some ⟨⟨.ret (.pointer (some ⟨b, off + k * z, sp⟩)), H, n, [], []⟩, some (q = (k : Int) ∧ k < len)⟩ else none
          | none => none
        | _ => none
      | some (.pointer (some ⟨b, off, sp⟩)), some (.int _ q) => match und P t with
        | some (.array len e) => match szOf P e with
          | some z => bif plainSpot sp then some ⟨⟨.ret (.pointer (some ⟨b, off + k * z, sp⟩)), H, n, [], []⟩, some (q = (k : Int) ∧ k < len)⟩ else none
          | none => none
        | _ => none
      | _, _ => none
    | _ => none
  | some (.ld v) => match o.op with
    | .load t a => match evC T a with
      | some (.pointer (some ⟨b, off, none⟩)) => match hget H b with
        | some (.cells cs _ _) => bif Nat.blt b n then match aggT P t with
          | some true => match szOf P t, v with
            | some z, .agg xs => some ⟨⟨.ret v, H, n, [b], []⟩, some (off + z ≤ cs.size ∧ cs.extract off (off + z) = xs)⟩
            | _, _ => none
          | some false => some ⟨⟨.ret v, H, n, [b], []⟩, some (cs[off]? = some v)⟩
          | none => none
          else none
        | _ => none
      | _ => none
    | _ => none
  | some (.raw v) => match o.op with
    | .load t a => match evC T a with
      | some (.pointer (some ⟨b, off, some 0⟩)) => match aggT P t with
        | some true => match szOf P t, v with
          | some z, .agg xs => bif Nat.beq xs.size z then some ⟨⟨.ret v, H, n, [], []⟩, some (∀ (j : Nat) u, xs[j]? = some u → RawCell B b (off + j) u)⟩ else none
          | _, _ => none
        | some false => some ⟨⟨.ret v, H, n, [], []⟩, some (RawCell B b off v)⟩
        | none => none
      | _ => none
    | _ => none
  | some (.eq b) => match o.op with
    | .binOp op t x y _ => match evC T x, evC T y with
      | some (.agg xs), some (.agg ys) => bif P.eqGuardType P.depth t then none else match op with
        | .eql => match eqT P 100 t (.agg xs) (.agg ys) with
          | some r => bif loosePart (.agg xs) && loosePart (.agg ys) then some ⟨⟨.ret (.bool b), H, n, [], []⟩, some (r = b)⟩ else none
          | none => none
        | .neq => match eqT P 100 t (.agg xs) (.agg ys) with
          | some r => bif loosePart (.agg xs) && loosePart (.agg ys) then some ⟨⟨.ret (.bool b), H, n, [], []⟩, some ((!r) = b)⟩ else none
          | none => none
        | _ => none
      | _, _ => none
    | _ => none
  | some (.len m) => match o.op with
    | .call c => match c.callee with
      | .builtin .len => match c.args.toList, c.argTypes.toList with
        | [x], [t] => match evC T x, und P t with
          | some v, some (.slice _) => some ⟨⟨.ret (.int .i64 m), H, n, [], []⟩, some (SliceLen v m)⟩
          | _, _ => none
        | _, _ => none
      | _ => none
    | _ => none
  | some (.app cs') => match o.op with
    | .call c => match c.callee with
      | .builtin .append => match c.args.toList, c.argTypes.toList with
        | [s, x], [t, t'] => bif Nat.beq t t' then
            match evC T s, evC T x with
            | some sv, some xv => match appH P t H n sv xv cs' with
              | some (⟨.val v, H1, n1, R, W⟩, p) => bif R.all (fun i => Nat.blt i n) then some ⟨⟨.ret v, H1, n1, R, W⟩, some p⟩ else none
              | _ => none
            | _, _ => none
          else none
        | _, _ => none
      | _ => none
    | _ => none
  | some (.mk m cs) => match o.op with
    | .makeSlice t l c => match evC T l, evC T c with
      | some x, some y => match und P t with
        | some (.slice e) => match szOf P e with
          | some z => some ⟨⟨.ret (.slice (some ⟨n, 0, none⟩) m z), (n, .cells cs e (0, 0)) :: H, n + 1, [], []⟩, some (cMake P t x y = some (e, cs, m, z))⟩
          | none => none
        | _ => none
      | _, _ => none
    | _ => none
  | some (.st cs') => match o.op with
    | .store t a x => match evC T a, evC T x with
      | some (.pointer (some ⟨b, off, none⟩)), some v => match hget H b with
        | some (.cells cs te (0, 0)) => match szOf P t with
          | some z => bif Nat.blt b n && Nat.beq v.cells.size z && ones v.cells then some ⟨⟨.ret undef, hset H b (.cells cs' te (0, 0)), n, [b], [b]⟩, some (off + z ≤ cs.size ∧ splice cs off v.cells = cs')⟩ else none
          | none => none
        | _ => none
      | _, _ => none
    | _ => none
  | some (.call keys out ups n' W) => match o.op with
    | .call _ => match copR P F (evC T) o H n with
      | some ⟨.enter g args, H1, n1, R, W1⟩ => bif Nat.beq n1 n && W1.isEmpty then some ⟨⟨.ret out, ups ++ H1, n', R ++ keys, W⟩, some (CJ P B g args (keys.map fun k => (k, hget H1 k)) n out ups n' W)⟩ else none
      | some ⟨.round l fn tm a b, H1, n1, R, W1⟩ => bif Nat.beq n1 n && W1.isEmpty && Nat.ble tm.size 16000 then some ⟨⟨.ret out, ups ++ H1, n', R ++ keys, W⟩, some (RJ P B ⟨fn, ofList tm.size tm.toList, [.code a, .beginRound, .code b], [], .run, some l⟩ (keys.map fun k => (k, hget H1 k)) n out ups n' W)⟩ else none
      | _ => none
    | _ => none
  | some (.look v) => match o.op with
    | .lookup t x k ok => match evC T x, evC T k with
      | some (.map (some r)), some kv => match hget H r with
        | some (.map es _) => bif Nat.blt r n then some ⟨⟨.ret v, H, n, [r], []⟩, some (MapGet P t es ok kv v)⟩ else none
        | _ => none
      | _, _ => none
    | _ => none
  | some (.upd es' clk') => match o.op with
    | .mapUpdate t m k x => match evC T m, evC T k, evC T x with
      | some (.map (some r)), some kv, some v => match hget H r with
        | some (.map es clk) => bif Nat.blt r n then some ⟨⟨.ret undef, hset H r (.map es' clk'), n, [r], [r]⟩, some (MapPut P t es clk kv v es' clk')⟩ else none
        | _ => none
      | _, _, _ => none
    | _ => none
  | some .nil => match o.op with
    | .call c => match c.callee with
      | .builtin .append => match c.args.toList, c.argTypes.toList with
        | [s, x], [t, t'] => bif Nat.beq t t' then match evC T s, evC T x with
            | some (.slice none 0 0), some (.slice none 0 0) => match und P t with
              | some (.slice e) => match szOf P e with
                | some _ => some ⟨⟨.ret (.slice none 0 0), H, n, [], []⟩, none⟩
                | none => none
              | _ => none
            | _, _ => none
          else none
        | _, _ => none
      | _ => none
    | _ => none
section
variable {P : Program} {F : FuncId → Bool} {B : Lo} {T : Tm} {o : Oper} {H : Heap} {n : Nat}
theorem recS_none : RecS P B (fun _ _ _ => none) := fun _ _ _ _ _ h => by cases h
theorem does_val {v : Value} {ev : Operand → Option Value} (hd : ∀ c, o.op ≠ .defer c) (h : ∀ (μ : Mu) (w : World) (ρ : Operand → Value), B.has w → (∀ x ∈ o.op.operands, ∀ v, ev x = some v → VR μ v (ρ x)) → ∃ v', (execOp ρ o).run P w = .ok (.value v') w ∧ VR μ v v') :
    Does P B o ev H n (.ret v) H n [] [] := fun _ μ w fr _ _ _ _ _ hok hB _ _ hev _ hm ht ho hw =>
  let ⟨v', h1, h2⟩ := h μ w fr.eval hB hev
  ⟨.ret v', w, μ, Post.refl hok, .ret h2, opTo_value hm ht ho hw hd h1⟩
theorem cFieldAddr_raw {s : TypeId} {f b off : Nat} {b' off' : Nat} (h : cFieldAddr P s f (.pointer (some ⟨b, off, none⟩)) = some (.pointer (some ⟨b', off', none⟩))) (w : World) : b' = b ∧ (Instr.fieldAt s (.pointer (some ⟨b, off, none⟩)) f).run P w = .ok (.pointer (some ⟨b', off', none⟩)) w := by
  unfold cFieldAddr at h
  simp only [und_eq] at h
  split at h
  · rename_i fields hu
    cases hfd : fields[f]? with
    | none => rw [hfd] at h; cases h
    | some fd =>
      rw [hfd] at h
      dsimp only at h
      split at h
      · rename_i z hz
        simp only [Option.some.injEq, Value.pointer.injEq, Addr.mk.injEq, and_true] at h
        obtain ⟨rfl, rfl⟩ := h
        refine ⟨rfl, ?_⟩
        simp only [Instr.fieldAt, Sem.run_bind, run_underlying hu, Result.andThen_ok, hfd, Instr.sureAddr, Sem.run_pure, fieldPlace, szOf_run hz, add_none]
        simp
      · cases h
  · cases h
theorem index_run {t e : TypeId} {b off len c z k : Nat} {q : Int} {kk : IntKind} (hu : und P t = some (.slice e)) (hz : szOf P e = some z) (hq : q = (k : Int)) (hk : k < len) (w : World) :
    (Instr.indexAt t (.slice (some ⟨b, off, none⟩) len c) (.int kk q)).run P w = .ok (.pointer (some ⟨b, off + k * z, none⟩)) w := by
  rw [und_eq] at hu
  subst hq
  have hc : 0 ≤ (k : Int) ∧ (k : Int) < len := by omega
  simp only [Instr.indexAt, Sem.run_bind, asIntOf, Sem.run_pure, Result.andThen_ok, run_underlying hu, hc, and_self, if_true, szOf_run hz, add_none, Int.toNat_natCast]
theorem indexArr_run {t e : TypeId} {b off len z k : Nat} {q : Int} {kk : IntKind} (hu : und P t = some (.array len e)) (hz : szOf P e = some z) (hq : q = (k : Int)) (hk : k < len) (w : World) :
    (Instr.indexAt t (.pointer (some ⟨b, off, none⟩)) (.int kk q)).run P w = .ok (.pointer (some ⟨b, off + k * z, none⟩)) w := by
  rw [und_eq] at hu
  subst hq
  have hc : 0 ≤ (k : Int) ∧ (k : Int) < len := by omega
  simp only [Instr.indexAt, Sem.run_bind, asIntOf, Sem.run_pure, Result.andThen_ok, run_underlying hu, Instr.sureAddr, hc, and_self, if_true, szOf_run hz, add_none, Int.toNat_natCast]
theorem addr_VR {μ : Mu} {b off k z : Nat} {sp : Option Nat} {v' : Value} (hsp : plainSpot sp = true) (h : VR μ (.pointer (some ⟨b, off, sp⟩)) v') : ∃ b' off', v' = .pointer (some ⟨b', off', none⟩) ∧ VR μ (.pointer (some ⟨b, off + k * z, sp⟩)) (.pointer (some ⟨b', off' + k * z, none⟩)) := by
  cases h with
  | ptr har =>
    obtain ⟨im, h1, h2, rfl⟩ := har
    simp only at h2
    subst h2
    exact ⟨_, _, rfl, .ptr ⟨im, h1, rfl, by simp [Nat.add_assoc]⟩⟩
  | rawPtr _ _ q =>
    cases q with
    | zero => exact ⟨_, _, rfl, .rawPtr _ _ 0⟩
    | succ q => cases hsp
theorem slice_VR {μ : Mu} {b off len s k z : Nat} {sp : Option Nat} {v' : Value} (hsp : plainSpot sp = true) (h : VR μ (.slice (some ⟨b, off, sp⟩) len s) v') : ∃ b' off' c', v' = .slice (some ⟨b', off', none⟩) len c' ∧ VR μ (.pointer (some ⟨b, off + k * z, sp⟩)) (.pointer (some ⟨b', off' + k * z, none⟩)) := by
  cases h with
  | slice har =>
    obtain ⟨im, h1, h2, rfl⟩ := har
    simp only at h2
    subst h2
    exact ⟨_, _, _, rfl, .ptr ⟨im, h1, rfl, by simp [Nat.add_assoc]⟩⟩
  | rawSlice _ _ q =>
    cases q with
    | zero => exact ⟨_, _, _, rfl, .rawPtr _ _ 0⟩
    | succ q => cases hsp
theorem int_VR {μ : Mu} {k : IntKind} {q : Int} {v' : Value} (h : VR μ (.int k q) v') : v' = .int k q := by cases h; rfl
theorem appendNil_run {t e ty : TypeId} {z : Nat} (hu : und P t = some (.slice e)) (hz : szOf P e = some z) (w : World) : (Builtin.append_ #[t, t] ty #[.slice none 0 0, .slice none 0 0]).run P w = .ok (.slice none 0 0) w := by
  rw [und_eq] at hu
  simp [Builtin.append_, Sem.run_bind, run_underlying hu, Result.andThen_ok, szOf_run hz, Builtin.lenOf, Builtin.firstCells, Sem.run_pure]
theorem opH_sound (hF : ∀ g, F g = true → okFn P g = true) (hu : Under H n) {h : Option Hint} {a : Told} (e : opH P F B T o H n h = some a) (hp : ∀ p, a.p = some p → p) :
    Does P B o (evC T) H n a.s.out a.s.H a.s.n a.s.R a.s.W ∧ Shape H n a.s.H a.s.n a.s.R a.s.W := by
  have plain : ∀ {s : Rs}, opS P F noOrc (fun _ _ _ => none) T o H n = some s → Does P B o (evC T) H n s.out s.H s.n s.R s.W ∧ Shape H n s.H s.n s.R s.W := fun h => opS_sound hF recS_none (noOrc_ok P B) hu h
  have plain' : (match opS P F noOrc (fun _ _ _ => none) T o H n with | some s => some (⟨s, none⟩ : Told) | none => none) = some a → Does P B o (evC T) H n a.s.out a.s.H a.s.n a.s.R a.s.W ∧ Shape H n a.s.H a.s.n a.s.R a.s.W := by
    intro h
    split at h
    · rename_i s hs
      simp only [Option.some.injEq] at h
      subst h
      exact plain hs
    · cases h
  unfold opH at e
  split at e
  · -- nothing is told
    split at e
    · rename_i s x f hop
      split at e
      · rename_i b off hx
        split at e
        · rename_i b' off' hc
          simp only [Option.some.injEq] at e
          subst e
          refine ⟨does_val (fun c h => by rw [hop] at h; cases h) fun μ w ρ _ hev => ?_, Shape.same _ _ _⟩
          have hv := hev x (by simp [hop, Op.operands]) _ hx
          obtain ⟨rfl, hr⟩ := cFieldAddr_raw (P := P) hc w
          generalize hg : ρ x = u at hv
          cases hv with
          | ptr har => obtain ⟨im, _, h2, _⟩ := har; cases h2
          | rawPtr => exact ⟨_, by simp [execOp, hop, hg, hr, unspot], .rawPtr _ _ 0⟩
        · cases e
      · exact plain' e
    · exact plain' e
  · -- a value
    rename_i v
    split at e
    · rename_i u H1 n1 R W hs
      simp only [Option.some.injEq] at e
      subst e
      have := veq_eq (hp _ rfl)
      subst this
      exact plain hs
    · cases e
  · -- an element's address
    rename_i k
    split at e
    · rename_i t x i hop
      split at e
      · rename_i b off sp len c kk q hx hi
        split at e
        · rename_i el hue
          split at e
          · rename_i z hz
            have hsp : plainSpot sp = true := by
              cases h : plainSpot sp with
              | true => rfl
              | false => rw [h] at e; cases e
            rw [hsp] at e
            simp only [cond_true, Option.some.injEq] at e
            subst e
            obtain ⟨hq, hk⟩ := hp _ rfl
            refine ⟨does_val (fun c h => by rw [hop] at h; cases h) fun μ w ρ _ hev => ?_, Shape.same _ _ _⟩
            obtain ⟨b', off', c', h1, h2⟩ := slice_VR (k := k) (z := z) hsp (hev x (by simp [hop, Op.operands]) _ hx)
            have h3 := int_VR (hev i (by simp [hop, Op.operands]) _ hi)
            exact ⟨_, by simp [execOp, hop, h1, h3, index_run hue hz hq hk], h2⟩
          · cases e
        · cases e
      · rename_i b off sp kk q hx hi
        split at e
        · rename_i len el hue
          split at e
          · rename_i z hz
            have hsp : plainSpot sp = true := by
              cases h : plainSpot sp with
              | true => rfl
              | false => rw [h] at e; cases e
            rw [hsp] at e
            simp only [cond_true, Option.some.injEq] at e
            subst e
            obtain ⟨hq, hk⟩ := hp _ rfl
            refine ⟨does_val (fun c h => by rw [hop] at h; cases h) fun μ w ρ _ hev => ?_, Shape.same _ _ _⟩
            obtain ⟨b', off', h1, h2⟩ := addr_VR (k := k) (z := z) hsp (hev x (by simp [hop, Op.operands]) _ hx)
            have h3 := int_VR (hev i (by simp [hop, Op.operands]) _ hi)
            exact ⟨_, by simp [execOp, hop, h1, h3, indexArr_run hue hz hq hk], h2⟩
          · cases e
        · cases e
      · cases e
    · cases e
  · -- a load of one's own
    rename_i v
    split at e
    · rename_i t x hop
      split at e
      · rename_i b off hx
        split at e
        · rename_i cs te fz hg
          have key : Nat.blt b n = true → cPart P t cs off = some v → Does P B o (evC T) H n (.ret v) H n [b] [] ∧ Shape H n H n [b] [] := by
            intro hb hc
            refine plain (s := ⟨.ret v, H, n, [b], []⟩) ?_
            have hcop : cop P F (evC T) o H n = some ⟨.val v, H, n, [b], []⟩ := by simp [cop, hop, hx, cLoad, hg, hc]
            have hcr : copR P F (evC T) o H n = some ⟨.val v, H, n, [b], []⟩ := by simp [copR, hcop, hb]
            simp [opS, hop, hcr]
          have e := bif_some' (q := Nat.blt b n) e
          have hb : Nat.blt b n = true := by
            have := hu.lt hg
            exact Nat.ble_eq_true_of_le this
          split at e
          · rename_i hag
            split at e
            · rename_i z xs hz _
              simp only [Option.some.injEq] at e
              subst e
              obtain ⟨h1, h2⟩ := hp _ rfl
              refine key hb ?_
              simp only [cPart, hag, hz, Nat.ble_eq_true_of_le h1, cond_true, h2]
            · cases e
          · rename_i hag
            simp only [Option.some.injEq] at e
            subst e
            refine key hb ?_
            simp only [cPart, hag]
            exact hp _ rfl
          · cases e
        · cases e
      · cases e
    · cases e
  · -- a load of memory that nobody writes
    rename_i v
    split at e
    · rename_i t x hop
      split at e
      · rename_i b off hx
        split at e
        · rename_i hag
          split at e
          · rename_i z xs hz
            cases hsz : Nat.beq xs.size z with
            | false => rw [hsz] at e; cases e
            | true =>
              rw [hsz] at e
              simp only [cond_true, Option.some.injEq] at e
              subst e
              have hsz := Nat.eq_of_beq_eq_true hsz
              have hc := hp _ rfl
              refine ⟨does_val (fun c h => by rw [hop] at h; cases h) fun μ w ρ hB hev => ?_, Shape.same _ _ _⟩
              have hv := hev x (by simp [hop, Op.operands]) _ hx
              have hf : ∀ j, j < z → ∃ v, xs[j]? = some v ∧ w.cell? ⟨b, off + j, none⟩ = some ((w.cell? ⟨b, off + j, none⟩).getD undef) ∧ VR μ v ((w.cell? ⟨b, off + j, none⟩).getD undef) := by
                intro j hj
                have hlt : j < xs.size := by omega
                obtain ⟨v', a, b⟩ := hc j xs[j] (by simp [hlt]) w hB
                exact ⟨xs[j], by simp [hlt], by simp [a], by simpa [a] using b μ⟩
              have hr := run_loadCells (P := P) w ⟨b, off, none⟩ z (fun j => (w.cell? ⟨b, off + j, none⟩).getD undef) (fun j hj => by
                obtain ⟨_, _, hc, _⟩ := hf j hj
                rw [add_none]; exact hc)
              generalize hg : ρ x = u at hv
              cases hv with
              | ptr har => obtain ⟨im, _, h2, _⟩ := har; cases h2
              | rawPtr =>
                refine ⟨.agg _, by simp [execOp, hop, hg, Instr.loadAt, Instr.sureAddr, loadVar, aggT_run hag, szOf_run hz, unspot, hr]; rfl, .agg (by simp [hsz]) fun i v v' hv hv' => ?_⟩
                have hi : i < z := by
                  have := (Array.getElem?_eq_some_iff.1 hv).1
                  omega
                obtain ⟨u, h1, _, h2⟩ := hf i hi
                rw [hv] at h1; cases h1
                simp [hi] at hv'
                rw [← hv']
                exact h2
          · cases e
        · rename_i hag
          simp only [Option.some.injEq] at e
          subst e
          have hc := hp _ rfl
          refine ⟨does_val (fun c h => by rw [hop] at h; cases h) fun μ w ρ hB hev => ?_, Shape.same _ _ _⟩
          have hv := hev x (by simp [hop, Op.operands]) _ hx
          obtain ⟨v', h1, h2⟩ := hc w hB
          generalize hg : ρ x = u at hv
          cases hv with
          | ptr har => obtain ⟨im, _, h2, _⟩ := har; cases h2
          | rawPtr => exact ⟨v', by simp [execOp, hop, hg, Instr.loadAt, Instr.sureAddr, loadVar, aggT_run hag, run_load, unspot, h1], h2 μ⟩
        · cases e
      · cases e
    · cases e
  · -- a comparison of structs
    rename_i b
    split at e
    · rename_i op t x y ty hop
      split at e
      · rename_i xs ys hx hy
        cases hgt : P.eqGuardType P.depth t with
        | true => rw [hgt] at e; cases e
        | false =>
          rw [hgt] at e
          simp only [cond_false] at e
          have vals : loosePart (.agg xs) = true → loosePart (.agg ys) = true → ∀ (μ : Mu) (ρ : Operand → Value), (∀ x ∈ o.op.operands, ∀ v, evC T x = some v → VR μ v (ρ x)) → ρ x = .agg xs ∧ ρ y = .agg ys := fun h1 h2 μ ρ hev =>
            ⟨af_eq h1 (hev x (by simp [hop, Op.operands]) _ hx), af_eq h2 (hev y (by simp [hop, Op.operands]) _ hy)⟩
          split at e
          · split at e
            · rename_i r hr
              cases hl : (loosePart (.agg xs) && loosePart (.agg ys)) with
              | false => simp only [hl] at e; cases e
              | true =>
                simp only [hl, cond_true, Option.some.injEq] at e
                subst e
                have hrb : r = b := hp _ rfl
                subst hrb
                simp only [Bool.and_eq_true] at hl
                refine ⟨does_val (fun c h => by rw [hop] at h; cases h) fun μ w ρ _ hev => ?_, Shape.same _ _ _⟩
                obtain ⟨e1, e2⟩ := vals hl.1 hl.2 μ ρ hev
                refine ⟨.bool r, ?_, .bool _⟩
                simp [execOp, hop, e1, e2, run_eqGuard_agg w _ t x y xs ys hgt, run_eql_struct, eqT_run 100 t _ _ r hr 10000 w (by omega)]
            · cases e
          · split at e
            · rename_i r hr
              cases hl : (loosePart (.agg xs) && loosePart (.agg ys)) with
              | false => simp only [hl] at e; cases e
              | true =>
                simp only [hl, cond_true, Option.some.injEq] at e
                subst e
                have hrb : (!r) = b := hp _ rfl
                subst hrb
                simp only [Bool.and_eq_true] at hl
                refine ⟨does_val (fun c h => by rw [hop] at h; cases h) fun μ w ρ _ hev => ?_, Shape.same _ _ _⟩
                obtain ⟨e1, e2⟩ := vals hl.1 hl.2 μ ρ hev
                refine ⟨.bool (!r), ?_, .bool _⟩
                simp [execOp, hop, e1, e2, run_eqGuard_agg w _ t x y xs ys hgt, binOp, Op.equal, Op.maxDepth, eqT_run 100 t _ _ r hr 10000 w (by omega)]
            · cases e
          · cases e
      · cases e
    · cases e
  · -- a slice's length
    rename_i m
    split at e
    · rename_i c hop
      split at e
      · rename_i hc
        split at e
        · rename_i x t ha ht
          split at e
          · rename_i v el hx hu
            rw [und_eq] at hu
            simp only [Option.some.injEq] at e
            subst e
            refine ⟨does_val (fun c h => by rw [hop] at h; cases h) fun μ w ρ hB hev => ?_, Shape.same _ _ _⟩
            have ea : c.args = #[x] := by rw [← ha]
            have et : c.argTypes = #[t] := by rw [← ht]
            obtain ⟨a, cp, hv⟩ := hp _ rfl μ _ (hev x (by simp [hop, Op.operands, Call.operands, hc, ea]) _ hx)
            refine ⟨.int .i64 m, ?_, .int _ _⟩
            simp [execOp, hop, resolve, hc, invoke, builtin, ea, et, hv, Builtin.len_, run_underlying hu, goInt]
          · cases e
        · cases e
      · cases e
    · cases e
  · -- append
    rename_i cs'
    split at e
    · rename_i c hop
      split at e
      · rename_i hcal
        split at e
        · rename_i s x t t' ha ht
          cases htt : Nat.beq t t' with
          | false => rw [htt] at e; cases e
          | true =>
            rw [htt] at e
            simp only [cond_true] at e
            split at e
            · rename_i sv xv hs hx
              split at e
              · rename_i v H1 n1 R W p hap
                cases hR : R.all (fun i => Nat.blt i n) with
                | false => rw [hR] at e; cases e
                | true =>
                  rw [hR] at e
                  simp only [cond_true, Option.some.injEq] at e
                  subst e
                  have hpp : p := hp _ rfl
                  refine plain (s := ⟨.ret v, H1, n1, R, W⟩) ?_
                  have hca : cAppend P t H n sv xv = some ⟨.val v, H1, n1, R, W⟩ := by
                    unfold appH at hap
                    unfold cAppend
                    split at hap
                    · rename_i e1 hue
                      rw [hue]
                      simp only
                      split at hap
                      · rename_i inf1 hinf
                        rw [hinf]
                        simp only
                        split at hap
                        · rename_i zv z hzv hsz
                          rw [hzv, hsz]
                          simp only
                          split at hap
                          · rename_i b k s'
                            split at hap
                            · rename_i cs te hg
                              split at hap
                              · rename_i ns m bx hns
                                cases hq : (Nat.beq te e1 && Nat.beq s' (z + 1) && ones ns && Nat.beq zv.cells.size (z + 1) && Nat.blt 0 m) with
                                | false => rw [hq] at hap; cases hap
                                | true =>
                                  rw [hq] at hap
                                  simp only [cond_true, Option.some.injEq, Prod.mk.injEq, CR.mk.injEq, CN.val.injEq] at hap
                                  obtain ⟨⟨rfl, rfl, rfl, rfl, rfl⟩, rfl⟩ := hap
                                  obtain ⟨p1, p2, p3, p4⟩ := hpp
                                  simp only [Bool.and_eq_true] at hq
                                  obtain ⟨⟨⟨⟨q1, q2⟩, q3⟩, q4⟩, q5⟩ := hq
                                  have hh : headOf H e1 (z + 1) (.slice (some ⟨b, 0, none⟩) k s') = some (cs, k, some b) := by
                                    simp [headOf, hg, Nat.eq_of_beq_eq_true q1, Nat.eq_of_beq_eq_true q2, p1]
                                  rw [hh, hns]
                                  simp only [q3, q4, q5, Nat.ble_eq_true_of_le p2, Nat.ble_eq_true_of_le p3, Bool.and_self, cond_true, p4]
                                  rfl
                              · cases hap
                            · cases hap
                          · cases hap
                        · cases hap
                      · cases hap
                    · cases hap
                  have hbr : bare sv = sv := by
                    unfold bare
                    split
                    · exfalso
                      unfold appH at hap
                      repeat' (first | (cases hap; done) | split at hap)
                    · rfl
                  have hcop : cop P F (evC T) o H n = some ⟨.val v, H1, n1, R, W⟩ := by simp [cop, hop, hcal, ha, ht, hs, hx, cApp, htt, hbr, hca]
                  have hcr : copR P F (evC T) o H n = some ⟨.val v, H1, n1, R, W⟩ := by
                    simp only [copR, hcop, hR, cond_true]
                  simp [opS, hop, hcr]
              · cases e
            · cases e
        · cases e
      · cases e
    · cases e
  · -- make
    rename_i m cs
    split at e
    · rename_i t l c hop
      split at e
      · rename_i x y hx hy
        split at e
        · rename_i el hu1
          split at e
          · rename_i z hz
            simp only [Option.some.injEq] at e
            subst e
            have hc := hp _ rfl
            exact plain (s := ⟨.ret (.slice (some ⟨n, 0, none⟩) m z), (n, .cells cs el (0, 0)) :: H, n + 1, [], []⟩) (by simp [opS, hop, copR, cop, hx, hy, hc])
          · cases e
        · cases e
      · cases e
    · cases e
  · -- a store
    rename_i cs'
    split at e
    · rename_i t ad x hop
      split at e
      · rename_i b off v hx hy
        split at e
        · rename_i cs te hg
          split at e
          · rename_i z hz
            cases hq : (Nat.blt b n && Nat.beq v.cells.size z && ones v.cells) with
            | false => rw [hq] at e; cases e
            | true =>
              rw [hq] at e
              simp only [cond_true, Option.some.injEq] at e
              subst e
              obtain ⟨h1, h2⟩ := hp _ rfl
              simp only [Bool.and_eq_true] at hq
              have hst : cStore P t H v (.pointer (some ⟨b, off, none⟩)) = some (hset H b (.cells cs' te (0, 0)), b) := by
                simp only [cStore, hg, hz, hq.1.2, hq.2, Nat.ble_eq_true_of_le h1, Bool.and_self, cond_true, h2]
              exact plain (s := ⟨.ret undef, hset H b (.cells cs' te (0, 0)), n, [b], [b]⟩) (by simp [opS, hop, copR, cop, hx, hy, hst, hq.1.1])
          · cases e
        · cases e
      · cases e
    · cases e
  · -- a call
    rename_i keys out ups n' W
    split at e
    · rename_i c hop
      split at e
      · rename_i g args H1 n1 R W1 hcr
        cases hn : (Nat.beq n1 n && W1.isEmpty) with
        | false => rw [hn] at e; cases e
        | true =>
          rw [hn] at e
          simp only [cond_true, Option.some.injEq] at e
          subst e
          simp only [Bool.and_eq_true, List.isEmpty_iff] at hn
          obtain ⟨hn1, rfl⟩ := hn
          have hn1 := Nat.eq_of_beq_eq_true hn1
          subst hn1
          have hu1 : Under H1 n1 := hu.shape (cop_shape hu (copR_cop hcr).1)
          have hcj := hp _ rfl H1 hu1 (fun p hp => by
            obtain ⟨k, _, rfl⟩ := List.mem_map.1 hp
            rfl)
          have hk : (keys.map fun k => (k, hget H1 k)).map (·.1) = keys := by
            rw [List.map_map]
            exact List.map_id' _
          rw [hk] at hcj
          have horc : OrcS P B (fun g' a' H' m' => open Classical in if g' = g ∧ a' = args ∧ H' = H1 ∧ m' = n1 then some ⟨.ret out, ups ++ H1, n', keys, W⟩ else none) := by
            intro g' a' H' m' s _ h
            simp only at h
            split at h
            · rename_i q
              obtain ⟨rfl, rfl, rfl, rfl⟩ := q
              simp only [Option.some.injEq] at h
              subst h
              exact hcj
            · cases h
          have := opS_sound hF recS_none horc hu (T := T) (o := o) (s := ⟨.ret out, ups ++ H1, n', R ++ keys, W⟩) (by
            simp [opS, hop, hcr])
          exact this
      · rename_i l fn tm cda cdb H1 n1 R W1 hcr
        cases hn : (Nat.beq n1 n && W1.isEmpty && Nat.ble tm.size 16000) with
        | false => rw [hn] at e; cases e
        | true =>
          rw [hn] at e
          simp only [cond_true, Option.some.injEq] at e
          subst e
          simp only [Bool.and_eq_true, List.isEmpty_iff] at hn
          obtain ⟨⟨hn1, rfl⟩, hsz⟩ := hn
          have hn1 := Nat.eq_of_beq_eq_true hn1
          subst hn1
          have hu1 : Under H1 n1 := hu.shape (cop_shape hu (copR_cop hcr).1)
          have hrj := hp _ rfl
          have hrec := RJ.recS hu1 hrj
          have := opS_sound hF hrec (noOrc_ok P B) hu (T := T) (o := o) (s := ⟨.ret out, ups ++ H1, n', R ++ keys, W⟩) (by
            simp [opS, hop, hcr, hsz, recOne_eq])
          exact this
      · cases e
    · cases e
  · -- what is found in a map
    rename_i v
    split at e
    · rename_i t x k ok hop
      split at e
      · rename_i r kv hx hk
        split at e
        · rename_i es clk hg
          cases hq : Nat.blt r n with
          | false => rw [hq] at e; cases e
          | true =>
            rw [hq] at e
            simp only [cond_true, Option.some.injEq] at e
            subst e
            have hl := hp _ rfl H r clk hg
            exact plain (s := ⟨.ret v, H, n, [r], []⟩) (by simp [opS, hop, copR, cop, hx, hk, hl, hq])
        · cases e
      · cases e
    · cases e
  · -- what a map becomes
    rename_i es' clk'
    split at e
    · rename_i t m k x hop
      split at e
      · rename_i r kv v hm hk hx
        split at e
        · rename_i es clk hg
          cases hq : Nat.blt r n with
          | false => rw [hq] at e; cases e
          | true =>
            rw [hq] at e
            simp only [cond_true, Option.some.injEq] at e
            subst e
            have hl := hp _ rfl H r hg
            exact plain (s := ⟨.ret undef, hset H r (.map es' clk'), n, [r], [r]⟩) (by simp [opS, hop, copR, cop, hm, hk, hx, hl, hq])
        · cases e
      · cases e
    · cases e
  · -- nothing behind nothing
    split at e
    · rename_i c hop
      split at e
      · rename_i hcal
        split at e
        · rename_i s x t t' ha ht
          cases htt : Nat.beq t t' with
          | false => rw [htt] at e; cases e
          | true =>
            rw [htt] at e
            simp only [cond_true] at e
            have htt := Nat.eq_of_beq_eq_true htt
            subst htt
            split at e
            · rename_i hs hx
              split at e
              · rename_i el hue
                split at e
                · rename_i z hz
                  simp only [Option.some.injEq] at e
                  subst e
                  have ea : c.args = #[s, x] := by rw [← ha]
                  have et : c.argTypes = #[t, t] := by rw [← ht]
                  refine ⟨does_val (fun c h => by rw [hop] at h; cases h) fun μ w ρ _ hev => ?_, Shape.same _ _ _⟩
                  have h1 := af_eq (v := .slice none 0 0) rfl (hev s (by simp [hop, Op.operands, Call.operands, hcal, ea]) _ hs)
                  have h2 := af_eq (v := .slice none 0 0) rfl (hev x (by simp [hop, Op.operands, Call.operands, hcal, ea]) _ hx)
                  refine ⟨.slice none 0 0, ?_, .nilSlice 0 0⟩
                  have hr := appendNil_run (ty := o.type) hue hz w
                  simp [execOp, hop, resolve, hcal, invoke, builtin, ea, et, hr, h1, h2]
                · cases e
              · cases e
            · cases e
        · cases e
      · cases e
    · cases e
end
end Go.CE

namespace Go.CE
open Go Go.RowKit

def AllP : List Prop → Prop
  | [] => True
  | p :: l => p ∧ AllP l
abbrev Script := List (Nat × Hint)
def told (sc : Script) (q : Nat) : Option Hint × Script := match sc with
  | (k, h) :: l => bif Nat.beq k q then (some h, l) else (none, sc)
  | [] => (none, [])
structure RR where
  recs : List Rec
  T : Tm
  H : Heap
  n : Nat
  sc : Script
  q : Nat
  L : List Prop
def more (p : Option Prop) (L : List Prop) : List Prop := match p with | some p => p :: L | none => L
def rrunH (P : Program) (F : FuncId → Bool) (B : Lo) (ops : Array Oper) : List Oper → Tm → Heap → Nat → Script → Nat → List Prop → Option RR
  | [], T, H, n, sc, q, L => some ⟨[], T, H, n, sc, q, L⟩
  | o :: l, T, H, n, sc, q, L =>
    bif dstOk T o.dst then
      bif Region.wanted o (yieldedC ops T) then
        match told sc q with
        | (h, sc') => match opH P F B T o H n h with
          | some ⟨⟨.ret v, H1, n1, R, W⟩, p⟩ => match rrunH P F B ops l (tput T o.dst v) H1 n1 sc' (q + 1) (more p L) with
            | some r => some { r with recs := ⟨o, true, v, T, H, H1, n, n1, R, W⟩ :: r.recs }
            | none => none
          | _ => none
      else match rrunH P F B ops l (tput T o.dst undef) H n sc (q + 1) L with
        | some r => some { r with recs := ⟨o, false, undef, T, H, H, n, n, [], []⟩ :: r.recs }
        | none => none
    else none
inductive SR where
  | at (c : CF) (H : Heap) (n : Nat)
  | fin (out : OO) (H : Heap) (n : Nat)
structure ST where
  r : SR
  W : List Nat
  L : List Prop
def iterH (P : Program) (F : FuncId → Bool) (B : Lo) (c : CF) (H : Heap) (n : Nat) (f : Operand) (params : Array Tmp) (assign body : Code) (k : List Item) (keys : List Nat) (out : Value) (ups : Heap) (n' : Nat) (W : List Nat) : Option (CF × Heap × Prop) :=
  match evC c.tmps f with
  | some fv => match openLoop c H n params assign body with
    | some (H1, l, ds, _) => match cCall F H1 fv #[.func (.yield l) #[] #[]] with
      | some (.enter g args, _) => match enterC P g args with
        | some c1 => some ({ c with todo := .endRangeFunc l :: k, defers := ds ++ c.defers }, ups ++ H1, RJ P B c1 (keys.map fun k => (k, hget H1 k)) (l + 1) out ups n' W)
        | none => none
      | _ => none
    | none => none
  | none => none
section
variable {P : Program} {F : FuncId → Bool} {B : Lo}
theorem more_all {p : Option Prop} {L : List Prop} (h : AllP (more p L)) : (∀ x, p = some x → x) ∧ AllP L := by
  cases p with
  | none => exact ⟨(fun x h => by cases h), h⟩
  | some p => exact ⟨(fun x e => by cases e; exact h.1), h.2⟩
theorem go_region_of {c : CF} {H : Heap} {n : Nat} (hmix : P.follows .mixedOrders = true) {id : Nat} {ops : Array Oper} {draw : Bool} {k : List Item} {recs : List Rec} {T' : Tm} {H' : Heap} {n' : Nat} (hm : c.mode = .run)
    (ht : c.todo = .code (.region id ops draw) :: k) (hs : ∀ x ∈ recs, Sane c.tmps.len x) (hk : ∀ x ∈ recs, RecOk P B ops x) (hch : Chain recs c.tmps H n T' H' n') (hmap : recs.map (·.o) = ops.toList) (hd : (!draw || (edgesOk 0 ops.toList && indep ops 0 recs (befs ops.toList []))) = true) :
    GoJ P B c H n { c with tmps := T', todo := k } H' n' (allR recs) (allW recs) := by
  have hown := own_of_map (l := ops.toList) (l2 := []) (by rw [List.append_nil]; exact hmap) rfl
  have hlen : recs.length = ops.size := by have := congrArg List.length hmap; simpa using this
  refine ⟨chain_shape recs _ _ _ _ _ _ hch hs, fun S μ w fr cs Z hok hB hS hf hfr hR => ?_⟩
  obtain ⟨a, b, d⟩ := hfr.running hm
  rw [ht] at d
  obtain ⟨L', e, hL⟩ := d.code
  cases draw with
  | false =>
    obtain ⟨μ', A', w', hp, hT, hst⟩ := seq_run (fr := fr) (cs := cs) (k := L') a recs 0 c.tmps H n T' H' n' [] hch hs hk (fun j r hj => by rw [Nat.zero_add]; exact hown j r hj) rfl S μ w fr.tmps hok hB hS hf hR b
    rw [List.append_nil, hlen] at hst
    exact ⟨{ fr with tmps := A', todo := L' }, w', μ', hp, ⟨hfr.fn, hT, fun _ => hL.mono (hp.mu hf), hfr.defers.mono (hp.mu hf), hfr.mode.mono (hp.mu hf), hfr.kind, hfr.round.mono (hp.mu hf)⟩, rfl, rfl,
      .head (step_region_text a e) (hst.trans (.one (step_inReg_end a)))⟩
  | true =>
    simp only [Bool.not_true, Bool.false_or, Bool.and_eq_true] at hd
    have hedge : ∀ (q : Nat) o, ops[q]? = some o → ∀ e ∈ o.after, Region.binds .any e = true → e.on < q := by
      intro q o ho e he hb
      have := edgesOk_spec ops.toList 0 hd.1 q o (by rw [Array.getElem?_toList]; exact ho) e he hb
      omega
    have hbef := befs_ok ops.toList (fun q o ho => hedge q o (by simpa using ho))
    have hset : Setup P B ops recs (befs ops.toList []) c.tmps H n T' H' n' := ⟨hch, hs, hown, hlen, by simpa using hbef.1, indep_spec recs _ 0 hd.2, hedge⟩
    obtain ⟨μ', A', w', hp, hT, hst⟩ := region_draw hmix hset hk hok hS hR hf hB (fr := fr) (cs := cs) (id := id) (k := L') a b e
    exact ⟨{ fr with tmps := A', todo := L' }, w', μ', hp, ⟨hfr.fn, hT, fun _ => hL.mono (hp.mu hf), hfr.defers.mono (hp.mu hf), hfr.mode.mono (hp.mu hf), hfr.kind, hfr.round.mono (hp.mu hf)⟩, rfl, rfl, hst⟩
def SRJ (P : Program) (B : Lo) (c : CF) (H : Heap) (n : Nat) (R W : List Nat) : SR → Prop
  | .at c' H' n' => GoJ P B c H n c' H' n' R W
  | .fin out H' n' => FJ P B c H n out H' n' R W
theorem GoJ.srj {c c' : CF} {H H' : Heap} {n n' : Nat} {R R' W W' : List Nat} {r : SR} (h : GoJ P B c H n c' H' n' R W) (k : SRJ P B c' H' n' R' W' r) : SRJ P B c H n (R ++ R') (W ++ W') r := by
  cases r with
  | «at» => exact h.trans k
  | fin => exact h.fj k
theorem iterH_sound (hF : ∀ g, F g = true → okFn P g = true) (hmix : P.follows .mixedOrders = true) {c c' : CF} {H H' : Heap} {n n' : Nat} {f : Operand} {params : Array Tmp} {assign body : Code} {k : List Item} {keys W : List Nat} {out : Value} {ups : Heap} {p : Prop} (hu : Under H n) (hm : c.mode = .run) (ht : c.todo = .code (.rangeFunc f params assign body) :: k)
    (h : iterH P F B c H n f params assign body k keys out ups n' W = some (c', H', p)) (hp : p) : ∃ R, GoJ P B c H n c' H' n' R W := by
  unfold iterH at h
  split at h
  · rename_i fv hfv
    split at h
    · rename_i H1 l ds R1 ho
      split at h
      · rename_i g args R2 hc
        split at h
        · rename_i c1 he
          simp only [Option.some.injEq, Prod.mk.injEq] at h
          obtain ⟨rfl, rfl, rfl⟩ := h
          have hu1 : Under H1 (l + 1) := hu.shape (openLoop_sound (P := P) (B := B) hu ho).1
          have hrec := RJ.recS hu1 hp
          refine ⟨R1 ++ R2 ++ keys, ?_⟩
          have : fstep P F noOrc (recOne c1 H1 (l + 1) ⟨.ret out, ups ++ H1, n', keys, W⟩) c H n = some (.go { c with todo := .endRangeFunc l :: k, defers := ds ++ c.defers } (ups ++ H1) n' (R1 ++ R2 ++ keys) W) := by
            unfold fstep
            simp only [hm, ht, hfv, ho, hc, he, recOne_eq]
          exact fstep_sound hF hmix (noOrc_ok P B) hrec hu this
        · cases h
      · cases h
    · cases h
  · cases h
end
end Go.CE

namespace Go.CE
open Go Go.RowKit

def distinct : List Nat → Bool
  | [] => true
  | a :: l => l.all (fun b => !(Nat.beq a b)) && distinct l
theorem distinct_inj {l : List Nat} (h : distinct l = true) : ∀ (i j : Nat) a, l[i]? = some a → l[j]? = some a → i = j := by
  induction l with
  | nil => intro i j a hi; simp at hi
  | cons b l ih =>
    simp only [distinct, Bool.and_eq_true] at h
    have hne : ∀ a ∈ l, a ≠ b := by
      intro a ha e
      have := List.all_eq_true.1 h.1 a ha
      rw [e] at this
      simp at this
    intro i j a hi hj
    cases i with
    | zero =>
      cases j with
      | zero => rfl
      | succ j =>
        simp only [List.getElem?_cons_zero, Option.some.injEq, List.getElem?_cons_succ] at hi hj
        exact absurd hi.symm (hne a (List.mem_of_getElem? hj))
    | succ i =>
      cases j with
      | zero =>
        simp only [List.getElem?_cons_zero, Option.some.injEq, List.getElem?_cons_succ] at hi hj
        exact absurd hj.symm (hne a (List.mem_of_getElem? hi))
      | succ j =>
        simp only [List.getElem?_cons_succ] at hi hj
        rw [ih h.2 i j a hi hj]
section
variable {P : Program} {F : FuncId → Bool} {B : Lo}
end
def nav : Code → List Nat → Code
  | c, [] => c
  | .seq a b, k :: l => bif Nat.beq k 0 then nav a l else nav b l
  | .cond _ a b, k :: l => bif Nat.beq k 0 then nav a l else nav b l
  | .block _ a, _ :: l => nav a l
  | .loop a, _ :: l => nav a l
  | .scope a, _ :: l => nav a l
  | .rangeFunc _ _ a b, k :: l => bif Nat.beq k 0 then nav a l else nav b l
  | c, _ => c
def bodyOf (P : Program) (f : FuncId) : Code := match nth P.funcs.toList f with
  | some fn => match fn.body with
    | some c => c
    | none => .skip
  | none => .skip
inductive It where
  | code (l : List Nat)
  | inBlock (k : Nat)
  | inLoop (l : List Nat)
  | inScope (l : List Nat)
def it (b : Code) : It → Item
  | .code l => .code (nav b l)
  | .inBlock k => .inBlock k
  | .inLoop l => .inLoop (nav b l)
  | .inScope l => .inScope (nav b l)
def entryC (P : Program) (f : FuncId) (len : Nat) (args : List Value) : CF := ⟨f, ofList len args, [.code (bodyOf P f)], [], .run, none⟩
end Go.CE

namespace Go.CE
open Go Go.RowKit

theorem wq_in {x : Int} (h1 : -9223372036854775808 ≤ x) (h2 : x ≤ 9223372036854775807) : wq x = x := by
  rw [wq_eq]
  exact IntWalk.i64_in _ ⟨h1, h2⟩
theorem wrap_in {x : Int} (h1 : -9223372036854775808 ≤ x) (h2 : x ≤ 9223372036854775807) : IntKind.i64.wrap x = x := IntWalk.i64_in _ ⟨h1, h2⟩
theorem ltq_t {a b : Int} (h : a < b) : ltq a b = true := by rw [ltq_eq]; simpa using h
theorem ltq_f {a b : Int} (h : b ≤ a) : ltq a b = false := by rw [ltq_eq]; simpa using h
theorem nltq_t {a b : Int} (h : b ≤ a) : (!ltq a b) = true := by rw [ltq_f h]; rfl
theorem nltq_f {a b : Int} (h : a < b) : (!ltq a b) = false := by rw [ltq_t h]; rfl
theorem eqq_t {a b : Int} (h : a = b) : eqq a b = true := by rw [eqq_eq]; simpa using h
theorem eqq_f {a b : Int} (h : a ≠ b) : eqq a b = false := by rw [eqq_eq]; simpa using h

section
variable {P : Program} {B : Lo}
end
end Go.CE
namespace Go.CE
open Go Go.RowKit
section
variable {P : Program} {B : Lo}
end
end Go.CE

namespace Go.CE
open Go Go.RowKit

theorem TRv.mono {fm fm' : Nat → Option Obj} (h : ∀ b x, fm b = some x → fm' b = some x) {t v : Value} (ht : TRv fm t v) : TRv fm' t v := by
  induction ht with
  | simple h => exact .simple h
  | agg h1 _ ih => exact .agg h1 ih
  | tuple h1 _ ih => exact .tuple h1 ih
  | iface _ ih => exact .iface ih
  | func h1 h2 _ _ ih1 ih2 => exact .func h1 h2 ih1 ih2
  | slice h1 h2 h3 h4 _ ih => exact .slice h1 h2 (h _ _ h3) h4 ih
  | nil => exact .nil
  | empty h => exact .empty h
  | ptr h1 h2 _ ih => exact .ptr (h _ _ h1) h2 ih
theorem TRv.simple_eq {fm : Nat → Option Obj} {t v : Value} (h : CE.simple t = true) (ht : TRv fm t v) : v = t := by
  cases ht with
  | simple _ => rfl
  | func h1 h2 _ _ =>
    simp only [CE.simple, Bool.and_eq_true, beq_iff_eq] at h
    have e1 := Array.eq_empty_of_size_eq_zero h.1
    have e2 := Array.eq_empty_of_size_eq_zero h.2
    subst e1 e2
    rw [Array.eq_empty_of_size_eq_zero h1.symm, Array.eq_empty_of_size_eq_zero h2.symm]
  | agg _ _ => cases h
  | tuple _ _ => cases h
  | iface _ => cases h
  | slice _ _ _ _ _ => cases h
  | nil => cases h
  | empty _ => cases h
  | ptr _ _ _ => cases h
def pushS (r : Nat) (v : Value) : Value := bif simple v then v else topV r v
def pushT (r : Nat) : Nat → Value → Value
  | 0, v => pushS r v
  | f + 1, v => match v with
    | .agg xs => .agg (xs.map (pushT r f))
    | .tuple xs => .tuple (xs.map (pushT r f))
    | .iface t x => .iface t (pushT r f x)
    | .func (.func g) xs ys => .func (.func g) (xs.map (pushT r f)) (ys.map (pushT r f))
    | v => pushS r v
def okT : Nat → Value → Bool
  | 0, v => simple v || isTop v
  | f + 1, v => match v with
    | .agg xs => xs.all (okT f)
    | .tuple xs => xs.all (okT f)
    | .iface _ x => okT f x
    | .func (.func _) xs ys => xs.all (okT f) && ys.all (okT f)
    | v => simple v || isTop v
section
variable {μ : Mu} {r : Nat} {im : Img}
theorem pushS_VR (hr : μ r = some im) {v v' : Value} (ho : (simple v || isTop v) = true) (h : TRv im.fm v v') : VR μ (pushS r v) v' := by
  unfold pushS
  cases hs : simple v with
  | true => rw [h.simple_eq hs]; exact vr_simple hs
  | false =>
    rw [hs] at ho
    exact .top (by simpa using ho) hr h
theorem pushT_VR (hr : μ r = some im) : ∀ (f : Nat) (v v' : Value), okT f v = true → TRv im.fm v v' → VR μ (pushT r f v) v'
  | 0, v, v', ho, h => pushS_VR hr ho h
  | f + 1, v, v', ho, h => by
    have arr : ∀ {xs xs' : Array Value}, xs.all (okT f) = true → xs.size = xs'.size → (∀ (i : Nat) v v', xs[i]? = some v → xs'[i]? = some v' → TRv im.fm v v') → (xs.map (pushT r f)).size = xs'.size ∧ ∀ (i : Nat) v v', (xs.map (pushT r f))[i]? = some v → xs'[i]? = some v' → VR μ v v' := by
      intro xs xs' ha hs hx
      refine ⟨by simpa using hs, fun i v v' hv hv' => ?_⟩
      rw [Array.getElem?_map] at hv
      cases hy : xs[i]? with
      | none => rw [hy] at hv; cases hv
      | some y =>
        rw [hy] at hv
        simp only [Option.map_some, Option.some.injEq] at hv
        subst hv
        exact pushT_VR hr f y v' (Array.all_eq_true'.1 ha y (Array.mem_of_getElem? hy)) (hx i y v' hy hv')
    cases v with
    | agg xs =>
      cases h with
      | simple h => cases h
      | agg h1 h2 => exact .agg (arr ho h1 h2).1 (arr ho h1 h2).2
    | tuple xs =>
      cases h with
      | simple h => cases h
      | tuple h1 h2 => exact .tuple (arr ho h1 h2).1 (arr ho h1 h2).2
    | iface t x =>
      cases h with
      | simple h => cases h
      | iface h => exact .iface (pushT_VR hr f x _ ho h)
    | func fn xs ys =>
      cases fn with
      | func g =>
        have ho : (xs.all (okT f) && ys.all (okT f)) = true := ho
        simp only [Bool.and_eq_true] at ho
        cases h with
        | simple hs =>
          simp only [simple, Bool.and_eq_true, beq_iff_eq] at hs
          have e1 := Array.eq_empty_of_size_eq_zero hs.1
          have e2 := Array.eq_empty_of_size_eq_zero hs.2
          subst e1 e2
          exact .func (by simp) (by simp) (fun i v v' hv => by simp at hv) (fun i v v' hv => by simp at hv)
        | func h1 h2 h3 h4 => exact .func (arr ho.1 h1 h3).1 (arr ho.2 h2 h4).1 (arr ho.1 h1 h3).2 (arr ho.2 h2 h4).2
      | _ => exact pushS_VR hr (by exact ho) h
    | _ => exact pushS_VR hr ho h
end
def plainT : Nat → Value → Bool
  | 0, v => simple v
  | f + 1, v => match v with
    | .agg xs => xs.all (plainT f)
    | .tuple xs => xs.all (plainT f)
    | .iface _ x => plainT f x
    | v => simple v
theorem plainT_VR {μ : Mu} {fm : Nat → Option Obj} : ∀ (f : Nat) (v v' : Value), plainT f v = true → TRv fm v v' → VR μ v v'
  | 0, v, v', ho, h => by rw [h.simple_eq ho]; exact vr_simple ho
  | f + 1, v, v', ho, h => by
    have arr : ∀ {xs xs' : Array Value}, xs.all (plainT f) = true → (∀ (i : Nat) v v', xs[i]? = some v → xs'[i]? = some v' → TRv fm v v') → ∀ (i : Nat) v v', xs[i]? = some v → xs'[i]? = some v' → VR μ v v' :=
      fun ha hx i v v' hv hv' => plainT_VR f v v' (Array.all_eq_true'.1 ha v (Array.mem_of_getElem? hv)) (hx i v v' hv hv')
    cases v with
    | agg xs =>
      cases h with
      | simple h => cases h
      | agg h1 h2 => exact .agg h1 (arr ho h2)
    | tuple xs =>
      cases h with
      | simple h => cases h
      | tuple h1 h2 => exact .tuple h1 (arr ho h2)
    | iface t x =>
      cases h with
      | simple h => cases h
      | iface h => exact .iface (plainT_VR f x _ ho h)
    | _ =>
      rw [TRv.simple_eq (by exact ho) h]; exact vr_simple (by exact ho)
def isRegB : Option Obj → Bool
  | some (.coro _) => true
  | _ => false
theorem isRegB_spec {o : Option Obj} (h : isRegB o = true) : ∃ x, o = some x ∧ isReg x := by
  cases o with
  | none => cases h
  | some x => cases x <;> first | exact ⟨_, rfl, trivial⟩ | cases h
def topSl : Value → Option (Nat × Nat × Array Value)
  | .func (.via r ⟨[]⟩ 0 true) ⟨[.func (.via n ⟨[]⟩ 0 false) ⟨[]⟩ cs]⟩ ⟨[]⟩ => some (r, n, cs)
  | _ => none
def topPt : Value → Option (Nat × Nat × Array Value)
  | .func (.via r ⟨[]⟩ 0 true) ⟨[.func (.via off ⟨[]⟩ 1 true) ⟨[]⟩ cs]⟩ ⟨[]⟩ => some (r, off, cs)
  | _ => none
theorem topSl_eq {v : Value} {r n : Nat} {cs : Array Value} (h : topSl v = some (r, n, cs)) : v = topV r (slT n cs) := by
  unfold topSl at h
  split at h
  · simp only [Option.some.injEq, Prod.mk.injEq] at h
    obtain ⟨rfl, rfl, rfl⟩ := h
    rfl
  · cases h
theorem topPt_eq {v : Value} {r off : Nat} {cs : Array Value} (h : topPt v = some (r, off, cs)) : v = topV r (ptT off cs) := by
  unfold topPt at h
  split at h
  · simp only [Option.some.injEq, Prod.mk.injEq] at h
    obtain ⟨rfl, rfl, rfl⟩ := h
    rfl
  · cases h
theorem VR.top_inv {μ : Mu} {r : Nat} {t v' : Value} (h : VR μ (topV r t) v') : ∃ im, μ r = some im ∧ TRv im.fm t v' := by
  cases h with
  | top _ h1 h2 => exact ⟨_, h1, h2⟩
theorem TRv.slice_inv {fm : Nat → Option Obj} {n : Nat} {cs : Array Value} {v' : Value} (h : TRv fm (slT n cs) v') : ((∃ b o c' arr t fl, v' = .slice (some ⟨b, o, none⟩) n c' ∧ n ≤ c' ∧ c' ≤ maxLen ∧ fm b = some (.cells arr t fl) ∧ (∀ i, i < cs.size → o + i < arr.size) ∧ (∀ (i : Nat) v v', cs[i]? = some v → arr[o + i]? = some v' → TRv fm v v')) ∨
    (n = 0 ∧ cs = #[] ∧ ∃ a c', v' = .slice a 0 c' ∧ c' ≤ maxLen)) := by
  cases h with
  | simple h => cases h
  | slice h1 h2 h3 h5 h6 => exact .inl ⟨_, _, _, _, _, _, rfl, h1, h2, h3, h5, h6⟩
  | nil => exact .inr ⟨rfl, rfl, none, 0, rfl, Nat.zero_le _⟩
  | empty h => exact .inr ⟨rfl, rfl, _, _, rfl, h⟩
theorem TRv.ptr_inv {fm : Nat → Option Obj} {off : Nat} {cs : Array Value} {v' : Value} (h : TRv fm (ptT off cs) v') : ∃ b o arr t fl, v' = .pointer (some ⟨b, o + off, none⟩) ∧ fm b = some (.cells arr t fl) ∧ (∀ i, i < cs.size → o + i < arr.size) ∧ (∀ (i : Nat) v v', cs[i]? = some v → arr[o + i]? = some v' → TRv fm v v') := by
  cases h with
  | simple h => cases h
  | ptr h1 h2 h3 => exact ⟨_, _, _, _, _, rfl, h1, h2, h3⟩
end Go.CE

namespace Go.CE
open Go Go.RowKit

def TRvs (fm : Nat → Option Obj) (xs xs' : Array Value) : Prop := xs.size = xs'.size ∧ ∀ (i : Nat) v v', xs[i]? = some v → xs'[i]? = some v' → TRv fm v v'
def fmOr (fm : Nat → Option Obj) (w w' : World) (b : Nat) : Option Obj := if b < w.heap.size then fm b else w'.heap[b]?
def PureC (P : Program) (J : World → Prop) (g : FuncId) (targs : Array Value) (out : Value) : Prop :=
  ∀ (fm : Nat → Option Obj) (w : World) (args' : Array Value), J w → (∀ b x, fm b = some x → w.heap[b]? = some x) → TRvs fm targs args' →
    Calls P g args' w fun e w' => ∃ v', e = .returned v' ∧ Below w.heap.size w w' ∧ TRv (fmOr fm w w') out v'
structure Fz where
  k : Nat
  rs : List Nat
  cs : Array Value
def fzGet : List Fz → Nat → Option Fz
  | [], _ => none
  | x :: l, k => bif Nat.beq x.k k then some x else fzGet l k
def CellR (rs : List Nat) (v v1 : Value) : Prop := (simple v = true ∧ v1 = v) ∨ ∃ r ∈ rs, v = topV r v1 ∧ isTop v1 = true
def CellsT (rs : List Nat) (cs cs1 : Array Value) : Prop := cs.size = cs1.size ∧ ∀ (i : Nat) v v1, cs[i]? = some v → cs1[i]? = some v1 → CellR rs v v1
theorem cellsT_simple {rs : List Nat} {cs : Array Value} (h : cs.all simple = true) : CellsT rs cs cs := ⟨rfl, fun i v v1 h1 h2 => by
  rw [h1] at h2; cases h2
  exact .inl ⟨Array.all_eq_true'.1 h v (Array.mem_of_getElem? h1), rfl⟩⟩
def isNil : Value → Bool
  | .slice none 0 0 => true
  | _ => false
theorem isNil_eq {v : Value} (h : isNil v = true) : v = .slice none 0 0 := by
  unfold isNil at h
  split at h
  · rfl
  · cases h
def stripS (H : Heap) (fz : List Fz) (v : Value) : Option (Value × List Nat × List Prop) := bif isNil v then some (slT 0 #[], [], []) else bif simple v then some (v, [], []) else match v with
  | .func (.via r ⟨[]⟩ 0 true) ⟨[t]⟩ ⟨[]⟩ => bif isRegB (hget H r) then some (t, [r], []) else none
  | .slice (some ⟨k, 0, none⟩) n _ => match fzGet fz k, hget H k with
    | some x, some (.cells cs _ (0, 0)) => bif x.rs.all fun r => isRegB (hget H r) then some (slT n x.cs, k :: x.rs, [CellsT x.rs cs x.cs]) else none
    | _, _ => none
  | .pointer (some ⟨k, o, none⟩) => match fzGet fz k, hget H k with
    | some x, some (.cells cs _ (0, 0)) => bif x.rs.all fun r => isRegB (hget H r) then some (ptT o x.cs, k :: x.rs, [CellsT x.rs cs x.cs]) else none
    | _, _ => none
  | _ => none
def stripL (f : Value → Option (Value × List Nat × List Prop)) : List Value → Option (List Value × List Nat × List Prop)
  | [] => some ([], [], [])
  | v :: l => match f v with
    | some (t, R, L) => match stripL f l with
      | some (ts, R2, L2) => some (t :: ts, R ++ R2, L ++ L2)
      | none => none
    | none => none
def stripV (H : Heap) (fz : List Fz) : Nat → Value → Option (Value × List Nat × List Prop)
  | 0, v => stripS H fz v
  | f + 1, v => match v with
    | .agg xs => match stripL (stripV H fz f) xs.toList with
      | some (l, R, L) => some (.agg l.toArray, R, L)
      | none => none
    | .tuple xs => match stripL (stripV H fz f) xs.toList with
      | some (l, R, L) => some (.tuple l.toArray, R, L)
      | none => none
    | .iface t x => match stripV H fz f x with
      | some (x, R, L) => some (.iface t x, R, L)
      | none => none
    | .func (.func g) xs ys => match stripL (stripV H fz f) xs.toList with
      | some (l, R, L) => match stripL (stripV H fz f) ys.toList with
        | some (m, R2, L2) => some (.func (.func g) l.toArray m.toArray, R ++ R2, L ++ L2)
        | none => none
      | none => none
    | v => stripS H fz v
theorem allP_append {a b : List Prop} (h : AllP (a ++ b)) : AllP a ∧ AllP b := by
  induction a with
  | nil => exact ⟨trivial, h⟩
  | cons x a ih => exact ⟨⟨h.1, (ih h.2).1⟩, (ih h.2).2⟩
noncomputable def fmU (μ : Mu) (H : Heap) (w : World) (R : List Nat) (b : Nat) : Option Obj :=
  open Classical in if ∃ i ∈ R, ∃ o im, hget H i = some o ∧ μ i = some im ∧ ((isReg o ∧ im.fm b ≠ none) ∨ (live o ∧ im.blk = b)) then w.heap[b]? else none
section
variable {B : Nat} {S : Nat → Prop} {μ : Mu} {H : Heap} {w : World} {fz : List Fz}
theorem fmU_world {R : List Nat} {b : Nat} {x : Obj} (h : fmU μ H w R b = some x) : w.heap[b]? = some x := by
  unfold fmU at h
  split at h
  · exact h
  · cases h
theorem fmU_mono {R R' : List Nat} (hs : ∀ i ∈ R, i ∈ R') {b : Nat} {x : Obj} (h : fmU μ H w R b = some x) : fmU μ H w R' b = some x := by
  have hw := fmU_world h
  unfold fmU at h ⊢
  split at h
  · rename_i hc
    obtain ⟨i, hi, r⟩ := hc
    rw [if_pos ⟨i, hs i hi, r⟩]; exact hw
  · cases h
theorem fmU_reg (hok : Ok B S μ (hget H) w) {R : List Nat} {r : Nat} (hr : r ∈ R) (hS : S r) (hg : isRegB (hget H r) = true) {im : Img} (him : μ r = some im) {b : Nat} {x : Obj} (hx : im.fm b = some x) : fmU μ H w R b = some x := by
  obtain ⟨o, ho, hreg⟩ := isRegB_spec hg
  obtain ⟨im', him', hf⟩ := hok.reg r o hS ho hreg
  rw [him] at him'; cases him'
  unfold fmU
  rw [if_pos ⟨r, hr, o, im, ho, him, .inl ⟨hreg, by rw [hx]; simp⟩⟩]
  exact hf b x hx
theorem fmU_own {R : List Nat} {k : Nat} (hk : k ∈ R) {o : Obj} (hg : hget H k = some o) (hl : live o) {im : Img} (him : μ k = some im) : fmU μ H w R im.blk = w.heap[im.blk]? := by
  unfold fmU
  rw [if_pos ⟨k, hk, o, im, hg, him, .inr ⟨hl, rfl⟩⟩]
theorem own_cells (hok : Ok B S μ (hget H) w) {k : Nat} (hS : S k) {cs : Array Value} {t : TypeId} (hg : hget H k = some (.cells cs t (0, 0))) : ∃ im arr, μ k = some im ∧ im.rw = true ∧ im.off = 0 ∧ w.heap[im.blk]? = some (.cells arr t (0, 0)) ∧ cs.size ≤ arr.size ∧ arr.size = im.cap ∧ ∀ (i : Nat) v, cs[i]? = some v → ∃ v', arr[i]? = some v' ∧ VR μ v v' := by
  obtain ⟨im, him, hor⟩ := hok.rel k _ hS hg trivial
  rcases hor with ⟨_, h1, h2, arr, h3, h4, h5, h6⟩ | ⟨hz, _⟩
  · exact ⟨im, arr, him, h1, h2, h3, h4, h5, h6⟩
  · exact absurd rfl hz
theorem cellR_TRv (hok : Ok B S μ (hget H) w) {R rs : List Nat} (hsub : ∀ r ∈ rs, r ∈ R) (hS : ∀ r ∈ R, S r) (hreg : (rs.all fun r => isRegB (hget H r)) = true) {v v1 v' : Value} (h : CellR rs v v1) (hv : VR μ v v') : TRv (fmU μ H w R) v1 v' := by
  rcases h with ⟨h1, rfl⟩ | ⟨r, hr, rfl, _⟩
  · rw [simple_eq h1 hv]; exact .simple h1
  · obtain ⟨im, him, ht⟩ := hv.top_inv
    exact ht.mono fun b x hx => fmU_reg hok (hsub r hr) (hS r (hsub r hr)) (List.all_eq_true.1 hreg r hr) him hx
theorem stripS_sound (hok : Ok B S μ (hget H) w) {v v' t : Value} {R : List Nat} {L : List Prop} (h : stripS H fz v = some (t, R, L)) (hL : AllP L) (hS : ∀ r ∈ R, S r) (hv : VR μ v v') : TRv (fmU μ H w R) t v' := by
  unfold stripS at h
  cases hn : isNil v with
  | true =>
    rw [hn] at h
    simp only [cond_true, Option.some.injEq, Prod.mk.injEq] at h
    obtain ⟨rfl, rfl, rfl⟩ := h
    have := isNil_eq hn
    subst this
    cases hv
    exact .nil
  | false =>
  rw [hn] at h
  simp only [cond_false] at h
  cases hs : simple v with
  | true =>
    rw [hs] at h
    simp only [cond_true, Option.some.injEq, Prod.mk.injEq] at h
    obtain ⟨rfl, rfl, rfl⟩ := h
    rw [simple_eq hs hv]; exact .simple hs
  | false =>
    rw [hs] at h
    simp only [cond_false] at h
    split at h
    · rename_i r t0
      cases hg : isRegB (hget H r) with
      | false => rw [hg] at h; cases h
      | true =>
        rw [hg] at h
        simp only [cond_true, Option.some.injEq, Prod.mk.injEq] at h
        obtain ⟨rfl, rfl, rfl⟩ := h
        obtain ⟨im, him, ht⟩ := VR.top_inv (r := r) (t := t0) hv
        exact ht.mono fun b x hx => fmU_reg hok (by simp) (hS r (by simp)) hg him hx
    · rename_i k n _
      split at h
      · rename_i x cs ty hx hg
        cases hr : (x.rs.all fun r => isRegB (hget H r)) with
        | false => rw [hr] at h; cases h
        | true =>
          rw [hr] at h
          simp only [cond_true, Option.some.injEq, Prod.mk.injEq] at h
          obtain ⟨rfl, rfl, rfl⟩ := h
          obtain ⟨⟨h2, h3⟩, _⟩ := hL
          have hkS := hS k (by simp)
          obtain ⟨im, arr, him, _, hoff, harr, hle, _, hcells⟩ := own_cells hok hkS hg
          cases hv with
          | slice har a b _ =>
            obtain ⟨im2, him2, _, rfl⟩ := har
            rw [him] at him2; cases him2
            rw [hoff]
            refine TRv.slice (o := 0) a b ((fmU_own (by simp) hg trivial him).trans harr) (fun i hi => by omega) fun i v v' hv hv' => ?_
            simp only [Nat.zero_add] at hv'
            have hi : i < cs.size := by rw [h2]; exact (Array.getElem?_eq_some_iff.1 hv).1
            obtain ⟨u, hu1, hu2⟩ := hcells i cs[i] (by simp [hi])
            rw [hv'] at hu1; cases hu1
            exact cellR_TRv hok (fun r hr => List.mem_cons_of_mem _ hr) hS hr (h3 i _ _ (by simp [hi]) hv) hu2
      · cases h
    · rename_i k o
      split at h
      · rename_i x cs ty hx hg
        cases hr : (x.rs.all fun r => isRegB (hget H r)) with
        | false => rw [hr] at h; cases h
        | true =>
          rw [hr] at h
          simp only [cond_true, Option.some.injEq, Prod.mk.injEq] at h
          obtain ⟨rfl, rfl, rfl⟩ := h
          obtain ⟨⟨h2, h3⟩, _⟩ := hL
          have hkS := hS k (by simp)
          obtain ⟨im, arr, him, _, hoff, harr, hle, _, hcells⟩ := own_cells hok hkS hg
          cases hv with
          | ptr har =>
            obtain ⟨im2, him2, _, rfl⟩ := har
            rw [him] at him2; cases him2
            rw [hoff]
            refine TRv.ptr (o := 0) ((fmU_own (by simp) hg trivial him).trans harr) (fun i hi => by omega) fun i v v' hv hv' => ?_
            simp only [Nat.zero_add] at hv'
            have hi : i < cs.size := by rw [h2]; exact (Array.getElem?_eq_some_iff.1 hv).1
            obtain ⟨u, hu1, hu2⟩ := hcells i cs[i] (by simp [hi])
            rw [hv'] at hu1; cases hu1
            exact cellR_TRv hok (fun r hr => List.mem_cons_of_mem _ hr) hS hr (h3 i _ _ (by simp [hi]) hv) hu2
      · cases h
    · cases h
theorem stripL_sound {f : Value → Option (Value × List Nat × List Prop)} (hf : ∀ v v' t R L, f v = some (t, R, L) → AllP L → (∀ r ∈ R, S r) → VR μ v v' → TRv (fmU μ H w R) t v') : ∀ (l : List Value) (ts : List Value) (R : List Nat) (L : List Prop) (l' : List Value), stripL f l = some (ts, R, L) → AllP L → (∀ r ∈ R, S r) → l.length = l'.length → (∀ (i : Nat) v v', l[i]? = some v → l'[i]? = some v' → VR μ v v') →
    ts.length = l'.length ∧ ∀ (i : Nat) v v', ts[i]? = some v → l'[i]? = some v' → TRv (fmU μ H w R) v v'
  | [], ts, R, L, l', h, hL, hS, hl, hv => by
    simp only [stripL, Option.some.injEq, Prod.mk.injEq] at h
    obtain ⟨rfl, rfl, rfl⟩ := h
    exact ⟨hl, fun i v v' h => by simp at h⟩
  | v :: l, ts, R, L, [], h, hL, hS, hl, hv => by simp at hl
  | v :: l, ts, R, L, v' :: l', h, hL, hS, hl, hv => by
    simp only [stripL] at h
    split at h
    · rename_i t R1 L1 h1
      split at h
      · rename_i ts2 R2 L2 h2
        simp only [Option.some.injEq, Prod.mk.injEq] at h
        obtain ⟨rfl, rfl, rfl⟩ := h
        obtain ⟨a, b⟩ := allP_append hL
        have k1 := hf v v' t R1 L1 h1 a (fun r hr => hS r (List.mem_append_left _ hr)) (hv 0 v v' rfl rfl)
        obtain ⟨k2, k3⟩ := stripL_sound hf l ts2 R2 L2 l' h2 b (fun r hr => hS r (List.mem_append_right _ hr)) (by simpa using hl) fun i u u' x y => hv (i + 1) u u' (by simpa using x) (by simpa using y)
        refine ⟨by simp [k2], fun i u u' x y => ?_⟩
        cases i with
        | zero =>
          simp only [List.getElem?_cons_zero, Option.some.injEq] at x y
          subst x y
          exact k1.mono fun b x hx => fmU_mono (fun i hi => List.mem_append_left _ hi) hx
        | succ i =>
          exact (k3 i u u' (by simpa using x) (by simpa using y)).mono fun b x hx => fmU_mono (fun i hi => List.mem_append_right _ hi) hx
      · cases h
    · cases h
theorem stripV_sound (hok : Ok B S μ (hget H) w) : ∀ (f : Nat) (v v' t : Value) (R : List Nat) (L : List Prop), stripV H fz f v = some (t, R, L) → AllP L → (∀ r ∈ R, S r) → VR μ v v' → TRv (fmU μ H w R) t v'
  | 0, v, v', t, R, L, h, hL, hS, hv => stripS_sound hok h hL hS hv
  | f + 1, v, v', t, R, L, h, hL, hS, hv => by
    have arr : ∀ {xs xs' : Array Value} {l : List Value} {R : List Nat} {L : List Prop}, stripL (stripV H fz f) xs.toList = some (l, R, L) → AllP L → (∀ r ∈ R, S r) → xs.size = xs'.size → (∀ (i : Nat) v v', xs[i]? = some v → xs'[i]? = some v' → VR μ v v') → l.toArray.size = xs'.size ∧ ∀ (i : Nat) v v', l.toArray[i]? = some v → xs'[i]? = some v' → TRv (fmU μ H w R) v v' := by
      intro xs xs' l R L h hL hS hs hx
      obtain ⟨a, b⟩ := stripL_sound (fun v v' t R L => stripV_sound hok f v v' t R L) xs.toList l R L xs'.toList h hL hS (by simpa using hs) fun i v v' x y => hx i v v' (by simpa using x) (by simpa using y)
      exact ⟨by simpa using a, fun i v v' x y => b i v v' (by simpa using x) (by simpa using y)⟩
    cases v with
    | agg xs =>
      simp only [stripV] at h
      split at h
      · rename_i l R1 L1 hl
        simp only [Option.some.injEq, Prod.mk.injEq] at h
        obtain ⟨rfl, rfl, rfl⟩ := h
        cases hv with
        | agg h1 h2 => exact .agg (arr hl hL hS h1 h2).1 (arr hl hL hS h1 h2).2
      · cases h
    | tuple xs =>
      simp only [stripV] at h
      split at h
      · rename_i l R1 L1 hl
        simp only [Option.some.injEq, Prod.mk.injEq] at h
        obtain ⟨rfl, rfl, rfl⟩ := h
        cases hv with
        | tuple h1 h2 => exact .tuple (arr hl hL hS h1 h2).1 (arr hl hL hS h1 h2).2
      · cases h
    | iface ty x =>
      simp only [stripV] at h
      split at h
      · rename_i l R1 L1 hl
        simp only [Option.some.injEq, Prod.mk.injEq] at h
        obtain ⟨rfl, rfl, rfl⟩ := h
        cases hv with
        | iface hv => exact .iface (stripV_sound hok f _ _ _ _ _ hl hL hS hv)
      · cases h
    | func fn xs ys =>
      cases fn with
      | func g =>
        simp only [stripV] at h
        split at h
        · rename_i l R1 L1 hl
          split at h
          · rename_i m R2 L2 hm
            simp only [Option.some.injEq, Prod.mk.injEq] at h
            obtain ⟨rfl, rfl, rfl⟩ := h
            obtain ⟨a, b⟩ := allP_append hL
            cases hv with
            | func h1 h2 h3 h4 =>
              have k1 := arr hl a (fun r hr => hS r (List.mem_append_left _ hr)) h1 h3
              have k2 := arr hm b (fun r hr => hS r (List.mem_append_right _ hr)) h2 h4
              exact .func k1.1 k2.1 (fun i v v' x y => (k1.2 i v v' x y).mono fun b x hx => fmU_mono (fun i hi => List.mem_append_left _ hi) hx)
                (fun i v v' x y => (k2.2 i v v' x y).mono fun b x hx => fmU_mono (fun i hi => List.mem_append_right _ hi) hx)
          · cases h
        · cases h
      | _ => exact stripS_sound (fz := fz) hok (by exact h) hL hS hv
    | _ => exact stripS_sound (fz := fz) hok (by exact h) hL hS hv
end
theorem Post.region {B n : Nat} {S : Nat → Prop} {μ : Mu} {H : Heap} {w w' : World} (hok : Ok B S μ (hget H) w) (hS : ∀ i, S i → i < n) (hf : μ n = none) (hbel : Below w.heap.size w w') (fm : Nat → Option Obj) (hfm : ∀ b x, fm b = some x → w'.heap[b]? = some x)
    (hfr : ∀ b x, fm b = some x → w.heap.size ≤ b ∨ ∃ k kim ko, S k ∧ hget H k = some ko ∧ isReg ko ∧ μ k = some kim ∧ kim.fm b = some x) : Post B S n (n + 1) [] μ (upd μ n ⟨0, 0, 0, false, fm⟩) H ((n, regO) :: H) w w' := by
  have hp := Post.ofBelow (n := n) hok hbel
  have hne : ∀ i, S i → i ≠ n := fun i hi => by have := hS i hi; omega
  have hmu : ∀ i, S i → upd μ n ⟨0, 0, 0, false, fm⟩ i = μ i := fun i hi => by simp [upd, hne i hi]
  have hg : ∀ i, S i → hget ((n, regO) :: H) i = hget H i := fun i hi => by rw [hget_cons, if_neg (hne i hi)]
  have hgn : hget ((n, regO) :: H) n = some regO := by rw [hget_cons, if_pos rfl]
  have isn : ∀ i, (n ≤ i ∧ i < n + 1) → i = n := fun i hi => by omega
  refine ⟨⟨fun i o hi ho hl => ?_, fun i o im hi ho hl him => ?_, fun i j oi oj a b hi hj hij hoi hoj hli hlj ha hb hra hrb => ?_, fun i o hi ho hr => ?_, fun i j oi oj a b x hi hj hoi hoj hri hlj ha hb hrb hx => ?_⟩, by omega, fun i hi => ?_, fun i hi _ => ?_, hbel.size, fun b hb _ => hbel.block b hb, fun i hi => by simp at hi,
    fun i im o h1 h2 ho hl him => ?_, fun i im o hi ho hr him b x hx => ?_, hbel.os, hbel.tape, hbel.output⟩
  · rcases hi with hi | hi
    · rw [hg i hi] at ho
      obtain ⟨im, him, hr⟩ := hp.ok.rel i o (.inl hi) ho hl
      exact ⟨im, by rw [hmu i hi]; exact him, hr.keep (upd_ext hf) rfl⟩
    · rw [isn i hi, hgn] at ho; cases ho; exact hl.elim
  · rcases hi with hi | hi
    · rw [hg i hi] at ho
      rw [hmu i hi] at him
      exact hp.ok.low i o im (.inl hi) ho hl him
    · rw [isn i hi, hgn] at ho; cases ho; exact hl.elim
  · rcases hi with hi | hi
    · rcases hj with hj | hj
      · rw [hg i hi] at hoi
        rw [hg j hj] at hoj
        rw [hmu i hi] at ha
        rw [hmu j hj] at hb
        exact hok.inj i j oi oj a b hi hj hij hoi hoj hli hlj ha hb hra hrb
      · rw [isn j hj, hgn] at hoj; cases hoj; exact hlj.elim
    · rw [isn i hi, hgn] at hoi; cases hoi; exact hli.elim
  · rcases hi with hi | hi
    · rw [hg i hi] at ho
      obtain ⟨im, him, h⟩ := hp.ok.reg i o (.inl hi) ho hr
      exact ⟨im, by rw [hmu i hi]; exact him, h⟩
    · rw [isn i hi]
      exact ⟨_, upd_self, hfm⟩
  · have hjS : S j := hj.elim id fun h => by rw [isn j h, hgn] at hoj; cases hoj; exact hlj.elim
    rw [hg j hjS] at hoj
    rw [hmu j hjS] at hb
    rcases hi with hi | hi
    · rw [hg i hi] at hoi
      rw [hmu i hi] at ha
      exact hok.sep i j oi oj a b x hi hjS hoi hoj hri hlj ha hb hrb hx
    · rw [isn i hi, upd_self] at ha; cases ha
      rcases hfr _ _ hx with h | ⟨k, kim, ko, h1, h2, h3, h4, h5⟩
      · have := (hok.low j oj b hjS hoj hlj hb).1
        omega
      · exact hok.sep k j ko oj kim b x h1 hjS h2 hoj h3 hlj h4 hb hrb h5
  · simp only [upd]; rw [if_neg (by omega)]
  · rw [hget_cons, if_neg (by omega)]
  · rw [isn i ⟨h1, h2⟩, hgn] at ho; cases ho; exact hl.elim
  · have hin := isn i (hi.elim id fun h => by simp at h)
    subst hin
    rw [upd_self] at him; cases him
    rcases hfr b x hx with h | ⟨k, kim, ko, h1, h2⟩
    · exact .inl h
    · exact .inr (.inl ⟨k, kim, ko, h1, hS k h1, h2⟩)
end Go.CE
