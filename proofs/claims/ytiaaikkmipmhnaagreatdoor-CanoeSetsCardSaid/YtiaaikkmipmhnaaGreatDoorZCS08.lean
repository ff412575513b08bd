/- TV 1: calls that write blocks of their callers: contracts, and how they serve at any place. -/
import Derived.Test.YtiaaikkmipmhnaaGreatDoorZCS07
set_option linter.all false
namespace Go.CE
open Go Go.RowKit

def mvS (ρ τ : Nat → Option Nat) (v : Value) : Option Value := bif simple v then some v else match v with
  | .func (.via r ⟨[]⟩ 0 true) ⟨[t]⟩ ⟨[]⟩ => match τ r with
    | some r' => some (topV r' t)
    | none => none
  | .pointer (some ⟨k, o, none⟩) => match ρ k with
    | some k' => some (.pointer (some ⟨k', o, none⟩))
    | none => none
  | .slice (some ⟨k, o, none⟩) m s => match ρ k with
    | some k' => some (.slice (some ⟨k', o, none⟩) m s)
    | none => none
  | .map (some k) => match ρ k with
    | some k' => some (.map (some k'))
    | none => none
  | .chan (some 0) => some noCapV
  | _ => none
def mvL (f : Value → Option Value) : List Value → Option (List Value)
  | [] => some []
  | v :: l => match f v with
    | some u => match mvL f l with
      | some m => some (u :: m)
      | none => none
    | none => none
def mvV (ρ τ : Nat → Option Nat) : Nat → Value → Option Value
  | 0, v => mvS ρ τ v
  | f + 1, v => match v with
    | .agg xs => match mvL (mvV ρ τ f) xs.toList with
      | some l => some (.agg l.toArray)
      | none => none
    | .tuple xs => match mvL (mvV ρ τ f) xs.toList with
      | some l => some (.tuple l.toArray)
      | none => none
    | .iface t x => match mvV ρ τ f x with
      | some y => some (.iface t y)
      | none => none
    | .func (.func g) xs ys => match mvL (mvV ρ τ f) xs.toList with
      | some l => match mvL (mvV ρ τ f) ys.toList with
        | some m => some (.func (.func g) l.toArray m.toArray)
        | none => none
      | none => none
    | v => mvS ρ τ v
theorem mvL_get {f : Value → Option Value} : ∀ {l m : List Value}, mvL f l = some m → m.length = l.length ∧ ∀ (i : Nat) u, m[i]? = some u → ∃ v, l[i]? = some v ∧ f v = some u
  | [], m, h => by
    simp only [mvL, Option.some.injEq] at h
    subst h
    exact ⟨rfl, fun i u h => by simp at h⟩
  | v :: l, m, h => by
    simp only [mvL] at h
    split at h
    · rename_i u hu
      split at h
      · rename_i m' hm
        simp only [Option.some.injEq] at h
        subst h
        obtain ⟨a, b⟩ := mvL_get hm
        refine ⟨by simp [a], fun i x hx => ?_⟩
        cases i with
        | zero =>
          simp only [List.getElem?_cons_zero, Option.some.injEq] at hx
          subst hx
          exact ⟨v, rfl, hu⟩
        | succ i => exact b i x (by simpa using hx)
      · cases h
    · cases h
section
variable {μ μ1 : Mu} {ρ τ : Nat → Option Nat}
theorem mvS_VR (hρ : ∀ k k', ρ k = some k' → ∀ im, μ k = some im → μ1 k' = some im) (hτ : ∀ r r', τ r = some r' → ∀ im, μ r = some im → ∃ im', μ1 r' = some im' ∧ ∀ b x, im.fm b = some x → im'.fm b = some x) {v v1 v' : Value} (h : mvS ρ τ v = some v1) (hv : VR μ v v') : VR μ1 v1 v' := by
  unfold mvS at h
  cases hs : simple v with
  | true =>
    rw [hs] at h
    simp only [cond_true, Option.some.injEq] at h
    subst h
    rw [simple_eq hs hv]; exact vr_simple hs
  | false =>
    rw [hs] at h
    simp only [cond_false] at h
    split at h
    · rename_i r t
      split at h
      · rename_i r' hr
        simp only [Option.some.injEq] at h
        subst h
        have hv : VR μ (topV r t) v' := hv
        cases hv with
        | top h0 h1 h2 =>
          obtain ⟨im', him', hm⟩ := hτ r r' hr _ h1
          exact .top h0 him' (h2.mono hm)
      · cases h
    · rename_i k o
      split at h
      · rename_i k' hk
        simp only [Option.some.injEq] at h
        subst h
        cases hv with
        | ptr har =>
          obtain ⟨im, h1, _, rfl⟩ := har
          exact .ptr ⟨im, hρ k k' hk im h1, rfl, rfl⟩
      · cases h
    · rename_i k o m s
      split at h
      · rename_i k' hk
        simp only [Option.some.injEq] at h
        subst h
        cases hv with
        | slice har h1 h2 h3 =>
          obtain ⟨im, hi, _, rfl⟩ := har
          have hi1 := hρ k k' hk im hi
          refine .slice ⟨im, hi1, rfl, rfl⟩ h1 h2 fun hs im' him' => ?_
          rw [hi1] at him'; cases him'
          exact h3 hs im hi
      · cases h
    · rename_i k
      split at h
      · rename_i k' hk
        simp only [Option.some.injEq] at h
        subst h
        cases hv with
        | map hm => exact .map (hρ k k' hk _ hm)
      · cases h
    · simp only [Option.some.injEq] at h
      subst h
      cases hv with
      | noCap => exact .noCap
    · cases h
theorem mvV_VR (hρ : ∀ k k', ρ k = some k' → ∀ im, μ k = some im → μ1 k' = some im) (hτ : ∀ r r', τ r = some r' → ∀ im, μ r = some im → ∃ im', μ1 r' = some im' ∧ ∀ b x, im.fm b = some x → im'.fm b = some x) : ∀ (f : Nat) {v v1 v' : Value}, mvV ρ τ f v = some v1 → VR μ v v' → VR μ1 v1 v'
  | 0, v, v1, v', h, hv => mvS_VR hρ hτ h hv
  | f + 1, v, v1, v', h, hv => by
    have arr : ∀ {xs xs' : Array Value} {l : List Value}, mvL (mvV ρ τ f) xs.toList = some l → xs.size = xs'.size → (∀ (i : Nat) v v', xs[i]? = some v → xs'[i]? = some v' → VR μ v v') → l.toArray.size = xs'.size ∧ ∀ (i : Nat) v v', l.toArray[i]? = some v → xs'[i]? = some v' → VR μ1 v v' := by
      intro xs xs' l hl hs hx
      obtain ⟨a, b⟩ := mvL_get hl
      refine ⟨by simpa [a] using hs, fun i u u' hu hu' => ?_⟩
      obtain ⟨v, hv1, hv2⟩ := b i u (by simpa using hu)
      exact mvV_VR hρ hτ f hv2 (hx i v u' (by simpa using hv1) hu')
    cases v with
    | agg xs =>
      simp only [mvV] at h
      split at h
      · rename_i l hl
        simp only [Option.some.injEq] at h
        subst h
        cases hv with
        | agg h1 h2 => exact .agg (arr hl h1 h2).1 (arr hl h1 h2).2
      · cases h
    | tuple xs =>
      simp only [mvV] at h
      split at h
      · rename_i l hl
        simp only [Option.some.injEq] at h
        subst h
        cases hv with
        | tuple h1 h2 => exact .tuple (arr hl h1 h2).1 (arr hl h1 h2).2
      · cases h
    | iface t x =>
      simp only [mvV] at h
      split at h
      · rename_i y hy
        simp only [Option.some.injEq] at h
        subst h
        cases hv with
        | iface hv => exact .iface (mvV_VR hρ hτ f hy hv)
      · cases h
    | func fn xs ys =>
      cases fn with
      | func g =>
        simp only [mvV] at h
        split at h
        · rename_i l hl
          split at h
          · rename_i m hm
            simp only [Option.some.injEq] at h
            subst h
            cases hv with
            | func h1 h2 h3 h4 => exact .func (arr hl h1 h3).1 (arr hm h2 h4).1 (arr hl h1 h3).2 (arr hm h2 h4).2
          · cases h
        · cases h
      | _ => exact mvS_VR hρ hτ (by exact h) hv
    | _ => exact mvS_VR hρ hτ (by exact h) hv
end
def AllSimple (cs : Array Value) : Prop := ∀ v ∈ cs, simple v = true
def mvE (f : Value → Option Value) : List MapEntry → Option (List MapEntry)
  | [] => some []
  | e :: l => match f e.val with
    | some u => match mvE f l with
      | some m => some ({ e with val := u } :: m)
      | none => none
    | none => none
theorem mvE_get {f : Value → Option Value} : ∀ {l m : List MapEntry}, mvE f l = some m → m.length = l.length ∧ ∀ (i : Nat) u, m[i]? = some u → ∃ v, l[i]? = some v ∧ u.key = v.key ∧ u.born = v.born ∧ f v.val = some u.val
  | [], m, h => by
    simp only [mvE, Option.some.injEq] at h
    subst h
    exact ⟨rfl, fun i u h => by simp at h⟩
  | v :: l, m, h => by
    simp only [mvE] at h
    split at h
    · rename_i u hu
      split at h
      · rename_i m' hm
        simp only [Option.some.injEq] at h
        subst h
        obtain ⟨a, b⟩ := mvE_get hm
        refine ⟨by simp [a], fun i x hx => ?_⟩
        cases i with
        | zero =>
          simp only [List.getElem?_cons_zero, Option.some.injEq] at hx
          subst hx
          exact ⟨v, rfl, rfl, rfl, hu⟩
        | succ i => exact b i x (by simpa using hx)
      · cases h
    · cases h
def plainMap : Array MapEntry → Prop := fun es => ∀ (i : Nat) e, es[i]? = some e → af e.val = true
def mvO (f : Value → Option Value) (plain : Bool) : Obj → Option (Obj × List Prop)
  | .cells cs t (0, 0) => bif plain then some (.cells cs t (0, 0), [AllSimple cs]) else match mvL f cs.toList with
    | some l => some (.cells l.toArray t (0, 0), [])
    | none => none
  | .map es clk => bif plain then some (.map es clk, [plainMap es]) else match mvE f es.toList with
    | some l => some (.map l.toArray clk, [])
    | none => none
  | _ => none
theorem mvO_live {f : Value → Option Value} {p : Bool} {o o1 : Obj} {L : List Prop} (h : mvO f p o = some (o1, L)) : (live o ∧ ¬ isReg o) ∧ live o1 ∧ ¬ isReg o1 := by
  unfold mvO at h
  split at h
  · cases p with
    | true =>
      simp only [cond_true, Option.some.injEq, Prod.mk.injEq] at h
      obtain ⟨rfl, rfl⟩ := h
      exact ⟨⟨trivial, id⟩, trivial, id⟩
    | false =>
      simp only [cond_false] at h
      split at h
      · simp only [Option.some.injEq, Prod.mk.injEq] at h
        obtain ⟨rfl, rfl⟩ := h
        exact ⟨⟨trivial, id⟩, trivial, id⟩
      · cases h
  · cases p with
    | true =>
      simp only [cond_true, Option.some.injEq, Prod.mk.injEq] at h
      obtain ⟨rfl, rfl⟩ := h
      exact ⟨⟨trivial, id⟩, trivial, id⟩
    | false =>
      simp only [cond_false] at h
      split at h
      · simp only [Option.some.injEq, Prod.mk.injEq] at h
        obtain ⟨rfl, rfl⟩ := h
        exact ⟨⟨trivial, id⟩, trivial, id⟩
      · cases h
  · cases h
theorem mvO_OR {μ μ1 : Mu} {f : Value → Option Value} (hf : ∀ v v1 v', f v = some v1 → VR μ v v' → VR μ1 v1 v') {p : Bool} {o o1 : Obj} {L : List Prop} (h : mvO f p o = some (o1, L)) (hL : AllP L) {w : World} {im : Img} (hor : OR μ w im o) : OR μ1 w im o1 ∧ im.rw = true := by
  unfold mvO at h
  split at h
  · rename_i cs t
    rcases hor with ⟨h1, h2, h3, arr, h4, h5, h6, h7⟩ | ⟨h1, _⟩
    · refine ⟨?_, h2⟩
      cases p with
      | true =>
        simp only [cond_true, Option.some.injEq, Prod.mk.injEq] at h
        obtain ⟨rfl, rfl⟩ := h
        refine .inl ⟨h1, h2, h3, arr, h4, h5, h6, fun i v hv => ?_⟩
        obtain ⟨v', a, b⟩ := h7 i v hv
        have hs := hL.1 v (Array.mem_of_getElem? hv)
        refine ⟨v', a, ?_⟩
        rw [simple_eq hs b]; exact vr_simple hs
      | false =>
        simp only [cond_false] at h
        split at h
        · rename_i l hl
          simp only [Option.some.injEq, Prod.mk.injEq] at h
          obtain ⟨rfl, rfl⟩ := h
          obtain ⟨a, b⟩ := mvL_get hl
          refine .inl ⟨h1, h2, h3, arr, h4, by simpa [a] using h5, h6, fun i v hv => ?_⟩
          obtain ⟨u, hu1, hu2⟩ := b i v (by simpa using hv)
          obtain ⟨v', x, y⟩ := h7 i u (by simpa using hu1)
          exact ⟨v', x, hf u v v' hu2 y⟩
        · cases h
    · exact absurd rfl h1
  · rename_i es clk
    cases p with
    | true =>
      simp only [cond_true, Option.some.injEq, Prod.mk.injEq] at h
      obtain ⟨rfl, rfl⟩ := h
      obtain ⟨h1, es', h2, h3, h4⟩ := hor
      refine ⟨⟨h1, es', h2, h3, fun i e e' he he' => ?_⟩, h1⟩
      obtain ⟨q1, q2, q3, q4⟩ := h4 i e e' he he'
      have ha := hL.1 i e he
      exact ⟨q1, q2, q3, by rw [af_eq ha q4]; exact vr_af ha⟩
    | false =>
    simp only [cond_false] at h
    split at h
    · rename_i l hl
      simp only [Option.some.injEq, Prod.mk.injEq] at h
      obtain ⟨rfl, rfl⟩ := h
      obtain ⟨a, b⟩ := mvE_get hl
      obtain ⟨h1, es', h2, h3, h4⟩ := hor
      refine ⟨⟨h1, es', h2, by simpa [a] using h3, fun i e e' he he' => ?_⟩, h1⟩
      obtain ⟨u, hu1, hu2, hu3, hu4⟩ := b i e (by simpa using he)
      obtain ⟨q1, q2, q3, q4⟩ := h4 i u e' (by simpa using hu1) he'
      exact ⟨by rw [hu2]; exact q1, by rw [hu3]; exact q2, by rw [hu2]; exact q3, hf u.val e.val e'.val hu4 q4⟩
    · cases h
  · cases h
def mvOs (f : Value → Option Value) : List Bool → List (Option Obj) → Option (List Obj × List Prop)
  | [], [] => some ([], [])
  | p :: ps, some o :: l => match mvO f p o with
    | some (o1, L) => match mvOs f ps l with
      | some (os, M) => some (o1 :: os, L ++ M)
      | none => none
    | none => none
  | _, _ => none
theorem mvOs_get {f : Value → Option Value} : ∀ {ps : List Bool} {l : List (Option Obj)} {os : List Obj} {L : List Prop}, mvOs f ps l = some (os, L) → AllP L → os.length = l.length ∧ ∀ (i : Nat) o1, os[i]? = some o1 → ∃ p o M, l[i]? = some (some o) ∧ mvO f p o = some (o1, M) ∧ AllP M
  | [], [], os, L, h, _ => by
    simp only [mvOs, Option.some.injEq, Prod.mk.injEq] at h
    obtain ⟨rfl, rfl⟩ := h
    exact ⟨rfl, fun i u h => by simp at h⟩
  | p :: ps, some o :: l, os, L, h, hL => by
    simp only [mvOs] at h
    split at h
    · rename_i o1 L1 h1
      split at h
      · rename_i os' M hm
        simp only [Option.some.injEq, Prod.mk.injEq] at h
        obtain ⟨rfl, rfl⟩ := h
        obtain ⟨hL1, hL2⟩ := allP_append hL
        obtain ⟨a, b⟩ := mvOs_get hm hL2
        refine ⟨by simp [a], fun i x hx => ?_⟩
        cases i with
        | zero =>
          simp only [List.getElem?_cons_zero, Option.some.injEq] at hx
          subst hx
          exact ⟨p, o, L1, rfl, h1, hL1⟩
        | succ i => exact b i x (by simpa using hx)
      · cases h
    · cases h
  | [], _ :: _, _, _, h, _ => by simp [mvOs] at h
  | _ :: _, [], _, _, h, _ => by simp [mvOs] at h
  | _ :: _, none :: _, _, _, h, _ => by simp [mvOs] at h
def posOf : List Nat → Nat → Nat → Option Nat
  | [], _, _ => none
  | a :: l, j, k => bif Nat.beq a k then some j else posOf l (j + 1) k
theorem posOf_spec : ∀ (l : List Nat) (j k i : Nat), posOf l j k = some i → j ≤ i ∧ l[i - j]? = some k
  | [], j, k, i, h => by cases h
  | a :: l, j, k, i, h => by
    simp only [posOf] at h
    cases e : Nat.beq a k with
    | true =>
      rw [e] at h
      simp only [cond_true, Option.some.injEq] at h
      subst h
      exact ⟨Nat.le_refl _, by simp [Nat.eq_of_beq_eq_true e]⟩
    | false =>
      rw [e] at h
      simp only [cond_false] at h
      obtain ⟨h1, h2⟩ := posOf_spec l (j + 1) k i h
      refine ⟨by omega, ?_⟩
      rw [show i - j = (i - (j + 1)) + 1 by omega]
      simpa using h2
def heapL : Nat → List Obj → Heap
  | _, [] => []
  | i, o :: l => (i, o) :: heapL (i + 1) l
theorem heapL_get : ∀ (l : List Obj) (i j : Nat), hget (heapL i l) j = if i ≤ j then l[j - i]? else none
  | [], i, j => by simp [heapL, hget]
  | o :: l, i, j => by
    simp only [heapL, hget_cons]
    by_cases h : j = i
    · subst h; simp
    · rw [if_neg h, heapL_get l (i + 1) j]
      by_cases h2 : i ≤ j
      · rw [if_pos h2, if_pos (by omega), show j - i = (j - (i + 1)) + 1 by omega]
        simp
      · rw [if_neg h2, if_neg (by omega)]
def wriH (bs : List Obj) : Heap := heapL 1 bs ++ [(0, regO)]
def WriC (P : Program) (J : World → Prop) (g : FuncId) (args : Array Value) (bs : List Obj) (out : OO) (outs news : List Obj) : Prop :=
  ∀ (B : Lo), (∀ w, B.has w → J w) → ∀ (μ : Mu) (w : World) (args' : Array Value) (cs : List Frame), Ok B (fun i => i < bs.length + 1) μ (hget (wriH bs)) w → B.has w → (∀ i, bs.length + 1 ≤ i → μ i = none) → VRs μ args args' →
    ∃ out' w' μ', Post B (fun i => i < bs.length + 1) (bs.length + 1) (bs.length + 2 + news.length) (List.range' 1 bs.length) μ μ' (wriH bs) (heapL 1 outs ++ ((bs.length + 1, regO) :: (heapL (bs.length + 2) news ++ wriH bs))) w w' ∧ OR2 μ' out out' ∧ EndsAs P (Frame.enter P g args' .normal) cs w out' w'
theorem hb_get {bs outs news : List Obj} {a : Nat} (i : Nat) : hget (heapL 1 outs ++ ((a, regO) :: (heapL (a + 1) news ++ wriH bs))) i = match hget (heapL 1 outs) i with | some o => some o | none => if i = a then some regO else match hget (heapL (a + 1) news) i with | some o => some o | none => hget (wriH bs) i := by
  rw [hget_append]
  cases hget (heapL 1 outs) i with
  | some o => rfl
  | none => simp only; rw [hget_cons, hget_append]; rfl
theorem wriH_get (bs : List Obj) (i : Nat) : hget (wriH bs) i = if i = 0 then some regO else bs[i - 1]? := by
  unfold wriH
  rw [hget_append, heapL_get]
  by_cases h : i = 0
  · subst h; simp [hget_cons]
  · rw [if_pos (by omega), if_neg h]
    cases hb : bs[i - 1]? with
    | some o => rfl
    | none => simp only; rw [hget_cons, if_neg h]; rfl
def dnR (κ : List Nat) (k : Nat) : Option Nat := posOf κ 1 k
def dnT (R : List Nat) (r : Nat) : Option Nat := bif R.contains r then some 0 else none
def upR (κ : List Nat) (n : Nat) (i : Nat) : Option Nat := match i with
  | 0 => none
  | i + 1 => bif Nat.blt i κ.length then κ[i]? else bif Nat.beq i κ.length then none else some (n + (i - κ.length))
def upT (a n r : Nat) : Option Nat := bif Nat.beq r 0 || Nat.beq r a then some n else none
def mvOut (f : Value → Option Value) : OO → Option OO
  | .ret v => match f v with
    | some u => some (.ret u)
    | none => none
  | .pan v => match f v with
    | some u => some (.pan u)
    | none => none
def wriK (H : Heap) (n : Nat) (κ R : List Nat) (ps qs : List Bool) (args1 : Array Value) (out : OO) (outs news : List Obj) : Option (List Value × List Obj × OO × Heap × List Prop) :=
  bif (κ.all fun k => Nat.blt k n) && distinct κ && (R.all fun r => Nat.blt r n && isRegB (hget H r)) && Nat.beq outs.length κ.length then
    match mvL (mvV (dnR κ) (dnT R) 4) args1.toList, mvOs (mvV (dnR κ) (dnT R) 4) ps (κ.map (hget H)), mvOut (mvV (upR κ n) (upT (κ.length + 1) n) 4) out, mvOs (mvV (upR κ n) (upT (κ.length + 1) n) 4) ps (outs.map some), mvOs (mvV (upR κ n) (upT (κ.length + 1) n) 4) qs (news.map some) with
    | some asx, some (bs, L1), some o1, some (os, L2), some (ns, L3) => some (asx, bs, o1, κ.zip os ++ ((n, regO) :: heapL (n + 1) ns), L1 ++ (L2 ++ L3))
    | _, _, _, _, _ => none
  else none
theorem zip_get {κ : List Nat} {os : List Obj} (hd : distinct κ = true) (hl : os.length = κ.length) {j k : Nat} (hk : κ[j]? = some k) : hget (κ.zip os) k = os[j]? := by
  induction κ generalizing os j with
  | nil => simp at hk
  | cons a κ ih =>
    cases os with
    | nil => simp at hl
    | cons o os =>
      rw [List.zip_cons_cons, hget_cons]
      have inj := distinct_inj hd
      cases j with
      | zero =>
        simp only [List.getElem?_cons_zero, Option.some.injEq] at hk
        rw [if_pos hk.symm]; rfl
      | succ j =>
        have hne : k ≠ a := fun e => by
          have := inj (j + 1) 0 k hk (by simp [e])
          omega
        rw [if_neg hne]
        refine ih ?_ (by simpa using hl) (by simpa using hk)
        simp only [distinct, Bool.and_eq_true] at hd
        exact hd.2
theorem zip_none : ∀ {κ : List Nat} {os : List Obj} {k : Nat}, k ∉ κ → hget (κ.zip os) k = none
  | [], _, _, _ => rfl
  | a :: κ, [], _, _ => rfl
  | a :: κ, o :: os, k, h => by
    rw [List.zip_cons_cons, hget_cons, if_neg (fun e => h (by simp [e]))]
    exact zip_none fun e => h (List.mem_cons_of_mem _ e)
section
variable {P : Program} {J : World → Prop} {B : Lo} {g : FuncId} {args args1 : Array Value} {H : Heap} {n : Nat} {bs outs news : List Obj} {out out1 : OO}
theorem WriC.callJ (h : WriC P J g args bs out outs news) (hJ : ∀ w, B.has w → J w) (κ R : List Nat) (ps qs : List Bool) {asx : List Value} {bs1 : List Obj} {ups : Heap} {L : List Prop} (e : wriK H n κ R ps qs args1 out outs news = some (asx, bs1, out1, ups, L)) (hL : AllP L) (ha : asx.toArray = args) (hb : bs1 = bs) : CallJ P B g args1 H n out1 (ups ++ H) (n + 1 + news.length) (κ ++ R) κ := by
  subst hb
  unfold wriK at e
  cases hq : ((κ.all fun k => Nat.blt k n) && distinct κ && (R.all fun r => Nat.blt r n && isRegB (hget H r)) && Nat.beq outs.length κ.length) with
  | false => rw [hq] at e; cases e
  | true =>
  rw [hq] at e
  simp only [cond_true] at e
  simp only [Bool.and_eq_true] at hq
  obtain ⟨⟨⟨q1, q2⟩, q3⟩, q4⟩ := hq
  have q4 := Nat.eq_of_beq_eq_true q4
  have κlt : ∀ k ∈ κ, k < n := fun k hk => Nat.le_of_ble_eq_true (List.all_eq_true.1 q1 k hk)
  have Rlt : ∀ r ∈ R, r < n := fun r hr => by
    have := List.all_eq_true.1 q3 r hr
    simp only [Bool.and_eq_true] at this
    exact Nat.le_of_ble_eq_true this.1
  have Rreg : ∀ r ∈ R, isRegB (hget H r) = true := fun r hr => by
    have := List.all_eq_true.1 q3 r hr
    simp only [Bool.and_eq_true] at this
    exact this.2
  have κinj := distinct_inj q2
  split at e
  · rename_i as0 bs0 L1 o1 os L2 ns L3 e1 e2 e3 e4 e5
    simp only [Option.some.injEq, Prod.mk.injEq] at e
    obtain ⟨rfl, rfl, rfl, rfl, rfl⟩ := e
    obtain ⟨hL1, hLr⟩ := allP_append hL
    obtain ⟨hL2, hL3⟩ := allP_append hLr
    obtain ⟨lb, gb⟩ := mvOs_get e2 hL1
    obtain ⟨lo, go⟩ := mvOs_get e4 hL2
    obtain ⟨ln, gnw⟩ := mvOs_get e5 hL3
    simp only [List.length_map] at lb lo ln
    obtain ⟨la, gaa⟩ := mvL_get e1
    let a := bs0.length + 1
    let G2 : Nat → Option Obj := hget ((κ.zip os ++ ((n, regO) :: heapL (n + 1) ns)) ++ H)
    have upsG : ∀ i, G2 i = match hget (κ.zip os) i with | some o => some o | none => if i = n then some regO else if n < i ∧ i < n + 1 + news.length then ns[i - (n + 1)]? else hget H i := by
      intro i
      show hget ((κ.zip os ++ ((n, regO) :: heapL (n + 1) ns)) ++ H) i = _
      rw [hget_append, hget_append]
      cases hz : hget (κ.zip os) i with
      | some o => rfl
      | none =>
        simp only
        rw [hget_cons]
        by_cases hi : i = n
        · rw [if_pos hi, if_pos hi]
        · rw [if_neg hi, if_neg hi, heapL_get]
          by_cases h1 : n + 1 ≤ i
          · rw [if_pos h1]
            by_cases h2 : i < n + 1 + news.length
            · rw [if_pos ⟨by omega, h2⟩]
              have : i - (n + 1) < ns.length := by omega
              simp [this]
            · rw [if_neg (by omega), List.getElem?_eq_none (by omega)]
          · rw [if_neg h1, if_neg (by omega)]
    have ownAt : ∀ {i k : Nat}, κ[i]? = some k → ∃ o, bs0[i]? = some o := fun {i k} hk => by
      have : i < bs0.length := by rw [lb]; exact (List.getElem?_eq_some_iff.1 hk).1
      exact ⟨bs0[i], by simp [this]⟩
    have newAt : ∀ {i k : Nat}, κ[i]? = some k → ∃ o, os[i]? = some o := fun {i k} hk => by
      have : i < os.length := by rw [lo, q4]; exact (List.getElem?_eq_some_iff.1 hk).1
      exact ⟨os[i], by simp [this]⟩
    have κne : ∀ k ∈ κ, k < n := κlt
    have zn : ∀ {i : Nat}, n ≤ i → hget (κ.zip os) i = none := fun {i} hi => zip_none fun hm => absurd (κlt _ hm) (by omega)
    have gk : ∀ {j k : Nat}, κ[j]? = some k → G2 k = os[j]? := fun {j k} hk => by
      rw [upsG, zip_get q2 (by rw [lo, q4]) hk]
      obtain ⟨o, ho⟩ := newAt hk
      rw [ho]
    have gn : G2 n = some regO := by rw [upsG, zn (Nat.le_refl _)]; simp
    have gw : ∀ {i : Nat}, n < i → i < n + 1 + news.length → G2 i = ns[i - (n + 1)]? := fun {i} h1 h2 => by
      rw [upsG, zn (by omega)]
      simp only
      rw [if_neg (by omega), if_pos ⟨h1, h2⟩]
    have gr : ∀ {i : Nat}, i ∉ κ → ¬ (n ≤ i ∧ i < n + 1 + news.length) → G2 i = hget H i := fun {i} hi hn => by
      rw [upsG, zip_none hi]
      simp only
      rw [if_neg (by omega), if_neg (by omega)]
    refine ⟨⟨by omega, fun i hi hw => ?_, fun i hi => ?_, fun i hi => List.mem_append_left _ hi, fun i hi => by have := κlt i hi; omega⟩, fun S μ w args' cs hok hB hS hf hv hR => ?_⟩
    · exact gr hw (by omega)
    · exact gr (fun hm => absurd (κlt _ hm) (by omega)) (by omega)
    have κS : ∀ k ∈ κ, S k := fun k hk => hR k (List.mem_append_left _ hk) (κlt k hk)
    have RS : ∀ r ∈ R, S r := fun r hr => hR r (List.mem_append_right _ hr) (Rlt r hr)
    -- the contract's memory
    let μc : Mu := fun i => match i with
      | 0 => some ⟨0, 0, 0, false, fmU μ H w R⟩
      | i + 1 => match κ[i]? with
        | some k => μ k
        | none => none
    have μ0 : μc 0 = some ⟨0, 0, 0, false, fmU μ H w R⟩ := rfl
    have μs : ∀ {i k : Nat}, κ[i]? = some k → μc (i + 1) = μ k := fun {i k} hk => by show (match κ[i]? with | some k => μ k | none => none) = μ k; rw [hk]
    have hρ : ∀ k k', dnR κ k = some k' → ∀ im, μ k = some im → μc k' = some im := fun k k' hk im him => by
      obtain ⟨h1, h2⟩ := posOf_spec κ 1 k k' hk
      obtain ⟨i, rfl⟩ : ∃ i, k' = i + 1 := ⟨k' - 1, by omega⟩
      rw [μs (i := i) (by simpa using h2)]; exact him
    have hτ : ∀ r r', dnT R r = some r' → ∀ im, μ r = some im → ∃ im', μc r' = some im' ∧ ∀ b x, im.fm b = some x → im'.fm b = some x := fun r r' hr im him => by
      unfold dnT at hr
      cases hc : R.contains r with
      | false => rw [hc] at hr; cases hr
      | true =>
        rw [hc] at hr
        simp only [cond_true, Option.some.injEq] at hr
        subst hr
        have hm : r ∈ R := by simpa using hc
        exact ⟨_, μ0, fun b x hx => fmU_reg hok hm (RS r hm) (Rreg r hm) him hx⟩
    have dnVR : ∀ v v1 v', mvV (dnR κ) (dnT R) 4 v = some v1 → VR μ v v' → VR μc v1 v' := fun v v1 v' => mvV_VR hρ hτ 4
    -- blocks of the contract
    have blk : ∀ i o, i < a → hget (wriH bs0) i = some o → (i = 0 ∧ o = regO) ∨ ∃ j k o1, i = j + 1 ∧ κ[j]? = some k ∧ hget H k = some o1 ∧ (live o1 ∧ ¬ isReg o1) ∧ (live o ∧ ¬ isReg o) ∧ ∀ im, OR μ w im o1 → OR μc w im o ∧ im.rw = true := by
      intro i o hi ho
      rw [wriH_get] at ho
      by_cases h0 : i = 0
      · rw [if_pos h0] at ho; cases ho; exact .inl ⟨h0, rfl⟩
      · rw [if_neg h0] at ho
        obtain ⟨p, o1, M, g1, g2, g3⟩ := gb (i - 1) o ho
        rw [List.getElem?_map] at g1
        cases hk : κ[i - 1]? with
        | none => rw [hk] at g1; cases g1
        | some k =>
          rw [hk] at g1
          simp only [Option.map_some, Option.some.injEq] at g1
          obtain ⟨m1, m2⟩ := mvO_live g2
          exact .inr ⟨i - 1, k, o1, by omega, hk, g1, m1, m2, fun im hor => mvO_OR dnVR g2 g3 hor⟩
    -- each of the caller's blocks, asx it was
    have was : ∀ {j k : Nat}, κ[j]? = some k → ∃ o1, hget H k = some o1 ∧ (live o1 ∧ ¬ isReg o1) ∧ ∀ im, μ k = some im → im.rw = true := fun {j k} hk => by
      obtain ⟨o0, ho0⟩ := ownAt hk
      have hlt : j < κ.length := (List.getElem?_eq_some_iff.1 hk).1
      rcases blk (j + 1) o0 (by omega) (by rw [wriH_get, if_neg (by omega)]; simpa using ho0) with ⟨h, _⟩ | ⟨j', k', o1, hj', hk', hg, h1, h2, h3⟩
      · omega
      · obtain rfl : j = j' := by omega
        rw [hk] at hk'; cases hk'
        refine ⟨o1, hg, h1, fun im him => ?_⟩
        obtain ⟨im2, him2, hor⟩ := hok.rel k o1 (κS k (List.mem_of_getElem? hk)) hg h1.1
        rw [him] at him2; cases him2
        exact (h3 im hor).2
    have sep0 : ∀ {j k : Nat} {o1 : Obj} {im : Img} {x : Obj}, κ[j]? = some k → hget H k = some o1 → live o1 → μ k = some im → im.rw = true → fmU μ H w R im.blk ≠ some x := by
      intro j k o1 im x hk ho hl him hrw hx
      have hx' := hx
      unfold fmU at hx'
      split at hx'
      · rename_i hc
        obtain ⟨i, hi, o, im', hg, him', hcase⟩ := hc
        obtain ⟨o', ho', hr'⟩ := isRegB_spec (Rreg i hi)
        rw [hg] at ho'; cases ho'
        rcases hcase with ⟨_, hne⟩ | ⟨hl', _⟩
        · cases hy : im'.fm im.blk with
          | none => exact hne hy
          | some y => exact hok.sep i k o o1 im' im y (RS i hi) (κS k (List.mem_of_getElem? hk)) hg ho hr' hl him' him hrw hy
        · exact absurd hl' (by cases o <;> first | exact id | exact hr'.elim)
      · cases hx'
    have hokc : Ok B.B (fun i => i < a) μc (hget (wriH bs0)) w := by
      refine ⟨fun i o hi ho hl => ?_, fun i o im hi ho hl him => ?_, fun i j oi oj x y hi hj hij hoi hoj hli hlj hx hy hrx hry => ?_, fun i o hi ho hr => ?_, fun i j oi oj x y z hi hj hoi hoj hri hlj hx hy hry hz => ?_⟩
      · rcases blk i o hi ho with ⟨_, rfl⟩ | ⟨j, k, o1, rfl, hk, hg, h1, h2, h3⟩
        · exact hl.elim
        · obtain ⟨im, him, hor⟩ := hok.rel k o1 (κS k (List.mem_of_getElem? hk)) hg h1.1
          exact ⟨im, by rw [μs hk]; exact him, (h3 im hor).1⟩
      · rcases blk i o hi ho with ⟨_, rfl⟩ | ⟨j, k, o1, rfl, hk, hg, h1, h2, h3⟩
        · exact hl.elim
        · rw [μs hk] at him
          exact hok.low k o1 im (κS k (List.mem_of_getElem? hk)) hg h1.1 him
      · rcases blk i oi hi hoi with ⟨_, rfl⟩ | ⟨j1, k1, o1, rfl, hk1, hg1, h1, _, _⟩
        · exact hli.elim
        · rcases blk j oj hj hoj with ⟨_, rfl⟩ | ⟨j2, k2, o2, rfl, hk2, hg2, h2, _, _⟩
          · exact hlj.elim
          · rw [μs hk1] at hx
            rw [μs hk2] at hy
            refine hok.inj k1 k2 o1 o2 x y (κS k1 (List.mem_of_getElem? hk1)) (κS k2 (List.mem_of_getElem? hk2)) (fun e => ?_) hg1 hg2 h1.1 h2.1 hx hy hrx hry
            subst e
            exact hij (by rw [κinj j1 j2 k1 hk1 hk2])
      · rcases blk i o hi ho with ⟨rfl, rfl⟩ | ⟨j, k, o1, rfl, hk, hg, h1, h2, h3⟩
        · exact ⟨_, μ0, fun b x hx => fmU_world hx⟩
        · exact absurd hr h2.2
      · rcases blk i oi hi hoi with ⟨rfl, rfl⟩ | ⟨j1, k1, o1, rfl, hk1, hg1, h1, h2, _⟩
        · rcases blk j oj hj hoj with ⟨_, rfl⟩ | ⟨j2, k2, o2, rfl, hk2, hg2, h2, _, _⟩
          · exact hlj.elim
          · rw [μ0] at hx; cases hx
            rw [μs hk2] at hy
            exact sep0 hk2 hg2 h2.1 hy hry hz
        · exact absurd hri h2.2
    have hVRs : VRs μc args args' := by
      rw [← ha]
      refine ⟨by simpa [la] using hv.1, fun i u u' hu hu' => ?_⟩
      obtain ⟨v, hv1, hv2⟩ := gaa i u (by simpa using hu)
      exact dnVR v u u' hv2 (hv.2 i v u' (by simpa using hv1) hu')
    have hfree : ∀ i, a ≤ i → μc i = none := fun i hi => by
      cases i with
      | zero => omega
      | succ i =>
        show (match κ[i]? with | some k => μ k | none => none) = none
        rw [List.getElem?_eq_none (by omega)]
    obtain ⟨out', w', μ', hpost, hout, he⟩ := h B hJ μc w args' cs hokc hB hfree hVRs
    have mu' : ∀ i, i < a → μ' i = μc i := fun i hi => hpost.ext i (by omega)
    let Gc : Nat → Option Obj := hget (heapL 1 outs ++ ((a, regO) :: (heapL (a + 1) news ++ wriH bs0)))
    have okG : Ok B.B (fun i => i < a ∨ a ≤ i ∧ i < bs0.length + 2 + news.length) μ' Gc w' := hpost.ok
    have aS : ∀ i, (i < a ∨ a ≤ i ∧ i < bs0.length + 2 + news.length) ↔ i < a + 1 + news.length := fun i => by omega
    have Gc_get : ∀ i, Gc i = match hget (heapL 1 outs) i with | some o => some o | none => if i = a then some regO else match hget (heapL (a + 1) news) i with | some o => some o | none => hget (wriH bs0) i := fun i => hb_get i
    have hga : Gc a = some regO := by
      rw [Gc_get, heapL_get, if_pos (show 1 ≤ a by omega), List.getElem?_eq_none (show outs.length ≤ a - 1 by omega)]
      simp
    have hg0 : Gc 0 = some regO := by
      rw [Gc_get, heapL_get, if_neg (by omega)]
      simp only
      rw [if_neg (by omega), heapL_get, if_neg (by omega)]
      simp only
      rw [wriH_get, if_pos rfl]
    obtain ⟨ima, hima, hrega⟩ := okG.reg a regO ((aS a).2 (by omega)) hga trivial
    obtain ⟨im0, him0, hreg0⟩ := okG.reg 0 regO ((aS 0).2 (by omega)) hg0 trivial
    have e0 := him0
    rw [mu' 0 (by omega), μ0] at e0
    simp only [Option.some.injEq] at e0
    let fm2 : Nat → Option Obj := fun b => match fmU μ H w R b with
      | some x => some x
      | none => ima.fm b
    have fm2w : ∀ b x, fm2 b = some x → w'.heap[b]? = some x := fun b x hx => by
      have hx : (match fmU μ H w R b with | some x => some x | none => ima.fm b) = some x := hx
      cases hy : fmU μ H w R b with
      | some y => rw [hy] at hx; cases hx; exact hreg0 b _ (by rw [← e0]; exact hy)
      | none => rw [hy] at hx; exact hrega b x hx
    have fm2a : ∀ b x, ima.fm b = some x → fm2 b = some x := fun b x hx => by
      show (match fmU μ H w R b with | some x => some x | none => ima.fm b) = some x
      cases hy : fmU μ H w R b with
      | some y =>
        have h1 := hrega b x hx
        have h2 := hreg0 b y (by rw [← e0]; exact hy)
        rw [h1] at h2; exact h2.symm
      | none => exact hx
    have fm20 : ∀ b x, fmU μ H w R b = some x → fm2 b = some x := fun b x hx => by
      show (match fmU μ H w R b with | some x => some x | none => ima.fm b) = some x
      rw [hx]
    let μ2 : Mu := fun i => if i = n then some ⟨0, 0, 0, false, fm2⟩ else if n < i ∧ i < n + 1 + news.length then μ' (a + 1 + (i - (n + 1))) else μ i
    have hfn : ∀ i, n ≤ i → i < n + 1 + news.length → μ i = none := fun i h1 h2 => hf i h1 h2
    have μ2n : μ2 n = some ⟨0, 0, 0, false, fm2⟩ := if_pos rfl
    have μ2w : ∀ {i : Nat}, n < i → i < n + 1 + news.length → μ2 i = μ' (a + 1 + (i - (n + 1))) := fun {i} h1 h2 => by
      show (if i = n then some (⟨0, 0, 0, false, fm2⟩ : Img) else if n < i ∧ i < n + 1 + news.length then μ' (a + 1 + (i - (n + 1))) else μ i) = _
      rw [if_neg (by omega), if_pos ⟨h1, h2⟩]
    have μ2o : ∀ {i : Nat}, ¬ (n ≤ i ∧ i < n + 1 + news.length) → μ2 i = μ i := fun {i} hi => by
      show (if i = n then some (⟨0, 0, 0, false, fm2⟩ : Img) else if n < i ∧ i < n + 1 + news.length then μ' (a + 1 + (i - (n + 1))) else μ i) = _
      rw [if_neg (by omega), if_neg (by omega)]
    have κno : ∀ {k : Nat}, k ∈ κ → ¬ (n ≤ k ∧ k < n + 1 + news.length) := fun {k} hk => by have := κlt k hk; omega
    have Rno : ∀ {k : Nat}, k ∈ R → ¬ (n ≤ k ∧ k < n + 1 + news.length) := fun {k} hk => by have := Rlt k hk; omega
    have μk : ∀ {j k : Nat}, κ[j]? = some k → μ2 k = μ' (j + 1) := fun {j k} hk => by
      have : j < κ.length := (List.getElem?_eq_some_iff.1 hk).1
      rw [μ2o (κno (List.mem_of_getElem? hk)), mu' (j + 1) (by omega), μs hk]
    have upVR : ∀ v v1 v', mvV (upR κ n) (upT (κ.length + 1) n) 4 v = some v1 → VR μ' v v' → VR μ2 v1 v' := fun v v1 v' hv => by
      refine mvV_VR (fun i k hk im him => ?_) (fun r r' hr im him => ?_) 4 hv
      · cases i with
        | zero => cases hk
        | succ i =>
          have hk : (bif Nat.blt i κ.length then κ[i]? else bif Nat.beq i κ.length then none else some (n + (i - κ.length))) = some k := hk
          cases h1 : Nat.blt i κ.length with
          | true =>
            rw [h1] at hk
            simp only [cond_true] at hk
            rw [μk hk]; exact him
          | false =>
            rw [h1] at hk
            simp only [cond_false] at hk
            cases h2 : Nat.beq i κ.length with
            | true => rw [h2] at hk; cases hk
            | false =>
              rw [h2] at hk
              simp only [cond_false, Option.some.injEq] at hk
              subst hk
              have h1' : ¬ i < κ.length := fun hh => by rw [show Nat.blt i κ.length = true from Nat.ble_eq_true_of_le hh] at h1; cases h1
              have h2' : i ≠ κ.length := fun hh => by rw [hh] at h2; simp at h2
              have hlt : i + 1 < a + 1 + news.length := by
                rcases Nat.lt_or_ge (i + 1) (a + 1 + news.length) with h | h
                · exact h
                · have hex := hpost.ext (i + 1) (by omega)
                  rw [hfree (i + 1) (by omega)] at hex
                  rw [hex] at him; cases him
              rw [μ2w (by omega) (by omega), show a + 1 + (n + (i - κ.length) - (n + 1)) = i + 1 by omega]
              exact him
      · unfold upT at hr
        cases hc : (Nat.beq r 0 || Nat.beq r (κ.length + 1)) with
        | false => rw [hc] at hr; cases hr
        | true =>
          rw [hc] at hr
          simp only [cond_true, Option.some.injEq] at hr
          subst hr
          refine ⟨_, μ2n, fun b x hx => ?_⟩
          simp only [Bool.or_eq_true] at hc
          rcases hc with hc | hc
          · have := Nat.eq_of_beq_eq_true hc
            subst this
            rw [him0] at him; cases him
            exact fm20 b x (by rw [← e0] at hx; exact hx)
          · have := Nat.eq_of_beq_eq_true hc
            rw [this, ← lb] at him
            have him : μ' a = some im := him
            rw [hima] at him; cases him
            exact fm2a b x hx
    have memκ : ∀ {k : Nat}, k ∈ κ → ∃ j, κ[j]? = some k := fun hk => List.getElem?_of_mem hk
    have outW : ∀ {i : Nat}, i ∈ List.range' 1 bs0.length → ∃ j k, i = j + 1 ∧ κ[j]? = some k := fun {i} hi => by
      rw [List.mem_range'_1] at hi
      have : i - 1 < κ.length := by omega
      exact ⟨i - 1, κ[i - 1], by omega, by simp [this]⟩
    -- where a block of the caller's stands in the contract
    let Pt : Nat → Nat → Prop := fun i j => (∃ q, κ[q]? = some i ∧ j = q + 1) ∨ (n < i ∧ i < n + 1 + news.length ∧ j = a + 1 + (i - (n + 1)))
    have pt_inj : ∀ {i1 i2 j : Nat}, Pt i1 j → Pt i2 j → i1 = i2 := fun {i1 i2 j} h1 h2 => by
      rcases h1 with ⟨q1, hq1, rfl⟩ | ⟨h1, h1', rfl⟩
      · have := (List.getElem?_eq_some_iff.1 hq1).1
        rcases h2 with ⟨q2, hq2, e⟩ | ⟨h2, h2', e⟩
        · obtain rfl : q1 = q2 := by omega
          rw [hq1] at hq2; cases hq2; rfl
        · omega
      · rcases h2 with ⟨q2, hq2, e⟩ | ⟨h2, h2', e⟩
        · have := (List.getElem?_eq_some_iff.1 hq2).1
          omega
        · omega
    have after : ∀ {i j : Nat}, Pt i j → ∃ o o2, Gc j = some o ∧ G2 i = some o2 ∧ j < a + 1 + news.length ∧ μ2 i = μ' j ∧ (live o ∧ ¬ isReg o) ∧ (live o2 ∧ ¬ isReg o2) ∧ ∀ im, OR μ' w' im o → OR μ2 w' im o2 ∧ im.rw = true := fun {i j} hp => by
      rcases hp with ⟨q, hq, rfl⟩ | ⟨h1, h2, rfl⟩
      · have hql := (List.getElem?_eq_some_iff.1 hq).1
        have hj : q < outs.length := by omega
        obtain ⟨o2, ho2⟩ := newAt hq
        obtain ⟨p, o', M, g1, g2, g3⟩ := go q o2 ho2
        rw [List.getElem?_map, show outs[q]? = some outs[q] by simp [hj]] at g1
        simp only [Option.map_some, Option.some.injEq] at g1
        obtain ⟨m1, m2⟩ := mvO_live g2
        refine ⟨o', o2, ?_, by rw [gk hq, ho2], by omega, μk hq, m1, m2, fun im hor => mvO_OR upVR g2 g3 hor⟩
        rw [Gc_get, heapL_get, if_pos (by omega)]
        simp [hj, g1]
      · have hi : i - (n + 1) < news.length := by omega
        have hi' : i - (n + 1) < ns.length := by omega
        obtain ⟨p, o', M, g1, g2, g3⟩ := gnw (i - (n + 1)) ns[i - (n + 1)] (by simp [hi'])
        rw [List.getElem?_map, show news[i - (n + 1)]? = some news[i - (n + 1)] by simp [hi]] at g1
        simp only [Option.map_some, Option.some.injEq] at g1
        obtain ⟨m1, m2⟩ := mvO_live g2
        refine ⟨o', ns[i - (n + 1)], ?_, by rw [gw h1 h2]; simp [hi'], by omega, μ2w h1 h2, m1, m2, fun im hor => mvO_OR upVR g2 g3 hor⟩
        rw [Gc_get, heapL_get, if_pos (by omega), List.getElem?_eq_none (by omega)]
        simp only
        rw [if_neg (by omega), heapL_get, if_pos (by omega), show a + 1 + (i - (n + 1)) - (a + 1) = i - (n + 1) by omega]
        simp [hi, g1]
    have regNot : ∀ {i : Nat} {o : Obj}, i ∈ κ → hget H i = some o → live o ∧ ¬ isReg o := fun {i o} hi ho => by
      obtain ⟨j, hj⟩ := memκ hi
      obtain ⟨o1, hg, h1, _⟩ := was hj
      rw [ho] at hg; cases hg
      exact h1
    have Rκ : ∀ {i : Nat}, i ∈ R → i ∉ κ := fun {i} hi hk => by
      obtain ⟨o, ho, hr⟩ := isRegB_spec (Rreg i hi)
      exact (regNot hk ho).2 hr
    -- what is live, and what is a region, behind the call
    have isPt : ∀ {i : Nat} {o : Obj}, ((i ∈ κ ∨ i ∈ R) ∨ (n ≤ i ∧ i < n + 1 + news.length)) → G2 i = some o → live o → ∃ j, Pt i j := fun {i o} hi ho hl => by
      rcases hi with (hi | hi) | hi
      · obtain ⟨q, hq⟩ := memκ hi
        exact ⟨q + 1, .inl ⟨q, hq, rfl⟩⟩
      · rw [gr (Rκ hi) (Rno hi)] at ho
        obtain ⟨o', ho', hr⟩ := isRegB_spec (Rreg i hi)
        rw [ho] at ho'; cases ho'
        exact absurd hl (by cases o <;> first | exact id | exact hr.elim)
      · by_cases e : i = n
        · subst e; rw [gn] at ho; cases ho; exact hl.elim
        · exact ⟨_, .inr ⟨by omega, hi.2, rfl⟩⟩
    have isR : ∀ {i : Nat} {o : Obj}, ((i ∈ κ ∨ i ∈ R) ∨ (n ≤ i ∧ i < n + 1 + news.length)) → G2 i = some o → isReg o → (i ∈ R ∧ hget H i = some o) ∨ (i = n ∧ o = regO) := fun {i o} hi ho hr => by
      rcases hi with (hi | hi) | hi
      · obtain ⟨q, hq⟩ := memκ hi
        obtain ⟨_, o2, _, h2, _, _, _, h5, _⟩ := after (.inl ⟨q, hq, rfl⟩)
        rw [h2] at ho; cases ho
        exact absurd hr h5.2
      · exact .inl ⟨hi, by rw [← gr (Rκ hi) (Rno hi)]; exact ho⟩
      · by_cases e : i = n
        · subst e; rw [gn] at ho; cases ho; exact .inr ⟨rfl, rfl⟩
        · obtain ⟨_, o2, _, h2, _, _, _, h5, _⟩ := after (i := i) (.inr ⟨by omega, hi.2, rfl⟩)
          rw [h2] at ho; cases ho
          exact absurd hr h5.2
    have frm : ∀ b, b < w.heap.size → (∀ k ∈ κ, ∀ im, μ k = some im → im.blk ≠ b) → w'.heap[b]? = w.heap[b]? := fun b hb hx => hpost.frame b hb fun i hi hia im him => by
      obtain ⟨j, k, rfl, hk⟩ := outW hi
      rw [μs hk] at him
      exact hx k (List.mem_of_getElem? hk) im him
    have newSz : ∀ {i j : Nat} {o : Obj} {im : Img}, n < i → i < n + 1 + news.length → j = a + 1 + (i - (n + 1)) → Gc j = some o → live o → μ' j = some im → im.rw = true ∧ w.heap.size ≤ im.blk := fun {i j o im} h1 h2 hj ho hl him => by
      obtain ⟨p, q⟩ := hpost.fresh j im o (by omega) (by omega) ho hl him
      refine ⟨p, q.elim id ?_⟩
      rintro ⟨k, hk, hka, him', hd⟩
      obtain ⟨q', k', rfl, hk'⟩ := outW hk
      obtain ⟨o', _, h3, _, _, _, h4, _⟩ := after (.inl ⟨q', hk', rfl⟩)
      exact absurd h4.1 (hd o' h3)
    have hPG : PG B.B (fun i => i ∈ κ ∨ i ∈ R) (fun i => n ≤ i ∧ i < n + 1 + news.length) (fun i => i ∈ κ) μ μ2 (hget H) G2 w w' := by
      refine ⟨⟨fun i o hi ho hl => ?_, fun i o im hi ho hl him => ?_, fun i j oi oj x y hi hj hij hoi hoj hli hlj hx hy hrx hry => ?_, fun i o hi ho hr => ?_, fun i j oi oj x y z hi hj hoi hoj hri hlj hx hy hry hz => ?_⟩, fun i hi => μ2o hi, fun i hi hw => gr hw hi, hpost.grow, fun b hb hx => frm b hb hx, fun i hi => ?_, fun i im o hi ho hl him => ?_, fun i im o hi ho hr him b x hx => ?_, hpost.os, hpost.tape, hpost.output⟩
      · obtain ⟨j, hp⟩ := isPt hi ho hl
        obtain ⟨o', o2, h1, h2, h3, h4, h5, h6, h7⟩ := after hp
        rw [h2] at ho; cases ho
        obtain ⟨im, him, hor⟩ := okG.rel j o' ((aS j).2 h3) h1 h5.1
        exact ⟨im, by rw [h4]; exact him, (h7 im hor).1⟩
      · obtain ⟨j, hp⟩ := isPt hi ho hl
        obtain ⟨o', o2, h1, h2, h3, h4, h5, h6, h7⟩ := after hp
        rw [h4] at him
        exact okG.low j o' im ((aS j).2 h3) h1 h5.1 him
      · obtain ⟨j1, hp1⟩ := isPt hi hoi hli
        obtain ⟨j2, hp2⟩ := isPt hj hoj hlj
        obtain ⟨o1, _, g1, _, l1, m1, n1, _⟩ := after hp1
        obtain ⟨o2, _, g2, _, l2, m2, n2, _⟩ := after hp2
        rw [m1] at hx
        rw [m2] at hy
        refine okG.inj j1 j2 o1 o2 x y ((aS j1).2 l1) ((aS j2).2 l2) (fun e => ?_) g1 g2 n1.1 n2.1 hx hy hrx hry
        subst e
        exact hij (pt_inj hp1 hp2)
      · rcases isR hi ho hr with ⟨hi, hg⟩ | ⟨rfl, rfl⟩
        · obtain ⟨im, him, hx⟩ := hok.reg i o (RS i hi) hg hr
          refine ⟨im, by rw [μ2o (Rno hi)]; exact him, fun b x hb => ?_⟩
          have hw := hx b x hb
          rw [frm b (Array.getElem?_eq_some_iff.1 hw).1 fun k hk im' him' hbb => ?_]
          · exact hw
          · obtain ⟨j, hj⟩ := memκ hk
            obtain ⟨o1, hg1, h1, h3⟩ := was hj
            exact hok.sep i k o o1 im im' x (RS i hi) (κS k hk) hg hg1 hr h1.1 him him' (h3 im' him') (by rw [hbb]; exact hb)
        · exact ⟨_, μ2n, fm2w⟩
      · obtain ⟨q, hp⟩ := isPt hj hoj hlj
        obtain ⟨o', o2, h1, h2, h3, h4, h5, h6, h7⟩ := after hp
        rcases isR hi hoi hri with ⟨hi, hg⟩ | ⟨rfl, rfl⟩
        · rw [μ2o (Rno hi)] at hx
          rcases hp with ⟨q', hq', rfl⟩ | ⟨g1, g2, rfl⟩
          · obtain ⟨o1, hg1, h1', _⟩ := was hq'
            rw [μ2o (κno (List.mem_of_getElem? hq'))] at hy
            exact hok.sep i j oi o1 x y z (RS i hi) (κS j (List.mem_of_getElem? hq')) hg hg1 hri h1'.1 hx hy hry hz
          · rw [h4] at hy
            have hsz := (newSz g1 g2 rfl h1 h5.1 hy).2
            have := reg_lt hok (RS i hi) hg hri hx hz
            omega
        · rw [μ2n] at hx; cases hx
          rw [h4] at hy
          have hz : (match fmU μ H w R y.blk with | some x => some x | none => ima.fm y.blk) = some z := hz
          cases hu : fmU μ H w R y.blk with
          | some u => exact okG.sep 0 q regO o' im0 y u ((aS 0).2 (by omega)) ((aS q).2 h3) hg0 h1 trivial h5.1 him0 hy hry (by rw [← e0]; exact hu)
          | none =>
            rw [hu] at hz
            exact okG.sep a q regO o' ima y z ((aS a).2 (by omega)) ((aS q).2 h3) hga h1 trivial h5.1 hima hy hry hz
      · obtain ⟨j, hj⟩ := memκ hi
        obtain ⟨o1, hg1, h1, h3⟩ := was hj
        obtain ⟨im2, him2, hor⟩ := hok.rel i o1 (κS i hi) hg1 h1.1
        exact ⟨.inl hi, ⟨o1, hg1, h1.1⟩, im2, him2, h3 im2 him2⟩
      · obtain ⟨j, hp⟩ := isPt (.inr hi) ho hl
        obtain ⟨o', o2, h1, h2, h3, h4, h5, h6, h7⟩ := after hp
        rw [h4] at him
        rcases hp with ⟨q', hq', rfl⟩ | ⟨g1, g2, rfl⟩
        · have := κlt i (List.mem_of_getElem? hq'); omega
        · have := newSz g1 g2 rfl h1 h5.1 him
          exact ⟨this.1, .inl this.2⟩
      · rcases isR (hi.elim .inr fun hi => .inl (.inl hi)) ho hr with ⟨hiR, _⟩ | ⟨rfl, rfl⟩
        · exact absurd (hi.elim (fun h => absurd h (Rno hiR)) (fun h => absurd h (Rκ hiR))) id
        rw [μ2n] at him; cases him
        have old : ∀ y, fmU μ H w R b = some y → ∃ k kim ko, (k ∈ κ ∨ k ∈ R) ∧ hget H k = some ko ∧ isReg ko ∧ μ k = some kim ∧ kim.fm b = some y := fun y hy => by
          have hw := fmU_world hy
          unfold fmU at hy
          split at hy
          · rename_i hc
            obtain ⟨i, hi, o, im', hg, him', hcase⟩ := hc
            obtain ⟨o', ho', hr'⟩ := isRegB_spec (Rreg i hi)
            rw [hg] at ho'; cases ho'
            rcases hcase with ⟨_, hne⟩ | ⟨hl', _⟩
            · cases hz : im'.fm b with
              | none => exact absurd hz hne
              | some z =>
                obtain ⟨im3, him3, hf3⟩ := hok.reg i o (RS i hi) hg hr'
                rw [him'] at him3; cases him3
                have := hf3 b z hz
                rw [hw] at this; cases this
                exact ⟨i, im', o, .inr hi, hg, hr', him', hz⟩
            · exact absurd hl' (by cases o <;> first | exact id | exact hr'.elim)
          · cases hy
        have hx : (match fmU μ H w R b with | some x => some x | none => ima.fm b) = some x := hx
        cases hu : fmU μ H w R b with
        | some u =>
          rw [hu] at hx; cases hx
          exact .inr (.inl (old _ hu))
        | none =>
          rw [hu] at hx
          rcases hpost.rf a ima regO (.inl ⟨Nat.le_refl _, by omega⟩) hga trivial hima b x hx with q | ⟨k, kim, ko, k1, _, k3, k4, k5, k6⟩ | ⟨k, hk, hka, him', hd⟩
          · exact .inl q
          · rcases blk k ko k1 k3 with ⟨rfl, rfl⟩ | ⟨_, _, _, _, _, _, _, k7, _⟩
            · rw [μ0] at k5; cases k5
              have : fmU μ H w R b = some x := k6
              rw [hu] at this; cases this
            · exact absurd k4 k7.2
          · obtain ⟨j, k', rfl, hk'⟩ := outW hk
            obtain ⟨o', _, h3, _, _, _, h4, _⟩ := after (.inl ⟨j, hk', rfl⟩)
            exact absurd h4.1 (hd o' h3)
    have hthen := PG.then (G2 := G2) (PG.refl hok) hPG (fun i hi => .inl (hi.elim (κS i) (RS i))) (fun i _ => rfl) (fun i hi => ⟨fun hs => by have := hS i hs; omega, id⟩) (fun i hi => hfn i hi.1 hi.2) (fun i _ => rfl) fun i hw hn => gr hw hn
    have eW : (fun i => False ∨ (i ∈ κ ∧ ¬ False)) = fun i => i ∈ κ ∧ i < n := funext fun i => propext ⟨fun hi => hi.elim False.elim fun hi => ⟨hi.1, κlt i hi.1⟩, fun hi => .inr ⟨hi.1, id⟩⟩
    have hthen : PG B.B S (fun i => False ∨ (n ≤ i ∧ i < n + 1 + news.length)) (fun i => False ∨ (i ∈ κ ∧ ¬ False)) μ μ2 (hget H) G2 w w' := hthen
    rw [eW] at hthen
    refine ⟨out', w', μ2, hthen.post (fun i => ⟨fun hi => hi.elim False.elim id, .inr⟩) (by omega) hS, ?_, he⟩
    cases hout with
    | ret hvr =>
      unfold mvOut at e3
      split at e3
      · rename_i v0 q0
        cases q0
        split at e3
        · rename_i u hu1
          simp only [Option.some.injEq] at e3
          subst e3
          exact .ret (upVR _ _ _ hu1 hvr)
        · cases e3
      · rename_i v0 q0; cases q0
    | pan hvr =>
      unfold mvOut at e3
      split at e3
      · rename_i v0 q0; cases q0
      · rename_i v0 q0
        cases q0
        split at e3
        · rename_i u hu1
          simp only [Option.some.injEq] at e3
          subst e3
          exact .pan (upVR _ _ _ hu1 hvr)
        · cases e3
  · cases e
end
end Go.CE

namespace Go.CE
open Go Go.RowKit

inductive HintT where
  | old (h : Hint)
  | tidx (k : Nat) (es : Array Value)
  | tarr (k : Nat) (es : Array Value)
  | tslc (k m' : Nat) (cs' : Array Value)
  | tapp (cs' : Array Value)
  | tapp0
  | tcpy (cs' : Array Value)
  | pure (out : Value) (fz : List Fz)
  | pureK (out : Value) (fz : List Fz)
  | bin (v : Value)
  | call (keys : List Nat) (out : OO) (ups : Heap) (n' : Nat) (W : List Nat)
  | eval (s : Rs)
  | wri (κ R : List Nat) (ps qs : List Bool) (out : OO) (outs news : List Obj)
  | tnil
  | wriC (κ R : List Nat) (ps qs : List Bool) (out : OO) (outs news : List Obj) (o2 : OO)
def killL (H : Heap) : List Nat → Heap
  | [] => H
  | k :: K => killo (killL H K) (some k)
def ownCB : Option Obj → Bool
  | some (.cells _ _ (0, 0)) => true
  | _ => false
def treeOp (P : Program) (T : Tm) (o : Oper) : Option (Value × Nat) := match o.op with
  | .call c => match c.callee with
    | .builtin .len => match c.args.toList, c.argTypes.toList with
      | [x], [t] => match evC T x with
        | some v => match topSl v, und P t with
          | some (r, k, _), some (.slice _) => some (.int .i64 k, r)
          | _, _ => none
        | none => none
      | _, _ => none
    | _ => none
  | .fieldAddr s x f => match evC T x with
    | some v => match topPt v with
      | some (r, off, cs) => match cFieldAddr P s f (.pointer (some ⟨0, off, none⟩)) with
        | some (.pointer (some ⟨0, off', none⟩)) => some (topV r (ptT off' cs), r)
        | _ => none
      | none => none
    | none => none
  | .load t x => match evC T x with
    | some v => match topPt v with
      | some (r, off, cs) => match cPart P t cs off with
        | some v => bif okT 4 v then some (pushT r 4 v, r) else none
        | none => none
      | none => none
    | none => none
  | _ => none
def isBareNil : Value → Bool
  | .slice none 0 0 | .chan (some 0) => true
  | _ => false
def treeApp (P : Program) (T : Tm) (o : Oper) : Option (Value × Nat × Nat × Array Value × TypeId × Nat × Nat × Value) := match o.op with
  | .call c => match c.callee with
    | .builtin .append => match c.args.toList, c.argTypes.toList with
      | [s, x], [t, t'] => match evC T s, evC T x with
        | some sv, some xv => match topSl xv, und P t with
          | some (r, k, cs), some (.slice e) => match inf P e with
            | some i => match i.zero, i.size with
              | some zv, z + 1 => bif Nat.beq t t' && isBareNil sv && Nat.beq zv.cells.size (z + 1) then some (sv, r, k, cs, e, z + 1, i.bytes, zv) else none
              | _, _ => none
            | none => none
          | _, _ => none
        | _, _ => none
      | _, _ => none
    | _ => none
  | _ => none
def treeCpy (P : Program) (T : Tm) (o : Oper) : Option (Nat × Nat × Nat × Nat × Nat × Array Value × Nat) := match o.op with
  | .call c => match c.callee with
    | .builtin .copy => match c.args.toList, c.argTypes.toList with
      | [s, x], [t, _] => match evC T s, evC T x with
        | some (.slice (some ⟨b, off, none⟩) k _), some xv => match topSl xv, und P t with
          | some (r, m, cs2), some (.slice e) => match szOf P e with
            | some z => some (b, off, k, r, m, cs2, z)
            | none => none
          | _, _ => none
        | _, _ => none
      | _, _ => none
    | _ => none
  | _ => none
def BinTo (P : Program) (op : BinOp) (t : TypeId) (a b v : Value) : Prop := ∀ (x y : Operand) (w : World), (do eqGuard op t x y a b; binOp op t a b : Sem Value).run P w = .ok v w
def opT (P : Program) (F : FuncId → Bool) (J : World → Prop) (B : Lo) (T : Tm) (o : Oper) (H : Heap) (n : Nat) : Option HintT → Option Told
  | none => match treeOp P T o with
    | some (v, r) => bif Nat.blt r n && isRegB (hget H r) then some ⟨⟨.ret v, H, n, [r], []⟩, none⟩ else none
    | none => opH P F B T o H n none
  | some (.old h) => opH P F B T o H n (some h)
  | some (.tidx k es) => match o.op with
    | .indexAddr t x i => match evC T x, evC T i with
      | some v, some (.int _ q) => match topSl v, und P t with
        | some (r, m, cs), some (.slice e) => match szOf P e with
          | some z => bif Nat.blt r n && isRegB (hget H r) then some ⟨⟨.ret (topV r (ptT 0 es)), H, n, [r], []⟩, some (q = (k : Int) ∧ k < m ∧ cs.extract (k * z) (k * z + z) = es)⟩ else none
          | none => none
        | _, _ => none
      | _, _ => none
    | _ => none
  | some (.tarr k es) => match o.op with
    | .indexAddr t x i => match evC T x, evC T i with
      | some v, some (.int _ q) => match topPt v, und P t with
        | some (r, off, cs), some (.array m e) => match szOf P e with
          | some z => bif Nat.blt r n && isRegB (hget H r) then some ⟨⟨.ret (topV r (ptT 0 es)), H, n, [r], []⟩, some (q = (k : Int) ∧ k < m ∧ cs.extract (off + k * z) (off + k * z + z) = es)⟩ else none
          | none => none
        | _, _ => none
      | _, _ => none
    | _ => none
  | some (.tslc k m' cs') => match o.op with
    | .slice t x (some lo) none none => match evC T x, evC T lo with
      | some v, some (.int _ q) => match topSl v, und P t with
        | some (r, m, cs), some (.slice e) => match szOf P e with
          | some z => bif Nat.blt r n && isRegB (hget H r) then some ⟨⟨.ret (topV r (slT m' cs')), H, n, [r], []⟩, some (q = (k : Int) ∧ k < m ∧ m' = m - k ∧ cs.extract (k * z) cs.size = cs')⟩ else none
          | none => none
        | _, _ => none
      | _, _ => none
    | _ => none
  | some (.tapp cs') => match treeApp P T o with
    | some (_, r, k, cs, e, z, by', _) => bif Nat.blt r n && isRegB (hget H r) then
        some ⟨⟨.ret (.slice (some ⟨n, 0, none⟩) k z), (n, .cells cs' e (0, 0)) :: H, n + 1, [r], []⟩, some (0 < k ∧ k ≤ maxLen ∧ k * by' ≤ 140737488355328 ∧ cs.size = k * z ∧ cs.map (pushS r) = cs' ∧ (cs.all fun v => simple v || isTop v) = true ∧ ones cs' = true)⟩ else none
    | none => none
  | some .tapp0 => match treeApp P T o with
    | some (sv, r, k, _, _, _, _, _) => bif Nat.blt r n && isRegB (hget H r) then some ⟨⟨.ret sv, H, n, [r], []⟩, some (k = 0)⟩ else none
    | none => none
  | some (.tcpy cs') => match treeCpy P T o with
    | some (b, off, k, r, m, cs2, z) => match hget H b with
      | some (.cells cs te (0, 0)) => bif Nat.blt r n && isRegB (hget H r) && Nat.blt b n then
          some ⟨⟨.ret (.int .i64 (Nat.min m k)), hset H b (.cells cs' te (0, 0)), n, [b, r], [b]⟩, some (0 < m ∧ off + Nat.min m k * z ≤ cs.size ∧ Nat.min m k * z ≤ cs2.size ∧ (cs2.all fun v => simple v || isTop v) = true ∧ ones ((cs2.extract 0 (Nat.min m k * z)).map (pushS r)) = true ∧ splice cs off ((cs2.extract 0 (Nat.min m k * z)).map (pushS r)) = cs')⟩ else none
      | _ => none
    | none => none
  | some (.eval s) => some ⟨s, some (opS P F noOrc (fun _ _ _ => none) T o H n = some s)⟩
  | some (.bin v) => match o.op with
    | .binOp op t x y _ => match evC T x, evC T y with
      | some a, some b => bif af a && af b && af v then some ⟨⟨.ret v, H, n, [], []⟩, some (BinTo P op t a b v)⟩ else none
      | _, _ => none
    | _ => none
  | some (.call keys out ups n' W) => match o.op with
    | .call _ => match copR P F (evC T) o H n with
      | some ⟨.enter g args, H1, n1, R, W1⟩ => bif Nat.beq n1 n && W1.isEmpty then
          match enterC P g args with
          | some c1 => some ⟨⟨out, ups ++ H1, n', R ++ keys, W⟩, some (FJ P B c1 H1 n out (ups ++ H1) n' keys W)⟩
          | none => none
        else none
      | some ⟨.round l fn tm a b, H1, n1, R, W1⟩ => bif Nat.beq n1 n && W1.isEmpty && Nat.ble tm.size 16000 then some ⟨⟨out, ups ++ H1, n', R ++ keys, W⟩, some (FJ P B ⟨fn, ofList tm.size tm.toList, [.code a, .beginRound, .code b], [], .run, some l⟩ H1 n out (ups ++ H1) n' keys W)⟩ else none
      | _ => none
    | _ => none
  | some (.pure out fz) => match o.op with
    | .call _ => match copR P F (evC T) o H n with
      | some ⟨.enter g args, H1, n1, R, W1⟩ => bif Nat.beq n1 n && W1.isEmpty then
          match stripL (stripV H1 fz 3) args.toList with
          | some (ts, R2, L) => bif R2.all fun i => Nat.blt i n then
              bif plainT 2 out then some ⟨⟨.ret out, H1, n, R ++ R2, []⟩, some (AllP L ∧ PureC P J g ts.toArray out)⟩
              else bif (R2.all fun i => isRegB (hget H1 i)) && okT 4 out then some ⟨⟨.ret (pushT n 4 out), (n, regO) :: H1, n + 1, R ++ R2, []⟩, some (AllP L ∧ PureC P J g ts.toArray out)⟩ else none
            else none
          | none => none
        else none
      | _ => none
    | _ => none
  | some (.pureK out fz) => match o.op with
    | .call _ => match copR P F (evC T) o H n with
      | some ⟨.enter g args, H1, n1, R, W1⟩ => bif Nat.beq n1 n && W1.isEmpty then
          match stripL (stripV H1 fz 3) args.toList with
          | some (ts, R2, L) => bif (R2.all fun i => Nat.blt i n) && (R2.all fun i => isRegB (hget H1 i) || ownCB (hget H1 i)) && okT 4 out then
              some ⟨⟨.ret (pushT n 4 out), (n, regO) :: killL H1 (R2.filter fun i => ownCB (hget H1 i)), n + 1, R ++ R2, R2.filter fun i => ownCB (hget H1 i)⟩, some (AllP L ∧ PureC P J g ts.toArray out)⟩ else none
          | none => none
        else none
      | _ => none
    | _ => none
  | some (.wri κ R ps qs out outs news) => match o.op with
    | .call _ => match copR P F (evC T) o H n with
      | some ⟨.enter g args, H1, n1, R0, W1⟩ => bif Nat.beq n1 n && W1.isEmpty then
          match wriK H1 n κ R ps qs args out outs news with
          | some (asx, bs, o1, ups, L) => some ⟨⟨o1, ups ++ H1, n + 1 + news.length, R0 ++ (κ ++ R), κ⟩, some (AllP L ∧ WriC P J g asx.toArray bs out outs news)⟩
          | none => none
        else none
      | _ => none
    | _ => none
  | some .tnil => match o.op with
    | .binOp op t x y _ => match evC T x, evC T y with
      | some v, some (.slice none 0 0) => match topSl v, und P t with
        | some (r, m, _), some (.slice _) => bif Nat.blt r n && isRegB (hget H r) then match op with
            | .eql => some ⟨⟨.ret (.bool false), H, n, [r], []⟩, some (0 < m)⟩
            | .neq => some ⟨⟨.ret (.bool true), H, n, [r], []⟩, some (0 < m)⟩
            | _ => none
          else none
        | _, _ => none
      | _, _ => none
    | _ => none
  | some (.wriC κ R ps qs out outs news o2) => match o.op with
    | .call _ => match copR P F (evC T) o H n with
      | some ⟨.enter g args, H1, n1, R0, W1⟩ => bif Nat.beq n1 n && W1.isEmpty then
          match wriK H1 n κ R ps qs args out outs news with
          | some (asx, bs, o1, ups, L) => some ⟨⟨o2, ups ++ H1, n + 1 + news.length, R0 ++ (κ ++ R), κ⟩, some ((AllP L ∧ WriC P J g asx.toArray bs out outs news) ∧ o1 = o2)⟩
          | none => none
        else none
      | _ => none
    | _ => none
section
variable {P : Program} {F : FuncId → Bool} {J : World → Prop} {B : Lo} {T : Tm} {o : Oper} {H : Heap} {n : Nat}
theorem callJ_does (hF : ∀ g, F g = true → okFn P g = true) {c : Call} (hop : o.op = .call c) (hu : Under H n) {g : FuncId} {args : Array Value} {H1 H2 : Heap} {R keys W : List Nat} {n' : Nat} {out : OO} (hcr : copR P F (evC T) o H n = some ⟨.enter g args, H1, n, R, []⟩) (hcj : CallJ P B g args H1 n out H2 n' keys W) :
    Does P B o (evC T) H n out H2 n' (R ++ keys) W ∧ Shape H n H2 n' (R ++ keys) W := by
  have horc : OrcS P B (fun g' a' H' m' => open Classical in if g' = g ∧ a' = args ∧ H' = H1 ∧ m' = n then some ⟨out, H2, n', keys, W⟩ else none) := by
    intro g' a' H' m' s _ h
    simp only at h
    split at h
    · rename_i q
      obtain ⟨rfl, rfl, rfl, rfl⟩ := q
      simp only [Option.some.injEq] at h
      subst h
      exact hcj
    · cases h
  have := opS_sound hF recS_none horc hu (T := T) (o := o) (s := ⟨out, H2, n', R ++ keys, W⟩) (by simp [opS, hop, hcr])
  exact this
theorem FJ.callJ {g : FuncId} {args : Array Value} {c0 : CF} {H' : Heap} {n' : Nat} {R W : List Nat} {out : OO} (hc : enterC P g args = some c0) (h : FJ P B c0 H n out H' n' R W) : CallJ P B g args H n out H' n' R W :=
  ⟨h.shape, fun S μ w args' cs hok hB hS hf ha hR => h.sem S μ w (Frame.enter P g args' .normal) cs hok hB hS hf (enterC_FrR hc ha) hR⟩
theorem FJ.recS {c : CF} {H1 : Heap} {n n' : Nat} {out : OO} {ups : Heap} {W keys : List Nat} (h : FJ P B c H1 n out (ups ++ H1) n' keys W) : RecS P B (recOne c H1 n ⟨out, ups ++ H1, n', keys, W⟩) := by
  intro c' H' m' s _ hs
  unfold recOne at hs
  split at hs
  · rename_i q
    obtain ⟨rfl, rfl, rfl⟩ := q
    simp only [Option.some.injEq] at hs
    subst hs
    exact h
  · cases hs
theorem pure_calls (hJ : ∀ w, B.has w → J w) {g : FuncId} {args : Array Value} {fz : List Fz} {H1 : Heap} {ts : List Value} {R2 : List Nat} {L : List Prop} {out : Value} (hst : stripL (stripV H1 fz 3) args.toList = some (ts, R2, L)) (hL : AllP L) (hp : PureC P J g ts.toArray out)
    {S : Nat → Prop} {μ : Mu} {w : World} {args' : Array Value} (hok : Ok B.B S μ (hget H1) w) (hB : B.has w) (hv : VRs μ args args') (hS : ∀ r ∈ R2, S r) : Calls P g args' w fun e w' => ∃ v', e = .returned v' ∧ Below w.heap.size w w' ∧ TRv (fmOr (fmU μ H1 w R2) w w') out v' := by
  obtain ⟨a, b⟩ := stripL_sound (fun v v' t R L h1 h2 h3 h4 => stripV_sound hok 3 v v' t R L h1 h2 h3 h4) args.toList ts R2 L args'.toList hst hL hS (by simpa using hv.1) fun i v v' x y => hv.2 i v v' (by simpa using x) (by simpa using y)
  exact hp (fmU μ H1 w R2) w args' (hJ w hB) (fun b x h => fmU_world h) ⟨by simpa using a, fun i v v' x y => b i v v' (by simpa using x) (by simpa using y)⟩
theorem pure_plain (hJ : ∀ w, B.has w → J w) {g : FuncId} {args : Array Value} {fz : List Fz} {H1 : Heap} {ts : List Value} {R2 : List Nat} {L : List Prop} {out : Value} (hst : stripL (stripV H1 fz 3) args.toList = some (ts, R2, L)) (hL : AllP L) (hp : PureC P J g ts.toArray out) (hpl : plainT 2 out = true) (hlt : (R2.all fun i => Nat.blt i n) = true) :
    CallJ P B g args H1 n (.ret out) H1 n R2 [] := by
  refine ⟨Shape.same _ _ _, fun S μ w args' cs hok hB hS _ ha hR => ?_⟩
  obtain ⟨e, w1, fr, ⟨v', rfl, hb, ht⟩, hc, hf, hl⟩ := pure_calls hJ hst hL hp hok hB ha (fun r hr => hR r hr (Nat.le_of_ble_eq_true (List.all_eq_true.1 hlt r hr))) cs
  refine ⟨.ret v', w1, μ, Post.ofBelow hok hb, .ret (plainT_VR 2 out v' hpl ht), fun _ => ⟨fr, hc, by rw [hf]; rfl, hl⟩, fun c cs' e => ?_⟩
  subst e
  exact Steps.trans hc (.one (step_leave_returned hl))
theorem pure_region (hJ : ∀ w, B.has w → J w) {g : FuncId} {args : Array Value} {fz : List Fz} {H1 : Heap} {ts : List Value} {R2 : List Nat} {L : List Prop} {out : Value} (hst : stripL (stripV H1 fz 3) args.toList = some (ts, R2, L)) (hL : AllP L) (hp : PureC P J g ts.toArray out) (hlt : (R2.all fun i => Nat.blt i n) = true)
    (hreg : (R2.all fun i => isRegB (hget H1 i)) = true) (ho : okT 4 out = true) : CallJ P B g args H1 n (.ret (pushT n 4 out)) ((n, regO) :: H1) (n + 1) R2 [] := by
  refine ⟨Shape.new _ _ _ _, fun S μ w args' cs hok hB hS hf ha hR => ?_⟩
  have hSR : ∀ r ∈ R2, S r := fun r hr => hR r hr (Nat.le_of_ble_eq_true (List.all_eq_true.1 hlt r hr))
  obtain ⟨e, w1, fr, ⟨v', rfl, hb, ht⟩, hc, hfn, hl⟩ := pure_calls hJ hst hL hp hok hB ha hSR cs
  have hfm : ∀ b x, fmOr (fmU μ H1 w R2) w w1 b = some x → w1.heap[b]? = some x := by
    intro b x h
    unfold fmOr at h
    split at h
    · rename_i hlt
      rw [hb.block b hlt]; exact fmU_world h
    · exact h
  have hpost := Post.region (n := n) hok hS (hf n (Nat.le_refl _) (by omega)) hb (fmOr (fmU μ H1 w R2) w w1) hfm fun b x h => by
    unfold fmOr at h
    split at h
    · refine .inr ?_
      have hw := fmU_world h
      unfold fmU at h
      split at h
      · rename_i hc
        obtain ⟨i, hi, o, im, ho, him, hcase⟩ := hc
        obtain ⟨o', ho', hr'⟩ := isRegB_spec (List.all_eq_true.1 hreg i hi)
        rw [ho] at ho'; cases ho'
        rcases hcase with ⟨_, hne⟩ | ⟨hl, _⟩
        · cases hx : im.fm b with
          | none => exact absurd hx hne
          | some y =>
            obtain ⟨im', him', hf'⟩ := hok.reg i o (hSR i hi) ho hr'
            rw [him] at him'; cases him'
            have := hf' b y hx
            rw [hw] at this; cases this
            exact ⟨i, im, o, hSR i hi, ho, hr', him, hx⟩
        · exact absurd hl (by cases o <;> first | exact id | exact hr'.elim)
      · cases h
    · rename_i hge
      exact .inl (Nat.le_of_not_lt hge)
  refine ⟨.ret v', w1, _, hpost, .ret (pushT_VR upd_self 4 out v' ho ht), fun _ => ⟨fr, hc, by rw [hfn]; rfl, hl⟩, fun c cs' e => ?_⟩
  subst e
  exact Steps.trans hc (.one (step_leave_returned hl))
theorem hget_killL (H : Heap) (K : List Nat) (i : Nat) : hget (killL H K) i = if i ∈ K ∧ (hget H i).isSome then some (.pending #[] 0) else hget H i := by
  induction K with
  | nil => simp [killL]
  | cons k K ih =>
    simp only [killL]
    rw [hget_killo, ih]
    by_cases e : i = k
    · subst e
      cases hs : hget H i with
      | none => simp
      | some o => by_cases hm : i ∈ K <;> simp [hm]
    · simp [e]
theorem Post.regionK {B n : Nat} {S : Nat → Prop} {μ : Mu} {H : Heap} {w w' : World} (K : List Nat) (hok : Ok B S μ (hget H) w) (hS : ∀ i, S i → i < n) (hf : μ n = none) (hbel : Below w.heap.size w w') (hK : ∀ k ∈ K, S k ∧ (∃ o, hget H k = some o ∧ live o) ∧ ∃ im, μ k = some im ∧ im.rw = true)
    (fm : Nat → Option Obj) (hfm : ∀ b x, fm b = some x → w'.heap[b]? = some x)
    (hfr : ∀ b x, fm b = some x → w.heap.size ≤ b ∨ (∃ k kim ko, S k ∧ hget H k = some ko ∧ isReg ko ∧ μ k = some kim ∧ kim.fm b = some x) ∨ ∃ k ∈ K, ∃ im, μ k = some im ∧ im.blk = b) : Post B S n (n + 1) K μ (upd μ n ⟨0, 0, 0, false, fm⟩) H ((n, regO) :: killL H K) w w' := by
  have hp := Post.ofBelow (n := n) hok hbel
  have hne : ∀ i, S i → i ≠ n := fun i hi => by have := hS i hi; omega
  have hmu : ∀ i, S i → upd μ n ⟨0, 0, 0, false, fm⟩ i = μ i := fun i hi => by simp [upd, hne i hi]
  have hg0 : ∀ i, S i → hget ((n, regO) :: killL H K) i = hget (killL H K) i := fun i hi => by rw [hget_cons, if_neg (hne i hi)]
  have hgl : ∀ i o, S i → hget ((n, regO) :: killL H K) i = some o → live o ∨ isReg o → hget H i = some o ∧ (live o → i ∉ K) := fun i o hi ho hl => by
    rw [hg0 i hi, hget_killL] at ho
    split at ho
    · cases ho; exact (hl.elim id id).elim
    · rename_i hn
      exact ⟨ho, fun _ hm => hn ⟨hm, by rw [ho]; rfl⟩⟩
  have hgn : hget ((n, regO) :: killL H K) n = some regO := by rw [hget_cons, if_pos rfl]
  have isn : ∀ i, (n ≤ i ∧ i < n + 1) → i = n := fun i hi => by omega
  refine ⟨⟨fun i o hi ho hl => ?_, fun i o im hi ho hl him => ?_, fun i j oi oj a b hi hj hij hoi hoj hli hlj ha hb hra hrb => ?_, fun i o hi ho hr => ?_, fun i j oi oj a b x hi hj hoi hoj hri hlj ha hb hrb hx => ?_⟩, by omega, fun i hi => ?_, fun i hi hw => ?_, hbel.size, fun b hb _ => hbel.block b hb, fun i hi _ => hK i hi,
    fun i im o h1 h2 ho hl him => ?_, fun i im o hi ho hr him b x hx => ?_, hbel.os, hbel.tape, hbel.output⟩
  · rcases hi with hi | hi
    · have ho := (hgl i o hi ho (.inl hl)).1
      obtain ⟨im, him, hr⟩ := hp.ok.rel i o (.inl hi) ho hl
      exact ⟨im, by rw [hmu i hi]; exact him, hr.keep (upd_ext hf) rfl⟩
    · rw [isn i hi, hgn] at ho; cases ho; exact hl.elim
  · rcases hi with hi | hi
    · have ho := (hgl i o hi ho (.inl hl)).1
      rw [hmu i hi] at him
      exact hp.ok.low i o im (.inl hi) ho hl him
    · rw [isn i hi, hgn] at ho; cases ho; exact hl.elim
  · rcases hi with hi | hi
    · rcases hj with hj | hj
      · have hoi := (hgl i oi hi hoi (.inl hli)).1
        have hoj := (hgl j oj hj hoj (.inl hlj)).1
        rw [hmu i hi] at ha
        rw [hmu j hj] at hb
        exact hok.inj i j oi oj a b hi hj hij hoi hoj hli hlj ha hb hra hrb
      · rw [isn j hj, hgn] at hoj; cases hoj; exact hlj.elim
    · rw [isn i hi, hgn] at hoi; cases hoi; exact hli.elim
  · rcases hi with hi | hi
    · have ho := (hgl i o hi ho (.inr hr)).1
      obtain ⟨im, him, h⟩ := hp.ok.reg i o (.inl hi) ho hr
      exact ⟨im, by rw [hmu i hi]; exact him, h⟩
    · rw [isn i hi]
      exact ⟨_, upd_self, hfm⟩
  · have hjS : S j := hj.elim id fun h => by rw [isn j h, hgn] at hoj; cases hoj; exact hlj.elim
    obtain ⟨hoj, hjK⟩ := hgl j oj hjS hoj (.inl hlj)
    rw [hmu j hjS] at hb
    rcases hi with hi | hi
    · have hoi := (hgl i oi hi hoi (.inr hri)).1
      rw [hmu i hi] at ha
      exact hok.sep i j oi oj a b x hi hjS hoi hoj hri hlj ha hb hrb hx
    · rw [isn i hi, upd_self] at ha; cases ha
      rcases hfr _ _ hx with h | ⟨k, kim, ko, h1, h2, h3, h4, h5⟩ | ⟨k, hk, kim, h1, h2⟩
      · have := (hok.low j oj b hjS hoj hlj hb).1
        omega
      · exact hok.sep k j ko oj kim b x h1 hjS h2 hoj h3 hlj h4 hb hrb h5
      · obtain ⟨k1, ⟨ko, k2, k3⟩, kim', k4, k5⟩ := hK k hk
        rw [h1] at k4; cases k4
        have hkj : k ≠ j := fun e => hjK hlj (e ▸ hk)
        exact hok.inj k j ko oj kim b k1 hjS hkj k2 hoj k3 hlj h1 hb k5 hrb h2
  · simp only [upd]; rw [if_neg (by omega)]
  · rw [hget_cons, if_neg (by omega), hget_killL, if_neg (fun h => hw h.1)]
  · rw [isn i ⟨h1, h2⟩, hgn] at ho; cases ho; exact hl.elim
  · rcases hi with hi | hi
    · have hin := isn i hi
      subst hin
      rw [upd_self] at him; cases him
      rcases hfr b x hx with h | ⟨k, kim, ko, h1, h2⟩ | ⟨k, hk, kim, h1, h2⟩
      · exact .inl h
      · exact .inr (.inl ⟨k, kim, ko, h1, hS k h1, h2⟩)
      · refine .inr (.inr ⟨k, hk, hS k (hK k hk).1, ⟨kim, h1, h2⟩, fun o' ho' => ?_⟩)
        have hks := (hK k hk).1
        obtain ⟨ko, k2, _⟩ := (hK k hk).2.1
        rw [hg0 k hks, hget_killL, if_pos ⟨hk, by rw [k2]; rfl⟩] at ho'
        cases ho'; exact id
    · obtain ⟨hiK, hin⟩ := hi
      have hks := (hK i hiK).1
      obtain ⟨ko, k2, _⟩ := (hK i hiK).2.1
      rw [hg0 i hks, hget_killL, if_pos ⟨hiK, by rw [k2]; rfl⟩] at ho
      cases ho; exact hr.elim
theorem Shape.killL {H : Heap} {n : Nat} {K R : List Nat} (o : Obj) (hK : ∀ k ∈ K, k < n) (hs : ∀ k ∈ K, k ∈ R) : Shape H n ((n, o) :: killL H K) (n + 1) R K := by
  refine ⟨by omega, fun i hi hw => ?_, fun i hi => ?_, hs, fun i hi => by have := hK i hi; omega⟩
  · rw [hget_cons, if_neg (by omega), hget_killL, if_neg (fun h => hw h.1)]
  · rw [hget_cons, if_neg (by omega), hget_killL, if_neg (fun h => by have := hK i h.1; omega)]
theorem ownCB_spec {o : Option Obj} (h : ownCB o = true) : ∃ cs t, o = some (.cells cs t (0, 0)) := by
  unfold ownCB at h
  split at h
  · exact ⟨_, _, rfl⟩
  · cases h
theorem pure_regionK (hJ : ∀ w, B.has w → J w) {g : FuncId} {args : Array Value} {fz : List Fz} {H1 : Heap} {ts : List Value} {R2 : List Nat} {L : List Prop} {out : Value} (hst : stripL (stripV H1 fz 3) args.toList = some (ts, R2, L)) (hL : AllP L) (hp : PureC P J g ts.toArray out) (hlt : (R2.all fun i => Nat.blt i n) = true)
    (hreg : (R2.all fun i => isRegB (hget H1 i) || ownCB (hget H1 i)) = true) (ho : okT 4 out = true) : CallJ P B g args H1 n (.ret (pushT n 4 out)) ((n, regO) :: killL H1 (R2.filter fun i => ownCB (hget H1 i))) (n + 1) R2 (R2.filter fun i => ownCB (hget H1 i)) := by
  have hltn : ∀ r ∈ R2, r < n := fun r hr => Nat.le_of_ble_eq_true (List.all_eq_true.1 hlt r hr)
  refine ⟨Shape.killL _ (fun k hk => hltn k ((List.mem_filter.1 hk).1)) (fun k hk => (List.mem_filter.1 hk).1), fun S μ w args' cs hok hB hS hf ha hR => ?_⟩
  have hSR : ∀ r ∈ R2, S r := fun r hr => hR r hr (hltn r hr)
  obtain ⟨e, w1, fr, ⟨v', rfl, hb, ht⟩, hc, hfn, hl⟩ := pure_calls hJ hst hL hp hok hB ha hSR cs
  have hfm : ∀ b x, fmOr (fmU μ H1 w R2) w w1 b = some x → w1.heap[b]? = some x := by
    intro b x h
    unfold fmOr at h
    split at h
    · rename_i hlt
      rw [hb.block b hlt]; exact fmU_world h
    · exact h
  have hK : ∀ k ∈ R2.filter fun i => ownCB (hget H1 i), S k ∧ (∃ o, hget H1 k = some o ∧ live o) ∧ ∃ im, μ k = some im ∧ im.rw = true := fun k hk => by
    obtain ⟨h1, h2⟩ := List.mem_filter.1 hk
    obtain ⟨cs0, t0, h3⟩ := ownCB_spec h2
    obtain ⟨im, him, hor⟩ := hok.rel k _ (hSR k h1) h3 trivial
    refine ⟨hSR k h1, ⟨_, h3, trivial⟩, im, him, ?_⟩
    rcases hor with ⟨_, h, _⟩ | ⟨h, _⟩
    · exact h
    · exact absurd rfl h
  have hpost := Post.regionK (n := n) (R2.filter fun i => ownCB (hget H1 i)) hok hS (hf n (Nat.le_refl _) (by omega)) hb hK (fmOr (fmU μ H1 w R2) w w1) hfm fun b x h => by
    unfold fmOr at h
    split at h
    · refine .inr ?_
      have hw := fmU_world h
      unfold fmU at h
      split at h
      · rename_i hc
        obtain ⟨i, hi, o, im, ho, him, hcase⟩ := hc
        have hor := List.all_eq_true.1 hreg i hi
        rw [Bool.or_eq_true] at hor
        rcases hcase with ⟨hr', hne⟩ | ⟨hl, hblk⟩
        · left
          cases hx : im.fm b with
          | none => exact absurd hx hne
          | some y =>
            obtain ⟨im', him', hf'⟩ := hok.reg i o (hSR i hi) ho hr'
            rw [him] at him'; cases him'
            have := hf' b y hx
            rw [hw] at this; cases this
            exact ⟨i, im, o, hSR i hi, ho, hr', him, hx⟩
        · right
          rcases hor with hor | hor
          · obtain ⟨o', ho', hr'⟩ := isRegB_spec hor
            rw [ho] at ho'; cases ho'
            exact absurd hl (by cases o <;> first | exact id | exact hr'.elim)
          · exact ⟨i, List.mem_filter.2 ⟨hi, hor⟩, im, him, hblk⟩
      · cases h
    · rename_i hge
      exact .inl (Nat.le_of_not_lt hge)
  refine ⟨.ret v', w1, _, hpost, .ret (pushT_VR upd_self 4 out v' ho ht), fun _ => ⟨fr, hc, by rw [hfn]; rfl, hl⟩, fun c cs' e => ?_⟩
  subst e
  exact Steps.trans hc (.one (step_leave_returned hl))
theorem does_tree {r : Nat} {v : Value} (hlt : r < n) (hreg : isRegB (hget H r) = true) (hd : ∀ c, o.op ≠ .defer c)
    (h : ∀ (μ : Mu) (w : World) (ρ : Operand → Value) (im : Img), μ r = some im → (∀ b x, im.fm b = some x → w.heap[b]? = some x) → (∀ x ∈ o.op.operands, ∀ v, evC T x = some v → VR μ v (ρ x)) → ∃ v', (execOp ρ o).run P w = .ok (.value v') w ∧ VR μ v v') :
    Does P B o (evC T) H n (.ret v) H n [r] [] := fun S μ w fr _ _ _ _ _ hok hB _ _ hev hR hm ht ho hw => by
  obtain ⟨x, hx, hr⟩ := isRegB_spec hreg
  obtain ⟨im, him, hf⟩ := hok.reg r x (hR r (by simp) hlt) hx hr
  obtain ⟨v', h1, h2⟩ := h μ w fr.eval im him hf hev
  exact ⟨.ret v', w, μ, Post.refl hok, .ret h2, opTo_value hm ht ho hw hd h1⟩
theorem cPart_tree {fm : Nat → Option Obj} {w : World} (hw : ∀ b x, fm b = some x → w.heap[b]? = some x) {off : Nat} {cs : Array Value} {u v : Value} {t : TypeId} (hu : TRv fm (ptT off cs) u) (h : cPart P t cs off = some v) : ∃ v', (Instr.loadAt t u).run P w = .ok v' w ∧ TRv fm v v' := by
  obtain ⟨b, o, arr, ty, fl, rfl, h1, h2, h3⟩ := hu.ptr_inv
  have hb := hw _ _ h1
  have hcell : ∀ i, i < cs.size → ∃ v', w.cell? ⟨b, o + i, none⟩ = some v' ∧ ∀ v, cs[i]? = some v → TRv fm v v' := by
    intro i hi
    have hlt := h2 i hi
    exact ⟨arr[o + i], by simp [World.cell?, hb, hlt], fun v hv => h3 i v _ hv (by simp [hlt])⟩
  unfold cPart at h
  cases hag : aggT P t with
  | none => rw [hag] at h; cases h
  | some g =>
    rw [hag] at h
    cases g with
    | true =>
      cases hz : szOf P t with
      | none => rw [hz] at h; cases h
      | some z =>
        rw [hz] at h
        dsimp only at h
        cases hb2 : Nat.ble (off + z) cs.size with
        | false => rw [hb2] at h; cases h
        | true =>
          rw [hb2] at h
          simp only [cond_true, Option.some.injEq] at h
          subst h
          have hle := Nat.le_of_ble_eq_true hb2
          have hr := run_loadCells (P := P) w ⟨b, o + off, none⟩ z (fun j => (w.cell? ⟨b, o + (off + j), none⟩).getD undef) (fun j hj => by
            obtain ⟨v', hv', _⟩ := hcell (off + j) (by omega)
            rw [add_none, show o + off + j = o + (off + j) by omega, hv']; rfl)
          refine ⟨.agg _, by simp [Instr.loadAt, Instr.sureAddr, loadVar, aggT_run hag, szOf_run hz, hr]; rfl, .agg (by simp; omega) fun i v v' hv hv' => ?_⟩
          have hi : i < z := by
            have := (Array.getElem?_eq_some_iff.1 hv).1
            simp at this; omega
          obtain ⟨u, h4, h5⟩ := hcell (off + i) (by omega)
          simp [hi, h4] at hv'
          subst hv'
          refine h5 v ?_
          rw [Array.getElem?_extract] at hv
          split at hv
          · exact hv
          · cases hv
    | false =>
      simp only at h
      have hi := (Array.getElem?_eq_some_iff.1 h).1
      obtain ⟨v', hv', ht⟩ := hcell off hi
      exact ⟨v', by simp [Instr.loadAt, Instr.sureAddr, loadVar, aggT_run hag, run_load, hv'], ht v h⟩
theorem treeOp_sound {v : Value} {r : Nat} (e : treeOp P T o = some (v, r)) (hlt : r < n) (hreg : isRegB (hget H r) = true) : Does P B o (evC T) H n (.ret v) H n [r] [] := by
  unfold treeOp at e
  split at e
  · rename_i c hop
    split at e
    · rename_i hc
      split at e
      · rename_i x t ha ht
        split at e
        · rename_i u hx
          split at e
          · rename_i r0 k cs el htop hue
            rw [und_eq] at hue
            simp only [Option.some.injEq, Prod.mk.injEq] at e
            obtain ⟨rfl, rfl⟩ := e
            refine does_tree hlt hreg (fun c h => by rw [hop] at h; cases h) fun μ w ρ im him hf hev => ?_
            have ea : c.args = #[x] := by rw [← ha]
            have et : c.argTypes = #[t] := by rw [← ht]
            have hv := hev x (by simp [hop, Op.operands, Call.operands, hc, ea]) _ hx
            rw [topSl_eq htop] at hv
            obtain ⟨im', _, htr⟩ := hv.top_inv
            have hlen : ∃ a c, ρ x = .slice a k c := by
              rcases htr.slice_inv with ⟨b, o', c', arr, t', fl, h1, _⟩ | ⟨rfl, _, a', c', h1, _⟩
              · exact ⟨_, _, h1⟩
              · exact ⟨_, _, h1⟩
            obtain ⟨a, cp, hv⟩ := hlen
            refine ⟨.int .i64 k, ?_, .int _ _⟩
            simp [execOp, hop, resolve, hc, invoke, builtin, ea, et, hv, Builtin.len_, run_underlying hue, goInt]
          · cases e
        · cases e
      · cases e
    · cases e
  · rename_i s x f hop
    split at e
    · rename_i u hx
      split at e
      · rename_i r0 off cs htop
        split at e
        · rename_i off' hc
          simp only [Option.some.injEq, Prod.mk.injEq] at e
          obtain ⟨rfl, rfl⟩ := e
          refine does_tree hlt hreg (fun c h => by rw [hop] at h; cases h) fun μ w ρ im him hf hev => ?_
          have hv := hev x (by simp [hop, Op.operands]) _ hx
          rw [topPt_eq htop] at hv
          obtain ⟨im', him', htr⟩ := hv.top_inv
          rw [him] at him'; cases him'
          obtain ⟨b, o', arr, ty, fl, h1, h2, h3, h4⟩ := htr.ptr_inv
          have hc2 : ∃ d, off' = off + d ∧ cFieldAddr P s f (.pointer (some ⟨b, o' + off, none⟩)) = some (.pointer (some ⟨b, o' + off + d, none⟩)) := by
            unfold cFieldAddr at hc ⊢
            simp only at hc ⊢
            split at hc
            · split at hc
              · split at hc
                · simp only [Option.some.injEq, Value.pointer.injEq, Addr.mk.injEq, true_and, and_true] at hc
                  rename_i fd hfd _ _ hz
                  refine ⟨fd.offset, hc.symm, ?_⟩
                  simp_all
                · cases hc
              · cases hc
            · cases hc
          obtain ⟨d, rfl, hc2⟩ := hc2
          obtain ⟨_, hr⟩ := cFieldAddr_raw (P := P) hc2 w
          refine ⟨.pointer (some ⟨b, o' + off + d, none⟩), by simp [execOp, hop, h1, hr], .top rfl him ?_⟩
          rw [Nat.add_assoc]
          exact .ptr h2 h3 h4
        · cases e
      · cases e
    · cases e
  · rename_i t x hop
    split at e
    · rename_i u hx
      split at e
      · rename_i r0 off cs htop
        split at e
        · rename_i v0 hc
          cases hok : okT 4 v0 with
          | false => rw [hok] at e; cases e
          | true =>
            rw [hok] at e
            simp only [cond_true, Option.some.injEq, Prod.mk.injEq] at e
            obtain ⟨rfl, rfl⟩ := e
            refine does_tree hlt hreg (fun c h => by rw [hop] at h; cases h) fun μ w ρ im him hf hev => ?_
            have hv := hev x (by simp [hop, Op.operands]) _ hx
            rw [topPt_eq htop] at hv
            obtain ⟨im', him', htr⟩ := hv.top_inv
            rw [him] at him'; cases him'
            obtain ⟨v', h1, h2⟩ := cPart_tree hf htr hc
            exact ⟨v', by simp [execOp, hop, h1], pushT_VR him 4 v0 v' hok h2⟩
        · cases e
      · cases e
    · cases e
  · cases e
theorem sliceLo_run {P : Program} {t e : TypeId} {b off m c z k : Nat} {q : Int} {kk : IntKind} (hu : und P t = some (.slice e)) (hz : szOf P e = some z) (hq : q = (k : Int)) (hk : k < m) (hc : m ≤ c) (w : World) :
    (Instr.sliceAt t (.slice (some ⟨b, off, none⟩) m c) (some (.int kk q)) none none).run P w = .ok (.slice (some ⟨b, off + k * z, none⟩) (m - k) (c - k)) w := by
  rw [und_eq] at hu
  subst hq
  have hb : bnds m (some (.int kk (k : Int))) none = some (k, m) := by
    simp only [bnds, bnd, decide_eq_true (show (0 : Int) ≤ (k : Int) by omega), decide_eq_true (show (k : Int) ≤ (m : Int) by omega), Bool.and_self, cond_true, Int.toNat_natCast]
  obtain ⟨hr, _, _⟩ := bnds_run (P := P) (μ := fun _ => none) (sl := true) (lo' := some (.int kk (k : Int))) (hi' := none) hb (show VR _ _ _ from .int _ _) trivial hc w
  simp only [Instr.sliceAt, Instr.slice, Sem.run_bind, run_underlying hu, Result.andThen_ok, hr, szOf_run hz, Sem.run_pure, Option.map_some, add_none]
  rw [if_neg (by omega)]
theorem treeApp_inv {sv : Value} {r k z by' : Nat} {cs : Array Value} {e : TypeId} {zv : Value} (h : treeApp P T o = some (sv, r, k, cs, e, z, by', zv)) :
    ∃ c s x t i, o.op = .call c ∧ c.callee = .builtin .append ∧ c.args = #[s, x] ∧ c.argTypes = #[t, t] ∧ evC T s = some sv ∧ evC T x = some (topV r (slT k cs)) ∧ isBareNil sv = true ∧ P.underlying t = some (.slice e) ∧ P.info? e = some i ∧ i.zero = some zv ∧ i.size = z ∧ i.bytes = by' ∧ zv.cells.size = z ∧ 0 < z := by
  unfold treeApp at h
  split at h
  · rename_i c hop
    split at h
    · rename_i hc
      split at h
      · rename_i s x t t' ha ht
        split at h
        · rename_i sv' xv hs hx
          split at h
          · rename_i r' k' cs' e' htop hu
            split at h
            · rename_i i hi
              split at h
              · rename_i zv' z' hz hsz
                cases hq : (Nat.beq t t' && isBareNil sv' && Nat.beq zv'.cells.size (z' + 1)) with
                | false => rw [hq] at h; cases h
                | true =>
                  rw [hq] at h
                  simp only [cond_true, Option.some.injEq, Prod.mk.injEq] at h
                  obtain ⟨rfl, rfl, rfl, rfl, rfl, rfl, rfl, rfl⟩ := h
                  simp only [Bool.and_eq_true] at hq
                  obtain ⟨⟨q1, q2⟩, q3⟩ := hq
                  obtain rfl := Nat.eq_of_beq_eq_true q1
                  rw [und_eq] at hu
                  rw [inf_eq] at hi
                  exact ⟨c, s, x, t, i, hop, hc, by rw [← ha], by rw [← ht], hs, by rw [hx, topSl_eq htop], q2, hu, hi, hz, hsz, rfl, Nat.eq_of_beq_eq_true q3, by omega⟩
              · cases h
            · cases h
          · cases h
        · cases h
      · cases h
    · cases h
  · cases h
theorem bareNil_run {μ : Mu} {s s' : Value} (h : isBareNil s = true) (hs : VR μ s s') : ∃ a, s' = .slice a 0 0 := by
  unfold isBareNil at h
  split at h
  · cases hs; exact ⟨_, rfl⟩
  · cases hs; exact ⟨_, rfl⟩
  · cases h
theorem treeApp_does {sv : Value} {r k z by' : Nat} {cs cs' : Array Value} {e : TypeId} {zv : Value} (h : treeApp P T o = some (sv, r, k, cs, e, z, by', zv)) (hlt : r < n) (hreg : isRegB (hget H r) = true)
    (hp : 0 < k ∧ k ≤ maxLen ∧ k * by' ≤ 140737488355328 ∧ cs.size = k * z ∧ cs.map (pushS r) = cs' ∧ (cs.all fun v => simple v || isTop v) = true ∧ ones cs' = true) :
    Does P B o (evC T) H n (.ret (.slice (some ⟨n, 0, none⟩) k z)) ((n, .cells cs' e (0, 0)) :: H) (n + 1) [r] [] := by
  intro S μ w fr _ _ _ _ _ hok hB hS hf hev hR hm ht ho hw
  obtain ⟨c, s, x, t, i, hop, hc, ea, et, hs, hx, hbn, hu, hi, hz, hsz, hby, hzs, hzp⟩ := treeApp_inv h
  obtain ⟨p1, p2, p3, p4, p5, p6, p7⟩ := hp
  obtain ⟨xr, hxr, hr⟩ := isRegB_spec hreg
  obtain ⟨im, him, hfm⟩ := hok.reg r xr (hR r (by simp) hlt) hxr hr
  have hvs := hev s (by simp [hop, Op.operands, Call.operands, hc, ea]) _ hs
  have hvx := hev x (by simp [hop, Op.operands, Call.operands, hc, ea]) _ hx
  obtain ⟨a, hsa⟩ := bareNil_run hbn hvs
  obtain ⟨im', him', htr⟩ := hvx.top_inv
  rw [him] at him'; cases him'
  rcases htr.slice_inv with ⟨b, o', c', arr, ty, fl, h1, h2, h3, h4, h5, h6⟩ | ⟨h0, _⟩
  · have hb := hfm _ _ h4
    obtain ⟨news, hnews⟩ : ∃ news, news = (arr.toList.drop o').take (k * z) := ⟨_, rfl⟩
    have hnl : news.length = k * z := by
      rw [hnews, List.length_take, List.length_drop, Array.length_toList]
      have : ∀ j, j < k * z → o' + j < arr.size := fun j hj => h5 j (by omega)
      have := this (k * z - 1) (by have := Nat.mul_pos p1 hzp; omega)
      have := Nat.mul_pos p1 hzp
      omega
    have hget : ∀ (j : Nat) u, news[j]? = some u → arr[o' + j]? = some u := by
      intro j u hj
      rw [hnews, List.getElem?_take] at hj
      split at hj
      · rw [List.getElem?_drop] at hj; simpa using hj
      · cases hj
    have hcell : ∀ (j : Nat) u, news[j]? = some u → w.cell? ((⟨b, o', none⟩ : Addr).add j) = some u := by
      intro j u hj
      rw [add_none]
      have := hget j u hj
      simp [World.cell?, hb]
      exact this
    have hV : VRs μ cs' news.toArray := by
      refine ⟨by rw [← p5]; simp [hnl, p4], fun j v v' hv hv' => ?_⟩
      rw [← p5, Array.getElem?_map] at hv
      cases hy : cs[j]? with
      | none => rw [hy] at hv; cases hv
      | some y =>
        rw [hy] at hv
        simp only [Option.map_some, Option.some.injEq] at hv
        subst hv
        exact pushS_VR him (Array.all_eq_true'.1 p6 y (Array.mem_of_getElem? hy)) (h6 j y v' hy (hget j v' (by simpa using hv')))
    have hrun : ∃ C, k ≤ C ∧ C ≤ maxLen ∧ (Builtin.append_ #[t, t] o.type #[fr.eval s, fr.eval x]).run P w = .ok (.slice (some ⟨w.heap.size, 0, none⟩) k C) (w.drew.alloc (.cells (news.toArray ++ Builtin.zeroCells zv.cells (C - k)) e)) := by
      have hk63 : (k : Int) ≤ 9223372036854775807 := by simp only [maxLen] at p2; omega
      have hr0 := run_append_nil (P := P) w t o.type e i zv hu hi hz ⟨b, o', none⟩ k c' news (by rw [hnl, hsz]) hcell p1 hk63 (by rw [hby]; omega)
      refine ⟨grownCap w k 0 e, grownCap_ge w k 0 e, grownCap_le_maxLen w k 0 e p2, ?_⟩
      rw [hsa, h1]
      cases a with
      | none => exact hr0
      | some a => rw [append_bare hu hi hz w a ⟨b, o', none⟩ k c' news (by rw [hnl, hsz]) hcell p1 p2 (by rw [hby]; exact p3)]; exact hr0
    obtain ⟨C, hC1, hC2, hrun⟩ := hrun
    have hfn := hf n (Nat.le_refl _) (by omega)
    have harr : (news.toArray ++ Builtin.zeroCells zv.cells (C - k)).size = C * z := by
      rw [Array.size_append, size_zeroCells, hzs, List.size_toArray, hnl, ← Nat.add_mul]; congr 1; omega
    refine ⟨.ret (.slice (some ⟨w.heap.size, 0, none⟩) k C), _, _, post_grow hok hS hfn none (fun _ h => by cases h) w.heap.size (news.toArray ++ Builtin.zeroCells zv.cells (C - k)).size _ hB.le (by simp) (.inl (Nat.le_refl _)) (by simp) (fun b hb _ => Below.heap_alloc w.drew _ b hb) (.ofCells (heap_alloc_new w.drew _) ?_ rfl fun j v hv => ?_) ⟨rfl, rfl, rfl⟩, .ret ?_, opTo_value hm ht ho hw (fun c h => by rw [hop] at h; cases h) (w' := w.drew.alloc _) ?_⟩
    · rw [Array.size_append]; have := hV.1; simp only [List.size_toArray] at this ⊢; omega
    · obtain ⟨u, e1, e2⟩ := hV.get hv
      have hj : j < news.toArray.size := (Array.getElem?_eq_some_iff.1 e1).1
      exact ⟨u, by rw [Array.getElem?_append_left hj]; exact e1, e2.mono (upd_ext hfn)⟩
    · refine .slice ⟨_, upd_self, rfl, rfl⟩ hC1 hC2 (fun _ im him _ _ => ?_)
      rw [upd_self] at him
      cases him
      exact harr.symm
    · simp [execOp, hop, resolve, hc, invoke, builtin, ea, et, hrun]
  · omega
theorem treeApp0_does {sv : Value} {r k z by' : Nat} {cs : Array Value} {e : TypeId} {zv : Value} (h : treeApp P T o = some (sv, r, k, cs, e, z, by', zv)) (hlt : r < n) (hreg : isRegB (hget H r) = true) (hk : k = 0) :
    Does P B o (evC T) H n (.ret sv) H n [r] [] := by
  obtain ⟨c, s, x, t, i, hop, hc, ea, et, hs, hx, hbn, hu, hi, hz, hsz, hby, hzs, hzp⟩ := treeApp_inv h
  refine does_tree hlt hreg (fun c h => by rw [hop] at h; cases h) fun μ w ρ im him hf hev => ?_
  have hvs := hev s (by simp [hop, Op.operands, Call.operands, hc, ea]) _ hs
  have hvx := hev x (by simp [hop, Op.operands, Call.operands, hc, ea]) _ hx
  obtain ⟨a, hsa⟩ := bareNil_run hbn hvs
  obtain ⟨im', him', htr⟩ := hvx.top_inv
  rw [him] at him'; cases him'
  subst hk
  have hxx : ∃ b d, ρ x = .slice b 0 d := by
    rcases htr.slice_inv with ⟨b, o', c', arr, ty, fl, h1, _⟩ | ⟨_, _, a', c', h1, _⟩
    · exact ⟨_, _, h1⟩
    · exact ⟨_, _, h1⟩
  obtain ⟨b, d, hxx⟩ := hxx
  refine ⟨.slice a 0 0, ?_, by rw [← hsa]; exact hvs⟩
  have hszp : szOf P e = some z := by simp [szOf, inf_eq, hi, hsz]
  have hr := app_nothing (ty := o.type) hu hszp w a b 0 0 d (Nat.le_refl _)
  simp [execOp, hop, resolve, hc, invoke, builtin, ea, et, hsa, hxx, hr]
theorem treeCpy_inv {b off k r m z : Nat} {cs2 : Array Value} (h : treeCpy P T o = some (b, off, k, r, m, cs2, z)) :
    ∃ c s x t t2 e s1, o.op = .call c ∧ c.callee = .builtin .copy ∧ c.args = #[s, x] ∧ c.argTypes = #[t, t2] ∧ evC T s = some (.slice (some ⟨b, off, none⟩) k s1) ∧ evC T x = some (topV r (slT m cs2)) ∧ P.underlying t = some (.slice e) ∧ szOf P e = some z := by
  unfold treeCpy at h
  split at h
  · rename_i c hop
    split at h
    · rename_i hc
      split at h
      · rename_i s x t t2 ha ht
        split at h
        · rename_i b' off' k' s1 xv hs hx
          split at h
          · rename_i r' m' cs' e' htop hu
            split at h
            · rename_i z' hz
              simp only [Option.some.injEq, Prod.mk.injEq] at h
              obtain ⟨rfl, rfl, rfl, rfl, rfl, rfl, rfl⟩ := h
              rw [und_eq] at hu
              exact ⟨c, s, x, t, t2, e', s1, hop, hc, by rw [← ha], by rw [← ht], hs, by rw [hx, topSl_eq htop], hu, hz⟩
            · cases h
          · cases h
        · cases h
      · cases h
    · cases h
  · cases h
theorem treeCpy_does {b off k r m z : Nat} {cs cs2 cs' : Array Value} {te : TypeId} (h : treeCpy P T o = some (b, off, k, r, m, cs2, z)) (hg : hget H b = some (.cells cs te (0, 0))) (hlt : r < n) (hreg : isRegB (hget H r) = true) (hbn : b < n)
    (hp : 0 < m ∧ off + Nat.min m k * z ≤ cs.size ∧ Nat.min m k * z ≤ cs2.size ∧ (cs2.all fun v => simple v || isTop v) = true ∧ ones ((cs2.extract 0 (Nat.min m k * z)).map (pushS r)) = true ∧ splice cs off ((cs2.extract 0 (Nat.min m k * z)).map (pushS r)) = cs') :
    Does P B o (evC T) H n (.ret (.int .i64 (Nat.min m k))) (hset H b (.cells cs' te (0, 0))) n [b, r] [b] := by
  intro S μ w fr _ _ _ _ _ hok hB hS hf hev hR hm ht ho hw
  obtain ⟨c, s, x, t, t2, e, s1, hop, hc, ea, et, hs, hx, hu, hz⟩ := treeCpy_inv h
  obtain ⟨p0, h1, h2, p4, h3, rfl⟩ := hp
  obtain ⟨xr, hxr, hr⟩ := isRegB_spec hreg
  obtain ⟨imr, himr, hfm⟩ := hok.reg r xr (hR r (by simp) hlt) hxr hr
  have hb : S b := hR b (by simp) hbn
  obtain ⟨im, him, hor⟩ := hok.rel b _ hb hg trivial
  have hvs := hev s (by simp [hop, Op.operands, Call.operands, hc, ea]) _ hs
  have hvx := hev x (by simp [hop, Op.operands, Call.operands, hc, ea]) _ hx
  obtain ⟨imr', himr', htr⟩ := hvx.top_inv
  rw [himr] at himr'; cases himr'
  generalize hsv : fr.eval s = sv at hvs
  cases hvs with
  | slice har q1 q2 q3 =>
    obtain ⟨im', him', _, rfl⟩ := har
    simp only at him'
    rw [him] at him'; cases him'
    rcases htr.slice_inv with ⟨b2, o', c', arr2, ty, fl, g1, g2, g3, g4, g5, g6⟩ | ⟨h0, _⟩
    · have hb2 := hfm _ _ g4
      have hcell : ∀ j, j < Nat.min m k * z → w.cell? ((⟨b2, o', none⟩ : Addr).add j) = some (arr2.getD (o' + j) undef) := by
        intro j hj
        have hlt2 := g5 j (by omega)
        rw [add_none]
        simp [World.cell?, hb2, hlt2]
      have hload := run_loadCells (P := P) w ⟨b2, o', none⟩ (Nat.min m k * z) (fun j => arr2.getD (o' + j) undef) hcell
      generalize hxsd : (((Array.range (Nat.min m k * z)).map fun j => arr2.getD (o' + j) undef) : Array Value) = xs0
      obtain ⟨xs, hload, hxs⟩ : ∃ xs, (loadCells ⟨b2, o', none⟩ (Nat.min m k * z)).run P w = .ok xs w ∧ VRs μ ((cs2.extract 0 (Nat.min m k * z)).map (pushS r)) xs := by
        refine ⟨_, hload, ⟨by simp; omega, fun i v v' hv hv' => ?_⟩⟩
        rw [Array.getElem?_map] at hv
        cases hy : (cs2.extract 0 (Nat.min m k * z))[i]? with
        | none => rw [hy] at hv; cases hv
        | some y =>
          rw [hy] at hv
          simp only [Option.map_some, Option.some.injEq] at hv
          subst hv
          rw [Array.getElem?_extract] at hy
          split at hy
          · rename_i hlt3
            have hi : i < Nat.min m k * z := by omega
            have hy2 : cs2[i]? = some y := by simpa using hy
            simp [hi] at hv'
            have hlt2 := g5 i (by omega)
            refine pushS_VR himr (Array.all_eq_true'.1 p4 y (Array.mem_of_getElem? hy2)) (g6 i y v' hy2 ?_)
            rw [← hv']
            simp [hlt2]
          · cases hy
      have hxsz : xs.size = Nat.min m k * z := by rw [← hxs.1]; simp; omega
      have hexsz : ((cs2.extract 0 (Nat.min m k * z)).map (pushS r)).size = Nat.min m k * z := by simp; omega
      rcases hor with ⟨_, hrw, hoo, arr, ha, hle, hcap, hcs⟩ | ⟨hz0, _⟩
      · have hst := run_storeCells_at (P := P) im.blk off te xs.toList 0 arr w ha (by simp [hxsz]; omega) (hxs.ones h3)
        simp only [Nat.add_zero] at hst
        refine ⟨.ret (.int .i64 (Nat.min m k)), w.setRow im.blk (CE.splice arr off xs), μ, Post.write hok hS b _ (.cells (CE.splice cs off ((cs2.extract 0 (Nat.min m k * z)).map (pushS r))) te (0, 0)) im hb hg trivial him hrw (w' := w.setRow im.blk (CE.splice arr off xs)) ?_ ?_ ?_ ⟨rfl, rfl, rfl⟩, .ret (.int _ _), opTo_value hm ht ho hw (fun c h => by rw [hop] at h; cases h) ?_⟩
        · simp [World.setRow]
        · intro y hy
          exact setRow_other w im.blk y _ hy
        · refine .inl ⟨rfl, hrw, hoo, CE.splice arr off xs, setRow_heap w im.blk arr _ te _ ha, ?_, ?_, ?_⟩
          · rw [splice_size (by rw [hexsz]; omega), splice_size (by rw [hxsz]; omega)]; exact hle
          · rw [splice_size (by rw [hxsz]; omega)]; exact hcap
          · exact VRs.splice (by rw [hexsz]; omega) hle hcs hxs
        · simp [execOp, hop, resolve, hc, invoke, builtin, ea, et, hsv, g1, Builtin.copy_, Builtin.lenOf, Builtin.firstCells, Sem.run_bind, Sem.run_pure, Result.andThen_ok, run_underlying hu, szOf_run hz, hload, hoo, hst, CE.splice, goInt]
      · exact absurd rfl hz0
    · omega
theorem opT_sound (hF : ∀ g, F g = true → okFn P g = true) (hJ : ∀ w, B.has w → J w) (hu : Under H n) {h : Option HintT} {a : Told} (e : opT P F J B T o H n h = some a) (hp : ∀ p, a.p = some p → p) :
    Does P B o (evC T) H n a.s.out a.s.H a.s.n a.s.R a.s.W ∧ Shape H n a.s.H a.s.n a.s.R a.s.W := by
  unfold opT at e
  split at e
  · split at e
    · rename_i v r htr
      cases hq : (Nat.blt r n && isRegB (hget H r)) with
      | false => rw [hq] at e; cases e
      | true =>
        rw [hq] at e
        simp only [cond_true, Option.some.injEq] at e
        subst e
        simp only [Bool.and_eq_true] at hq
        exact ⟨treeOp_sound htr (Nat.le_of_ble_eq_true hq.1) hq.2, Shape.same _ _ _⟩
    · exact opH_sound hF hu e hp
  · exact opH_sound hF hu e hp
  · rename_i k es
    split at e
    · rename_i t x i hop
      split at e
      · rename_i u kk q hx hi
        split at e
        · rename_i r m cs el htop hue
          split at e
          · rename_i z hz
            cases hq : (Nat.blt r n && isRegB (hget H r)) with
            | false => rw [hq] at e; cases e
            | true =>
              rw [hq] at e
              simp only [cond_true, Option.some.injEq] at e
              subst e
              simp only [Bool.and_eq_true] at hq
              obtain ⟨hlt, hreg⟩ := hq
              obtain ⟨hqk, hkm, hes⟩ := hp _ rfl
              refine ⟨does_tree (Nat.le_of_ble_eq_true hlt) hreg (fun c h => by rw [hop] at h; cases h) fun μ w ρ im him hf hev => ?_, Shape.same _ _ _⟩
              have hv := hev x (by simp [hop, Op.operands]) _ hx
              have hiv := int_VR (hev i (by simp [hop, Op.operands]) _ hi)
              rw [topSl_eq htop] at hv
              obtain ⟨im', him', htr⟩ := hv.top_inv
              rw [him] at him'; cases him'
              have hcase := htr.slice_inv
              rcases hcase with ⟨b, o', c', arr, ty, fl, h1, h2, h3, h4, h5, h6⟩ | ⟨rfl, _⟩
              · have hess : k * z + es.size ≤ cs.size ∨ es.size = 0 := by rw [← hes]; simp; omega
                refine ⟨.pointer (some ⟨b, o' + k * z, none⟩), by simp [execOp, hop, h1, hiv, index_run hue hz hqk hkm], .top rfl him ?_⟩
                refine TRv.ptr (o := o' + k * z) (off := 0) h4 (fun i hi => ?_) fun i v v' hv hv' => ?_
                · have := h5 (k * z + i) (by omega)
                  omega
                · rw [← hes, Array.getElem?_extract] at hv
                  split at hv
                  · refine h6 (k * z + i) v v' hv ?_
                    rw [← hv', Nat.add_assoc]
                  · cases hv
              · omega
          · cases e
        · cases e
      · cases e
    · cases e
  · rename_i k es
    split at e
    · rename_i t x i hop
      split at e
      · rename_i u kk q hx hi
        split at e
        · rename_i r off cs m el htop hue
          split at e
          · rename_i z hz
            cases hq : (Nat.blt r n && isRegB (hget H r)) with
            | false => rw [hq] at e; cases e
            | true =>
              rw [hq] at e
              simp only [cond_true, Option.some.injEq] at e
              subst e
              simp only [Bool.and_eq_true] at hq
              obtain ⟨hlt, hreg⟩ := hq
              obtain ⟨hqk, hkm, hes⟩ := hp _ rfl
              refine ⟨does_tree (Nat.le_of_ble_eq_true hlt) hreg (fun c h => by rw [hop] at h; cases h) fun μ w ρ im him hf hev => ?_, Shape.same _ _ _⟩
              have hv := hev x (by simp [hop, Op.operands]) _ hx
              have hiv := int_VR (hev i (by simp [hop, Op.operands]) _ hi)
              rw [topPt_eq htop] at hv
              obtain ⟨im', him', htr⟩ := hv.top_inv
              rw [him] at him'; cases him'
              obtain ⟨b, o', arr, ty, fl, h1, h2, h3, h4⟩ := htr.ptr_inv
              refine ⟨.pointer (some ⟨b, o' + off + k * z, none⟩), by simp [execOp, hop, h1, hiv, indexArr_run hue hz hqk hkm], .top rfl him ?_⟩
              rw [Nat.add_assoc o']
              refine TRv.ptr (o := o' + (off + k * z)) (off := 0) h2 (fun i hi => ?_) fun i v v' hv hv' => ?_
              · have hsz : es.size ≤ cs.size - (off + k * z) := by rw [← hes]; simp; omega
                have := h3 (off + k * z + i) (by omega)
                omega
              · rw [← hes, Array.getElem?_extract] at hv
                split at hv
                · refine h4 (off + k * z + i) v v' hv ?_
                  rw [← hv', Nat.add_assoc o']
                · cases hv
          · cases e
        · cases e
      · cases e
    · cases e
  · rename_i k m' cs'
    split at e
    · rename_i t x lo hop
      split at e
      · rename_i u kk q hx hi
        split at e
        · rename_i r m cs el htop hue
          split at e
          · rename_i z hz
            cases hq : (Nat.blt r n && isRegB (hget H r)) with
            | false => rw [hq] at e; cases e
            | true =>
              rw [hq] at e
              simp only [cond_true, Option.some.injEq] at e
              subst e
              simp only [Bool.and_eq_true] at hq
              obtain ⟨hlt, hreg⟩ := hq
              obtain ⟨hqk, hkm, hm', hes⟩ := hp _ rfl
              refine ⟨does_tree (Nat.le_of_ble_eq_true hlt) hreg (fun c h => by rw [hop] at h; cases h) fun μ w ρ im him hf hev => ?_, Shape.same _ _ _⟩
              have hv := hev x (by simp [hop, Op.operands]) _ hx
              have hiv := int_VR (hev lo (by simp [hop, Op.operands]) _ hi)
              rw [topSl_eq htop] at hv
              obtain ⟨im', him', htr⟩ := hv.top_inv
              rw [him] at him'; cases him'
              have hcase := htr.slice_inv
              rcases hcase with ⟨b, o', c', arr, ty, fl, h1, h2, h3, h4, h5, h6⟩ | ⟨rfl, _⟩
              · refine ⟨.slice (some ⟨b, o' + k * z, none⟩) (m - k) (c' - k), by simp [execOp, hop, h1, hiv, sliceLo_run hue hz hqk hkm h2], .top rfl him ?_⟩
                rw [hm']
                refine TRv.slice (o := o' + k * z) (by omega) (by omega) h4 (fun i hi => ?_) fun i v v' hv hv' => ?_
                · rw [← hes, Array.size_extract] at hi
                  have := h5 (k * z + i) (by omega)
                  omega
                · rw [← hes, Array.getElem?_extract] at hv
                  split at hv
                  · refine h6 (k * z + i) v v' hv ?_
                    rw [← hv', Nat.add_assoc]
                  · cases hv
              · omega
          · cases e
        · cases e
      · cases e
    · cases e
  · rename_i cs'
    split at e
    · rename_i u1 r k cs el z by' u2 hta
      cases hq : (Nat.blt r n && isRegB (hget H r)) with
      | false => rw [hq] at e; cases e
      | true =>
        rw [hq] at e
        simp only [cond_true, Option.some.injEq] at e
        subst e
        simp only [Bool.and_eq_true] at hq
        exact ⟨treeApp_does hta (Nat.le_of_ble_eq_true hq.1) hq.2 (hp _ rfl), Shape.new _ _ _ _⟩
    · cases e
  · split at e
    · rename_i sv r k cs el z by' u2 hta
      cases hq : (Nat.blt r n && isRegB (hget H r)) with
      | false => rw [hq] at e; cases e
      | true =>
        rw [hq] at e
        simp only [cond_true, Option.some.injEq] at e
        subst e
        simp only [Bool.and_eq_true] at hq
        exact ⟨treeApp0_does hta (Nat.le_of_ble_eq_true hq.1) hq.2 (hp _ rfl), Shape.same _ _ _⟩
    · cases e
  · rename_i cs'
    split at e
    · rename_i b off k r m cs2 z hta
      split at e
      · rename_i cs te hg
        cases hq : (Nat.blt r n && isRegB (hget H r) && Nat.blt b n) with
        | false => rw [hq] at e; cases e
        | true =>
          rw [hq] at e
          simp only [cond_true, Option.some.injEq] at e
          subst e
          simp only [Bool.and_eq_true] at hq
          have hb := Nat.le_of_ble_eq_true hq.2
          exact ⟨treeCpy_does hta hg (Nat.le_of_ble_eq_true hq.1.1) hq.1.2 hb (hp _ rfl), (Shape.set _ hb).moreR (fun i hi => by simp at hi ⊢; exact .inl hi)⟩
      · cases e
    · cases e
  · rename_i s
    simp only [Option.some.injEq] at e
    subst e
    exact opS_sound hF recS_none (noOrc_ok P B) hu (hp _ rfl)
  · rename_i v
    split at e
    · rename_i op t x y yt hop
      split at e
      · rename_i a b hx hy
        cases hq : (af a && af b && af v) with
        | false => rw [hq] at e; cases e
        | true =>
          rw [hq] at e
          simp only [cond_true, Option.some.injEq] at e
          subst e
          simp only [Bool.and_eq_true] at hq
          have hb := hp _ rfl
          refine ⟨does_val (fun c h => by rw [hop] at h; cases h) fun μ w ρ _ hev => ?_, Shape.same _ _ _⟩
          have e1 := af_eq hq.1.1 (hev x (by simp [hop, Op.operands]) _ hx)
          have e2 := af_eq hq.1.2 (hev y (by simp [hop, Op.operands]) _ hy)
          refine ⟨v, ?_, vr_af hq.2⟩
          simp only [execOp, hop, e1, e2]
          rw [Sem.run_bind, hb x y w]
          rfl
      · cases e
    · cases e
  · rename_i keys out ups n' W
    split at e
    · rename_i c hop
      split at e
      · rename_i g args H1 n1 R W1 hcr
        cases hn : (Nat.beq n1 n && W1.isEmpty) with
        | false => rw [hn] at e; cases e
        | true =>
          rw [hn] at e
          simp only [cond_true] at e
          simp only [Bool.and_eq_true, List.isEmpty_iff] at hn
          obtain ⟨hn1, rfl⟩ := hn
          have hn1 := Nat.eq_of_beq_eq_true hn1
          subst hn1
          split at e
          · rename_i c1 hc1
            simp only [Option.some.injEq] at e
            subst e
            exact callJ_does hF hop hu hcr ((hp _ rfl).callJ hc1)
          · cases e
      · rename_i l fn tm cda cdb H1 n1 R W1 hcr
        cases hn : (Nat.beq n1 n && W1.isEmpty && Nat.ble tm.size 16000) with
        | false => rw [hn] at e; cases e
        | true =>
          rw [hn] at e
          simp only [cond_true, Option.some.injEq] at e
          subst e
          simp only [Bool.and_eq_true, List.isEmpty_iff] at hn
          obtain ⟨⟨hn1, rfl⟩, hsz⟩ := hn
          have hn1 := Nat.eq_of_beq_eq_true hn1
          subst hn1
          have hrec := FJ.recS (hp _ rfl)
          have := opS_sound hF hrec (noOrc_ok P B) hu (T := T) (o := o) (s := ⟨out, ups ++ H1, n', R ++ keys, W⟩) (by
            simp [opS, hop, hcr, hsz, recOne_eq])
          exact this
      · cases e
    · cases e
  · rename_i out fz
    split at e
    · rename_i c hop
      split at e
      · rename_i g args H1 n1 R W1 hcr
        cases hn : (Nat.beq n1 n && W1.isEmpty) with
        | false => rw [hn] at e; cases e
        | true =>
          rw [hn] at e
          simp only [cond_true] at e
          simp only [Bool.and_eq_true, List.isEmpty_iff] at hn
          obtain ⟨hn1, rfl⟩ := hn
          have hn1 := Nat.eq_of_beq_eq_true hn1
          subst hn1
          split at e
          · rename_i ts R2 L hst
            cases hlt : (R2.all fun i => Nat.blt i n1) with
            | false => rw [hlt] at e; cases e
            | true =>
              rw [hlt] at e
              simp only [cond_true] at e
              cases hpl : plainT 2 out with
              | true =>
                rw [hpl] at e
                simp only [cond_true, Option.some.injEq] at e
                subst e
                obtain ⟨hL, hpc⟩ := hp _ rfl
                exact callJ_does hF hop hu hcr (pure_plain hJ hst hL hpc hpl hlt)
              | false =>
                rw [hpl] at e
                simp only [cond_false] at e
                cases hq : ((R2.all fun i => isRegB (hget H1 i)) && okT 4 out) with
                | false => rw [hq] at e; cases e
                | true =>
                  rw [hq] at e
                  simp only [cond_true, Option.some.injEq] at e
                  subst e
                  simp only [Bool.and_eq_true] at hq
                  obtain ⟨hL, hpc⟩ := hp _ rfl
                  exact callJ_does hF hop hu hcr (pure_region hJ hst hL hpc hlt hq.1 hq.2)
          · cases e
      · cases e
    · cases e
  · rename_i out fz
    split at e
    · rename_i c hop
      split at e
      · rename_i g args H1 n1 R W1 hcr
        cases hn : (Nat.beq n1 n && W1.isEmpty) with
        | false => rw [hn] at e; cases e
        | true =>
          rw [hn] at e
          simp only [cond_true] at e
          simp only [Bool.and_eq_true, List.isEmpty_iff] at hn
          obtain ⟨hn1, rfl⟩ := hn
          have hn1 := Nat.eq_of_beq_eq_true hn1
          subst hn1
          split at e
          · rename_i ts R2 L hst
            cases hq : ((R2.all fun i => Nat.blt i n1) && (R2.all fun i => isRegB (hget H1 i) || ownCB (hget H1 i)) && okT 4 out) with
            | false => rw [hq] at e; cases e
            | true =>
              rw [hq] at e
              simp only [cond_true, Option.some.injEq] at e
              subst e
              simp only [Bool.and_eq_true] at hq
              obtain ⟨hL, hpc⟩ := hp _ rfl
              exact callJ_does hF hop hu hcr (pure_regionK hJ hst hL hpc hq.1.1 hq.1.2 hq.2)
          · cases e
      · cases e
    · cases e
  · rename_i κ R ps qs out outs news
    split at e
    · rename_i c hop
      split at e
      · rename_i g args H1 n1 R0 W1 hcr
        cases hn : (Nat.beq n1 n && W1.isEmpty) with
        | false => rw [hn] at e; cases e
        | true =>
          rw [hn] at e
          simp only [cond_true] at e
          simp only [Bool.and_eq_true, List.isEmpty_iff] at hn
          obtain ⟨hn1, rfl⟩ := hn
          have hn1 := Nat.eq_of_beq_eq_true hn1
          subst hn1
          split at e
          · rename_i asx bs o1 ups L hw
            simp only [Option.some.injEq] at e
            subst e
            obtain ⟨hL, hwr⟩ := hp _ rfl
            exact callJ_does hF hop hu hcr (hwr.callJ hJ κ R ps qs hw hL rfl rfl)
          · cases e
      · cases e
    · cases e
  · -- a tree that is not nil
    split at e
    · rename_i op t x y yt hop
      split at e
      · rename_i v hx hy
        split at e
        · rename_i r m cs el htop hue
          cases hq : (Nat.blt r n && isRegB (hget H r)) with
          | false => rw [hq] at e; cases e
          | true =>
            rw [hq] at e
            simp only [cond_true] at e
            simp only [Bool.and_eq_true] at hq
            obtain ⟨hlt, hreg⟩ := hq
            have key : 0 < m → ∀ (μ : Mu) (w : World) (ρ : Operand → Value) (im : Img), μ r = some im → (∀ x' ∈ o.op.operands, ∀ v', evC T x' = some v' → VR μ v' (ρ x')) → ρ y = .slice none 0 0 ∧ ∃ p c, ρ x = .slice (some p) m c := fun hm μ w ρ im him hev => by
              have hv := hev x (by simp [hop, Op.operands]) _ hx
              have h2 := hev y (by simp [hop, Op.operands]) _ hy
              rw [topSl_eq htop] at hv
              obtain ⟨im', him', htr⟩ := hv.top_inv
              have e2 : ρ y = .slice none 0 0 := by generalize ρ y = z at h2; cases h2; rfl
              refine ⟨e2, ?_⟩
              rcases htr.slice_inv with ⟨b, o', c', arr, ty, fl, h1, _, _, _, _, _⟩ | ⟨h0, _⟩
              · exact ⟨_, _, h1⟩
              · omega
            have heq : ∀ (p : Addr) (c : Nat) (w : World), (Op.equal t (.slice (some p) m c) (.slice none 0 0)).run P w = .ok false w := fun p c w => by
              show (Op.equalIn (9999 + 1) t (.slice (some p) m c) (.slice none 0 0)).run P w = .ok false w
              unfold Op.equalIn
              rw [und_eq] at hue
              simp [Sem.run_bind, run_underlying hue, Sem.run_pure]
            split at e
            · rename_i hop2
              simp only [Option.some.injEq] at e
              subst e
              have hm := hp _ rfl
              refine ⟨does_tree (Nat.le_of_ble_eq_true hlt) hreg (fun c h => by rw [hop] at h; cases h) fun μ w ρ im him hf hev => ?_, Shape.same _ _ _⟩
              obtain ⟨e2, p, c, e1⟩ := key hm μ w ρ im him hev
              exact ⟨.bool false, by simp [execOp, hop, e1, e2, eqGuard, binOp, Sem.run_bind, Sem.run_pure, heq], .bool _⟩
            · rename_i hop2
              simp only [Option.some.injEq] at e
              subst e
              have hm := hp _ rfl
              refine ⟨does_tree (Nat.le_of_ble_eq_true hlt) hreg (fun c h => by rw [hop] at h; cases h) fun μ w ρ im him hf hev => ?_, Shape.same _ _ _⟩
              obtain ⟨e2, p, c, e1⟩ := key hm μ w ρ im him hev
              exact ⟨.bool true, by simp [execOp, hop, e1, e2, eqGuard, binOp, Sem.run_bind, Sem.run_pure, heq], .bool _⟩
            · cases e
        · cases e
      · cases e
    · cases e
  · rename_i κ R ps qs out outs news o2
    split at e
    · rename_i c hop
      split at e
      · rename_i g args H1 n1 R0 W1 hcr
        cases hn : (Nat.beq n1 n && W1.isEmpty) with
        | false => rw [hn] at e; cases e
        | true =>
          rw [hn] at e
          simp only [cond_true] at e
          simp only [Bool.and_eq_true, List.isEmpty_iff] at hn
          obtain ⟨hn1, rfl⟩ := hn
          have hn1 := Nat.eq_of_beq_eq_true hn1
          subst hn1
          split at e
          · rename_i asx bs o1 ups L hw
            simp only [Option.some.injEq] at e
            subst e
            obtain ⟨⟨hL, hwr⟩, ho⟩ := hp _ rfl
            subst ho
            exact callJ_does hF hop hu hcr (hwr.callJ hJ κ R ps qs hw hL rfl rfl)
          · cases e
      · cases e
    · cases e
end
end Go.CE
