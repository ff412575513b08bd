/- SF: calls under other numbers of blocks, and entries with blocks. Nothing of any program stands here. -/
import Derived.Test.YtffdidleebognaaDoorZR06
/- SE 7: what is known of a call at blocks that are numbered from 0 on, under whatever other numbers. -/
namespace Go.CE
open Go Go.RowKit

/-! ### Values under other numbers, the other way -/
section
variable {μ μ1 : Mu} {ρ : Nat → Nat} {m : Nat}
theorem rnS_fwd (hμ : ∀ b, b < m → ∀ im, μ b = some im → μ1 (ρ b) = some im) {v v' : Value} (ho : okS m v = true) (h : VR μ v v') : VR μ1 (rnS ρ v) v' := by
  have lt : ∀ {b}, Nat.blt b m = true → b < m := fun h => Nat.le_of_ble_eq_true h
  cases h with
  | bool b => exact .bool b
  | int k n => exact .int k n
  | string s => exact .string s
  | nilPtr => exact .nilPtr
  | ptr har =>
    rename_i a a'
    obtain ⟨im, h1, h2, rfl⟩ := har
    obtain ⟨b, o, sp⟩ := a
    simp only at h2
    subst h2
    exact .ptr ⟨im, hμ b (lt ho) im h1, rfl, rfl⟩
  | nilSlice n c => exact .nilSlice n c
  | slice har q1 q2 q3 =>
    rename_i a a' n s c'
    obtain ⟨im, h1, h2, rfl⟩ := har
    obtain ⟨b, o, sp⟩ := a
    simp only at h2
    subst h2
    have hi1 := hμ b (lt ho) im h1
    refine .slice ⟨im, hi1, rfl, rfl⟩ q1 q2 fun hs im' him' => ?_
    have him' : μ1 (ρ b) = some im' := him'
    rw [hi1] at him'; cases him'
    exact q3 hs im h1
  | nilMap => exact .nilMap
  | map h1 => exact .map (hμ _ (lt ho) _ h1)
  | func h1 h2 h3 h4 =>
    simp only [okS, Bool.and_eq_true] at ho
    have e1 := Array.eq_empty_of_size_eq_zero (Nat.eq_of_beq_eq_true ho.1)
    have e2 := Array.eq_empty_of_size_eq_zero (Nat.eq_of_beq_eq_true ho.2)
    subst e1 e2
    exact .func h1 h2 (fun i v v' hv _ => by simp at hv) (fun i v v' hv _ => by simp at hv)
  | yield h1 => exact .yield (hμ _ (lt ho) _ h1)
  | nilFunc => exact .nilFunc
  | nilIface => exact .nilIface
  | iface h1 => cases ho
  | agg h1 h2 => cases ho
  | tuple h1 h2 => cases ho
  | rawPtr b o k => exact .rawPtr b o k
  | rawSlice b o k n c => exact .rawSlice b o k n c
  | junk a b c => exact .junk a b c
theorem rnV_fwd (hμ : ∀ b, b < m → ∀ im, μ b = some im → μ1 (ρ b) = some im) : ∀ (f : Nat) (v v' : Value), okV m f v = true → VR μ v v' → VR μ1 (rnV ρ f v) v'
  | 0, v, v', ho, h => rnS_fwd hμ ho h
  | f + 1, v, v', ho, h => by
    have arr : ∀ {xs xs' : Array Value}, xs.all (okV m f) = true → (∀ (i : Nat) v v', xs[i]? = some v → xs'[i]? = some v' → VR μ v v') → ∀ (i : Nat) v v', (xs.map (rnV ρ f))[i]? = some v → xs'[i]? = some v' → VR μ1 v v' := by
      intro xs xs' ha hx i v v' hv hv'
      rw [Array.getElem?_map] at hv
      cases hx0 : xs[i]? with
      | none => rw [hx0] at hv; cases hv
      | some x =>
        rw [hx0] at hv
        simp only [Option.map_some, Option.some.injEq] at hv
        subst hv
        exact rnV_fwd hμ f x v' (Array.all_eq_true'.1 ha x (Array.mem_of_getElem? hx0)) (hx i x v' hx0 hv')
    cases v with
    | agg xs =>
      cases h with
      | agg h1 h2 => exact .agg (by simpa using h1) (arr ho h2)
    | tuple xs =>
      cases h with
      | tuple h1 h2 => exact .tuple (by simpa using h1) (arr ho h2)
    | iface t v =>
      cases h with
      | iface h => exact .iface (rnV_fwd hμ f v _ ho h)
    | func fn xs ys =>
      cases fn with
      | func g =>
        simp only [okV, Bool.and_eq_true] at ho
        cases h with
        | func h1 h2 h3 h4 => exact .func (by simpa using h1) (by simpa using h2) (arr ho.1 h3) (arr ho.2 h4)
      | _ => exact rnS_fwd hμ (by exact ho) h
    | _ => exact rnS_fwd hμ (by exact ho) h
end
/-- An object and what it is under other numbers. -/
inductive RF1 (ρ : Nat → Nat) (m : Nat) : Obj → Obj → Prop
  | same {cs t fz} : (∀ v ∈ cs, Loose v) → RF1 ρ m (.cells cs t fz) (.cells cs t fz)
  | ren {cs t fz} : cs.all (okV m 3) = true → RF1 ρ m (.cells cs t fz) (.cells (cs.map (rnV ρ 3)) t fz)
  | fix {a o} : (∀ b, b < a → ρ b = b) → a ≤ m → FixO a o → RF1 ρ m o o
theorem RF1.live {ρ : Nat → Nat} {m : Nat} {o o1 : Obj} (h : RF1 ρ m o o1) : CE.live o ∧ CE.live o1 := by
  cases h with
  | fix _ _ h =>
    have : CE.live o := by cases o <;> first | trivial | exact h.elim
    exact ⟨this, this⟩
  | _ => exact ⟨trivial, trivial⟩
theorem RF1.fwd {ρ : Nat → Nat} {m : Nat} {μ μ1 : Mu} {w : World} {im : Img} {o o1 : Obj} (h : RF1 ρ m o o1) (hμ : ∀ b, b < m → ∀ im, μ b = some im → μ1 (ρ b) = some im) (hor : OR μ w im o) : OR μ1 w im o1 := by
  cases h with
  | fix hid hle hfix =>
    rename_i a
    exact (RO.fix (ρ := fun b => b) (m := a) (fun _ _ => rfl) (Nat.le_refl _) hfix).or (fun b hb im him => by
      have := hμ b (by omega) im him
      rwa [hid b hb] at this) hor
  | same ha =>
    rename_i cs t fz
    have key : ∀ (i : Nat) v v', cs[i]? = some v → VR μ v v' → VR μ1 v v' := fun i v v' hv hr => ha v (Array.mem_of_getElem? hv) _ _ _ hr
    rcases hor with ⟨h1, h2, h3, arr, h4, h5, h6, h7⟩ | ⟨h1, h2⟩
    · exact .inl ⟨h1, h2, h3, arr, h4, h5, h6, fun i v hv => let ⟨v', a, b⟩ := h7 i v hv; ⟨v', a, key i v v' hv b⟩⟩
    · exact .inr ⟨h1, fun i v hv => let ⟨v', a, b⟩ := h2 i v hv; ⟨v', a, key i v v' hv b⟩⟩
  | ren ha =>
    rename_i cs t fz
    have get : ∀ (i : Nat) u, (cs.map (rnV ρ 3))[i]? = some u → ∃ v, cs[i]? = some v ∧ u = rnV ρ 3 v := by
      intro i u hu
      rw [Array.getElem?_map] at hu
      cases hx : cs[i]? with
      | none => rw [hx] at hu; cases hu
      | some x => rw [hx] at hu; simp only [Option.map_some, Option.some.injEq] at hu; exact ⟨x, rfl, hu.symm⟩
    have key : ∀ (i : Nat) v v', cs[i]? = some v → VR μ v v' → VR μ1 (rnV ρ 3 v) v' := fun i v v' hv hr =>
      rnV_fwd hμ 3 v v' (Array.all_eq_true'.1 ha v (Array.mem_of_getElem? hv)) hr
    rcases hor with ⟨h1, h2, h3, arr, h4, h5, h6, h7⟩ | ⟨h1, h2⟩
    · refine .inl ⟨h1, h2, h3, arr, h4, by simpa using h5, h6, fun i u hu => ?_⟩
      obtain ⟨v, hv, rfl⟩ := get i u hu
      obtain ⟨v', a, b⟩ := h7 i v hv
      exact ⟨v', a, key i v v' hv b⟩
    · refine .inr ⟨h1, fun i u hu => ?_⟩
      obtain ⟨v, hv, rfl⟩ := get i u hu
      obtain ⟨v', a, b⟩ := h2 i v hv
      exact ⟨v', a, key i v v' hv b⟩
theorem RF1.bwd {ρ : Nat → Nat} {m : Nat} {μ μ1 : Mu} {w : World} {im : Img} {o o1 : Obj} (h : RF1 ρ m o o1) (hμ : ∀ b, b < m → ∀ im, μ (ρ b) = some im → μ1 b = some im) (hor : OR μ w im o1) : OR μ1 w im o := by
  cases h with
  | same ha => exact (RO.same (ρ := ρ) (m := m) ha).or hμ hor
  | ren ha => exact (RO.ren (ρ := ρ) (m := m) ha).or hμ hor
  | fix hid hle hfix => exact (RO.fix (ρ := ρ) (m := m) hid hle hfix).or hμ hor

/-- What a call comes to where its blocks are 0, 1 .. a - 1. -/
structure StdJ (P : Program) (B : Lo) (g : FuncId) (args : Array Value) (H0 : Heap) (a : Nat) (out : Value) (H' : Heap) (n' : Nat) (W : List Nat) : Prop where
  under : Under H' n'
  le : a ≤ n'
  sem : ∀ (μ : Mu) (w : World) (args' : Array Value) (cs : List Frame), Ok B (fun i => i < a) μ (hget H0) w → B.has w → (∀ i, a ≤ i → μ i = none) → VRs μ args args' →
    ∃ out' w' μ', Post B (fun i => i < a) a n' W μ μ' H0 H' w w' ∧ OR2 μ' (.ret out) out' ∧ EndsAs P (Frame.enter P g args' .normal) cs w out' w'
/-- Numbers from 0 on to those of a heap: given ones, and then new ones. -/
def rhoS (l : List Nat) (n : Nat) (i : Nat) : Nat := match nth l i with
  | some k => k
  | none => n + (i - l.length)
theorem rhoS_old {l : List Nat} {n i k : Nat} (h : l[i]? = some k) : rhoS l n i = k := by unfold rhoS; rw [nth_eq, h]
theorem rhoS_new {l : List Nat} {n i : Nat} (h : l.length ≤ i) : rhoS l n i = n + (i - l.length) := by unfold rhoS; rw [nth_eq, List.getElem?_eq_none h]
/-- What frames come to that begin as told, where blocks are 0, 1 .. a - 1. -/
structure StdX (P : Program) (B : Lo) (St : Mu → Frame → Prop) (H0 : Heap) (a : Nat) (out : Value) (H' : Heap) (n' : Nat) (W : List Nat) : Prop where
  under : Under H' n'
  le : a ≤ n'
  sem : ∀ (μ : Mu) (w : World) (fr : Frame) (cs : List Frame), Ok B (fun i => i < a) μ (hget H0) w → B.has w → (∀ i, a ≤ i → μ i = none) → St μ fr →
    ∃ out' w' μ', Post B (fun i => i < a) a n' W μ μ' H0 H' w w' ∧ OR2 μ' (.ret out) out' ∧ EndsAs P fr cs w out' w'
/-- The same in a heap that has these blocks under other numbers, l. -/
theorem StdX.any {P : Program} {B : Lo} {St St' : Mu → Frame → Prop} {H0 H' : Heap} {a n' : Nat} {out : Value} {W : List Nat} (h : StdX P B St H0 a out H' n' W) {l : List Nat} {Hs : List (Nat × Option Obj)} {n : Nat} {ups : Heap} (hla : l.length = a) (hln : ∀ k ∈ l, k < n) (hd : distinct l = true)
    (hHs : ∀ k ∈ l, k ∈ Hs.map (·.1))
    (hobj : ∀ (i k : Nat) o, l[i]? = some k → hget H0 i = some o → live o → ∃ o1, (k, some o1) ∈ Hs ∧ RF1 (rhoS l n) a o o1)
    (hSt : ∀ μ μ0 fr, (∀ b, b < a → ∀ im, μ (rhoS l n b) = some im → μ0 b = some im) → St' μ fr → St μ0 fr) (hout : okV n' 3 out = true)
    (hups : ∀ i o1, hget ups i = some o1 → live o1 → ∃ j o, (a ≤ j ∧ j < n' ∨ j < a ∧ j ∈ W) ∧ i = rhoS l n j ∧ hget H' j = some o ∧ RF1 (rhoS l n) n' o o1)
    (hupw : ∀ j, j < a → j ∈ W → ∃ o1, hget ups (rhoS l n j) = some o1) (hupo : ∀ i o1, hget ups i = some o1 → ∃ j, (a ≤ j ∧ j < n' ∨ j < a ∧ j ∈ W) ∧ i = rhoS l n j) :
    ∀ H, Under H n → (∀ p ∈ Hs, hget H p.1 = p.2) → Shape H n (ups ++ H) (n + (n' - a)) (Hs.map (·.1)) ((W.filter (fun j => Nat.blt j a)).map (rhoS l n)) ∧
      ∀ (S : Nat → Prop) (μ : Mu) (w : World) (fr : Frame) (cs : List Frame), Ok B S μ (hget H) w → B.has w → (∀ i, S i → i < n) → Free μ n (n + (n' - a)) → St' μ fr → (∀ i ∈ Hs.map (·.1), i < n → S i) →
        ∃ out' w' μ', Post B S n (n + (n' - a)) ((W.filter (fun j => Nat.blt j a)).map (rhoS l n)) μ μ' H (ups ++ H) w w' ∧ OR2 μ' (.ret (rnV (rhoS l n) 3 out)) out' ∧ EndsAs P fr cs w out' w' := by
  intro H hu hH
  have hle := h.le
  have rold : ∀ i, i < a → ∃ k, l[i]? = some k ∧ rhoS l n i = k ∧ k < n := fun i hi => by
    have : i < l.length := by omega
    exact ⟨l[i], by simp [this], rhoS_old (by simp [this]), hln _ (List.getElem_mem this)⟩
  have rnew : ∀ i, a ≤ i → rhoS l n i = n + (i - a) := fun i hi => by rw [rhoS_new (by omega), hla]
  have rinj : ∀ i j, rhoS l n i = rhoS l n j → i = j := by
    intro i j e
    rcases Nat.lt_or_ge i a with hi | hi <;> rcases Nat.lt_or_ge j a with hj | hj
    · obtain ⟨k, h1, h2, _⟩ := rold i hi
      obtain ⟨k', h3, h4, _⟩ := rold j hj
      rw [h2, h4] at e
      subst e
      exact distinct_inj hd i j k h1 h3
    · obtain ⟨k, _, h2, h3⟩ := rold i hi
      rw [h2, rnew j hj] at e; omega
    · obtain ⟨k, _, h2, h3⟩ := rold j hj
      rw [h2, rnew i hi] at e; omega
    · rw [rnew i hi, rnew j hj] at e; omega
  have hW' : ∀ i, i ∈ (W.filter (fun j => Nat.blt j a)).map (rhoS l n) ↔ ∃ j, j ∈ W ∧ j < a ∧ i = rhoS l n j := by
    intro i
    simp only [List.mem_map, List.mem_filter]
    constructor
    · rintro ⟨j, ⟨h1, h2⟩, rfl⟩
      exact ⟨j, h1, Nat.le_of_ble_eq_true h2, rfl⟩
    · rintro ⟨j, h1, h2, rfl⟩
      exact ⟨j, ⟨h1, Nat.ble_eq_true_of_le h2⟩, rfl⟩
  have hgold : ∀ i, (∀ j, (a ≤ j ∧ j < n' ∨ j < a ∧ j ∈ W) → i ≠ rhoS l n j) → hget (ups ++ H) i = hget H i := by
    intro i hi
    rw [hget_append]
    cases hg : hget ups i with
    | none => rfl
    | some o1 =>
      obtain ⟨j, h1, h2⟩ := hupo i o1 hg
      exact absurd h2 (hi j h1)
  refine ⟨⟨by omega, fun i hi hw => hgold i fun j hj e => ?_, fun i hi => hgold i fun j hj e => ?_, fun i hi => ?_, fun i hi => ?_⟩, fun S μ w fr cs hok hB hS hf hv hR => ?_⟩
  · rcases hj with hj | hj
    · rw [rnew j hj.1] at e; omega
    · exact hw ((hW' i).2 ⟨j, hj.2, hj.1, e⟩)
  · rcases hj with hj | hj
    · rw [rnew j hj.1] at e; omega
    · obtain ⟨k, _, h2, h3⟩ := rold j hj.1
      omega
  · obtain ⟨j, _, h2, rfl⟩ := (hW' i).1 hi
    obtain ⟨k, h3, h4, _⟩ := rold j h2
    rw [h4]
    exact hHs k (List.mem_of_getElem? h3)
  · obtain ⟨j, _, h2, rfl⟩ := (hW' i).1 hi
    obtain ⟨k, _, h4, h5⟩ := rold j h2
    omega
  · -- the semantics
    let μ0 : Mu := fun i => if i < a then μ (rhoS l n i) else none
    have hμ0 : ∀ b, b < a → ∀ im, μ (rhoS l n b) = some im → μ0 b = some im := fun b hb im him => by simp only [μ0, if_pos hb]; exact him
    have hμ0' : ∀ b im, μ0 b = some im → b < a ∧ μ (rhoS l n b) = some im := fun b im him => by
      simp only [μ0] at him
      split at him
      · exact ⟨by assumption, him⟩
      · cases him
    have hSk : ∀ i, i < a → S (rhoS l n i) := fun i hi => by
      obtain ⟨k, h1, h2, h3⟩ := rold i hi
      rw [h2]
      exact hR k (hHs k (List.mem_of_getElem? h1)) h3
    have hgH : ∀ i o, i < a → hget H0 i = some o → live o → ∃ o1, hget H (rhoS l n i) = some o1 ∧ RF1 (rhoS l n) a o o1 := fun i o hi ho hl => by
      obtain ⟨k, h1, h2, _⟩ := rold i hi
      obtain ⟨o1, h3, h4⟩ := hobj i k o h1 ho hl
      exact ⟨o1, by rw [h2]; exact hH _ h3, h4⟩
    have hok0 : Ok B (fun i => i < a) μ0 (hget H0) w := by
      refine ⟨fun i o hi ho hl => ?_, fun i o im hi ho hl him => ?_, fun i j oi oj x y hi hj hij hoi hoj hli hlj hx hy hrx hry => ?_⟩
      · obtain ⟨o1, h1, h2⟩ := hgH i o hi ho hl
        obtain ⟨im, h3, h4⟩ := hok.rel _ o1 (hSk i hi) h1 h2.live.2
        exact ⟨im, hμ0 i hi im h3, h2.bwd hμ0 h4⟩
      · obtain ⟨o1, h1, h2⟩ := hgH i o hi ho hl
        exact hok.low _ o1 im (hSk i hi) h1 h2.live.2 (hμ0' i im him).2
      · obtain ⟨o1, h1, h2⟩ := hgH i oi hi hoi hli
        obtain ⟨o2, h3, h4⟩ := hgH j oj hj hoj hlj
        exact hok.inj _ _ o1 o2 x y (hSk i hi) (hSk j hj) (fun e => hij (rinj i j e)) h1 h3 h2.live.2 h4.live.2 (hμ0' i x hx).2 (hμ0' j y hy).2 hrx hry
    have hv0 : St μ0 fr := hSt μ μ0 fr hμ0 hv
    obtain ⟨out', w', μ', hp, ho, he⟩ := h.sem μ0 w fr cs hok0 hB (fun i hi => by simp only [μ0, if_neg (show ¬ i < a by omega)]) hv0
    let μ1 : Mu := fun i => if n ≤ i ∧ i < n + (n' - a) then μ' (a + (i - n)) else μ i
    have hμ1 : ∀ b, b < n' → ∀ im, μ' b = some im → μ1 (rhoS l n b) = some im := by
      intro b hb im him
      rcases Nat.lt_or_ge b a with h1 | h1
      · obtain ⟨k, _, h3, h4⟩ := rold b h1
        have : μ1 (rhoS l n b) = μ (rhoS l n b) := by simp only [μ1, h3]; rw [if_neg (by omega)]
        rw [this]
        rw [hp.ext b (by omega)] at him
        exact (hμ0' b im him).2
      · have h3 := rnew b h1
        simp only [μ1, h3]
        rw [if_pos (by omega), show a + (n + (b - a) - n) = b by omega]
        exact him
    have hext : Ext μ μ1 := by
      intro i im him
      simp only [μ1]
      by_cases hi : n ≤ i ∧ i < n + (n' - a)
      · rw [hf i hi.1 hi.2] at him; cases him
      · rw [if_neg hi]; exact him
    -- the blocks of the new heap
    have split : ∀ i o1, (S i ∨ n ≤ i ∧ i < n + (n' - a)) → hget (ups ++ H) i = some o1 → live o1 →
        (S i ∧ hget H i = some o1 ∧ ∀ j, j < a → j ∈ W → i ≠ rhoS l n j) ∨ ∃ j o, (a ≤ j ∧ j < n' ∨ j < a ∧ j ∈ W) ∧ i = rhoS l n j ∧ hget H' j = some o ∧ RF1 (rhoS l n) n' o o1 := by
      intro i o1 hi hg hl
      rw [hget_append] at hg
      cases hgu : hget ups i with
      | some x =>
        rw [hgu] at hg
        cases hg
        exact .inr (hups i o1 hgu hl)
      | none =>
        rw [hgu] at hg
        have hlt := hu.lt hg
        refine .inl ⟨hi.elim id fun e => by omega, hg, fun j hj hw e => ?_⟩
        obtain ⟨x, hx⟩ := hupw j hj hw
        rw [← e, hgu] at hx
        cases hx
    have frame : ∀ i o im, S i → hget H i = some o → live o → μ i = some im → (∀ j, j < a → j ∈ W → i ≠ rhoS l n j) → w'.heap[im.blk]? = w.heap[im.blk]? := by
      intro i o im hi ho hl him hne
      refine hp.frame _ (hok.low i o im hi ho hl him).1 fun q hq hqa im' him' hb => ?_
      obtain ⟨hqa', ⟨oq, hoq, hlq⟩, im2, him2, hr⟩ := hp.wr q hq hqa
      rw [him'] at him2; cases him2
      obtain ⟨o2, h3, h4⟩ := hgH q oq hqa hoq hlq
      have hmq := (hμ0' q im' him').2
      by_cases hra : im.rw = true
      · exact hok.inj _ i o2 o im' im (hSk q hqa) hi (fun e => hne q hqa hq e.symm) h3 ho h4.live.2 hl hmq him hr hra hb
      · have x := (hok.low i o im hi ho hl him).2.2 (by simpa using hra)
        have y := (hok.low _ o2 im' (hSk q hqa) h3 h4.live.2 hmq).2.1 hr
        omega
    have hSj : ∀ j, (a ≤ j ∧ j < n' ∨ j < a ∧ j ∈ W) → (j < a ∨ a ≤ j ∧ j < n') := fun j hj => hj.elim .inr fun e => .inl e.1
    have hjn : ∀ j, (a ≤ j ∧ j < n' ∨ j < a ∧ j ∈ W) → j < n' := fun j hj => hj.elim And.right fun e => by omega
    have hμj : ∀ j im, (a ≤ j ∧ j < n' ∨ j < a ∧ j ∈ W) → μ1 (rhoS l n j) = some im → μ' j = some im := by
      intro j im hj him
      rcases hj with hj | hj
      · have h3 := rnew j hj.1
        simp only [μ1, h3] at him
        rw [if_pos (by omega), show a + (n + (j - a) - n) = j by omega] at him
        exact him
      · obtain ⟨k, _, h3, h4⟩ := rold j hj.1
        simp only [μ1, h3] at him
        rw [if_neg (by omega), ← h3] at him
        rw [hp.ext j (by omega)]
        exact hμ0 j hj.1 im him
    have hμold : ∀ i, S i → μ1 i = μ i := fun i hi => by have := hS i hi; simp only [μ1]; rw [if_neg (by omega)]
    have oldnew : ∀ i j oi oj im jm, S i → hget H i = some oi → live oi → (∀ q, q < a → q ∈ W → i ≠ rhoS l n q) → μ i = some im → im.rw = true → (a ≤ j ∧ j < n' ∨ j < a ∧ j ∈ W) → hget H' j = some oj → live oj → μ' j = some jm → jm.rw = true → im.blk ≠ jm.blk := by
      intro i j oi oj im jm hi hoi hli hne him hri hj hoj hlj hjm hrj e
      have hlt := (hok.low i oi im hi hoi hli him).1
      have oldq : ∀ q, q < a → q ∈ W → ∀ qm, μ' q = some qm → qm.blk ≠ im.blk := by
        intro q hqa hqw qm hqm e2
        obtain ⟨_, ⟨oq, hoq, hlq⟩, im2, him2, hr2⟩ := hp.wr q hqw hqa
        rw [hp.ext q (by omega), him2] at hqm
        cases hqm
        obtain ⟨o2, h3, h4⟩ := hgH q oq hqa hoq hlq
        exact hok.inj _ i o2 oi _ im (hSk q hqa) hi (fun e => hne q hqa hqw e.symm) h3 hoi h4.live.2 hli (hμ0' q _ him2).2 him hr2 hri e2
      rcases hj with hj | hj
      · obtain ⟨_, hfr⟩ := hp.fresh j jm oj hj.1 hj.2 hoj hlj hjm
        rcases hfr with hfr | ⟨q, hq, hqa, ⟨im', him', hb⟩, _⟩
        · omega
        · exact oldq q hqa hq im' (by rw [hp.ext q (by omega)]; exact him') (by omega)
      · exact oldq j hj.1 hj.2 jm hjm e.symm
    refine ⟨out', w', μ1, ⟨⟨fun i o1 hi hg hl => ?_, fun i o1 im hi hg hl him => ?_, fun i j oi oj x y hi hj hij hoi hoj hli hlj hx hy hrx hry => ?_⟩, by omega, fun i hi => by simp only [μ1]; rw [if_neg hi], fun i hi hw => hgold i fun j hj e => ?_, hp.grow, fun b hb hw => ?_, fun i hi hlt => ?_, fun i im o1 h1 h2 hg hl him => ?_, hp.os, hp.tape, hp.output⟩, ?_, he⟩
    · rcases split i o1 hi hg hl with ⟨h1, h2, h3⟩ | ⟨j, o, h1, rfl, h2, h3⟩
      · obtain ⟨im, h4, h5⟩ := hok.rel i o1 h1 h2 hl
        exact ⟨im, hext _ _ h4, h5.keep hext (frame i o1 im h1 h2 hl h4 h3)⟩
      · obtain ⟨im, h4, h5⟩ := hp.ok.rel j o (hSj j h1) h2 h3.live.1
        exact ⟨im, hμ1 j (hjn j h1) im h4, h3.fwd hμ1 h5⟩
    · rcases split i o1 hi hg hl with ⟨h1, h2, h3⟩ | ⟨j, o, h1, rfl, h2, h3⟩
      · rw [hμold i h1] at him
        have := hok.low i o1 im h1 h2 hl him
        exact ⟨Nat.lt_of_lt_of_le this.1 hp.grow, this.2⟩
      · exact hp.ok.low j o im (hSj j h1) h2 h3.live.1 (hμj j im h1 him)
    · rcases split i oi hi hoi hli with ⟨h1, h2, h3⟩ | ⟨q, o, h1, e1, h2, h3⟩ <;> rcases split j oj hj hoj hlj with ⟨k1, k2, k3⟩ | ⟨r, o', k1, e2, k2, k3⟩
      · rw [hμold i h1] at hx
        rw [hμold j k1] at hy
        exact hok.inj i j oi oj x y h1 k1 hij h2 k2 hli hlj hx hy hrx hry
      · rw [hμold i h1] at hx
        rw [e2] at hy
        exact oldnew i r oi o' x y h1 h2 hli h3 hx hrx k1 k2 k3.live.1 (hμj r y k1 hy) hry
      · rw [hμold j k1] at hy
        rw [e1] at hx
        exact fun e => oldnew j q oj o y x k1 k2 hlj k3 hy hry h1 h2 h3.live.1 (hμj q x h1 hx) hrx e.symm
      · rw [e1] at hx
        rw [e2] at hy
        exact hp.ok.inj q r o o' x y (hSj q h1) (hSj r k1) (fun e => hij (by rw [e1, e2, e])) h2 k2 h3.live.1 k3.live.1 (hμj q x h1 hx) (hμj r y k1 hy) hrx hry
    · rcases hj with hj | hj
      · rw [rnew j hj.1] at e; omega
      · exact hw ((hW' i).2 ⟨j, hj.2, hj.1, e⟩)
    · refine hp.frame b hb fun q hq hqa im him => ?_
      obtain ⟨k, _, h3, h4⟩ := rold q hqa
      exact hw (rhoS l n q) ((hW' _).2 ⟨q, hq, hqa, rfl⟩) (by omega) im (hμ0' q im him).2
    · obtain ⟨q, hq, hqa, rfl⟩ := (hW' i).1 hi
      obtain ⟨_, ⟨oq, hoq, hlq⟩, im, him, hr⟩ := hp.wr q hq hqa
      obtain ⟨o2, h3, h4⟩ := hgH q oq hqa hoq hlq
      exact ⟨hSk q hqa, ⟨o2, h3, h4.live.2⟩, im, (hμ0' q im him).2, hr⟩
    · rcases split i o1 (.inr ⟨h1, h2⟩) hg hl with ⟨k1, _, _⟩ | ⟨j, o, k1, rfl, k2, k3⟩
      · have := hS i k1; omega
      · have hja : a ≤ j ∧ j < n' := by
          rcases k1 with k1 | k1
          · exact k1
          · obtain ⟨k, _, h3, h4⟩ := rold j k1.1
            omega
        obtain ⟨hr, hfr⟩ := hp.fresh j im o hja.1 hja.2 k2 k3.live.1 (hμj j im k1 him)
        refine ⟨hr, hfr.imp id fun ⟨q, hq, hqa, ⟨im', him', hb⟩, hdead⟩ => ?_⟩
        obtain ⟨k, _, h3, h4⟩ := rold q hqa
        refine ⟨rhoS l n q, (hW' _).2 ⟨q, hq, hqa, rfl⟩, by omega, ⟨im', (hμ0' q im' him').2, hb⟩, fun oq hoq hlq => ?_⟩
        rcases split (rhoS l n q) oq (.inl (hSk q hqa)) hoq hlq with ⟨_, _, e3⟩ | ⟨j', o', _, e1, e2, e3⟩
        · exact absurd rfl (e3 q hqa hq)
        · have := rinj _ _ e1
          subst this
          exact hdead o' e2 e3.live.1
    · cases ho with
      | ret hvr => exact .ret (rnV_fwd hμ1 3 out _ hout hvr)
/-- The same call in a heap that has these blocks under other numbers, l. -/
theorem StdJ.cj {P : Program} {B : Lo} {g : FuncId} {args : Array Value} {H0 H' : Heap} {a n' : Nat} {out : Value} {W : List Nat} (h : StdJ P B g args H0 a out H' n' W) {l : List Nat} {Hs : List (Nat × Option Obj)} {n : Nat} {ups : Heap} (hla : l.length = a) (hln : ∀ k ∈ l, k < n) (hd : distinct l = true)
    (hHs : ∀ k ∈ l, k ∈ Hs.map (·.1))
    (hobj : ∀ (i k : Nat) o, l[i]? = some k → hget H0 i = some o → live o → ∃ o1, (k, some o1) ∈ Hs ∧ RF1 (rhoS l n) a o o1)
    (hargs : args.all (okV a 3) = true) (hout : okV n' 3 out = true)
    (hups : ∀ i o1, hget ups i = some o1 → live o1 → ∃ j o, (a ≤ j ∧ j < n' ∨ j < a ∧ j ∈ W) ∧ i = rhoS l n j ∧ hget H' j = some o ∧ RF1 (rhoS l n) n' o o1)
    (hupw : ∀ j, j < a → j ∈ W → ∃ o1, hget ups (rhoS l n j) = some o1) (hupo : ∀ i o1, hget ups i = some o1 → ∃ j, (a ≤ j ∧ j < n' ∨ j < a ∧ j ∈ W) ∧ i = rhoS l n j) :
    CJ P B g (args.map (rnV (rhoS l n) 3)) Hs n (rnV (rhoS l n) 3 out) ups (n + (n' - a)) ((W.filter (fun j => Nat.blt j a)).map (rhoS l n)) := by
  intro H hu hH
  have hx : StdX P B (fun μ fr => ∃ args', VRs μ args args' ∧ fr = Frame.enter P g args' .normal) H0 a out H' n' W := ⟨h.under, h.le, fun μ w fr cs hok hB hf ⟨args', hv, e⟩ => by
    subst e
    exact h.sem μ w args' cs hok hB hf hv⟩
  obtain ⟨h1, h2⟩ := hx.any (St' := fun μ fr => ∃ args', VRs μ (args.map (rnV (rhoS l n) 3)) args' ∧ fr = Frame.enter P g args' .normal) hla hln hd hHs hobj (fun μ μ0 fr hμ0 ⟨args', hv, e⟩ => ⟨args', ⟨by simpa using hv.1, fun i v v' hvi hvi' =>
    rnV_VR hμ0 3 v v' (Array.all_eq_true'.1 hargs v (Array.mem_of_getElem? hvi)) (hv.2 i _ v' (map_get hvi) hvi')⟩, e⟩) hout hups hupw hupo H hu hH
  exact ⟨h1, fun S μ w args' cs hok hB hS hf hv hR => h2 S μ w _ cs hok hB hS hf ⟨args', hv, rfl⟩ hR⟩
end Go.CE
/- SE 8: runs from an entry at which there are blocks; what is written of them. -/
namespace Go.CE
open Go Go.RowKit

theorem Post.widen {B n n' : Nat} {S : Nat → Prop} {W W' : List Nat} {μ μ' : Mu} {H H' : Heap} {w w' : World} (hok : Ok B S μ (hget H) w) (h : Post B S n n' W μ μ' H H' w w') (hW : ∀ i, i < n → i ∈ W → i ∈ W') (hw : ∀ i, i < n → i ∈ W' → S i ∧ ∃ o, hget H i = some o ∧ live o ∧ ∀ im, μ i = some im → im.rw = true) : Post B S n n' W' μ μ' H H' w w' :=
  ⟨h.ok, h.le, h.ext, fun i hi hw' => h.keep i hi fun e => hw' (hW i hi e), h.grow, fun b hb hx => h.frame b hb fun i hi hl => hx i (hW i hl hi) hl, fun i hi hl => by
    obtain ⟨hs, o, hg, hl', hr⟩ := hw i hl hi
    obtain ⟨im, him, _⟩ := hok.rel i _ hs hg hl'
    exact ⟨hs, ⟨o, hg, hl'⟩, im, him, hr im him⟩, fun i im o h1 h2 ho hl hm => by
    obtain ⟨hr, hf⟩ := h.fresh i im o h1 h2 ho hl hm
    exact ⟨hr, hf.imp id fun ⟨k, a, b, d⟩ => ⟨k, hW k b a, b, d⟩⟩, h.os, h.tape, h.output⟩
/-- The same of blocks of which some have numbers below a in them alone. -/
def OkB (a m : Nat) : List (Bool × Obj) → Prop
  | [] => True
  | b :: l => (b.1 = true ∧ okO m b.2 = true ∨ b.1 = false ∧ (looseO b.2 ∨ FixO a b.2)) ∧ OkB a m l
theorem OkB.kz {a m : Nat} {ρ : Nat → Nat} (hid : ∀ b, b < a → ρ b = b) (ham : a ≤ m) : ∀ (olds : List Nat) (os : List (Bool × Obj)), OkB a m os → ∀ k ∈ kz olds os, RO ρ m k.o (wasK ρ k)
  | [], os, _, k, hk => by cases os <;> simp [CE.kz] at hk
  | _ :: _, [], _, k, hk => by simp [CE.kz] at hk
  | x :: l, b :: os, h, k, hk => by
    simp only [CE.kz, List.mem_cons] at hk
    rcases hk with rfl | hk
    · rcases h.1 with h1 | ⟨h1, h2 | h2⟩
      · exact ro_of (.inl h1)
      · exact ro_of (.inr ⟨h1, h2⟩)
      · simp only [wasK, h1, cond_false]
        exact .fix hid ham h2
    · exact OkB.kz hid ham l os h.2 k hk
def Writable (H0 : Heap) (a : Nat) (Wf : List Nat) : Prop := ∀ i, i < a → i ∈ Wf → (∃ cs t, hget H0 i = some (.cells cs t (0, 0))) ∨ (∃ r, hget H0 i = some (.loop r)) ∨ ∃ es clk, hget H0 i = some (.map es clk)
theorem Writable.rw {B : Nat} {μ : Mu} {H0 : Heap} {a : Nat} {Wf : List Nat} {w : World} (h : Writable H0 a Wf) (hok : Ok B (fun i => i < a) μ (hget H0) w) {i : Nat} (hi : i < a) (hw : i ∈ Wf) : i < a ∧ ∃ o, hget H0 i = some o ∧ live o ∧ ∀ im, μ i = some im → im.rw = true := by
  rcases h i hi hw with ⟨cs, t, hg⟩ | ⟨r, hg⟩ | ⟨es, clk, hg⟩
  · refine ⟨hi, _, hg, trivial, fun im him => ?_⟩
    obtain ⟨im', him', hor⟩ := hok.rel i _ hi hg trivial
    rw [him] at him'; cases him'
    rcases hor with ⟨_, h, _⟩ | ⟨h, _⟩
    · exact h
    · exact absurd rfl h
  · refine ⟨hi, _, hg, trivial, fun im him => ?_⟩
    obtain ⟨im', him', hor⟩ := hok.rel i _ hi hg trivial
    rw [him] at him'; cases him'
    exact hor.1
  · refine ⟨hi, _, hg, trivial, fun im him => ?_⟩
    obtain ⟨im', him', hor⟩ := hok.rel i _ hi hg trivial
    rw [him] at him'; cases him'
    exact hor.1
/-! ### Heaps of blocks in a row -/
theorem heapO_get : ∀ (l : List (Bool × Obj)) (i j : Nat), hget (heapO i l) j = if i ≤ j then (l[j - i]?).map (·.2) else none
  | [], i, j => by simp [heapO, hget]
  | b :: l, i, j => by
    simp only [heapO, hget_cons]
    by_cases h : j = i
    · subst h; simp
    · rw [if_neg h, heapO_get l (i + 1) j]
      by_cases h2 : i ≤ j
      · rw [if_pos (by omega), if_pos h2, show j - i = (j - (i + 1)) + 1 by omega]
        rfl
      · rw [if_neg (by omega), if_neg h2]
theorem under_heapO (l : List (Bool × Obj)) {n : Nat} (h : l.length ≤ n) : Under (heapO 0 l) n := fun i hi => by
  rw [heapO_get, if_pos (Nat.zero_le _), List.getElem?_eq_none (by omega)]; rfl
theorem writable_nil (H0 : Heap) (a : Nat) : Writable H0 a [] := fun i _ h => by simp at h
/-! ### Frames of rounds -/
def headR (ro : Option Nat) (f : FuncId) (len : Nat) (live : List (Nat × Value)) (d : Nat → Value) (todo : List Item) : CF := ⟨f, mkT len live d, todo, [], .run, ro⟩
theorem GoE.compactR {P : Program} {B : Lo} {c0 c' : CF} {H0 H' H1 : Heap} {n n' n1 : Nat} {W W1 : List Nat} {ρ : Nat → Nat} {len : Nat} {live : List (Nat × Value)} {todo : List Item} {f : FuncId} {ro : Option Nat} (h : GoE P B c0 H0 n c' H' n' W) (hW : ∀ i, i < n → (i ∈ W1 ↔ i ∈ W)) (k : Keeps n n' n1 W1 H0 H' H1 ρ)
    (hfn : c'.fn = f) (hlen : c'.tmps.len = len) (hl : len ≤ 16000) (htodo : c'.todo = todo) (hplain : todo.all plainItem = true) (hds : c'.defers = []) (hm : c'.mode = .run) (hr : c'.roundOf = ro) (hro : ∀ l, ro = some l → l < n)
    (hlive : ∀ p ∈ live, okV n1 3 p.2 = true ∧ tget c'.tmps p.1 = rnV ρ 3 p.2) :
    ∃ d : Nat → Value, (∀ t, Loose (d t)) ∧ GoE P B c0 H0 n (headR ro f len live d todo) H1 n1 W1 := by
  have hd : ∀ t, ∃ d, Loose d ∧ ∀ μ v', VR μ (tget c'.tmps t) v' → VR μ d v' := fun t => forget_ex _
  refine ⟨fun t => Classical.choose (hd t), fun t => (Classical.choose_spec (hd t)).1, k.under, k.le, fun μ w fr cs hok hB hf hfr => ?_⟩
  obtain ⟨fr', w', μ', hp, hfr', a, b, hst⟩ := h.sem μ w fr cs hok hB hf hfr
  obtain ⟨hp1, hmu⟩ := (hp.lists hW).compact hok hf k
  have hpans : c'.mode.pans = false := by rw [hm]; rfl
  refine ⟨fr', w', _, hp1, ⟨by rw [hfr'.fn, hfn]; rfl, hfr'.tmps.compact hmu hlen hl hlive fun t => Classical.choose_spec (hd t), fun _ => (htodo ▸ hfr'.todo hpans).plain hplain, ?_, ?_, hfr'.kind, ?_⟩, a, b, hst⟩
  · have := hfr'.defers
    rw [hds] at this
    exact .of_empty this.empty
  · have := hfr'.mode
    rw [hm] at this
    generalize fr'.mode = ds at this
    cases this
    exact .run
  · have := hfr'.round
    rw [hr] at this
    generalize fr'.roundOf = x at this
    cases hro' : ro with
    | none =>
      rw [hro'] at this
      cases x with
      | none => trivial
      | some x => cases this
    | some l =>
      rw [hro'] at this
      have hl := hro l hro'
      cases x with
      | none => cases this
      | some x =>
        have hle := k.le
        have hid := k.id l hl
        obtain ⟨im, h1, h2⟩ := this
        exact ⟨im, hmu l (by omega) im (by rw [hid]; exact h1), h2⟩
section
variable {P : Program} {F : FuncId → Bool} {B : Lo} {c0 c : CF} {H0 H : Heap} {a n : Nat} {W Wf : List Nat}
theorem GoE.widen (h : GoE P B c0 H0 a c H n W) (hW : ∀ i, i < a → i ∈ W → i ∈ Wf) (hw : Writable H0 a Wf) : GoE P B c0 H0 a c H n Wf :=
  ⟨h.under, h.le, fun μ w fr cs hok hB hf hfr => by
    obtain ⟨fr', w', μ', hp, r⟩ := h.sem μ w fr cs hok hB hf hfr
    exact ⟨fr', w', μ', hp.widen hok hW fun i hi hiW => hw.rw hok hi hiW, r⟩⟩
def landB (s : Option ST) (slots olds : List Nat) : Option (Land × List Nat) := match s with
  | some ⟨.at c H n, W, L⟩ => some (⟨c.fn, c.tmps.len, c.todo, c.defers, c.mode, c.roundOf, slots.map (tget c.tmps), olds.map (hget H), n, L⟩, W)
  | _ => none
def endedB (s : Option ST) (olds : List Nat) : Option (Fin × List Nat) := match s with
  | some ⟨.fin out H n, W, L⟩ => some (⟨out, olds.map (hget H), n, L⟩, W)
  | _ => none
def heads (a : Nat) (olds : List Nat) : Bool := (List.range a).all fun i => match nth olds i with | some k => Nat.beq k i | none => false
theorem heads_get {a : Nat} {olds : List Nat} (h : heads a olds = true) {i : Nat} (hi : i < a) : olds[i]? = some i := by
  have := List.all_eq_true.1 h i (List.mem_range.2 hi)
  rw [nth_eq] at this
  cases hg : olds[i]? with
  | none => rw [hg] at this; cases this
  | some k => rw [hg] at this; rw [Nat.eq_of_beq_eq_true this]
theorem kz_get : ∀ (olds : List Nat) (os : List (Bool × Obj)), olds.length = os.length → ∀ (i : Nat) k, olds[i]? = some k → ∃ b, os[i]? = some b ∧ (kz olds os)[i]? = some ⟨k, b.1, b.2⟩
  | [], _, _, i, k, h => by simp at h
  | _ :: _, [], hl, _, _, _ => by simp at hl
  | x :: l, b :: m, hl, 0, k, h => by
    simp only [List.getElem?_cons_zero, Option.some.injEq] at h
    subst h
    exact ⟨b, rfl, rfl⟩
  | x :: l, b :: m, hl, i + 1, k, h => by
    obtain ⟨b', h1, h2⟩ := kz_get l m (by simpa using hl) i k (by simpa using h)
    exact ⟨b', by simpa using h1, by simpa [kz] using h2⟩
/-- Blocks that stay, from an entry with blocks on. -/
theorem keepsB {n' : Nat} {olds : List Nat} {os : List (Bool × Obj)} {H' : Heap} (hl : olds.length = os.length) (ha : a ≤ os.length) (hh : heads a olds = true) (hold : ((kz olds os).all fun k => Nat.blt k.old n') = true) (hge : ((olds.drop a).all fun k => Nat.ble a k) = true) (hd : distinct ((kz olds os).map (·.old)) = true)
    (hobj : (kz olds os).map (fun k => hget H' k.old) = (kz olds os).map (fun k => some (wasK (rhoK (kz olds os)) k))) (hok : OkB a os.length os) (hsame : ∀ i, i < a → i ∉ Wf → hget (heapO 0 os) i = hget H0 i) : Keeps a n' os.length Wf H0 H' (heapO 0 os) (rhoK (kz olds os)) := by
  obtain ⟨e1, e2⟩ := kz_heap olds os 0 hl
  have hid : ∀ i, i < a → rhoK (kz olds os) i = i := fun i hi => by
    obtain ⟨b, _, h2⟩ := kz_get olds os hl i i (heads_get hh hi)
    exact rhoK_eq h2
  have k0 := keeps_of hold hd hobj (by rw [e2]; exact hok.kz hid ha olds os)
  rw [e1, e2] at k0
  refine ⟨ha, hid, fun i h1 h2 => ⟨?_, (k0.rng i (Nat.zero_le _) h2).2⟩, fun i j h1 h2 h3 h4 e => k0.inj i j (Nat.zero_le _) h2 (Nat.zero_le _) h4 e, k0.under, hsame, fun i o1 hi _ ho => k0.obj i o1 hi (.inl (Nat.zero_le _)) ho⟩
  have hlt : i < olds.length := by omega
  obtain ⟨b, _, h5⟩ := kz_get olds os hl i olds[i] (by simp [hlt])
  rw [rhoK_eq h5]
  refine Nat.le_of_ble_eq_true (List.all_eq_true.1 hge _ ?_)
  have : olds[i] = (olds.drop a)[i - a]'(by simp; omega) := by simp [show a + (i - a) = i by omega]
  rw [this]
  exact List.getElem_mem _
theorem GoE.headB (hF : ∀ g, F g = true → okFn P g = true) (hmix : P.follows .mixedOrders = true) (h : GoE P B c0 H0 a c H n Wf) (hw : Writable H0 a Wf) {fuel : Nat} {sc : Script} {f : FuncId} {len n' : Nat} {todo : List Item} {live : List (Nat × Value)} {olds W' : List Nat} {os : List (Bool × Obj)} {L : List Prop}
    (e : landB (srun P F B fuel a c H n sc 0 [] []) (live.map (·.1)) ((kz olds os).map (·.old)) = some (⟨f, len, todo, [], .run, none, live.map (fun p => rnV (rhoK (kz olds os)) 3 p.2), (kz olds os).map (fun k => some (wasK (rhoK (kz olds os)) k)), n', L⟩, W'))
    (hL : AllP L) (hW' : (W'.all fun i => Wf.contains i) = true) (hlen : Nat.ble len 16000 = true) (hl : Nat.beq olds.length os.length = true) (ha : Nat.ble a os.length = true) (hh : heads a olds = true) (hge : ((olds.drop a).all fun k => Nat.ble a k) = true) (hplain : todo.all plainItem = true) (hlive : (live.all fun p => okV os.length 3 p.2) = true)
    (hold : ((kz olds os).all fun k => Nat.blt k.old n') = true) (hd : distinct ((kz olds os).map (·.old)) = true) (hok : OkB a os.length os) (hsame : ∀ i, i < a → i ∉ Wf → hget (heapO 0 os) i = hget H0 i) :
    ∃ d : Nat → Value, (∀ t, Loose (d t)) ∧ GoE P B c0 H0 a (headC f len live d todo) (heapO 0 os) os.length Wf := by
  unfold landB at e
  split at e
  · rename_i c' H' n'' W'' L' hs
    simp only [Option.some.injEq, Prod.mk.injEq, Land.mk.injEq] at e
    obtain ⟨⟨e1, e2, e3, e4, e5, e6, e7, e8, e9, e10⟩, e11⟩ := e
    subst e9 e10 e11
    obtain ⟨R, W2, hgo, hWi⟩ := srun_sound hF hmix fuel a c H n sc 0 [] [] _ h.under hs hL
    have hg := (h.step hgo).widen (Wf := Wf) (fun i hi hm => (List.mem_append.1 hm).elim id fun h2 => by
      have : i ∈ W'' := (hWi i hi).2 (.inr h2)
      simpa using List.all_eq_true.1 hW' i this) hw
    refine hg.compact (W1 := Wf) (fun _ _ => Iff.rfl) (keepsB (Nat.eq_of_beq_eq_true hl) (Nat.le_of_ble_eq_true ha) hh hold hge hd (by simpa [List.map_map] using e8) hok hsame) e1 e2 (Nat.le_of_ble_eq_true hlen) e3 hplain e4 e5 e6 fun p hp => ⟨List.all_eq_true.1 hlive p hp, ?_⟩
    obtain ⟨i, hi⟩ := List.getElem?_of_mem hp
    have := congrArg (fun l => l[i]?) e7
    simpa [List.getElem?_map, hi] using this
  · cases e
theorem GoE.headR (hF : ∀ g, F g = true → okFn P g = true) (hmix : P.follows .mixedOrders = true) (h : GoE P B c0 H0 a c H n Wf) (hw : Writable H0 a Wf) {fuel : Nat} {sc : Script} {f : FuncId} {len n' : Nat} {todo : List Item} {live : List (Nat × Value)} {olds W' : List Nat} {os : List (Bool × Obj)} {L : List Prop} {ro : Option Nat}
    (e : landB (srun P F B fuel a c H n sc 0 [] []) (live.map (·.1)) ((kz olds os).map (·.old)) = some (⟨f, len, todo, [], .run, ro, live.map (fun p => rnV (rhoK (kz olds os)) 3 p.2), (kz olds os).map (fun k => some (wasK (rhoK (kz olds os)) k)), n', L⟩, W'))
    (hL : AllP L) (hW' : (W'.all fun i => Wf.contains i) = true) (hlen : Nat.ble len 16000 = true) (hl : Nat.beq olds.length os.length = true) (ha : Nat.ble a os.length = true) (hh : heads a olds = true) (hge : ((olds.drop a).all fun k => Nat.ble a k) = true) (hplain : todo.all plainItem = true) (hlive : (live.all fun p => okV os.length 3 p.2) = true)
    (hold : ((kz olds os).all fun k => Nat.blt k.old n') = true) (hd : distinct ((kz olds os).map (·.old)) = true) (hok : OkB a os.length os) (hsame : ∀ i, i < a → i ∉ Wf → hget (heapO 0 os) i = hget H0 i) (hro : ∀ l, ro = some l → l < a) :
    ∃ d : Nat → Value, (∀ t, Loose (d t)) ∧ GoE P B c0 H0 a (CE.headR ro f len live d todo) (heapO 0 os) os.length Wf := by
  unfold landB at e
  split at e
  · rename_i c' H' n'' W'' L' hs
    simp only [Option.some.injEq, Prod.mk.injEq, Land.mk.injEq] at e
    obtain ⟨⟨e1, e2, e3, e4, e5, e6, e7, e8, e9, e10⟩, e11⟩ := e
    subst e9 e10 e11
    obtain ⟨R, W2, hgo, hWi⟩ := srun_sound hF hmix fuel a c H n sc 0 [] [] _ h.under hs hL
    have hg := (h.step hgo).widen (Wf := Wf) (fun i hi hm => (List.mem_append.1 hm).elim id fun h2 => by
      have : i ∈ W'' := (hWi i hi).2 (.inr h2)
      simpa using List.all_eq_true.1 hW' i this) hw
    refine hg.compactR (W1 := Wf) (fun _ _ => Iff.rfl) (keepsB (Nat.eq_of_beq_eq_true hl) (Nat.le_of_ble_eq_true ha) hh hold hge hd (by simpa [List.map_map] using e8) hok hsame) e1 e2 (Nat.le_of_ble_eq_true hlen) e3 hplain e4 e5 e6 hro fun p hp => ⟨List.all_eq_true.1 hlive p hp, ?_⟩
    obtain ⟨i, hi⟩ := List.getElem?_of_mem hp
    have := congrArg (fun l => l[i]?) e7
    simpa [List.getElem?_map, hi] using this
  · cases e
/-- A call's end, its blocks numbered anew. -/
theorem GoE.std {g : FuncId} {args : Array Value} (hF : ∀ g, F g = true → okFn P g = true) (hmix : P.follows .mixedOrders = true) (hc : enterC P g args = some c0) (h : GoE P B c0 H0 a c H n Wf) (hw : Writable H0 a Wf) {fuel n' : Nat} {sc : Script} {v : Value} {olds W' : List Nat} {os : List (Bool × Obj)} {L : List Prop}
    (e : endedB (srun P F B fuel a c H n sc 0 [] []) ((kz olds os).map (·.old)) = some (⟨.ret (rnV (rhoK (kz olds os)) 3 v), (kz olds os).map (fun k => some (wasK (rhoK (kz olds os)) k)), n', L⟩, W'))
    (hL : AllP L) (hW' : (W'.all fun i => Wf.contains i) = true) (hl : Nat.beq olds.length os.length = true) (ha : Nat.ble a os.length = true) (hh : heads a olds = true) (hge : ((olds.drop a).all fun k => Nat.ble a k) = true) (hv : okV os.length 3 v = true)
    (hold : ((kz olds os).all fun k => Nat.blt k.old n') = true) (hd : distinct ((kz olds os).map (·.old)) = true) (hok : OkB a os.length os) (hsame : ∀ i, i < a → i ∉ Wf → hget (heapO 0 os) i = hget H0 i) :
    StdJ P B g args H0 a v (heapO 0 os) os.length Wf := by
  unfold endedB at e
  split at e
  · rename_i out H' n'' W'' L' hs
    simp only [Option.some.injEq, Prod.mk.injEq, Fin.mk.injEq] at e
    obtain ⟨⟨rfl, e8, rfl, rfl⟩, rfl⟩ := e
    obtain ⟨R, W2, hfj, hWi⟩ := srun_sound hF hmix fuel a c H n sc 0 [] [] _ h.under hs hL
    have k := keepsB (H0 := H0) (Wf := Wf) (Nat.eq_of_beq_eq_true hl) (Nat.le_of_ble_eq_true ha) hh hold hge hd (H' := H') (by simpa [List.map_map] using e8) hok hsame
    refine ⟨k.under, k.le, fun μ w args' cs hok0 hB hf hva => ?_⟩
    obtain ⟨out', w', μ', hp, ho, he⟩ := h.fj hfj μ w (Frame.enter P g args' .normal) cs hok0 hB hf (enterC_FrR hc hva)
    have hp := hp.widen (W' := Wf) hok0 (fun i hi hm => (List.mem_append.1 hm).elim id fun h2 => by
      have : i ∈ W'' := (hWi i hi).2 (.inr h2)
      simpa using List.all_eq_true.1 hW' i this) fun i hi hiW => hw.rw hok0 hi hiW
    obtain ⟨hp1, hmu⟩ := hp.compact hok0 hf k
    cases ho with
    | ret hvr => exact ⟨_, w', _, hp1, .ret (rnV_VR hmu 3 v _ hv hvr), he⟩
  · cases e
end
/-- A call that reads some rows and makes others, of values that stand for themselves: under any numbers. -/
theorem StdJ.rows {P : Program} {B : Lo} {g : FuncId} {args : Array Value} {out : Value} {kept news : List (Bool × Obj)} (h : StdJ P B g args (heapO 0 kept) kept.length out (heapO 0 (kept ++ news)) (kept ++ news).length []) {l : List Nat} {n : Nat} (hl : l.length = kept.length)
    (hln : ∀ k ∈ l, k < n) (hd : distinct l = true) (hk : ∀ b ∈ kept ++ news, looseO b.2) (hargs : args.all (okV kept.length 3) = true) (hout : okV (kept ++ news).length 3 out = true) :
    CJ P B g (args.map (rnV (rhoS l n) 3)) (l.zip (kept.map fun b => some b.2)) n (rnV (rhoS l n) 3 out) (heapO n news) (n + news.length) [] := by
  have same : ∀ (ρ : Nat → Nat) m b, b ∈ kept ++ news → RF1 ρ m b.2 b.2 := fun ρ m b hb => by
    have := hk b hb
    obtain ⟨q, o⟩ := b
    cases o with
    | cells cs t fz => exact .same this
    | _ => exact this.elim
  have hc := h.cj (l := l) (Hs := l.zip (kept.map fun b => some b.2)) (n := n) (ups := heapO n news) hl hln hd
    (fun k hk => by
      obtain ⟨i, hi⟩ := List.getElem?_of_mem hk
      have : i < l.length := (List.getElem?_eq_some_iff.1 hi).1
      rw [List.map_fst_zip (by simp [hl])]
      exact hk)
    (fun i k o hi ho _ => by
      rw [heapO_get, if_pos (Nat.zero_le _), Nat.sub_zero] at ho
      obtain ⟨b, hb, rfl⟩ := Option.map_eq_some_iff.1 ho
      refine ⟨b.2, ?_, same _ _ b (List.mem_append_left _ (List.mem_of_getElem? hb))⟩
      refine List.mem_of_getElem? (i := i) ?_
      rw [List.getElem?_zip_eq_some]
      exact ⟨hi, by simp [hb]⟩)
    hargs hout
    (fun i o1 hi _ => by
      rw [heapO_get] at hi
      split at hi
      · rename_i hle
        obtain ⟨b, hb, rfl⟩ := Option.map_eq_some_iff.1 hi
        have hlt : i - n < news.length := (List.getElem?_eq_some_iff.1 hb).1
        refine ⟨kept.length + (i - n), b.2, .inl ⟨by omega, by rw [List.length_append]; omega⟩, ?_, ?_, same _ _ b (List.mem_append_right _ (List.mem_of_getElem? hb))⟩
        · rw [rhoS_new (by omega)]; omega
        · rw [heapO_get, if_pos (Nat.zero_le _), Nat.sub_zero, List.getElem?_append_right (by omega), Nat.add_sub_cancel_left, hb]; rfl
      · cases hi)
    (fun j _ hj => by simp at hj)
    (fun i o1 hi => by
      rw [heapO_get] at hi
      split at hi
      · rename_i hle
        obtain ⟨b, hb, rfl⟩ := Option.map_eq_some_iff.1 hi
        have hlt : i - n < news.length := (List.getElem?_eq_some_iff.1 hb).1
        exact ⟨kept.length + (i - n), .inl ⟨by omega, by rw [List.length_append]; omega⟩, by rw [rhoS_new (by omega)]; omega⟩
      · cases hi)
  have e : n + ((kept ++ news).length - kept.length) = n + news.length := by rw [List.length_append]; omega
  rw [e] at hc
  exact hc
theorem same1 (x : Bool × Obj) (l : List (Bool × Obj)) : ∀ j, j < 1 → j ∉ ([] : List Nat) → hget (heapO 0 (x :: l)) j = hget (heapO 0 [x]) j := fun j hj _ => by
  obtain rfl : j = 0 := by omega
  rfl
theorem CJ.cast {P : Program} {B : Lo} {g : FuncId} {args args' : Array Value} {Hs Hs' : List (Nat × Option Obj)} {n m m' : Nat} {out out' : Value} {ups ups' : Heap} {W : List Nat} (h : CJ P B g args Hs n out ups m W) (e1 : args = args') (e2 : Hs = Hs') (e3 : out = out') (e4 : ups = ups') (e5 : m = m') : CJ P B g args' Hs' n out' ups' m' W := by
  subst e1 e2 e3 e4 e5; exact h
end Go.CE
/- SE 9: what frames come to: rounds of loops over functions, and the calls of these. -/
namespace Go.CE
open Go Go.RowKit

abbrev StdF (P : Program) (B : Lo) (c0 : CF) (H0 : Heap) (a : Nat) (out : Value) (H' : Heap) (n' : Nat) (W : List Nat) : Prop := StdX P B (fun μ fr => FrR Bot.no μ c0 fr) H0 a out H' n' W
section
variable {P : Program} {F : FuncId → Bool} {B : Lo} {c0 c : CF} {H0 H : Heap} {a n : Nat} {W Wf : List Nat}
theorem GoE.stdF (hF : ∀ g, F g = true → okFn P g = true) (hmix : P.follows .mixedOrders = true) (h : GoE P B c0 H0 a c H n Wf) (hw : Writable H0 a Wf) {fuel n' : Nat} {sc : Script} {v : Value} {olds W' : List Nat} {os : List (Bool × Obj)} {L : List Prop}
    (e : endedB (srun P F B fuel a c H n sc 0 [] []) ((kz olds os).map (·.old)) = some (⟨.ret (rnV (rhoK (kz olds os)) 3 v), (kz olds os).map (fun k => some (wasK (rhoK (kz olds os)) k)), n', L⟩, W'))
    (hL : AllP L) (hW' : (W'.all fun i => Wf.contains i) = true) (hl : Nat.beq olds.length os.length = true) (ha : Nat.ble a os.length = true) (hh : heads a olds = true) (hge : ((olds.drop a).all fun k => Nat.ble a k) = true) (hv : okV os.length 3 v = true)
    (hold : ((kz olds os).all fun k => Nat.blt k.old n') = true) (hd : distinct ((kz olds os).map (·.old)) = true) (hok : OkB a os.length os) (hsame : ∀ i, i < a → i ∉ Wf → hget (heapO 0 os) i = hget H0 i) :
    StdF P B c0 H0 a v (heapO 0 os) os.length Wf := by
  unfold endedB at e
  split at e
  · rename_i out H' n'' W'' L' hs
    simp only [Option.some.injEq, Prod.mk.injEq, Fin.mk.injEq] at e
    obtain ⟨⟨rfl, e8, rfl, rfl⟩, rfl⟩ := e
    obtain ⟨R, W2, hfj, hWi⟩ := srun_sound hF hmix fuel a c H n sc 0 [] [] _ h.under hs hL
    have k := keepsB (H0 := H0) (Wf := Wf) (Nat.eq_of_beq_eq_true hl) (Nat.le_of_ble_eq_true ha) hh hold hge hd (H' := H') (by simpa [List.map_map] using e8) hok hsame
    refine ⟨k.under, k.le, fun μ w fr cs hok0 hB hf hfr => ?_⟩
    obtain ⟨out', w', μ', hp, ho, he⟩ := h.fj hfj μ w fr cs hok0 hB hf hfr
    have hp := hp.widen (W' := Wf) hok0 (fun i hi hm => (List.mem_append.1 hm).elim id fun h2 => by
      have : i ∈ W'' := (hWi i hi).2 (.inr h2)
      simpa using List.all_eq_true.1 hW' i this) fun i hi hiW => hw.rw hok0 hi hiW
    obtain ⟨hp1, hmu⟩ := hp.compact hok0 hf k
    cases ho with
    | ret hvr => exact ⟨_, w', _, hp1, .ret (rnV_VR hmu 3 v _ hv hvr), he⟩
  · cases e
end
/-! ### Frames whose temporaries hold no other numbers than those below a -/
def SlotsOk (a : Nat) (T : Tm) : Prop := ∀ t, Loose (tget T t) ∨ okV a 3 (tget T t) = true
theorem vr_lower {μ μ0 : Mu} {a : Nat} (hμ : ∀ b, b < a → ∀ im, μ b = some im → μ0 b = some im) {v v' : Value} (hv : Loose v ∨ okV a 3 v = true) (h : VR μ v v') : VR μ0 v v' := by
  rcases hv with hv | hv
  · exact hv _ _ _ h
  · refine rnV_VR (ρ := fun b => b) (m := a) hμ 3 v v' hv ?_
    rw [rnV_id (fun _ _ => rfl) 3 v hv]; exact h
theorem slots_mkT {a len : Nat} {live : List (Nat × Value)} {d : Nat → Value} (hl : len ≤ 16000) (hd : ∀ t, Loose (d t)) (h : ∀ p ∈ live, Loose p.2 ∨ okV a 3 p.2 = true) : SlotsOk a (mkT len live d) := fun t => by
  rw [mkT_get hl]
  split
  · rcases look_cases live t (d t) with e | ⟨v, hv, e⟩
    · rw [e]; exact .inl (hd t)
    · rw [e]; exact h _ hv
  · exact .inl fun _ _ _ hv => by
      have := af_eq (v := undef) (by simp [Go.undef, af]) hv
      rw [this]; exact VR.undef
theorem FrR.lower {μ μ0 : Mu} {c : CF} {fr : Frame} {a : Nat} (hμ : ∀ b, b < a → ∀ im, μ b = some im → μ0 b = some im) (hs : SlotsOk a c.tmps) (hp : c.todo.all plainItem = true) (hd : c.defers = []) (hm : c.mode = .run) (hr : ∀ l, c.roundOf = some l → l < a) (h : FrR Bot.no μ c fr) : FrR Bot.no μ0 c fr := by
  have hpans : c.mode.pans = false := by rw [hm]; rfl
  refine ⟨h.fn, ⟨h.tmps.1, fun t => vr_lower hμ (hs t) (h.tmps.2 t)⟩, fun _ => (h.todo hpans).plain hp, ?_, ?_, h.kind, ?_⟩
  · have := h.defers
    rw [hd] at this ⊢
    exact .of_empty this.empty
  · have := h.mode
    rw [hm] at this ⊢
    generalize fr.mode = ds at this ⊢
    cases this
    exact .run
  · have := h.round
    generalize fr.roundOf = x at this ⊢
    cases hro : c.roundOf with
    | none =>
      rw [hro] at this
      cases x with
      | none => trivial
      | some x => cases this
    | some l =>
      rw [hro] at this
      cases x with
      | none => cases this
      | some x =>
        obtain ⟨im, h1, h2⟩ := this
        exact ⟨im, hμ l (hr l hro) im h1, h2⟩
theorem rhoS_range (n i : Nat) : rhoS (List.range n) n i = i := by
  rcases Nat.lt_or_ge i n with h | h
  · exact rhoS_old (by simp [h])
  · rw [rhoS_new (by simpa using h), List.length_range]; omega
/-- What a frame comes to, with all blocks that there are. -/
theorem StdX.rj {P : Program} {B : Lo} {c0 : CF} {os os' : List (Bool × Obj)} {out : Value} {W : List Nat} (h : StdF P B c0 (heapO 0 os) os.length out (heapO 0 os') os'.length W) {ups : Heap}
    (hs : SlotsOk os.length c0.tmps) (hp : c0.todo.all plainItem = true) (hd : c0.defers = []) (hm : c0.mode = .run) (hr : ∀ l, c0.roundOf = some l → l < os.length) (hos : ∀ b ∈ os, FixO os.length b.2) (hos' : ∀ b ∈ os', FixO os'.length b.2) (hout : okV os'.length 3 out = true)
    (hdist : distinct (List.range os.length) = true) (hW : ((W.filter fun j => Nat.blt j os.length).map (rhoS (List.range os.length) os.length)) = W) (hrn : rnV (rhoS (List.range os.length) os.length) 3 out = out)
    (hlt : (ups.all fun p => Nat.blt p.1 os'.length) = true) (hups : (List.range os'.length).map (hget ups) = (List.range os'.length).map fun i => bif Nat.ble os.length i || W.contains i then hget (heapO 0 os') i else none) :
    RJ P B c0 ((List.range os.length).map fun k => (k, hget (heapO 0 os) k)) os.length out ups os'.length W := by
  have hle := h.le
  have en : os.length + (os'.length - os.length) = os'.length := by omega
  have hget_lt : ∀ i o, hget ups i = some o → i < os'.length := fun i o ho => by
    have hall : ∀ (l : Heap), (l.all fun p => Nat.blt p.1 os'.length) = true → hget l i = some o → i < os'.length := by
      intro l
      induction l with
      | nil => intro _ h; cases h
      | cons p l ih =>
        intro ha h
        simp only [List.all_cons, Bool.and_eq_true] at ha
        rw [hget_cons] at h
        split at h
        · rename_i e
          rw [e]; exact Nat.le_of_ble_eq_true ha.1
        · exact ih ha.2 h
    exact hall ups hlt ho
  have hat : ∀ i, i < os'.length → hget ups i = bif Nat.ble os.length i || W.contains i then hget (heapO 0 os') i else none := fun i hi => by
    have := congrArg (fun l => l[i]?) hups
    simpa [List.getElem?_map, List.getElem?_range, hi] using this
  have hcond : ∀ i o, hget ups i = some o → (os.length ≤ i ∧ i < os'.length ∨ i < os.length ∧ i ∈ W) ∧ hget (heapO 0 os') i = some o := fun i o ho => by
    have hi := hget_lt i o ho
    have := hat i hi
    rw [ho] at this
    cases hc : (Nat.ble os.length i || W.contains i) with
    | false => rw [hc] at this; cases this
    | true =>
      rw [hc] at this
      refine ⟨?_, this.symm⟩
      rcases Nat.lt_or_ge i os.length with hlt | hge
      · have hb : Nat.ble os.length i = false := by
          cases hb : Nat.ble os.length i with
          | false => rfl
          | true => exact absurd (Nat.le_of_ble_eq_true hb) (by omega)
        rw [hb, Bool.false_or] at hc
        exact .inr ⟨hlt, by simpa using hc⟩
      · exact .inl ⟨hge, hi⟩
  have fix' : ∀ i o, hget (heapO 0 os') i = some o → FixO os'.length o := fun i o ho => by
    rw [heapO_get, if_pos (Nat.zero_le _), Nat.sub_zero] at ho
    obtain ⟨b, hb, rfl⟩ := Option.map_eq_some_iff.1 ho
    exact hos' b (List.mem_of_getElem? hb)
  intro H hu hH
  have key := StdX.any h (St' := fun μ fr => FrR Bot.no μ c0 fr) (l := List.range os.length) (Hs := (List.range os.length).map fun k => (k, hget (heapO 0 os) k)) (n := os.length) (ups := ups) (List.length_range) (fun k hk => List.mem_range.1 hk) hdist
    (fun k hk => by rw [List.map_map]; exact (by simpa using List.mem_range.1 hk))
    (fun i k o hi ho _ => by
      have hi' : i < os.length := by
        have := (List.getElem?_eq_some_iff.1 hi).1
        simpa using this
      have : k = i := by
        rw [List.getElem?_range hi'] at hi
        exact (Option.some.inj hi).symm
      subst this
      refine ⟨o, List.mem_map.2 ⟨k, List.mem_range.2 hi', by rw [ho]⟩, .fix (a := os.length) (fun b _ => rhoS_range _ b) (Nat.le_refl _) ?_⟩
      rw [heapO_get, if_pos (Nat.zero_le _), Nat.sub_zero] at ho
      obtain ⟨b, hb, rfl⟩ := Option.map_eq_some_iff.1 ho
      exact hos b (List.mem_of_getElem? hb))
    (fun μ μ0 fr hμ hfr => hfr.lower (a := os.length) (fun b hb im him => hμ b hb im (by rw [rhoS_range]; exact him)) hs hp hd hm hr) hout
    (fun i o1 hi _ => ⟨i, o1, (hcond i o1 hi).1, (rhoS_range _ _).symm, (hcond i o1 hi).2, .fix (a := os'.length) (fun b _ => rhoS_range _ b) (Nat.le_refl _) (fix' i o1 (hcond i o1 hi).2)⟩)
    (fun j hj hw => by
      rw [rhoS_range, hat j (by omega)]
      have : (Nat.ble os.length j || W.contains j) = true := by simp [hw]
      rw [this, heapO_get, if_pos (Nat.zero_le _), Nat.sub_zero]
      have : j < os'.length := by omega
      exact ⟨os'[j].2, by simp [this]⟩)
    (fun i o1 hi => ⟨i, (hcond i o1 hi).1, (rhoS_range _ _).symm⟩) H hu hH
  rw [hW, en, hrn] at key
  exact ⟨key.1, fun S μ w fr cs => key.2 S μ w fr cs⟩
/-- What a call comes to, with all blocks that there are. -/
theorem StdJ.all {P : Program} {B : Lo} {g : FuncId} {args : Array Value} {os os' : List (Bool × Obj)} {out : Value} {W : List Nat} (h0 : StdJ P B g args (heapO 0 os) os.length out (heapO 0 os') os'.length W) {ups : Heap}
    (hargs : args.all (okV os.length 3) = true) (hra : args.map (rnV (rhoS (List.range os.length) os.length) 3) = args) (hos : ∀ b ∈ os, FixO os.length b.2) (hos' : ∀ b ∈ os', FixO os'.length b.2) (hout : okV os'.length 3 out = true)
    (hdist : distinct (List.range os.length) = true) (hW : ((W.filter fun j => Nat.blt j os.length).map (rhoS (List.range os.length) os.length)) = W) (hrn : rnV (rhoS (List.range os.length) os.length) 3 out = out)
    (hlt : (ups.all fun p => Nat.blt p.1 os'.length) = true) (hups : (List.range os'.length).map (hget ups) = (List.range os'.length).map fun i => bif Nat.ble os.length i || W.contains i then hget (heapO 0 os') i else none) :
    CJ P B g args ((List.range os.length).map fun k => (k, hget (heapO 0 os) k)) os.length out ups os'.length W := by
  have h : StdX P B (fun μ fr => ∃ args', VRs μ args args' ∧ fr = Frame.enter P g args' .normal) (heapO 0 os) os.length out (heapO 0 os') os'.length W := ⟨h0.under, h0.le, fun μ w fr cs hok hB hf ⟨args', hv, e⟩ => by
    subst e
    exact h0.sem μ w args' cs hok hB hf hv⟩
  have hle := h.le
  have en : os.length + (os'.length - os.length) = os'.length := by omega
  have hget_lt : ∀ i o, hget ups i = some o → i < os'.length := fun i o ho => by
    have hall : ∀ (l : Heap), (l.all fun p => Nat.blt p.1 os'.length) = true → hget l i = some o → i < os'.length := by
      intro l
      induction l with
      | nil => intro _ h; cases h
      | cons p l ih =>
        intro ha h
        simp only [List.all_cons, Bool.and_eq_true] at ha
        rw [hget_cons] at h
        split at h
        · rename_i e
          rw [e]; exact Nat.le_of_ble_eq_true ha.1
        · exact ih ha.2 h
    exact hall ups hlt ho
  have hat : ∀ i, i < os'.length → hget ups i = bif Nat.ble os.length i || W.contains i then hget (heapO 0 os') i else none := fun i hi => by
    have := congrArg (fun l => l[i]?) hups
    simpa [List.getElem?_map, List.getElem?_range, hi] using this
  have hcond : ∀ i o, hget ups i = some o → (os.length ≤ i ∧ i < os'.length ∨ i < os.length ∧ i ∈ W) ∧ hget (heapO 0 os') i = some o := fun i o ho => by
    have hi := hget_lt i o ho
    have := hat i hi
    rw [ho] at this
    cases hc : (Nat.ble os.length i || W.contains i) with
    | false => rw [hc] at this; cases this
    | true =>
      rw [hc] at this
      refine ⟨?_, this.symm⟩
      rcases Nat.lt_or_ge i os.length with hlt | hge
      · have hb : Nat.ble os.length i = false := by
          cases hb : Nat.ble os.length i with
          | false => rfl
          | true => exact absurd (Nat.le_of_ble_eq_true hb) (by omega)
        rw [hb, Bool.false_or] at hc
        exact .inr ⟨hlt, by simpa using hc⟩
      · exact .inl ⟨hge, hi⟩
  have fix' : ∀ i o, hget (heapO 0 os') i = some o → FixO os'.length o := fun i o ho => by
    rw [heapO_get, if_pos (Nat.zero_le _), Nat.sub_zero] at ho
    obtain ⟨b, hb, rfl⟩ := Option.map_eq_some_iff.1 ho
    exact hos' b (List.mem_of_getElem? hb)
  intro H hu hH
  have key := StdX.any h (St' := fun μ fr => ∃ args', VRs μ args args' ∧ fr = Frame.enter P g args' .normal) (l := List.range os.length) (Hs := (List.range os.length).map fun k => (k, hget (heapO 0 os) k)) (n := os.length) (ups := ups) (List.length_range) (fun k hk => List.mem_range.1 hk) hdist
    (fun k hk => by rw [List.map_map]; exact (by simpa using List.mem_range.1 hk))
    (fun i k o hi ho _ => by
      have hi' : i < os.length := by
        have := (List.getElem?_eq_some_iff.1 hi).1
        simpa using this
      have : k = i := by
        rw [List.getElem?_range hi'] at hi
        exact (Option.some.inj hi).symm
      subst this
      refine ⟨o, List.mem_map.2 ⟨k, List.mem_range.2 hi', by rw [ho]⟩, .fix (a := os.length) (fun b _ => rhoS_range _ b) (Nat.le_refl _) ?_⟩
      rw [heapO_get, if_pos (Nat.zero_le _), Nat.sub_zero] at ho
      obtain ⟨b, hb, rfl⟩ := Option.map_eq_some_iff.1 ho
      exact hos b (List.mem_of_getElem? hb))
    (fun μ μ0 fr hμ0 ⟨args', hv, e⟩ => ⟨args', ⟨by simpa using hv.1, fun i v v' hvi hvi' =>
      rnV_VR hμ0 3 v v' (Array.all_eq_true'.1 hargs v (Array.mem_of_getElem? hvi)) (by
        rw [← hra] at hv
        exact hv.2 i _ v' (map_get hvi) hvi')⟩, e⟩) hout
    (fun i o1 hi _ => ⟨i, o1, (hcond i o1 hi).1, (rhoS_range _ _).symm, (hcond i o1 hi).2, .fix (a := os'.length) (fun b _ => rhoS_range _ b) (Nat.le_refl _) (fix' i o1 (hcond i o1 hi).2)⟩)
    (fun j hj hw => by
      rw [rhoS_range, hat j (by omega)]
      have : (Nat.ble os.length j || W.contains j) = true := by simp [hw]
      rw [this, heapO_get, if_pos (Nat.zero_le _), Nat.sub_zero]
      have : j < os'.length := by omega
      exact ⟨os'[j].2, by simp [this]⟩)
    (fun i o1 hi => ⟨i, (hcond i o1 hi).1, (rhoS_range _ _).symm⟩) H hu hH
  rw [hW, en, hrn] at key
  exact ⟨key.1, fun S μ w args' cs hok hB hS hf hv hR => key.2 S μ w _ cs hok hB hS hf ⟨args', hv, rfl⟩ hR⟩
/-- A call that looks at rows of plain cells of the run's own, and makes a row of plain cells, which is not written any more. -/
theorem cj_readrow {P : Program} {B : Lo} {g : FuncId} {args : Array Value} {Hs : List (Nat × Option Obj)} {n : Nat} {out : Value} {cs : Array Value} {t : TypeId} (hcs : ∀ v ∈ cs, af v = true) (hlt : ∀ p ∈ Hs, p.1 < n)
    (h : ∀ (μ : Mu) (w : World) (args' : Array Value), B.has w → VRs μ args args' → (∀ p ∈ Hs, ∀ cs t fz, p.2 = some (.cells cs t fz) → ∃ im, μ p.1 = some im ∧ im.blk < w.heap.size ∧ OR μ w im (.cells cs t fz)) →
      Calls P g args' w fun e w' => (∃ b v', w.heap.size ≤ b ∧ b < w'.heap.size ∧ e = .returned v' ∧ (∀ (i : Nat) v, cs[i]? = some v → w'.cell? ⟨b, i, none⟩ = some v) ∧ ∀ μ', μ' n = some ⟨b, 0, 0, true⟩ → VR μ' out v') ∧ Below w.heap.size w w') :
    CJ P B g args Hs n out [(n, .cells cs t (1, 1))] (n + 1) [] := by
  intro H hu hH
  refine ⟨⟨by omega, fun i hi _ => by rw [List.singleton_append, hget_cons, if_neg (by omega)], fun i hi => by rw [List.singleton_append, hget_cons, if_neg (by omega)], fun _ h => by simp at h, fun _ h => by simp at h⟩, fun S μ w args' cs' hok hB hS hf ha hR => ?_⟩
  obtain ⟨e, w1, fr, ⟨⟨b, v', h1, h2, rfl, h3, h4⟩, hb⟩, hc, hfn, hl⟩ := h μ w args' hB ha (fun p hp cs t fz he => by
    have hS := hR p.1 (List.mem_map.2 ⟨p, hp, rfl⟩) (hlt p hp)
    have hg : hget H p.1 = some (.cells cs t fz) := by rw [hH p hp, he]
    obtain ⟨im, him, hor⟩ := hok.rel p.1 _ hS hg trivial
    exact ⟨im, him, (hok.low p.1 _ im hS hg trivial him).1, hor⟩) cs'
  have hfn0 : μ n = none := hf n (Nat.le_refl _) (by omega)
  refine ⟨.ret v', w1, upd μ n ⟨b, 0, 0, true⟩, Post.adoptR hok hB.le hS hfn0 hb h1 h2 (fun i v hv => ⟨h3 i v hv, hcs v (Array.mem_of_getElem? hv)⟩), .ret (h4 _ upd_self), fun _ => ⟨fr, hc, by rw [hfn]; rfl, hl⟩, fun c cs'' e => ?_⟩
  subst e
  exact Steps.trans hc (.one (step_leave_returned hl))
theorem okV_mono {a b : Nat} (hab : a ≤ b) : ∀ (f : Nat) (v : Value), okV a f v = true → okV b f v = true := by
  have lt : ∀ {x : Nat}, Nat.blt x a = true → Nat.blt x b = true := fun h => Nat.ble_eq_true_of_le (Nat.le_trans (Nat.le_of_ble_eq_true h) hab)
  have adr : ∀ x : Addr, okA a x = true → okA b x = true := by
    rintro ⟨q, o, sp⟩ h
    cases sp with
    | none => exact lt h
    | some k => rfl
  have base : ∀ v : Value, okS a v = true → okS b v = true := by
    intro v h
    cases v with
    | pointer x => cases x with
      | none => rfl
      | some x => exact adr x h
    | slice x n c => cases x with
      | none => rfl
      | some x => exact adr x h
    | map r => cases r with
      | none => rfl
      | some r => exact lt h
    | func fn xs ys => cases fn with
      | yield l => exact lt h
      | func g => exact h
      | _ => rfl
    | iface t v => cases h
    | agg xs => cases h
    | tuple xs => cases h
    | _ => rfl
  intro f
  induction f with
  | zero => intro v h; exact base v h
  | succ f ih =>
    intro v h
    have arr : ∀ xs : Array Value, xs.all (okV a f) = true → xs.all (okV b f) = true := fun xs hx => by
      rw [Array.all_eq_true] at hx ⊢
      exact fun i hi => ih _ (hx i hi)
    cases v with
    | agg xs => exact arr xs h
    | tuple xs => exact arr xs h
    | iface t x => exact ih x h
    | func fn xs ys =>
      cases fn with
      | func g =>
        simp only [okV, Bool.and_eq_true] at h ⊢
        exact ⟨arr xs h.1, arr ys h.2⟩
      | _ => simpa only [okV] using base _ (by simpa only [okV] using h)
    | _ => simpa only [okV] using base _ (by simpa only [okV] using h)
end Go.CE
/- SE 10: runs whose base moves; calls of which it is told that something comes of them. -/
namespace Go.CE
open Go Go.RowKit
/-- A run has come to a frame, in a world. -/
structure At (P : Program) (fr0 : Frame) (cs : List Frame) (w0 : World) (B : Lo) (c : CF) (H : Heap) (n : Nat) (w : World) : Prop where
  has : B.has w
  le : w0.heap.size ≤ B.B
  below : Below w0.heap.size w0 w
  run : ∃ fr μ, Ok B (fun i => i < n) μ (hget H) w ∧ (∀ i, n ≤ i → μ i = none) ∧ FrR Bot.no μ c fr ∧ fr.roundOf = fr0.roundOf ∧ fr.fn = fr0.fn ∧ Steps P (lone fr0 cs w0) (lone fr cs w)
section
variable {P : Program} {F : FuncId → Bool} {B : Lo} {fr0 : Frame} {cs : List Frame} {w0 w : World} {c c' : CF} {H H' : Heap} {n n' : Nat} {W : List Nat}
theorem ok_nil (B : Nat) (w : World) : Ok B (fun i => i < 0) (fun _ => none) (hget []) w := ⟨fun _ _ h => absurd h (by omega), fun _ _ _ h => absurd h (by omega), fun _ _ _ _ _ _ h => absurd h (by omega)⟩
theorem At.start {f : FuncId} {args args' : Array Value} (hc : enterC P f args = some c) (hv : VRs (fun _ => none) args args') : At P (Frame.enter P f args' .normal) cs w (worldLo w) c [] 0 w :=
  ⟨worldLo_has w, Nat.le_refl _, Below.refl _ _, _, fun _ => none, ok_nil _ _, fun _ _ => rfl, enterC_FrR hc hv, rfl, rfl, Steps.refl _ _⟩
theorem At.go (h : At P fr0 cs w0 B c H n w) (hg : GoE P B c H n c' H' n' W) : ∃ w', At P fr0 cs w0 B c' H' n' w' := by
  obtain ⟨fr, μ, hok, hf, hfr, hr, hfn, hst⟩ := h.run
  obtain ⟨fr', w', μ', hp, hfr', hr', hfn', hst'⟩ := hg.sem μ w fr cs hok h.has hf hfr
  have hle := h.le
  have hle' := hp.le
  have hb : Below w0.heap.size w w' := ⟨hp.os, hp.tape, hp.output, hp.grow, fun b hb => hp.frame b (by have := h.has.le; omega) fun i hi hin im him => by
    obtain ⟨hs, ⟨o, ho, hl⟩, im', him', hrw⟩ := hp.wr i hi hin
    rw [him] at him'; cases him'
    have := (hok.low i o im hs ho hl him).2.1 hrw
    omega⟩
  exact ⟨w', h.has.post hok hp, h.le, h.below.trans hb, fr', μ', hp.ok.sub fun i hi => by
    rcases Nat.lt_or_ge i n with h1 | h1
    · exact .inl h1
    · exact .inr ⟨h1, hi⟩, fun i hi => by rw [hp.ext i (by omega)]; exact hf i (by omega), hfr', hr'.trans hr, hfn'.trans hfn, hst.trans hst'⟩
/-- A run's end. -/
theorem At.ends {f : FuncId} {args' : Array Value} {w1 : World} {Q : Ending → World → Prop} (hF : ∀ g, F g = true → okFn P g = true) (hmix : P.follows .mixedOrders = true) (h : At P (Frame.enter P f args' .normal) cs w B c H n w1) (hu : Under H n) {fuel n' : Nat} {sc : Script} {v : Value} {olds : List Nat} {objs : List (Option Obj)} {L : List Prop}
    (e : ended (srun P F B fuel 0 c H n sc 0 [] []) olds = some ⟨.ret v, objs, n', L⟩) (hL : AllP L)
    (hQ : ∀ v' μ' w', VR μ' v v' → Below w.heap.size w w' → B.has w' → (∀ (i j : Nat) cs t, olds[i]? = some j → objs[i]? = some (some (.cells cs t (0, 0))) → NewAt w μ' w' j cs t) → Q (.returned v') w') :
    ∃ en w' fr, Q en w' ∧ Comes P (lone (Frame.enter P f args' .normal) cs w) (lone fr cs w') en ∧ fr.fn = f ∧ fr.leaving P w' en := by
  unfold ended at e
  split at e
  · rename_i out H' n'' W' L' hs
    simp only [Option.some.injEq, Fin.mk.injEq] at e
    obtain ⟨rfl, rfl, rfl, rfl⟩ := e
    obtain ⟨R, W2, hfj, -⟩ := srun_sound hF hmix fuel 0 c H n sc 0 [] [] _ hu hs hL
    obtain ⟨fr, μ, hok, hf, hfr, hr, hfn, hst⟩ := h.run
    have hle := h.le
    obtain ⟨out', w', μ', hp, ho, he⟩ := hfj.sem (fun i => i < n) μ w1 fr cs hok h.has (fun i hi => hi) (fun i hi _ => hf i hi) hfr (fun i _ hi => hi)
    have hb : Below w.heap.size w1 w' := ⟨hp.os, hp.tape, hp.output, hp.grow, fun b hb => hp.frame b (by have := h.has.le; omega) fun i hi hin im him => by
      obtain ⟨hs, ⟨o, ho, hl⟩, im', him', hrw⟩ := hp.wr i hi hin
      rw [him] at him'; cases him'
      have := (hok.low i o im hs ho hl him).2.1 hrw
      omega⟩
    have hend := he.of_steps hst hr hfn
    cases ho with
    | ret hvr =>
      rename_i v'
      obtain ⟨frE, h1, h2, h3⟩ := hend.1 rfl
      refine ⟨.returned v', w', frE, hQ v' μ' w' hvr (h.below.trans hb) (h.has.post hok hp) fun i j cells t hi hj => ?_, h1, h2, h3⟩
      rw [List.getElem?_map, hi] at hj
      simp only [Option.map_some, Option.some.injEq] at hj
      have hlt : j < n'' := by
        have hu : Under H' n'' := hu.shape hfj.shape
        exact hu.lt hj
      have hS : j < n ∨ n ≤ j ∧ j < n'' := by omega
      obtain ⟨im, him, hor⟩ := hp.ok.rel j _ hS hj trivial
      have hlow := hp.ok.low j _ im hS hj trivial him
      rcases hor with ⟨_, hrw, ho, arr, ha, hle', hcap, hcells⟩ | ⟨hz, _⟩
      · obtain ⟨blk, off, cap, rw⟩ := im
        simp only at ho hrw hcap ha hlow
        subst ho hrw
        exact ⟨blk, cap, arr, by have := hlow.2.1 rfl; omega, him, ha, hle', hcap, hcells⟩
      · exact absurd rfl hz
  · cases e
end
end Go.CE
namespace Go.CE
open Go Go.RowKit
/-! ### Rows: what is read and written of them -/
theorem row_ext {e : Nat → List Value} {z n : Nat} (h : ∀ k, (e k).length = z) {A : Array Value} (hA : A.size = n * z) (hg : ∀ k, k < n → ∀ j, j < z → A[k * z + j]? = (e k)[j]?) : A = rowA e n := by
  have hs := rowA_size h n
  refine Array.ext (by rw [hA, hs]) fun i h1 h2 => ?_
  have hi : i < n * z := by rw [← hA]; exact h1
  have hz : 0 < z := by
    rcases Nat.eq_zero_or_pos z with e | e
    · rw [e] at hi; omega
    · exact e
  have hk : i / z < n := Nat.div_lt_of_lt_mul (by rw [Nat.mul_comm]; exact hi)
  have hj : i % z < z := Nat.mod_lt _ hz
  have hd : i / z * z + i % z = i := by rw [Nat.mul_comm]; exact Nat.div_add_mod i z
  have a := hg _ hk _ hj
  have b := rowA_get h hj n _ hk
  rw [hd] at a b
  have : A[i]? = (rowA e n)[i]? := by rw [a, b]
  simpa [h1, h2] using this
theorem row_extract {e : Nat → List Value} {z n m : Nat} (h : ∀ k, (e k).length = z) (hm : m < n) : (rowA e n).extract (m * z) (m * z + z) = (e m).toArray := by
  have hs := rowA_size h n
  have hle : m * z + z ≤ n * z := by
    rw [← Nat.succ_mul]; exact Nat.mul_le_mul_right _ hm
  refine Array.ext (by simp [hs, h]; omega) fun i h1 h2 => ?_
  have hi : i < z := by simpa [h] using h2
  have := rowA_get h hi n m hm
  have h3 : m * z + i < (rowA e n).size := by rw [hs]; omega
  rw [Array.getElem_extract]
  have e1 : (rowA e n)[m * z + i]? = some (rowA e n)[m * z + i] := by simp [h3]
  rw [e1] at this
  have hi' : i < (e m).length := by rw [h]; exact hi
  have e2 : (e m)[i]? = some (e m)[i] := by simp [hi']
  rw [e2] at this
  simpa using this
theorem row_splice {e : Nat → List Value} {z n m : Nat} {x : List Value} (h : ∀ k, (e k).length = z) (hx : x.length = z) (hm : m < n) : m * z + z ≤ (rowA e n).size ∧ splice (rowA e n) (m * z) x.toArray = rowA (fun j => if j = m then x else e j) n := by
  have hs := rowA_size h n
  have hle : m * z + z ≤ n * z := by
    rw [← Nat.succ_mul]; exact Nat.mul_le_mul_right _ hm
  have hsz : m * z + x.toArray.size ≤ (rowA e n).size := by rw [hs]; simp [hx]; exact hle
  refine ⟨by rw [hs]; exact hle, row_ext (z := z) (fun k => by split <;> simp [*]) (by rw [splice_size hsz, hs]) fun k hk j hj => ?_⟩
  rw [splice_get hsz]
  by_cases hkm : k = m
  · subst hkm
    rw [if_pos ⟨by omega, by simp [hx]; exact hj⟩]
    simp
  · rw [if_neg, if_neg hkm]
    · exact rowA_get h hj n k hk
    · simp only [List.size_toArray, hx]
      rintro ⟨q1, q2⟩
      rcases Nat.lt_or_ge k m with hlt | hge
      · have : k * z + z ≤ m * z := by rw [← Nat.succ_mul]; exact Nat.mul_le_mul_right _ hlt
        omega
      · have : m * z + z ≤ k * z := by rw [← Nat.succ_mul]; exact Nat.mul_le_mul_right _ (by omega)
        omega
theorem row_congr {e f : Nat → List Value} : ∀ n, (∀ k, k < n → e k = f k) → rowA e n = rowA f n
  | 0, _ => rfl
  | n + 1, h => by simp only [rowA]; rw [row_congr n (fun k hk => h k (by omega)), h n (by omega)]
theorem made_row {zc : Array Value} {z n : Nat} (hz : zc.size = z) : madeCells zc (n * z) = rowA (fun _ => zc.toList) n := by
  refine row_ext (z := z) (fun _ => by simp [hz]) (size_madeCells _ _) fun k hk j hj => ?_
  have hlt : k * z + j < n * z := by
    have : k * z + z ≤ n * z := by rw [← Nat.succ_mul]; exact Nat.mul_le_mul_right _ hk
    omega
  have hm : (k * z + j) % z = j := by rw [Nat.mul_comm, Nat.mul_add_mod, Nat.mod_eq_of_lt hj]
  have hj' : j < zc.size := by rw [hz]; exact hj
  simp only [madeCells, Array.getElem?_map, Array.getElem?_range, hlt, if_true, Option.map_some, hz, hm]
  simp [hj']
theorem cMake_row {P : Program} {t e : TypeId} {i : TypeInfo} {zv : Value} (hu : und P t = some (.slice e)) (hi : inf P e = some i) (hz : i.zero = some zv) (hsz : zv.cells.size = i.size) (h0 : 0 < i.size) (hsim : zv.cells.all simple = true) {n : Nat} {k k' : IntKind} (hb : i.bytes * n ≤ 281474976710656) (hn : n ≤ 9223372036854775807) :
    cMake P t (.int k n) (.int k' n) = some (e, rowA (fun _ => zv.cells.toList) n, n, i.size) := by
  have hall : (madeCells zv.cells (n * i.size)).all simple = true := by
    rw [Array.all_eq_true]
    intro q hq
    have hlt : q % zv.cells.size < zv.cells.size := Nat.mod_lt _ (by omega)
    simp only [madeCells, Array.getElem_map, Array.getElem_range]
    rw [getElem!_pos zv.cells (q % zv.cells.size) hlt]
    exact Array.all_eq_true.1 hsim _ hlt
  have h1 : decide (0 ≤ (n : Int)) = true := decide_eq_true (by omega)
  have h2 : decide ((n : Int) ≤ (n : Int)) = true := decide_eq_true (by omega)
  have h3 : decide ((i.bytes : Int) * (n : Int) ≤ 281474976710656) = true := decide_eq_true (by
    have key : ∀ m : Nat, m ≤ 281474976710656 → (m : Int) ≤ 281474976710656 := fun m h => by omega
    have := key _ hb
    rwa [Int.natCast_mul] at this)
  have h4 : decide ((n : Int) ≤ 9223372036854775807) = true := decide_eq_true (by omega)
  simp only [cMake, hu, hi, hz, Int.toNat_natCast, h1, h2, h3, h4, hall, Bool.and_self, cond_true]
  rw [made_row hsz]
end Go.CE
