/- A region that draws its order, where what its loads read is kept up to one operation (the marker), which waits for them. -/
import Derived.OrdersHeld
import Derived.WalkKit
import Derived.Deep.RegionHeld3
import Derived.Test.YtffdidleebognaaDoorZR08
namespace Go.Proofs.YtffdidleebognaaDoor
open Go Go.RowKit
section
variable {P : Program} {ops : Array Oper} {Q : Exit → Act → World → Prop} {S0 S1 : World → Prop} {m : Nat}
/-- What holds of the world: S1 always, S0 till number m has come up. -/
def Marked (S0 S1 : World → Prop) (m : Nat) (L : Array Bool) (w : World) : Prop := S1 w ∧ (L.getD m false = false → S0 w)
def wpAnyM (P : Program) (ops : Array Oper) (Q : Exit → Act → World → Prop) (S0 S1 : World → Prop) (m : Nat) : Nat → Array Bool → Act → World → Prop
  | 0, listed, a, w => Region.ready .any ops listed = [] ∧ Q .normal a w
  | fuel + 1, listed, a, w =>
    (Region.ready .any ops listed = [] → Q .normal a w) ∧
    ∀ i ∈ Region.ready .any ops listed, wpOp P ops Q i (fun a' w' => Marked S0 S1 m (listed.setIfInBounds i true) w' ∧ wpAnyM P ops Q S0 S1 m fuel (listed.setIfInBounds i true) a' w') a w
theorem wpAny_of_marked : ∀ (fuel : Nat) (listed : Array Bool) (a : Act) (w : World), wpAnyM P ops Q S0 S1 m fuel listed a w → wpAny P .any ops Q fuel listed a w
  | 0, _, _, _, h => h
  | fuel + 1, _, _, _, h => ⟨h.1, fun i hi => wpOp_mono (fun a' w' h' => wpAny_of_marked fuel _ a' w' h'.2) (h.2 i hi)⟩
/-- Does number m wait for number i, at once or by way of others? -/
def waitsFor (ops : Array Oper) : Nat → Nat → Nat → Bool
  | 0, _, _ => false
  | n + 1, m, i => match ops[m]? with
    | some o => o.after.any fun e => Region.binds .any e && (e.on == i || waitsFor ops n e.on i)
    | none => false
/-- What has come up has waited for what it waits for. -/
def Closed (ops : Array Oper) (L : Array Bool) : Prop := ∀ j o, ops[j]? = some o → L.getD j false = true → ∀ e ∈ o.after, Region.binds .any e = true → L.getD e.on false = true
theorem closed_set {L : Array Bool} {j : Nat} (h : Closed ops L) (hj : j ∈ Region.ready .any ops L) : Closed ops (L.setIfInBounds j true) := by
  intro k o ho hk e he hb
  obtain ⟨_, oj, hoj, hall⟩ := mem_ready.1 hj
  by_cases hkj : j = k
  · subst hkj
    rw [hoj] at ho
    cases ho
    exact getD_set_true (hall e he hb)
  · rw [getD_set_ne false hkj] at hk
    exact getD_set_true (h k o ho hk e he hb)
theorem closed_start (n : Nat) : Closed ops (Array.replicate n false) := by
  intro k o _ hk
  exfalso
  rw [Array.getD_eq_getD_getElem?, Array.getElem?_replicate] at hk
  split at hk <;> simp at hk
theorem false_of_true {L : Array Bool} {i : Nat} (hi : L.getD i true = false) : L.getD i false = false := by
  rcases Nat.lt_or_ge i L.size with h' | h'
  · simp [h'] at hi ⊢; exact hi
  · simp [Array.getElem?_eq_none h'] at hi
theorem waits_out {i : Nat} {L : Array Bool} (hc : Closed ops L) (hi : L.getD i true = false) : ∀ (n m : Nat), waitsFor ops n m i = true → m ∉ Region.ready .any ops L ∧ L.getD m false = false
  | 0, _, h => by simp [waitsFor] at h
  | n + 1, m, h => by
    unfold waitsFor at h
    cases ho : ops[m]? with
    | none => simp [ho] at h
    | some o =>
      simp only [ho] at h
      obtain ⟨e, he, hb⟩ := Array.any_eq_true'.1 h
      simp only [Bool.and_eq_true, Bool.or_eq_true, beq_iff_eq] at hb
      have hx : L.getD e.on false = false := by
        rcases hb.2 with h1 | h1
        · rw [h1]; exact false_of_true hi
        · exact (waits_out hc hi n e.on h1).2
      constructor
      · intro hm
        obtain ⟨_, o', ho', hall⟩ := mem_ready.1 hm
        rw [ho] at ho'
        cases ho'
        have := hall e he hb.1
        rw [hx] at this
        cases this
      · cases hm : L.getD m false with
        | false => rfl
        | true =>
          have := hc m o ho hm e he hb.1
          rw [hx] at this
          cases this
theorem wpAnyM_first {i : Nat} {oi : Oper} {v : Value} {T : World → Prop} (hi : ops[i]? = some oi) (hsel : ∀ (j : Nat) (o : Oper) cs b, ops[j]? = some o → o.op ≠ .select cs b)
    (hQ : ∀ c a w, Q (.panic c) (a.put oi.dst v) w → Q (.panic c) a w) (hmi : m ≠ i)
    {n : Nat} (hT : (∀ w, S1 w → T w) ∨ (waitsFor ops n m i = true ∧ ∀ w, S1 w → S0 w → T w)) :
    ∀ (fuel : Nat) (listed : Array Bool) (a : Act) (w : World),
      (∀ j oj, ops[j]? = some oj → j ≠ i → listed.getD j true = false → (∀ e ∈ oj.after, Region.binds .any e = true → e.on ≠ i) → oi.apart ops oj = true) →
      Closed ops listed → i ∈ Region.ready .any ops listed → ((∀ w, S1 w → T w) ∨ listed.getD m false = false) → YieldsIf P ops T oi v a → Marked S0 S1 m listed w →
      wpAnyM P ops Q S0 S1 m fuel (listed.setIfInBounds i true) (a.put oi.dst v) w → wpAnyM P ops Q S0 S1 m (fuel + 1) listed a w := by
  have look : ∀ (L : Array Bool) (w : World), ((∀ w, S1 w → T w) ∨ L.getD m false = false) → Marked S0 S1 m L w → T w := by
    intro L w h1 h2
    rcases hT with h | ⟨_, h⟩
    · exact h w h2.1
    · rcases h1 with h1 | h1
      · exact h1 w h2.1
      · exact h w h2.1 (h2.2 h1)
  have same : ∀ (L : Array Bool) (w : World), Marked S0 S1 m L w → Marked S0 S1 m (L.setIfInBounds i true) w := by
    intro L w h
    refine ⟨h.1, fun h1 => h.2 ?_⟩
    rwa [getD_set_ne false (Ne.symm hmi)] at h1
  have back : ∀ (L : Array Bool) (w : World), Marked S0 S1 m (L.setIfInBounds i true) w → Marked S0 S1 m L w := by
    intro L w h
    refine ⟨h.1, fun h1 => h.2 ?_⟩
    rwa [getD_set_ne false (Ne.symm hmi)]
  intro fuel
  induction fuel with
  | zero =>
    intro listed a w _ hcl hr hm hy hS H
    refine ⟨fun h => (by rw [h] at hr; cases hr), fun j hj => ?_⟩
    by_cases hji : j = i
    · subst hji; exact hy.wpOp hi (look _ _ hm hS) ⟨same _ _ hS, H⟩
    · have := ready_mono hj hji
      rw [H.1] at this
      cases this
  | succ fuel ih =>
    intro listed a w hfree hcl hr hm hy hS H
    refine ⟨fun h => (by rw [h] at hr; cases hr), fun j hj => ?_⟩
    by_cases hji : j = i
    · subst hji; exact hy.wpOp hi (look _ _ hm hS) ⟨same _ _ hS, H⟩
    · have h1 := H.2 j (ready_mono hj hji)
      obtain ⟨hjun, oj, hoj, hall⟩ := mem_ready.1 hj
      have hiun := (mem_ready.1 hr).1
      have hnot : ∀ e ∈ oj.after, Region.binds .any e = true → e.on ≠ i := fun e he hb heq => by
        have h1 := hall e he hb
        have h0 := (mem_ready.1 hr).1
        rw [heq] at h1
        rcases Nat.lt_or_ge i listed.size with h' | h'
        · simp [h'] at h0 h1; rw [h0] at h1; cases h1
        · simp [Array.getElem?_eq_none h'] at h1
      have h2 := wpOp_putIf hoj (hfree j oj hoj hji hjun hnot) (fun cs b => hsel i oi cs b hi) (fun cs b => hsel j oj cs b hoj) hQ hy h1
      have hfree' : ∀ k ok, ops[k]? = some ok → k ≠ i → (listed.setIfInBounds j true).getD k true = false →
          (∀ e ∈ ok.after, Region.binds .any e = true → e.on ≠ i) → oi.apart ops ok = true := fun k ok hk hki hun hno => by
        refine hfree k ok hk hki ?_ hno
        by_cases hjk : j = k
        · subst hjk; exact hjun
        · rw [getD_set_ne true hjk] at hun; exact hun
      have hm' : (∀ w, S1 w → T w) ∨ (listed.setIfInBounds j true).getD m false = false := by
        rcases hm with h | h
        · exact .inl h
        · rcases hT with h3 | ⟨h3, _⟩
          · exact .inl h3
          · have hjm : j ≠ m := fun e => (waits_out hcl hiun _ _ h3).1 (e ▸ hj)
            exact .inr (by rw [getD_set_ne false hjm]; exact h)
      refine wpOp_mono (fun a' w' h3 => ?_) h2
      have hM : Marked S0 S1 m (listed.setIfInBounds j true) w' := back _ _ (by rw [Array.setIfInBounds_comm _ _ hji]; exact h3.2.1)
      refine ⟨hM, ih (listed.setIfInBounds j true) a' w' hfree' (closed_set hcl hj) (ready_mono hr (Ne.symm hji)) hm' h3.1 hM ?_⟩
      rw [Array.setIfInBounds_comm _ _ hji]
      exact h3.2.2
/-- Take number i first: it yields v in every world that meets S1. -/
theorem wpAnyM_take {i : Nat} {oi : Oper} {v : Value} {fuel : Nat} {listed : Array Bool} {a : Act} {w : World} (hi : ops[i]? = some oi)
    (hs : Region.noSelect ops = true) (hf : Region.free .any ops listed i = true) (hr : (Region.ready .any ops listed).contains i = true) (hmi : (m == i) = false)
    (hQ : ∀ c a w, Q (.panic c) (a.put oi.dst v) w → Q (.panic c) a w) (hy : YieldsIf P ops S1 oi v a) (hcl : Closed ops listed) (hS : Marked S0 S1 m listed w)
    (h : Closed ops (listed.setIfInBounds i true) → Marked S0 S1 m (listed.setIfInBounds i true) w → wpAnyM P ops Q S0 S1 m fuel (listed.setIfInBounds i true) (a.put oi.dst v) w) : wpAnyM P ops Q S0 S1 m (fuel + 1) listed a w := by
  have hmi' : m ≠ i := fun e => by simp [e] at hmi
  have hS' : Marked S0 S1 m (listed.setIfInBounds i true) w := ⟨hS.1, fun h1 => hS.2 (by rwa [getD_set_ne false (Ne.symm hmi')] at h1)⟩
  exact wpAnyM_first hi (Region.noSelect_spec hs) hQ hmi' (n := 0) (.inl fun _ h => h) fuel listed a w (Region.free_spec hi hf) hcl (by simpa using hr) (.inl fun _ h => h) hy hS (h (closed_set hcl (by simpa using hr)) hS')
/-- Take number i first, for which the marker waits: it yields v in every world that meets S1 and S0. -/
theorem wpAnyM_take0 {i : Nat} {oi : Oper} {v : Value} {fuel : Nat} {listed : Array Bool} {a : Act} {w : World} (hi : ops[i]? = some oi)
    (hs : Region.noSelect ops = true) (hf : Region.free .any ops listed i = true) (hr : (Region.ready .any ops listed).contains i = true) (hmi : (m == i) = false) (hwt : waitsFor ops ops.size m i = true) (hml : listed.getD m false = false)
    (hQ : ∀ c a w, Q (.panic c) (a.put oi.dst v) w → Q (.panic c) a w) (hy : YieldsIf P ops (fun w => S1 w ∧ S0 w) oi v a) (hcl : Closed ops listed) (hS : Marked S0 S1 m listed w)
    (h : Closed ops (listed.setIfInBounds i true) → Marked S0 S1 m (listed.setIfInBounds i true) w → wpAnyM P ops Q S0 S1 m fuel (listed.setIfInBounds i true) (a.put oi.dst v) w) : wpAnyM P ops Q S0 S1 m (fuel + 1) listed a w := by
  have hmi' : m ≠ i := fun e => by simp [e] at hmi
  have hS' : Marked S0 S1 m (listed.setIfInBounds i true) w := ⟨hS.1, fun h1 => hS.2 (by rwa [getD_set_ne false (Ne.symm hmi')] at h1)⟩
  exact wpAnyM_first hi (Region.noSelect_spec hs) hQ hmi' (.inr ⟨hwt, fun _ h1 h0 => ⟨h1, h0⟩⟩) fuel listed a w (Region.free_spec hi hf) hcl (by simpa using hr) (.inr hml) hy hS (h (closed_set hcl (by simpa using hr)) hS')
/-- One operation alone may come up. -/
theorem wpAnyM_one {i : Nat} {oi : Oper} {fuel : Nat} {listed : Array Bool} {a : Act} {w : World} (hr : Region.ready .any ops listed = [i]) (hi : ops[i]? = some oi) (hg : Region.wanted oi (yielded ops a.tmps) = true) (hcl : Closed ops listed)
    (h : ∀ K : Act → World → Prop, (∀ a w, Marked S0 S1 m (listed.setIfInBounds i true) w → (Closed ops (listed.setIfInBounds i true) → Marked S0 S1 m (listed.setIfInBounds i true) w → wpAnyM P ops Q S0 S1 m fuel (listed.setIfInBounds i true) a w) → K a w) → oi.wp P a w K Q) :
    wpAnyM P ops Q S0 S1 m (fuel + 1) listed a w := by
  refine ⟨fun h0 => (by rw [hr] at h0; cases h0), fun j hj => ?_⟩
  have hcl' := closed_set hcl hj
  rw [hr] at hj
  obtain rfl : j = i := by simpa using hj
  have := h (fun a' w' => Marked S0 S1 m (listed.setIfInBounds j true) w' ∧ wpAnyM P ops Q S0 S1 m fuel (listed.setIfInBounds j true) a' w') (fun _ _ h1 h2 => ⟨h1, h2 hcl' h1⟩)
  unfold wpOp
  simp only [hi, hg, if_true]
  exact .inl this
theorem marked_gone {L : Array Bool} {w : World} (h1 : S1 w) (hl : L.getD m false = true) : Marked S0 S1 m L w := ⟨h1, fun h => by rw [hl] at h; cases h⟩
theorem wpAnyM_done {listed : Array Bool} {a : Act} {w : World} (hr : Region.ready .any ops listed = []) (h : Q .normal a w) : ∀ fuel, wpAnyM P ops Q S0 S1 m fuel listed a w
  | 0 => ⟨hr, h⟩
  | _ + 1 => ⟨fun _ => h, by rw [hr]; simp⟩
theorem wp_region_marked {id : Nat} {a : Act} {w : World} (hm : P.follows .mixedOrders = true) (hS : S1 w.drew ∧ S0 w.drew)
    (h : Closed ops (Array.replicate ops.size false) → Marked S0 S1 m (Array.replicate ops.size false) w.drew → wpAnyM P ops Q S0 S1 m ops.size (Array.replicate ops.size false) a w.drew) : (Code.region id ops true).wp P Q a w :=
  wp_region_any hm (wpAny_of_marked _ _ _ _ (h (closed_start _) ⟨hS.1, fun _ => hS.2⟩))
/-- The beginning, where what lies below B is kept up to the marker. -/
theorem wp_region_below {B : Nat} {id : Nat} {a : Act} {w : World} (hm : P.follows .mixedOrders = true)
    (h : Closed ops (Array.replicate ops.size false) → Marked (fun w' => Below B w w') (fun _ => True) m (Array.replicate ops.size false) w.drew →
      wpAnyM P ops Q (fun w' => Below B w w') (fun _ => True) m ops.size (Array.replicate ops.size false) a w.drew) : (Code.region id ops true).wp P Q a w :=
  wp_region_marked hm ⟨trivial, (Below.refl _ _).drew⟩ h
/-- The beginning, where what lies below B is kept by all of it. -/
theorem wp_region_keeps {B : Nat} {id : Nat} {a : Act} {w : World} (hm : P.follows .mixedOrders = true)
    (h : Closed ops (Array.replicate ops.size false) → Marked (fun _ => True) (fun w' => Below B w w') ops.size (Array.replicate ops.size false) w.drew →
      wpAnyM P ops Q (fun _ => True) (fun w' => Below B w w') ops.size ops.size (Array.replicate ops.size false) a w.drew) : (Code.region id ops true).wp P Q a w :=
  wp_region_marked hm ⟨(Below.refl _ _).drew, trivial⟩ h
end
theorem newOf {w : World} {n : Nat} (o : Obj) (h : n = w.heap.size) : (w.alloc o).heap[n]? = some o := by rw [h]; exact heap_alloc_new w o
theorem below_cells {W w1 : World} {B : Nat} (hb : Below B W w1) : ∀ b o, b < B → w1.cell? ⟨b, o, none⟩ = W.cell? ⟨b, o, none⟩ := fun b o h => hb.cell (p := ⟨b, o, none⟩) h
end Go.Proofs.YtffdidleebognaaDoor
