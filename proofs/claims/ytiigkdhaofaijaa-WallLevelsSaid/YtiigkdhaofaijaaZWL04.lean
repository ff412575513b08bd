/- CE: frames. Eighth part: the whole run. -/
import Derived.Test.YtiigkdhaofaijaaZWL03
set_option linter.all false
namespace Go.CE
open Go Go.RowKit

theorem bif_true {α : Type} {q : Bool} {x : α} {r : Option α} (h : (bif q then some x else none) = r) (hr : r.isSome = true) : q = true := by
  cases q with
  | true => rfl
  | false => subst h; cases hr
section
variable {P : Program} {F : FuncId → Bool} {orc : Orc} {B : Lo} {rec : CF → Heap → Nat → Option Rs} {c : CF} {H : Heap} {n : Nat}
theorem rangeFunc_any (hF : ∀ g, F g = true → okFn P g = true) (hrec : RecS P B rec) {f : Operand} {ps : Array Tmp} {assign body : Code} {k : List Item} {fv : Value} {H1 : Heap} {l : Nat} {ds R1 R2 : List Nat} {g : FuncId} {args : Array Value} {c1 : CF} {s : Rs} (hm : c.mode = .run) (hu : Under H n)
    (ht : c.todo = .code (.rangeFunc f ps assign body) :: k) (hfv : evC c.tmps f = some fv) (ho : openLoop c H n ps assign body = some (H1, l, ds, R1)) (hc : cCall F H1 fv #[.func (.yield l) #[] #[]] = some (.enter g args, R2)) (he : enterC P g args = some c1) (hs : rec c1 H1 (l + 1) = some s) :
    Shape H n s.H s.n (R1 ++ R2 ++ s.R) s.W ∧ ∀ (S : Nat → Prop) (μ : Mu) (w : World) (fr : Frame) (cs : List Frame) (Z : Bot), Ok B S μ (hget H) w → B.has w → (∀ i, S i → i < n) → Free μ n s.n → FrR Z μ c fr → (∀ i ∈ R1 ++ R2 ++ s.R, i < n → S i) →
      ∃ out' w' μ' im mark L', Post B S n s.n s.W μ μ' H s.H w w' ∧ μ' l = some im ∧ OR2 μ' s.out out' ∧ TodoR μ' k L' ∧ DfR μ' ds mark ∧ fr.mode = .run ∧ Ext μ μ' ∧ TR μ' c.tmps fr.tmps ∧
        Steps P (lone fr cs w) (lone (out'.on { fr with todo := .inRangeFunc im.blk :: L', defers := mark ++ fr.defers }) cs w') := by
  have hR2 := cCall_enter hc
  subst hR2
  rw [List.append_nil]
  obtain ⟨hsh1, hsem⟩ := openLoop_sound (P := P) (B := B) hu ho
  have hfj := hrec c1 H1 (l + 1) s (hu.shape hsh1) hs
  have l1 := hsh1.le
  have l2 := hfj.shape.le
  refine ⟨hsh1.trans hfj.shape, fun S μ w fr cs Z hok hB hS hf hfr hR => ?_⟩
  obtain ⟨a, b, d⟩ := hfr.running hm
  rw [ht] at d
  obtain ⟨L', e, hL⟩ := d.code
  have hf1 : Free μ n (l + 1) := fun q x y => hf q x (by omega)
  obtain ⟨mark, w1, μ1, im, hel, him, hp, hdf⟩ := hsem S μ w fr hok hB hS hf1 hfr.fn b hfr.round (fun q hq hlt => hR q (List.mem_append_left _ hq) hlt)
  have e1 := hp.mu hf1
  obtain ⟨nx', hrun, hnr⟩ := cCall_run (P := P) hF hc hp.ok ((ev_TR b f fv hfv).mono e1) (args' := #[.func (.yield im.blk) #[] #[]]) ⟨rfl, fun i v v' h1 h2 => by
    match i, h1, h2 with
    | 0, h1, h2 => simp only [List.getElem?_toArray, List.getElem?_cons_zero, Option.some.injEq] at h1 h2; subst h1 h2; exact .yield him
    | i + 1, h1, h2 => simp at h1⟩ (fun i hi => by simp at hi)
  cases hnr with
  | enter ha =>
    have hf2 : ∀ q, l + 1 ≤ q → q < s.n → μ1 q = none := fun q x y => by rw [hp.ext q (by omega)]; exact hf q (by omega) y
    obtain ⟨out', w', μ', hp2, ho2, hends⟩ := hfj.sem _ μ1 w1 _ ({ fr with todo := .inRangeFunc im.blk :: L', defers := mark ++ fr.defers } :: cs) hp.ok (hB.post hok hp) (fun q hq => hq.elim (fun e => by have := hS q e; omega) (fun e => e.2)) hf2 (enterC_FrR he ha) (fun q hq hlt => by
      rcases Nat.lt_or_ge q n with h1 | h1
      · exact .inl (hR q (List.mem_append_right _ hq) h1)
      · exact .inr ⟨h1, hlt⟩)
    have e2 := hp2.mu hf2
    exact ⟨out', w', μ', im, mark, L', hp.trans hp2, e2 _ _ him, ho2, hL.mono (e1.trans e2), hdf.mono e2, a, e1.trans e2, b.mono (e1.trans e2), .head (step_rangeFunc a e hel hrun) (hends.2 _ _ rfl)⟩
theorem go_rangeFunc (hF : ∀ g, F g = true → okFn P g = true) (hrec : RecS P B rec) {f : Operand} {ps : Array Tmp} {assign body : Code} {k : List Item} {fv v : Value} {H1 : Heap} {l : Nat} {ds R1 R2 : List Nat} {g : FuncId} {args : Array Value} {c1 : CF} {s : Rs} (hm : c.mode = .run) (hu : Under H n)
    (ht : c.todo = .code (.rangeFunc f ps assign body) :: k) (hfv : evC c.tmps f = some fv) (ho : openLoop c H n ps assign body = some (H1, l, ds, R1)) (hc : cCall F H1 fv #[.func (.yield l) #[] #[]] = some (.enter g args, R2)) (he : enterC P g args = some c1) (hs : rec c1 H1 (l + 1) = some s) (hv : s.out = .ret v) :
    GoJ P B c H n { c with todo := .endRangeFunc l :: k, defers := ds ++ c.defers } s.H s.n (R1 ++ R2 ++ s.R) s.W := by
  obtain ⟨hsh, hsem⟩ := rangeFunc_any hF hrec hm hu ht hfv ho hc he hs
  refine ⟨hsh, fun S μ w fr cs Z hok hB hS hf hfr hR => ?_⟩
  obtain ⟨out', w', μ', im, mark, L', hp, him, hor, hL, hdf, a, e, hT, hst⟩ := hsem S μ w fr cs Z hok hB hS hf hfr hR
  rw [hv] at hor
  cases hor with
  | ret _ => exact ⟨{ fr with todo := .endRangeFunc im.blk :: L', defers := mark ++ fr.defers }, w', μ', hp, ⟨hfr.fn, hT, fun _ => .cons (.endRF him) hL, DfB.app hdf (hfr.defers.mono e), hfr.mode.mono e, hfr.kind, hfr.round.mono e⟩, rfl, rfl, hst⟩
theorem go_rangeFunc_pan (hF : ∀ g, F g = true → okFn P g = true) (hrec : RecS P B rec) {f : Operand} {ps : Array Tmp} {assign body : Code} {k : List Item} {fv v : Value} {H1 : Heap} {l : Nat} {ds R1 R2 : List Nat} {g : FuncId} {args : Array Value} {c1 : CF} {s : Rs} (hm : c.mode = .run) (hu : Under H n)
    (ht : c.todo = .code (.rangeFunc f ps assign body) :: k) (hfv : evC c.tmps f = some fv) (ho : openLoop c H n ps assign body = some (H1, l, ds, R1)) (hc : cCall F H1 fv #[.func (.yield l) #[] #[]] = some (.enter g args, R2)) (he : enterC P g args = some c1) (hs : rec c1 H1 (l + 1) = some s) (hv : s.out = .pan v) :
    GoJ P B c H n { c with mode := .pan v, defers := ds ++ c.defers } s.H s.n (R1 ++ R2 ++ s.R) s.W := by
  obtain ⟨hsh, hsem⟩ := rangeFunc_any hF hrec hm hu ht hfv ho hc he hs
  refine ⟨hsh, fun S μ w fr cs Z hok hB hS hf hfr hR => ?_⟩
  obtain ⟨out', w', μ', im, mark, L', hp, him, hor, hL, hdf, a, e, hT, hst⟩ := hsem S μ w fr cs Z hok hB hS hf hfr hR
  rw [hv] at hor
  cases hor with
  | pan hvr =>
    rename_i v'
    refine ⟨{ fr with todo := .inRangeFunc im.blk :: L', defers := mark ++ fr.defers, mode := .panicking [{ v := v', recovered := false }] }, w', μ', hp, ⟨hfr.fn, hT, (fun h => by cases h), DfB.app hdf (hfr.defers.mono e), .pan hvr, hfr.kind, hfr.round.mono e⟩, rfl, rfl, hst.trans ?_⟩
    simp only [OO.on, Frame.raise, a]
    exact Steps.refl _ _
theorem fstep_sound (hF : ∀ g, F g = true → okFn P g = true) (hmix : P.follows .mixedOrders = true) (horc : OrcS P B orc) (hrec : RecS P B rec) (hu : Under H n) {fs : FS} (h : fstep P F orc rec c H n = some fs) : FsOk P B c H n fs := by
  unfold fstep at h
  split at h
  · rename_i hm
    split at h
    · rename_i ht; exact leave_sound hm hu (leaves_nil ht) h
    · rename_i k ht; exact leave_sound hm hu (leaves_ret ht) h
    · rename_i k ht; simp only [Option.some.injEq] at h; subst h; exact go_skip hm ht
    · rename_i l k ht; simp only [Option.some.injEq] at h; subst h; exact go_label hm ht
    · rename_i l k ht; simp only [Option.some.injEq] at h; subst h; exact go_inBlock hm ht
    · rename_i l k ht; simp only [Option.some.injEq] at h; subst h; exact go_inScope hm ht
    · rename_i x y k ht; simp only [Option.some.injEq] at h; subst h; exact go_seq hm ht
    · rename_i q x y k ht
      split at h
      · rename_i t hq; simp only [Option.some.injEq] at h; subst h; exact go_cond hm ht hq
      · cases h
    · rename_i id x k ht; simp only [Option.some.injEq] at h; subst h; exact go_block hm ht
    · rename_i x k ht; simp only [Option.some.injEq] at h; subst h; exact go_loop hm ht
    · rename_i x k ht; simp only [Option.some.injEq] at h; subst h; exact go_inLoop hm ht
    · rename_i x k ht; simp only [Option.some.injEq] at h; subst h; exact go_scope hm ht
    · rename_i id k ht
      split at h
      · rename_i k' hx; simp only [Option.some.injEq] at h; subst h; exact go_exit hm ht hx
      · rename_i hx; exact leave_sound hm hu (leaves_exit ht hx) h
    · rename_i id k ht
      split at h
      · rename_i k' hx; simp only [Option.some.injEq] at h; subst h; exact go_goto hm ht hx
      · rename_i hx; exact leave_sound hm hu (leaves_goto ht hx) h
    · rename_i id ops draw k ht
      split at h
      · rename_i recs T' H' n' hr
        cases hd : (!draw || (edgesOk 0 ops.toList && indep ops 0 recs (befs ops.toList []))) with
        | false => rw [hd] at h; cases h
        | true =>
          rw [← bif_some h]
          exact go_region hF hrec horc hmix hm hu ht hr hd
      · rename_i recs T' v H' n' R W hr
        cases draw with
        | true => cases h
        | false =>
          simp only [cond_false, Option.some.injEq] at h
          subst h
          exact go_region_pan hF hrec horc hm hu ht hr
      · cases h
    · rename_i f ps assign body k ht
      split at h
      · rename_i fv hfv
        split at h
        · rename_i H1 l ds R1 ho
          split at h
          · rename_i g args R2 hc
            split at h
            · rename_i c1 he
              split at h
              · rename_i s hs
                split at h
                · rename_i v hv; simp only [Option.some.injEq] at h; subst h; exact go_rangeFunc hF hrec hm hu ht hfv ho hc he hs hv
                · rename_i v hv; simp only [Option.some.injEq] at h; subst h; exact go_rangeFunc_pan hF hrec hm hu ht hfv ho hc he hs hv
              · cases h
            · cases h
          · cases h
        · cases h
      · cases h
    · rename_i l k ht
      split at h
      · rename_i r hg
        by_cases hs : r.state = .busy
        · simp [hs] at h
        · simp only [hs, decide_false, Bool.not_false, cond_true, Option.some.injEq] at h
          subst h
          exact go_endRF hm hu ht hg hs
      · cases h
    · rename_i k ht
      split at h
      · rename_i l hr
        split at h
        · rename_i r hg
          by_cases hs : r.state = .ready
          · simp only [hs, decide_true, cond_true, Option.some.injEq] at h
            subst h
            exact go_beginRound hm hu ht hr hg hs
          · simp [hs] at h
        · cases h
      · cases h
    · cases h
  · rename_i hm
    split at h
    · rename_i d ds hd
      split at h
      · rename_i hg; simp only [Option.some.injEq] at h; subst h; exact go_collect hm hu hd hg
      · cases h
    · rename_i hd
      split at h
      · rename_i v hv
        have hq := bif_true h rfl
        rw [← bif_some h]
        exact done_pan hv hd hq
      · rename_i hnp
        split at h
        · rename_i v R hr hv
          simp only [Option.some.injEq] at h
          subst h
          refine done_ret hu ?_ hd hv
          cases hq : c.mode with
          | run => exact absurd hq hm
          | ret => rfl
          | pan v => exact absurd hq (hnp v)
        · cases h
theorem FJ.lists {out : OO} {H' : Heap} {n' : Nat} {R W R' W' : List Nat} (h : FJ P B c H n out H' n' R W) (hR : ∀ i, i < n → (i ∈ R' ↔ i ∈ R)) (hW : ∀ i, i < n → (i ∈ W' ↔ i ∈ W)) (hlt : ∀ i ∈ W', i < n) : FJ P B c H n out H' n' R' W' := by
  refine ⟨⟨h.shape.le, fun i hi hw => h.shape.keep i hi fun e => hw ((hW i hi).2 e), h.shape.top, fun i hi => (hR i (hlt i hi)).2 (h.shape.sub i ((hW i (hlt i hi)).1 hi)), fun i hi => by have := hlt i hi; have := h.shape.le; omega⟩, fun S μ w fr cs hok hB hS hf hfr hRS => ?_⟩
  obtain ⟨out', w', μ', hp, ho, he⟩ := h.sem S μ w fr cs hok hB hS hf hfr (fun i hi hl => hRS i ((hR i hl).2 hi) hl)
  exact ⟨out', w', μ', hp.lists hW, ho, he⟩
theorem addl_iff {b : Nat} {l acc : List Nat} {i : Nat} (hi : i < b) : i ∈ addl b l acc ↔ i ∈ acc ∨ i ∈ l := by
  obtain ⟨h1, h2, h3⟩ := addl_mem (b := b) l acc i
  exact ⟨fun h => (h1 h).imp id And.left, fun h => h.elim h2 fun h => h3 h hi⟩
theorem addl_lt {b : Nat} {l acc : List Nat} (h : ∀ i ∈ acc, i < b) : ∀ i ∈ addl b l acc, i < b := fun i hi => ((addl_mem (b := b) l acc i).1 hi).elim (h i) And.right
theorem frun_sound (hF : ∀ g, F g = true → okFn P g = true) (hmix : P.follows .mixedOrders = true) (horc : OrcS P B orc) : ∀ (fuel : Nat) (b : Nat) (c : CF) (H : Heap) (n : Nat) (R0 W0 : List Nat) (s : Rs), Under H n → (∀ i ∈ R0, i < b) → (∀ i ∈ W0, i < b) → frun P F orc fuel b c H n R0 W0 = some s →
    ∃ Rr Wr, FJ P B c H n s.out s.H s.n Rr Wr ∧ (∀ i, i < b → (i ∈ s.R ↔ i ∈ R0 ∨ i ∈ Rr)) ∧ (∀ i, i < b → (i ∈ s.W ↔ i ∈ W0 ∨ i ∈ Wr)) ∧ (∀ i ∈ s.R, i < b) ∧ (∀ i ∈ s.W, i < b)
  | 0, b, c, H, n, R0, W0, s, hu, hR0, hW0, h => by simp [frun] at h
  | fuel + 1, b, c, H, n, R0, W0, s, hu, hR0, hW0, h => by
    have hrec : RecS P B (fun c1 H1 n1 => frun P F orc fuel n1 c1 H1 n1 [] []) := by
      intro c1 H1 n1 s1 hu1 h1
      obtain ⟨Rr, Wr, hfj, a1, a2, a3, a4⟩ := frun_sound hF hmix horc fuel n1 c1 H1 n1 [] [] s1 hu1 (fun i hi => by simp at hi) (fun i hi => by simp at hi) h1
      exact hfj.lists (fun i hi => by simpa using a1 i hi) (fun i hi => by simpa using a2 i hi) a4
    simp only [frun] at h
    split at h
    · rename_i c' H' n' R' W' hs
      have hgo : GoJ P B c H n c' H' n' R' W' := fstep_sound hF hmix horc hrec hu hs
      obtain ⟨Rr, Wr, hfj, a1, a2, a3, a4⟩ := frun_sound hF hmix horc fuel b c' H' n' (addl b R' R0) (addl b W' W0) s (hu.shape hgo.shape) (addl_lt hR0) (addl_lt hW0) h
      refine ⟨R' ++ Rr, W' ++ Wr, hgo.fj hfj, fun i hi => ?_, fun i hi => ?_, a3, a4⟩
      · rw [a1 i hi, addl_iff hi, List.mem_append, or_assoc]
      · rw [a2 i hi, addl_iff hi, List.mem_append, or_assoc]
    · rename_i out H' n' R' W' hs
      have hdone : FJ P B c H n out H' n' R' W' := fstep_sound hF hmix horc hrec hu hs
      simp only [Option.some.injEq] at h
      subst h
      exact ⟨R', W', hdone, fun i hi => addl_iff hi, fun i hi => addl_iff hi, addl_lt hR0, addl_lt hW0⟩
    · cases h
end
end Go.CE
