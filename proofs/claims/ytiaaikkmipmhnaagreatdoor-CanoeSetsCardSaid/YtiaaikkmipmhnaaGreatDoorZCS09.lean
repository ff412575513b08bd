/- TW 4: runs in which there are trees. -/
import Derived.Test.YtiaaikkmipmhnaaGreatDoorZCS08
set_option linter.all false
namespace Go.CE
open Go Go.RowKit

abbrev ScriptT := List (Nat × HintT)
def toldT (sc : ScriptT) (q : Nat) : Option HintT × ScriptT := match sc with
  | (k, h) :: l => bif Nat.beq k q then (some h, l) else (none, sc)
  | [] => (none, [])
structure RRT where
  recs : List Rec
  T : Tm
  H : Heap
  n : Nat
  sc : ScriptT
  q : Nat
  L : List Prop
  pan : Option (Value × List Nat × List Nat)
def rrunT (P : Program) (F : FuncId → Bool) (J : World → Prop) (B : Lo) (ops : Array Oper) : List Oper → Tm → Heap → Nat → ScriptT → Nat → List Prop → Option RRT
  | [], T, H, n, sc, q, L => some ⟨[], T, H, n, sc, q, L, none⟩
  | o :: l, T, H, n, sc, q, L =>
    bif dstOk T o.dst then
      bif Region.wanted o (yieldedC ops T) then
        match toldT sc q with
        | (h, sc') => match opT P F J B T o H n h with
          | some ⟨⟨.ret v, H1, n1, R, W⟩, p⟩ => match rrunT P F J B ops l (tput T o.dst v) H1 n1 sc' (q + 1) (more p L) with
            | some r => some { r with recs := ⟨o, true, v, T, H, H1, n, n1, R, W⟩ :: r.recs }
            | none => none
          | some ⟨⟨.pan v, H1, n1, R, W⟩, p⟩ => some ⟨[], T, H1, n1, sc', q + 1, more p L, some (v, R, W)⟩
          | none => none
      else match rrunT P F J B ops l (tput T o.dst undef) H n sc (q + 1) L with
        | some r => some { r with recs := ⟨o, false, undef, T, H, H, n, n, [], []⟩ :: r.recs }
        | none => none
    else none
def iterT (P : Program) (F : FuncId → Bool) (B : Lo) (c : CF) (H : Heap) (n : Nat) (f : Operand) (params : Array Tmp) (assign body : Code) (k : List Item) (keys : List Nat) (out : OO) (ups : Heap) (n' : Nat) (W : List Nat) : Option (CF × Heap × Prop) :=
  match evC c.tmps f with
  | some fv => match openLoop c H n params assign body with
    | some (H1, l, ds, _) => match cCall F H1 fv #[.func (.yield l) #[] #[]] with
      | some (.enter g args, _) => match enterC P g args with
        | some c1 => match out with
          | .ret _ => some ({ c with todo := .endRangeFunc l :: k, defers := ds ++ c.defers }, ups ++ H1, FJ P B c1 H1 (l + 1) out (ups ++ H1) n' keys W)
          | .pan v => some ({ c with mode := .pan v, defers := ds ++ c.defers }, ups ++ H1, FJ P B c1 H1 (l + 1) out (ups ++ H1) n' keys W)
        | none => none
      | _ => none
    | none => none
  | none => none
def srunT (P : Program) (F : FuncId → Bool) (J : World → Prop) (B : Lo) : Nat → Nat → CF → Heap → Nat → ScriptT → Nat → List Nat → List Prop → Option ST
  | 0, _, c, H, n, _, _, W, L => some ⟨.at c H n, W, L⟩
  | k + 1, b, c, H, n, sc, q, W, L =>
    match c.mode, c.todo with
    | .run, .code (.region _ ops draw) :: todo => match rrunT P F J B ops ops.toList c.tmps H n sc q L with
      | some r => match r.pan with
        | none => bif !draw || (edgesOk 0 ops.toList && indep ops 0 r.recs (befs ops.toList [])) then srunT P F J B k b { c with tmps := r.T, todo := todo } r.H r.n r.sc r.q (addl b (allW r.recs) W) r.L else none
        | some (v, _, W1) => bif !draw || panLast ops r.recs r.T then srunT P F J B k b { c with tmps := r.T, mode := .pan v } r.H r.n r.sc r.q (addl b (allW r.recs ++ W1) W) r.L else none
      | none => none
    | .run, .code (.rangeFunc f params assign body) :: todo => match toldT sc q with
      | (some (.old (.call keys out ups n1 W1)), sc') => match iterH P F B c H n f params assign body todo keys out ups n1 W1 with
        | some (c', H', p) => srunT P F J B k b c' H' n1 sc' q (addl b W1 W) (p :: L)
        | none => none
      | (some (.call keys out ups n1 W1), sc') => match iterT P F B c H n f params assign body todo keys out ups n1 W1 with
        | some (c', H', p) => srunT P F J B k b c' H' n1 sc' q (addl b W1 W) (p :: L)
        | none => none
      | _ => none
    | _, _ => match fstep P F noOrc (fun _ _ _ => none) c H n with
      | some (.go c' H' n' _ W') => srunT P F J B k b c' H' n' sc q (addl b W' W) L
      | some (.done out H' n' _ W') => some ⟨.fin out H' n', addl b W' W, L⟩
      | none => none
section
variable {P : Program} {F : FuncId → Bool} {J : World → Prop} {B : Lo}
theorem rrunT_mono {ops : Array Oper} : ∀ (l : List Oper) (T : Tm) (H : Heap) (n : Nat) (sc : ScriptT) (q : Nat) (L : List Prop) (r : RRT), rrunT P F J B ops l T H n sc q L = some r → AllP r.L → AllP L
  | [], T, H, n, sc, q, L, r, h, ha => by
    simp only [rrunT, Option.some.injEq] at h
    subst h
    exact ha
  | o :: l, T, H, n, sc, q, L, r, h, ha => by
    simp only [rrunT] at h
    cases hd : dstOk T o.dst with
    | false => rw [hd] at h; cases h
    | true =>
      rw [hd] at h
      simp only [cond_true] at h
      cases hw : Region.wanted o (yieldedC ops T) with
      | true =>
        rw [hw] at h
        simp only [cond_true] at h
        split at h
        · rename_i v H1 n1 R W p hop
          split at h
          · rename_i r' hr
            simp only [Option.some.injEq] at h
            subst h
            exact (more_all (rrunT_mono l _ _ _ _ _ _ r' hr ha)).2
          · cases h
        · simp only [Option.some.injEq] at h
          subst h
          exact (more_all ha).2
        · cases h
      | false =>
        rw [hw] at h
        simp only [cond_false] at h
        split at h
        · rename_i r' hr
          simp only [Option.some.injEq] at h
          subst h
          exact rrunT_mono l _ _ _ _ _ _ r' hr ha
        · cases h
def RegOk (P : Program) (B : Lo) (ops : Array Oper) (l : List Oper) (T : Tm) (H : Heap) (n : Nat) (r : RRT) : Prop := match r.pan with
  | none => Chain r.recs T H n r.T r.H r.n ∧ r.recs.map (·.o) = l ∧ Under r.H r.n
  | some (v, R, W) => ∃ H1 n1 o l2, Chain r.recs T H n r.T H1 n1 ∧ r.recs.map (·.o) ++ o :: l2 = l ∧ Region.wanted o (yieldedC ops r.T) = true ∧ Does P B o (evC r.T) H1 n1 (.pan v) r.H r.n R W ∧ Shape H1 n1 r.H r.n R W ∧ Under r.H r.n
theorem RegOk.cons {ops : Array Oper} {l : List Oper} {T : Tm} {H : Heap} {n : Nat} {r : RRT} {x : Rec} (h : RegOk P B ops l (tput T x.o.dst x.v) x.H' x.n' r) (hT : x.T = T) (hH : x.H = H) (hn : x.n = n) : RegOk P B ops (x.o :: l) T H n { r with recs := x :: r.recs } := by
  unfold RegOk at h ⊢
  cases hp : r.pan with
  | none =>
    rw [hp] at h
    obtain ⟨h3, h4, h5⟩ := h
    exact ⟨⟨hT, hH, hn, h3⟩, by simp [h4], h5⟩
  | some p =>
    obtain ⟨v, R, W⟩ := p
    rw [hp] at h
    obtain ⟨H1, n1, o, l2, h1, h2, h3⟩ := h
    exact ⟨H1, n1, o, l2, ⟨hT, hH, hn, h1⟩, by simp [h2], h3⟩
theorem rrunT_sound (hF : ∀ g, F g = true → okFn P g = true) (hJ : ∀ w, B.has w → J w) {ops : Array Oper} {len : Nat} : ∀ (l : List Oper) (T : Tm) (H : Heap) (n : Nat) (sc : ScriptT) (q : Nat) (L : List Prop) (r : RRT), T.len = len → Under H n → rrunT P F J B ops l T H n sc q L = some r → AllP r.L →
    (∀ x ∈ r.recs, Sane len x) ∧ (∀ x ∈ r.recs, RecOk P B ops x) ∧ RegOk P B ops l T H n r
  | [], T, H, n, sc, q, L, r, hl, hu, h, ha => by
    simp only [rrunT, Option.some.injEq] at h
    subst h
    exact ⟨fun r hr => by simp at hr, fun r hr => by simp at hr, ⟨rfl, rfl, rfl⟩, rfl, hu⟩
  | o :: l, T, H, n, sc, q, L, r, hl, hu, h, ha => by
    simp only [rrunT] at h
    cases hd : dstOk T o.dst with
    | false => rw [hd] at h; cases h
    | true =>
      have hdst := dstOk_spec hd
      rw [hl] at hdst
      rw [hd] at h
      simp only [cond_true] at h
      cases hw : Region.wanted o (yieldedC ops T) with
      | true =>
        rw [hw] at h
        simp only [cond_true] at h
        split at h
        · rename_i v H1 n1 R W p hop
          split at h
          · rename_i r' hr
            simp only [Option.some.injEq] at h
            subst h
            have hpL := more_all (rrunT_mono l _ _ _ _ _ _ r' hr ha)
            obtain ⟨hdo, hsh⟩ := opT_sound hF hJ hu hop hpL.1
            obtain ⟨h1, h2, h3⟩ := rrunT_sound hF hJ (ops := ops) (len := len) l (tput T o.dst v) H1 n1 _ _ _ r' (by rw [tput_len]; exact hl) (hu.shape hsh) hr ha
            refine ⟨fun x hx => ?_, fun x hx => ?_, RegOk.cons (x := ⟨o, true, v, T, H, H1, n, n1, R, W⟩) h3 rfl rfl rfl⟩
            · rcases List.mem_cons.1 hx with rfl | hx
              · exact ⟨hsh.le, hsh.keep, hsh.top, hsh.sub, hsh.wlt, hdst⟩
              · exact h1 x hx
            · rcases List.mem_cons.1 hx with rfl | hx
              · exact ⟨hw.symm, (fun _ => hdo), (fun e => by cases e)⟩
              · exact h2 x hx
          · cases h
        · rename_i v H1 n1 R W p hop
          simp only [Option.some.injEq] at h
          subst h
          obtain ⟨hdo, hsh⟩ := opT_sound hF hJ hu hop (more_all ha).1
          exact ⟨fun r hr => by simp at hr, fun r hr => by simp at hr, H, n, o, l, ⟨rfl, rfl, rfl⟩, rfl, hw, hdo, hsh, hu.shape hsh⟩
        · cases h
      | false =>
        rw [hw] at h
        simp only [cond_false] at h
        split at h
        · rename_i r' hr
          simp only [Option.some.injEq] at h
          subst h
          obtain ⟨h1, h2, h3⟩ := rrunT_sound hF hJ (ops := ops) (len := len) l (tput T o.dst undef) H n _ _ _ r' (by rw [tput_len]; exact hl) hu hr ha
          refine ⟨fun x hx => ?_, fun x hx => ?_, RegOk.cons (x := ⟨o, false, undef, T, H, H, n, n, [], []⟩) h3 rfl rfl rfl⟩
          · rcases List.mem_cons.1 hx with rfl | hx
            · exact ⟨Nat.le_refl _, fun _ _ _ => rfl, fun _ _ => rfl, fun i hi => by simp at hi, fun i hi => by simp at hi, hdst⟩
            · exact h1 x hx
          · rcases List.mem_cons.1 hx with rfl | hx
            · exact ⟨hw.symm, (fun e => by cases e), fun _ => ⟨rfl, rfl, rfl, rfl⟩⟩
            · exact h2 x hx
        · cases h
theorem go_region_panT {c : CF} {H : Heap} {n : Nat} {id : Nat} {ops : Array Oper} {k : List Item} {recs : List Rec} {v : Value} {H' : Heap} {n' : Nat} {R W : List Nat} {T' : Tm} (hm : c.mode = .run)
    (ht : c.todo = .code (.region id ops false) :: k) (hs : ∀ x ∈ recs, Sane c.tmps.len x) (hk : ∀ x ∈ recs, RecOk P B ops x)
    (h : ∃ H1 n1 o l2, Chain recs c.tmps H n T' H1 n1 ∧ recs.map (·.o) ++ o :: l2 = ops.toList ∧ Region.wanted o (yieldedC ops T') = true ∧ Does P B o (evC T') H1 n1 (.pan v) H' n' R W ∧ Shape H1 n1 H' n' R W ∧ Under H' n') :
    GoJ P B c H n { c with tmps := T', mode := .pan v } H' n' (allR recs ++ R) (allW recs ++ W) := by
  obtain ⟨H1, n1, o, l2, hch, hmap, hwant, hdo, hsh, _⟩ := h
  have hown := own_of_map (l2 := o :: l2) hmap rfl
  have hlen : ops.size = recs.length + (l2.length + 1) := by have := congrArg List.length hmap; simp at this; omega
  have hat : ops[recs.length]? = some o := by
    rw [← Array.getElem?_toList, ← hmap, List.getElem?_append_right (by simp)]
    simp
  have hsh1 := chain_shape recs _ _ _ _ _ _ hch hs
  have l1 := hsh1.le
  have l3 := hsh.le
  refine ⟨hsh1.trans hsh, fun S μ w fr cs Z hok hB hS hf hfr hR => ?_⟩
  obtain ⟨a, b, d⟩ := hfr.running hm
  rw [ht] at d
  obtain ⟨L', e, hL⟩ := d.code
  have hf1 : Free μ n n1 := fun q x y => hf q x (by omega)
  obtain ⟨μ1, A1, w1, hp, hT, hst⟩ := seq_run (fr := fr) (cs := cs) (k := L') a recs 0 c.tmps H n T' H1 n1 (List.range' recs.length (l2.length + 1)) hch hs hk (fun j r hj => by rw [Nat.zero_add]; exact hown j r hj) rfl S μ w fr.tmps hok hB hS hf1
    (fun q hq hlt => hR q (List.mem_append_left _ hq) hlt) b
  have hr : List.range' 0 recs.length ++ List.range' recs.length (l2.length + 1) = List.range' 0 ops.size := by
    rw [hlen]
    have := List.range'_append_1 (s := 0) (m := recs.length) (n := l2.length + 1)
    simpa using this
  rw [hr, List.range'_succ] at hst
  obtain ⟨out', w2, μ2, hp2, ho, hst2⟩ := hdo _ μ1 w1 (inReg fr A1 ops (recs.length :: List.range' (recs.length + 1) l2.length) L') cs L' ops recs.length _ hp.ok (hB.post hok hp) (fun q hq => hq.elim (fun e => by have := hS q e; omega) (fun e => e.2))
    (fun q x y => by rw [hp.ext q (by omega)]; exact hf q (by omega) y) (fun x _ v hv => ev_TR (fr := inReg fr A1 ops (recs.length :: List.range' (recs.length + 1) l2.length) L') hT x v hv) (fun q hq hlt => by
      rcases Nat.lt_or_ge q n with h1 | h1
      · exact .inl (hR q (List.mem_append_right _ hq) h1)
      · exact .inr ⟨h1, hlt⟩) a rfl hat (by rw [show (inReg fr A1 ops (recs.length :: List.range' (recs.length + 1) l2.length) L').tmps = A1 from rfl, yielded_TR hT]; exact hwant)
  have hpp := hp.trans hp2
  cases ho with
  | pan hv =>
    rename_i v'
    refine ⟨{ inReg fr A1 ops (recs.length :: List.range' (recs.length + 1) l2.length) L' with mode := .panicking [{ v := v', recovered := false }] }, w2, μ2, hpp, ⟨hfr.fn, hT.mono (hp2.mu fun q x y => by rw [hp.ext q (by omega)]; exact hf q (by omega) y), (fun h => by cases h), hfr.defers.mono (hpp.mu hf), .pan hv, hfr.kind, hfr.round.mono (hpp.mu hf)⟩, rfl, rfl,
      .head (step_region_text a e) (hst.trans (hst2.trans ?_))⟩
    simp only [OO.on, Frame.raise, inReg, a]
    exact Steps.refl _ _
theorem iterT_sound (hF : ∀ g, F g = true → okFn P g = true) (hmix : P.follows .mixedOrders = true) {c c' : CF} {H H' : Heap} {n n' : Nat} {f : Operand} {params : Array Tmp} {assign body : Code} {k : List Item} {keys W : List Nat} {out : OO} {ups : Heap} {p : Prop} (hu : Under H n) (hm : c.mode = .run) (ht : c.todo = .code (.rangeFunc f params assign body) :: k)
    (h : iterT P F B c H n f params assign body k keys out ups n' W = some (c', H', p)) (hp : p) : ∃ R, GoJ P B c H n c' H' n' R W := by
  unfold iterT at h
  split at h
  · rename_i fv hfv
    split at h
    · rename_i H1 l ds R1 ho
      split at h
      · rename_i g args R2 hc
        split at h
        · rename_i c1 he
          refine ⟨R1 ++ R2 ++ keys, ?_⟩
          split at h
          · rename_i v
            simp only [Option.some.injEq, Prod.mk.injEq] at h
            obtain ⟨rfl, rfl, rfl⟩ := h
            have : fstep P F noOrc (recOne c1 H1 (l + 1) ⟨.ret v, ups ++ H1, n', keys, W⟩) c H n = some (.go { c with todo := .endRangeFunc l :: k, defers := ds ++ c.defers } (ups ++ H1) n' (R1 ++ R2 ++ keys) W) := by
              unfold fstep
              simp only [hm, ht, hfv, ho, hc, he, recOne_eq]
            exact fstep_sound hF hmix (noOrc_ok P B) (FJ.recS hp) hu this
          · rename_i v
            simp only [Option.some.injEq, Prod.mk.injEq] at h
            obtain ⟨rfl, rfl, rfl⟩ := h
            have : fstep P F noOrc (recOne c1 H1 (l + 1) ⟨.pan v, ups ++ H1, n', keys, W⟩) c H n = some (.go { c with mode := .pan v, defers := ds ++ c.defers } (ups ++ H1) n' (R1 ++ R2 ++ keys) W) := by
              unfold fstep
              simp only [hm, ht, hfv, ho, hc, he, recOne_eq]
            exact fstep_sound hF hmix (noOrc_ok P B) (FJ.recS hp) hu this
        · cases h
      · cases h
    · cases h
  · cases h
theorem srunT_mono (b : Nat) : ∀ (fuel : Nat) (c : CF) (H : Heap) (n : Nat) (sc : ScriptT) (q : Nat) (W0 : List Nat) (L : List Prop) (s : ST), srunT P F J B fuel b c H n sc q W0 L = some s → AllP s.L → AllP L := by
  intro fuel
  induction fuel with
  | zero => intro c H n sc q W0 L s h ha; simp only [srunT, Option.some.injEq] at h; subst h; exact ha
  | succ k ih =>
    intro c H n sc q W0 L s h ha
    simp only [srunT] at h
    split at h
    · split at h
      · rename_i r' hr'
        split at h
        · have h := bif_some' h
          exact rrunT_mono _ _ _ _ _ _ _ _ hr' (ih _ _ _ _ _ _ _ _ h ha)
        · exact rrunT_mono _ _ _ _ _ _ _ _ hr' (ih _ _ _ _ _ _ _ _ (bif_some' h) ha)
      · cases h
    · split at h
      · split at h
        · exact (ih _ _ _ _ _ _ _ _ h ha).2
        · cases h
      · split at h
        · exact (ih _ _ _ _ _ _ _ _ h ha).2
        · cases h
      · cases h
    · split at h
      · exact ih _ _ _ _ _ _ _ _ h ha
      · simp only [Option.some.injEq] at h; subst h; exact ha
      · cases h
theorem srunT_sound (hF : ∀ g, F g = true → okFn P g = true) (hJ : ∀ w, B.has w → J w) (hmix : P.follows .mixedOrders = true) : ∀ (fuel b : Nat) (c : CF) (H : Heap) (n : Nat) (sc : ScriptT) (q : Nat) (W0 : List Nat) (L : List Prop) (s : ST), Under H n → srunT P F J B fuel b c H n sc q W0 L = some s → AllP s.L →
    ∃ R W, SRJ P B c H n R W s.r ∧ ∀ i, i < b → (i ∈ s.W ↔ i ∈ W0 ∨ i ∈ W)
  | 0, b, c, H, n, sc, q, W0, L, s, hu, h, ha => by
    simp only [srunT, Option.some.injEq] at h
    subst h
    exact ⟨[], [], GoJ.refl c H n, fun i _ => by simp⟩
  | k + 1, b, c, H, n, sc, q, W0, L, s, hu, h, ha => by
    have plain : (match fstep P F noOrc (fun _ _ _ => none) c H n with
      | some (.go c' H' n' _ W') => srunT P F J B k b c' H' n' sc q (addl b W' W0) L
      | some (.done out H' n' _ W') => some ⟨.fin out H' n', addl b W' W0, L⟩
      | none => none) = some s → ∃ R W, SRJ P B c H n R W s.r ∧ ∀ i, i < b → (i ∈ s.W ↔ i ∈ W0 ∨ i ∈ W) := by
      intro h
      split at h
      · rename_i c' H' n' R' W' hs
        have hgo : GoJ P B c H n c' H' n' R' W' := fstep_sound hF hmix (noOrc_ok P B) recS_none hu hs
        obtain ⟨R, W, h1, h2⟩ := srunT_sound hF hJ hmix k b c' H' n' sc q _ L s (hu.shape hgo.shape) h ha
        refine ⟨_, _, hgo.srj h1, fun i hi => ?_⟩
        rw [h2 i hi, addl_iff hi, List.mem_append, or_assoc]
      · rename_i out H' n' R' W' hs
        have hdone : FJ P B c H n out H' n' R' W' := fstep_sound hF hmix (noOrc_ok P B) recS_none hu hs
        simp only [Option.some.injEq] at h
        subst h
        exact ⟨R', W', hdone, fun i hi => addl_iff hi⟩
      · cases h
    simp only [srunT] at h
    split at h
    · rename_i id ops draw todo hm ht
      split at h
      · rename_i r hr
        cases hpan : r.pan with
        | none =>
          rw [hpan] at h
          simp only at h
          cases hd : (!draw || (edgesOk 0 ops.toList && indep ops 0 r.recs (befs ops.toList []))) with
          | false => rw [hd] at h; cases h
          | true =>
            rw [hd] at h
            simp only [cond_true] at h
            have hL : AllP r.L := by
              exact srunT_mono b k _ _ _ _ _ _ _ s h ha
            obtain ⟨h1, h2, hreg⟩ := rrunT_sound hF hJ (len := c.tmps.len) ops.toList c.tmps H n sc q L r rfl hu hr hL
            unfold RegOk at hreg
            rw [hpan] at hreg
            obtain ⟨h3, h4, h5⟩ := hreg
            have hgo := go_region_of hmix hm ht h1 h2 h3 h4 hd
            obtain ⟨R, W, k1, k2⟩ := srunT_sound hF hJ hmix k b _ _ _ _ _ _ _ s h5 h ha
            refine ⟨_, _, hgo.srj k1, fun i hi => ?_⟩
            rw [k2 i hi, addl_iff hi, List.mem_append, or_assoc]
        | some p =>
          obtain ⟨v, R1, W1⟩ := p
          rw [hpan] at h
          simp only at h
          cases hd : (!draw || panLast ops r.recs r.T) with
          | false => rw [hd] at h; cases h
          | true =>
            rw [hd] at h
            simp only [cond_true] at h
            have hL : AllP r.L := by
              exact srunT_mono b k _ _ _ _ _ _ _ s h ha
            obtain ⟨h1, h2, hreg⟩ := rrunT_sound hF hJ (len := c.tmps.len) ops.toList c.tmps H n sc q L r rfl hu hr hL
            unfold RegOk at hreg
            rw [hpan] at hreg
            have hgo : GoJ P B c H n { c with tmps := r.T, mode := .pan v } r.H r.n (allR r.recs ++ R1) (allW r.recs ++ W1) := by
              cases draw with
              | true =>
                obtain ⟨H1, n1, o, l2, x1, x2, x3, x4, x5, _⟩ := hreg
                exact go_pan_draw hmix hm ht h1 h2 ⟨H1, n1, o, l2, x1, x2, x3, x4, x5⟩ (by simpa using hd)
              | false => exact go_region_panT hm ht h1 h2 hreg
            obtain ⟨_, _, _, _, _, _, _, _, _, h5⟩ := hreg
            obtain ⟨R, W, k1, k2⟩ := srunT_sound hF hJ hmix k b _ _ _ _ _ _ _ s h5 h ha
            refine ⟨_, _, hgo.srj k1, fun i hi => ?_⟩
            rw [k2 i hi, addl_iff hi, List.mem_append (s := allW r.recs ++ W1), or_assoc]
      · cases h
    · rename_i f params assign body todo hm ht
      split at h
      · rename_i keys out ups n1 W1 sc' htold
        split at h
        · rename_i c' H' p hi
          have hL := srunT_mono b k _ _ _ _ _ _ _ s h ha
          obtain ⟨R0, hgo⟩ := iterH_sound hF hmix hu hm ht hi hL.1
          obtain ⟨R, W, h1, h2⟩ := srunT_sound hF hJ hmix k b _ _ _ _ _ _ _ s (hu.shape hgo.shape) h ha
          refine ⟨_, _, hgo.srj h1, fun i hi => ?_⟩
          rw [h2 i hi, addl_iff hi, List.mem_append, or_assoc]
        · cases h
      · rename_i keys out ups n1 W1 sc' htold
        split at h
        · rename_i c' H' p hi
          have hL := srunT_mono b k _ _ _ _ _ _ _ s h ha
          obtain ⟨R0, hgo⟩ := iterT_sound hF hmix hu hm ht hi hL.1
          obtain ⟨R, W, h1, h2⟩ := srunT_sound hF hJ hmix k b _ _ _ _ _ _ _ s (hu.shape hgo.shape) h ha
          refine ⟨_, _, hgo.srj h1, fun i hi => ?_⟩
          rw [h2 i hi, addl_iff hi, List.mem_append, or_assoc]
        · cases h
      · cases h
    · exact plain h
end
end Go.CE

namespace Go.CE
open Go Go.RowKit

def regsL (H : Heap) (n : Nat) : List Nat := (List.range n).filter fun r => isRegB (hget H r)
theorem regsL_mem {H : Heap} {n r : Nat} : r ∈ regsL H n ↔ r < n ∧ isRegB (hget H r) = true := by simp [regsL]
noncomputable def muM (n n1 : Nat) (ρ : Nat → Nat) (μ μ' : Mu) (fm : Nat → Option Obj) : Mu := fun i => if i = n then some ⟨0, 0, 0, false, fm⟩ else if n < i ∧ i < n1 then μ' (ρ i) else μ i
structure KeepsM (n n' n1 : Nat) (W : List Nat) (μ μ' : Mu) (H H' H1 : Heap) (w' : World) (ρ : Nat → Nat) (fk : List Nat) : Prop where
  le : n < n1
  id : ∀ i, i < n → ρ i = i
  rng : ∀ i, n < i → i < n1 → n ≤ ρ i ∧ ρ i < n'
  inj : ∀ i j, n < i → i < n1 → n < j → j < n1 → ρ i = ρ j → i = j
  under : Under H1 n1
  old : ∀ i, i < n → i ∉ W → hget H1 i = hget H i
  reg : hget H1 n = some regO
  obj : ∀ i o1, i < n1 → (n < i ∨ i ∈ W ∧ i < n) → hget H1 i = some o1 → ¬ isReg o1 ∧ (live o1 → ∃ o, hget H' (ρ i) = some o ∧ live o ∧ ∀ im, μ' (ρ i) = some im → OR μ' w' im o → OR (muM n n1 ρ μ μ' (fmU μ' H' w' (regsL H' n' ++ fk))) w' im o1)
  fz : ∀ k ∈ fk, n ≤ k ∧ k < n' ∧ (∃ o, hget H' k = some o ∧ live o) ∧ ∀ i, n < i → i < n1 → ρ i ≠ k
theorem Post.merge {B n n' n1 : Nat} {W : List Nat} {μ μ' : Mu} {H H' H1 : Heap} {w w' : World} {ρ : Nat → Nat} {fk : List Nat} (hok : Ok B (fun i => i < n) μ (hget H) w) (hf : ∀ i, n ≤ i → μ i = none) (hp : Post B (fun i => i < n) n n' W μ μ' H H' w w') (k : KeepsM n n' n1 W μ μ' H H' H1 w' ρ fk) :
    Post B (fun i => i < n) n n1 W μ (muM n n1 ρ μ μ' (fmU μ' H' w' (regsL H' n' ++ fk))) H H1 w w' := by
  have le1 := k.le
  have hlow : ∀ i, i < n → muM n n1 ρ μ μ' (fmU μ' H' w' (regsL H' n' ++ fk)) i = μ i := fun i hi => by unfold muM; rw [if_neg (by omega), if_neg (by omega)]
  have hhigh : ∀ i, n < i → i < n1 → muM n n1 ρ μ μ' (fmU μ' H' w' (regsL H' n' ++ fk)) i = μ' (ρ i) := fun i h1 h2 => by unfold muM; rw [if_neg (by omega), if_pos ⟨h1, h2⟩]
  have hmid : muM n n1 ρ μ μ' (fmU μ' H' w' (regsL H' n' ++ fk)) n = some ⟨0, 0, 0, false, fmU μ' H' w' (regsL H' n' ++ fk)⟩ := by unfold muM; rw [if_pos rfl]
  have hext : Ext μ (muM n n1 ρ μ μ' (fmU μ' H' w' (regsL H' n' ++ fk))) := by
    intro i im him
    rcases Nat.lt_or_ge i n with h | h
    · rw [hlow i h]; exact him
    · rw [hf i h] at him; cases him
  generalize hM : muM n n1 ρ μ μ' (fmU μ' H' w' (regsL H' n' ++ fk)) = μ1 at *
  have obj := k.obj
  rw [hM] at obj
  -- an object of the new heap: an old one that was left, the region, or one of the run
  have other : ∀ i o im, i < n → i ∉ W → hget H i = some o → live o → μ i = some im → w'.heap[im.blk]? = w.heap[im.blk]? := by
    intro i o im hi hw ho hl him
    refine hp.frame _ (hok.low i o im hi ho hl him).1 fun q hq hqn im' him' hb => ?_
    obtain ⟨_, ⟨oq, hoq, hlq⟩, im2, him2, hr⟩ := hp.wr q hq hqn
    rw [him'] at him2; cases him2
    by_cases hra : im.rw = true
    · exact hok.inj q i oq o im' im hqn hi (fun e => hw (e ▸ hq)) hoq ho hlq hl him' him hr hra hb
    · have a := (hok.low i o im hi ho hl him).2.2 (by simpa using hra)
      have b := (hok.low q oq im' hqn hoq hlq him').2.1 hr
      omega
  have hS' : ∀ i, i < n1 → i ≠ n → (ρ i < n ∨ n ≤ ρ i ∧ ρ i < n') := by
    intro i hi hne
    rcases Nat.lt_or_ge i n with h | h
    · exact .inl (by rw [k.id i h]; exact h)
    · exact .inr (k.rng i (by omega) hi)
  have hmuR : ∀ i, i < n1 → i ≠ n → μ1 i = μ' (ρ i) := by
    intro i hi hne
    rcases Nat.lt_or_ge i n with h | h
    · rw [hlow i h, k.id i h, hp.ext i (by omega)]
    · exact hhigh i (by omega) hi
  have hall : ∀ i, (i < n ∨ n ≤ i ∧ i < n1) → i < n1 := fun i hi => hi.elim (fun e => by omega) (fun e => e.2)
  have liveH' : ∀ i o1, i < n1 → hget H1 i = some o1 → live o1 → i ≠ n ∧ ∃ o, hget H' (ρ i) = some o ∧ live o := by
    intro i o1 hi ho hl
    have hne : i ≠ n := fun e => by rw [e, k.reg] at ho; cases ho; exact hl.elim
    refine ⟨hne, ?_⟩
    by_cases h : n < i ∨ i ∈ W ∧ i < n
    · obtain ⟨o, h1, h2, _⟩ := (obj i o1 hi h ho).2 hl
      exact ⟨o, h1, h2⟩
    · have h1 : i < n := by omega
      have h2 : i ∉ W := fun e => h (.inr ⟨e, h1⟩)
      rw [k.old i h1 h2] at ho
      exact ⟨o1, by rw [k.id i h1, hp.keep i h1 h2]; exact ho, hl⟩
  have hinj : ∀ i j, i < n1 → j < n1 → i ≠ n → j ≠ n → ρ i = ρ j → i = j := by
    intro i j hi hj hin hjn e
    rcases Nat.lt_or_ge i n with h | h <;> rcases Nat.lt_or_ge j n with h' | h'
    · rw [k.id i h, k.id j h'] at e; exact e
    · have := k.rng j (by omega) hj; rw [k.id i h] at e; omega
    · have := k.rng i (by omega) hi; rw [k.id j h'] at e; omega
    · exact k.inj i j (by omega) hi (by omega) hj e
  have regH1 : ∀ i o, i < n1 → hget H1 i = some o → isReg o → i = n ∨ (i < n ∧ i ∉ W ∧ hget H i = some o ∧ hget H' i = some o) := by
    intro i o hi ho hr
    by_cases hne : i = n
    · exact .inl hne
    · by_cases h : n < i ∨ i ∈ W ∧ i < n
      · exact absurd hr (obj i o hi h ho).1
      · have h1 : i < n := by omega
        have h2 : i ∉ W := fun e => h (.inr ⟨e, h1⟩)
        rw [k.old i h1 h2] at ho
        exact .inr ⟨h1, h2, ho, by rw [hp.keep i h1 h2]; exact ho⟩
  have deadW : ∀ q, q ∈ W → q < n → (∀ o, hget H' q = some o → ¬ live o) → ∀ o, hget H1 q = some o → ¬ live o := by
    intro q hq hqn hd o ho hl
    obtain ⟨_, o', h5, h6⟩ := liveH' q o (by omega) ho hl
    rw [k.id q hqn] at h5
    exact hd o' h5 h6
  -- what stands in the region
  have fmCase : ∀ b x, fmU μ' H' w' (regsL H' n' ++ fk) b = some x → w'.heap[b]? = some x ∧ ((∃ r o im, r < n' ∧ hget H' r = some o ∧ isReg o ∧ μ' r = some im ∧ im.fm b = some x) ∨ ∃ q o im, q ∈ fk ∧ hget H' q = some o ∧ live o ∧ μ' q = some im ∧ im.blk = b) := by
    intro b x h
    have hw := fmU_world h
    refine ⟨hw, ?_⟩
    unfold fmU at h
    split at h
    · rename_i hc
      obtain ⟨i, hi, o, im, ho, him, hcase⟩ := hc
      rcases List.mem_append.1 hi with hi | hi
      · obtain ⟨hlt, hrb⟩ := regsL_mem.1 hi
        obtain ⟨o', ho', hr'⟩ := isRegB_spec hrb
        rw [ho] at ho'; cases ho'
        rcases hcase with ⟨_, hne⟩ | ⟨hl, _⟩
        · cases hx : im.fm b with
          | none => exact absurd hx hne
          | some y =>
            obtain ⟨im', him', hf'⟩ := hp.ok.reg i o (by rcases Nat.lt_or_ge i n with h | h; exact .inl h; exact .inr ⟨h, hlt⟩) ho hr'
            rw [him] at him'; cases him'
            have := hf' b y hx
            rw [hw] at this; cases this
            exact .inl ⟨i, o, im, hlt, ho, hr', him, hx⟩
        · exact absurd hl (by cases o <;> first | exact id | exact hr'.elim)
      · obtain ⟨h1, h2, ⟨o', ho', hl'⟩, _⟩ := k.fz i hi
        rw [ho] at ho'; cases ho'
        rcases hcase with ⟨hr, _⟩ | ⟨hl, hb⟩
        · exact absurd hl' (by cases o <;> first | exact id | exact hr.elim)
        · exact .inr ⟨i, o, im, hi, ho, hl, him, hb⟩
    · cases h
  have hin' : ∀ r, r < n' → (r < n ∨ n ≤ r ∧ r < n') := fun r h => by omega
  refine ⟨⟨fun i o hi ho hl => ?_, fun i o im hi ho hl him => ?_, fun i j oi oj a b hi hj hij hoi hoj hli hlj ha hb hra hrb => ?_, fun i o hi ho hr => ?_, fun i j oi oj a b x hi hj hoi hoj hri hlj ha hb hrb hx => ?_⟩, by omega, fun i hi => ?_, fun i hi hw => k.old i hi hw, hp.grow, hp.frame, hp.wr, fun i im o h1 h2 ho hl him => ?_, fun i im o hi ho hr him b x hx => ?_, hp.os, hp.tape, hp.output⟩
  · have hi1 := hall i hi
    have hne := (liveH' i o hi1 ho hl).1
    by_cases h : n < i ∨ i ∈ W ∧ i < n
    · obtain ⟨o', h1, h2, h4⟩ := (obj i o hi1 h ho).2 hl
      obtain ⟨im, him, hor⟩ := hp.ok.rel (ρ i) o' (hS' i hi1 hne) h1 h2
      exact ⟨im, by rw [hmuR i hi1 hne]; exact him, h4 im him hor⟩
    · have h1 : i < n := by omega
      have h2 : i ∉ W := fun e => h (.inr ⟨e, h1⟩)
      rw [k.old i h1 h2] at ho
      obtain ⟨im, him, hor⟩ := hok.rel i o h1 ho hl
      exact ⟨im, hext _ _ him, hor.keep hext (other i o im h1 h2 ho hl him)⟩
  · have hi1 := hall i hi
    obtain ⟨hne, o', h1, h2⟩ := liveH' i o hi1 ho hl
    rw [hmuR i hi1 hne] at him
    exact hp.ok.low (ρ i) o' im (hS' i hi1 hne) h1 h2 him
  · have hi1 := hall i hi
    have hj1 := hall j hj
    obtain ⟨hni, o1, h1, h2⟩ := liveH' i oi hi1 hoi hli
    obtain ⟨hnj, o2, h3, h4⟩ := liveH' j oj hj1 hoj hlj
    rw [hmuR i hi1 hni] at ha
    rw [hmuR j hj1 hnj] at hb
    exact hp.ok.inj (ρ i) (ρ j) o1 o2 a b (hS' i hi1 hni) (hS' j hj1 hnj) (fun e => hij (hinj i j hi1 hj1 hni hnj e)) h1 h3 h2 h4 ha hb hra hrb
  · rcases regH1 i o (hall i hi) ho hr with hin | ⟨h1, h2, h3, h4⟩
    · rw [hin]; exact ⟨_, hmid, fun b x h => fmU_world h⟩
    · obtain ⟨im, him, hf'⟩ := hp.ok.reg i o (.inl h1) h4 hr
      rw [hp.ext i (by omega)] at him
      exact ⟨im, hext _ _ him, hf'⟩
  · have hj1 := hall j hj
    obtain ⟨hnj, o2, h3, h4⟩ := liveH' j oj hj1 hoj hlj
    rw [hmuR j hj1 hnj] at hb
    rcases regH1 i oi (hall i hi) hoi hri with hin | ⟨h1, h2, h5, h6⟩
    · rw [hin, hmid] at ha; cases ha
      obtain ⟨_, hcase⟩ := fmCase _ _ hx
      rcases hcase with ⟨r, o, im, hlt, ho, hr, him, hfx⟩ | ⟨q, o, im, hq, ho, hl, him, hbb⟩
      · exact hp.ok.sep r (ρ j) o o2 im b x (hin' r hlt) (hS' j hj1 hnj) ho h3 hr h4 him hb hrb hfx
      · obtain ⟨q1, q2, _, q3⟩ := k.fz q hq
        have hne : q ≠ ρ j := by
          intro e
          rcases Nat.lt_or_ge j n with h | h
          · rw [k.id j h] at e; omega
          · exact q3 j (by omega) hj1 e.symm
        have hrw := (hp.fresh q im o q1 q2 ho hl him).1
        exact hp.ok.inj q (ρ j) o o2 im b (hin' q q2) (hS' j hj1 hnj) hne ho h3 hl h4 him hb hrw hrb hbb
    · rw [hlow i h1] at ha
      exact hp.ok.sep i (ρ j) oi o2 a b x (.inl h1) (hS' j hj1 hnj) h6 h3 hri h4 (by rw [hp.ext i (by omega)]; exact ha) hb hrb hx
  · rw [← hM]; unfold muM; rw [if_neg (by omega), if_neg (by omega)]
  · obtain ⟨hne, o', h3, h4⟩ := liveH' i o h2 ho hl
    rw [hmuR i h2 hne] at him
    obtain ⟨a, b⟩ := k.rng i (by omega) h2
    obtain ⟨hr, hfr⟩ := hp.fresh (ρ i) im o' a b h3 h4 him
    exact ⟨hr, hfr.imp id fun ⟨q, hq, hqn, hb, hd⟩ => ⟨q, hq, hqn, hb, deadW q hq hqn hd⟩⟩
  · have hi1 : i < n1 := by omega
    rcases regH1 i o hi1 ho hr with hin | ⟨h1, h2, _⟩
    · rw [hin, hmid] at him; cases him
      obtain ⟨_, hcase⟩ := fmCase _ _ hx
      rcases hcase with ⟨r, o, im, hlt, ho, hr, him, hfx⟩ | ⟨q, o, im, hq, ho, hl, him, hbb⟩
      · by_cases hx : n ≤ r ∧ r < n' ∨ r ∈ W ∧ r < n
        · rcases hp.rf r im o hx ho hr him b x hfx with c | c | ⟨q, hq, hqn, hb, hd⟩
          · exact .inl c
          · exact .inr (.inl c)
          · exact .inr (.inr ⟨q, hq, hqn, hb, deadW q hq hqn hd⟩)
        · have h : r < n := by omega
          rw [hp.keep r h fun e => hx (.inr ⟨e, h⟩)] at ho
          rw [hp.ext r (by omega)] at him
          exact .inr (.inl ⟨r, im, o, h, h, ho, hr, him, hfx⟩)
      · obtain ⟨q1, q2, _, _⟩ := k.fz q hq
        rcases (hp.fresh q im o q1 q2 ho hl him).2 with c | ⟨q', hq', hqn, ⟨im', him', hb'⟩, hd⟩
        · exact .inl (by omega)
        · exact .inr (.inr ⟨q', hq', hqn, ⟨im', him', by omega⟩, deadW q' hq' hqn hd⟩)
    · rcases hi with hi | hi
      · omega
      · exact absurd hi.1 h2
end Go.CE

namespace Go.CE
open Go Go.RowKit

section
variable (H : Heap) (m : Nat) (pos : Nat → Option Nat) (fz : List Fz)
def coS (v : Value) : Option (Value × List Prop) := bif simple v then some (v, []) else match v with
  | .func (.via r ⟨[]⟩ 0 true) ⟨[t]⟩ ⟨[]⟩ => bif isRegB (hget H r) && isTop t then some (topV ((pos r).getD m) t, []) else none
  | .pointer (some ⟨k, o, none⟩) => match pos k with
    | some j => some (.pointer (some ⟨j, o, none⟩), [])
    | none => match fzGet fz k, hget H k with
      | some x, some (.cells cs _ (0, 0)) => bif x.rs.all fun r => isRegB (hget H r) then some (topV m (ptT o x.cs), [CellsT x.rs cs x.cs]) else none
      | _, _ => some (.chan none, [])
  | .slice (some ⟨k, o, none⟩) n z => match pos k with
    | some j => some (.slice (some ⟨j, o, none⟩) n z, [])
    | none => match o, fzGet fz k, hget H k with
      | 0, some x, some (.cells cs _ (0, 0)) => bif x.rs.all fun r => isRegB (hget H r) then some (topV m (slT n x.cs), [CellsT x.rs cs x.cs]) else none
      | _, _, _ => some (.chan none, [])
  | .map (some r) => match pos r with
    | some j => some (.map (some j), [])
    | none => some (.chan none, [])
  | .func (.yield l) ⟨[]⟩ ⟨[]⟩ => match pos l with
    | some j => some (.func (.yield j) #[] #[], [])
    | none => some (.chan none, [])
  | .chan none => some (.chan none, [])
  | _ => none
def coL (f : Value → Option (Value × List Prop)) : List Value → Option (List Value × List Prop)
  | [] => some ([], [])
  | v :: l => match f v with
    | some (t, L) => match coL f l with
      | some (ts, L2) => some (t :: ts, L ++ L2)
      | none => none
    | none => none
def coV : Nat → Value → Option (Value × List Prop)
  | 0, v => coS H m pos fz v
  | f + 1, v => match v with
    | .agg xs => match coL (coV f) xs.toList with
      | some (l, L) => some (.agg l.toArray, L)
      | none => none
    | .tuple xs => match coL (coV f) xs.toList with
      | some (l, L) => some (.tuple l.toArray, L)
      | none => none
    | .iface t x => match coV f x with
      | some (x, L) => some (.iface t x, L)
      | none => none
    | .func (.func g) xs ys => match coL (coV f) xs.toList with
      | some (l, L) => match coL (coV f) ys.toList with
        | some (k, L2) => some (.func (.func g) l.toArray k.toArray, L ++ L2)
        | none => none
      | none => none
    | v => coS H m pos fz v
def CellM (rs : List Nat) (v v1 : Value) : Prop := (simple v = true ∧ v1 = v) ∨ ∃ r ∈ rs, ∃ t, v = topV r t ∧ v1 = topV m t ∧ isTop t = true
def CellsM (rs : List Nat) (cs cs1 : Array Value) : Prop := cs.size = cs1.size ∧ ∀ (i : Nat) v v1, cs[i]? = some v → cs1[i]? = some v1 → CellM m rs v v1
end
theorem cellsM_simple {m : Nat} {rs : List Nat} {cs : Array Value} (h : ∀ v ∈ cs, simple v = true) : CellsM m rs cs cs := ⟨rfl, fun i v v1 h1 h2 => by
  rw [h1] at h2; cases h2
  exact .inl ⟨h v (Array.mem_of_getElem? h1), rfl⟩⟩
inductive CellX (m : Nat) (rs : List (Nat × Nat)) (frs : List (Nat × Array Value)) (ow : List (Nat × Nat)) : Value → Value → Prop
  | simple {v} : CE.simple v = true → CellX m rs frs ow v v
  | reg {r j t} : (r, j) ∈ rs → isTop t = true → CellX m rs frs ow (topV r t) (topV j t)
  | own {k cs n c} : (k, cs) ∈ frs → CellX m rs frs ow (.slice (some ⟨k, 0, none⟩) n c) (topV m (slT n cs))
  | nil : CellX m rs frs ow (.slice none 0 0) (topV m (slT 0 #[]))
  | keep {k j n c} : (k, j) ∈ ow → CellX m rs frs ow (.slice (some ⟨k, 0, none⟩) n c) (.slice (some ⟨j, 0, none⟩) n c)
def AllX (m : Nat) (rs : List (Nat × Nat)) (frs : List (Nat × Array Value)) (ow : List (Nat × Nat)) : List Value → List Value → Prop
  | [], [] => True
  | v :: l, u :: k => CellX m rs frs ow v u ∧ AllX m rs frs ow l k
  | _, _ => False
def CellsX (m : Nat) (rs : List (Nat × Nat)) (frs : List (Nat × Array Value)) (ow : List (Nat × Nat)) (cs cs1 : Array Value) : Prop := AllX m rs frs ow cs.toList cs1.toList
theorem AllX.get {m : Nat} {rs : List (Nat × Nat)} {frs : List (Nat × Array Value)} {ow : List (Nat × Nat)} : ∀ {l k : List Value}, AllX m rs frs ow l k → k.length = l.length ∧ ∀ (i : Nat) v u, l[i]? = some v → k[i]? = some u → CellX m rs frs ow v u
  | [], [], _ => ⟨rfl, fun i v u h => by simp at h⟩
  | v :: l, u :: k, h => by
    obtain ⟨a, b⟩ := AllX.get h.2
    refine ⟨by simp [a], fun i x y hx hy => ?_⟩
    cases i with
    | zero =>
      simp only [List.getElem?_cons_zero, Option.some.injEq] at hx hy
      subst hx hy
      exact h.1
    | succ i => exact b i x y (by simpa using hx) (by simpa using hy)
  | [], _ :: _, h => h.elim
  | _ :: _, [], h => h.elim
section
variable {B : Nat} {S : Nat → Prop} {H : Heap} {m : Nat} {pos : Nat → Option Nat} {fz : List Fz} {μ μ1 : Mu} {w : World} {n' : Nat} {fk : List Nat} {im1 : Img}
structure CoOk (H : Heap) (m : Nat) (pos : Nat → Option Nat) (fz : List Fz) (μ μ1 : Mu) (w : World) (n' : Nat) (fk : List Nat) (im1 : Img) : Prop where
  ok : ∃ B S, Ok B S μ (hget H) w ∧ ∀ i, i < n' → S i
  under : Under H n'
  here : ∀ k j, pos k = some j → μ1 j = μ k
  reg : μ1 m = some im1
  fm : im1.fm = fmU μ H w (regsL H n' ++ fk)
  sub : ∀ x ∈ fz, x.k ∈ fk
theorem fzGet_mem : ∀ (l : List Fz) (k : Nat) (x : Fz), fzGet l k = some x → x ∈ l ∧ x.k = k
  | [], k, x, h => by cases h
  | y :: l, k, x, h => by
    simp only [fzGet] at h
    cases e : Nat.beq y.k k with
    | true =>
      rw [e] at h
      simp only [cond_true, Option.some.injEq] at h
      subst h
      exact ⟨by simp, Nat.eq_of_beq_eq_true e⟩
    | false =>
      rw [e] at h
      obtain ⟨h1, h2⟩ := fzGet_mem l k x h
      exact ⟨List.mem_cons_of_mem _ h1, h2⟩
theorem isRegB_lt (hu : Under H n') {r : Nat} (h : isRegB (hget H r) = true) : r < n' := by
  obtain ⟨o, ho, _⟩ := isRegB_spec h
  exact hu.lt ho
theorem top_merge (c : CoOk H m pos fz μ μ1 w n' fk im1) {r : Nat} (hr : isRegB (hget H r) = true) {im : Img} (him : μ r = some im) {b : Nat} {x : Obj} (hx : im.fm b = some x) : im1.fm b = some x := by
  obtain ⟨B, S, hok, hS⟩ := c.ok
  rw [c.fm]
  have hlt := isRegB_lt c.under hr
  exact fmU_reg hok (List.mem_append_left _ (regsL_mem.2 ⟨hlt, hr⟩)) (hS r hlt) hr him hx
theorem cellT_merge (c : CoOk H m pos fz μ μ1 w n' fk im1) {rs : List Nat} (hreg : (rs.all fun r => isRegB (hget H r)) = true) {v v1 v' : Value} (h : CellR rs v v1) (hv : VR μ v v') : TRv im1.fm v1 v' := by
  rcases h with ⟨h1, rfl⟩ | ⟨r, hr, rfl, _⟩
  · rw [simple_eq h1 hv]; exact .simple h1
  · obtain ⟨im, him, ht⟩ := hv.top_inv
    exact ht.mono fun b x hx => top_merge c (List.all_eq_true.1 hreg r hr) him hx
theorem coS_sound (c : CoOk H m pos fz μ μ1 w n' fk im1) {v v' t : Value} {L : List Prop} (h : coS H m pos fz v = some (t, L)) (hL : AllP L) (hv : VR μ v v') : VR μ1 t v' := by
  obtain ⟨B, S, hok, hS⟩ := c.ok
  have addr : ∀ {k j o : Nat} {a' : Addr}, pos k = some j → AR μ ⟨k, o, none⟩ a' → AR μ1 ⟨j, o, none⟩ a' := by
    rintro k j o a' hp ⟨im, h1, h2, h3⟩
    exact ⟨im, by rw [c.here k j hp]; exact h1, rfl, h3⟩
  unfold coS at h
  cases hs : simple v with
  | true =>
    rw [hs] at h
    simp only [cond_true, Option.some.injEq, Prod.mk.injEq] at h
    obtain ⟨rfl, rfl⟩ := h
    rw [simple_eq hs hv]; exact vr_simple hs
  | false =>
    rw [hs] at h
    simp only [cond_false] at h
    split at h
    · rename_i r t0
      cases hg : (isRegB (hget H r) && isTop t0) with
      | false => rw [hg] at h; cases h
      | true =>
        rw [hg] at h
        simp only [cond_true, Option.some.injEq, Prod.mk.injEq] at h
        obtain ⟨rfl, rfl⟩ := h
        simp only [Bool.and_eq_true] at hg
        obtain ⟨im, him, ht⟩ := VR.top_inv (r := r) (t := t0) hv
        cases hp : pos r with
        | none => exact .top hg.2 c.reg (ht.mono fun b x hx => top_merge c hg.1 him hx)
        | some j => exact .top hg.2 (by rw [Option.getD_some, c.here r j hp]; exact him) ht
    · rename_i k o
      split at h
      · rename_i j hj
        simp only [Option.some.injEq, Prod.mk.injEq] at h
        obtain ⟨rfl, rfl⟩ := h
        cases hv with
        | ptr har => exact .ptr (addr hj har)
      · split at h
        · rename_i x cs ty hx hg
          cases hr : (x.rs.all fun r => isRegB (hget H r)) with
          | false => rw [hr] at h; cases h
          | true =>
            rw [hr] at h
            simp only [cond_true, Option.some.injEq, Prod.mk.injEq] at h
            obtain ⟨rfl, rfl⟩ := h
            obtain ⟨⟨h2, h3⟩, _⟩ := hL
            obtain ⟨hxm, hxk⟩ := fzGet_mem _ _ _ hx
            have hkf : k ∈ fk := hxk ▸ c.sub x hxm
            obtain ⟨im, arr, him, _, hoff, harr, hle, _, hcells⟩ := own_cells hok (hS k (c.under.lt hg)) hg
            cases hv with
            | ptr har =>
              obtain ⟨im2, him2, _, rfl⟩ := har
              rw [him] at him2; cases him2
              rw [hoff]
              refine .top rfl c.reg (TRv.ptr (o := 0) (by rw [c.fm]; exact (fmU_own (List.mem_append_right _ hkf) hg trivial him).trans harr) (fun i hi => by omega) fun i v v' hv hv' => ?_)
              simp only [Nat.zero_add] at hv'
              have hi : i < cs.size := by rw [h2]; exact (Array.getElem?_eq_some_iff.1 hv).1
              obtain ⟨u, hu1, hu2⟩ := hcells i cs[i] (by simp [hi])
              rw [hv'] at hu1; cases hu1
              exact cellT_merge c hr (h3 i _ _ (by simp [hi]) hv) hu2
        · simp only [Option.some.injEq, Prod.mk.injEq] at h
          obtain ⟨rfl, rfl⟩ := h
          cases hv; exact .junk (fun b e => by cases e) rfl rfl
    · rename_i k o n z
      split at h
      · rename_i j hj
        simp only [Option.some.injEq, Prod.mk.injEq] at h
        obtain ⟨rfl, rfl⟩ := h
        cases hv with
        | slice har a b d =>
          refine .slice (addr hj har) a b fun hz im him hrw hoff => d hz im ?_ hrw hoff
          rw [← c.here k j hj]; exact him
      · split at h
        · rename_i x cs ty hx hg
          cases hr : (x.rs.all fun r => isRegB (hget H r)) with
          | false => rw [hr] at h; cases h
          | true =>
            rw [hr] at h
            simp only [cond_true, Option.some.injEq, Prod.mk.injEq] at h
            obtain ⟨rfl, rfl⟩ := h
            obtain ⟨⟨h2, h3⟩, _⟩ := hL
            obtain ⟨hxm, hxk⟩ := fzGet_mem _ _ _ hx
            have hkf : k ∈ fk := hxk ▸ c.sub x hxm
            obtain ⟨im, arr, him, _, hoff, harr, hle, _, hcells⟩ := own_cells hok (hS k (c.under.lt hg)) hg
            cases hv with
            | slice har a b _ =>
              obtain ⟨im2, him2, _, rfl⟩ := har
              rw [him] at him2; cases him2
              rw [hoff]
              refine .top rfl c.reg (TRv.slice (o := 0) a b (by rw [c.fm]; exact (fmU_own (List.mem_append_right _ hkf) hg trivial him).trans harr) (fun i hi => by omega) fun i v v' hv hv' => ?_)
              simp only [Nat.zero_add] at hv'
              have hi : i < cs.size := by rw [h2]; exact (Array.getElem?_eq_some_iff.1 hv).1
              obtain ⟨u, hu1, hu2⟩ := hcells i cs[i] (by simp [hi])
              rw [hv'] at hu1; cases hu1
              exact cellT_merge c hr (h3 i _ _ (by simp [hi]) hv) hu2
        · simp only [Option.some.injEq, Prod.mk.injEq] at h
          obtain ⟨rfl, rfl⟩ := h
          cases hv; exact .junk (fun b e => by cases e) rfl rfl
    · rename_i r
      split at h
      · rename_i j hj
        simp only [Option.some.injEq, Prod.mk.injEq] at h
        obtain ⟨rfl, rfl⟩ := h
        cases hv with
        | map hr => exact .map (by rw [c.here r j hj]; exact hr)
      · simp only [Option.some.injEq, Prod.mk.injEq] at h
        obtain ⟨rfl, rfl⟩ := h
        cases hv; exact .junk (fun b e => by cases e) rfl rfl
    · rename_i l
      split at h
      · rename_i j hj
        simp only [Option.some.injEq, Prod.mk.injEq] at h
        obtain ⟨rfl, rfl⟩ := h
        cases hv with
        | yield hl => exact .yield (by rw [c.here l j hj]; exact hl)
      · simp only [Option.some.injEq, Prod.mk.injEq] at h
        obtain ⟨rfl, rfl⟩ := h
        cases hv; exact .junk (fun b e => by cases e) rfl rfl
    · simp only [Option.some.injEq, Prod.mk.injEq] at h
      obtain ⟨rfl, rfl⟩ := h
      cases hv with
      | junk a b c => exact .junk a b c
    · cases h
theorem coL_sound {f : Value → Option (Value × List Prop)} (hf : ∀ v v' t L, f v = some (t, L) → AllP L → VR μ v v' → VR μ1 t v') : ∀ (l ts : List Value) (L : List Prop) (l' : List Value), coL f l = some (ts, L) → AllP L → l.length = l'.length → (∀ (i : Nat) v v', l[i]? = some v → l'[i]? = some v' → VR μ v v') →
    ts.length = l'.length ∧ ∀ (i : Nat) v v', ts[i]? = some v → l'[i]? = some v' → VR μ1 v v'
  | [], ts, L, l', h, hL, hl, hv => by
    simp only [coL, Option.some.injEq, Prod.mk.injEq] at h
    obtain ⟨rfl, rfl⟩ := h
    exact ⟨hl, fun i v v' h => by simp at h⟩
  | v :: l, ts, L, [], h, hL, hl, hv => by simp at hl
  | v :: l, ts, L, v' :: l', h, hL, hl, hv => by
    simp only [coL] at h
    split at h
    · rename_i t L1 h1
      split at h
      · rename_i ts2 L2 h2
        simp only [Option.some.injEq, Prod.mk.injEq] at h
        obtain ⟨rfl, rfl⟩ := h
        obtain ⟨a, b⟩ := allP_append hL
        have k1 := hf v v' t L1 h1 a (hv 0 v v' rfl rfl)
        obtain ⟨k2, k3⟩ := coL_sound hf l ts2 L2 l' h2 b (by simpa using hl) fun i u u' x y => hv (i + 1) u u' (by simpa using x) (by simpa using y)
        refine ⟨by simp [k2], fun i u u' x y => ?_⟩
        cases i with
        | zero =>
          simp only [List.getElem?_cons_zero, Option.some.injEq] at x y
          subst x y
          exact k1
        | succ i => exact k3 i u u' (by simpa using x) (by simpa using y)
      · cases h
    · cases h
theorem coV_sound (c : CoOk H m pos fz μ μ1 w n' fk im1) : ∀ (f : Nat) (v v' t : Value) (L : List Prop), coV H m pos fz f v = some (t, L) → AllP L → VR μ v v' → VR μ1 t v'
  | 0, v, v', t, L, h, hL, hv => coS_sound c h hL hv
  | f + 1, v, v', t, L, h, hL, hv => by
    have arr : ∀ {xs xs' : Array Value} {l : List Value} {L : List Prop}, coL (coV H m pos fz f) xs.toList = some (l, L) → AllP L → xs.size = xs'.size → (∀ (i : Nat) v v', xs[i]? = some v → xs'[i]? = some v' → VR μ v v') → l.toArray.size = xs'.size ∧ ∀ (i : Nat) v v', l.toArray[i]? = some v → xs'[i]? = some v' → VR μ1 v v' := by
      intro xs xs' l L h hL hs hx
      obtain ⟨a, b⟩ := coL_sound (fun v v' t L => coV_sound c f v v' t L) xs.toList l L xs'.toList h hL (by simpa using hs) fun i v v' x y => hx i v v' (by simpa using x) (by simpa using y)
      exact ⟨by simpa using a, fun i v v' x y => b i v v' (by simpa using x) (by simpa using y)⟩
    cases v with
    | agg xs =>
      simp only [coV] at h
      split at h
      · rename_i l L1 hl
        simp only [Option.some.injEq, Prod.mk.injEq] at h
        obtain ⟨rfl, rfl⟩ := h
        cases hv with
        | agg h1 h2 => exact .agg (arr hl hL h1 h2).1 (arr hl hL h1 h2).2
      · cases h
    | tuple xs =>
      simp only [coV] at h
      split at h
      · rename_i l L1 hl
        simp only [Option.some.injEq, Prod.mk.injEq] at h
        obtain ⟨rfl, rfl⟩ := h
        cases hv with
        | tuple h1 h2 => exact .tuple (arr hl hL h1 h2).1 (arr hl hL h1 h2).2
      · cases h
    | iface ty x =>
      simp only [coV] at h
      split at h
      · rename_i l L1 hl
        simp only [Option.some.injEq, Prod.mk.injEq] at h
        obtain ⟨rfl, rfl⟩ := h
        cases hv with
        | iface hv => exact .iface (coV_sound c f _ _ _ _ hl hL hv)
      · cases h
    | func fn xs ys =>
      cases fn with
      | func g =>
        simp only [coV] at h
        split at h
        · rename_i l L1 hl
          split at h
          · rename_i k L2 hk
            simp only [Option.some.injEq, Prod.mk.injEq] at h
            obtain ⟨rfl, rfl⟩ := h
            obtain ⟨a, b⟩ := allP_append hL
            cases hv with
            | func h1 h2 h3 h4 =>
              have k1 := arr hl a h1 h3
              have k2 := arr hk b h2 h4
              exact .func k1.1 k2.1 k1.2 k2.2
          · cases h
        · cases h
      | _ => exact coS_sound (fz := fz) c (by exact h) hL hv
    | _ => exact coS_sound (fz := fz) c (by exact h) hL hv
end
inductive KS where
  | auto
  | cells (rs : List Nat) (cs : Array Value)
  | same
  | dead
  | rows (rs : List (Nat × Nat)) (ks : List Nat) (ow : List (Nat × Nat)) (cs : Array Value)
def keepB (pos : Nat → Option Nat) (p : Nat × Nat) : Bool := match pos p.1 with
  | some j => Nat.beq j p.2
  | none => false
def coKs (H : Heap) (pos : Nat → Option Nat) (fz : List Fz) : List Nat → Option (List (Nat × Array Value) × List Prop)
  | [] => some ([], [])
  | k :: l => match pos k, fzGet fz k, hget H k with
    | none, some x, some (.cells cs _ (0, 0)) => bif x.rs.all fun r => isRegB (hget H r) then match coKs H pos fz l with
        | some (frs, L) => some ((k, x.cs) :: frs, CellsT x.rs cs x.cs :: L)
        | none => none
      else none
    | _, _, _ => none
theorem coKs_get {H : Heap} {m : Nat} {pos : Nat → Option Nat} {fz : List Fz} : ∀ (ks : List Nat) (frs : List (Nat × Array Value)) (L : List Prop), coKs H pos fz ks = some (frs, L) → AllP L → ∀ k cs n c, (k, cs) ∈ frs → ∃ L', coS H m pos fz (.slice (some ⟨k, 0, none⟩) n c) = some (topV m (slT n cs), L') ∧ AllP L'
  | [], frs, L, h, hL, k, cs, n, c, hm => by
    simp only [coKs, Option.some.injEq, Prod.mk.injEq] at h
    obtain ⟨rfl, rfl⟩ := h
    simp at hm
  | k0 :: l, frs, L, h, hL, k, cs, n, c, hm => by
    simp only [coKs] at h
    split at h
    · rename_i x cs0 t0 h1 h2 h3
      cases hr : (x.rs.all fun r => isRegB (hget H r)) with
      | false => rw [hr] at h; cases h
      | true =>
        rw [hr] at h
        simp only [cond_true] at h
        split at h
        · rename_i frs2 L2 h4
          simp only [Option.some.injEq, Prod.mk.injEq] at h
          obtain ⟨rfl, rfl⟩ := h
          rcases List.mem_cons.1 hm with e | e
          · simp only [Prod.mk.injEq] at e
            obtain ⟨rfl, rfl⟩ := e
            refine ⟨[CellsT x.rs cs0 x.cs], ?_, hL.1, trivial⟩
            unfold coS
            have hs : simple (.slice (some ⟨k, 0, none⟩) n c) = false := rfl
            rw [hs]
            simp only [cond_false, h1, h2, h3, hr, cond_true]
          · exact coKs_get l frs2 L2 h4 hL.2 k cs n c e
        · cases h
    · cases h
def coO (H : Heap) (m : Nat) (pos : Nat → Option Nat) (fz : List Fz) : Option Obj → KS → Option (Obj × List Prop)
  | some (.cells cs t fl), .auto => match coL (coV H m pos fz 3) cs.toList with
    | some (l, L) => some (.cells l.toArray t fl, L)
    | none => none
  | some (.cells cs t fl), .cells rs cs1 => bif rs.all fun r => isRegB (hget H r) then some (.cells cs1 t fl, [CellsM m rs cs cs1]) else none
  | some (.cells cs t fl), .rows rs ks ow cs1 => bif (rs.all fun p => isRegB (hget H p.1) && Nat.beq ((pos p.1).getD m) p.2) && ow.all (keepB pos) then match coKs H pos fz ks with
      | some (frs, L) => some (.cells cs1 t fl, CellsX m rs frs ow cs cs1 :: L)
      | none => none
    else none
  | some (.map es clk), .same => some (.map es clk, [plainMap es])
  | some (.loop r), .auto => match coL (coV H m pos fz 3) r.tmps.toList with
    | some (l, L) => some (.loop { r with tmps := l.toArray }, L)
    | none => none
  | some (.deferred ds), .same => some (.deferred ds, [])
  | some (.pending _ _), .dead => some (.pending #[] 0, [])
  | _, _ => none
theorem coO_sound {H : Heap} {m : Nat} {pos : Nat → Option Nat} {fz : List Fz} {μ μ1 : Mu} {w : World} {n' : Nat} {fk : List Nat} {im1 : Img} (c : CoOk H m pos fz μ μ1 w n' fk im1) {o : Option Obj} {s : KS} {o1 : Obj} {L : List Prop} (h : coO H m pos fz o s = some (o1, L)) (hL : AllP L) :
    (∃ x, o = some x) ∧ ¬ isReg o1 ∧ (live o1 → ∃ x, o = some x ∧ live x ∧ ∀ im, OR μ w im x → OR μ1 w im o1) := by
  have cells : ∀ {cs cs1 : Array Value} {t : TypeId} {fl : Nat × Nat}, cs1.size = cs.size → (∀ (i : Nat) v v1 v', cs[i]? = some v → cs1[i]? = some v1 → VR μ v v' → VR μ1 v1 v') → ∀ im, OR μ w im (.cells cs t fl) → OR μ1 w im (.cells cs1 t fl) := by
    intro cs cs1 t fl hs hc im hor
    have get : ∀ (i : Nat) v1, cs1[i]? = some v1 → ∃ v, cs[i]? = some v := fun i v1 h => by
      have := (Array.getElem?_eq_some_iff.1 h).1
      exact ⟨cs[i], by simp [show i < cs.size by omega]⟩
    rcases hor with ⟨h1, h2, h3, arr, h4, h5, h6, h7⟩ | ⟨h1, h2, h8⟩
    · refine .inl ⟨h1, h2, h3, arr, h4, by omega, h6, fun i v1 hv1 => ?_⟩
      obtain ⟨v, hv⟩ := get i v1 hv1
      obtain ⟨v', a, b⟩ := h7 i v hv
      exact ⟨v', a, hc i v v1 v' hv hv1 b⟩
    · refine .inr ⟨h1, fun i v1 hv1 => ?_, fun e => let ⟨a, arr, b, c, d⟩ := h8 e; ⟨a, arr, b, by omega, d⟩⟩
      obtain ⟨v, hv⟩ := get i v1 hv1
      obtain ⟨v', a, b⟩ := h2 i v hv
      exact ⟨v', a, hc i v v1 v' hv hv1 b⟩
  unfold coO at h
  split at h
  · rename_i cs t fl
    split at h
    · rename_i l L1 hl
      simp only [Option.some.injEq, Prod.mk.injEq] at h
      obtain ⟨rfl, rfl⟩ := h
      have key : ∀ (l ts : List Value) (L : List Prop), coL (coV H m pos fz 3) l = some (ts, L) → AllP L → ts.length = l.length ∧ ∀ (i : Nat) v v1 v', l[i]? = some v → ts[i]? = some v1 → VR μ v v' → VR μ1 v1 v' := by
        intro l
        induction l with
        | nil =>
          intro ts L h hL
          simp only [coL, Option.some.injEq, Prod.mk.injEq] at h
          obtain ⟨rfl, rfl⟩ := h
          exact ⟨rfl, fun i v v1 v' h => by simp at h⟩
        | cons v l ih =>
          intro ts L h hL
          simp only [coL] at h
          split at h
          · rename_i t L1 h1
            split at h
            · rename_i ts2 L2 h2
              simp only [Option.some.injEq, Prod.mk.injEq] at h
              obtain ⟨rfl, rfl⟩ := h
              obtain ⟨a, b⟩ := allP_append hL
              obtain ⟨k1, k2⟩ := ih ts2 L2 h2 b
              refine ⟨by simp [k1], fun i u u1 u' x y hr => ?_⟩
              cases i with
              | zero =>
                simp only [List.getElem?_cons_zero, Option.some.injEq] at x y
                subst x y
                exact coV_sound c 3 _ _ _ _ h1 a hr
              | succ i => exact k2 i u u1 u' (by simpa using x) (by simpa using y) hr
            · cases h
          · cases h
      obtain ⟨k1, k2⟩ := key _ _ _ hl hL
      refine ⟨⟨_, rfl⟩, id, fun _ => ?_⟩
      exact ⟨_, rfl, trivial, cells (by simpa using k1) fun i v v1 v' x y => k2 i v v1 v' (by simpa using x) (by simpa using y)⟩
    · cases h
  · rename_i cs t fl rs cs1
    cases hr : (rs.all fun r => isRegB (hget H r)) with
    | false => rw [hr] at h; cases h
    | true =>
      rw [hr] at h
      simp only [cond_true, Option.some.injEq, Prod.mk.injEq] at h
      obtain ⟨rfl, rfl⟩ := h
      obtain ⟨⟨h1, h2⟩, _⟩ := hL
      refine ⟨⟨_, rfl⟩, id, fun _ => ?_⟩
      refine ⟨_, rfl, trivial, cells h1.symm fun i v v1 v' x y hv => ?_⟩
      rcases h2 i v v1 x y with ⟨hs, rfl⟩ | ⟨r, hrm, t, rfl, rfl, ht⟩
      · rw [simple_eq hs hv]; exact vr_simple hs
      · obtain ⟨im, him, htr⟩ := hv.top_inv
        exact .top ht c.reg (htr.mono fun b x hx => top_merge c (List.all_eq_true.1 hr r hrm) him hx)
  · rename_i cs t fl rs ks ow cs1
    cases hr0 : ((rs.all fun p => isRegB (hget H p.1) && Nat.beq ((pos p.1).getD m) p.2) && ow.all (keepB pos)) with
    | false => rw [hr0] at h; cases h
    | true =>
      rw [hr0] at h
      simp only [cond_true] at h
      simp only [Bool.and_eq_true] at hr0
      obtain ⟨hr, how⟩ := hr0
      split at h
      · rename_i frs L2 hks
        simp only [Option.some.injEq, Prod.mk.injEq] at h
        obtain ⟨rfl, rfl⟩ := h
        obtain ⟨hx, hL2⟩ := hL
        obtain ⟨h1, h2⟩ := AllX.get hx
        refine ⟨⟨_, rfl⟩, id, fun _ => ?_⟩
        refine ⟨_, rfl, trivial, cells (by simpa using h1) fun i v v1 v' x y hv => ?_⟩
        have hc := h2 i v v1 (by simpa using x) (by simpa using y)
        cases hc with
        | simple hs => rw [simple_eq hs hv]; exact vr_simple hs
        | reg hm ht =>
          rename_i r j t0
          have := List.all_eq_true.1 hr _ hm
          simp only [Bool.and_eq_true] at this
          have e : coS H m pos fz (topV r t0) = some (topV j t0, []) := by
            have hs : simple (topV r t0) = false := rfl
            unfold coS
            rw [hs]
            simp only [cond_false, topV, this.1, ht, Bool.and_self, cond_true, Nat.eq_of_beq_eq_true this.2]
          exact coS_sound c e trivial hv
        | own hm =>
          obtain ⟨L', e, hL'⟩ := coKs_get ks frs L2 hks hL2 _ _ _ _ hm
          exact coS_sound c e hL' hv
        | nil =>
          cases hv
          exact .top rfl c.reg .nil
        | keep hm =>
          have hk := List.all_eq_true.1 how _ hm
          unfold keepB at hk
          split at hk
          · rename_i j0 hj0
            have hk := Nat.eq_of_beq_eq_true hk
            have e := c.here _ _ hj0
            rw [hk] at e
            cases hv with
            | slice har h1 h2 h3 =>
              obtain ⟨im, hi, _, rfl⟩ := har
              refine .slice ⟨im, e.trans hi, rfl, rfl⟩ h1 h2 fun hs im' him' => ?_
              rw [e] at him'
              exact h3 hs im' him'
          · cases hk
      · cases h
  · rename_i es clk
    simp only [Option.some.injEq, Prod.mk.injEq] at h
    obtain ⟨rfl, rfl⟩ := h
    obtain ⟨hp, _⟩ := hL
    refine ⟨⟨_, rfl⟩, id, fun _ => ?_⟩
    refine ⟨_, rfl, trivial, fun im hor => ?_⟩
    obtain ⟨h1, es', h2, h3, h4⟩ := hor
    refine ⟨h1, es', h2, h3, fun i e e' x y => ?_⟩
    obtain ⟨p, q, r, s⟩ := h4 i e e' x y
    have hs := hp i e x
    exact ⟨p, q, r, by rw [af_eq hs s]; exact vr_af hs⟩
  · rename_i r
    split at h
    · rename_i l L1 hl
      simp only [Option.some.injEq, Prod.mk.injEq] at h
      obtain ⟨rfl, rfl⟩ := h
      refine ⟨⟨_, rfl⟩, id, fun _ => ?_⟩
      refine ⟨_, rfl, trivial, fun im hor => ?_⟩
      obtain ⟨h1, tm, df, h2, h3⟩ := hor
      obtain ⟨a, b⟩ := coL_sound (fun v v' t L => coV_sound c 3 v v' t L) r.tmps.toList l L1 tm.toList hl hL (by simpa using h3.1) fun i v v' x y => h3.2 i v v' (by simpa using x) (by simpa using y)
      exact ⟨h1, tm, df, h2, by simpa using a, fun i v v' x y => b i v v' (by simpa using x) (by simpa using y)⟩
    · cases h
  · rename_i ds
    simp only [Option.some.injEq, Prod.mk.injEq] at h
    obtain ⟨rfl, rfl⟩ := h
    exact ⟨⟨_, rfl⟩, id, fun _ => ⟨_, rfl, trivial, fun im hor => hor⟩⟩
  · simp only [Option.some.injEq, Prod.mk.injEq] at h
    obtain ⟨rfl, rfl⟩ := h
    exact ⟨⟨_, rfl⟩, id, fun hl => hl.elim⟩
  · cases h
end Go.CE

namespace Go.CE
open Go Go.RowKit

def H00 : Heap := [(0, regO)]
def headH (objs : List Obj) : Heap := (0, regO) :: (1, regO) :: heapL 2 objs
theorem headH_get (objs : List Obj) (j : Nat) : hget (headH objs) j = if j = 0 then some regO else if j = 1 then some regO else objs[j - 2]? := by
  unfold headH
  rw [hget_cons, hget_cons, heapL_get]
  by_cases h0 : j = 0
  · simp [h0]
  · by_cases h1 : j = 1
    · simp [h1]
    · rw [if_neg h0, if_neg h1, if_pos (by omega), if_neg h0, if_neg h1]
theorem under_headH (objs : List Obj) : Under (headH objs) (2 + objs.length) := fun i hi => by
  rw [headH_get, if_neg (by omega), if_neg (by omega), List.getElem?_eq_none (by omega)]
def coObjs (H : Heap) (m : Nat) (pos : Nat → Option Nat) (fz : List Fz) : List (Nat × KS) → Option (List Obj × List Prop)
  | [] => some ([], [])
  | (k, s) :: l => match coO H m pos fz (hget H k) s with
    | some (o, L) => match coObjs H m pos fz l with
      | some (os, L2) => some (o :: os, L ++ L2)
      | none => none
    | none => none
structure LandM where
  fn : FuncId
  len : Nat
  todo : List Item
  defers : List Nat
  mode : CM
  roundOf : Option Nat
  vals : List Value
  objs : List Obj
  L : List Prop
def ownB : Option Obj → Bool
  | some (.cells _ _ (0, 0)) => true
  | _ => false
def landM (s : Option ST) (slots : List Nat) (keeps : List (Nat × KS)) (fz : List Fz) : Option LandM := match s with
  | some ⟨.at c H n, W, L⟩ => bif W.isEmpty && distinct (keeps.map (·.1)) && (keeps.all fun k => Nat.ble 1 k.1) && (fz.all fun x => Nat.ble 1 x.k && ownB (hget H x.k) && (keeps.all fun k => !(Nat.beq k.1 x.k))) then
      match coL (coV H 1 (posOf (keeps.map (·.1)) 2) fz 3) (slots.map (tget c.tmps)), coObjs H 1 (posOf (keeps.map (·.1)) 2) fz keeps with
      | some (vs, L1), some (os, L2) => some ⟨c.fn, c.tmps.len, c.todo, c.defers, c.mode, c.roundOf, vs, os, L1 ++ (L2 ++ L)⟩
      | _, _ => none
    else none
  | _ => none
section
variable {P : Program} {F : FuncId → Bool} {J : World → Prop} {B : Lo}
theorem coL_get {f : Value → Option (Value × List Prop)} : ∀ (l ts : List Value) (L : List Prop), coL f l = some (ts, L) → ts.length = l.length ∧ ∀ (i : Nat) v, ts[i]? = some v → ∃ u L1, l[i]? = some u ∧ f u = some (v, L1) ∧ (AllP L → AllP L1)
  | [], ts, L, h => by
    simp only [coL, Option.some.injEq, Prod.mk.injEq] at h
    obtain ⟨rfl, rfl⟩ := h
    exact ⟨rfl, fun i v h => by simp at h⟩
  | v :: l, ts, L, h => by
    simp only [coL] at h
    split at h
    · rename_i t L1 h1
      split at h
      · rename_i ts2 L2 h2
        simp only [Option.some.injEq, Prod.mk.injEq] at h
        obtain ⟨rfl, rfl⟩ := h
        obtain ⟨k1, k2⟩ := coL_get l ts2 L2 h2
        refine ⟨by simp [k1], fun i u x => ?_⟩
        cases i with
        | zero =>
          simp only [List.getElem?_cons_zero, Option.some.injEq] at x
          subst x
          exact ⟨v, L1, rfl, h1, fun h => (allP_append h).1⟩
        | succ i =>
          obtain ⟨u', L', a, b, c⟩ := k2 i u (by simpa using x)
          exact ⟨u', L', by simpa using a, b, fun h => c (allP_append h).2⟩
      · cases h
    · cases h
theorem coObjs_get {H : Heap} {m : Nat} {pos : Nat → Option Nat} {fz : List Fz} : ∀ (l : List (Nat × KS)) (os : List Obj) (L : List Prop), coObjs H m pos fz l = some (os, L) → os.length = l.length ∧ ∀ (i : Nat) o, os[i]? = some o → ∃ k s L1, l[i]? = some (k, s) ∧ coO H m pos fz (hget H k) s = some (o, L1) ∧ (AllP L → AllP L1)
  | [], os, L, h => by
    simp only [coObjs, Option.some.injEq, Prod.mk.injEq] at h
    obtain ⟨rfl, rfl⟩ := h
    exact ⟨rfl, fun i v h => by simp at h⟩
  | (k, s) :: l, os, L, h => by
    simp only [coObjs] at h
    split at h
    · rename_i t L1 h1
      split at h
      · rename_i ts2 L2 h2
        simp only [Option.some.injEq, Prod.mk.injEq] at h
        obtain ⟨rfl, rfl⟩ := h
        obtain ⟨k1, k2⟩ := coObjs_get l ts2 L2 h2
        refine ⟨by simp [k1], fun i u x => ?_⟩
        cases i with
        | zero =>
          simp only [List.getElem?_cons_zero, Option.some.injEq] at x
          subst x
          exact ⟨k, s, L1, rfl, h1, fun h => (allP_append h).1⟩
        | succ i =>
          obtain ⟨k', s', L', a, b, c⟩ := k2 i u (by simpa using x)
          exact ⟨k', s', L', by simpa using a, b, fun h => c (allP_append h).2⟩
      · cases h
    · cases h
theorem TR.merge {μ' μ1 : Mu} {T' : Tm} {A : Array Value} {len : Nat} {live : List (Nat × Value)} (h : TR μ' T' A) (hlen : T'.len = len) (hl : len ≤ 16000) (hlive : ∀ p ∈ live, ∀ v', VR μ' (tget T' p.1) v' → VR μ1 p.2 v')
    {d : Nat → Value} (hd : ∀ t, Loose (d t) ∧ ∀ μ v', VR μ (tget T' t) v' → VR μ (d t) v') : TR μ1 (mkT len live d) A := by
  refine ⟨hlen ▸ h.1, fun t => ?_⟩
  rw [mkT_get hl]
  have ht := h.2 t
  split
  · rcases look_cases live t (d t) with e | ⟨v, hv, e⟩
    · rw [e]
      exact (hd t).1 μ' μ1 _ ((hd t).2 μ' _ ht)
    · rw [e]
      exact hlive _ hv _ ht
  · rename_i hlt
    have : A.getD t undef = undef := by
      have : A.size ≤ t := by rw [← h.1, hlen]; omega
      simp [this]
    rw [this]
    exact VR.undef
theorem GoE.landM {c0 c : CF} {H : Heap} {n : Nat} (hF : ∀ g, F g = true → okFn P g = true) (hJ : ∀ w, B.has w → J w) (hmix : P.follows .mixedOrders = true) (h : GoE P B c0 H00 1 c H n []) {fuel : Nat} {sc : ScriptT} {f : FuncId} {len : Nat} {todo : List Item} {slots : List Nat} {keeps : List (Nat × KS)} {fz : List Fz} {vs : List Value} {os : List Obj} {L : List Prop}
    (e : CE.landM (srunT P F J B fuel 1 c H n sc 0 [] []) slots keeps fz = some ⟨f, len, todo, [], .run, none, vs, os, L⟩) (hL : AllP L) (hlen : Nat.ble len 16000 = true) (hplain : todo.all plainItem = true) :
    ∃ d : Nat → Value, (∀ t, Loose (d t)) ∧ GoE P B c0 H00 1 (headC f len (slots.zip vs) d todo) (headH os) (2 + os.length) [] := by
  unfold CE.landM at e
  split at e
  · rename_i c' H' n' W' L' hs
    have e := e
    cases hq : (W'.isEmpty && distinct (keeps.map (·.1)) && (keeps.all fun k => Nat.ble 1 k.1) && (fz.all fun x => Nat.ble 1 x.k && ownB (hget H' x.k) && (keeps.all fun k => !(Nat.beq k.1 x.k)))) with
    | false => rw [hq] at e; cases e
    | true =>
      rw [hq] at e
      simp only [cond_true] at e
      split at e
      · rename_i vs0 L1 os0 L2 hvs hos
        simp only [Option.some.injEq, LandM.mk.injEq] at e
        obtain ⟨e1, e2, e3, e4, e5, e6, rfl, rfl, rfl⟩ := e
        obtain ⟨hL1, hL23⟩ := allP_append hL
        obtain ⟨hL2, hL3⟩ := allP_append hL23
        simp only [Bool.and_eq_true] at hq
        obtain ⟨⟨⟨hW, hdist⟩, hge⟩, hfz⟩ := hq
        have hWe : W' = [] := by simpa using hW
        subst hWe
        obtain ⟨R, W2, hgo, hiff⟩ := srunT_sound hF hJ hmix fuel 1 c H n sc 0 [] [] _ h.under hs hL3
        have hg := (h.step hgo).lists (W1 := []) (fun i hi => by
          have := hiff i hi
          simp only [List.not_mem_nil, false_or] at this
          simp [← this])
        have hd : ∀ t, ∃ d, Loose d ∧ ∀ μ v', VR μ (tget c'.tmps t) v' → VR μ d v' := fun t => forget_ex _
        have hlenos := (coObjs_get keeps os0 L2 hos).1
        refine ⟨fun t => Classical.choose (hd t), fun t => (Classical.choose_spec (hd t)).1, under_headH _, by omega, fun Z μ w fr cs hok hB hf hfr => ?_⟩
        obtain ⟨fr', w', μ', hp, hfr', a, b, hst⟩ := hg.sem Z μ w fr cs hok hB hf hfr
        let ρ : Nat → Nat := fun i => if i = 0 then 0 else ((keeps.map (·.1))[i - 2]?).getD i
        have hρ : ∀ i k, 2 ≤ i → (keeps.map (·.1))[i - 2]? = some k → ρ i = k := fun i k hi hk => by
          show (if i = 0 then 0 else ((keeps.map (·.1))[i - 2]?).getD i) = k
          rw [if_neg (by omega), hk]; rfl
        have get : ∀ i, 1 < i → i < 2 + os0.length → ∃ k, (keeps.map (·.1))[i - 2]? = some k ∧ ρ i = k ∧ 1 ≤ k := by
          intro i h1 h2
          have hlt : i - 2 < keeps.length := by omega
          refine ⟨(keeps[i - 2]).1, by simp [hlt], hρ i _ (by omega) (by simp [hlt]), ?_⟩
          exact Nat.le_of_ble_eq_true (List.all_eq_true.1 hge _ (List.getElem_mem hlt))
        let im1 : Img := ⟨0, 0, 0, false, fmU μ' H' w' (regsL H' n' ++ fz.map (·.k))⟩
        let μ1 := muM 1 (2 + os0.length) ρ μ μ' (fmU μ' H' w' (regsL H' n' ++ fz.map (·.k)))
        have hco : CoOk H' 1 (posOf (keeps.map (·.1)) 2) fz μ' μ1 w' n' (fz.map (·.k)) im1 := by
          refine ⟨⟨B.B, _, hp.ok, fun i hi => ?_⟩, hg.under, fun k j hj => ?_, ?_, rfl, fun x hx => List.mem_map.2 ⟨x, hx, rfl⟩⟩
          · rcases Nat.lt_or_ge i 1 with h | h
            · exact .inl h
            · exact .inr ⟨h, hi⟩
          · obtain ⟨h1, h2⟩ := posOf_spec _ _ _ _ hj
            have hlt : j - 2 < keeps.length := by
              have := (List.getElem?_eq_some_iff.1 h2).1
              simpa using this
            show muM 1 (2 + os0.length) ρ μ μ' _ j = μ' k
            unfold muM
            rw [if_neg (by omega), if_pos ⟨by omega, by omega⟩, hρ j k h1 h2]
          · show muM 1 (2 + os0.length) ρ μ μ' _ 1 = some im1
            unfold muM
            rw [if_pos rfl]
        have hkeeps : KeepsM 1 n' (2 + os0.length) [] μ μ' H00 H' (headH os0) w' ρ (fz.map (·.k)) := by
          refine ⟨by omega, fun i hi => ?_, fun i h1 h2 => ?_, fun i j h1 h2 h3 h4 h5 => ?_, under_headH _, fun i hi _ => ?_, ?_, fun i o1 hi hc ho => ?_, fun k hk => ?_⟩
          · have : i = 0 := by omega
            subst this; rfl
          · obtain ⟨k, hk, hk2, hk3⟩ := get i h1 h2
            refine ⟨by omega, ?_⟩
            rw [hk2]
            have hlt : i - 2 < os0.length := by omega
            obtain ⟨k', s, L', ha, hb, hc⟩ := (coObjs_get keeps os0 L2 hos).2 (i - 2) os0[i - 2] (by simp [hlt])
            have : k' = k := by
              rw [List.getElem?_map, ha] at hk
              simpa using hk
            subst this
            obtain ⟨⟨x, hx⟩, _⟩ := coO_sound hco hb (hc hL2)
            exact hg.under.lt hx
          · obtain ⟨k, hk, hk2, _⟩ := get i h1 h2
            obtain ⟨k', hk', hk2', _⟩ := get j h3 h4
            rw [hk2, hk2'] at h5
            subst h5
            have := distinct_inj hdist _ _ _ hk hk'
            omega
          · have : i = 0 := by omega
            subst this; rfl
          · rfl
          · have h1i : 1 < i := hc.elim id fun h => by simp at h
            rw [headH_get, if_neg (by omega), if_neg (by omega)] at ho
            obtain ⟨k, s, L', ha, hb, hc'⟩ := (coObjs_get keeps os0 L2 hos).2 (i - 2) o1 ho
            obtain ⟨_, hnr, hli⟩ := coO_sound hco hb (hc' hL2)
            refine ⟨hnr, fun hl1 => ?_⟩
            obtain ⟨x, hx, hl, hor⟩ := hli hl1
            refine ⟨x, ?_, hl, fun im _ h => hor im h⟩
            rw [hρ i k (by omega) (by rw [List.getElem?_map, ha]; rfl)]
            exact hx
          · obtain ⟨x, hx, rfl⟩ := List.mem_map.1 hk
            have := List.all_eq_true.1 hfz x hx
            simp only [Bool.and_eq_true] at this
            obtain ⟨⟨q1, q2⟩, q3⟩ := this
            have hown : ∃ o, hget H' x.k = some o ∧ live o := by
              unfold ownB at q2
              split at q2
              · rename_i ho; exact ⟨_, ho, trivial⟩
              · cases q2
            obtain ⟨o, ho, hl⟩ := hown
            refine ⟨Nat.le_of_ble_eq_true q1, hg.under.lt ho, ⟨o, ho, hl⟩, fun i h1 h2 hr => ?_⟩
            obtain ⟨k, hk, hk2, _⟩ := get i h1 h2
            rw [hk2] at hr
            rw [List.getElem?_map] at hk
            cases hy : keeps[i - 2]? with
            | none => rw [hy] at hk; cases hk
            | some y =>
              rw [hy] at hk
              simp only [Option.map_some, Option.some.injEq] at hk
              have := List.all_eq_true.1 q3 y (List.mem_of_getElem? hy)
              rw [hk, hr] at this
              simp at this
        have hpost := hp.merge hok hf hkeeps
        have hpans : c'.mode.pans = false := by rw [e5]; rfl
        refine ⟨fr', w', _, hpost, ⟨by rw [hfr'.fn, e1]; rfl, ?_, fun _ => (e3 ▸ hfr'.todo hpans).plain hplain, ?_, ?_, hfr'.kind, ?_⟩, a, b, hst⟩
        · refine hfr'.tmps.merge e2 (Nat.le_of_ble_eq_true hlen) (fun p hp v' hv => ?_) fun t => Classical.choose_spec (hd t)
          obtain ⟨i, hi⟩ := List.getElem?_of_mem hp
          rw [List.getElem?_zip_eq_some] at hi
          obtain ⟨hi1, hi2⟩ := hi
          obtain ⟨u, L', ha, hb, hc⟩ := (coL_get _ _ _ hvs).2 i p.2 hi2
          rw [List.getElem?_map, hi1] at ha
          simp only [Option.map_some, Option.some.injEq] at ha
          subst ha
          exact coV_sound hco 3 _ _ _ _ hb (hc hL1) hv
        · have := hfr'.defers
          rw [e4] at this
          exact .of_empty this.empty
        · have := hfr'.mode
          rw [e5] at this
          generalize fr'.mode = ds at this
          cases this
          exact .run
        · have := hfr'.round
          rw [e6] at this
          generalize fr'.roundOf = x at this
          cases x with
          | none => trivial
          | some x => cases this
      · cases e
  · cases e
def endT (s : Option ST) (fz : List Fz) : Option (Value × List Prop) := match s with
  | some ⟨.fin (.ret v) H _, W, L⟩ => bif W.isEmpty then match stripV H fz 3 v with
      | some (t, _, L2) => some (t, L2 ++ L)
      | none => none
    else none
  | _ => none
def EndsT (P : Program) (B : Lo) (c0 : CF) (out : Value) : Prop :=
  ∀ (μ : Mu) (w : World) (fr : Frame) (cs : List Frame) (im : Img), Ok B (fun i => i < 1) μ (hget H00) w → B.has w → (∀ i, 1 ≤ i → μ i = none) → μ 0 = some im → FrR Bot.no μ c0 fr →
    ∃ v' w', Below w.heap.size w w' ∧ TRv (fmOr im.fm w w') out v' ∧ EndsAs P fr cs w (.ret v') w'
theorem GoE.endsT {c0 c : CF} {H : Heap} {n : Nat} (hF : ∀ g, F g = true → okFn P g = true) (hJ : ∀ w, B.has w → J w) (hmix : P.follows .mixedOrders = true) (h : GoE P B c0 H00 1 c H n []) {fuel : Nat} {sc : ScriptT} {fz : List Fz} {out : Value} {L : List Prop}
    (e : endT (srunT P F J B fuel 1 c H n sc 0 [] []) fz = some (out, L)) (hL : AllP L) : EndsT P B c0 out := by
  unfold endT at e
  split at e
  · rename_i v H' n' W' L' hs
    cases hW : W'.isEmpty with
    | false => rw [hW] at e; cases e
    | true =>
      rw [hW] at e
      simp only [cond_true] at e
      split at e
      · rename_i t R2 L2 hst
        simp only [Option.some.injEq, Prod.mk.injEq] at e
        obtain ⟨rfl, rfl⟩ := e
        obtain ⟨hL2, hL1⟩ := allP_append hL
        have hWe : W' = [] := by simpa using hW
        subst hWe
        obtain ⟨R, W2, hfj, hiff⟩ := srunT_sound hF hJ hmix fuel 1 c H n sc 0 [] [] _ h.under hs hL1
        intro μ w fr cs im hok hB hf him hfr
        obtain ⟨out', w', μ', hp, ho, he⟩ := h.fj hfj μ w fr cs hok hB hf hfr
        have hnoW : ∀ i, i ∈ [] ++ W2 → ¬ i < 1 := fun i hi hlt => by
          have := (hiff i hlt).2 (.inr (by simpa using hi))
          simp at this
        have hbel : Below w.heap.size w w' := ⟨hp.os, hp.tape, hp.output, hp.grow, fun b hb => hp.frame b hb fun i hi hl => absurd hl (hnoW i hi)⟩
        cases ho with
        | ret hvr =>
          rename_i v'
          refine ⟨v', w', hbel, ?_, he⟩
          have hu' : Under H' n' := h.under.shape hfj.shape
          have hle := hp.le
          -- of what is looked at, all is there
          have hall : ∀ r, (hget H' r).isSome → r < 1 ∨ 1 ≤ r ∧ r < n' := fun r hr => by
            have : r < n' := by
              cases hg : hget H' r with
              | none => rw [hg] at hr; cases hr
              | some o => exact hu'.lt hg
            omega
          have hok2 : Ok B.B (fun _ => True) μ' (hget H') w' :=
            ⟨fun i o _ ho => hp.ok.rel i o (hall i (by rw [ho]; rfl)) ho, fun i o im _ ho => hp.ok.low i o im (hall i (by rw [ho]; rfl)) ho,
             fun i j oi oj a b _ _ hij hoi hoj => hp.ok.inj i j oi oj a b (hall i (by rw [hoi]; rfl)) (hall j (by rw [hoj]; rfl)) hij hoi hoj,
             fun i o _ ho => hp.ok.reg i o (hall i (by rw [ho]; rfl)) ho, fun i j oi oj a b x _ _ hoi hoj => hp.ok.sep i j oi oj a b x (hall i (by rw [hoi]; rfl)) (hall j (by rw [hoj]; rfl)) hoi hoj⟩
          refine (stripV_sound hok2 3 v v' t R2 L2 hst hL2 (fun _ _ => trivial) hvr).mono fun b x hx => ?_
          have hw := fmU_world hx
          unfold fmU at hx
          split at hx
          · rename_i hc
            obtain ⟨i, _, o, im2, hio, him2, hcase⟩ := hc
            have hi := hall i (by rw [hio]; rfl)
            have old0 : ∀ i, i < 1 → i = 0 := fun i h => by omega
            have keep0 : hget H' 0 = some regO := by
              rw [hp.keep 0 (by omega) fun e => hnoW 0 e (by omega)]; rfl
            have mu0 : μ' 0 = some im := by rw [hp.ext 0 (by omega)]; exact him
            have below : b < w.heap.size → im.fm b = some x → fmOr im.fm w w' b = some x := fun h1 h2 => by unfold fmOr; rw [if_pos h1]; exact h2
            have above : w.heap.size ≤ b → fmOr im.fm w w' b = some x := fun h1 => by unfold fmOr; rw [if_neg (by omega)]; exact hw
            have from0 : im.fm b = some x → fmOr im.fm w w' b = some x := fun h => by
              refine below ?_ h
              exact reg_lt hok (i := 0) (o := regO) (show 0 < 1 by omega) rfl trivial him h
            rcases hcase with ⟨hreg, hne⟩ | ⟨hl, hb⟩
            · cases hfx : im2.fm b with
              | none => exact absurd hfx hne
              | some y =>
                obtain ⟨im3, him3, hf3⟩ := hp.ok.reg i o hi hio hreg
                rw [him2] at him3; cases him3
                have := hf3 b y hfx
                rw [hw] at this; cases this
                rcases hi with hi | hi
                · rw [old0 i hi, mu0] at him2; cases him2
                  exact from0 hfx
                · rcases hp.rf i im2 o (.inl hi) hio hreg him2 b x hfx with c | ⟨k, kim, ko, hk, _, hko, _, hkm, hkb⟩ | ⟨k, hk, hkn, _⟩
                  · exact above c
                  · rw [old0 k hk, him] at hkm; cases hkm
                    exact from0 hkb
                  · exact absurd hkn (hnoW k hk)
            · rcases hi with hi | hi
              · rw [old0 i hi, keep0] at hio; cases hio; exact hl.elim
              · rcases (hp.fresh i im2 o hi.1 hi.2 hio hl him2).2 with c | ⟨k, hk, hkn, _⟩
                · exact above (by omega)
                · exact absurd hkn (hnoW k hk)
          · cases hx
      · cases e
  · cases e
theorem pureC_of {g : FuncId} {ts : List Value} {out : Value} {c0 : CF} (hst : ∀ w w' : World, (∀ b, b < w.heap.size → w'.heap[b]? = w.heap[b]?) → J w → J w') (hc : enterC P g (ts.map (pushT 0 4)).toArray = some c0) (hok : (ts.all (okT 4)) = true)
    (h : ∀ B : Lo, (∀ w, B.has w → J w) → EndsT P B c0 out) : PureC P J g ts.toArray out := by
  intro fm w args' hJ hfm hargs cs
  let B : Lo := ⟨w.heap.size, fun w' => ∀ b, b < w.heap.size → w'.heap[b]? = w.heap[b]?, fun _ _ h hi b hb => (h b hb).trans (hi b hb)⟩
  have hB : B.has w := ⟨Nat.le_refl _, fun _ _ => rfl⟩
  let im : Img := ⟨0, 0, 0, false, fm⟩
  let μ : Mu := fun i => if i = 0 then some im else none
  have hOk : Ok B.B (fun i => i < 1) μ (hget H00) w := by
    have only : ∀ i o, hget H00 i = some o → i = 0 ∧ o = regO := by
      intro i o h
      simp only [H00, hget_cons, hget] at h
      split at h
      · rename_i e; exact ⟨e, by simpa using h.symm⟩
      · cases h
    refine ⟨fun i o _ ho hl => ?_, fun i o im _ ho hl => ?_, fun i j oi oj a b _ _ _ ho _ hl => ?_, fun i o _ ho _ => ?_, fun i j oi oj a b x _ _ _ ho _ hl => ?_⟩
    · rw [(only i o ho).2] at hl; exact hl.elim
    · rw [(only i o ho).2] at hl; exact hl.elim
    · rw [(only i oi ho).2] at hl; exact hl.elim
    · exact ⟨im, by rw [(only i o ho).1]; rfl, hfm⟩
    · rw [(only j oj ho).2] at hl; exact hl.elim
  have hv : VRs μ (ts.map (pushT 0 4)).toArray args' := by
    refine ⟨by simpa using hargs.1, fun i v v' hv hv' => ?_⟩
    simp only [List.getElem?_toArray, List.getElem?_map] at hv
    cases ht : ts[i]? with
    | none => rw [ht] at hv; cases hv
    | some t =>
      rw [ht] at hv
      simp only [Option.map_some, Option.some.injEq] at hv
      subst hv
      exact pushT_VR (im := im) rfl 4 t v' (List.all_eq_true.1 hok t (List.mem_of_getElem? ht)) (hargs.2 i t v' (by simpa using ht) hv')
  obtain ⟨v', w', hb, ht, he⟩ := h B (fun w' h => hst w w' h.inv hJ) μ w (Frame.enter P g args' .normal) cs im hOk hB (fun i hi => by show (if i = 0 then _ else _) = _; rw [if_neg (by omega)]) rfl (enterC_FrR hc hv)
  obtain ⟨frE, h1, h2, h3⟩ := he.1 rfl
  exact ⟨.returned v', w', frE, ⟨v', rfl, hb, ht⟩, h1, h2, h3⟩
theorem GoE.start {c0 : CF} : GoE P B c0 H00 1 c0 H00 1 [] := GoE.refl (fun i hi => by simp only [H00, hget_cons, hget]; rw [if_neg (by omega)])
end
end Go.CE

namespace Go.CE
open Go Go.RowKit

def rowL {α : Type} (e : α → List Value) (xs : List α) : Array Value := (xs.flatMap e).toArray
def encI (n : Int) : List Value := [.int .i64 n]
abbrev slI (xs : List Int) : Value := slT xs.length (rowL encI xs)
section
variable {α : Type} {e : α → List Value} {z : Nat} {xs : List α}
theorem flat_length (h : ∀ x, (e x).length = z) : ∀ xs : List α, (xs.flatMap e).length = xs.length * z
  | [] => by simp
  | x :: xs => by simp [h, flat_length h xs, Nat.add_mul, Nat.add_comm]
theorem rowL_size (h : ∀ x, (e x).length = z) : (rowL e xs).size = xs.length * z := by simp [rowL, flat_length h]
theorem flat_get (h : ∀ x, (e x).length = z) : ∀ (xs : List α) (k j : Nat) (x : α), j < z → xs[k]? = some x → (xs.flatMap e)[k * z + j]? = (e x)[j]?
  | [], k, j, x, hj, hk => by simp at hk
  | y :: xs, 0, j, x, hj, hk => by
    simp only [List.getElem?_cons_zero, Option.some.injEq] at hk
    subst hk
    simp only [List.flatMap_cons, Nat.zero_mul, Nat.zero_add]
    rw [List.getElem?_append_left (by rw [h]; exact hj)]
  | y :: xs, k + 1, j, x, hj, hk => by
    simp only [List.flatMap_cons]
    rw [List.getElem?_append_right (by rw [h, Nat.add_mul]; omega), h, show (k + 1) * z + j - z = k * z + j by rw [Nat.add_mul]; omega]
    exact flat_get h xs k j x hj (by simpa using hk)
theorem rowL_get [Inhabited α] (h : ∀ x, (e x).length = z) {k j : Nat} (hk : k < xs.length) (hj : j < z) : (rowL e xs)[k * z + j]? = (e (xs.getD k default))[j]? := by
  have hx : xs[k]? = some (xs.getD k default) := by simp [hk]
  simp only [rowL, List.getElem?_toArray]
  exact flat_get h xs k j _ hj hx
theorem rowL_ld [Inhabited α] (h : ∀ x, (e x).length = z) {k j : Nat} {v : Value} (hk : k < xs.length) (hv : (e (xs.getD k default))[j]? = some v) : (rowL e xs)[k * z + j]? = some v := by
  have hj : j < z := by rw [← h (xs.getD k default)]; exact (List.getElem?_eq_some_iff.1 hv).1
  rw [rowL_get h hk hj, hv]
theorem rowL_extract [Inhabited α] (h : ∀ x, (e x).length = z) {k : Nat} (hk : k < xs.length) : (rowL e xs).extract (k * z) (k * z + z) = (e (xs.getD k default)).toArray := by
  have hsz := rowL_size (xs := xs) h
  have hle : k * z + z ≤ xs.length * z := by
    have := Nat.mul_le_mul_right z (show k + 1 ≤ xs.length by omega)
    rw [Nat.add_mul, Nat.one_mul] at this; exact this
  refine Array.ext (by simp [hsz, h]; omega) fun i h1 h2 => ?_
  have hi : i < z := by simpa [h] using h2
  have a := rowL_get (xs := xs) h hk hi
  rw [Array.getElem_extract]
  have b : (rowL e xs)[k * z + i]? = some ((rowL e xs)[k * z + i]'(by rw [hsz]; omega)) := by simp
  have c : (e (xs.getD k default))[i]? = some ((e (xs.getD k default)).toArray[i]'h2) := by simp
  rw [b, c] at a
  exact Option.some.inj a
theorem rowL_push {x : α} : rowL e xs ++ (e x).toArray = rowL e (xs ++ [x]) := by simp [rowL]
theorem rowL_simple (h : ∀ x, ∀ v ∈ e x, simple v = true) : ∀ v ∈ rowL e xs, simple v = true := fun v hv => by
  simp only [rowL, List.mem_toArray, List.mem_flatMap] at hv
  obtain ⟨x, _, hx⟩ := hv
  exact h x v hx
theorem rowL_cellsT {rs : List Nat} (h : ∀ x, ∀ v ∈ e x, simple v = true) : CellsT rs (rowL e xs) (rowL e xs) := cellsT_simple (Array.all_eq_true'.2 (rowL_simple h))
theorem flat_set {x : α} (h : ∀ x, (e x).length = z) : ∀ (xs : List α) (k i : Nat), k < xs.length → ((xs.set k x).flatMap e)[i]? = if k * z ≤ i ∧ i < k * z + z then (e x)[i - k * z]? else (xs.flatMap e)[i]?
  | [], k, i, hk => by simp at hk
  | y :: xs, 0, i, hk => by
    simp only [List.set_cons_zero, List.flatMap_cons, Nat.zero_mul, Nat.zero_add, Nat.zero_le, true_and, Nat.sub_zero]
    by_cases hi : i < z
    · rw [if_pos hi, List.getElem?_append_left (by rw [h]; exact hi)]
    · rw [if_neg hi, List.getElem?_append_right (by rw [h]; omega), List.getElem?_append_right (by rw [h]; omega), h, h]
  | y :: xs, k + 1, i, hk => by
    simp only [List.set_cons_succ, List.flatMap_cons]
    by_cases hi : i < z
    · rw [List.getElem?_append_left (by rw [h]; exact hi), if_neg (by rw [Nat.add_mul]; omega), List.getElem?_append_left (by rw [h]; exact hi)]
    · rw [List.getElem?_append_right (by rw [h]; omega), List.getElem?_append_right (by rw [h]; omega), h, flat_set h xs k (i - z) (by simpa using hk)]
      by_cases hc : k * z ≤ i - z ∧ i - z < k * z + z
      · rw [if_pos hc, if_pos (by rw [Nat.add_mul]; omega), show i - z - k * z = i - (k + 1) * z by rw [Nat.add_mul]; omega]
      · rw [if_neg hc, if_neg (by rw [Nat.add_mul]; omega)]
theorem rowL_splice {x : α} (h : ∀ x, (e x).length = z) {k : Nat} (hk : k < xs.length) : k * z + z ≤ (rowL e xs).size ∧ splice (rowL e xs) (k * z) (e x).toArray = rowL e (xs.set k x) := by
  have hsz := rowL_size (xs := xs) h
  have hle : k * z + z ≤ xs.length * z := by
    have := Nat.mul_le_mul_right z (show k + 1 ≤ xs.length by omega)
    rw [Nat.add_mul, Nat.one_mul] at this; exact this
  refine ⟨by rw [hsz]; exact hle, Array.ext_getElem? fun i => ?_⟩
  have a : (rowL e (xs.set k x))[i]? = ((xs.set k x).flatMap e)[i]? := by simp [rowL]
  have b : (rowL e xs)[i]? = (xs.flatMap e)[i]? := by simp [rowL]
  rw [a, flat_set h xs k i hk, ← b]
  rw [splice_get (by rw [hsz]; simp [h]; exact hle)]
  simp [h]
end
theorem TRv.len' {fm : Nat → Option Obj} {n : Nat} {cs : Array Value} {v' : Value} (h : TRv fm (slT n cs) v') : n ≤ maxLen := by
  rcases h.slice_inv with ⟨_, _, _, _, _, _, _, h1, h2, _⟩ | ⟨rfl, _⟩
  · omega
  · exact Nat.zero_le _
theorem neqq_t {a b : Int} (h : a ≠ b) : (!eqq a b) = true := by rw [eqq_f h]; rfl
theorem neqq_f {a b : Int} (h : a = b) : (!eqq a b) = false := by rw [eqq_t h]; rfl
theorem cellsM_lit {m : Nat} {rs : List Nat} {cs : Array Value} (h : cs.all simple = true) : CellsM m rs cs cs := cellsM_simple fun v hv => Array.all_eq_true'.1 h v hv
theorem rowL_st {α : Type} {e : α → List Value} {z : Nat} {xs : List α} (h : ∀ x, (e x).length = z) {k : Nat} (hk : k < xs.length) {x : α} {cs : Array Value} (hc : cs = (e x).toArray) : k * z + z ≤ (rowL e xs).size ∧ splice (rowL e xs) (k * z) cs = rowL e (xs.set k x) := by
  rw [hc]; exact rowL_splice h hk
theorem EndsT.cast {P : Program} {B : Lo} {c0 : CF} {a b : Value} (h : EndsT P B c0 a) (e : a = b) : EndsT P B c0 b := e ▸ h
theorem TRvs.len {fm : Nat → Option Obj} {ts args : Array Value} (h : TRvs fm ts args) {i n : Nat} {cs : Array Value} (hi : ts[i]? = some (slT n cs)) : n ≤ maxLen := by
  have hlt : i < args.size := h.1 ▸ (Array.getElem?_eq_some_iff.1 hi).1
  exact TRv.len' (h.2 i _ args[i] hi (by simp [hlt]))
theorem TRvs.len2 {fm : Nat → Option Obj} {ts args : Array Value} (h : TRvs fm ts args) {i j n : Nat} {xs cs : Array Value} (hi : ts[i]? = some (.agg xs)) (hj : xs[j]? = some (slT n cs)) : n ≤ maxLen := by
  have hlt : i < args.size := h.1 ▸ (Array.getElem?_eq_some_iff.1 hi).1
  have ht := h.2 i _ args[i] hi (by simp [hlt])
  generalize args[i] = v at ht
  cases ht with
  | simple h => cases h
  | agg h1 h2 =>
    rename_i ys
    have hlt : j < ys.size := h1 ▸ (Array.getElem?_eq_some_iff.1 hj).1
    exact TRv.len' (h2 j _ ys[j] hj (by simp [hlt]))
theorem TRvs.ln {fm : Nat → Option Obj} {ts args : Array Value} (h : TRvs fm ts args) {i n : Nat} {cs : Array Value} (hi : ts[i]? = some (slT n cs)) : n ≤ 9223372036854775807 := by
  have := h.len hi
  unfold maxLen at this
  omega
theorem TRvs.ln2 {fm : Nat → Option Obj} {ts args : Array Value} (h : TRvs fm ts args) {i j n : Nat} {xs cs : Array Value} (hi : ts[i]? = some (.agg xs)) (hj : xs[j]? = some (slT n cs)) : n ≤ 9223372036854775807 := by
  have := h.len2 hi hj
  unfold maxLen at this
  omega
section
variable {α : Type} [Inhabited α] {f : α → Bool} {xs : List α} {i : Int}
theorem drop_cons (h0 : 0 ≤ i) (hi : i < xs.length) : xs.drop i.toNat = xs.getD i.toNat default :: xs.drop (i + 1).toNat := by
  have hlt : i.toNat < xs.length := by omega
  rw [List.drop_eq_getElem_cons hlt, show (i + 1).toNat = i.toNat + 1 by omega]
  simp [hlt]
theorem drop_all (h0 : 0 ≤ i) (hi : i < xs.length) : (xs.drop i.toNat).all f = (f (xs.getD i.toNat default) && (xs.drop (i + 1).toNat).all f) := by rw [drop_cons h0 hi]; rfl
omit [Inhabited α] in
theorem drop_end (hi : xs.length ≤ i) : xs.drop i.toNat = [] := List.drop_eq_nil_of_le (by omega)
theorem take_snoc (h0 : 0 ≤ i) (hi : i < xs.length) : xs.take (i + 1).toNat = xs.take i.toNat ++ [xs.getD i.toNat default] := by
  have hlt : i.toNat < xs.length := by omega
  rw [show (i + 1).toNat = i.toNat + 1 by omega, List.take_add_one]
  simp [hlt]
end
def upI (a b : Int) : List Int := (List.range (b - a).toNat).map fun (k : Nat) => a + (k : Int)
theorem upI_cons {a b : Int} (h : a < b) : upI a b = a :: upI (a + 1) b := by
  unfold upI
  obtain ⟨m, hm⟩ : ∃ m : Nat, (b - a).toNat = m + 1 := ⟨(b - a).toNat - 1, by omega⟩
  rw [hm, show (b - (a + 1)).toNat = m by omega, List.range_succ_eq_map]
  simp only [List.map_cons, List.map_map, Int.ofNat_zero, Int.add_zero, Int.cast_ofNat_Int]
  congr 1
  apply List.map_congr_left
  intro k _
  simp only [Function.comp_apply, Nat.succ_eq_add_one]
  omega
theorem upI_nil {a b : Int} (h : b ≤ a) : upI a b = [] := by
  unfold upI
  rw [show (b - a).toNat = 0 by omega]; rfl
theorem pureC_ofF {P : Program} {J : World → Prop} {g : FuncId} {ts : List Value} {out : Value} {c0 : CF} (facts : Prop) (hfacts : ∀ fm args', TRvs fm ts.toArray args' → facts) (hst : ∀ w w' : World, (∀ b, b < w.heap.size → w'.heap[b]? = w.heap[b]?) → J w → J w') (hc : enterC P g (ts.map (pushT 0 4)).toArray = some c0) (hok : (ts.all (okT 4)) = true)
    (h : facts → ∀ B : Lo, (∀ w, B.has w → J w) → EndsT P B c0 out) : PureC P J g ts.toArray out := fun fm w args' hJ hfm hargs => pureC_of hst hc hok (h (hfacts fm args' hargs)) fm w args' hJ hfm hargs
end Go.CE

namespace Go.CE
open Go Go.RowKit

theorem Post.widen {B n n' : Nat} {S : Nat → Prop} {W W' : List Nat} {μ μ' : Mu} {H H' : Heap} {w w' : World} (hok : Ok B S μ (hget H) w) (h : Post B S n n' W μ μ' H H' w w') (hW : ∀ i, i < n → i ∈ W → i ∈ W') (hw : ∀ i, i < n → i ∈ W' → S i ∧ ∃ o, hget H i = some o ∧ live o ∧ ∀ im, μ i = some im → im.rw = true) : Post B S n n' W' μ μ' H H' w w' :=
  ⟨h.ok, h.le, h.ext, fun i hi hw' => h.keep i hi fun e => hw' (hW i hi e), h.grow, fun b hb hx => h.frame b hb fun i hi hl => hx i (hW i hl hi) hl, fun i hi hl => by
    obtain ⟨hs, o, hg, hl', hr⟩ := hw i hl hi
    obtain ⟨im, him, _⟩ := hok.rel i _ hs hg hl'
    exact ⟨hs, ⟨o, hg, hl'⟩, im, him, hr im him⟩, fun i im o h1 h2 ho hl hm => by
    obtain ⟨hr, hf⟩ := h.fresh i im o h1 h2 ho hl hm
    exact ⟨hr, hf.imp id fun ⟨k, a, b, d⟩ => ⟨k, hW k b a, b, d⟩⟩, fun i im o hi ho hr hm b x hx => by
    have res : (n ≤ i ∧ i < n' ∨ i ∈ W ∧ i < n) → w.heap.size ≤ b ∨ (∃ k kim ko, S k ∧ k < n ∧ hget H k = some ko ∧ isReg ko ∧ μ k = some kim ∧ kim.fm b = some x) ∨ ∃ k, k ∈ W' ∧ k < n ∧ (∃ im', μ k = some im' ∧ im'.blk = b) ∧ ∀ o, hget H' k = some o → ¬ live o := fun hc => by
      rcases h.rf i im o hc ho hr hm b x hx with e | e | ⟨k, p, q, r⟩
      · exact .inl e
      · exact .inr (.inl e)
      · exact .inr (.inr ⟨k, hW k q p, q, r⟩)
    rcases hi with hi | ⟨hi, hlt⟩
    · exact res (.inl hi)
    · by_cases hin : i ∈ W
      · exact res (.inr ⟨hin, hlt⟩)
      · obtain ⟨_, o', hg, hl, _⟩ := hw i hlt hi
        rw [h.keep i hlt hin, hg] at ho
        cases ho
        exact absurd hl (by cases o <;> first | exact id | exact hr.elim), h.os, h.tape, h.output⟩
def Writable (H0 : Heap) (a : Nat) (Wf : List Nat) : Prop := ∀ i, i < a → i ∈ Wf → (∃ cs t, hget H0 i = some (.cells cs t (0, 0))) ∨ (∃ r, hget H0 i = some (.loop r)) ∨ (∃ es clk, hget H0 i = some (.map es clk)) ∨ ∃ ds, hget H0 i = some (.deferred ds)
def writB (o : Option Obj) : Bool := match o with
  | some (.cells _ _ (0, 0)) | some (.loop _) | some (.map _ _) | some (.deferred _) => true
  | _ => false
theorem writable_of {H0 : Heap} {a : Nat} {Wf : List Nat} (h : (Wf.all fun i => writB (hget H0 i)) = true) : Writable H0 a Wf := fun i _ hi => by
  have := List.all_eq_true.1 h i hi
  unfold writB at this
  split at this
  · rename_i cs t hg; exact .inl ⟨cs, t, hg⟩
  · rename_i r hg; exact .inr (.inl ⟨r, hg⟩)
  · rename_i es clk hg; exact .inr (.inr (.inl ⟨es, clk, hg⟩))
  · rename_i ds hg; exact .inr (.inr (.inr ⟨ds, hg⟩))
  · cases this
theorem Writable.rw {B : Nat} {μ : Mu} {H0 : Heap} {a : Nat} {Wf : List Nat} {w : World} (h : Writable H0 a Wf) (hok : Ok B (fun i => i < a) μ (hget H0) w) {i : Nat} (hi : i < a) (hw : i ∈ Wf) : i < a ∧ ∃ o, hget H0 i = some o ∧ live o ∧ ∀ im, μ i = some im → im.rw = true := by
  rcases h i hi hw with ⟨cs, t, hg⟩ | ⟨r, hg⟩ | ⟨es, clk, hg⟩ | ⟨ds, hg⟩
  · refine ⟨hi, _, hg, trivial, fun im him => ?_⟩
    obtain ⟨im', him', hor⟩ := hok.rel i _ hi hg trivial
    rw [him] at him'; cases him'
    rcases hor with ⟨_, h, _⟩ | ⟨h, _⟩
    · exact h
    · exact absurd rfl h
  all_goals
    refine ⟨hi, _, hg, trivial, fun im him => ?_⟩
    obtain ⟨im', him', hor⟩ := hok.rel i _ hi hg trivial
    rw [him] at him'; cases him'
    exact hor.1
def headR (ro : Option Nat) (f : FuncId) (len : Nat) (live : List (Nat × Value)) (d : Nat → Value) (todo : List Item) : CF := ⟨f, mkT len live d, todo, [], .run, ro⟩
def headA (Hb : Heap) (a : Nat) (ws : Heap) (os : List Obj) : Heap := ws ++ ((a, regO) :: (heapL (a + 1) os ++ Hb))
def posA (a : Nat) (olds : List Nat) (k : Nat) : Option Nat := bif Nat.blt k a then some k else posOf olds (a + 1) k
def coWs (H : Heap) (m : Nat) (pos : Nat → Option Nat) (fz : List Fz) : List (Nat × KS) → Option (Heap × List Prop)
  | [] => some ([], [])
  | (k, s) :: l => match coO H m pos fz (hget H k) s with
    | some (o, L) => match coWs H m pos fz l with
      | some (os, L2) => some ((k, o) :: os, L ++ L2)
      | none => none
    | none => none
theorem coWs_get {H : Heap} {m : Nat} {pos : Nat → Option Nat} {fz : List Fz} : ∀ (l : List (Nat × KS)) (ws : Heap) (L : List Prop), coWs H m pos fz l = some (ws, L) → ∀ i, (hget ws i = none ↔ i ∉ l.map (·.1)) ∧ ∀ o, hget ws i = some o → ∃ s L1, coO H m pos fz (hget H i) s = some (o, L1) ∧ (AllP L → AllP L1)
  | [], ws, L, h, i => by
    simp only [coWs, Option.some.injEq, Prod.mk.injEq] at h
    obtain ⟨rfl, rfl⟩ := h
    simp [hget]
  | (k, s) :: l, ws, L, h, i => by
    simp only [coWs] at h
    split at h
    · rename_i t L1 h1
      split at h
      · rename_i ts2 L2 h2
        simp only [Option.some.injEq, Prod.mk.injEq] at h
        obtain ⟨rfl, rfl⟩ := h
        obtain ⟨k1, k2⟩ := coWs_get l ts2 L2 h2 i
        rw [hget_cons]
        by_cases e : i = k
        · subst e
          simp only [if_true, List.map_cons, List.mem_cons, true_or, not_true_eq_false, iff_false]
          exact ⟨by simp, fun o ho => by cases ho; exact ⟨s, L1, h1, fun h => (allP_append h).1⟩⟩
        · rw [if_neg e]
          refine ⟨by rw [k1]; simp [e], fun o ho => ?_⟩
          obtain ⟨s', L', a, b⟩ := k2 o ho
          exact ⟨s', L', a, fun h => b (allP_append h).2⟩
      · cases h
    · cases h
structure LandA where
  fn : FuncId
  len : Nat
  todo : List Item
  defers : List Nat
  mode : CM
  roundOf : Option Nat
  vals : List Value
  ws : Heap
  objs : List Obj
  L : List Prop
def sideA (a : Nat) (H : Heap) (W : List Nat) (wks keeps : List (Nat × KS)) (fz : List Fz) : Bool :=
  (W.all fun i => (wks.map (·.1)).contains i) && (wks.all fun k => Nat.blt k.1 a) && distinct (keeps.map (·.1)) && (keeps.all fun k => Nat.ble a k.1) && (fz.all fun x => Nat.ble a x.k && ownB (hget H x.k) && (keeps.all fun k => !(Nat.beq k.1 x.k)))
def landA (a : Nat) (s : Option ST) (slots : List Nat) (wks keeps : List (Nat × KS)) (fz : List Fz) : Option LandA := match s with
  | some ⟨.at c H n, W, L⟩ => bif sideA a H W wks keeps fz then
      match coL (coV H a (posA a (keeps.map (·.1))) fz 4) (slots.map (tget c.tmps)), coWs H a (posA a (keeps.map (·.1))) fz wks, coObjs H a (posA a (keeps.map (·.1))) fz keeps with
      | some (vs, L1), some (ws, L3), some (os, L2) => some ⟨c.fn, c.tmps.len, c.todo, c.defers, c.mode, c.roundOf, vs, ws, os, L1 ++ (L3 ++ (L2 ++ L))⟩
      | _, _, _ => none
    else none
  | _ => none
section
variable {P : Program} {F : FuncId → Bool} {J : World → Prop} {B : Lo} {c0 c : CF} {Hb H : Heap} {a n : Nat} {W Wf : List Nat}
theorem GoE.widen (h : GoE P B c0 Hb a c H n W) (hW : ∀ i, i < a → i ∈ W → i ∈ Wf) (hw : Writable Hb a Wf) : GoE P B c0 Hb a c H n Wf :=
  ⟨h.under, h.le, fun Z μ w fr cs hok hB hf hfr => by
    obtain ⟨fr', w', μ', hp, r⟩ := h.sem Z μ w fr cs hok hB hf hfr
    exact ⟨fr', w', μ', hp.widen hok hW fun i hi hiW => hw.rw hok hi hiW, r⟩⟩
theorem headA_get {ws : Heap} {os : List Obj} (i : Nat) : hget (headA Hb a ws os) i = match hget ws i with
    | some o => some o
    | none => if i = a then some regO else if a < i ∧ i < a + 1 + os.length then os[i - (a + 1)]? else hget Hb i := by
  unfold headA
  rw [hget_append]
  cases hget ws i with
  | some o => rfl
  | none =>
    simp only
    rw [hget_cons]
    by_cases e : i = a
    · rw [if_pos e, if_pos e]
    · rw [if_neg e, if_neg e, hget_append, heapL_get]
      by_cases h1 : a + 1 ≤ i
      · rw [if_pos h1]
        by_cases h2 : i < a + 1 + os.length
        · rw [if_pos ⟨by omega, h2⟩]
          have : i - (a + 1) < os.length := by omega
          simp [this]
        · rw [if_neg (by omega), List.getElem?_eq_none (by omega)]
      · rw [if_neg h1, if_neg (by omega)]
theorem under_headA {ws : Heap} {os : List Obj} (hu : Under Hb a) (hws : ∀ i o, hget ws i = some o → i < a) : Under (headA Hb a ws os) (a + 1 + os.length) := fun i hi => by
  rw [headA_get]
  cases hg : hget ws i with
  | some o => have := hws i o hg; omega
  | none => simp only; rw [if_neg (by omega), if_neg (by omega)]; exact hu i (by omega)
theorem merge_core {n' : Nat} {H' : Heap} {μ μ' : Mu} {w w' : World} {W' : List Nat} {wks keeps : List (Nat × KS)} {fz : List Fz} {ws : Heap} {os : List Obj} {L2 L3 : List Prop} (hu : Under Hb a) (hw : Writable Hb a (wks.map (·.1))) (hu' : Under H' n') (hq : sideA a H' W' wks keeps fz = true)
    (hok : Ok B.B (fun i => i < a) μ (hget Hb) w) (hf : ∀ i, a ≤ i → μ i = none) (hp : Post B.B (fun i => i < a) a n' (wks.map (·.1)) μ μ' Hb H' w w')
    (hws : coWs H' a (posA a (keeps.map (·.1))) fz wks = some (ws, L3)) (hos : coObjs H' a (posA a (keeps.map (·.1))) fz keeps = some (os, L2)) (hL3 : AllP L3) (hL2 : AllP L2) :
    ∃ μ1 im1, CoOk H' a (posA a (keeps.map (·.1))) fz μ' μ1 w' n' (fz.map (·.k)) im1 ∧ Post B.B (fun i => i < a) a (a + 1 + os.length) (wks.map (·.1)) μ μ1 Hb (headA Hb a ws os) w w' ∧ (∀ i, a + 1 + os.length ≤ i → μ1 i = none) ∧ (∀ i o, hget ws i = some o → i < a) := by
  unfold sideA at hq
  simp only [Bool.and_eq_true] at hq
  obtain ⟨⟨⟨⟨hW, hwlt⟩, hdist⟩, hge⟩, hfz⟩ := hq
  have wlt : ∀ i, i ∈ wks.map (·.1) → i < a := fun i hi => by
    obtain ⟨k, hk, rfl⟩ := List.mem_map.1 hi
    exact Nat.le_of_ble_eq_true (List.all_eq_true.1 hwlt k hk)
  have wsget := coWs_get wks ws L3 hws
  have wslt : ∀ i o, hget ws i = some o → i < a := fun i o ho => by
    refine wlt i (Decidable.of_not_not fun e => ?_)
    have := (wsget i).1.2 e
    rw [this] at ho; cases ho
  have hlenos := (coObjs_get keeps os L2 hos).1
  let ρ : Nat → Nat := fun i => if i < a then i else ((keeps.map (·.1))[i - (a + 1)]?).getD i
  have hρ : ∀ i k, a + 1 ≤ i → (keeps.map (·.1))[i - (a + 1)]? = some k → ρ i = k := fun i k hi hk => by
    show (if i < a then i else ((keeps.map (·.1))[i - (a + 1)]?).getD i) = k
    rw [if_neg (by omega), hk]; rfl
  have hρlow : ∀ i, i < a → ρ i = i := fun i hi => by
    show (if i < a then i else ((keeps.map (·.1))[i - (a + 1)]?).getD i) = i
    rw [if_pos hi]
  have get : ∀ i, a < i → i < a + 1 + os.length → ∃ k, (keeps.map (·.1))[i - (a + 1)]? = some k ∧ ρ i = k ∧ a ≤ k := by
    intro i h1 h2
    have hlt : i - (a + 1) < keeps.length := by omega
    refine ⟨(keeps[i - (a + 1)]).1, by simp [hlt], hρ i _ (by omega) (by simp [hlt]), ?_⟩
    exact Nat.le_of_ble_eq_true (List.all_eq_true.1 hge _ (List.getElem_mem hlt))
  let im1 : Img := ⟨0, 0, 0, false, fmU μ' H' w' (regsL H' n' ++ fz.map (·.k))⟩
  let μ1 := muM a (a + 1 + os.length) ρ μ μ' (fmU μ' H' w' (regsL H' n' ++ fz.map (·.k)))
  have hco : CoOk H' a (posA a (keeps.map (·.1))) fz μ' μ1 w' n' (fz.map (·.k)) im1 := by
    refine ⟨⟨B.B, _, hp.ok, fun i hi => ?_⟩, hu', fun k j hj => ?_, ?_, rfl, fun x hx => List.mem_map.2 ⟨x, hx, rfl⟩⟩
    · rcases Nat.lt_or_ge i a with h | h
      · exact .inl h
      · exact .inr ⟨h, hi⟩
    · unfold posA at hj
      cases hb : Nat.blt k a with
      | true =>
        rw [hb] at hj
        simp only [cond_true, Option.some.injEq] at hj
        subst hj
        have hlt : k < a := Nat.le_of_ble_eq_true hb
        show muM a (a + 1 + os.length) ρ μ μ' _ k = μ' k
        unfold muM
        rw [if_neg (by omega), if_neg (by omega), hp.ext k (by omega)]
      | false =>
        rw [hb] at hj
        obtain ⟨h1, h2⟩ := posOf_spec _ _ _ _ hj
        have hlt : j - (a + 1) < keeps.length := by
          have := (List.getElem?_eq_some_iff.1 h2).1
          simpa using this
        show muM a (a + 1 + os.length) ρ μ μ' _ j = μ' k
        unfold muM
        rw [if_neg (by omega), if_pos ⟨by omega, by omega⟩, hρ j k h1 h2]
    · show muM a (a + 1 + os.length) ρ μ μ' _ a = some im1
      unfold muM
      rw [if_pos rfl]
  have hkeeps : KeepsM a n' (a + 1 + os.length) (wks.map (·.1)) μ μ' Hb H' (headA Hb a ws os) w' ρ (fz.map (·.k)) := by
    refine ⟨by omega, hρlow, fun i h1 h2 => ?_, fun i j h1 h2 h3 h4 h5 => ?_, under_headA hu wslt, fun i hi hn => ?_, ?_, fun i o1 hi hc ho => ?_, fun k hk => ?_⟩
    · obtain ⟨k, hk, hk2, hk3⟩ := get i h1 h2
      refine ⟨by omega, ?_⟩
      rw [hk2]
      have hlt : i - (a + 1) < os.length := by omega
      obtain ⟨k', s, L', ha, hb, hc⟩ := (coObjs_get keeps os L2 hos).2 (i - (a + 1)) os[i - (a + 1)] (by simp [hlt])
      have : k' = k := by
        rw [List.getElem?_map, ha] at hk
        simpa using hk
      subst this
      obtain ⟨⟨x, hx⟩, _⟩ := coO_sound hco hb (hc hL2)
      exact hu'.lt hx
    · obtain ⟨k, hk, hk2, _⟩ := get i h1 h2
      obtain ⟨k', hk', hk2', _⟩ := get j h3 h4
      rw [hk2, hk2'] at h5
      subst h5
      have := distinct_inj hdist _ _ _ hk hk'
      omega
    · rw [headA_get, (wsget i).1.2 hn]
      simp only
      rw [if_neg (by omega), if_neg (by omega)]
    · rw [headA_get]
      cases hg : hget ws a with
      | some o => have := wslt a o hg; omega
      | none => simp
    · rcases hc with h1i | ⟨hin, hlt⟩
      · rw [headA_get] at ho
        have hn : hget ws i = none := by
          cases hg : hget ws i with
          | none => rfl
          | some o => have := wslt i o hg; omega
        rw [hn] at ho
        simp only at ho
        rw [if_neg (by omega), if_pos ⟨h1i, hi⟩] at ho
        obtain ⟨k, s, L', ha, hb, hc'⟩ := (coObjs_get keeps os L2 hos).2 (i - (a + 1)) o1 ho
        obtain ⟨_, hnr, hli⟩ := coO_sound hco hb (hc' hL2)
        refine ⟨hnr, fun hl1 => ?_⟩
        obtain ⟨x, hx, hl, hor⟩ := hli hl1
        refine ⟨x, ?_, hl, fun im _ h => hor im h⟩
        rw [hρ i k (by omega) (by rw [List.getElem?_map, ha]; rfl)]
        exact hx
      · cases hg : hget ws i with
        | none => exact absurd hin ((wsget i).1.1 hg)
        | some o =>
          rw [headA_get, hg] at ho
          simp only [Option.some.injEq] at ho
          subst ho
          obtain ⟨s, L1, h1, h2⟩ := (wsget i).2 o hg
          obtain ⟨_, hnr, hli⟩ := coO_sound hco h1 (h2 hL3)
          refine ⟨hnr, fun hl1 => ?_⟩
          obtain ⟨x, hx, hl, hor⟩ := hli hl1
          exact ⟨x, by rw [hρlow i hlt]; exact hx, hl, fun im _ h => hor im h⟩
    · obtain ⟨x, hx, rfl⟩ := List.mem_map.1 hk
      have := List.all_eq_true.1 hfz x hx
      simp only [Bool.and_eq_true] at this
      obtain ⟨⟨q1, q2⟩, q3⟩ := this
      have hown : ∃ o, hget H' x.k = some o ∧ live o := by
        unfold ownB at q2
        split at q2
        · rename_i ho; exact ⟨_, ho, trivial⟩
        · cases q2
      obtain ⟨o, ho, hl⟩ := hown
      refine ⟨Nat.le_of_ble_eq_true q1, hu'.lt ho, ⟨o, ho, hl⟩, fun i h1 h2 hr => ?_⟩
      obtain ⟨k, hk, hk2, _⟩ := get i h1 h2
      rw [hk2] at hr
      rw [List.getElem?_map] at hk
      cases hy : keeps[i - (a + 1)]? with
      | none => rw [hy] at hk; cases hk
      | some y =>
        rw [hy] at hk
        simp only [Option.map_some, Option.some.injEq] at hk
        have := List.all_eq_true.1 q3 y (List.mem_of_getElem? hy)
        rw [hk, hr] at this
        simp at this
  refine ⟨μ1, im1, hco, hp.merge hok hf hkeeps, fun i hi => ?_, wslt⟩
  show muM a (a + 1 + os.length) ρ μ μ' _ i = none
  unfold muM
  rw [if_neg (by omega), if_neg (by omega)]
  exact hf i (by omega)
theorem GoE.landA (hF : ∀ g, F g = true → okFn P g = true) (hJ : ∀ w, B.has w → J w) (hmix : P.follows .mixedOrders = true) {wks : List (Nat × KS)} (hu : Under Hb a) (hw : Writable Hb a (wks.map (·.1))) (h : GoE P B c0 Hb a c H n (wks.map (·.1))) {fuel : Nat} {sc : ScriptT} {f : FuncId} {len : Nat} {todo : List Item} {ro : Option Nat} {slots : List Nat} {keeps : List (Nat × KS)} {fz : List Fz} {vs : List Value} {ws : Heap} {os : List Obj} {L : List Prop}
    (e : CE.landA a (srunT P F J B fuel a c H n sc 0 [] []) slots wks keeps fz = some ⟨f, len, todo, [], .run, ro, vs, ws, os, L⟩) (hL : AllP L) (hlen : Nat.ble len 16000 = true) (hplain : todo.all plainItem = true) (hro : ∀ l, ro = some l → l < a) :
    ∃ d : Nat → Value, (∀ t, Loose (d t)) ∧ GoE P B c0 Hb a (headR ro f len (slots.zip vs) d todo) (headA Hb a ws os) (a + 1 + os.length) (wks.map (·.1)) := by
  unfold CE.landA at e
  split at e
  · rename_i c' H' n' W' L' hs
    cases hq : sideA a H' W' wks keeps fz with
    | false => rw [hq] at e; cases e
    | true =>
      rw [hq] at e
      simp only [cond_true] at e
      split at e
      · rename_i vs0 L1 ws0 L3 os0 L2 hvs hws hos
        simp only [Option.some.injEq, LandA.mk.injEq] at e
        obtain ⟨e1, e2, e3, e4, e5, e6, rfl, rfl, rfl, rfl⟩ := e
        obtain ⟨hL1, hLr⟩ := allP_append hL
        obtain ⟨hL3, hLr⟩ := allP_append hLr
        obtain ⟨hL2, hL4⟩ := allP_append hLr
        obtain ⟨R, W2, hgo, hiff⟩ := srunT_sound hF hJ hmix fuel a c H n sc 0 [] [] _ h.under hs hL4
        have hg := (h.step hgo).widen (Wf := wks.map (·.1)) (fun i hi hm => by
          rcases List.mem_append.1 hm with hm | hm
          · exact hm
          · have hi' : i ∈ W' := (hiff i hi).2 (.inr hm)
            unfold sideA at hq
            simp only [Bool.and_eq_true] at hq
            simpa using List.all_eq_true.1 hq.1.1.1.1 i hi') hw
        have hd : ∀ t, ∃ d, Loose d ∧ ∀ μ v', VR μ (tget c'.tmps t) v' → VR μ d v' := fun t => forget_ex _
        have wslt : ∀ i o, hget ws0 i = some o → i < a := fun i o ho => by
          have hq' := hq
          unfold sideA at hq'
          simp only [Bool.and_eq_true] at hq'
          have hin : i ∈ wks.map (·.1) := Decidable.of_not_not fun e => by
            have := (coWs_get wks ws0 L3 hws i).1.2 e
            rw [this] at ho; cases ho
          obtain ⟨k, hk, rfl⟩ := List.mem_map.1 hin
          exact Nat.le_of_ble_eq_true (List.all_eq_true.1 hq'.1.1.1.2 k hk)
        refine ⟨fun t => Classical.choose (hd t), fun t => (Classical.choose_spec (hd t)).1, under_headA hu wslt, by omega, fun Z μ w fr cs hok hB hf hfr => ?_⟩
        obtain ⟨fr', w', μ', hp, hfr', ha, hb, hst⟩ := hg.sem Z μ w fr cs hok hB hf hfr
        obtain ⟨μ1, im1, hco, hpost, hfree, _⟩ := merge_core hu hw hg.under hq hok hf hp hws hos hL3 hL2
        have hpans : c'.mode.pans = false := by rw [e5]; rfl
        refine ⟨fr', w', μ1, hpost, ⟨by rw [hfr'.fn, e1]; rfl, ?_, fun _ => (e3 ▸ hfr'.todo hpans).plain hplain, ?_, ?_, hfr'.kind, ?_⟩, ha, hb, hst⟩
        · refine hfr'.tmps.merge e2 (Nat.le_of_ble_eq_true hlen) (fun p hp v' hv => ?_) fun t => Classical.choose_spec (hd t)
          obtain ⟨i, hi⟩ := List.getElem?_of_mem hp
          rw [List.getElem?_zip_eq_some] at hi
          obtain ⟨hi1, hi2⟩ := hi
          obtain ⟨u, L', ha, hb, hc⟩ := (coL_get _ _ _ hvs).2 i p.2 hi2
          rw [List.getElem?_map, hi1] at ha
          simp only [Option.map_some, Option.some.injEq] at ha
          subst ha
          exact coV_sound hco 4 _ _ _ _ hb (hc hL1) hv
        · have := hfr'.defers
          rw [e4] at this
          exact .of_empty this.empty
        · have := hfr'.mode
          rw [e5] at this
          generalize fr'.mode = ds at this
          cases this
          exact .run
        · have := hfr'.round
          rw [e6] at this
          show RoR μ1 ro fr'.roundOf
          generalize fr'.roundOf = x at this
          cases ro with
          | none =>
            cases x with
            | none => trivial
            | some x => cases this
          | some l =>
            cases x with
            | none => cases this
            | some x =>
              obtain ⟨im, h1, h2⟩ := this
              have hl := hro l rfl
              refine ⟨im, ?_, h2⟩
              rw [hpost.ext l (by omega)]
              rw [hp.ext l (by omega)] at h1
              exact h1
      · cases e
  · cases e
def lowS (a : Nat) (v : Value) : Bool := simple v || match v with
  | .func (.via r ⟨[]⟩ 0 true) ⟨[_]⟩ ⟨[]⟩ => Nat.blt r a
  | .pointer (some ⟨k, _, none⟩) => Nat.blt k a
  | .slice (some ⟨k, _, none⟩) _ _ => Nat.blt k a
  | .map (some r) => Nat.blt r a
  | .func (.yield l) ⟨[]⟩ ⟨[]⟩ => Nat.blt l a
  | .chan none => true
  | _ => false
def lowV (a : Nat) : Nat → Value → Bool
  | 0, v => lowS a v
  | f + 1, v => match v with
    | .agg xs => xs.all (lowV a f)
    | .tuple xs => xs.all (lowV a f)
    | .iface _ x => lowV a f x
    | .func (.func _) xs ys => xs.all (lowV a f) && ys.all (lowV a f)
    | v => lowS a v
section
variable {μ μ0 : Mu} (hμ : ∀ b, b < a → μ0 b = μ b)
include hμ
theorem lowS_VR {v v' : Value} (h : lowS a v = true) (hv : VR μ v v') : VR μ0 v v' := by
  unfold lowS at h
  cases hs : simple v with
  | true => rw [simple_eq hs hv]; exact vr_simple hs
  | false =>
    rw [hs] at h
    simp only [Bool.false_or] at h
    have lt : ∀ {k}, Nat.blt k a = true → μ0 k = μ k := fun h => hμ _ (Nat.le_of_ble_eq_true h)
    split at h
    · cases hv with
      | top h1 h2 h3 => exact .top h1 (by rw [lt h]; exact h2) h3
    · cases hv with
      | ptr har =>
        obtain ⟨im, h1, h2, h3⟩ := har
        exact .ptr ⟨im, by rw [lt h]; exact h1, h2, h3⟩
    · cases hv with
      | slice har x y z =>
        obtain ⟨im, h1, h2, h3⟩ := har
        exact .slice ⟨im, by rw [lt h]; exact h1, h2, h3⟩ x y fun hz im' him' => z hz im' (by rw [← lt h]; exact him')
    · cases hv with
      | map hr => exact .map (by rw [lt h]; exact hr)
    · cases hv with
      | yield hr => exact .yield (by rw [lt h]; exact hr)
    · cases hv with
      | junk x y z => exact .junk x y z
    · cases h
theorem lowV_VR : ∀ (f : Nat) (v v' : Value), lowV a f v = true → VR μ v v' → VR μ0 v v'
  | 0, v, v', h, hv => lowS_VR hμ h hv
  | f + 1, v, v', h, hv => by
    have arr : ∀ {xs xs' : Array Value}, xs.all (lowV a f) = true → (∀ (i : Nat) v v', xs[i]? = some v → xs'[i]? = some v' → VR μ v v') → ∀ (i : Nat) v v', xs[i]? = some v → xs'[i]? = some v' → VR μ0 v v' :=
      fun ha hx i v v' h1 h2 => lowV_VR f v v' (Array.all_eq_true'.1 ha v (Array.mem_of_getElem? h1)) (hx i v v' h1 h2)
    cases v with
    | agg xs => cases hv with | agg h1 h2 => exact .agg h1 (arr h h2)
    | tuple xs => cases hv with | tuple h1 h2 => exact .tuple h1 (arr h h2)
    | iface t x => cases hv with | iface hv => exact .iface (lowV_VR f x _ h hv)
    | func fn xs ys =>
      cases fn with
      | func g =>
        have h : (xs.all (lowV a f) && ys.all (lowV a f)) = true := h
        simp only [Bool.and_eq_true] at h
        cases hv with
        | func h1 h2 h3 h4 => exact .func h1 h2 (arr h.1 h3) (arr h.2 h4)
      | _ => exact lowS_VR hμ (by exact h) hv
    | _ => exact lowS_VR hμ (by exact h) hv
end
theorem low_slots {μ μ0 : Mu} (hμ : ∀ b, b < a → μ0 b = μ b) {T : Tm} {A : Array Value} (hl : ∀ t, lowV a 4 (tget T t) = true ∨ Loose (tget T t)) (h : TR μ T A) : TR μ0 T A := ⟨h.1, fun t => (hl t).elim (fun h1 => lowV_VR hμ 4 _ _ h1 (h.2 t)) fun h1 => h1 _ _ _ (h.2 t)⟩
theorem FrR.low {μ μ0 : Mu} {fr : Frame} (hμ : ∀ b, b < a → μ0 b = μ b) (hs : ∀ t, lowV a 4 (tget c.tmps t) = true ∨ Loose (tget c.tmps t)) (hp : c.todo.all plainItem = true) (hd : c.defers = []) (hm : c.mode = .run) (hr : ∀ l, c.roundOf = some l → l < a) (h : FrR Bot.no μ c fr) : FrR Bot.no μ0 c fr := by
  have hpans : c.mode.pans = false := by rw [hm]; rfl
  refine ⟨h.fn, low_slots hμ hs h.tmps, fun _ => (h.todo hpans).plain hp, ?_, ?_, h.kind, ?_⟩
  · have := h.defers
    rw [hd] at this ⊢
    exact .of_empty this.empty
  · have := h.mode
    rw [hm] at this ⊢
    generalize fr.mode = ds at this ⊢
    cases this
    exact .run
  · have := h.round
    generalize fr.roundOf = x at this ⊢
    cases hro : c.roundOf with
    | none =>
      rw [hro] at this
      cases x with
      | none => trivial
      | some x => cases this
    | some l =>
      rw [hro] at this
      cases x with
      | none => cases this
      | some x =>
        obtain ⟨im, h1, h2⟩ := this
        exact ⟨im, by rw [hμ l (hr l hro)]; exact h1, h2⟩
def LV (a : Nat) (v : Value) : Prop := lowV a 4 v = true ∨ Loose v
theorem LV.vr {μ μ0 : Mu} {v v' : Value} (hμ : ∀ b, b < a → μ0 b = μ b) (h : LV a v) (hv : VR μ v v') : VR μ0 v v' := h.elim (fun h => lowV_VR hμ 4 _ _ h hv) fun h => h _ _ _ hv
def LowO (a : Nat) : Obj → Prop
  | .cells cs _ _ => ∀ (i : Nat) v, cs[i]? = some v → LV a v
  | .map es _ => ∀ (i : Nat) e, es[i]? = some e → LV a e.val
  | .loop l => ∀ (i : Nat) v, l.tmps[i]? = some v → LV a v
  | _ => True
theorem OR.low {μ μ0 : Mu} {w : World} {im : Img} {o : Obj} (hμ : ∀ b, b < a → μ0 b = μ b) (hl : LowO a o) (h : OR μ w im o) : OR μ0 w im o := by
  cases o with
  | cells cs t fz =>
    rcases h with ⟨h1, h2, h3, arr, h4, h5, h6, h7⟩ | ⟨h1, h2, h8⟩
    · exact .inl ⟨h1, h2, h3, arr, h4, h5, h6, fun i v hv => by
        obtain ⟨v', a1, b1⟩ := h7 i v hv
        exact ⟨v', a1, (hl i v hv).vr hμ b1⟩⟩
    · exact .inr ⟨h1, fun i v hv => by
        obtain ⟨v', a1, b1⟩ := h2 i v hv
        exact ⟨v', a1, (hl i v hv).vr hμ b1⟩, h8⟩
  | map es clk =>
    obtain ⟨h1, es', h2, h3, h4⟩ := h
    exact ⟨h1, es', h2, h3, fun i e e' he he' => by
      obtain ⟨x, y, z, u⟩ := h4 i e e' he he'
      exact ⟨x, y, z, (hl i e he).vr hμ u⟩⟩
  | loop l =>
    obtain ⟨h1, tm, df, h2, h3⟩ := h
    exact ⟨h1, tm, df, h2, h3.1, fun i v v' hv hv' => (hl i v hv).vr hμ (h3.2 i v v' hv hv')⟩
  | deferred ds => exact h
  | pending x y => trivial
  | _ => exact h
def lowOb (a : Nat) : Obj → Bool
  | .cells cs _ _ => cs.toList.all (lowV a 4)
  | .map es _ => es.toList.all fun e => lowV a 4 e.val
  | .loop l => l.tmps.toList.all (lowV a 4)
  | _ => true
theorem lowOb_ok {a : Nat} {o : Obj} (h : lowOb a o = true) : LowO a o := by
  cases o with
  | cells cs t fz => exact fun i v hv => .inl (List.all_eq_true.1 h v (Array.mem_toList_iff.2 (Array.mem_of_getElem? hv)))
  | map es clk => exact fun i e he => .inl (List.all_eq_true.1 h e (Array.mem_toList_iff.2 (Array.mem_of_getElem? he)))
  | loop l => exact fun i v hv => .inl (List.all_eq_true.1 h v (Array.mem_toList_iff.2 (Array.mem_of_getElem? hv)))
  | _ => exact trivial
theorem hget_in : ∀ {H : Heap} {i : Nat} {o : Obj}, hget H i = some o → (i, o) ∈ H
  | [], _, _, h => by cases h
  | (k, x) :: l, i, o, h => by
    rw [hget_cons] at h
    split at h
    · rename_i e; cases h; subst e; exact List.mem_cons_self
    · exact List.mem_cons_of_mem _ (hget_in h)
theorem under_all {H : Heap} {n : Nat} (h : (H.all fun p => Nat.blt p.1 n) = true) : Under H n := fun i hi => by
  cases hg : hget H i with
  | none => rfl
  | some o => have := Nat.le_of_ble_eq_true (List.all_eq_true.1 h _ (hget_in hg)); simp at this; omega
end
end Go.CE
