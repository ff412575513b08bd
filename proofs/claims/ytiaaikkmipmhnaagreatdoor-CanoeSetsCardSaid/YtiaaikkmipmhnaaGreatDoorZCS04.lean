/- CE: frames. Second part: that the canonical machine does what the machine does: one operation, with its calls. -/
import Derived.Test.YtiaaikkmipmhnaaGreatDoorZCS03
import Derived.RangeFuncRecord
import Derived.Tactics
import Derived.RangeFuncNested
set_option linter.all false
namespace Go.CE
open Go Go.RowKit

inductive IR (μ : Mu) : Item → Item → Prop
  | code (c) : IR μ (.code c) (.code c)
  | inBlock (id) : IR μ (.inBlock id) (.inBlock id)
  | inLoop (c) : IR μ (.inLoop c) (.inLoop c)
  | inScope (c) : IR μ (.inScope c) (.inScope c)
  | beginRound : IR μ .beginRound .beginRound
  | endRF {l im} : μ l = some im → IR μ (.endRangeFunc l) (.endRangeFunc im.blk)
inductive TodoR (μ : Mu) : List Item → List Item → Prop
  | nil : TodoR μ [] []
  | cons {x x' l l'} : IR μ x x' → TodoR μ l l' → TodoR μ (x :: l) (x' :: l')
theorem IR.mono {μ μ' : Mu} (e : Ext μ μ') {x x' : Item} (h : IR μ x x') : IR μ' x x' := by
  cases h with
  | code c => exact .code c
  | inBlock id => exact .inBlock id
  | inLoop c => exact .inLoop c
  | inScope c => exact .inScope c
  | beginRound => exact .beginRound
  | endRF h => exact .endRF (e _ _ h)
theorem TodoR.mono {μ μ' : Mu} (e : Ext μ μ') {l l' : List Item} (h : TodoR μ l l') : TodoR μ' l l' := by
  induction h with
  | nil => exact .nil
  | cons h _ ih => exact .cons (h.mono e) ih
inductive DfR (μ : Mu) : List Nat → List Deferred → Prop
  | nil : DfR μ [] []
  | cons {d im l l'} : μ d = some im → DfR μ l l' → DfR μ (d :: l) ({ target := .collected im.blk, args := #[] } :: l')
theorem DfR.mono {μ μ' : Mu} (e : Ext μ μ') {l : List Nat} {l' : List Deferred} (h : DfR μ l l') : DfR μ' l l' := by
  induction h with
  | nil => exact .nil
  | cons h _ ih => exact .cons (e _ _ h) ih
inductive MR (μ : Mu) : CM → FrameMode → Prop
  | run : MR μ .run .run
  | ret : MR μ .ret .returning
  | pan {v v'} : VR μ v v' → MR μ (.pan v) (.panicking [{ v := v', recovered := false }])
theorem MR.mono {μ μ' : Mu} (e : Ext μ μ') {m : CM} {m' : FrameMode} (h : MR μ m m') : MR μ' m m' := by
  cases h with
  | run => exact .run
  | ret => exact .ret
  | pan h => exact .pan (h.mono e)
def RoR (μ : Mu) : Option Nat → Option Nat → Prop
  | none, none => True
  | some l, some l' => ∃ im, μ l = some im ∧ im.blk = l'
  | _, _ => False
theorem RoR.mono {μ μ' : Mu} (e : Ext μ μ') {a b : Option Nat} (h : RoR μ a b) : RoR μ' a b := by
  cases a <;> cases b <;> first | exact h | skip
  obtain ⟨im, h1, h2⟩ := h
  exact ⟨im, e _ _ h1, h2⟩
def CM.pans : CM → Bool
  | .pan _ => true
  | _ => false
structure Bot where
  D : List Deferred
  kd : CallKind
def Bot.no : Bot := ⟨[], .normal⟩
def DfB (Z : Bot) (μ : Mu) (l : List Nat) (l' : List Deferred) : Prop := ∃ L, DfR μ l L ∧ l' = L ++ Z.D
theorem DfB.mono {Z : Bot} {μ μ' : Mu} {l : List Nat} {l' : List Deferred} (h : DfB Z μ l l') (e : Ext μ μ') : DfB Z μ' l l' := let ⟨L, h1, h2⟩ := h; ⟨L, h1.mono e, h2⟩
theorem DfB.empty {Z : Bot} {μ : Mu} {l' : List Deferred} (h : DfB Z μ [] l') : l' = Z.D := by
  obtain ⟨L, h1, h2⟩ := h
  cases h1
  simpa using h2
theorem DfB.of_empty {Z : Bot} {μ : Mu} {l' : List Deferred} (h : l' = Z.D) : DfB Z μ [] l' := ⟨[], .nil, by simpa using h⟩
theorem DfB.cons_inv {Z : Bot} {μ : Mu} {d : Nat} {l : List Nat} {l' : List Deferred} (h : DfB Z μ (d :: l) l') : ∃ im l2, μ d = some im ∧ l' = { target := .collected im.blk, args := #[] } :: l2 ∧ DfB Z μ l l2 := by
  obtain ⟨L, h1, h2⟩ := h
  cases h1 with
  | cons a b => exact ⟨_, _, a, h2, _, b, rfl⟩
structure FrR (Z : Bot) (μ : Mu) (c : CF) (fr : Frame) : Prop where
  fn : fr.fn = c.fn
  tmps : TR μ c.tmps fr.tmps
  todo : c.mode.pans = false → TodoR μ c.todo fr.todo
  defers : DfB Z μ c.defers fr.defers
  mode : MR μ c.mode fr.mode
  kind : fr.kind = Z.kd
  round : RoR μ c.roundOf fr.roundOf
theorem OR2.mono {μ μ' : Mu} (e : Ext μ μ') {a b : OO} (h : OR2 μ a b) : OR2 μ' a b := by
  cases h with
  | ret h => exact .ret (h.mono e)
  | pan h => exact .pan (h.mono e)
def OO.ending : OO → Ending
  | .ret v => .returned v
  | .pan v => .panicked [{ v, recovered := false }]
def EndsAs (P : Program) (fr : Frame) (cs : List Frame) (w : World) (out : OO) (w' : World) : Prop :=
  (fr.roundOf = none → ∃ frE, Steps P (lone fr cs w) (lone frE cs w') ∧ frE.fn = fr.fn ∧ frE.leaving P w' out.ending) ∧
  (∀ c cs', cs = c :: cs' → Steps P (lone fr cs w) (lone (out.on c) cs' w'))
theorem EndsAs.of_steps {P : Program} {fr fr1 : Frame} {cs : List Frame} {w w1 w' : World} {out : OO} (h : Steps P (lone fr cs w) (lone fr1 cs w1)) (hr : fr1.roundOf = fr.roundOf) (hf : fr1.fn = fr.fn) (k : EndsAs P fr1 cs w1 out w') : EndsAs P fr cs w out w' := by
  refine ⟨fun hn => ?_, fun c cs' e => h.trans (k.2 c cs' e)⟩
  obtain ⟨frE, a, b, d⟩ := k.1 (hr.trans hn)
  exact ⟨frE, h.trans a, b.trans hf, d⟩
structure FJ (P : Program) (B : Lo) (c : CF) (H : Heap) (n : Nat) (out : OO) (H' : Heap) (n' : Nat) (R W : List Nat) : Prop where
  shape : Shape H n H' n' R W
  sem : ∀ (S : Nat → Prop) (μ : Mu) (w : World) (fr : Frame) (cs : List Frame), Ok B S μ (hget H) w → B.has w → (∀ i, S i → i < n) → Free μ n n' → FrR Bot.no μ c fr → (∀ i ∈ R, i < n → S i) →
    ∃ out' w' μ', Post B S n n' W μ μ' H H' w w' ∧ OR2 μ' out out' ∧ EndsAs P fr cs w out' w'
def RecS (P : Program) (B : Lo) (rec : CF → Heap → Nat → Option Rs) : Prop :=
  ∀ c H n s, Under H n → rec c H n = some s → FJ P B c H n s.out s.H s.n s.R s.W
def OrcS (P : Program) (B : Lo) (orc : Orc) : Prop :=
  ∀ g args H n s, Under H n → orc g args H n = some s → Shape H n s.H s.n s.R s.W ∧ ∀ (S : Nat → Prop) (μ : Mu) (w : World) (args' : Array Value) (cs : List Frame), Ok B S μ (hget H) w → B.has w → (∀ i, S i → i < n) → Free μ n s.n → VRs μ args args' → (∀ i ∈ s.R, i < n → S i) →
    ∃ out' w' μ', Post B S n s.n s.W μ μ' H s.H w w' ∧ OR2 μ' s.out out' ∧ EndsAs P (Frame.enter P g args' .normal) cs w out' w'
theorem frame_op {P : Program} {fr : Frame} {cs : List Frame} {w : World} {ops : Array Oper} {i : Nat} {rest : List Nat} {k : List Item} {o : Oper} (hm : fr.mode = .run) (ht : fr.todo = .inRegion ops (i :: rest) :: k) (ho : ops[i]? = some o)
    (hw : Region.wanted o (yielded ops fr.tmps) = true) (hd : ∀ c, o.op ≠ .defer c) :
    stepG P true { frame := fr, callers := cs, status := .running, dying := none } w = stepG.apply P true fr cs none (execOp fr.eval o) w := by
  simp only [stepG, hm]
  unfold stepG.exec
  simp only [ht, ho, Option.map_some, hw, Option.getD_some, if_true]
  unfold stepG.oper
  simp only [Frame.oper?, ht, ho]
  cases hr : fr.roundOf with
  | none => rfl
  | some l =>
    cases hop : o.op <;> first | rfl | exact absurd hop (hd _)
section
variable {P : Program} {o : Oper} {w w1 w' : World} {fr : Frame} {cs : List Frame} {ops : Array Oper} {i : Nat} {rest : List Nat} {k : List Item}
theorem opTo_value {v : Value} (hm : fr.mode = .run) (ht : fr.todo = .inRegion ops (i :: rest) :: k) (ho : ops[i]? = some o) (hw : Region.wanted o (yielded ops fr.tmps) = true) (hd : ∀ c, o.op ≠ .defer c)
    (h : (execOp fr.eval o).run P w = .ok (.value v) w') : Steps P (lone fr cs w) (lone ((OO.ret v).on fr) cs w') := by
  refine .one (step_lone_go ?_)
  rw [frame_op hm ht ho hw hd]
  simp [stepG.apply, h, OO.on]
theorem opTo_skip (hm : fr.mode = .run) (ht : fr.todo = .inRegion ops (i :: rest) :: k) (ho : ops[i]? = some o) (hw : Region.wanted o (yielded ops fr.tmps) = true) (hd : ∀ c, o.op ≠ .defer c)
    (h : (execOp fr.eval o).run P w = .ok .skip w') : Steps P (lone fr cs w) (lone ((OO.ret undef).on fr) cs w') := by
  refine .one (step_lone_go ?_)
  rw [frame_op hm ht ho hw hd]
  simp [stepG.apply, h, OO.on]
theorem opTo_panic {v : Value} (hm : fr.mode = .run) (ht : fr.todo = .inRegion ops (i :: rest) :: k) (ho : ops[i]? = some o) (hw : Region.wanted o (yielded ops fr.tmps) = true) (hd : ∀ c, o.op ≠ .defer c)
    (h : (execOp fr.eval o).run P w = .halt (.panic v) w') : Steps P (lone fr cs w) (lone ((OO.pan v).on fr) cs w') := by
  refine .one (step_lone_go ?_)
  rw [frame_op hm ht ho hw hd]
  simp [stepG.apply, h, OO.on]
theorem opTo_enter {f : FuncId} {args : Array Value} {out : OO} (hm : fr.mode = .run) (ht : fr.todo = .inRegion ops (i :: rest) :: k) (ho : ops[i]? = some o) (hw : Region.wanted o (yielded ops fr.tmps) = true) (hd : ∀ c, o.op ≠ .defer c)
    (h : (execOp fr.eval o).run P w = .ok (.enter f args) w1) (q : EndsAs P (Frame.enter P f args .normal) (fr :: cs) w1 out w') : Steps P (lone fr cs w) (lone (out.on fr) cs w') := by
  refine .head (step_lone_go (fr' := Frame.enter P f args .normal) (cs' := fr :: cs) (w' := w1) ?_) (q.2 fr cs rfl)
  rw [frame_op hm ht ho hw hd]
  simp [stepG.apply, h, ht]
theorem opTo_round {l : Nat} {f : FuncId} {tm : Array Value} {a b : Code} {out : OO} (hm : fr.mode = .run) (ht : fr.todo = .inRegion ops (i :: rest) :: k) (ho : ops[i]? = some o) (hw : Region.wanted o (yielded ops fr.tmps) = true) (hd : ∀ c, o.op ≠ .defer c)
    (h : (execOp fr.eval o).run P w = .ok (.round l f tm a b) w1) (q : EndsAs P (Frame.round l f tm a b .normal) (fr :: cs) w1 out w') : Steps P (lone fr cs w) (lone (out.on fr) cs w') := by
  refine .head (step_lone_go (fr' := Frame.round l f tm a b .normal) (cs' := fr :: cs) (w' := w1) ?_) (q.2 fr cs rfl)
  rw [frame_op hm ht ho hw hd]
  simp [stepG.apply, h]
end

theorem ofL_get : ∀ (l : List Value) (i : Nat) (t : Tri) (j : Nat), i + l.length ≤ 16000 → (ofL l i t).get j = if i ≤ j ∧ j < i + l.length then l.getD (j - i) undef else t.get j
  | [], i, t, j, _ => by simp [ofL]; omega
  | v :: l, i, t, j, h => by
    simp only [List.length_cons] at h
    simp only [ofL]
    rw [ofL_get l (i + 1) _ j (by omega), Tri.get_set 14 t i v j (lt14 i (by omega))]
    simp only [List.length_cons]
    by_cases h1 : i + 1 ≤ j ∧ j < i + 1 + l.length
    · rw [if_pos h1, if_pos (by omega)]
      rw [show j - i = (j - (i + 1)) + 1 by omega]
      rfl
    · rw [if_neg h1]
      by_cases h2 : j = i
      · subst h2
        rw [if_pos rfl, if_pos (by omega)]
        simp
      · rw [if_neg h2, if_neg (by omega)]
theorem ofList_TR {μ : Mu} {xs xs' : Array Value} (h : VRs μ xs xs') {m : Nat} (hm : xs.size + (m - xs.size) ≤ 16000) : TR μ (ofList (xs.size + (m - xs.size)) xs.toList) (xs' ++ Array.replicate (m - xs'.size) undef) := by
  refine ⟨by simp [ofList, h.1], fun t => ?_⟩
  simp only [tget, ofList]
  rw [ofL_get _ _ _ _ (by simp; omega)]
  simp only [Nat.zero_le, true_and, Nat.zero_add, Array.length_toList, Nat.sub_zero, Tri.get_lf]
  by_cases ht : t < xs.size
  · rw [if_pos ht]
    have ht' : t < xs'.size := h.1 ▸ ht
    have := h.2 t xs[t] xs'[t] (by simp [ht]) (by simp [ht'])
    simpa [ht, ht', Array.getElem?_append] using this
  · rw [if_neg ht]
    have ht' : ¬ t < xs'.size := h.1 ▸ ht
    have e : (xs' ++ Array.replicate (m - xs'.size) undef).getD t undef = undef := by
      by_cases h2 : t - xs'.size < m - xs'.size
      · simp [Array.getElem?_append, ht', h2]
      · simp [Array.getElem?_append, ht', h2]
    rw [e]
    exact VR.undef
theorem ofTm_TR {μ : Mu} {xs xs' : Array Value} (h : VRs μ xs xs') (hm : xs.size ≤ 16000) : TR μ (ofList xs.size xs.toList) xs' := by
  have := ofList_TR (m := 0) h (by omega)
  simpa using this
theorem enterC_FrK {P : Program} {f : FuncId} {args args' : Array Value} {c : CF} {μ : Mu} (kd : CallKind) (h : enterC P f args = some c) (hv : VRs μ args args') : FrR ⟨[], kd⟩ μ c (Frame.enter P f args' kd) := by
  unfold enterC at h
  rw [nth_eq, Array.getElem?_toList] at h
  split at h
  · rename_i fn hf
    split at h
    · rename_i b hb
      have hlim : args.size + (fn.ntmps - args.size) ≤ 16000 := by
        cases hq : Nat.ble (args.size + (fn.ntmps - args.size)) 16000 with
        | false => rw [hq] at h; cases h
        | true => exact Nat.le_of_ble_eq_true hq
      rw [← bif_some h]
      have ht := ofList_TR (m := fn.ntmps) hv hlim
      exact ⟨rfl, by simpa [Frame.enter, hf] using ht, fun _ => by simp only [Frame.enter, hf, Option.bind_some, hb, Option.getD_some]; exact .cons (.code _) .nil, .of_empty rfl, .run, rfl, trivial⟩
    · cases h
  · cases h
theorem enterC_FrR {P : Program} {f : FuncId} {args args' : Array Value} {c : CF} {μ : Mu} (h : enterC P f args = some c) (hv : VRs μ args args') : FrR Bot.no μ c (Frame.enter P f args' .normal) := enterC_FrK .normal h hv
end Go.CE

namespace Go.CE
open Go Go.RowKit

theorem Post.drop {B n n' : Nat} {S : Nat → Prop} {μ μ' : Mu} {H H' : Heap} {w w' : World} (h : Post B S n n' [] μ μ' H H' w w') (hu : Under H n) : Post B S n n' [] μ μ' H H w w' := by
  have hg : ∀ i o, hget H i = some o → S i ∨ n ≤ i ∧ i < n' → S i ∧ hget H' i = some o := by
    intro i o ho hi
    have hlt := hu.lt ho
    have hs := hi.elim id fun h => absurd h.1 (by omega)
    exact ⟨hs, by rw [h.keep i hlt (by simp)]; exact ho⟩
  refine ⟨⟨fun i o hi ho hl => ?_, fun i o im hi ho hl him => ?_, fun i j oi oj a b hi hj hij hoi hoj => ?_, fun i o hi ho => ?_, fun i j oi oj a b x hi hj hoi hoj => ?_⟩, h.le, h.ext, fun _ _ _ => rfl, h.grow, h.frame, h.wr, fun i im o h1 h2 ho => ?_, fun i im o h1 ho => ?_, h.os, h.tape, h.output⟩
  · exact h.ok.rel i o hi (hg i o ho hi).2 hl
  · exact h.ok.low i o im hi (hg i o ho hi).2 hl him
  · exact h.ok.inj i j oi oj a b hi hj hij (hg i oi hoi hi).2 (hg j oj hoj hj).2
  · exact h.ok.reg i o hi (hg i o ho hi).2
  · exact h.ok.sep i j oi oj a b x hi hj (hg i oi hoi hi).2 (hg j oj hoj hj).2
  · have := hu.lt ho; omega
  · have := hu.lt ho
    rcases h1 with h1 | h1
    · omega
    · simp at h1
theorem Shape.drop {H H' : Heap} {n n' : Nat} {R : List Nat} (h : Shape H n H' n' R []) : Shape H n H n' R [] := ⟨h.le, fun _ _ _ => rfl, fun _ _ => rfl, h.sub, fun _ h => by simp at h⟩
theorem fj_drop {P : Program} {B : Lo} {c : CF} {H : Heap} {n : Nat} {s : Rs} (hu : Under H n) (h : FJ P B c H n s.out s.H s.n s.R s.W) : FJ P B c H n (dropNew H s).out (dropNew H s).H (dropNew H s).n (dropNew H s).R (dropNew H s).W := by
  unfold dropNew
  split
  · rename_i v hW hv
    cases ha : af v with
    | false => exact h
    | true =>
      simp only [cond_true]
      rw [hW] at h
      refine ⟨by rw [hW]; exact h.shape.drop, fun S μ w fr cs hok hB hS hf hfr hR => ?_⟩
      obtain ⟨out', w', μ', hp, ho, he⟩ := h.sem S μ w fr cs hok hB hS hf hfr hR
      exact ⟨out', w', μ', by rw [hW]; exact hp.drop hu, ho, he⟩
  · exact h
theorem no_defer {P : Program} {F : FuncId → Bool} {orc : Orc} {rec : CF → Heap → Nat → Option Rs} {T : Tm} {o : Oper} {H : Heap} {n : Nat} {s : Rs} (h : opS P F orc rec T o H n = some s) : ∀ c, o.op ≠ .defer c := by
  intro c e
  simp [opS, e] at h
theorem opS_sound {P : Program} {F : FuncId → Bool} {orc : Orc} {B : Lo} {rec : CF → Heap → Nat → Option Rs} (hF : ∀ g, F g = true → okFn P g = true) (hrec : RecS P B rec) (horc : OrcS P B orc) {T : Tm} {o : Oper} {H : Heap} {n : Nat} {s : Rs} (hu : Under H n)
    (h : opS P F orc rec T o H n = some s) : Does P B o (evC T) H n s.out s.H s.n s.R s.W ∧ Shape H n s.H s.n s.R s.W := by
  have hd := no_defer h
  unfold opS at h
  split at h
  · cases h
  · -- panic
    rename_i x hop
    split at h
    · rename_i t v hx
      simp only [Option.some.injEq] at h
      subst h
      refine ⟨fun S μ w fr cs k ops i rest hok hB hS hf hev hR hm ht ho hw => ?_, Shape.same _ _ _⟩
      have hv := hev x (by simp [hop, Op.operands]) _ hx
      generalize hg : fr.eval x = u at hv
      cases hv with
      | iface hv' =>
        rename_i v'
        exact ⟨.pan (.iface t v'), w, μ, Post.refl hok, .pan (.iface hv'), opTo_panic hm ht ho hw hd (by simp [execOp, hop, hg, Instr.panic])⟩
    · cases h
  · split at h
    · rename_i r hrr
      obtain ⟨hr, hRlt⟩ := copR_cop hrr
      have hsnd := cop_snd (B := B) hF hr
      have hsh := cop_shape hu hr
      have hu1 := hu.shape hsh
      split at h
      · -- a value
        rename_i v hnx
        simp only [Option.some.injEq] at h
        subst h
        refine ⟨fun S μ w fr cs k ops i rest hok hB hS hf hev hR hm ht ho hw => ?_, hsh⟩
        obtain ⟨nx, w', μ', hrun, hp, hnr⟩ := hsnd S μ fr.eval w hok hB.le hS hf hev (fun q hq => hR q hq (hRlt q hq))
        rw [hnx] at hnr
        cases hnr with
        | val hv => exact ⟨_, w', μ', hp, .ret hv, opTo_value hm ht ho hw hd hrun⟩
        | skip => exact ⟨_, w', μ', hp, .ret VR.undef, opTo_skip hm ht ho hw hd hrun⟩
      · -- a call
        rename_i g args hnx
        split at h
        · -- known
          rename_i s1 hs1
          obtain ⟨hsh1, hsem⟩ := horc g args r.H r.n s1 hu1 hs1
          simp only [Option.some.injEq] at h
          subst h
          refine ⟨fun S μ w fr cs k ops i rest hok hB hS hf hev hR hm ht ho hw => ?_, hsh.trans hsh1⟩
          simp only at hf hR
          have l1 := hsh.le
          have l2 := hsh1.le
          obtain ⟨nx, w1, μ1, hrun, hp, hnr⟩ := hsnd S μ fr.eval w hok hB.le hS (fun q a b => hf q a (by omega)) hev (fun q hq => hR q (List.mem_append_left _ hq) (hRlt q hq))
          rw [hnx] at hnr
          cases hnr with
          | enter ha =>
            obtain ⟨out', w', μ', hp2, ho2, hends⟩ := hsem _ μ1 w1 _ (fr :: cs) hp.ok (hB.post hok hp) (fun q hq => hq.elim (fun e => by have := hS q e; omega) (fun e => e.2))
              (fun q a b => by rw [hp.ext q (by omega)]; exact hf q (by omega) b) ha (fun q hq hlt => by
                rcases Nat.lt_or_ge q n with h1 | h1
                · exact .inl (hR q (List.mem_append_right _ hq) h1)
                · exact .inr ⟨h1, hlt⟩)
            exact ⟨out', w', μ', hp.trans hp2, ho2, opTo_enter hm ht ho hw hd hrun hends⟩
        · split at h
          · rename_i c hc
            split at h
            · rename_i s0 hs0
              have hfj0 := hrec c r.H r.n s0 hu1 hs0
              have hfj := fj_drop hu1 hfj0
              generalize hdn : dropNew r.H s0 = s1 at h hfj
              simp only [Option.some.injEq] at h
              subst h
              refine ⟨fun S μ w fr cs k ops i rest hok hB hS hf hev hR hm ht ho hw => ?_, hsh.trans hfj.shape⟩
              simp only at hf hR
              have l1 := hsh.le
              have l2 := hfj.shape.le
              obtain ⟨nx, w1, μ1, hrun, hp, hnr⟩ := hsnd S μ fr.eval w hok hB.le hS (fun q a b => hf q a (by omega)) hev (fun q hq => hR q (List.mem_append_left _ hq) (hRlt q hq))
              rw [hnx] at hnr
              cases hnr with
              | enter ha =>
                obtain ⟨out', w', μ', hp2, ho2, hends⟩ := hfj.sem _ μ1 w1 _ (fr :: cs) hp.ok (hB.post hok hp) (fun q hq => hq.elim (fun e => by have := hS q e; omega) (fun e => e.2))
                  (fun q a b => by rw [hp.ext q (by omega)]; exact hf q (by omega) b) (enterC_FrR hc ha) (fun q hq hlt => by
                    rcases Nat.lt_or_ge q n with h1 | h1
                    · exact .inl (hR q (List.mem_append_right _ hq) h1)
                    · exact .inr ⟨h1, hlt⟩)
                exact ⟨out', w', μ', hp.trans hp2, ho2, opTo_enter hm ht ho hw hd hrun hends⟩
            · cases h
          · cases h
      · -- a round
        rename_i l fn tm a b hnx
        have hlim : tm.size ≤ 16000 := by
          cases hq : Nat.ble tm.size 16000 with
          | true => exact Nat.le_of_ble_eq_true hq
          | false => rw [hq] at h; cases h
        have h := bif_some' h
        split at h
        · rename_i s1 hs1
          have hfj := hrec _ r.H r.n s1 hu1 hs1
          simp only [Option.some.injEq] at h
          subst h
          refine ⟨fun S μ w fr cs k ops i rest hok hB hS hf hev hR hm ht ho hw => ?_, hsh.trans hfj.shape⟩
          simp only at hf hR
          have l1 := hsh.le
          have l2 := hfj.shape.le
          obtain ⟨nx, w1, μ1, hrun, hp, hnr⟩ := hsnd S μ fr.eval w hok hB.le hS (fun q a b => hf q a (by omega)) hev (fun q hq => hR q (List.mem_append_left _ hq) (hRlt q hq))
          rw [hnx] at hnr
          cases hnr with
          | round him hv =>
            rename_i im xs'
            obtain ⟨out', w', μ', hp2, ho2, hends⟩ := hfj.sem _ μ1 w1 (Frame.round im.blk fn xs' a b .normal) (fr :: cs) hp.ok (hB.post hok hp) (fun q hq => hq.elim (fun e => by have := hS q e; omega) (fun e => e.2))
              (fun q a b => by rw [hp.ext q (by omega)]; exact hf q (by omega) b)
              ⟨rfl, ofTm_TR hv hlim, fun _ => .cons (.code _) (.cons .beginRound (.cons (.code _) .nil)), .of_empty rfl, .run, rfl, im, him, rfl⟩ (fun q hq hlt => by
                rcases Nat.lt_or_ge q n with h1 | h1
                · exact .inl (hR q (List.mem_append_right _ hq) h1)
                · exact .inr ⟨h1, hlt⟩)
            exact ⟨out', w', μ', hp.trans hp2, ho2, opTo_round hm ht ho hw hd hrun hends⟩
        · cases h
    · cases h
end Go.CE

namespace Go.CE
open Go Go.RowKit

theorem ev_TR {μ : Mu} {T : Tm} {fr : Frame} (h : TR μ T fr.tmps) (y : Operand) (v : Value) (hv : evC T y = some v) : VR μ v (fr.eval y) := by
  cases y with
  | tmp t =>
    simp only [evC, Option.some.injEq] at hv
    subst hv
    exact h.2 t
  | const u =>
    simp only [evC] at hv
    cases ha : af u with
    | false => rw [ha] at hv; cases hv
    | true => rw [ha] at hv; simp only [cond_true, Option.some.injEq] at hv; subst hv; exact vr_af ha
  | func f =>
    simp only [evC, Option.some.injEq] at hv
    subst hv
    exact vr_af rfl
  | global g => cases hv
theorem yielded_TR {μ : Mu} {T : Tm} {A : Array Value} (h : TR μ T A) (ops : Array Oper) : yielded ops A = yieldedC ops T := by
  funext j
  rw [yielded_eq, yieldedC_eq]
  cases (ops[j]?).bind (·.dst) with
  | none => rfl
  | some t => exact bool_vr (h.2 t)
def putA (A : Array Value) (v : Value) : Option Tmp → Array Value
  | some d => A.setIfInBounds d v
  | none => A
theorem TR.putA {μ : Mu} {T : Tm} {A : Array Value} (h : TR μ T A) {d : Option Tmp} (hd : ∀ x, d = some x → x < T.len ∧ x < 16000) {v v' : Value} (hv : VR μ v v') : TR μ (tput T d v) (putA A v' d) := by
  have := h.put hd hv
  cases d <;> exact this
theorem finish_putA {fr : Frame} {A : Array Value} {ops : Array Oper} {i : Nat} {l : List Nat} {k : List Item} {o : Oper} (ho : ops[i]? = some o) (v : Value) :
    (inReg fr A ops (i :: l) k).finish v = inReg fr (putA A v o.dst) ops l k := by
  rw [finish_inReg ho]
  cases o.dst <;> rfl
theorem dstOk_spec {T : Tm} {d : Option Tmp} (h : dstOk T d = true) : ∀ x, d = some x → x < T.len ∧ x < 16000 := by
  intro x hx
  subst hx
  simp only [dstOk, Bool.and_eq_true] at h
  exact ⟨Nat.le_of_ble_eq_true h.1, Nat.le_of_ble_eq_true h.2⟩
def RunOk (P : Program) (B : Lo) (ops : Array Oper) (l : List Oper) (recs : List Rec) (T : Tm) (H : Heap) (n : Nat) : RF → Prop
  | .ok T' H' n' => Chain recs T H n T' H' n' ∧ recs.map (·.o) = l ∧ Under H' n'
  | .pan T1 v H' n' R W => ∃ H1 n1 o l2, Chain recs T H n T1 H1 n1 ∧ recs.map (·.o) ++ o :: l2 = l ∧ Region.wanted o (yieldedC ops T1) = true ∧ Does P B o (evC T1) H1 n1 (.pan v) H' n' R W ∧ Shape H1 n1 H' n' R W
theorem RunOk.cons {P : Program} {B : Lo} {ops : Array Oper} {l : List Oper} {recs : List Rec} {T : Tm} {H : Heap} {n : Nat} {fin : RF} {r : Rec} (hT : r.T = T) (hH : r.H = H) (hn : r.n = n) (h : RunOk P B ops l recs (tput T r.o.dst r.v) r.H' r.n' fin) : RunOk P B ops (r.o :: l) (r :: recs) T H n fin := by
  cases fin with
  | ok T' H' n' =>
    obtain ⟨h1, h2, h3⟩ := h
    exact ⟨⟨hT, hH, hn, h1⟩, by simp [h2], h3⟩
  | pan T1 v H' n' R W =>
    obtain ⟨H1, n1, o, l2, h1, h2, h3⟩ := h
    exact ⟨H1, n1, o, l2, ⟨hT, hH, hn, h1⟩, by simp [h2], h3⟩
section
variable {P : Program} {F : FuncId → Bool} {orc : Orc} {B : Lo} {rec : CF → Heap → Nat → Option Rs}
theorem rrun_sound (hF : ∀ g, F g = true → okFn P g = true) (hrec : RecS P B rec) (horc : OrcS P B orc) {ops : Array Oper} {len : Nat} : ∀ (l : List Oper) (T : Tm) (H : Heap) (n : Nat) (recs : List Rec) (fin : RF), T.len = len → Under H n → rrun P F orc rec ops l T H n = some (recs, fin) →
    (∀ r ∈ recs, Sane len r) ∧ (∀ r ∈ recs, RecOk P B ops r) ∧ RunOk P B ops l recs T H n fin
  | [], T, H, n, recs, fin, hl, hu, h => by
    simp only [rrun, Option.some.injEq, Prod.mk.injEq] at h
    obtain ⟨rfl, rfl⟩ := h
    exact ⟨fun r hr => by simp at hr, fun r hr => by simp at hr, ⟨rfl, rfl, rfl⟩, rfl, hu⟩
  | o :: l, T, H, n, recs, fin, hl, hu, h => by
    simp only [rrun] at h
    cases hd : dstOk T o.dst with
    | false => rw [hd] at h; cases h
    | true =>
      have hdst := dstOk_spec hd
      rw [hl] at hdst
      rw [hd] at h
      simp only [cond_true] at h
      cases hw : Region.wanted o (yieldedC ops T) with
      | true =>
        rw [hw] at h
        simp only [cond_true] at h
        split at h
        · rename_i s hs
          obtain ⟨hdo, hsh⟩ := opS_sound hF hrec horc hu hs
          split at h
          · rename_i v hv
            split at h
            · rename_i rs fin' hr
              simp only [Option.some.injEq, Prod.mk.injEq] at h
              obtain ⟨rfl, rfl⟩ := h
              obtain ⟨h1, h2, h3⟩ := rrun_sound hF hrec horc (ops := ops) (len := len) l (tput T o.dst v) s.H s.n rs fin' (by rw [tput_len]; exact hl) (hu.shape hsh) hr
              refine ⟨fun r hr => ?_, fun r hr => ?_, RunOk.cons rfl rfl rfl h3⟩
              · rcases List.mem_cons.1 hr with rfl | hr
                · exact ⟨hsh.le, hsh.keep, hsh.top, hsh.sub, hsh.wlt, hdst⟩
                · exact h1 r hr
              · rcases List.mem_cons.1 hr with rfl | hr
                · exact ⟨hw.symm, (fun _ => by rw [hv] at hdo; exact hdo), (fun e => by cases e)⟩
                · exact h2 r hr
            · cases h
          · rename_i v hv
            simp only [Option.some.injEq, Prod.mk.injEq] at h
            obtain ⟨rfl, rfl⟩ := h
            rw [hv] at hdo
            exact ⟨fun r hr => by simp at hr, fun r hr => by simp at hr, H, n, o, l, ⟨rfl, rfl, rfl⟩, rfl, hw, hdo, hsh⟩
        · cases h
      | false =>
        rw [hw] at h
        simp only [cond_false] at h
        split at h
        · rename_i rs fin' hr
          simp only [Option.some.injEq, Prod.mk.injEq] at h
          obtain ⟨rfl, rfl⟩ := h
          obtain ⟨h1, h2, h3⟩ := rrun_sound hF hrec horc (ops := ops) (len := len) l (tput T o.dst undef) H n rs fin' (by rw [tput_len]; exact hl) hu hr
          refine ⟨fun r hr => ?_, fun r hr => ?_, RunOk.cons rfl rfl rfl h3⟩
          · rcases List.mem_cons.1 hr with rfl | hr
            · exact ⟨Nat.le_refl _, fun _ _ _ => rfl, fun _ _ => rfl, fun i hi => by simp at hi, fun i hi => by simp at hi, hdst⟩
            · exact h1 r hr
          · rcases List.mem_cons.1 hr with rfl | hr
            · exact ⟨hw.symm, (fun e => by cases e), fun _ => ⟨rfl, rfl, rfl, rfl⟩⟩
            · exact h2 r hr
        · cases h
end
theorem chain_shape {len : Nat} : ∀ (l : List Rec) (T : Tm) (H : Heap) (n : Nat) (T' : Tm) (H' : Heap) (n' : Nat), Chain l T H n T' H' n' → (∀ r ∈ l, Sane len r) → Shape H n H' n' (allR l) (allW l)
  | [], T, H, n, T', H', n', h, _ => by
    obtain ⟨rfl, rfl, rfl⟩ := h
    exact Shape.same _ _ _
  | r :: l, T, H, n, T', H', n', h, hs => by
    obtain ⟨h1, h2, h3, h4⟩ := h
    have hr := hs r (by simp)
    have := chain_shape l _ _ _ _ _ _ h4 fun x hx => hs x (List.mem_cons_of_mem _ hx)
    have h0 : Shape H n r.H' r.n' r.R r.W := by
      subst h2 h3
      exact ⟨hr.le, hr.keep, hr.top, hr.sub, hr.wlt⟩
    exact h0.trans this
section
variable {P : Program} {B : Lo} {ops : Array Oper}
theorem seq_run {len : Nat} {fr : Frame} {cs : List Frame} {k : List Item} (hm : fr.mode = .run) : ∀ (recs : List Rec) (i : Nat) (T : Tm) (H : Heap) (n : Nat) (T' : Tm) (H' : Heap) (n' : Nat) (rest : List Nat), Chain recs T H n T' H' n' → (∀ r ∈ recs, Sane len r) → (∀ r ∈ recs, RecOk P B ops r) →
    (∀ (j : Nat) r, recs[j]? = some r → ops[i + j]? = some r.o) → T.len = len → ∀ (S : Nat → Prop) (μ : Mu) (w : World) (A : Array Value), Ok B S μ (hget H) w → B.has w → (∀ i, S i → i < n) → Free μ n n' → (∀ i ∈ allR recs, i < n → S i) → TR μ T A →
    ∃ μ' A' w', Post B S n n' (allW recs) μ μ' H H' w w' ∧ TR μ' T' A' ∧ Steps P (lone (inReg fr A ops (List.range' i recs.length ++ rest) k) cs w) (lone (inReg fr A' ops rest k) cs w')
  | [], i, T, H, n, T', H', n', rest, h, _, _, _, _, S, μ, w, A, hok, _, _, _, _, ht => by
    obtain ⟨rfl, rfl, rfl⟩ := h
    exact ⟨μ, A, w, Post.refl hok, ht, Steps.refl _ _⟩
  | r :: l, i, T, H, n, T', H', n', rest, h, hs, hk, ho, hl, S, μ, w, A, hok, hB, hS, hf, hR, ht => by
    obtain ⟨h1, h2, h3, h4⟩ := h
    have hr := hs r (by simp)
    obtain ⟨hrun, hdo, hno⟩ := hk r (by simp)
    have hoi := ho 0 r rfl
    rw [Nat.add_zero] at hoi
    have hl4 := chain_shape l _ _ _ _ _ _ h4 fun x hx => hs x (List.mem_cons_of_mem _ hx)
    have le1 := hr.le
    have le2 := hl4.le
    have hdst : ∀ x, r.o.dst = some x → x < T.len ∧ x < 16000 := by rw [hl]; exact hr.dst
    have next : ∀ (μ1 : Mu) (A1 : Array Value) (w1 : World), Post B S n r.n' r.W μ μ1 H r.H' w w1 → TR μ1 (tput T r.o.dst r.v) A1 → Steps P (lone (inReg fr A ops (i :: (List.range' (i + 1) l.length ++ rest)) k) cs w) (lone (inReg fr A1 ops (List.range' (i + 1) l.length ++ rest) k) cs w1) →
        ∃ μ' A' w', Post B S n n' (allW (r :: l)) μ μ' H H' w w' ∧ TR μ' T' A' ∧ Steps P (lone (inReg fr A ops (List.range' i (r :: l).length ++ rest) k) cs w) (lone (inReg fr A' ops rest k) cs w') := by
      intro μ1 A1 w1 hp ht1 hst
      subst h3
      obtain ⟨μ', A', w', q1, q2, q3⟩ := seq_run hm l (i + 1) _ _ _ _ _ _ rest h4 (fun x hx => hs x (List.mem_cons_of_mem _ hx)) (fun x hx => hk x (List.mem_cons_of_mem _ hx))
        (fun j x hx => by have := ho (j + 1) x (by simpa using hx); rwa [show i + (j + 1) = i + 1 + j by omega] at this) (by rw [tput_len]; exact hl) _ μ1 w1 A1 hp.ok (hB.post hok hp) (fun q hq => hq.elim (fun e => by have := hS q e; omega) (fun e => e.2))
        (fun q a b => by rw [hp.ext q (by omega)]; exact hf q (by omega) b) (fun q hq hlt => by
          rcases Nat.lt_or_ge q r.n with h1 | h1
          · exact .inl (hR q (List.mem_append_right _ hq) h1)
          · exact .inr ⟨h1, hlt⟩) ht1
      exact ⟨μ', A', w', hp.trans q1, q2, by rw [List.length_cons, List.range'_succ]; exact hst.trans q3⟩
    cases hrx : r.run with
    | false =>
      obtain ⟨hv, hH, hnn, hW⟩ := hno hrx
      have hwant : Region.wanted r.o (yielded ops A) = false := by rw [yielded_TR ht, ← h1, ← hrun]; exact hrx
      refine next μ _ w ?_ (ht.putA hdst (v' := undef) (by rw [hv]; exact VR.undef)) (Steps.one ((step_skip_op hm hoi hwant).trans (by rw [finish_putA hoi])))
      rw [hH, hnn, hW, h2, h3]
      exact Post.refl hok
    | true =>
      have hwant : Region.wanted r.o (yielded ops A) = true := by rw [yielded_TR ht, ← h1, ← hrun]; exact hrx
      have hd := hdo hrx
      rw [h1, h2, h3] at hd
      have hfr : Free μ n r.n' := fun q a b => hf q a (by omega)
      obtain ⟨out', w1, μ1, hp, hor, hst⟩ := hd S μ w (inReg fr A ops (i :: (List.range' (i + 1) l.length ++ rest)) k) cs k ops i _ hok hB hS hfr (fun x _ v hv => ev_TR (fr := inReg fr A ops (i :: (List.range' (i + 1) l.length ++ rest)) k) ht x v hv)
        (fun q hq hlt => hR q (List.mem_append_left _ hq) hlt) hm rfl hoi hwant
      cases hor with
      | ret hv =>
        rename_i v'
        refine next μ1 _ w1 hp ((ht.mono (hp.mu hfr)).putA hdst hv) (hst.trans ?_)
        simp only [OO.on]
        rw [finish_putA hoi]
        exact Steps.refl _ _
end
end Go.CE

namespace Go.CE
open Go Go.RowKit

theorem TodoR.inv {μ : Mu} {x : Item} {l L : List Item} (h : TodoR μ (x :: l) L) : ∃ x' L', L = x' :: L' ∧ IR μ x x' ∧ TodoR μ l L' := by
  cases h with
  | cons a b => exact ⟨_, _, rfl, a, b⟩
theorem TodoR.inv_nil {μ : Mu} {L : List Item} (h : TodoR μ [] L) : L = [] := by cases h; rfl
theorem IR.code_inv {μ : Mu} {a : Code} {x' : Item} (h : IR μ (.code a) x') : x' = .code a := by cases h; rfl
theorem TodoR.code {μ : Mu} {a : Code} {l L : List Item} (h : TodoR μ (.code a :: l) L) : ∃ L', L = .code a :: L' ∧ TodoR μ l L' := by
  obtain ⟨x', L', e, hi, hk⟩ := h.inv
  rw [hi.code_inv] at e
  exact ⟨L', e, hk⟩
theorem exitTo_R {μ : Mu} {id : Nat} {l L : List Item} (h : TodoR μ l L) : (∀ k, exitTo id l = some k → ∃ k', exitTo id L = some k' ∧ TodoR μ k k') ∧ (exitTo id l = none → exitTo id L = none) := by
  induction h with
  | nil => exact ⟨fun k h => by simp [exitTo] at h, fun _ => rfl⟩
  | cons hi hk ih =>
    cases hi with
    | inBlock id' =>
      simp only [exitTo]
      by_cases e : (id' == id) = true
      · rw [if_pos e, if_pos e]
        exact ⟨fun k h => ⟨_, rfl, by simp only [Option.some.injEq] at h; subst h; exact hk⟩, fun h => by cases h⟩
      · rw [if_neg e, if_neg e]
        exact ih
    | code c => simpa only [exitTo] using ih
    | inLoop c => simpa only [exitTo] using ih
    | inScope c => simpa only [exitTo] using ih
    | beginRound => simpa only [exitTo] using ih
    | endRF h => simpa only [exitTo] using ih
theorem gotoIn_R {μ : Mu} {lb : Nat} {l L : List Item} (h : TodoR μ l L) : (∀ k, gotoIn lb l = some k → ∃ k', gotoIn lb L = some k' ∧ TodoR μ k k') ∧ (gotoIn lb l = none → gotoIn lb L = none) := by
  induction h with
  | nil => exact ⟨fun k h => by simp [gotoIn] at h, fun _ => rfl⟩
  | cons hi hk ih =>
    cases hi with
    | inScope b =>
      simp only [gotoIn]
      cases findLabel b lb with
      | some r => exact ⟨fun k h => ⟨_, rfl, by simp only [Option.some.injEq] at h; subst h; exact .cons (.code _) (.cons (.inScope _) hk)⟩, fun h => by cases h⟩
      | none => exact ih
    | code c => simpa only [gotoIn] using ih
    | inLoop c => simpa only [gotoIn] using ih
    | inBlock c => simpa only [gotoIn] using ih
    | beginRound => simpa only [gotoIn] using ih
    | endRF h => simpa only [gotoIn] using ih
structure GoJ (P : Program) (B : Lo) (c : CF) (H : Heap) (n : Nat) (c' : CF) (H' : Heap) (n' : Nat) (R W : List Nat) : Prop where
  shape : Shape H n H' n' R W
  sem : ∀ (S : Nat → Prop) (μ : Mu) (w : World) (fr : Frame) (cs : List Frame) (Z : Bot), Ok B S μ (hget H) w → B.has w → (∀ i, S i → i < n) → Free μ n n' → FrR Z μ c fr → (∀ i ∈ R, i < n → S i) →
    ∃ fr' w' μ', Post B S n n' W μ μ' H H' w w' ∧ FrR Z μ' c' fr' ∧ fr'.roundOf = fr.roundOf ∧ fr'.fn = fr.fn ∧ Steps P (lone fr cs w) (lone fr' cs w')
theorem GoJ.fj {P : Program} {B : Lo} {c c' : CF} {H H' H'' : Heap} {n n' n'' : Nat} {R R' W W' : List Nat} {out : OO} (h : GoJ P B c H n c' H' n' R W) (k : FJ P B c' H' n' out H'' n'' R' W') : FJ P B c H n out H'' n'' (R ++ R') (W ++ W') := by
  refine ⟨h.shape.trans k.shape, fun S μ w fr cs hok hB hS hf hfr hR => ?_⟩
  have l1 := h.shape.le
  have l2 := k.shape.le
  obtain ⟨fr1, w1, μ1, hp, hfr1, hr, hfn, hst⟩ := h.sem S μ w fr cs Bot.no hok hB hS (fun q a b => hf q a (by omega)) hfr (fun q hq hlt => hR q (List.mem_append_left _ hq) hlt)
  obtain ⟨out', w', μ', hp2, ho, he⟩ := k.sem _ μ1 w1 fr1 cs hp.ok (hB.post hok hp) (fun q hq => hq.elim (fun e => by have := hS q e; omega) (fun e => e.2))
    (fun q a b => by rw [hp.ext q (by omega)]; exact hf q (by omega) b) hfr1 (fun q hq hlt => by
      rcases Nat.lt_or_ge q n with h1 | h1
      · exact .inl (hR q (List.mem_append_right _ hq) h1)
      · exact .inr ⟨h1, hlt⟩)
  exact ⟨out', w', μ', hp.trans hp2, ho, he.of_steps hst hr hfn⟩
theorem FrR.running {Z : Bot} {μ : Mu} {c : CF} {fr : Frame} (h : FrR Z μ c fr) (hm : c.mode = .run) : fr.mode = .run ∧ TR μ c.tmps fr.tmps ∧ TodoR μ c.todo fr.todo := by
  refine ⟨?_, h.tmps, h.todo (by rw [hm]; rfl)⟩
  have := h.mode
  rw [hm] at this
  generalize fr.mode = m at this
  cases this
  rfl
section
variable {P : Program} {B : Lo} {c : CF} {H : Heap} {n : Nat}
theorem go_todo {l' : List Item} (hm : c.mode = .run) (h : ∀ μ fr, fr.mode = .run → TR μ c.tmps fr.tmps → TodoR μ c.todo fr.todo → ∃ L', TodoR μ l' L' ∧ ∀ cs w, step P (lone fr cs w) = .next (lone { fr with todo := L' } cs w)) :
    GoJ P B c H n { c with todo := l' } H n [] [] := by
  refine ⟨Shape.same _ _ _, fun S μ w fr cs Z hok hB hS hf hfr hR => ?_⟩
  obtain ⟨a, b, d⟩ := hfr.running hm
  obtain ⟨L', h1, h2⟩ := h μ fr a b d
  exact ⟨{ fr with todo := L' }, w, μ, Post.refl hok, ⟨hfr.fn, b, fun _ => h1, hfr.defers, hfr.mode, hfr.kind, hfr.round⟩, rfl, rfl, .one (h2 cs w)⟩
theorem go_skip {k : List Item} (hm : c.mode = .run) (ht : c.todo = .code .skip :: k) : GoJ P B c H n { c with todo := k } H n [] [] :=
  go_todo hm fun μ fr a _ d => by
    rw [ht] at d
    obtain ⟨L', e, hk⟩ := d.code
    exact ⟨L', hk, fun cs w => step_lone_go (by simp [stepG, stepG.exec, a, e])⟩
theorem go_label {k : List Item} {l : Nat} (hm : c.mode = .run) (ht : c.todo = .code (.label l) :: k) : GoJ P B c H n { c with todo := k } H n [] [] :=
  go_todo hm fun μ fr a _ d => by
    rw [ht] at d
    obtain ⟨L', e, hk⟩ := d.code
    exact ⟨L', hk, fun cs w => step_lone_go (by simp [stepG, stepG.exec, a, e])⟩
theorem go_inBlock {k : List Item} {l : Nat} (hm : c.mode = .run) (ht : c.todo = .inBlock l :: k) : GoJ P B c H n { c with todo := k } H n [] [] :=
  go_todo hm fun μ fr a _ d => by
    rw [ht] at d
    obtain ⟨x', L', e, hi, hk⟩ := d.inv
    cases hi
    exact ⟨L', hk, fun cs w => step_lone_go (by simp [stepG, stepG.exec, a, e])⟩
theorem go_inScope {k : List Item} {l : Code} (hm : c.mode = .run) (ht : c.todo = .inScope l :: k) : GoJ P B c H n { c with todo := k } H n [] [] :=
  go_todo hm fun μ fr a _ d => by
    rw [ht] at d
    obtain ⟨x', L', e, hi, hk⟩ := d.inv
    cases hi
    exact ⟨L', hk, fun cs w => step_lone_go (by simp [stepG, stepG.exec, a, e])⟩
theorem go_seq {k : List Item} {x y : Code} (hm : c.mode = .run) (ht : c.todo = .code (.seq x y) :: k) : GoJ P B c H n { c with todo := .code x :: .code y :: k } H n [] [] :=
  go_todo hm fun μ fr a _ d => by
    rw [ht] at d
    obtain ⟨L', e, hk⟩ := d.code
    exact ⟨_, .cons (.code _) (.cons (.code _) hk), fun cs w => step_lone_go (by simp [stepG, stepG.exec, a, e])⟩
theorem go_cond {k : List Item} {q : Operand} {x y : Code} {t : Bool} (hm : c.mode = .run) (ht : c.todo = .code (.cond q x y) :: k) (hq : evC c.tmps q = some (.bool t)) : GoJ P B c H n { c with todo := .code (bif t then x else y) :: k } H n [] [] :=
  go_todo hm fun μ fr a b d => by
    rw [ht] at d
    obtain ⟨L', e, hk⟩ := d.code
    have hv := ev_TR b q _ hq
    have hv : fr.eval q = .bool t := by generalize fr.eval q = u at hv; cases hv; rfl
    exact ⟨_, .cons (.code _) hk, fun cs w => step_lone_go (by cases t <;> simp [stepG, stepG.exec, a, e, hv])⟩
theorem go_block {k : List Item} {id : Nat} {x : Code} (hm : c.mode = .run) (ht : c.todo = .code (.block id x) :: k) : GoJ P B c H n { c with todo := .code x :: .inBlock id :: k } H n [] [] :=
  go_todo hm fun μ fr a _ d => by
    rw [ht] at d
    obtain ⟨L', e, hk⟩ := d.code
    exact ⟨_, .cons (.code _) (.cons (.inBlock _) hk), fun cs w => step_lone_go (by simp [stepG, stepG.exec, a, e])⟩
theorem go_loop {k : List Item} {x : Code} (hm : c.mode = .run) (ht : c.todo = .code (.loop x) :: k) : GoJ P B c H n { c with todo := .code x :: .inLoop x :: k } H n [] [] :=
  go_todo hm fun μ fr a _ d => by
    rw [ht] at d
    obtain ⟨L', e, hk⟩ := d.code
    exact ⟨_, .cons (.code _) (.cons (.inLoop _) hk), fun cs w => step_lone_go (by simp [stepG, stepG.exec, a, e])⟩
theorem go_inLoop {k : List Item} {x : Code} (hm : c.mode = .run) (ht : c.todo = .inLoop x :: k) : GoJ P B c H n { c with todo := .code x :: .inLoop x :: k } H n [] [] :=
  go_todo hm fun μ fr a _ d => by
    rw [ht] at d
    obtain ⟨x', L', e, hi, hk⟩ := d.inv
    cases hi
    exact ⟨_, .cons (.code _) (.cons (.inLoop _) hk), fun cs w => step_lone_go (by simp [stepG, stepG.exec, a, e])⟩
theorem go_scope {k : List Item} {x : Code} (hm : c.mode = .run) (ht : c.todo = .code (.scope x) :: k) : GoJ P B c H n { c with todo := .code x :: .inScope x :: k } H n [] [] :=
  go_todo hm fun μ fr a _ d => by
    rw [ht] at d
    obtain ⟨L', e, hk⟩ := d.code
    exact ⟨_, .cons (.code _) (.cons (.inScope _) hk), fun cs w => step_lone_go (by simp [stepG, stepG.exec, a, e])⟩
theorem go_exit {k k' : List Item} {id : Nat} (hm : c.mode = .run) (ht : c.todo = .code (.exit id) :: k) (hx : exitTo id k = some k') : GoJ P B c H n { c with todo := k' } H n [] [] :=
  go_todo hm fun μ fr a _ d => by
    rw [ht] at d
    obtain ⟨L', e, hk⟩ := d.code
    obtain ⟨L2, h1, h2⟩ := (exitTo_R hk).1 _ hx
    exact ⟨_, h2, fun cs w => step_lone_go (by simp [stepG, stepG.exec, a, e, h1])⟩
theorem go_goto {k k' : List Item} {id : Nat} (hm : c.mode = .run) (ht : c.todo = .code (.goto id) :: k) (hx : gotoIn id k = some k') : GoJ P B c H n { c with todo := k' } H n [] [] :=
  go_todo hm fun μ fr a _ d => by
    rw [ht] at d
    obtain ⟨L', e, hk⟩ := d.code
    obtain ⟨L2, h1, h2⟩ := (gotoIn_R hk).1 _ hx
    exact ⟨_, h2, fun cs w => step_lone_go (by simp [stepG, stepG.exec, a, e, h1])⟩
end
end Go.CE

namespace Go.CE
open Go Go.RowKit

def FsOk (P : Program) (B : Lo) (c : CF) (H : Heap) (n : Nat) : FS → Prop
  | .go c' H' n' R W => GoJ P B c H n c' H' n' R W
  | .done out H' n' R W => FJ P B c H n out H' n' R W
section
variable {P : Program} {B : Lo} {c : CF} {H : Heap} {n : Nat}
theorem putObj_other {w : World} {b k : Nat} {o : Obj} (h : k ≠ b) : (w.putObj b o).heap[k]? = w.heap[k]? := World.putObj_heap_other h
theorem loop_write {S : Nat → Prop} {μ : Mu} {w : World} {l : Nat} {r : Loop} (hok : Ok B S μ (hget H) w) (hS : ∀ i, S i → i < n) (hk : S l) (hg : hget H l = some (.loop r)) (st : LoopState) (pe : Option Code) :
    ∃ im tm df, μ l = some im ∧ w.heap[im.blk]? = some (.loop { r with tmps := tm, defers := df }) ∧
      Post B S n n [l] μ μ H (hset H l (.loop { r with state := st, pending := pe })) w (w.putObj im.blk (.loop { r with state := st, pending := pe, tmps := tm, defers := df })) := by
  obtain ⟨im, him, hrw, tm, df, hw, hv⟩ := hok.rel l _ hk hg trivial
  have hlt : im.blk < w.heap.size := (hok.low l _ im hk hg trivial him).1
  exact ⟨im, tm, df, him, hw, Post.write hok hS l _ _ im hk hg trivial him hrw (by simp) (fun b hb => putObj_other hb) ⟨hrw, tm, df, World.putObj_heap_same hlt, hv⟩ ⟨rfl, rfl, rfl⟩⟩
def Leaves (P : Program) (c : CF) (jump : Option Code) : Prop :=
  ∀ (μ : Mu) (fr : Frame), fr.mode = .run → TodoR μ c.todo fr.todo →
    (fr.roundOf = none → (jump = none ∨ jump = some .ret) → ∀ cs w, step P (lone fr cs w) = .next (lone { fr with mode := .returning } cs w)) ∧
    (fr.kind = .normal → ∀ l v w w', fr.roundOf = some l → (Instr.endRound l jump).run P w = .ok v w' → ∀ c0 cs, step P (lone fr (c0 :: cs) w) = .next (lone (c0.finish v) cs w'))
theorem leaves_nil (ht : c.todo = []) : Leaves P c none := by
  intro μ fr hm hd
  rw [ht] at hd
  have e := hd.inv_nil
  exact ⟨fun hr _ cs w => step_lone_go (by simp [stepG, stepG.exec, hm, e, hr]), fun hk l v w w' hr h c0 cs => step_lone_go (by simp [stepG, stepG.exec, hm, e, hr, hk, Sem.runT_eq, h, doReturn])⟩
theorem leaves_ret {k : List Item} (ht : c.todo = .code .ret :: k) : Leaves P c (some .ret) := by
  intro μ fr hm hd
  rw [ht] at hd
  obtain ⟨L', e, _⟩ := hd.code
  exact ⟨fun hr _ cs w => step_lone_go (by simp [stepG, stepG.exec, hm, e, hr]), fun hk l v w w' hr h c0 cs => step_lone_go (by simp [stepG, stepG.exec, hm, e, hr, hk, Sem.runT_eq, h, doReturn])⟩
theorem leaves_exit {k : List Item} {id : Nat} (ht : c.todo = .code (.exit id) :: k) (hx : exitTo id k = none) : Leaves P c (some (.exit id)) := by
  intro μ fr hm hd
  rw [ht] at hd
  obtain ⟨L', e, hL⟩ := hd.code
  have hx' := (exitTo_R hL).2 hx
  exact ⟨fun _ h => by rcases h with h | h <;> simp at h, fun hk l v w w' hr h c0 cs => step_lone_go (by simp [stepG, stepG.exec, hm, e, hx', hr, hk, Sem.runT_eq, h, doReturn])⟩
theorem leaves_goto {k : List Item} {id : Nat} (ht : c.todo = .code (.goto id) :: k) (hx : gotoIn id k = none) : Leaves P c (some (.goto id)) := by
  intro μ fr hm hd
  rw [ht] at hd
  obtain ⟨L', e, hL⟩ := hd.code
  have hx' := (gotoIn_R hL).2 hx
  exact ⟨fun _ h => by rcases h with h | h <;> simp at h, fun hk l v w w' hr h c0 cs => step_lone_go (by simp [stepG, stepG.exec, hm, e, hx', hr, hk, Sem.runT_eq, h, doReturn])⟩
theorem leave_sound {jump : Option Code} {fs : FS} (hm : c.mode = .run) (hu : Under H n) (hl : Leaves P c jump) (h : leaveC c H n jump = some fs) : FsOk P B c H n fs := by
  unfold leaveC at h
  split at h
  · rename_i hr
    have go : (jump = none ∨ jump = some .ret) → GoJ P B c H n { c with mode := .ret } H n [] [] := by
      intro hj
      refine ⟨Shape.same _ _ _, fun S μ w fr cs Z hok hB hS hf hfr hR => ?_⟩
      obtain ⟨a, b, d⟩ := hfr.running hm
      have hro := hfr.round
      rw [hr] at hro
      have hro : fr.roundOf = none := by cases hq : fr.roundOf with
        | none => rfl
        | some x => rw [hq] at hro; exact hro.elim
      exact ⟨{ fr with mode := .returning }, w, μ, Post.refl hok, ⟨hfr.fn, b, fun _ => d, hfr.defers, .ret, hfr.kind, hfr.round⟩, rfl, rfl, .one ((hl μ fr a d).1 hro hj cs w)⟩
    split at h
    · simp only [Option.some.injEq] at h; subst h; exact go (.inl rfl)
    · simp only [Option.some.injEq] at h; subst h; exact go (.inr rfl)
    · cases h
  · rename_i l hr
    split at h
    · rename_i r hg
      simp only [Option.some.injEq] at h
      subst h
      refine ⟨Shape.set _ (hu.lt hg), fun S μ w fr cs hok hB hS hf hfr hR => ?_⟩
      obtain ⟨a, b, d⟩ := hfr.running hm
      obtain ⟨im, tm, df, him, hw, hp⟩ := loop_write hok hS (hR l (by simp) (hu.lt hg)) hg (if jump.isNone then .ready else .done) jump
      have hro := hfr.round
      rw [hr] at hro
      cases hq : fr.roundOf with
      | none => rw [hq] at hro; exact hro.elim
      | some x =>
        rw [hq] at hro
        obtain ⟨im', him', hx⟩ := hro
        rw [him] at him'
        cases him'
        subst hx
        have hend := run_endRound (P := P) jump hw
        exact ⟨.ret (.bool jump.isNone), _, μ, hp, .ret (.bool _), (fun h => by rw [hq] at h; cases h), fun c0 cs' e => by
          subst e
          exact .one ((hl μ fr a d).2 hfr.kind _ _ _ _ hq hend c0 cs')⟩
    · cases h
theorem go_beginRound {k : List Item} {l : Nat} {r : Loop} (hm : c.mode = .run) (hu : Under H n) (ht : c.todo = .beginRound :: k) (hr : c.roundOf = some l) (hg : hget H l = some (.loop r)) (hs : r.state = .ready) :
    GoJ P B c H n { c with todo := k } (hset H l (.loop { r with state := .busy })) n [l] [l] := by
  refine ⟨Shape.set _ (hu.lt hg), fun S μ w fr cs Z hok hB hS hf hfr hR => ?_⟩
  obtain ⟨a, b, d⟩ := hfr.running hm
  obtain ⟨im, tm, df, him, hw, hp⟩ := loop_write hok hS (hR l (by simp) (hu.lt hg)) hg .busy r.pending
  rw [ht] at d
  obtain ⟨x', L', e, hi, hk⟩ := d.inv
  cases hi
  have hro := hfr.round
  rw [hr] at hro
  cases hq : fr.roundOf with
  | none => rw [hq] at hro; exact hro.elim
  | some x =>
    rw [hq] at hro
    obtain ⟨im', him', hx⟩ := hro
    rw [him] at him'
    cases him'
    subst hx
    have hbr := run_beginRound (P := P) hw hs
    exact ⟨{ fr with todo := L' }, _, μ, hp, ⟨hfr.fn, b, fun _ => hk, hfr.defers, hfr.mode, hfr.kind, hfr.round⟩, hq, rfl, .one (step_lone_go (by simp [stepG, stepG.exec, stepG.apply, a, e, hq, Sem.runT_eq, hbr, Result.andThen, Frame.finish]))⟩
theorem go_endRF {k : List Item} {l : Nat} {r : Loop} (hm : c.mode = .run) (hu : Under H n) (ht : c.todo = .endRangeFunc l :: k) (hg : hget H l = some (.loop r)) (hs : r.state ≠ .busy) :
    GoJ P B c H n { c with todo := (r.pending.map Item.code).toList ++ k } (hset H l (.loop { r with state := .exhausted })) n [l] [l] := by
  refine ⟨Shape.set _ (hu.lt hg), fun S μ w fr cs Z hok hB hS hf hfr hR => ?_⟩
  obtain ⟨a, b, d⟩ := hfr.running hm
  obtain ⟨im, tm, df, him, hw, hp⟩ := loop_write hok hS (hR l (by simp) (hu.lt hg)) hg .exhausted r.pending
  rw [ht] at d
  obtain ⟨x', L', e, hi, hk⟩ := d.inv
  cases hi with
  | endRF him' =>
    rw [him] at him'
    cases him'
    have hbr := run_endLoop (P := P) hw hs
    refine ⟨{ fr with todo := (r.pending.map Item.code).toList ++ L' }, _, μ, hp, ⟨hfr.fn, b, fun _ => ?_, hfr.defers, hfr.mode, hfr.kind, hfr.round⟩, rfl, rfl, .one (step_lone_go (by simp [stepG, stepG.exec, a, e, Sem.runT_eq, hbr, GStep.bare_after]))⟩
    cases r.pending with
    | none => exact hk
    | some x => exact .cons (.code _) hk
theorem MR.not_run {μ : Mu} {m : CM} {m' : FrameMode} (h : MR μ m m') (hm : m ≠ .run) : m' ≠ .run := by
  cases h with
  | run => exact absurd rfl hm
  | ret => exact fun e => by cases e
  | pan => exact fun e => by cases e
theorem go_collect {d : Nat} {ds : List Nat} (hm : c.mode ≠ .run) (hu : Under H n) (hd : c.defers = d :: ds) (hg : hget H d = some (.deferred (some []))) : GoJ P B c H n { c with defers := ds } (hset H d (.deferred none)) n [d] [d] := by
  refine ⟨Shape.set _ (hu.lt hg), fun S μ w fr cs Z hok hB hS hf hfr hR => ?_⟩
  have hk := hR d (by simp) (hu.lt hg)
  obtain ⟨im, him, hrw, hw, _⟩ := hok.rel d _ hk hg trivial
  have hlt : im.blk < w.heap.size := (hok.low d _ im hk hg trivial him).1
  have hp := Post.write (w' := w.putObj im.blk (.deferred none)) hok hS d _ (.deferred none) im hk hg trivial him hrw (by simp) (fun b hb => putObj_other hb) ⟨hrw, World.putObj_heap_same hlt, .inr rfl⟩ ⟨rfl, rfl, rfl⟩
  have hdf := hfr.defers
  rw [hd] at hdf
  obtain ⟨im', l', h1, hq, h2⟩ := hdf.cons_inv
  rw [him] at h1
  cases h1
  exact ⟨{ fr with defers := [] ++ l' }, _, μ, hp, ⟨hfr.fn, hfr.tmps, hfr.todo, h2, hfr.mode, hfr.kind, hfr.round⟩, rfl, rfl, .one (step_collected (hfr.mode.not_run hm) hq rfl (run_takeDeferred hw))⟩
theorem cell_run {S : Nat → Prop} {μ : Mu} {w : World} {t : TypeId} {p p' v : Value} {b : Nat} (h : cLoad P t H p = some (v, b)) (hok : Ok B S μ (hget H) w) (hp : VR μ p p') (hb : S b) : ∃ v', (do loadVar t (← asAddr p') : Sem Value).run P w = .ok v' w ∧ VR μ v v' := by
  obtain ⟨v', h1, h2⟩ := cLoad_run h hok hp hb
  unfold cLoad at h
  split at h
  · cases hp with
    | ptr har => exact ⟨v', by simpa [Instr.loadAt, Instr.sureAddr, asAddr] using h1, h2⟩
  · cases h
theorem cLoad_lt {t : TypeId} {p v : Value} {b : Nat} (hu : Under H n) (h : cLoad P t H p = some (v, b)) : b < n := by
  unfold cLoad at h
  split at h
  · split at h
    · rename_i hg
      split at h
      · simp only [Option.some.injEq, Prod.mk.injEq] at h
        obtain ⟨_, rfl⟩ := h
        exact hu.lt hg
      · cases h
    · cases h
  · cases h
inductive VRl (μ : Mu) : List Value → List Value → Prop
  | nil : VRl μ [] []
  | cons {v v' l l'} : VR μ v v' → VRl μ l l' → VRl μ (v :: l) (v' :: l')
theorem VRl.vrs {μ : Mu} {l l' : List Value} (h : VRl μ l l') : l.length = l'.length ∧ ∀ (i : Nat) v v', l[i]? = some v → l'[i]? = some v' → VR μ v v' := by
  induction h with
  | nil => exact ⟨rfl, fun i v v' h => by simp at h⟩
  | cons h _ ih =>
    refine ⟨by simp [ih.1], fun i v v' a b => ?_⟩
    cases i with
    | zero => simp only [List.getElem?_cons_zero, Option.some.injEq] at a b; subst a b; exact h
    | succ i => exact ih.2 i v v' (by simpa using a) (by simpa using b)
def resF (A : Array Value) : ResultVar → Sem Value
  | .tmp t => pure (A.getD t undef)
  | .cell a t => do loadVar t (← asAddr (A.getD a undef))
theorem results_resF (fn : Func) (A : Array Value) : results fn A = (do
    let vs ← fn.results.mapM (resF A)
    pure (if h : vs.size = 1 then vs[0] else .tuple vs)) := by
  unfold results
  congr 2
theorem resVars_run {S : Nat → Prop} {μ : Mu} {w : World} {T : Tm} {A : Array Value} (hu : Under H n) (hok : Ok B S μ (hget H) w) (ht : TR μ T A) : ∀ (l : List ResultVar) (vs : List Value) (R : List Nat), resVars P H T l = some (vs, R) → (∀ i ∈ R, i < n → S i) →
    ∃ vs', (l.mapM (resF A)).run P w = .ok vs' w ∧ VRl μ vs vs'
  | [], vs, R, h, _ => by
    simp only [resVars, Option.some.injEq, Prod.mk.injEq] at h
    obtain ⟨rfl, rfl⟩ := h
    exact ⟨[], by simp, .nil⟩
  | .tmp t :: l, vs, R, h, hR => by
    simp only [resVars] at h
    split at h
    · rename_i vs1 R1 h1
      simp only [Option.some.injEq, Prod.mk.injEq] at h
      obtain ⟨rfl, rfl⟩ := h
      obtain ⟨vs', h2, h3⟩ := resVars_run hu hok ht l vs1 R1 h1 hR
      exact ⟨A.getD t undef :: vs', by simp only [List.mapM_cons, resF, Sem.run_bind, Sem.run_pure, Result.andThen_ok, h2], .cons (ht.2 t) h3⟩
    · cases h
  | .cell a t :: l, vs, R, h, hR => by
    simp only [resVars] at h
    split at h
    · rename_i v b hv
      split at h
      · rename_i vs1 R1 h1
        simp only [Option.some.injEq, Prod.mk.injEq] at h
        obtain ⟨rfl, rfl⟩ := h
        obtain ⟨vs', h2, h3⟩ := resVars_run hu hok ht l vs1 R1 h1 (fun i hi => hR i (List.mem_cons_of_mem _ hi))
        obtain ⟨v', h4, h5⟩ := cell_run hv hok (ht.2 a) (hR b (by simp) (cLoad_lt hu hv))
        exact ⟨v' :: vs', by simp only [List.mapM_cons, resF, Sem.run_bind] at h4 ⊢; simp only [h4, Sem.run_pure, Result.andThen_ok, h2], .cons h5 h3⟩
      · cases h
    · cases h
theorem oneOf_run {μ : Mu} {vs vs' : List Value} (h : VRl μ vs vs') : VR μ (oneOf vs) (if h : vs'.toArray.size = 1 then vs'.toArray[0] else .tuple vs'.toArray) := by
  have hv := h.vrs
  cases h with
  | nil => exact .tuple rfl fun i v v' h => by simp at h
  | cons h1 h2 =>
    cases h2 with
    | nil => simpa [oneOf] using h1
    | cons h3 h4 =>
      simp only [oneOf]
      rw [dif_neg (by simp)]
      exact .tuple (by simpa using hv.1) (by simpa using hv.2)
theorem done_ret {v : Value} {R : List Nat} (hu : Under H n) (hm : c.mode = .ret) (hd : c.defers = []) (hv : resC P c.fn H c.tmps = some (v, R)) : FJ P B c H n (.ret v) H n R [] := by
  refine ⟨Shape.same _ _ _, fun S μ w fr cs hok hB hS hf hfr hR => ?_⟩
  have ht := hfr.tmps
  unfold resC at hv
  rw [nth_eq, Array.getElem?_toList] at hv
  split at hv
  · rename_i fn hfn
    split at hv
    · rename_i vs R1 hvs
      simp only [Option.some.injEq, Prod.mk.injEq] at hv
      obtain ⟨rfl, rfl⟩ := hv
      obtain ⟨vs', h1, h2⟩ := resVars_run hu hok ht _ _ _ hvs hR
      have hmode : fr.mode = .returning := by
        have := hfr.mode
        rw [hm] at this
        generalize fr.mode = m at this
        cases this
        rfl
      have hdf : fr.defers = [] := by
        have := hfr.defers
        rw [hd] at this
        exact this.empty
      have hres : (results fn fr.tmps).run P w = .ok (if h : vs'.toArray.size = 1 then vs'.toArray[0] else .tuple vs'.toArray) w := by
        rw [results_resF, Array.mapM_eq_mapM_toList]
        simp only [Sem.run_bind, Sem.run_map, h1, Result.andThen_ok, Sem.run_pure]
      have hleave : fr.leaving P w (.returned (if h : vs'.toArray.size = 1 then vs'.toArray[0] else .tuple vs'.toArray)) := ⟨hmode, hdf, hfr.kind, fn, by rw [hfr.fn]; exact hfn, hres⟩
      exact ⟨.ret _, w, μ, Post.refl hok, .ret (oneOf_run h2), fun _ => ⟨fr, Steps.refl _ _, rfl, hleave⟩, fun c0 cs' e => by subst e; exact .one (step_leave_returned hleave)⟩
    · cases hv
  · cases hv
theorem done_pan {v : Value} (hm : c.mode = .pan v) (hd : c.defers = []) (hv : isFn P c.fn = true) : FJ P B c H n (.pan v) H n [] [] := by
  refine ⟨Shape.same _ _ _, fun S μ w fr cs hok hB hS hf hfr hR => ?_⟩
  unfold isFn at hv
  rw [nth_eq, Array.getElem?_toList] at hv
  split at hv
  · rename_i fn hfn
    have hmode := hfr.mode
    rw [hm] at hmode
    generalize hq : fr.mode = m at hmode
    cases hmode with
    | pan hvr =>
      rename_i v'
      have hdf : fr.defers = [] := by
        have := hfr.defers
        rw [hd] at this
        exact this.empty
      have hleave : fr.leaving P w (.panicked [{ v := v', recovered := false }]) := ⟨hq, hdf, fn, by rw [hfr.fn]; exact hfn⟩
      exact ⟨.pan v', w, μ, Post.refl hok, .pan hvr, fun _ => ⟨fr, Steps.refl _ _, rfl, hleave⟩, fun c0 cs' e => by subst e; exact .one (step_leave_panicked hleave)⟩
  · cases hv
end
end Go.CE

namespace Go.CE
open Go Go.RowKit

theorem edgesOk_spec : ∀ (l : List Oper) (k : Nat), edgesOk k l = true → ∀ (j : Nat) o, l[j]? = some o → ∀ e ∈ o.after, Region.binds .any e = true → e.on < k + j
  | [], _, _, j, o, h => by simp at h
  | x :: l, k, h, j, o, hj => by
    simp only [edgesOk, Bool.and_eq_true] at h
    cases j with
    | zero =>
      simp only [List.getElem?_cons_zero, Option.some.injEq] at hj
      subst hj
      intro e he hb
      have := Array.all_eq_true'.1 h.1 e he
      rw [hb] at this
      have := Nat.le_of_ble_eq_true (show Nat.ble (e.on + 1) k = true by simpa [Nat.blt] using this)
      omega
    | succ j =>
      intro e he hb
      have := edgesOk_spec l (k + 1) h.2 j o (by simpa using hj) e he hb
      omega
theorem own_of_map {recs : List Rec} {l : List Oper} {ops : Array Oper} {l2 : List Oper} (h : recs.map (·.o) ++ l2 = l) (hl : l = ops.toList) (j : Nat) (r : Rec) (hj : recs[j]? = some r) : ops[j]? = some r.o := by
  have e : (recs.map (·.o) ++ l2)[j]? = some r.o := by
    rw [List.getElem?_append_left (by simpa using (List.getElem?_eq_some_iff.1 hj).1), List.getElem?_map, hj]; rfl
  rw [h, hl, Array.getElem?_toList] at e
  exact e
section
variable {P : Program} {F : FuncId → Bool} {orc : Orc} {B : Lo} {rec : CF → Heap → Nat → Option Rs} {c : CF} {H : Heap} {n : Nat}
theorem step_region_text {fr : Frame} {cs : List Frame} {w : World} {id : Nat} {ops : Array Oper} {k : List Item} (hm : fr.mode = .run) (ht : fr.todo = .code (.region id ops false) :: k) : step P (lone fr cs w) = .next (lone (inReg fr fr.tmps ops (List.range' 0 ops.size) k) cs w) :=
  step_lone_go (by simp [stepG, stepG.exec, hm, ht, inReg, List.range_eq_range'])
theorem go_region (hF : ∀ g, F g = true → okFn P g = true) (hrec : RecS P B rec) (horc : OrcS P B orc) (hmix : P.follows .mixedOrders = true) {id : Nat} {ops : Array Oper} {draw : Bool} {k : List Item} {recs : List Rec} {T' : Tm} {H' : Heap} {n' : Nat} (hm : c.mode = .run) (hu : Under H n)
    (ht : c.todo = .code (.region id ops draw) :: k) (h : rrun P F orc rec ops ops.toList c.tmps H n = some (recs, .ok T' H' n')) (hd : (!draw || (edgesOk 0 ops.toList && indep ops 0 recs (befs ops.toList []))) = true) :
    GoJ P B c H n { c with tmps := T', todo := k } H' n' (allR recs) (allW recs) := by
  obtain ⟨hs, hk, hch, hmap, hu'⟩ := rrun_sound hF hrec horc (len := c.tmps.len) ops.toList c.tmps H n recs _ rfl hu h
  have hown := own_of_map (l := ops.toList) (l2 := []) (by rw [List.append_nil]; exact hmap) rfl
  have hlen : recs.length = ops.size := by have := congrArg List.length hmap; simpa using this
  refine ⟨chain_shape recs _ _ _ _ _ _ hch hs, fun S μ w fr cs Z hok hB hS hf hfr hR => ?_⟩
  obtain ⟨a, b, d⟩ := hfr.running hm
  rw [ht] at d
  obtain ⟨L', e, hL⟩ := d.code
  cases draw with
  | false =>
    obtain ⟨μ', A', w', hp, hT, hst⟩ := seq_run (fr := fr) (cs := cs) (k := L') a recs 0 c.tmps H n T' H' n' [] hch hs hk (fun j r hj => by rw [Nat.zero_add]; exact hown j r hj) rfl S μ w fr.tmps hok hB hS hf hR b
    rw [List.append_nil, hlen] at hst
    exact ⟨{ fr with tmps := A', todo := L' }, w', μ', hp, ⟨hfr.fn, hT, fun _ => hL.mono (hp.mu hf), hfr.defers.mono (hp.mu hf), hfr.mode.mono (hp.mu hf), hfr.kind, hfr.round.mono (hp.mu hf)⟩, rfl, rfl,
      .head (step_region_text a e) (hst.trans (.one (step_inReg_end a)))⟩
  | true =>
    simp only [Bool.not_true, Bool.false_or, Bool.and_eq_true] at hd
    have hedge : ∀ (q : Nat) o, ops[q]? = some o → ∀ e ∈ o.after, Region.binds .any e = true → e.on < q := by
      intro q o ho e he hb
      have := edgesOk_spec ops.toList 0 hd.1 q o (by rw [Array.getElem?_toList]; exact ho) e he hb
      omega
    have hbef := befs_ok ops.toList (fun q o ho => hedge q o (by simpa using ho))
    have hset : Setup P B ops recs (befs ops.toList []) c.tmps H n T' H' n' := ⟨hch, hs, hown, hlen, by simpa using hbef.1, indep_spec recs _ 0 hd.2, hedge⟩
    obtain ⟨μ', A', w', hp, hT, hst⟩ := region_draw hmix hset hk hok hS hR hf hB (fr := fr) (cs := cs) (id := id) (k := L') a b e
    exact ⟨{ fr with tmps := A', todo := L' }, w', μ', hp, ⟨hfr.fn, hT, fun _ => hL.mono (hp.mu hf), hfr.defers.mono (hp.mu hf), hfr.mode.mono (hp.mu hf), hfr.kind, hfr.round.mono (hp.mu hf)⟩, rfl, rfl, hst⟩
theorem go_region_pan (hF : ∀ g, F g = true → okFn P g = true) (hrec : RecS P B rec) (horc : OrcS P B orc) {id : Nat} {ops : Array Oper} {k : List Item} {recs : List Rec} {v : Value} {H' : Heap} {n' : Nat} {R W : List Nat} {T' : Tm} (hm : c.mode = .run) (hu : Under H n)
    (ht : c.todo = .code (.region id ops false) :: k) (h : rrun P F orc rec ops ops.toList c.tmps H n = some (recs, .pan T' v H' n' R W)) :
    GoJ P B c H n { c with tmps := T', mode := .pan v } H' n' (allR recs ++ R) (allW recs ++ W) := by
  obtain ⟨hs, hk, H1, n1, o, l2, hch, hmap, hwant, hdo, hsh⟩ := rrun_sound hF hrec horc (len := c.tmps.len) ops.toList c.tmps H n recs _ rfl hu h
  have hown := own_of_map (l2 := o :: l2) hmap rfl
  have hlen : ops.size = recs.length + (l2.length + 1) := by have := congrArg List.length hmap; simp at this; omega
  have hat : ops[recs.length]? = some o := by
    rw [← Array.getElem?_toList, ← hmap, List.getElem?_append_right (by simp)]
    simp
  have hsh1 := chain_shape recs _ _ _ _ _ _ hch hs
  have l1 := hsh1.le
  have l3 := hsh.le
  refine ⟨hsh1.trans hsh, fun S μ w fr cs Z hok hB hS hf hfr hR => ?_⟩
  obtain ⟨a, b, d⟩ := hfr.running hm
  rw [ht] at d
  obtain ⟨L', e, hL⟩ := d.code
  have hf1 : Free μ n n1 := fun q x y => hf q x (by omega)
  obtain ⟨μ1, A1, w1, hp, hT, hst⟩ := seq_run (fr := fr) (cs := cs) (k := L') a recs 0 c.tmps H n T' H1 n1 (List.range' recs.length (l2.length + 1)) hch hs hk (fun j r hj => by rw [Nat.zero_add]; exact hown j r hj) rfl S μ w fr.tmps hok hB hS hf1
    (fun q hq hlt => hR q (List.mem_append_left _ hq) hlt) b
  have hr : List.range' 0 recs.length ++ List.range' recs.length (l2.length + 1) = List.range' 0 ops.size := by
    rw [hlen]
    have := List.range'_append_1 (s := 0) (m := recs.length) (n := l2.length + 1)
    simpa using this
  rw [hr, List.range'_succ] at hst
  obtain ⟨out', w2, μ2, hp2, ho, hst2⟩ := hdo _ μ1 w1 (inReg fr A1 ops (recs.length :: List.range' (recs.length + 1) l2.length) L') cs L' ops recs.length _ hp.ok (hB.post hok hp) (fun q hq => hq.elim (fun e => by have := hS q e; omega) (fun e => e.2))
    (fun q x y => by rw [hp.ext q (by omega)]; exact hf q (by omega) y) (fun x _ v hv => ev_TR (fr := inReg fr A1 ops (recs.length :: List.range' (recs.length + 1) l2.length) L') hT x v hv) (fun q hq hlt => by
      rcases Nat.lt_or_ge q n with h1 | h1
      · exact .inl (hR q (List.mem_append_right _ hq) h1)
      · exact .inr ⟨h1, hlt⟩) a rfl hat (by rw [show (inReg fr A1 ops (recs.length :: List.range' (recs.length + 1) l2.length) L').tmps = A1 from rfl, yielded_TR hT]; exact hwant)
  have hpp := hp.trans hp2
  cases ho with
  | pan hv =>
    rename_i v'
    refine ⟨{ inReg fr A1 ops (recs.length :: List.range' (recs.length + 1) l2.length) L' with mode := .panicking [{ v := v', recovered := false }] }, w2, μ2, hpp, ⟨hfr.fn, hT.mono (hp2.mu fun q x y => by rw [hp.ext q (by omega)]; exact hf q (by omega) y), (fun h => by cases h), hfr.defers.mono (hpp.mu hf), .pan hv, hfr.kind, hfr.round.mono (hpp.mu hf)⟩, rfl, rfl,
      .head (step_region_text a e) (hst.trans (hst2.trans ?_))⟩
    simp only [OO.on, Frame.raise, inReg, a]
    exact Steps.refl _ _
theorem chain_snoc {x : Rec} {H2 : Heap} {n2 : Nat} : ∀ (l : List Rec) (T : Tm) (H : Heap) (n : Nat), Chain l T H n x.T x.H x.n → H2 = x.H' → n2 = x.n' → Chain (l ++ [x]) T H n (tput x.T x.o.dst x.v) H2 n2
  | [], T, H, n, h, h1, h2 => by obtain ⟨rfl, rfl, rfl⟩ := h; exact ⟨rfl, rfl, rfl, rfl, h1.symm, h2.symm⟩
  | r :: l, T, H, n, h, h1, h2 => by
    obtain ⟨a, b, c, d⟩ := h
    exact ⟨a, b, c, chain_snoc l _ _ _ d h1 h2⟩
theorem go_pan_draw (hmix : P.follows .mixedOrders = true) {id : Nat} {ops : Array Oper} {k : List Item} {recs : List Rec} {v : Value} {H' : Heap} {n' : Nat} {R W : List Nat} {T' : Tm} (hm : c.mode = .run)
    (ht : c.todo = .code (.region id ops true) :: k) (hs : ∀ x ∈ recs, Sane c.tmps.len x) (hk : ∀ x ∈ recs, RecOk P B ops x)
    (h : ∃ H1 n1 o l2, Chain recs c.tmps H n T' H1 n1 ∧ recs.map (·.o) ++ o :: l2 = ops.toList ∧ Region.wanted o (yieldedC ops T') = true ∧ Does P B o (evC T') H1 n1 (.pan v) H' n' R W ∧ Shape H1 n1 H' n' R W) (hd : panLast ops recs T' = true) :
    GoJ P B c H n { c with tmps := T', mode := .pan v } H' n' (allR recs ++ R) (allW recs ++ W) := by
  obtain ⟨H1, n1, o, l2, hch, hmap, hwant, hdo, hsh⟩ := h
  simp only [panLast, Bool.and_eq_true, Nat.beq_eq, List.all_eq_true, List.mem_range, List.contains_iff_mem] at hd
  obtain ⟨d1, d2, d3, d4, d5⟩ := hd
  have hlen : ops.size = recs.length + 1 := by rw [d3]; simp
  have hl2 : l2 = [] := by
    have := congrArg List.length hmap
    simp at this
    exact List.eq_nil_of_length_eq_zero (by omega)
  subst hl2
  let x : Rec := ⟨o, true, undef, T', H1, H', n1, n', R, W⟩
  have hsh1 := chain_shape recs _ _ _ _ _ _ hch hs
  have hom : o ∈ ops.toList := by rw [← hmap]; simp
  have hTl : T'.len = c.tmps.len := (chain_tmps (len := c.tmps.len) 0 recs 0 _ _ _ _ _ _ hch hs rfl).2.1
  have hsx : Sane c.tmps.len x := ⟨hsh.le, hsh.keep, hsh.top, hsh.sub, hsh.wlt, fun d hd => by rw [← hTl]; exact dstOk_spec (d5 o hom) d hd⟩
  have hch2 : Chain (recs ++ [x]) c.tmps H n (tput T' o.dst undef) H' n' := chain_snoc (x := x) recs _ _ _ hch rfl rfl
  have hs2 : ∀ r ∈ recs ++ [x], Sane c.tmps.len r := fun r hr => (List.mem_append.1 hr).elim (hs r) fun e => by rw [List.mem_singleton.1 e]; exact hsx
  have hmap2 : (recs ++ [x]).map (·.o) ++ [] = ops.toList := by rw [List.append_nil, List.map_append, ← hmap]; rfl
  have hown := own_of_map (l2 := []) hmap2 rfl
  have hedge : ∀ (q : Nat) o, ops[q]? = some o → ∀ e ∈ o.after, Region.binds .any e = true → e.on < q := by
    intro q o ho e he hb
    have := edgesOk_spec ops.toList 0 d1 q o (by rw [Array.getElem?_toList]; exact ho) e he hb
    omega
  have hbef := befs_ok ops.toList (fun q o ho => hedge q o (by simpa using ho))
  have hat : (recs ++ [x])[recs.length]? = some x := by rw [List.getElem?_append_right (by omega)]; simp
  have hsz : ops.size - 1 = recs.length := by omega
  have hset : Setup P B ops (recs ++ [x]) (befs ops.toList []) c.tmps H n (tput T' o.dst undef) H' n' := by
    refine ⟨hch2, hs2, hown, by simp; omega, by simpa using hbef.1, ?_, hedge⟩
    intro i j r y hij hi hj htd
    have hjl : j < (recs ++ [x]).length := (List.getElem?_eq_some_iff.1 hj).1
    simp at hjl
    rcases Nat.lt_or_ge j recs.length with hlt | hge
    · rw [List.getElem?_append_left (by omega)] at hi
      rw [List.getElem?_append_left hlt] at hj
      exact indep_spec recs _ 0 d2 i j r y hij hi hj htd
    · have : j = recs.length := by omega
      rw [this, Nat.zero_add]
      exact d4 i (by omega)
  have hk2 : ∀ (i : Nat) r, (recs ++ [x])[i]? = some r → i + 1 < ops.size → RecOk P B ops r := by
    intro i r hr hi
    rw [List.getElem?_append_left (by omega)] at hr
    exact hk r (List.mem_of_getElem? hr)
  have eR : allR (recs ++ [x]) = allR recs ++ R := by simp [allR, x]
  have eW : allW (recs ++ [x]) = allW recs ++ W := by simp [allW, x]
  refine ⟨hsh1.trans hsh, fun S μ w fr cs Z hok hB hS hf hfr hR => ?_⟩
  obtain ⟨a, b, d⟩ := hfr.running hm
  rw [ht] at d
  obtain ⟨L', e, hL⟩ := d.code
  obtain ⟨μ', A', w', l, v', hp, hT, hv, hst⟩ := region_draw_pan hmix hset hk2 (fun i hi => by rw [hsz]; exact d4 i (by omega)) (x := x) (v := v) (by rw [hsz]; exact hat) hdo hwant hok hS (by rw [eR]; exact hR) hf hB (fr := fr) (cs := cs) (id := id) (k := L') a b e
  rw [eW] at hp
  exact ⟨{ inReg fr A' ops ((ops.size - 1) :: l) L' with mode := .panicking [{ v := v', recovered := false }] }, w', μ', hp, ⟨hfr.fn, hT, (fun h => by cases h), hfr.defers.mono (hp.mu hf), .pan hv, hfr.kind, hfr.round.mono (hp.mu hf)⟩, rfl, rfl, hst⟩
theorem DfB.app {Z : Bot} {μ : Mu} {a b : List Nat} {a' b' : List Deferred} (h : DfR μ a a') (k : DfB Z μ b b') : DfB Z μ (a ++ b) (a' ++ b') := by
  obtain ⟨L, h1, h2⟩ := k
  subst h2
  rw [← List.append_assoc]
  refine ⟨_, ?_, rfl⟩
  induction h with
  | nil => exact h1
  | cons h _ ih => exact .cons h ih
theorem tmArr_VRs {μ : Mu} {T : Tm} {A : Array Value} (h : TR μ T A) : VRs μ (tmArr T) A := by
  refine ⟨by simp [tmArr, h.1], fun i v v' hv hv' => ?_⟩
  have hi : i < T.len := by
    have := (Array.getElem?_eq_some_iff.1 hv).1
    simpa [tmArr] using this
  have e1 : v = tget T i := by simpa [tmArr, hi] using hv.symm
  have e2 : A.getD i undef = v' := by simp [hv']
  rw [e1, ← e2]
  exact h.2 i
theorem cCall_enter {H : Heap} {f : Value} {args xs : Array Value} {g : FuncId} {R : List Nat} (h : cCall F H f args = some (.enter g xs, R)) : R = [] := by
  unfold cCall at h
  split at h
  · have := bif_some h
    simp only [Prod.mk.injEq] at this
    exact this.2.symm
  · split at h
    · have := bif_some h
      simp only [Prod.mk.injEq] at this
      cases this.1
    · cases h
  · cases h
theorem openLoop_sound {ps : Array Tmp} {assign body : Code} {H1 : Heap} {l : Nat} {ds R1 : List Nat} (hu : Under H n) (h : openLoop c H n ps assign body = some (H1, l, ds, R1)) :
    Shape H n H1 (l + 1) R1 [] ∧ ∀ (S : Nat → Prop) (μ : Mu) (w : World) (fr : Frame), Ok B S μ (hget H) w → B.has w → (∀ i, S i → i < n) → Free μ n (l + 1) → fr.fn = c.fn → TR μ c.tmps fr.tmps → RoR μ c.roundOf fr.roundOf → (∀ i ∈ R1, i < n → S i) →
      ∃ mark w1 μ1 im, (Instr.enterLoop fr.fn fr.tmps ps assign body fr.roundOf).run P w = .ok (im.blk, mark) w1 ∧ μ1 l = some im ∧ Post B S n (l + 1) [] μ μ1 H H1 w w1 ∧ DfR μ1 ds mark := by
  unfold openLoop at h
  split at h
  · rename_i hr
    simp only [Option.some.injEq, Prod.mk.injEq] at h
    obtain ⟨rfl, rfl, rfl, rfl⟩ := h
    refine ⟨(Shape.new H n _ []).trans (Shape.new _ (n + 1) _ []), fun S μ w fr hok hB hS hf hfn ht hro hR => ?_⟩
    have hro : fr.roundOf = none := by
      rw [hr] at hro
      cases hq : fr.roundOf with
      | none => rfl
      | some x => rw [hq] at hro; exact hro.elim
    have p1 := Post.alloc hok hB.le hS (hf n (by omega) (by omega)) (.deferred (some [])) (.deferred (some [])) 0 ⟨rfl, heap_alloc _ _, .inl rfl⟩
    have hn1 : upd μ n ⟨w.heap.size, 0, 0, true, nofm⟩ (n + 1) = none := by
      rw [p1.ext (n + 1) (by omega)]; exact hf (n + 1) (by omega) (by omega)
    have p2 := Post.alloc (n := n + 1) p1.ok (Nat.le_trans hB.le p1.grow) (fun i hi => hi.elim (fun e => by have := hS i e; omega) (fun e => e.2)) hn1
      (.loop ⟨.ready, none, c.fn, tmArr c.tmps, ps, assign, body, n⟩) (.loop ⟨.ready, none, fr.fn, fr.tmps, ps, assign, body, w.heap.size⟩) 0
      ⟨rfl, fr.tmps, w.heap.size, by rw [hfn]; exact heap_alloc _ _, tmArr_VRs (ht.mono ((p1.mu (fun q a b => hf q a (by omega))).trans (upd_ext hn1)))⟩
    refine ⟨[{ target := .collected w.heap.size, args := #[] }], _, _, _, ?_, upd_self, p1.trans p2, ?_⟩
    · rw [hro, run_enterLoop_outer]
      rw [show (w.alloc (.deferred (some []))).heap.size = w.heap.size + 1 by simp]
    · refine .cons (im := ⟨w.heap.size, 0, 0, true, nofm⟩) ?_ .nil
      exact upd_ext hn1 _ _ upd_self
  · rename_i l0 hr
    split at h
    · rename_i r hg
      simp only [Option.some.injEq, Prod.mk.injEq] at h
      obtain ⟨rfl, rfl, rfl, rfl⟩ := h
      refine ⟨Shape.new H n _ [l0], fun S μ w fr hok hB hS hf hfn ht hro hR => ?_⟩
      obtain ⟨im, him, hor⟩ := hok.rel l0 _ (hR l0 (by simp) (hu.lt hg)) hg trivial
      obtain ⟨_, tm, df, hw, _⟩ := hor
      have hro : fr.roundOf = some im.blk := by
        rw [hr] at hro
        cases hq : fr.roundOf with
        | none => rw [hq] at hro; exact hro.elim
        | some x =>
          rw [hq] at hro
          obtain ⟨im', him', hx⟩ := hro
          rw [him] at him'
          cases him'
          rw [hx]
      have hn1 := hf n (by omega) (by omega)
      have p1 := Post.alloc hok hB.le hS hn1 (.loop ⟨.ready, none, c.fn, tmArr c.tmps, ps, assign, body, n⟩) (.loop ⟨.ready, none, fr.fn, fr.tmps, ps, assign, body, df⟩) 0
        ⟨rfl, fr.tmps, df, by rw [hfn]; exact heap_alloc _ _, tmArr_VRs (ht.mono (upd_ext hn1))⟩
      refine ⟨[], _, _, _, ?_, upd_self, p1, .nil⟩
      rw [hro, run_enterLoop_inner hw]
    · cases h
theorem step_rangeFunc {fr : Frame} {cs : List Frame} {w w1 : World} {f : Operand} {ps : Array Tmp} {assign body : Code} {k : List Item} {l : Nat} {mark : List Deferred} {g : FuncId} {args : Array Value} (hm : fr.mode = .run) (ht : fr.todo = .code (.rangeFunc f ps assign body) :: k)
    (he : (Instr.enterLoop fr.fn fr.tmps ps assign body fr.roundOf).run P w = .ok (l, mark) w1) (hc : (do let d ← Deferred.ofValue (fr.eval f) #[.func (.yield l) #[] #[]]; invoke d.target d.args : Sem Next).run P w1 = .ok (.enter g args) w1) :
    step P (lone fr cs w) = .next (lone (Frame.enter P g args .normal) ({ fr with todo := .inRangeFunc l :: k, defers := mark ++ fr.defers } :: cs) w1) := by
  refine step_lone_go ?_
  have hev : ({ fr with todo := .inRangeFunc l :: k, defers := mark ++ fr.defers } : Frame).eval = fr.eval := by funext x; cases x <;> rfl
  have hres : resolve fr.eval { callee := .value f, args := #[.const (.func (.yield l) #[] #[])], argTypes := #[] } 0 = Deferred.ofValue (fr.eval f) #[.func (.yield l) #[] #[]] := by simp [resolve, Frame.eval]
  rw [hm] at hev
  rw [Sem.run_bind] at hc
  simp [stepG, stepG.exec, hm, ht, Sem.runT_eq, he, GStep.bare_after, stepG.apply, hev, hres, Sem.run_bind, hc]
end
end Go.CE

namespace Go.CE
open Go Go.RowKit

theorem bif_true {α : Type} {q : Bool} {x : α} {r : Option α} (h : (bif q then some x else none) = r) (hr : r.isSome = true) : q = true := by
  cases q with
  | true => rfl
  | false => subst h; cases hr
section
variable {P : Program} {F : FuncId → Bool} {orc : Orc} {B : Lo} {rec : CF → Heap → Nat → Option Rs} {c : CF} {H : Heap} {n : Nat}
theorem rangeFunc_any (hF : ∀ g, F g = true → okFn P g = true) (hrec : RecS P B rec) {f : Operand} {ps : Array Tmp} {assign body : Code} {k : List Item} {fv : Value} {H1 : Heap} {l : Nat} {ds R1 R2 : List Nat} {g : FuncId} {args : Array Value} {c1 : CF} {s : Rs} (hm : c.mode = .run) (hu : Under H n)
    (ht : c.todo = .code (.rangeFunc f ps assign body) :: k) (hfv : evC c.tmps f = some fv) (ho : openLoop c H n ps assign body = some (H1, l, ds, R1)) (hc : cCall F H1 fv #[.func (.yield l) #[] #[]] = some (.enter g args, R2)) (he : enterC P g args = some c1) (hs : rec c1 H1 (l + 1) = some s) :
    Shape H n s.H s.n (R1 ++ R2 ++ s.R) s.W ∧ ∀ (S : Nat → Prop) (μ : Mu) (w : World) (fr : Frame) (cs : List Frame) (Z : Bot), Ok B S μ (hget H) w → B.has w → (∀ i, S i → i < n) → Free μ n s.n → FrR Z μ c fr → (∀ i ∈ R1 ++ R2 ++ s.R, i < n → S i) →
      ∃ out' w' μ' im mark L', Post B S n s.n s.W μ μ' H s.H w w' ∧ μ' l = some im ∧ OR2 μ' s.out out' ∧ TodoR μ' k L' ∧ DfR μ' ds mark ∧ fr.mode = .run ∧ Ext μ μ' ∧ TR μ' c.tmps fr.tmps ∧
        Steps P (lone fr cs w) (lone (out'.on { fr with todo := .inRangeFunc im.blk :: L', defers := mark ++ fr.defers }) cs w') := by
  have hR2 := cCall_enter hc
  subst hR2
  rw [List.append_nil]
  obtain ⟨hsh1, hsem⟩ := openLoop_sound (P := P) (B := B) hu ho
  have hfj := hrec c1 H1 (l + 1) s (hu.shape hsh1) hs
  have l1 := hsh1.le
  have l2 := hfj.shape.le
  refine ⟨hsh1.trans hfj.shape, fun S μ w fr cs Z hok hB hS hf hfr hR => ?_⟩
  obtain ⟨a, b, d⟩ := hfr.running hm
  rw [ht] at d
  obtain ⟨L', e, hL⟩ := d.code
  have hf1 : Free μ n (l + 1) := fun q x y => hf q x (by omega)
  obtain ⟨mark, w1, μ1, im, hel, him, hp, hdf⟩ := hsem S μ w fr hok hB hS hf1 hfr.fn b hfr.round (fun q hq hlt => hR q (List.mem_append_left _ hq) hlt)
  have e1 := hp.mu hf1
  obtain ⟨nx', hrun, hnr⟩ := cCall_run (P := P) hF hc hp.ok ((ev_TR b f fv hfv).mono e1) (args' := #[.func (.yield im.blk) #[] #[]]) ⟨rfl, fun i v v' h1 h2 => by
    match i, h1, h2 with
    | 0, h1, h2 => simp only [List.getElem?_toArray, List.getElem?_cons_zero, Option.some.injEq] at h1 h2; subst h1 h2; exact .yield him
    | i + 1, h1, h2 => simp at h1⟩ (fun i hi => by simp at hi)
  cases hnr with
  | enter ha =>
    have hf2 : ∀ q, l + 1 ≤ q → q < s.n → μ1 q = none := fun q x y => by rw [hp.ext q (by omega)]; exact hf q (by omega) y
    obtain ⟨out', w', μ', hp2, ho2, hends⟩ := hfj.sem _ μ1 w1 _ ({ fr with todo := .inRangeFunc im.blk :: L', defers := mark ++ fr.defers } :: cs) hp.ok (hB.post hok hp) (fun q hq => hq.elim (fun e => by have := hS q e; omega) (fun e => e.2)) hf2 (enterC_FrR he ha) (fun q hq hlt => by
      rcases Nat.lt_or_ge q n with h1 | h1
      · exact .inl (hR q (List.mem_append_right _ hq) h1)
      · exact .inr ⟨h1, hlt⟩)
    have e2 := hp2.mu hf2
    exact ⟨out', w', μ', im, mark, L', hp.trans hp2, e2 _ _ him, ho2, hL.mono (e1.trans e2), hdf.mono e2, a, e1.trans e2, b.mono (e1.trans e2), .head (step_rangeFunc a e hel hrun) (hends.2 _ _ rfl)⟩
theorem go_rangeFunc (hF : ∀ g, F g = true → okFn P g = true) (hrec : RecS P B rec) {f : Operand} {ps : Array Tmp} {assign body : Code} {k : List Item} {fv v : Value} {H1 : Heap} {l : Nat} {ds R1 R2 : List Nat} {g : FuncId} {args : Array Value} {c1 : CF} {s : Rs} (hm : c.mode = .run) (hu : Under H n)
    (ht : c.todo = .code (.rangeFunc f ps assign body) :: k) (hfv : evC c.tmps f = some fv) (ho : openLoop c H n ps assign body = some (H1, l, ds, R1)) (hc : cCall F H1 fv #[.func (.yield l) #[] #[]] = some (.enter g args, R2)) (he : enterC P g args = some c1) (hs : rec c1 H1 (l + 1) = some s) (hv : s.out = .ret v) :
    GoJ P B c H n { c with todo := .endRangeFunc l :: k, defers := ds ++ c.defers } s.H s.n (R1 ++ R2 ++ s.R) s.W := by
  obtain ⟨hsh, hsem⟩ := rangeFunc_any hF hrec hm hu ht hfv ho hc he hs
  refine ⟨hsh, fun S μ w fr cs Z hok hB hS hf hfr hR => ?_⟩
  obtain ⟨out', w', μ', im, mark, L', hp, him, hor, hL, hdf, a, e, hT, hst⟩ := hsem S μ w fr cs Z hok hB hS hf hfr hR
  rw [hv] at hor
  cases hor with
  | ret _ => exact ⟨{ fr with todo := .endRangeFunc im.blk :: L', defers := mark ++ fr.defers }, w', μ', hp, ⟨hfr.fn, hT, fun _ => .cons (.endRF him) hL, DfB.app hdf (hfr.defers.mono e), hfr.mode.mono e, hfr.kind, hfr.round.mono e⟩, rfl, rfl, hst⟩
theorem go_rangeFunc_pan (hF : ∀ g, F g = true → okFn P g = true) (hrec : RecS P B rec) {f : Operand} {ps : Array Tmp} {assign body : Code} {k : List Item} {fv v : Value} {H1 : Heap} {l : Nat} {ds R1 R2 : List Nat} {g : FuncId} {args : Array Value} {c1 : CF} {s : Rs} (hm : c.mode = .run) (hu : Under H n)
    (ht : c.todo = .code (.rangeFunc f ps assign body) :: k) (hfv : evC c.tmps f = some fv) (ho : openLoop c H n ps assign body = some (H1, l, ds, R1)) (hc : cCall F H1 fv #[.func (.yield l) #[] #[]] = some (.enter g args, R2)) (he : enterC P g args = some c1) (hs : rec c1 H1 (l + 1) = some s) (hv : s.out = .pan v) :
    GoJ P B c H n { c with mode := .pan v, defers := ds ++ c.defers } s.H s.n (R1 ++ R2 ++ s.R) s.W := by
  obtain ⟨hsh, hsem⟩ := rangeFunc_any hF hrec hm hu ht hfv ho hc he hs
  refine ⟨hsh, fun S μ w fr cs Z hok hB hS hf hfr hR => ?_⟩
  obtain ⟨out', w', μ', im, mark, L', hp, him, hor, hL, hdf, a, e, hT, hst⟩ := hsem S μ w fr cs Z hok hB hS hf hfr hR
  rw [hv] at hor
  cases hor with
  | pan hvr =>
    rename_i v'
    refine ⟨{ fr with todo := .inRangeFunc im.blk :: L', defers := mark ++ fr.defers, mode := .panicking [{ v := v', recovered := false }] }, w', μ', hp, ⟨hfr.fn, hT, (fun h => by cases h), DfB.app hdf (hfr.defers.mono e), .pan hvr, hfr.kind, hfr.round.mono e⟩, rfl, rfl, hst.trans ?_⟩
    simp only [OO.on, Frame.raise, a]
    exact Steps.refl _ _
theorem fstep_sound (hF : ∀ g, F g = true → okFn P g = true) (hmix : P.follows .mixedOrders = true) (horc : OrcS P B orc) (hrec : RecS P B rec) (hu : Under H n) {fs : FS} (h : fstep P F orc rec c H n = some fs) : FsOk P B c H n fs := by
  unfold fstep at h
  split at h
  · rename_i hm
    split at h
    · rename_i ht; exact leave_sound hm hu (leaves_nil ht) h
    · rename_i k ht; exact leave_sound hm hu (leaves_ret ht) h
    · rename_i k ht; simp only [Option.some.injEq] at h; subst h; exact go_skip hm ht
    · rename_i l k ht; simp only [Option.some.injEq] at h; subst h; exact go_label hm ht
    · rename_i l k ht; simp only [Option.some.injEq] at h; subst h; exact go_inBlock hm ht
    · rename_i l k ht; simp only [Option.some.injEq] at h; subst h; exact go_inScope hm ht
    · rename_i x y k ht; simp only [Option.some.injEq] at h; subst h; exact go_seq hm ht
    · rename_i q x y k ht
      split at h
      · rename_i t hq; simp only [Option.some.injEq] at h; subst h; exact go_cond hm ht hq
      · cases h
    · rename_i id x k ht; simp only [Option.some.injEq] at h; subst h; exact go_block hm ht
    · rename_i x k ht; simp only [Option.some.injEq] at h; subst h; exact go_loop hm ht
    · rename_i x k ht; simp only [Option.some.injEq] at h; subst h; exact go_inLoop hm ht
    · rename_i x k ht; simp only [Option.some.injEq] at h; subst h; exact go_scope hm ht
    · rename_i id k ht
      split at h
      · rename_i k' hx; simp only [Option.some.injEq] at h; subst h; exact go_exit hm ht hx
      · rename_i hx; exact leave_sound hm hu (leaves_exit ht hx) h
    · rename_i id k ht
      split at h
      · rename_i k' hx; simp only [Option.some.injEq] at h; subst h; exact go_goto hm ht hx
      · rename_i hx; exact leave_sound hm hu (leaves_goto ht hx) h
    · rename_i id ops draw k ht
      split at h
      · rename_i recs T' H' n' hr
        cases hd : (!draw || (edgesOk 0 ops.toList && indep ops 0 recs (befs ops.toList []))) with
        | false => rw [hd] at h; cases h
        | true =>
          rw [← bif_some h]
          exact go_region hF hrec horc hmix hm hu ht hr hd
      · rename_i recs T' v H' n' R W hr
        cases hd : (!draw || panLast ops recs T') with
        | false => rw [hd] at h; cases h
        | true =>
          rw [← bif_some h]
          cases draw with
          | true =>
            obtain ⟨hs, hk, hro⟩ := rrun_sound hF hrec horc (len := c.tmps.len) ops.toList c.tmps H n recs _ rfl hu hr
            exact go_pan_draw hmix hm ht hs hk hro (by simpa using hd)
          | false => exact go_region_pan hF hrec horc hm hu ht hr
      · cases h
    · rename_i f ps assign body k ht
      split at h
      · rename_i fv hfv
        split at h
        · rename_i H1 l ds R1 ho
          split at h
          · rename_i g args R2 hc
            split at h
            · rename_i c1 he
              split at h
              · rename_i s hs
                split at h
                · rename_i v hv; simp only [Option.some.injEq] at h; subst h; exact go_rangeFunc hF hrec hm hu ht hfv ho hc he hs hv
                · rename_i v hv; simp only [Option.some.injEq] at h; subst h; exact go_rangeFunc_pan hF hrec hm hu ht hfv ho hc he hs hv
              · cases h
            · cases h
          · cases h
        · cases h
      · cases h
    · rename_i l k ht
      split at h
      · rename_i r hg
        by_cases hs : r.state = .busy
        · simp [hs] at h
        · simp only [hs, decide_false, Bool.not_false, cond_true, Option.some.injEq] at h
          subst h
          exact go_endRF hm hu ht hg hs
      · cases h
    · rename_i k ht
      split at h
      · rename_i l hr
        split at h
        · rename_i r hg
          by_cases hs : r.state = .ready
          · simp only [hs, decide_true, cond_true, Option.some.injEq] at h
            subst h
            exact go_beginRound hm hu ht hr hg hs
          · simp [hs] at h
        · cases h
      · cases h
    · cases h
  · rename_i hm
    split at h
    · rename_i d ds hd
      split at h
      · rename_i hg; simp only [Option.some.injEq] at h; subst h; exact go_collect hm hu hd hg
      · cases h
    · rename_i hd
      split at h
      · rename_i v hv
        have hq := bif_true h rfl
        rw [← bif_some h]
        exact done_pan hv hd hq
      · rename_i hnp
        split at h
        · rename_i v R hr hv
          simp only [Option.some.injEq] at h
          subst h
          refine done_ret hu ?_ hd hv
          cases hq : c.mode with
          | run => exact absurd hq hm
          | ret => rfl
          | pan v => exact absurd hq (hnp v)
        · cases h
theorem FJ.lists {out : OO} {H' : Heap} {n' : Nat} {R W R' W' : List Nat} (h : FJ P B c H n out H' n' R W) (hR : ∀ i, i < n → (i ∈ R' ↔ i ∈ R)) (hW : ∀ i, i < n → (i ∈ W' ↔ i ∈ W)) (hlt : ∀ i ∈ W', i < n) : FJ P B c H n out H' n' R' W' := by
  refine ⟨⟨h.shape.le, fun i hi hw => h.shape.keep i hi fun e => hw ((hW i hi).2 e), h.shape.top, fun i hi => (hR i (hlt i hi)).2 (h.shape.sub i ((hW i (hlt i hi)).1 hi)), fun i hi => by have := hlt i hi; have := h.shape.le; omega⟩, fun S μ w fr cs hok hB hS hf hfr hRS => ?_⟩
  obtain ⟨out', w', μ', hp, ho, he⟩ := h.sem S μ w fr cs hok hB hS hf hfr (fun i hi hl => hRS i ((hR i hl).2 hi) hl)
  exact ⟨out', w', μ', hp.lists hW, ho, he⟩
theorem addl_iff {b : Nat} {l acc : List Nat} {i : Nat} (hi : i < b) : i ∈ addl b l acc ↔ i ∈ acc ∨ i ∈ l := by
  obtain ⟨h1, h2, h3⟩ := addl_mem (b := b) l acc i
  exact ⟨fun h => (h1 h).imp id And.left, fun h => h.elim h2 fun h => h3 h hi⟩
theorem addl_lt {b : Nat} {l acc : List Nat} (h : ∀ i ∈ acc, i < b) : ∀ i ∈ addl b l acc, i < b := fun i hi => ((addl_mem (b := b) l acc i).1 hi).elim (h i) And.right
theorem frun_sound (hF : ∀ g, F g = true → okFn P g = true) (hmix : P.follows .mixedOrders = true) (horc : OrcS P B orc) : ∀ (fuel : Nat) (b : Nat) (c : CF) (H : Heap) (n : Nat) (R0 W0 : List Nat) (s : Rs), Under H n → (∀ i ∈ R0, i < b) → (∀ i ∈ W0, i < b) → frun P F orc fuel b c H n R0 W0 = some s →
    ∃ Rr Wr, FJ P B c H n s.out s.H s.n Rr Wr ∧ (∀ i, i < b → (i ∈ s.R ↔ i ∈ R0 ∨ i ∈ Rr)) ∧ (∀ i, i < b → (i ∈ s.W ↔ i ∈ W0 ∨ i ∈ Wr)) ∧ (∀ i ∈ s.R, i < b) ∧ (∀ i ∈ s.W, i < b)
  | 0, b, c, H, n, R0, W0, s, hu, hR0, hW0, h => by simp [frun] at h
  | fuel + 1, b, c, H, n, R0, W0, s, hu, hR0, hW0, h => by
    have hrec : RecS P B (fun c1 H1 n1 => frun P F orc fuel n1 c1 H1 n1 [] []) := by
      intro c1 H1 n1 s1 hu1 h1
      obtain ⟨Rr, Wr, hfj, a1, a2, a3, a4⟩ := frun_sound hF hmix horc fuel n1 c1 H1 n1 [] [] s1 hu1 (fun i hi => by simp at hi) (fun i hi => by simp at hi) h1
      exact hfj.lists (fun i hi => by simpa using a1 i hi) (fun i hi => by simpa using a2 i hi) a4
    simp only [frun] at h
    split at h
    · rename_i c' H' n' R' W' hs
      have hgo : GoJ P B c H n c' H' n' R' W' := fstep_sound hF hmix horc hrec hu hs
      obtain ⟨Rr, Wr, hfj, a1, a2, a3, a4⟩ := frun_sound hF hmix horc fuel b c' H' n' (addl b R' R0) (addl b W' W0) s (hu.shape hgo.shape) (addl_lt hR0) (addl_lt hW0) h
      refine ⟨R' ++ Rr, W' ++ Wr, hgo.fj hfj, fun i hi => ?_, fun i hi => ?_, a3, a4⟩
      · rw [a1 i hi, addl_iff hi, List.mem_append, or_assoc]
      · rw [a2 i hi, addl_iff hi, List.mem_append, or_assoc]
    · rename_i out H' n' R' W' hs
      have hdone : FJ P B c H n out H' n' R' W' := fstep_sound hF hmix horc hrec hu hs
      simp only [Option.some.injEq] at h
      subst h
      exact ⟨R', W', hdone, fun i hi => addl_iff hi, fun i hi => addl_iff hi, addl_lt hR0, addl_lt hW0⟩
    · cases h
end
end Go.CE
