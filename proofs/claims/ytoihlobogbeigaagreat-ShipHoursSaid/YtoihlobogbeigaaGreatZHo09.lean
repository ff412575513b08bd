/- TX 1: what a frame comes to: an answer or a panic, what it wrote of what was there, a region, and blocks of its own. -/
import Derived.Test.YtoihlobogbeigaaGreatZHo08
import Derived.Deep.Slices
import Derived.Carry
import Derived.WideShapes
import Derived.ChangeShapes
import Derived.SevenTiedAt
import Derived.Test.YtoihlobogbeigaaGreatProg
set_option linter.all false
namespace Go.CE
open Go Go.RowKit

/-! Hints, in short. -/
def hvI (n : Int) : HintT := .old (.val (.int .i64 n))
def hvT : HintT := .old (.val (.bool true))
def hvF : HintT := .old (.val (.bool false))
def coOut (f : Value → Option (Value × List Prop)) : OO → Option (OO × List Prop)
  | .ret v => match f v with
    | some (v1, L) => some (.ret v1, L)
    | none => none
  | .pan v => match f v with
    | some (v1, L) => some (.pan v1, L)
    | none => none
def finK (a : Nat) (s : Option ST) (wks keeps : List (Nat × KS)) (fz : List Fz) : Option (OO × Heap × List Obj × List Prop) := match s with
  | some ⟨.fin out H _, W, L⟩ => bif sideA a H W wks keeps fz then
      match coOut (coV H a (posA a (keeps.map (·.1))) fz 4) out, coWs H a (posA a (keeps.map (·.1))) fz wks, coObjs H a (posA a (keeps.map (·.1))) fz keeps with
      | some (v1, L1), some (ws, L3), some (os, L2) => some (v1, ws, os, L1 ++ (L3 ++ (L2 ++ L)))
      | _, _, _ => none
    else none
  | _ => none
/-- What a frame comes to from blocks 0 .. a - 1: an answer or a panic, what it wrote of them, a region a, and blocks of its own behind it. -/
def FinK (P : Program) (B : Lo) (c0 : CF) (Hb : Heap) (a : Nat) (out : OO) (ws : Heap) (os : List Obj) (Wf : List Nat) : Prop :=
  ∀ (μ : Mu) (w : World) (fr : Frame) (cs : List Frame), Ok B (fun i => i < a) μ (hget Hb) w → B.has w → (∀ i, a ≤ i → μ i = none) → FrR Bot.no μ c0 fr →
    ∃ out' w' μ', Post B (fun i => i < a) a (a + 1 + os.length) Wf μ μ' Hb (headA Hb a ws os) w w' ∧ OR2 μ' out out' ∧ (∀ i, a + 1 + os.length ≤ i → μ' i = none) ∧ EndsAs P fr cs w out' w'
section
variable {P : Program} {F : FuncId → Bool} {J : World → Prop} {B : Lo} {c0 c : CF} {Hb H : Heap} {a n : Nat} {W Wf : List Nat}
theorem GoE.finK (hF : ∀ g, F g = true → okFn P g = true) (hJ : ∀ w, B.has w → J w) (hmix : P.follows .mixedOrders = true) {wks keeps : List (Nat × KS)} (hu : Under Hb a) (hw : Writable Hb a (wks.map (·.1))) (h : GoE P B c0 Hb a c H n (wks.map (·.1))) {fuel : Nat} {sc : ScriptT} {fz : List Fz} {out : OO} {ws : Heap} {os : List Obj} {L : List Prop}
    (e : CE.finK a (srunT P F J B fuel a c H n sc 0 [] []) wks keeps fz = some (out, ws, os, L)) (hL : AllP L) : FinK P B c0 Hb a out ws os (wks.map (·.1)) := by
  unfold CE.finK at e
  split at e
  · rename_i out0 H' n' W' L' hs
    cases hq : sideA a H' W' wks keeps fz with
    | false => rw [hq] at e; cases e
    | true =>
      rw [hq] at e
      simp only [cond_true] at e
      split at e
      · rename_i v1 L1 ws0 L3 os0 L2 hv1 hws hos
        simp only [Option.some.injEq, Prod.mk.injEq] at e
        obtain ⟨rfl, rfl, rfl, rfl⟩ := e
        obtain ⟨hL1, hLr⟩ := allP_append hL
        obtain ⟨hL3, hLr⟩ := allP_append hLr
        obtain ⟨hL2, hL4⟩ := allP_append hLr
        obtain ⟨R, W2, hfj, hiff⟩ := srunT_sound hF hJ hmix fuel a c H n sc 0 [] [] _ h.under hs hL4
        intro μ w fr cs hok hB hf hfr
        obtain ⟨out', w', μ', hp, ho, he⟩ := h.fj hfj μ w fr cs hok hB hf hfr
        have hp := hp.widen (W' := wks.map (·.1)) hok (fun i hi hm => by
          rcases List.mem_append.1 hm with hm | hm
          · exact hm
          · have hi' : i ∈ W' := (hiff i hi).2 (.inr hm)
            have hq' := hq
            unfold sideA at hq'
            simp only [Bool.and_eq_true] at hq'
            simpa using List.all_eq_true.1 hq'.1.1.1.1 i hi') (fun i hi hiW => hw.rw hok hi hiW)
        obtain ⟨μ1, im1, hco, hpost, hfree, _⟩ := merge_core hu hw (h.under.shape hfj.shape) hq hok hf hp hws hos hL3 hL2
        cases ho with
        | ret hvr =>
          unfold coOut at hv1
          split at hv1
          · rename_i v0 e0
            cases e0
            split at hv1
            · rename_i v2 L2' hv2
              simp only [Option.some.injEq, Prod.mk.injEq] at hv1
              obtain ⟨rfl, rfl⟩ := hv1
              exact ⟨_, w', μ1, hpost, .ret (coV_sound hco 4 _ _ _ _ hv2 hL1 hvr), hfree, he⟩
            · cases hv1
          · rename_i e0; cases e0
        | pan hvr =>
          unfold coOut at hv1
          split at hv1
          · rename_i e0; cases e0
          · rename_i v0 e0
            cases e0
            split at hv1
            · rename_i v2 L2' hv2
              simp only [Option.some.injEq, Prod.mk.injEq] at hv1
              obtain ⟨rfl, rfl⟩ := hv1
              exact ⟨_, w', μ1, hpost, .pan (coV_sound hco 4 _ _ _ _ hv2 hL1 hvr), hfree, he⟩
            · cases hv1
      · cases e
  · cases e
theorem FinK.cast {out out1 : OO} {ws ws1 : Heap} {os os1 : List Obj} (h : FinK P B c0 Hb a out ws os Wf) (e1 : out = out1) (e2 : ws = ws1) (e3 : os = os1) : FinK P B c0 Hb a out1 ws1 os1 Wf := e1 ▸ e2 ▸ e3 ▸ h
theorem FinK.fj {out : OO} {ws : Heap} {os : List Obj} (h : FinK P B c0 Hb a out ws os Wf) (hub : Under Hb a) (hws : ∀ i o, hget ws i = some o → i < a ∧ i ∈ Wf) (hWf : ∀ i ∈ Wf, i < a) (hs : ∀ t, lowV a 4 (tget c0.tmps t) = true ∨ Loose (tget c0.tmps t)) (hp : c0.todo.all plainItem = true) (hd : c0.defers = []) (hm : c0.mode = .run) (hr : ∀ l, c0.roundOf = some l → l < a) (hob : ∀ i o, hget Hb i = some o → LowO a o) :
    FJ P B c0 Hb a out ((ws ++ ((a, regO) :: heapL (a + 1) os)) ++ Hb) (a + 1 + os.length) (List.range a) Wf := by
  have hG : (ws ++ ((a, regO) :: heapL (a + 1) os)) ++ Hb = headA Hb a ws os := by unfold headA; simp
  rw [hG]
  refine ⟨⟨by omega, fun i hi hw => ?_, fun i hi => ?_, fun i hi => List.mem_range.2 (hWf i hi), fun i hi => by have := hWf i hi; omega⟩, fun S μ w fr cs hok hB hS hf hfr hR => ?_⟩
  · rw [headA_get]
    cases hg : hget ws i with
    | some o => exact absurd (hws i o hg).2 hw
    | none => simp only; rw [if_neg (by omega), if_neg (by omega)]
  · rw [headA_get]
    cases hg : hget ws i with
    | some o => have := (hws i o hg).1; omega
    | none => simp only; rw [if_neg (by omega), if_neg (by omega)]
  · have hSeq : S = fun i => i < a := funext fun i => propext ⟨hS i, fun hi => hR i (List.mem_range.2 hi) hi⟩
    subst hSeq
    let μc : Mu := fun i => if i < a then μ i else none
    have hμc : ∀ b, b < a → μc b = μ b := fun b hb => by show (if b < a then μ b else none) = μ b; rw [if_pos hb]
    have hextc : Ext μc μ := fun k im hk => by
      have hk : (if k < a then μ k else none) = some im := hk
      split at hk
      · exact hk
      · cases hk
    have hokc : Ok B.B (fun i => i < a) μc (hget Hb) w := by
      refine ⟨fun i o hi hg hl => ?_, fun i o im hi hg hl him => ?_, fun i j oi oj x y hi hj hne hg1 hg2 l1 l2 m1 m2 r1 r2 => ?_, fun i o hi hg hr => ?_, fun i j oi oj x y z hi hj hg1 hg2 r1 l2 m1 m2 hrw => ?_⟩
      · obtain ⟨im, him, hor⟩ := hok.rel i o hi hg hl
        exact ⟨im, (hμc i hi).trans him, OR.low hμc (hob i o hg) hor⟩
      · exact hok.low i o im hi hg hl ((hμc i hi).symm.trans him)
      · exact hok.inj i j oi oj x y hi hj hne hg1 hg2 l1 l2 ((hμc i hi).symm.trans m1) ((hμc j hj).symm.trans m2) r1 r2
      · obtain ⟨im, him, hx⟩ := hok.reg i o hi hg hr
        exact ⟨im, (hμc i hi).trans him, hx⟩
      · exact hok.sep i j oi oj x y z hi hj hg1 hg2 r1 l2 ((hμc i hi).symm.trans m1) ((hμc j hj).symm.trans m2) hrw
    obtain ⟨out', w', μ', hpost, hv, hfree, he⟩ := h μc w fr cs hokc hB (fun i hi => by show (if i < a then μ i else none) = none; rw [if_neg (by omega)]) (hfr.low hμc hs hp hd hm hr)
    let μ2 : Mu := fun i => if i < a + 1 + os.length then μ' i else μ i
    have hμ2 : ∀ i, i < a + 1 + os.length → μ2 i = μ' i := fun i hi => by show (if i < a + 1 + os.length then μ' i else μ i) = μ' i; rw [if_pos hi]
    have ext2 : Ext μ' μ2 := fun k im hk => by
      rcases Nat.lt_or_ge k (a + 1 + os.length) with h1 | h1
      · rw [hμ2 k h1]; exact hk
      · rw [hfree k h1] at hk; cases hk
    have Slt : ∀ i, (i < a ∨ a ≤ i ∧ i < a + 1 + os.length) → i < a + 1 + os.length := fun i h => by omega
    refine ⟨_, w', μ2, ⟨?_, by omega, fun i hi => ?_, fun i hi hw => ?_, hpost.grow, fun b hb hx => hpost.frame b hb fun i hiW hi im him => hx i hiW hi im ((hμc i hi).symm.trans him), fun i hiW hi => ?_, fun i im o h1 h2 ho hl him => ?_, fun i im o hc ho hr him b x hx => ?_, hpost.os, hpost.tape, hpost.output⟩, OR2.mono ext2 hv, he⟩
    · have ok := hpost.ok
      refine ⟨fun i o hi hg hl => ?_, fun i o im hi hg hl him => ?_, fun i j oi oj x y hi hj hne hg1 hg2 l1 l2 m1 m2 r1 r2 => ?_, fun i o hi hg hr => ?_, fun i j oi oj x y z hi hj hg1 hg2 r1 l2 m1 m2 hrw => ?_⟩
      · obtain ⟨im, him, hor⟩ := ok.rel i o hi hg hl
        exact ⟨im, (hμ2 i (Slt i hi)).trans him, hor.keep ext2 rfl⟩
      · exact ok.low i o im hi hg hl ((hμ2 i (Slt i hi)).symm.trans him)
      · exact ok.inj i j oi oj x y hi hj hne hg1 hg2 l1 l2 ((hμ2 i (Slt i hi)).symm.trans m1) ((hμ2 j (Slt j hj)).symm.trans m2) r1 r2
      · obtain ⟨im, him, hx⟩ := ok.reg i o hi hg hr
        exact ⟨im, (hμ2 i (Slt i hi)).trans him, hx⟩
      · exact ok.sep i j oi oj x y z hi hj hg1 hg2 r1 l2 ((hμ2 i (Slt i hi)).symm.trans m1) ((hμ2 j (Slt j hj)).symm.trans m2) hrw
    · rcases Nat.lt_or_ge i a with h1 | h1
      · rw [hμ2 i (by omega), hpost.ext i (by omega), hμc i h1]
      · show (if i < a + 1 + os.length then μ' i else μ i) = μ i
        rw [if_neg (by omega)]
    · exact hpost.keep i hi hw
    · obtain ⟨p, q, im, s, t⟩ := hpost.wr i hiW hi
      exact ⟨p, q, im, (hμc i hi).symm.trans s, t⟩
    · obtain ⟨p, q⟩ := hpost.fresh i im o h1 h2 ho hl ((hμ2 i h2).symm.trans him)
      exact ⟨p, q.imp id fun ⟨k, x, y, ⟨im', m, m2⟩, z⟩ => ⟨k, x, y, ⟨im', (hμc k y).symm.trans m, m2⟩, z⟩⟩
    · have hlt : i < a + 1 + os.length := by omega
      rcases hpost.rf i im o hc ho hr ((hμ2 i hlt).symm.trans him) b x hx with e | ⟨k, kim, ko, p, q, r, s, t, u⟩ | ⟨k, p, q, ⟨im', m, m2⟩, z⟩
      · exact .inl e
      · exact .inr (.inl ⟨k, kim, ko, p, q, r, s, (hμc k q).symm.trans t, u⟩)
      · exact .inr (.inr ⟨k, p, q, ⟨im', (hμc k q).symm.trans m, m2⟩, z⟩)
/-- The conditions of all that, reckoned; but for some blocks (ex), of which it is told. -/
def fjOk (a : Nat) (l : List Value) (todo : List Item) (ro : Option Nat) (Hb ws : Heap) (Wf ex : List Nat) : Bool :=
  l.all (lowV a 4) && (todo.all plainItem && ((match ro with | some l => Nat.blt l a | none => true) && ((Hb.all fun p => Nat.blt p.1 a) && ((Hb.all fun p => ex.contains p.1 || lowOb a p.2) && ((ws.all fun p => Nat.blt p.1 a && Wf.contains p.1) && ((Wf.all fun k => Nat.blt k a) && Nat.ble l.length 16000))))))
def LowX (a : Nat) : Heap → List Nat → Prop
  | [], _ => True
  | (k, o) :: H, ex => (bif ex.contains k then LowO a o else True) ∧ LowX a H ex
theorem lowX_get {a : Nat} {ex : List Nat} : ∀ {H : Heap} {k : Nat} {o : Obj}, LowX a H ex → ex.contains k = true → hget H k = some o → LowO a o
  | [], _, _, _, _, h => by cases h
  | (j, x) :: H, k, o, hx, hk, h => by
    rw [hget_cons] at h
    split at h
    · rename_i e
      cases h; subst e
      have := hx.1
      rw [hk] at this
      exact this
    · exact lowX_get hx.2 hk h
/-- A loop that was left, or not. -/
def loopDone (l : Loop) (b : Bool) (pe : Option Code) : Loop := bif b then { l with state := .done, pending := pe } else l
theorem lowX_nil {a : Nat} : ∀ H : Heap, LowX a H []
  | [] => trivial
  | (_, _) :: H => ⟨trivial, lowX_nil H⟩
theorem FinK.fjB {fn : FuncId} {len : Nat} {l : List Value} {todo : List Item} {ro : Option Nat} {out : OO} {ws : Heap} {os : List Obj} {ex : List Nat} (h : FinK P B ⟨fn, ofList len l, todo, [], .run, ro⟩ Hb a out ws os Wf) (e : fjOk a l todo ro Hb ws Wf ex = true) (hx : LowX a Hb ex) :
    FJ P B ⟨fn, ofList len l, todo, [], .run, ro⟩ Hb a out ((ws ++ ((a, regO) :: heapL (a + 1) os)) ++ Hb) (a + 1 + os.length) (List.range a) Wf := by
  simp only [fjOk, Bool.and_eq_true] at e
  obtain ⟨e1, e2, e3, e4, e5, e6, e7, e8⟩ := e
  have e8 := Nat.le_of_ble_eq_true e8
  refine h.fj (under_all e4) (fun i o ho => ?_) (fun i hi => Nat.le_of_ble_eq_true (List.all_eq_true.1 e7 i hi)) (fun t => ?_) e2 rfl rfl (fun k hk => ?_) (fun i o ho => ?_)
  · have := List.all_eq_true.1 e6 _ (hget_in ho)
    simp only [Bool.and_eq_true] at this
    exact ⟨Nat.le_of_ble_eq_true this.1, by simpa using this.2⟩
  · simp only [tget, ofList]
    rw [ofL_get _ _ _ _ (by omega)]
    split
    · rename_i ht
      have ht : t < l.length := by omega
      refine .inl (List.all_eq_true.1 e1 _ ?_)
      rw [Nat.sub_zero, List.getD_eq_getElem?_getD, List.getElem?_eq_getElem ht]
      exact List.getElem_mem ht
    · rw [Tri.get_lf]
      exact .inr (loose_af (by simp [Go.undef, af]))
  · have hk : ro = some k := hk
    subst hk
    exact Nat.le_of_ble_eq_true e3
  · have := List.all_eq_true.1 e5 _ (hget_in ho)
    simp only [Bool.or_eq_true] at this
    rcases this with h1 | h1
    · exact lowX_get hx h1 ho
    · exact lowOb_ok h1
end
end Go.CE

namespace Go.CE
open Go Go.RowKit Go.ChangeShapes Go.WideShapes

/-- The shape of a type: its cells. -/
inductive Sh where
  | int | bool | str | unit
  | pair (a b : Sh)
  | struct (f : Sh)
  | slice (e : Sh)
def Sh.sz : Sh → Nat
  | .unit => 0
  | .pair a b => a.sz + b.sz
  | .struct f => f.sz
  | _ => 1
/-- Cells of trees that a type can have. -/
def Sh.ok : Sh → List Value → Prop
  | .int, cs => ∃ z : Int, (-9223372036854775808 ≤ z ∧ z ≤ 9223372036854775807) ∧ cs = [.int .i64 z]
  | .bool, cs => ∃ b, cs = [.bool b]
  | .str, cs => ∃ s : ByteArray, s.size ≤ maxLen ∧ cs = [.string s]
  | .unit, cs => cs = []
  | .pair a b, cs => ∃ x y, cs = x ++ y ∧ a.ok x ∧ b.ok y
  | .struct f, cs => f.ok cs
  | .slice e, cs => ∃ (n : Nat) (r : Nat → List Value), (∀ k, e.ok (r k) ∨ n ≤ k) ∧ (∀ k, (r k).length = e.sz) ∧ cs = [slT n (rowL r (List.range n))]
theorem Sh.ok_sz : ∀ (s : Sh) (cs : List Value), s.ok cs → cs.length = s.sz
  | .int, cs, ⟨z, _, h⟩ => by rw [h]; rfl
  | .bool, cs, ⟨z, h⟩ => by rw [h]; rfl
  | .str, cs, ⟨z, _, h⟩ => by rw [h]; rfl
  | .unit, cs, h => by rw [show cs = [] from h]; rfl
  | .pair a b, cs, ⟨x, y, h, hx, hy⟩ => by rw [h, List.length_append, Sh.ok_sz a x hx, Sh.ok_sz b y hy]; rfl
  | .struct f, cs, h => Sh.ok_sz f cs h
  | .slice e, cs, ⟨n, r, _, _, h⟩ => by rw [h]; rfl
/-- A type of a program has that shape. -/
def Sh.chk (P : Program) : Sh → Option (List Field × Nat) → TypeId → Bool
  | .int, none, t => match P.underlying t with | some (.int .i64) => true | _ => false
  | .bool, none, t => match P.underlying t with | some .bool => true | _ => false
  | .str, none, t => match P.underlying t with | some .string => true | _ => false
  | .struct f, none, t => match P.underlying t with | some (.struct fs) => f.chk P (some (fs.toList, 0)) t | _ => false
  | .slice e, none, t => match P.underlying t with | some (.slice u) => Nat.blt 0 e.sz && e.chk P none u | _ => false
  | .unit, some ([], off), t => Nat.beq off (P.cellsOf t)
  | .pair a b, some (f :: fs, off), t => Nat.beq f.offset off && (a.chk P none f.type && (Nat.beq (P.cellsOf f.type) a.sz && b.chk P (some (fs, off + P.cellsOf f.type)) t))
  | _, _, _ => false
def TRl (fm : Nat → Option Obj) (ts cs : List Value) : Prop := ts.length = cs.length ∧ ∀ (i : Nat) v v', ts[i]? = some v → cs[i]? = some v' → TRv fm v v'
theorem TRl.nil {fm : Nat → Option Obj} : TRl fm [] [] := ⟨rfl, fun i v v' h => by simp at h⟩
theorem TRl.one {fm : Nat → Option Obj} {t v : Value} (h : TRv fm t v) : TRl fm [t] [v] := ⟨rfl, fun i a b ha hb => by
  cases i with
  | zero => simp at ha hb; subst ha hb; exact h
  | succ i => simp at ha⟩
theorem TRl.append {fm : Nat → Option Obj} {a b c d : List Value} (h : TRl fm a b) (k : TRl fm c d) : TRl fm (a ++ c) (b ++ d) := ⟨by simp [h.1, k.1], fun i v v' x y => by
  rcases Nat.lt_or_ge i a.length with hi | hi
  · rw [List.getElem?_append_left hi] at x
    rw [List.getElem?_append_left (by rw [← h.1]; exact hi)] at y
    exact h.2 i v v' x y
  · rw [List.getElem?_append_right hi] at x
    rw [List.getElem?_append_right (by rw [← h.1]; exact hi)] at y
    exact k.2 _ v v' x (by rw [h.1]; exact y)⟩
/-- All memory of a world. -/
def allM (w : World) (b : Nat) : Option Obj := w.heap[b]?
section
variable {P : Program} {H : Type} {enc : TypeId × Value → H} {w : World} {held : Bool}
theorem addr_plain {a : Addr} {v : Value} (h : w.cell? a = some v) : ∃ b o arr t fl, a = ⟨b, o, none⟩ ∧ w.heap[b]? = some (.cells arr t fl) ∧ arr[o]? = some v := by
  obtain ⟨b, o, s⟩ := a
  unfold World.cell? at h
  split at h
  · rename_i c t fl hb
    cases s with
    | some _ => simp at h
    | none => exact ⟨b, o, c, t, fl, rfl, hb, by simpa using h⟩
  · cases h
theorem plain_add {b o j : Nat} : (⟨b, o, none⟩ : Addr).add j = ⟨b, o + j, none⟩ := by
  unfold Addr.add
  split <;> simp_all
theorem range_row {e : Nat → List Value} {z n : Nat} (h : ∀ k, (e k).length = z) {i : Nat} {v : Value} (hv : (rowL e (List.range n))[i]? = some v) : ∃ k j, k < n ∧ j < z ∧ i = k * z + j ∧ (e k)[j]? = some v := by
  have hlt : i < n * z := by
    have := (Array.getElem?_eq_some_iff.1 hv).1
    rw [rowL_size h] at this
    simpa using this
  have hz : 0 < z := by
    rcases Nat.eq_zero_or_pos z with rfl | h
    · omega
    · exact h
  have hk : i / z < n := Nat.div_lt_of_lt_mul (by rwa [Nat.mul_comm] at hlt)
  have hj : i % z < z := Nat.mod_lt _ hz
  have hi : i = i / z * z + i % z := by
    have := Nat.div_add_mod i z
    rw [Nat.mul_comm] at this
    omega
  refine ⟨i / z, i % z, hk, hj, hi, ?_⟩
  have := rowL_get (e := e) (xs := List.range n) h (k := i / z) (j := i % z) (by simpa using hk) hj
  rw [← hi, hv] at this
  rw [this]
  simp [List.getD, hk]
theorem trod_sh : ∀ (s : Sh) (fuel : Nat) (t : TypeId) (cs : List Value) (x : DataW H × List MemPlace), s.chk P none t = true → DataW.trod enc P w 0 (fun _ => true) held fuel t cs = some x → ∃ ts, s.ok ts ∧ TRl (allM w) ts cs := by
  intro s
  -- for fields, too
  have key : (∀ (fuel : Nat) (t : TypeId) (cs : List Value) (x : DataW H × List MemPlace), s.chk P none t = true → DataW.trod enc P w 0 (fun _ => true) held fuel t cs = some x → ∃ ts, s.ok ts ∧ TRl (allM w) ts cs) ∧
      (∀ (fl : List Field) (off : Nat) (t : TypeId) (cs : List Value), s.chk P (some (fl, off)) t = true → cs.length = P.cellsOf t → (∀ f ∈ fl, ∃ fuel x, DataW.trod enc P w 0 (fun _ => true) held fuel f.type ((cs.drop f.offset).take (P.cellsOf f.type)) = some x) → ∃ ts, s.ok ts ∧ TRl (allM w) ts (cs.drop off)) := by
    induction s with
    | int =>
      refine ⟨fun fuel t cs x hc h => ?_, fun fl off t cs hc => by simp [Sh.chk] at hc⟩
      simp only [Sh.chk] at hc
      split at hc
      · rename_i ht
        obtain ⟨n, rfl, _, hw⟩ := DataW.trod_int ht h
        simp only [Lit.wf, Bool.and_eq_true, decide_eq_true_eq] at hw
        exact ⟨_, ⟨n, ⟨hw.1, hw.2⟩, rfl⟩, TRl.one (.simple rfl)⟩
      · cases hc
    | bool =>
      refine ⟨fun fuel t cs x hc h => ?_, fun fl off t cs hc => by simp [Sh.chk] at hc⟩
      simp only [Sh.chk] at hc
      split at hc
      · rename_i ht
        obtain ⟨b, rfl, _⟩ := DataW.trod_bool ht h
        exact ⟨_, ⟨b, rfl⟩, TRl.one (.simple rfl)⟩
      · cases hc
    | str =>
      refine ⟨fun fuel t cs x hc h => ?_, fun fl off t cs hc => by simp [Sh.chk] at hc⟩
      simp only [Sh.chk] at hc
      split at hc
      · rename_i ht
        obtain ⟨b, rfl, _, hl⟩ := DataW.trod_string ht h
        exact ⟨_, ⟨b, hl, rfl⟩, TRl.one (.simple rfl)⟩
      · cases hc
    | unit =>
      refine ⟨fun fuel t cs x hc h => by simp [Sh.chk] at hc, fun fl off t cs hc hl hf => ?_⟩
      cases fl with
      | nil =>
        simp only [Sh.chk] at hc
        have := Nat.eq_of_beq_eq_true hc
        refine ⟨[], rfl, ?_⟩
        rw [List.drop_eq_nil_of_le (by omega)]
        exact TRl.nil
      | cons f fl => simp [Sh.chk] at hc
    | pair a b iha ihb =>
      refine ⟨fun fuel t cs x hc h => by simp [Sh.chk] at hc, fun fl off t cs hc hl hf => ?_⟩
      cases fl with
      | nil => simp [Sh.chk] at hc
      | cons f fl =>
        simp only [Sh.chk, Bool.and_eq_true] at hc
        obtain ⟨h1, h2, h3, h4⟩ := hc
        have h1 := Nat.eq_of_beq_eq_true h1
        have h3 := Nat.eq_of_beq_eq_true h3
        subst h1
        obtain ⟨fuel, x, hx⟩ := hf f (by simp)
        obtain ⟨ta, oa, ra⟩ := iha.1 fuel f.type _ x h2 hx
        obtain ⟨tb, ob, rb⟩ := ihb.2 fl _ t cs h4 hl (fun g hg => hf g (by simp [hg]))
        refine ⟨ta ++ tb, ⟨ta, tb, rfl, oa, ob⟩, ?_⟩
        have : cs.drop f.offset = (cs.drop f.offset).take (P.cellsOf f.type) ++ cs.drop (f.offset + P.cellsOf f.type) := by
          rw [← List.drop_drop, List.take_append_drop]
        rw [this]
        exact ra.append rb
    | struct f ih =>
      refine ⟨fun fuel t cs x hc h => ?_, fun fl off t cs hc => by simp [Sh.chk] at hc⟩
      simp only [Sh.chk] at hc
      split at hc
      · rename_i fs ht
        obtain ⟨xs, n, _, _, hl, hlen, hg⟩ := DataW.trod_struct ht h
        obtain ⟨ts, h1, h2⟩ := ih.2 fs.toList 0 t cs hc hl fun g hg' => by
          obtain ⟨i, hi⟩ := List.getElem?_of_mem hg'
          have hi' : fs[i]? = some g := by simpa using hi
          have := hg i g hi'
          have hlt : i < xs.length := by
            have := (Array.getElem?_eq_some_iff.1 hi').1
            omega
          rw [List.getElem?_eq_getElem hlt] at this
          exact ⟨n, _, this⟩
        exact ⟨ts, h1, by simpa using h2⟩
      · cases hc
    | slice e ih =>
      refine ⟨fun fuel t cs x hc h => ?_, fun fl off t cs hc => by simp [Sh.chk] at hc⟩
      simp only [Sh.chk] at hc
      split at hc
      · rename_i u ht
        simp only [Bool.and_eq_true] at hc
        obtain ⟨hz, hc⟩ := hc
        have hz : 0 < e.sz := Nat.le_of_ble_eq_true hz
        rcases Deep.open_slice ht h with ⟨rfl, _⟩ | ⟨a, len, cap, m, n', D, Pl, rfl, _, hl, hm, hmm, _, hi⟩
        · exact ⟨_, ⟨0, fun _ => List.replicate e.sz undef, fun k => .inr (Nat.zero_le _), fun k => by simp, rfl⟩, TRl.one .nil⟩
        · simp only [if_true] at hmm
          subst hmm
          have each : ∀ k, ∃ r : List Value, (k < len → e.ok r ∧ (∀ j, j < P.cellsOf u → w.cell? (a.add (k * P.cellsOf u + j)) = none → False) ∧ ∀ (j : Nat) v v', r[j]? = some v → w.cell? (a.add (k * P.cellsOf u + j)) = some v' → TRv (allM w) v v') ∧ r.length = e.sz ∧ (k < len → e.sz = P.cellsOf u) := by
            intro k
            by_cases hk : k < len
            · obtain ⟨cs', hc', ht'⟩ := hi k (by omega)
              obtain ⟨ts, ho, hr⟩ := ih.1 n' u cs' _ hc ht'
              obtain ⟨_, hln, hat⟩ := World.cells?_some hc'
              have hsz : e.sz = P.cellsOf u := by rw [← Sh.ok_sz e ts ho, hr.1, hln]
              refine ⟨ts, fun _ => ⟨ho, fun j hj hnone => ?_, fun j v v' hv hv' => ?_⟩, Sh.ok_sz e ts ho, fun _ => hsz⟩
              · have := hat j hj
                rw [Deep.add_add, hnone, List.getElem?_eq_getElem (by omega)] at this
                cases this
              · have hj : j < ts.length := (List.getElem?_eq_some_iff.1 hv).1
                have := hat j (by rw [hr.1, hln] at hj; exact hj)
                rw [Deep.add_add, hv'] at this
                exact hr.2 j v v' hv this.symm
            · exact ⟨List.replicate e.sz undef, fun h => absurd h hk, by simp, fun h => absurd h hk⟩
          refine ⟨_, ⟨len, fun k => Classical.choose (each k), fun k => ?_, fun k => (Classical.choose_spec (each k)).2.1, rfl⟩, TRl.one ?_⟩
          · by_cases hk : k < len
            · exact .inl ((Classical.choose_spec (each k)).1 hk).1
            · exact .inr (by omega)
          · generalize hr : (fun k => Classical.choose (each k)) = r
            have hr1 : ∀ k, k < len → e.ok (r k) ∧ (∀ j, j < P.cellsOf u → w.cell? (a.add (k * P.cellsOf u + j)) = none → False) ∧ ∀ (j : Nat) v v', (r k)[j]? = some v → w.cell? (a.add (k * P.cellsOf u + j)) = some v' → TRv (allM w) v v' := fun k hk => by rw [← hr]; exact (Classical.choose_spec (each k)).1 hk
            have hr2 : ∀ k, (r k).length = e.sz := fun k => by rw [← hr]; exact (Classical.choose_spec (each k)).2.1
            have hr3 : ∀ k, k < len → e.sz = P.cellsOf u := fun k hk => (Classical.choose_spec (each k)).2.2 hk
            rcases Nat.eq_zero_or_pos len with rfl | hpos
            · have : rowL r (List.range 0) = #[] := rfl
              rw [this]
              exact .empty hm
            · have hsz := hr3 0 hpos
              have hex : ∃ v, w.cell? a = some v := by
                have := (hr1 0 hpos).2.1 0 (by omega)
                have ea : a.add (0 * P.cellsOf u + 0) = a := by simp [Addr.add]
                rw [ea] at this
                cases hq : w.cell? a with
                | none => exact absurd hq this
                | some v => exact ⟨v, rfl⟩
              obtain ⟨v0, hv0⟩ := hex
              obtain ⟨b, o, arr, ty, fl, rfl, hb, _⟩ := addr_plain hv0
              have cellE : ∀ i, w.cell? ⟨b, o + i, none⟩ = arr[o + i]? := fun i => by simp [World.cell?, hb]
              refine TRv.slice (o := o) hl hm hb (fun i hi' => ?_) fun i v v' hv hv' => ?_
              · obtain ⟨k, j, hk, hj, rfl, _⟩ := range_row hr2 (i := i) (v := (rowL r (List.range len))[i]) (Array.getElem?_eq_getElem hi')
                have := (hr1 k hk).2.1 j (by omega)
                rw [plain_add, ← hsz, cellE] at this
                rcases Nat.lt_or_ge (o + (k * e.sz + j)) arr.size with h1 | h1
                · exact h1
                · exact absurd (Array.getElem?_eq_none h1) this
              · obtain ⟨k, j, hk, hj, rfl, hkj⟩ := range_row hr2 hv
                refine (hr1 k hk).2.2 j v v' hkj ?_
                rw [plain_add, ← hsz, cellE]
                exact hv'
      · cases hc
  exact key.1
def Sh.arg : Sh → Value → Prop
  | .struct f, v => ∃ cs, v = .agg cs.toArray ∧ f.ok cs
  | s, v => s.ok [v]
def ArgAll : List Sh → List Value → Prop
  | [], l => l = []
  | s :: ss, l => ∃ t ts, l = t :: ts ∧ s.arg t ∧ ArgAll ss ts
theorem trod_arg {s : Sh} {t : TypeId} {v : Value} {d : DataW H} {ps : List MemPlace} {r : Reach} {b0 : Nat} (hc : s.chk P none t = true) (hv : Value.okWide P w r b0 t v) (h : DataW.Trod enc P w 0 (fun _ => true) held t v d ps) : ∃ tr, s.arg tr ∧ TRv (allM w) tr v := by
  obtain ⟨fuel, hf⟩ := h
  obtain ⟨ts, ho, hr⟩ := trod_sh s fuel t _ _ hc hf
  have one : v.cells = #[v] → s.ok ts → (∀ f, s ≠ .struct f) → ∃ tr, s.arg tr ∧ TRv (allM w) tr v := fun hv1 ho hs => by
    rw [hv1] at hr
    match ts, hr, ho with
    | [tr], hr, ho =>
      refine ⟨tr, ?_, hr.2 0 tr v rfl rfl⟩
      cases s <;> first | exact ho | exact absurd rfl (hs _)
    | [], hr, _ => have := hr.1; simp at this
    | _ :: _ :: _, hr, _ => have := hr.1; simp at this
  cases s with
  | int =>
    simp only [Sh.chk] at hc
    split at hc
    · rename_i ht; obtain ⟨n, rfl⟩ := okWide_int ht hv; exact one rfl ho fun f h => by cases h
    · cases hc
  | bool =>
    simp only [Sh.chk] at hc
    split at hc
    · rename_i ht; obtain ⟨n, rfl⟩ := okWide_bool ht hv; exact one rfl ho fun f h => by cases h
    · cases hc
  | str =>
    simp only [Sh.chk] at hc
    split at hc
    · rename_i ht; obtain ⟨n, rfl⟩ := okWide_string ht hv; exact one rfl ho fun f h => by cases h
    · cases hc
  | unit => simp [Sh.chk] at hc
  | pair a b => simp [Sh.chk] at hc
  | struct f =>
    simp only [Sh.chk] at hc
    split at hc
    · rename_i fs ht
      obtain ⟨cs, rfl, _⟩ := okWide_struct ht hv
      refine ⟨.agg ts.toArray, ⟨ts, rfl, ho⟩, .agg ?_ fun i v v' h1 h2 => ?_⟩
      · have := hr.1; simpa [Value.cells] using this
      · exact hr.2 i v v' (by simpa using h1) (by simpa [Value.cells] using h2)
    · cases hc
  | slice e =>
    simp only [Sh.chk] at hc
    split at hc
    · rename_i u ht; obtain ⟨a, l, c, rfl⟩ := okWide_slice ht hv; exact one rfl ho fun f h => by cases h
    · cases hc
def chkAll (P : Program) : List Sh → List TypeId → Bool
  | [], [] => true
  | s :: ss, t :: ts => s.chk P none t && chkAll P ss ts
  | _, _ => false
theorem trodAll_cons {t : TypeId} {ts : List TypeId} {vs : List Value} {ds : List (DataW H)} {ps : List MemPlace} {base : Nat} {spare : Nat → Bool} (h : DataW.TrodAll enc P w base spare held (t :: ts) vs ds ps) :
    ∃ v vs' d ds' p q, vs = v :: vs' ∧ ds = d :: ds' ∧ DataW.Trod enc P w base spare held t v d p ∧ DataW.TrodAll enc P w base spare held ts vs' ds' q ∧ ps = p ++ q := by
  cases vs with
  | nil => cases ds <;> simp [DataW.TrodAll] at h
  | cons v vs =>
    cases ds with
    | nil => simp [DataW.TrodAll] at h
    | cons d ds =>
      simp only [DataW.TrodAll] at h
      obtain ⟨p, q, h1, h2, h3⟩ := h
      exact ⟨v, vs, d, ds, p, q, rfl, rfl, h1, h2, h3⟩
theorem trodAll_nil {vs : List Value} {ds : List (DataW H)} {ps : List MemPlace} {base : Nat} {spare : Nat → Bool} (h : DataW.TrodAll enc P w base spare held [] vs ds ps) : vs = [] ∧ ds = [] ∧ ps = [] := by
  cases vs <;> cases ds <;> simp [DataW.TrodAll] at h
  exact ⟨rfl, rfl, h⟩
theorem trods : ∀ (ss : List Sh) (ts : List TypeId) (vs : List Value) (ds : List (DataW H)) (ps : List MemPlace) (r : Reach) (b0 : Nat), chkAll P ss ts = true → DataW.TrodAll enc P w 0 (fun _ => true) held ts vs ds ps →
    (∀ (j : Nat) t v, ts[j]? = some t → vs[j]? = some v → Value.okWide P w r b0 t v) → ∃ trs, ArgAll ss trs ∧ TRl (allM w) trs vs
  | [], [], vs, ds, ps, r, b0, _, h, _ => by
    obtain ⟨rfl, _, _⟩ := trodAll_nil h
    exact ⟨[], rfl, TRl.nil⟩
  | s :: ss, t :: ts, vs, ds, ps, r, b0, hc, h, hv => by
    simp only [chkAll, Bool.and_eq_true] at hc
    obtain ⟨v, vs', d, ds', p, q, rfl, rfl, h1, h2, rfl⟩ := trodAll_cons h
    obtain ⟨tr, ha, hr⟩ := trod_arg hc.1 (hv 0 t v rfl rfl) h1
    obtain ⟨trs, ha2, hr2⟩ := trods ss ts vs' ds' q r b0 hc.2 h2 fun j t v h1 h2 => hv (j + 1) t v (by simpa using h1) (by simpa using h2)
    exact ⟨tr :: trs, ⟨tr, trs, rfl, ha, ha2⟩, (TRl.one hr).append hr2⟩
  | [], _ :: _, _, _, _, _, _, hc, _, _ => by simp [chkAll] at hc
  | _ :: _, [], _, _, _, _, _, hc, _, _ => by simp [chkAll] at hc
/-- A law's call, from what is known of it for all trees. -/
theorem law_call {J : World → Prop} {f : FuncId} {ss : List Sh} {ts : List TypeId} {args : Array Value} {ds : List (DataW H)} {ps : List MemPlace} {r : Reach} {b0 : Nat} (hJ : J w) (hc : chkAll P ss ts = true) (h : DataW.TrodAll enc P w 0 (fun _ => true) held ts args.toList ds ps)
    (hv : ∀ (j : Nat) t v, ts[j]? = some t → args[j]? = some v → Value.okWide P w r b0 t v) (walk : ∀ trs, ArgAll ss trs → PureC P J f trs.toArray (.bool true)) : Calls P f args w fun e w' => e = .returned (.bool true) ∧ Below w.heap.size w w' := by
  obtain ⟨trs, ha, hr⟩ := trods ss ts args.toList ds ps r b0 hc h fun j t v h1 h2 => hv j t v h1 (by simpa using h2)
  refine (walk trs ha (allM w) w args hJ (fun b x h => h) ⟨by simpa using hr.1, fun i v v' h1 h2 => hr.2 i v v' (by simpa using h1) (by simpa using h2)⟩).mono fun e w' ⟨v', he, hb, ht⟩ => ⟨?_, hb⟩
  rw [he, TRv.simple_eq rfl ht]
theorem trodAll_below (hl : laidOutB P = true) {W W' : World} (hb : Below W.heap.size W W') : ∀ (ts : List TypeId) (vs : List Value) (ds : List (DataW H)) (ps : List MemPlace), (ts.all fun t => P.readableRec t && decide (t < P.types.size)) = true → DataW.TrodAll enc P W 0 (fun _ => true) true ts vs ds ps → (∀ x ∈ ps, x.block < W.heap.size) →
    DataW.TrodAll enc P W' 0 (fun b => decide (b < W.heap.size)) true ts vs ds ps
  | [], vs, ds, ps, _, h, _ => by
    obtain ⟨rfl, rfl, rfl⟩ := trodAll_nil h
    exact rfl
  | t :: ts, vs, ds, ps, ha, h, hlt => by
    simp only [List.all_cons, Bool.and_eq_true, decide_eq_true_eq] at ha
    obtain ⟨v, vs', d, ds', p, q, rfl, rfl, h1, h2, rfl⟩ := trodAll_cons h
    exact ⟨p, q, Below.trod hl ha.1.1 ha.1.2 h1 hb fun x hx => hlt x (List.mem_append_left _ hx), trodAll_below hl hb ts vs' ds' q ha.2 h2 fun x hx => hlt x (List.mem_append_right _ hx), rfl⟩
/-- Lists of what the elements stand for. -/
theorem sh_list {α : Type} {s : Sh} {e : α → List Value} (dec : ∀ cs, s.ok cs → ∃ x, cs = e x) {n : Nat} {r : Nat → List Value} (h : ∀ k, s.ok (r k) ∨ n ≤ k) : ∃ xs : List α, xs.length = n ∧ rowL r (List.range n) = rowL e xs := by
  induction n with
  | zero => exact ⟨[], rfl, rfl⟩
  | succ n ih =>
    obtain ⟨xs, hl, hx⟩ := ih fun k => (h k).imp id fun h => by omega
    obtain ⟨x, hxe⟩ := dec (r n) ((h n).resolve_right (by omega))
    refine ⟨xs ++ [x], by simp [hl], ?_⟩
    unfold rowL at hx ⊢
    rw [List.range_succ, List.flatMap_append, List.flatMap_append]
    have : (List.range n).flatMap r = xs.flatMap e := by simpa using hx
    rw [this]
    simp [hxe]
theorem sh_slice {α : Type} {s : Sh} {e : α → List Value} (dec : ∀ cs, s.ok cs → ∃ x, cs = e x) {cs : List Value} (h : Sh.ok (.slice s) cs) : ∃ xs : List α, cs = [slT xs.length (rowL e xs)] := by
  obtain ⟨n, r, h1, _, rfl⟩ := h
  obtain ⟨xs, rfl, hx⟩ := sh_list dec h1
  exact ⟨xs, by rw [hx]⟩
theorem sh_int {cs : List Value} (h : Sh.ok .int cs) : ∃ z : Int, cs = encI z := by
  obtain ⟨z, _, rfl⟩ := h
  exact ⟨z, rfl⟩
/-- Values of nothing. -/
def Sh.zero : Sh → List Value
  | .int => [.int .i64 0]
  | .bool => [.bool false]
  | .str => [.string ⟨#[]⟩]
  | .unit => []
  | .pair a b => a.zero ++ b.zero
  | .struct f => f.zero
  | .slice _ => [.slice none 0 0]
def Sh.zeroA : Sh → Value
  | .struct f => .agg f.zero.toArray
  | s => s.zero.headD undef
/-- A structure's shape, of its fields'. -/
def shS (l : List Sh) : Sh := .struct (l.foldr .pair .unit)
end
end Go.CE

namespace Go.CE
open Go Go.RowKit

/-- A region whose last operation defers a function: what has been done, the frame behind it, what was deferred. -/
structure SpD where
  c : CF
  H : Heap
  n : Nat
  g : FuncId
  args : Array Value
  R : List Nat
  W : List Nat
section
variable {P : Program} {F : FuncId → Bool} {J : World → Prop} {B : Lo} {c0 c : CF} {Hb H : Heap} {a n : Nat} {W Wf : List Nat}
/-! ### A frame that unwinds -/
end
end Go.CE

namespace Go.Proofs.YtoihlobogbeigaaGreat
open Go Go.CE Go.RowKit
def J0 : World → Prop := fun _ => True
theorem J0_st : ∀ w w' : World, (∀ b, b < w.heap.size → w'.heap[b]? = w.heap[b]?) → J0 w → J0 w' := fun _ _ _ _ => trivial
theorem mixed_ok : Tryz.prog.follows .mixedOrders = true := by decide +kernel
theorem okF : ∀ g, okFn Tryz.prog g = true → okFn Tryz.prog g = true := fun _ h => h
end Go.Proofs.YtoihlobogbeigaaGreat

namespace Go.Proofs.YtoihlobogbeigaaGreat
open Go Go.CE Go.RowKit
def inB (x lo hi : Int) : Bool := decide (lo ≤ x) && decide (x ≤ hi)
structure Span where
  lo : Int
  hi : Int
deriving Inhabited
def encSp (s : Span) : List Value := [.int .i64 s.lo, .int .i64 s.hi]
def spanB (a b lo hi : Int) : Bool := decide (lo ≤ a) && (decide (a ≤ b) && decide (b ≤ hi))
noncomputable def rin_p0 (B : Lo) (x lo hi : Int) : List Prop := [(!ltq x lo) = true] ++ ([] : List Prop)
noncomputable def rin_q0 (x lo hi : Int) : ScriptT := [(3, hvT)]
set_option maxRecDepth 100000 in
theorem rin_s0 (B : Lo) (x lo hi : Int) : endT (srunT Tryz.prog (okFn Tryz.prog) J0 B 6 1 (entryC Tryz.prog 69 15 (([.int .i64 x, .int .i64 lo, .int .i64 hi]).map (pushT 0 4))) H00 1
    (rin_q0 x lo hi ++ [(7, hvT)]) 0 [] []) [] = some (Value.bool true,
    [(!ltq hi x) = true] ++ rin_p0 B x lo hi) := by kernel_rfl
set_option maxRecDepth 100000 in
theorem rin_s1 (B : Lo) (x lo hi : Int) : endT (srunT Tryz.prog (okFn Tryz.prog) J0 B 6 1 (entryC Tryz.prog 69 15 (([.int .i64 x, .int .i64 lo, .int .i64 hi]).map (pushT 0 4))) H00 1
    (rin_q0 x lo hi ++ [(7, hvF)]) 0 [] []) [] = some (Value.bool false,
    [(!ltq hi x) = false] ++ rin_p0 B x lo hi) := by kernel_rfl
set_option maxRecDepth 100000 in
theorem rin_s2 (B : Lo) (x lo hi : Int) : endT (srunT Tryz.prog (okFn Tryz.prog) J0 B 6 1 (entryC Tryz.prog 69 15 (([.int .i64 x, .int .i64 lo, .int .i64 hi]).map (pushT 0 4))) H00 1
    [(3, hvF)] 0 [] []) [] = some (Value.bool false,
    [(!ltq x lo) = false]) := by kernel_rfl
set_option maxHeartbeats 4000000 in
theorem rin_e (x lo hi : Int)  {B : Lo} (hJ : ∀ w, B.has w → J0 w) : EndsT Tryz.prog B (entryC Tryz.prog 69 15 (([.int .i64 x, .int .i64 lo, .int .i64 hi]).map (pushT 0 4))) (.bool (inB x lo hi)) := by
  by_cases q0 : (lo : Int) ≤ (x)
  ·
    have hp0 : AllP (rin_p0 B x lo hi) := by
      exact ⟨(nltq_t q0), trivial⟩
    by_cases q1 : (x : Int) ≤ (hi)
    ·
      exact (GoE.endsT okF hJ mixed_ok GoE.start (rin_s0 B x lo hi)
        ⟨(nltq_t q1), hp0⟩).cast (by first | rfl | (simp [inB, *]; done) | (simp_all [inB]; done) | (simp_all [inB]; omega))
    ·
      exact (GoE.endsT okF hJ mixed_ok GoE.start (rin_s1 B x lo hi)
        ⟨(nltq_f (Int.not_le.1 q1)), hp0⟩).cast (by first | rfl | (simp [inB, *]; done) | (simp_all [inB]; done) | (simp_all [inB]; omega))
  ·
    exact (GoE.endsT okF hJ mixed_ok GoE.start (rin_s2 B x lo hi)
      ⟨(nltq_f (Int.not_le.1 q0)), trivial⟩).cast (by first | rfl | (simp [inB, *]; done) | (simp_all [inB]; done) | (simp_all [inB]; omega))
theorem rin (x lo hi : Int)  : PureC Tryz.prog J0 69 #[.int .i64 x, .int .i64 lo, .int .i64 hi] (.bool (inB x lo hi)) :=
  pureC_of (ts := [.int .i64 x, .int .i64 lo, .int .i64 hi]) J0_st (c0 := entryC Tryz.prog 69 15 (([.int .i64 x, .int .i64 lo, .int .i64 hi]).map (pushT 0 4))) (by kernel_rfl) (by kernel_rfl) fun B hJ => rin_e x lo hi  hJ
noncomputable def rSpan_p0 (B : Lo) (a b lo hi : Int) : List Prop := [(!ltq a lo) = true] ++ ([] : List Prop)
noncomputable def rSpan_q0 (a b lo hi : Int) : ScriptT := [(5, hvT)]
noncomputable def rSpan_p1 (B : Lo) (a b lo hi : Int) : List Prop := [(!ltq b a) = true] ++ rSpan_p0 B a b lo hi
noncomputable def rSpan_q1 (a b lo hi : Int) : ScriptT := rSpan_q0 a b lo hi ++ [(11, hvT)]
set_option maxRecDepth 100000 in
theorem rSpan_s0 (B : Lo) (a b lo hi : Int) : endT (srunT Tryz.prog (okFn Tryz.prog) J0 B 6 1 (entryC Tryz.prog 70 24 (([.agg #[.int .i64 a, .int .i64 b], .int .i64 lo, .int .i64 hi]).map (pushT 0 4))) H00 1
    (rSpan_q1 a b lo hi ++ [(17, hvT)]) 0 [] []) [] = some (Value.bool true,
    [(!ltq hi b) = true] ++ rSpan_p1 B a b lo hi) := by kernel_rfl
set_option maxRecDepth 100000 in
theorem rSpan_s1 (B : Lo) (a b lo hi : Int) : endT (srunT Tryz.prog (okFn Tryz.prog) J0 B 6 1 (entryC Tryz.prog 70 24 (([.agg #[.int .i64 a, .int .i64 b], .int .i64 lo, .int .i64 hi]).map (pushT 0 4))) H00 1
    (rSpan_q1 a b lo hi ++ [(17, hvF)]) 0 [] []) [] = some (Value.bool false,
    [(!ltq hi b) = false] ++ rSpan_p1 B a b lo hi) := by kernel_rfl
set_option maxRecDepth 100000 in
theorem rSpan_s2 (B : Lo) (a b lo hi : Int) : endT (srunT Tryz.prog (okFn Tryz.prog) J0 B 6 1 (entryC Tryz.prog 70 24 (([.agg #[.int .i64 a, .int .i64 b], .int .i64 lo, .int .i64 hi]).map (pushT 0 4))) H00 1
    (rSpan_q0 a b lo hi ++ [(11, hvF)]) 0 [] []) [] = some (Value.bool false,
    [(!ltq b a) = false] ++ rSpan_p0 B a b lo hi) := by kernel_rfl
set_option maxRecDepth 100000 in
theorem rSpan_s3 (B : Lo) (a b lo hi : Int) : endT (srunT Tryz.prog (okFn Tryz.prog) J0 B 6 1 (entryC Tryz.prog 70 24 (([.agg #[.int .i64 a, .int .i64 b], .int .i64 lo, .int .i64 hi]).map (pushT 0 4))) H00 1
    [(5, hvF)] 0 [] []) [] = some (Value.bool false,
    [(!ltq a lo) = false]) := by kernel_rfl
set_option maxHeartbeats 4000000 in
theorem rSpan_e (a b lo hi : Int)  {B : Lo} (hJ : ∀ w, B.has w → J0 w) : EndsT Tryz.prog B (entryC Tryz.prog 70 24 (([.agg #[.int .i64 a, .int .i64 b], .int .i64 lo, .int .i64 hi]).map (pushT 0 4))) (.bool (spanB a b lo hi)) := by
  by_cases q0 : (lo : Int) ≤ (a)
  ·
    have hp0 : AllP (rSpan_p0 B a b lo hi) := by
      exact ⟨(nltq_t q0), trivial⟩
    by_cases q1 : (a : Int) ≤ (b)
    ·
      have hp1 : AllP (rSpan_p1 B a b lo hi) := by
        exact ⟨(nltq_t q1), hp0⟩
      by_cases q2 : (b : Int) ≤ (hi)
      ·
        exact (GoE.endsT okF hJ mixed_ok GoE.start (rSpan_s0 B a b lo hi)
          ⟨(nltq_t q2), hp1⟩).cast (by first | rfl | (simp [spanB, *]; done) | (simp_all [spanB]; done) | (simp_all [spanB]; omega))
      ·
        exact (GoE.endsT okF hJ mixed_ok GoE.start (rSpan_s1 B a b lo hi)
          ⟨(nltq_f (Int.not_le.1 q2)), hp1⟩).cast (by first | rfl | (simp [spanB, *]; done) | (simp_all [spanB]; done) | (simp_all [spanB]; omega))
    ·
      exact (GoE.endsT okF hJ mixed_ok GoE.start (rSpan_s2 B a b lo hi)
        ⟨(nltq_f (Int.not_le.1 q1)), hp0⟩).cast (by first | rfl | (simp [spanB, *]; done) | (simp_all [spanB]; done) | (simp_all [spanB]; omega))
  ·
    exact (GoE.endsT okF hJ mixed_ok GoE.start (rSpan_s3 B a b lo hi)
      ⟨(nltq_f (Int.not_le.1 q0)), trivial⟩).cast (by first | rfl | (simp [spanB, *]; done) | (simp_all [spanB]; done) | (simp_all [spanB]; omega))
theorem rSpan (a b lo hi : Int)  : PureC Tryz.prog J0 70 #[.agg #[.int .i64 a, .int .i64 b], .int .i64 lo, .int .i64 hi] (.bool (spanB a b lo hi)) :=
  pureC_of (ts := [.agg #[.int .i64 a, .int .i64 b], .int .i64 lo, .int .i64 hi]) J0_st (c0 := entryC Tryz.prog 70 24 (([.agg #[.int .i64 a, .int .i64 b], .int .i64 lo, .int .i64 hi]).map (pushT 0 4))) (by kernel_rfl) (by kernel_rfl) fun B hJ => rSpan_e a b lo hi  hJ
structure ShPass where
  tides : List Int
  depth : Int
  draft : Int
  swell : List Span
  llo : Int
  lhi : Int
deriving Inhabited
abbrev slSp (xs : List Span) : Value := slT xs.length (rowL encSp xs)
def encPass (p : ShPass) : List Value := [slI p.tides, .int .i64 p.depth, .int .i64 p.draft, slSp p.swell, .int .i64 p.llo, .int .i64 p.lhi]
def passD (p : ShPass) : Bool := inB p.tides.length 1 50 && (inB p.depth 0 1000 && (inB p.draft 0 1000 && (inB p.swell.length 1 60 && spanB p.llo p.lhi 0 23)))
def passC (p : ShPass) : Bool := p.swell.all (fun s => spanB s.lo s.hi 0 1000) && passD p
def passB (p : ShPass) : Bool := p.tides.all (fun x => inB x (-1000) 1000) && passC p
def rPass_v0 (p : ShPass) (i : Int) : List Value := [Value.pointer (some { block := 2, off := 0 }), .int .i64 i]
def rPass_o0 (p : ShPass) (i : Int) : List Obj := [Obj.cells #[topV 1 (slT (List.length (ShPass.tides p)) (rowL encI (ShPass.tides p))), Value.int IntKind.i64 (ShPass.depth p), Value.int IntKind.i64 (ShPass.draft p), topV 1 (slT (List.length (ShPass.swell p)) (rowL encSp (ShPass.swell p))), Value.int IntKind.i64 (ShPass.llo p), Value.int IntKind.i64 (ShPass.lhi p)] 27]
noncomputable def rPass_t0 : List Item := ([.code [1, 0, 1, 0, 0], .inLoop [1, 0, 1, 0, 0], .inBlock 0, .code [1, 1]]).map (it (bodyOf Tryz.prog 21))
def rPass_h0 (B : Lo) (c0 : CF) (p : ShPass) (i : Int) : Prop := ∃ dJ : Nat → Value, (∀ t, Loose (dJ t)) ∧ GoE Tryz.prog B c0 H00 1 (headC 21 58 (([1, 3] : List Nat).zip (rPass_v0 p i)) dJ rPass_t0) (headH (rPass_o0 p i)) (2 + (rPass_o0 p i).length) []
def rPass_v1 (p : ShPass) (i : Int) : List Value := [Value.pointer (some { block := 2, off := 0 }), .int .i64 i]
def rPass_o1 (p : ShPass) (i : Int) : List Obj := [Obj.cells #[topV 1 (slT (List.length (ShPass.tides p)) (rowL encI (ShPass.tides p))), Value.int IntKind.i64 (ShPass.depth p), Value.int IntKind.i64 (ShPass.draft p), topV 1 (slT (List.length (ShPass.swell p)) (rowL encSp (ShPass.swell p))), Value.int IntKind.i64 (ShPass.llo p), Value.int IntKind.i64 (ShPass.lhi p)] 27]
noncomputable def rPass_t1 : List Item := ([.code [1, 1, 0, 1, 0, 0], .inLoop [1, 1, 0, 1, 0, 0], .inBlock 2, .code [1, 1, 1]]).map (it (bodyOf Tryz.prog 21))
def rPass_h1 (B : Lo) (c0 : CF) (p : ShPass) (i : Int) : Prop := ∃ dJ : Nat → Value, (∀ t, Loose (dJ t)) ∧ GoE Tryz.prog B c0 H00 1 (headC 21 58 (([1, 4] : List Nat).zip (rPass_v1 p i)) dJ rPass_t1) (headH (rPass_o1 p i)) (2 + (rPass_o1 p i).length) []
noncomputable def rPass_z0 (p : ShPass) (i : Int) : Array Value := #[Value.int IntKind.i64 (Span.lo (List.getD (ShPass.swell p) (Int.toNat i) default)), Value.int IntKind.i64 (Span.hi (List.getD (ShPass.swell p) (Int.toNat i) default))]
noncomputable def rPass_p0 (B : Lo) (p : ShPass) (i : Int) (dJ0 : Nat → Value) : List Prop := [i = (↑(Int.toNat i) : Int) ∧ Int.toNat i < List.length (ShPass.tides p) ∧ Array.extract (rowL encI (ShPass.tides p)) (Int.toNat i * TypeInfo.size Tryz.t3) (Int.toNat i * TypeInfo.size Tryz.t3 + TypeInfo.size Tryz.t3) = #[Value.int IntKind.i64 (List.getD (ShPass.tides p) (Int.toNat i) default)], ltq i (↑(List.length (ShPass.tides p)) : Int) = true] ++ ([] : List Prop)
noncomputable def rPass_q0 (p : ShPass) (i : Int) (dJ0 : Nat → Value) : ScriptT := [(4, hvT), (8, HintT.tidx (Int.toNat i) #[Value.int IntKind.i64 (List.getD (ShPass.tides p) (Int.toNat i) default)])]
set_option maxRecDepth 100000 in
theorem rPass_s0 (B : Lo) (p : ShPass) (i : Int) (dJ0 : Nat → Value) : landM (srunT Tryz.prog (okFn Tryz.prog) J0 B 14 1 (headC 21 58 (([1, 3] : List Nat).zip (rPass_v0 p i)) dJ0 rPass_t0) (headH (rPass_o0 p i)) (2 + (rPass_o0 p i).length)
    (rPass_q0 p i dJ0 ++ [(10, HintT.pure (Value.bool true) []), (13, hvI (i + 1))]) 0 [] []) [1, 3] [(2, KS.auto)] [] = some ⟨21, 58, rPass_t0, [], .run, none, rPass_v0 p (i + 1), rPass_o0 p (i + 1),
    [wq (i + 1) = i + 1, AllP [] ∧ PureC Tryz.prog J0 69 #[Value.int IntKind.i64 (List.getD (ShPass.tides p) (Int.toNat i) default), Value.int IntKind.i64 (-1000), Value.int IntKind.i64 1000] (Value.bool true)] ++ rPass_p0 B p i dJ0⟩ := by kernel_rfl
set_option maxRecDepth 100000 in
theorem rPass_s1 (B : Lo) (p : ShPass) (i : Int) (dJ0 : Nat → Value) : endT (srunT Tryz.prog (okFn Tryz.prog) J0 B 14 1 (headC 21 58 (([1, 3] : List Nat).zip (rPass_v0 p i)) dJ0 rPass_t0) (headH (rPass_o0 p i)) (2 + (rPass_o0 p i).length)
    (rPass_q0 p i dJ0 ++ [(10, HintT.pure (Value.bool false) [])]) 0 [] []) [] = some (Value.bool false,
    [AllP [] ∧ PureC Tryz.prog J0 69 #[Value.int IntKind.i64 (List.getD (ShPass.tides p) (Int.toNat i) default), Value.int IntKind.i64 (-1000), Value.int IntKind.i64 1000] (Value.bool false)] ++ rPass_p0 B p i dJ0) := by kernel_rfl
set_option maxRecDepth 100000 in
theorem rPass_s2 (B : Lo) (p : ShPass) (i : Int) (dJ0 : Nat → Value) : landM (srunT Tryz.prog (okFn Tryz.prog) J0 B 10 1 (headC 21 58 (([1, 3] : List Nat).zip (rPass_v0 p i)) dJ0 rPass_t0) (headH (rPass_o0 p i)) (2 + (rPass_o0 p i).length)
    [(4, hvF)] 0 [] []) [1, 4] [(2, KS.auto)] [] = some ⟨21, 58, rPass_t1, [], .run, none, rPass_v1 p (0), rPass_o1 p (0),
    [ltq i (↑(List.length (ShPass.tides p)) : Int) = false]⟩ := by kernel_rfl
noncomputable def rPass_p1 (B : Lo) (p : ShPass) (i : Int) (dJ0 : Nat → Value) : List Prop := [i = (↑(Int.toNat i) : Int) ∧ Int.toNat i < List.length (ShPass.swell p) ∧ Array.extract (rowL encSp (ShPass.swell p)) (Int.toNat i * TypeInfo.size Tryz.t25) (Int.toNat i * TypeInfo.size Tryz.t25 + TypeInfo.size Tryz.t25) = (rPass_z0 p i), ltq i (↑(List.length (ShPass.swell p)) : Int) = true] ++ ([] : List Prop)
noncomputable def rPass_q1 (p : ShPass) (i : Int) (dJ0 : Nat → Value) : ScriptT := [(4, hvT), (8, HintT.tidx (Int.toNat i) (rPass_z0 p i))]
set_option maxRecDepth 100000 in
theorem rPass_s3 (B : Lo) (p : ShPass) (i : Int) (dJ0 : Nat → Value) : landM (srunT Tryz.prog (okFn Tryz.prog) J0 B 14 1 (headC 21 58 (([1, 4] : List Nat).zip (rPass_v1 p i)) dJ0 rPass_t1) (headH (rPass_o1 p i)) (2 + (rPass_o1 p i).length)
    (rPass_q1 p i dJ0 ++ [(10, HintT.pure (Value.bool true) []), (13, hvI (i + 1))]) 0 [] []) [1, 4] [(2, KS.auto)] [] = some ⟨21, 58, rPass_t1, [], .run, none, rPass_v1 p (i + 1), rPass_o1 p (i + 1),
    [wq (i + 1) = i + 1, AllP [] ∧ PureC Tryz.prog J0 70 #[Value.agg (rPass_z0 p i), Value.int IntKind.i64 0, Value.int IntKind.i64 1000] (Value.bool true)] ++ rPass_p1 B p i dJ0⟩ := by kernel_rfl
set_option maxRecDepth 100000 in
theorem rPass_s4 (B : Lo) (p : ShPass) (i : Int) (dJ0 : Nat → Value) : endT (srunT Tryz.prog (okFn Tryz.prog) J0 B 14 1 (headC 21 58 (([1, 4] : List Nat).zip (rPass_v1 p i)) dJ0 rPass_t1) (headH (rPass_o1 p i)) (2 + (rPass_o1 p i).length)
    (rPass_q1 p i dJ0 ++ [(10, HintT.pure (Value.bool false) [])]) 0 [] []) [] = some (Value.bool false,
    [AllP [] ∧ PureC Tryz.prog J0 70 #[Value.agg (rPass_z0 p i), Value.int IntKind.i64 0, Value.int IntKind.i64 1000] (Value.bool false)] ++ rPass_p1 B p i dJ0) := by kernel_rfl
noncomputable def rPass_p2 (B : Lo) (p : ShPass) (i : Int) (dJ0 : Nat → Value) : List Prop := [ltq i (↑(List.length (ShPass.swell p)) : Int) = false] ++ ([] : List Prop)
noncomputable def rPass_q2 (p : ShPass) (i : Int) (dJ0 : Nat → Value) : ScriptT := [(4, hvF)]
noncomputable def rPass_p3 (B : Lo) (p : ShPass) (i : Int) (dJ0 : Nat → Value) : List Prop := [AllP [] ∧ PureC Tryz.prog J0 69 #[Value.int IntKind.i64 (↑(List.length (ShPass.tides p)) : Int), Value.int IntKind.i64 1, Value.int IntKind.i64 50] (Value.bool true)] ++ rPass_p2 B p i dJ0
noncomputable def rPass_q3 (p : ShPass) (i : Int) (dJ0 : Nat → Value) : ScriptT := rPass_q2 p i dJ0 ++ [(8, HintT.pure (Value.bool true) [])]
noncomputable def rPass_p4 (B : Lo) (p : ShPass) (i : Int) (dJ0 : Nat → Value) : List Prop := [AllP [] ∧ PureC Tryz.prog J0 69 #[Value.int IntKind.i64 (ShPass.depth p), Value.int IntKind.i64 0, Value.int IntKind.i64 1000] (Value.bool true)] ++ rPass_p3 B p i dJ0
noncomputable def rPass_q4 (p : ShPass) (i : Int) (dJ0 : Nat → Value) : ScriptT := rPass_q3 p i dJ0 ++ [(12, HintT.pure (Value.bool true) [])]
noncomputable def rPass_p5 (B : Lo) (p : ShPass) (i : Int) (dJ0 : Nat → Value) : List Prop := [AllP [] ∧ PureC Tryz.prog J0 69 #[Value.int IntKind.i64 (ShPass.draft p), Value.int IntKind.i64 0, Value.int IntKind.i64 1000] (Value.bool true)] ++ rPass_p4 B p i dJ0
noncomputable def rPass_q5 (p : ShPass) (i : Int) (dJ0 : Nat → Value) : ScriptT := rPass_q4 p i dJ0 ++ [(17, HintT.pure (Value.bool true) [])]
noncomputable def rPass_p6 (B : Lo) (p : ShPass) (i : Int) (dJ0 : Nat → Value) : List Prop := [AllP [] ∧ PureC Tryz.prog J0 69 #[Value.int IntKind.i64 (↑(List.length (ShPass.swell p)) : Int), Value.int IntKind.i64 1, Value.int IntKind.i64 60] (Value.bool true)] ++ rPass_p5 B p i dJ0
noncomputable def rPass_q6 (p : ShPass) (i : Int) (dJ0 : Nat → Value) : ScriptT := rPass_q5 p i dJ0 ++ [(23, HintT.pure (Value.bool true) [])]
set_option maxRecDepth 100000 in
theorem rPass_s5 (B : Lo) (p : ShPass) (i : Int) (dJ0 : Nat → Value) : endT (srunT Tryz.prog (okFn Tryz.prog) J0 B 9 1 (headC 21 58 (([1, 4] : List Nat).zip (rPass_v1 p i)) dJ0 rPass_t1) (headH (rPass_o1 p i)) (2 + (rPass_o1 p i).length)
    (rPass_q6 p i dJ0 ++ [(28, HintT.pure (Value.bool true) [])]) 0 [] []) [] = some (Value.bool true,
    [AllP [] ∧ PureC Tryz.prog J0 70 #[Value.agg #[Value.int IntKind.i64 (ShPass.llo p), Value.int IntKind.i64 (ShPass.lhi p)], Value.int IntKind.i64 0, Value.int IntKind.i64 23] (Value.bool true)] ++ rPass_p6 B p i dJ0) := by kernel_rfl
set_option maxRecDepth 100000 in
theorem rPass_s6 (B : Lo) (p : ShPass) (i : Int) (dJ0 : Nat → Value) : endT (srunT Tryz.prog (okFn Tryz.prog) J0 B 9 1 (headC 21 58 (([1, 4] : List Nat).zip (rPass_v1 p i)) dJ0 rPass_t1) (headH (rPass_o1 p i)) (2 + (rPass_o1 p i).length)
    (rPass_q6 p i dJ0 ++ [(28, HintT.pure (Value.bool false) [])]) 0 [] []) [] = some (Value.bool false,
    [AllP [] ∧ PureC Tryz.prog J0 70 #[Value.agg #[Value.int IntKind.i64 (ShPass.llo p), Value.int IntKind.i64 (ShPass.lhi p)], Value.int IntKind.i64 0, Value.int IntKind.i64 23] (Value.bool false)] ++ rPass_p6 B p i dJ0) := by kernel_rfl
set_option maxRecDepth 100000 in
theorem rPass_s7 (B : Lo) (p : ShPass) (i : Int) (dJ0 : Nat → Value) : endT (srunT Tryz.prog (okFn Tryz.prog) J0 B 9 1 (headC 21 58 (([1, 4] : List Nat).zip (rPass_v1 p i)) dJ0 rPass_t1) (headH (rPass_o1 p i)) (2 + (rPass_o1 p i).length)
    (rPass_q5 p i dJ0 ++ [(23, HintT.pure (Value.bool false) [])]) 0 [] []) [] = some (Value.bool false,
    [AllP [] ∧ PureC Tryz.prog J0 69 #[Value.int IntKind.i64 (↑(List.length (ShPass.swell p)) : Int), Value.int IntKind.i64 1, Value.int IntKind.i64 60] (Value.bool false)] ++ rPass_p5 B p i dJ0) := by kernel_rfl
set_option maxRecDepth 100000 in
theorem rPass_s8 (B : Lo) (p : ShPass) (i : Int) (dJ0 : Nat → Value) : endT (srunT Tryz.prog (okFn Tryz.prog) J0 B 9 1 (headC 21 58 (([1, 4] : List Nat).zip (rPass_v1 p i)) dJ0 rPass_t1) (headH (rPass_o1 p i)) (2 + (rPass_o1 p i).length)
    (rPass_q4 p i dJ0 ++ [(17, HintT.pure (Value.bool false) [])]) 0 [] []) [] = some (Value.bool false,
    [AllP [] ∧ PureC Tryz.prog J0 69 #[Value.int IntKind.i64 (ShPass.draft p), Value.int IntKind.i64 0, Value.int IntKind.i64 1000] (Value.bool false)] ++ rPass_p4 B p i dJ0) := by kernel_rfl
set_option maxRecDepth 100000 in
theorem rPass_s9 (B : Lo) (p : ShPass) (i : Int) (dJ0 : Nat → Value) : endT (srunT Tryz.prog (okFn Tryz.prog) J0 B 9 1 (headC 21 58 (([1, 4] : List Nat).zip (rPass_v1 p i)) dJ0 rPass_t1) (headH (rPass_o1 p i)) (2 + (rPass_o1 p i).length)
    (rPass_q3 p i dJ0 ++ [(12, HintT.pure (Value.bool false) [])]) 0 [] []) [] = some (Value.bool false,
    [AllP [] ∧ PureC Tryz.prog J0 69 #[Value.int IntKind.i64 (ShPass.depth p), Value.int IntKind.i64 0, Value.int IntKind.i64 1000] (Value.bool false)] ++ rPass_p3 B p i dJ0) := by kernel_rfl
set_option maxRecDepth 100000 in
theorem rPass_s10 (B : Lo) (p : ShPass) (i : Int) (dJ0 : Nat → Value) : endT (srunT Tryz.prog (okFn Tryz.prog) J0 B 9 1 (headC 21 58 (([1, 4] : List Nat).zip (rPass_v1 p i)) dJ0 rPass_t1) (headH (rPass_o1 p i)) (2 + (rPass_o1 p i).length)
    (rPass_q2 p i dJ0 ++ [(8, HintT.pure (Value.bool false) [])]) 0 [] []) [] = some (Value.bool false,
    [AllP [] ∧ PureC Tryz.prog J0 69 #[Value.int IntKind.i64 (↑(List.length (ShPass.tides p)) : Int), Value.int IntKind.i64 1, Value.int IntKind.i64 50] (Value.bool false)] ++ rPass_p2 B p i dJ0) := by kernel_rfl
set_option maxRecDepth 100000 in
theorem rPass_s11 (B : Lo) (p : ShPass) : landM (srunT Tryz.prog (okFn Tryz.prog) J0 B 7 1 (entryC Tryz.prog 21 58 (([.agg (encPass p).toArray]).map (pushT 0 4))) H00 1
    [] 0 [] []) [1, 3] [(1, KS.auto)] [] = some ⟨21, 58, rPass_t0, [], .run, none, rPass_v0 p (0), rPass_o0 p (0),
    []⟩ := by kernel_rfl
set_option maxHeartbeats 4000000 in
theorem rPass_ls (p : ShPass)  (hfacts : p.tides.length ≤ 9223372036854775807 ∧ p.swell.length ≤ 9223372036854775807) {B : Lo} (hJ : ∀ w, B.has w → J0 w) {c0 : CF} : ∀ m : Nat, (∀ (i : Int), (p.tides.length - i.toNat) + p.swell.length + 1 = m → ∀ (h0 : 0 ≤ i), rPass_h0 B c0 p i → EndsT Tryz.prog B c0 (.bool ((p.tides.drop i.toNat).all (fun x => inB x (-1000) 1000) && passC p))) ∧ (∀ (i : Int), (p.swell.length - i.toNat) = m → ∀ (h0 : 0 ≤ i), rPass_h1 B c0 p i → EndsT Tryz.prog B c0 (.bool ((p.swell.drop i.toNat).all (fun s => spanB s.lo s.hi 0 1000) && passD p))) := by
  intro m0
  induction m0 using Nat.strongRecOn with
  | _ m0 ih0 =>
    refine ⟨?_, ?_⟩
    · intro i hm0 h0 ⟨dJ0, hdJ0, hg0⟩
      by_cases q0 : (i : Int) < ((↑(List.length (ShPass.tides p)) : Int))
      ·
        have hp0 : AllP (rPass_p0 B p i dJ0) := by
          exact ⟨⟨by omega, by omega, (rowL_extract (z := 1) (fun _ => rfl) (by omega))⟩, ⟨(ltq_t q0), trivial⟩⟩
        cases q1 : inB (List.getD (ShPass.tides p) (Int.toNat i) default) (-1000) 1000 with
        | true =>
          exact ((ih0 _ (by omega)).1 (i + 1) rfl (by first | assumption | omega | (simp_all; done))
            (hg0.landM okF hJ mixed_ok (rPass_s0 B p i dJ0)
            ⟨(wq_in (by omega) (by omega)), ⟨⟨trivial, (by have t_ := rin (List.getD (ShPass.tides p) (Int.toNat i) default) (-1000) (1000); rw [q1] at t_; exact t_)⟩, hp0⟩⟩ (by kernel_rfl) (by kernel_rfl))).cast (by first | (rw [drop_all (i := i)]; (· simp_all [passC, passD]); (· omega); (· omega)) | (rw [drop_end (i := i)]; (· simp_all [passC, passD]); (· omega)))
        | false =>
          exact (GoE.endsT okF hJ mixed_ok hg0 (rPass_s1 B p i dJ0)
            ⟨⟨trivial, (by have t_ := rin (List.getD (ShPass.tides p) (Int.toNat i) default) (-1000) (1000); rw [q1] at t_; exact t_)⟩, hp0⟩).cast (by first | (rw [drop_all (i := i)]; (· simp_all [passC, passD]); (· omega); (· omega)) | (rw [drop_end (i := i)]; (· simp_all [passC, passD]); (· omega)))
      ·
        exact ((ih0 _ (by omega)).2 (0) rfl (by first | assumption | omega | (simp_all; done))
          (hg0.landM okF hJ mixed_ok (rPass_s2 B p i dJ0)
          ⟨(ltq_f (Int.not_lt.1 q0)), trivial⟩ (by kernel_rfl) (by kernel_rfl))).cast (by first | (rw [drop_all (i := i)]; (· simp_all [passC, passD]); (· omega); (· omega)) | (rw [drop_end (i := i)]; (· simp_all [passC, passD]); (· omega)))
    · intro i hm0 h0 ⟨dJ0, hdJ0, hg0⟩
      by_cases q0 : (i : Int) < ((↑(List.length (ShPass.swell p)) : Int))
      ·
        have hp1 : AllP (rPass_p1 B p i dJ0) := by
          exact ⟨⟨by omega, by omega, (rowL_extract (z := 2) (fun _ => rfl) (by omega))⟩, ⟨(ltq_t q0), trivial⟩⟩
        cases q1 : spanB (Span.lo (List.getD (ShPass.swell p) (Int.toNat i) default)) (Span.hi (List.getD (ShPass.swell p) (Int.toNat i) default)) 0 1000 with
        | true =>
          exact ((ih0 _ (by omega)).2 (i + 1) rfl (by first | assumption | omega | (simp_all; done))
            (hg0.landM okF hJ mixed_ok (rPass_s3 B p i dJ0)
            ⟨(wq_in (by omega) (by omega)), ⟨⟨trivial, (by have t_ := rSpan (Span.lo (List.getD (ShPass.swell p) (Int.toNat i) default)) (Span.hi (List.getD (ShPass.swell p) (Int.toNat i) default)) (0) (1000); rw [q1] at t_; exact t_)⟩, hp1⟩⟩ (by kernel_rfl) (by kernel_rfl))).cast (by first | (rw [drop_all (i := i)]; (· simp_all [passD]); (· omega); (· omega)) | (rw [drop_end (i := i)]; (· simp_all [passD]); (· omega)))
        | false =>
          exact (GoE.endsT okF hJ mixed_ok hg0 (rPass_s4 B p i dJ0)
            ⟨⟨trivial, (by have t_ := rSpan (Span.lo (List.getD (ShPass.swell p) (Int.toNat i) default)) (Span.hi (List.getD (ShPass.swell p) (Int.toNat i) default)) (0) (1000); rw [q1] at t_; exact t_)⟩, hp1⟩).cast (by first | (rw [drop_all (i := i)]; (· simp_all [passD]); (· omega); (· omega)) | (rw [drop_end (i := i)]; (· simp_all [passD]); (· omega)))
      ·
        have hp2 : AllP (rPass_p2 B p i dJ0) := by
          exact ⟨(ltq_f (Int.not_lt.1 q0)), trivial⟩
        cases q1 : inB (↑(List.length (ShPass.tides p)) : Int) 1 50 with
        | true =>
          have hp3 : AllP (rPass_p3 B p i dJ0) := by
            exact ⟨⟨trivial, (by have t_ := rin ((↑(List.length (ShPass.tides p)) : Int)) (1) (50); rw [q1] at t_; exact t_)⟩, hp2⟩
          cases q2 : inB (ShPass.depth p) 0 1000 with
          | true =>
            have hp4 : AllP (rPass_p4 B p i dJ0) := by
              exact ⟨⟨trivial, (by have t_ := rin (ShPass.depth p) (0) (1000); rw [q2] at t_; exact t_)⟩, hp3⟩
            cases q3 : inB (ShPass.draft p) 0 1000 with
            | true =>
              have hp5 : AllP (rPass_p5 B p i dJ0) := by
                exact ⟨⟨trivial, (by have t_ := rin (ShPass.draft p) (0) (1000); rw [q3] at t_; exact t_)⟩, hp4⟩
              cases q4 : inB (↑(List.length (ShPass.swell p)) : Int) 1 60 with
              | true =>
                have hp6 : AllP (rPass_p6 B p i dJ0) := by
                  exact ⟨⟨trivial, (by have t_ := rin ((↑(List.length (ShPass.swell p)) : Int)) (1) (60); rw [q4] at t_; exact t_)⟩, hp5⟩
                cases q5 : spanB (ShPass.llo p) (ShPass.lhi p) 0 23 with
                | true =>
                  exact (GoE.endsT okF hJ mixed_ok hg0 (rPass_s5 B p i dJ0)
                    ⟨⟨trivial, (by have t_ := rSpan (ShPass.llo p) (ShPass.lhi p) (0) (23); rw [q5] at t_; exact t_)⟩, hp6⟩).cast (by first | (rw [drop_all (i := i)]; (· simp_all [passD]); (· omega); (· omega)) | (rw [drop_end (i := i)]; (· simp_all [passD]); (· omega)))
                | false =>
                  exact (GoE.endsT okF hJ mixed_ok hg0 (rPass_s6 B p i dJ0)
                    ⟨⟨trivial, (by have t_ := rSpan (ShPass.llo p) (ShPass.lhi p) (0) (23); rw [q5] at t_; exact t_)⟩, hp6⟩).cast (by first | (rw [drop_all (i := i)]; (· simp_all [passD]); (· omega); (· omega)) | (rw [drop_end (i := i)]; (· simp_all [passD]); (· omega)))
              | false =>
                exact (GoE.endsT okF hJ mixed_ok hg0 (rPass_s7 B p i dJ0)
                  ⟨⟨trivial, (by have t_ := rin ((↑(List.length (ShPass.swell p)) : Int)) (1) (60); rw [q4] at t_; exact t_)⟩, hp5⟩).cast (by first | (rw [drop_all (i := i)]; (· simp_all [passD]); (· omega); (· omega)) | (rw [drop_end (i := i)]; (· simp_all [passD]); (· omega)))
            | false =>
              exact (GoE.endsT okF hJ mixed_ok hg0 (rPass_s8 B p i dJ0)
                ⟨⟨trivial, (by have t_ := rin (ShPass.draft p) (0) (1000); rw [q3] at t_; exact t_)⟩, hp4⟩).cast (by first | (rw [drop_all (i := i)]; (· simp_all [passD]); (· omega); (· omega)) | (rw [drop_end (i := i)]; (· simp_all [passD]); (· omega)))
          | false =>
            exact (GoE.endsT okF hJ mixed_ok hg0 (rPass_s9 B p i dJ0)
              ⟨⟨trivial, (by have t_ := rin (ShPass.depth p) (0) (1000); rw [q2] at t_; exact t_)⟩, hp3⟩).cast (by first | (rw [drop_all (i := i)]; (· simp_all [passD]); (· omega); (· omega)) | (rw [drop_end (i := i)]; (· simp_all [passD]); (· omega)))
        | false =>
          exact (GoE.endsT okF hJ mixed_ok hg0 (rPass_s10 B p i dJ0)
            ⟨⟨trivial, (by have t_ := rin ((↑(List.length (ShPass.tides p)) : Int)) (1) (50); rw [q1] at t_; exact t_)⟩, hp2⟩).cast (by first | (rw [drop_all (i := i)]; (· simp_all [passD]); (· omega); (· omega)) | (rw [drop_end (i := i)]; (· simp_all [passD]); (· omega)))
set_option maxHeartbeats 4000000 in
theorem rPass_e (p : ShPass)  (hfacts : p.tides.length ≤ 9223372036854775807 ∧ p.swell.length ≤ 9223372036854775807) {B : Lo} (hJ : ∀ w, B.has w → J0 w) : EndsT Tryz.prog B (entryC Tryz.prog 21 58 (([.agg (encPass p).toArray]).map (pushT 0 4))) (.bool (passB p)) := by
  exact ((rPass_ls p hfacts hJ _).1 (0) rfl (by first | assumption | omega | (simp_all; done))
    (GoE.start.landM okF hJ mixed_ok (rPass_s11 B p)
    trivial (by kernel_rfl) (by kernel_rfl))).cast (by simp_all [passB])
theorem rPass (p : ShPass)  : PureC Tryz.prog J0 21 #[.agg (encPass p).toArray] (.bool (passB p)) :=
  pureC_ofF (ts := [.agg (encPass p).toArray]) (p.tides.length ≤ 9223372036854775807 ∧ p.swell.length ≤ 9223372036854775807) (fun _ _ ht => ⟨ht.ln2 (i := 0) (j := 0) rfl rfl, ht.ln2 (i := 0) (j := 3) rfl rfl⟩) J0_st (c0 := entryC Tryz.prog 21 58 (([.agg (encPass p).toArray]).map (pushT 0 4))) (by kernel_rfl) (by kernel_rfl) fun hfacts B hJ => rPass_e p  hfacts hJ
end Go.Proofs.YtoihlobogbeigaaGreat

namespace Go.Proofs.YtoihlobogbeigaaGreat
open Go Go.CE Go.RowKit
noncomputable def pIn_p0 (B : Lo) (n lo hi : Int) : List Prop := [(!ltq n lo) = true] ++ ([] : List Prop)
noncomputable def pIn_q0 (n lo hi : Int) : ScriptT := [(3, hvT)]
set_option maxRecDepth 100000 in
theorem pIn_s0 (B : Lo) (n lo hi : Int) : endT (srunT Tryz.prog (okFn Tryz.prog) J0 B 6 1 (entryC Tryz.prog 76 15 (([.int .i64 n, .int .i64 lo, .int .i64 hi]).map (pushT 0 4))) H00 1
    (pIn_q0 n lo hi ++ [(7, hvT)]) 0 [] []) [] = some (Value.bool true,
    [(!ltq hi n) = true] ++ pIn_p0 B n lo hi) := by kernel_rfl
set_option maxRecDepth 100000 in
theorem pIn_s1 (B : Lo) (n lo hi : Int) : endT (srunT Tryz.prog (okFn Tryz.prog) J0 B 6 1 (entryC Tryz.prog 76 15 (([.int .i64 n, .int .i64 lo, .int .i64 hi]).map (pushT 0 4))) H00 1
    (pIn_q0 n lo hi ++ [(7, hvF)]) 0 [] []) [] = some (Value.bool false,
    [(!ltq hi n) = false] ++ pIn_p0 B n lo hi) := by kernel_rfl
set_option maxRecDepth 100000 in
theorem pIn_s2 (B : Lo) (n lo hi : Int) : endT (srunT Tryz.prog (okFn Tryz.prog) J0 B 6 1 (entryC Tryz.prog 76 15 (([.int .i64 n, .int .i64 lo, .int .i64 hi]).map (pushT 0 4))) H00 1
    [(3, hvF)] 0 [] []) [] = some (Value.bool false,
    [(!ltq n lo) = false]) := by kernel_rfl
set_option maxHeartbeats 4000000 in
theorem pIn_e (n lo hi : Int)  {B : Lo} (hJ : ∀ w, B.has w → J0 w) : EndsT Tryz.prog B (entryC Tryz.prog 76 15 (([.int .i64 n, .int .i64 lo, .int .i64 hi]).map (pushT 0 4))) (.bool (inB n lo hi)) := by
  by_cases q0 : (lo : Int) ≤ (n)
  ·
    have hp0 : AllP (pIn_p0 B n lo hi) := by
      exact ⟨(nltq_t q0), trivial⟩
    by_cases q1 : (n : Int) ≤ (hi)
    ·
      exact (GoE.endsT okF hJ mixed_ok GoE.start (pIn_s0 B n lo hi)
        ⟨(nltq_t q1), hp0⟩).cast (by first | rfl | (simp [inB, *]; done) | (simp_all [inB]; done) | (simp_all [inB]; omega))
    ·
      exact (GoE.endsT okF hJ mixed_ok GoE.start (pIn_s1 B n lo hi)
        ⟨(nltq_f (Int.not_le.1 q1)), hp0⟩).cast (by first | rfl | (simp [inB, *]; done) | (simp_all [inB]; done) | (simp_all [inB]; omega))
  ·
    exact (GoE.endsT okF hJ mixed_ok GoE.start (pIn_s2 B n lo hi)
      ⟨(nltq_f (Int.not_le.1 q0)), trivial⟩).cast (by first | rfl | (simp [inB, *]; done) | (simp_all [inB]; done) | (simp_all [inB]; omega))
theorem pIn (n lo hi : Int)  : PureC Tryz.prog J0 76 #[.int .i64 n, .int .i64 lo, .int .i64 hi] (.bool (inB n lo hi)) :=
  pureC_of (ts := [.int .i64 n, .int .i64 lo, .int .i64 hi]) J0_st (c0 := entryC Tryz.prog 76 15 (([.int .i64 n, .int .i64 lo, .int .i64 hi]).map (pushT 0 4))) (by kernel_rfl) (by kernel_rfl) fun B hJ => pIn_e n lo hi  hJ
def pAllIn_v0 (xs : List Int) (lo hi : Int) (i : Int) : List Value := [Value.int IntKind.i64 lo, Value.int IntKind.i64 hi, topV 1 (slT (List.length xs) (rowL encI xs)), Value.int IntKind.i64 (↑(List.length xs) : Int), .int .i64 i]
def pAllIn_o0 (xs : List Int) (lo hi : Int) (i : Int) : List Obj := []
noncomputable def pAllIn_t0 : List Item := ([.code [1, 0, 1, 0, 0], .inLoop [1, 0, 1, 0, 0], .inBlock 0, .code [1, 1]]).map (it (bodyOf Tryz.prog 100))
def pAllIn_h0 (B : Lo) (c0 : CF) (xs : List Int) (lo hi : Int) (i : Int) : Prop := ∃ dJ : Nat → Value, (∀ t, Loose (dJ t)) ∧ GoE Tryz.prog B c0 H00 1 (headC 100 21 (([1, 2, 9, 10, 11] : List Nat).zip (pAllIn_v0 xs lo hi i)) dJ pAllIn_t0) (headH (pAllIn_o0 xs lo hi i)) (2 + (pAllIn_o0 xs lo hi i).length) []
noncomputable def pAllIn_p0 (B : Lo) (xs : List Int) (lo hi : Int) (i : Int) (dJ0 : Nat → Value) : List Prop := [i = (↑(Int.toNat i) : Int) ∧ Int.toNat i < List.length xs ∧ Array.extract (rowL encI xs) (Int.toNat i * TypeInfo.size Tryz.t3) (Int.toNat i * TypeInfo.size Tryz.t3 + TypeInfo.size Tryz.t3) = #[Value.int IntKind.i64 (List.getD xs (Int.toNat i) default)], ltq i (↑(List.length xs) : Int) = true] ++ ([] : List Prop)
noncomputable def pAllIn_q0 (xs : List Int) (lo hi : Int) (i : Int) (dJ0 : Nat → Value) : ScriptT := [(0, hvT), (1, HintT.tidx (Int.toNat i) #[Value.int IntKind.i64 (List.getD xs (Int.toNat i) default)])]
set_option maxRecDepth 100000 in
theorem pAllIn_s0 (B : Lo) (xs : List Int) (lo hi : Int) (i : Int) (dJ0 : Nat → Value) : landM (srunT Tryz.prog (okFn Tryz.prog) J0 B 16 1 (headC 100 21 (([1, 2, 9, 10, 11] : List Nat).zip (pAllIn_v0 xs lo hi i)) dJ0 pAllIn_t0) (headH (pAllIn_o0 xs lo hi i)) (2 + (pAllIn_o0 xs lo hi i).length)
    (pAllIn_q0 xs lo hi i dJ0 ++ [(7, HintT.pure (Value.bool true) []), (9, hvI (i + 1))]) 0 [] []) [1, 2, 9, 10, 11] [] [] = some ⟨100, 21, pAllIn_t0, [], .run, none, pAllIn_v0 xs lo hi (i + 1), pAllIn_o0 xs lo hi (i + 1),
    [wq (i + 1) = i + 1, AllP [] ∧ PureC Tryz.prog J0 76 #[Value.int IntKind.i64 (List.getD xs (Int.toNat i) default), Value.int IntKind.i64 lo, Value.int IntKind.i64 hi] (Value.bool true)] ++ pAllIn_p0 B xs lo hi i dJ0⟩ := by kernel_rfl
set_option maxRecDepth 100000 in
theorem pAllIn_s1 (B : Lo) (xs : List Int) (lo hi : Int) (i : Int) (dJ0 : Nat → Value) : endT (srunT Tryz.prog (okFn Tryz.prog) J0 B 16 1 (headC 100 21 (([1, 2, 9, 10, 11] : List Nat).zip (pAllIn_v0 xs lo hi i)) dJ0 pAllIn_t0) (headH (pAllIn_o0 xs lo hi i)) (2 + (pAllIn_o0 xs lo hi i).length)
    (pAllIn_q0 xs lo hi i dJ0 ++ [(7, HintT.pure (Value.bool false) [])]) 0 [] []) [] = some (Value.bool false,
    [AllP [] ∧ PureC Tryz.prog J0 76 #[Value.int IntKind.i64 (List.getD xs (Int.toNat i) default), Value.int IntKind.i64 lo, Value.int IntKind.i64 hi] (Value.bool false)] ++ pAllIn_p0 B xs lo hi i dJ0) := by kernel_rfl
set_option maxRecDepth 100000 in
theorem pAllIn_s2 (B : Lo) (xs : List Int) (lo hi : Int) (i : Int) (dJ0 : Nat → Value) : endT (srunT Tryz.prog (okFn Tryz.prog) J0 B 9 1 (headC 100 21 (([1, 2, 9, 10, 11] : List Nat).zip (pAllIn_v0 xs lo hi i)) dJ0 pAllIn_t0) (headH (pAllIn_o0 xs lo hi i)) (2 + (pAllIn_o0 xs lo hi i).length)
    [(0, hvF)] 0 [] []) [] = some (Value.bool true,
    [ltq i (↑(List.length xs) : Int) = false]) := by kernel_rfl
set_option maxRecDepth 100000 in
theorem pAllIn_s3 (B : Lo) (xs : List Int) (lo hi : Int) : landM (srunT Tryz.prog (okFn Tryz.prog) J0 B 7 1 (entryC Tryz.prog 100 21 (([slI xs, .int .i64 lo, .int .i64 hi]).map (pushT 0 4))) H00 1
    [] 0 [] []) [1, 2, 9, 10, 11] [] [] = some ⟨100, 21, pAllIn_t0, [], .run, none, pAllIn_v0 xs lo hi (0), pAllIn_o0 xs lo hi (0),
    []⟩ := by kernel_rfl
set_option maxHeartbeats 4000000 in
theorem pAllIn_ls (xs : List Int) (lo hi : Int)  (hfacts : xs.length ≤ 9223372036854775807) {B : Lo} (hJ : ∀ w, B.has w → J0 w) {c0 : CF} : ∀ m : Nat, (∀ (i : Int), xs.length - i.toNat = m → ∀ (h0 : 0 ≤ i), pAllIn_h0 B c0 xs lo hi i → EndsT Tryz.prog B c0 (.bool ((xs.drop i.toNat).all (fun x => inB x lo hi)))) := by
  intro m0
  induction m0 using Nat.strongRecOn with
  | _ m0 ih0 =>
    intro i hm0 h0 ⟨dJ0, hdJ0, hg0⟩
    by_cases q0 : (i : Int) < ((↑(List.length xs) : Int))
    ·
      have hp0 : AllP (pAllIn_p0 B xs lo hi i dJ0) := by
        exact ⟨⟨by omega, by omega, (rowL_extract (z := 1) (fun _ => rfl) (by omega))⟩, ⟨(ltq_t q0), trivial⟩⟩
      cases q1 : inB (List.getD xs (Int.toNat i) default) lo hi with
      | true =>
        exact ((ih0 _ (by omega)) (i + 1) rfl (by first | assumption | omega | (simp_all; done))
          (hg0.landM okF hJ mixed_ok (pAllIn_s0 B xs lo hi i dJ0)
          ⟨(wq_in (by omega) (by omega)), ⟨⟨trivial, (by have t_ := pIn (List.getD xs (Int.toNat i) default) (lo) (hi); rw [q1] at t_; exact t_)⟩, hp0⟩⟩ (by kernel_rfl) (by kernel_rfl))).cast (by first | (rw [drop_all (i := i)]; (· simp_all); (· omega); (· omega)) | (rw [drop_end (i := i)]; (· simp_all); (· omega)))
      | false =>
        exact (GoE.endsT okF hJ mixed_ok hg0 (pAllIn_s1 B xs lo hi i dJ0)
          ⟨⟨trivial, (by have t_ := pIn (List.getD xs (Int.toNat i) default) (lo) (hi); rw [q1] at t_; exact t_)⟩, hp0⟩).cast (by first | (rw [drop_all (i := i)]; (· simp_all); (· omega); (· omega)) | (rw [drop_end (i := i)]; (· simp_all); (· omega)))
    ·
      exact (GoE.endsT okF hJ mixed_ok hg0 (pAllIn_s2 B xs lo hi i dJ0)
        ⟨(ltq_f (Int.not_lt.1 q0)), trivial⟩).cast (by first | (rw [drop_all (i := i)]; (· simp_all); (· omega); (· omega)) | (rw [drop_end (i := i)]; (· simp_all); (· omega)))
set_option maxHeartbeats 4000000 in
theorem pAllIn_e (xs : List Int) (lo hi : Int)  (hfacts : xs.length ≤ 9223372036854775807) {B : Lo} (hJ : ∀ w, B.has w → J0 w) : EndsT Tryz.prog B (entryC Tryz.prog 100 21 (([slI xs, .int .i64 lo, .int .i64 hi]).map (pushT 0 4))) (.bool (xs.all (fun x => inB x lo hi))) := by
  exact ((pAllIn_ls xs lo hi hfacts hJ _) (0) rfl (by first | assumption | omega | (simp_all; done))
    (GoE.start.landM okF hJ mixed_ok (pAllIn_s3 B xs lo hi)
    trivial (by kernel_rfl) (by kernel_rfl))).cast (by first | rfl | (simp [*]; done) | (simp_all []; done) | (simp_all []; omega))
theorem pAllIn (xs : List Int) (lo hi : Int)  : PureC Tryz.prog J0 100 #[slI xs, .int .i64 lo, .int .i64 hi] (.bool (xs.all (fun x => inB x lo hi))) :=
  pureC_ofF (ts := [slI xs, .int .i64 lo, .int .i64 hi]) (xs.length ≤ 9223372036854775807) (fun _ _ ht => ht.ln (i := 0) rfl) J0_st (c0 := entryC Tryz.prog 100 21 (([slI xs, .int .i64 lo, .int .i64 hi]).map (pushT 0 4))) (by kernel_rfl) (by kernel_rfl) fun hfacts B hJ => pAllIn_e xs lo hi  hfacts hJ
set_option maxRecDepth 100000 in
theorem pInSpan_s0 (B : Lo) (n a b : Int) : endT (srunT Tryz.prog (okFn Tryz.prog) J0 B 6 1 (entryC Tryz.prog 73 11 (([.int .i64 n, .agg #[.int .i64 a, .int .i64 b]]).map (pushT 0 4))) H00 1
    [(7, HintT.pure (Value.bool true) [])] 0 [] []) [] = some (Value.bool true,
    [AllP [] ∧ PureC Tryz.prog J0 76 #[Value.int IntKind.i64 n, Value.int IntKind.i64 a, Value.int IntKind.i64 b] (Value.bool true)]) := by kernel_rfl
set_option maxRecDepth 100000 in
theorem pInSpan_s1 (B : Lo) (n a b : Int) : endT (srunT Tryz.prog (okFn Tryz.prog) J0 B 6 1 (entryC Tryz.prog 73 11 (([.int .i64 n, .agg #[.int .i64 a, .int .i64 b]]).map (pushT 0 4))) H00 1
    [(7, HintT.pure (Value.bool false) [])] 0 [] []) [] = some (Value.bool false,
    [AllP [] ∧ PureC Tryz.prog J0 76 #[Value.int IntKind.i64 n, Value.int IntKind.i64 a, Value.int IntKind.i64 b] (Value.bool false)]) := by kernel_rfl
set_option maxHeartbeats 4000000 in
theorem pInSpan_e (n a b : Int)  {B : Lo} (hJ : ∀ w, B.has w → J0 w) : EndsT Tryz.prog B (entryC Tryz.prog 73 11 (([.int .i64 n, .agg #[.int .i64 a, .int .i64 b]]).map (pushT 0 4))) (.bool (inB n a b)) := by
  cases q0 : inB n a b with
  | true =>
    exact (GoE.endsT okF hJ mixed_ok GoE.start (pInSpan_s0 B n a b)
      ⟨⟨trivial, (by have t_ := pIn (n) (a) (b); rw [q0] at t_; exact t_)⟩, trivial⟩).cast (by first | rfl | (simp [*]; done) | (simp_all []; done) | (simp_all []; omega))
  | false =>
    exact (GoE.endsT okF hJ mixed_ok GoE.start (pInSpan_s1 B n a b)
      ⟨⟨trivial, (by have t_ := pIn (n) (a) (b); rw [q0] at t_; exact t_)⟩, trivial⟩).cast (by first | rfl | (simp [*]; done) | (simp_all []; done) | (simp_all []; omega))
theorem pInSpan (n a b : Int)  : PureC Tryz.prog J0 73 #[.int .i64 n, .agg #[.int .i64 a, .int .i64 b]] (.bool (inB n a b)) :=
  pureC_of (ts := [.int .i64 n, .agg #[.int .i64 a, .int .i64 b]]) J0_st (c0 := entryC Tryz.prog 73 11 (([.int .i64 n, .agg #[.int .i64 a, .int .i64 b]]).map (pushT 0 4))) (by kernel_rfl) (by kernel_rfl) fun B hJ => pInSpan_e n a b  hJ
noncomputable def pIsWithin_p0 (B : Lo) (a b lo hi : Int) : List Prop := [(!ltq a lo) = true] ++ ([] : List Prop)
noncomputable def pIsWithin_q0 (a b lo hi : Int) : ScriptT := [(5, hvT)]
noncomputable def pIsWithin_p1 (B : Lo) (a b lo hi : Int) : List Prop := [(!ltq b a) = true] ++ pIsWithin_p0 B a b lo hi
noncomputable def pIsWithin_q1 (a b lo hi : Int) : ScriptT := pIsWithin_q0 a b lo hi ++ [(11, hvT)]
set_option maxRecDepth 100000 in
theorem pIsWithin_s0 (B : Lo) (a b lo hi : Int) : endT (srunT Tryz.prog (okFn Tryz.prog) J0 B 6 1 (entryC Tryz.prog 109 24 (([.agg #[.int .i64 a, .int .i64 b], .int .i64 lo, .int .i64 hi]).map (pushT 0 4))) H00 1
    (pIsWithin_q1 a b lo hi ++ [(17, hvT)]) 0 [] []) [] = some (Value.bool true,
    [(!ltq hi b) = true] ++ pIsWithin_p1 B a b lo hi) := by kernel_rfl
set_option maxRecDepth 100000 in
theorem pIsWithin_s1 (B : Lo) (a b lo hi : Int) : endT (srunT Tryz.prog (okFn Tryz.prog) J0 B 6 1 (entryC Tryz.prog 109 24 (([.agg #[.int .i64 a, .int .i64 b], .int .i64 lo, .int .i64 hi]).map (pushT 0 4))) H00 1
    (pIsWithin_q1 a b lo hi ++ [(17, hvF)]) 0 [] []) [] = some (Value.bool false,
    [(!ltq hi b) = false] ++ pIsWithin_p1 B a b lo hi) := by kernel_rfl
set_option maxRecDepth 100000 in
theorem pIsWithin_s2 (B : Lo) (a b lo hi : Int) : endT (srunT Tryz.prog (okFn Tryz.prog) J0 B 6 1 (entryC Tryz.prog 109 24 (([.agg #[.int .i64 a, .int .i64 b], .int .i64 lo, .int .i64 hi]).map (pushT 0 4))) H00 1
    (pIsWithin_q0 a b lo hi ++ [(11, hvF)]) 0 [] []) [] = some (Value.bool false,
    [(!ltq b a) = false] ++ pIsWithin_p0 B a b lo hi) := by kernel_rfl
set_option maxRecDepth 100000 in
theorem pIsWithin_s3 (B : Lo) (a b lo hi : Int) : endT (srunT Tryz.prog (okFn Tryz.prog) J0 B 6 1 (entryC Tryz.prog 109 24 (([.agg #[.int .i64 a, .int .i64 b], .int .i64 lo, .int .i64 hi]).map (pushT 0 4))) H00 1
    [(5, hvF)] 0 [] []) [] = some (Value.bool false,
    [(!ltq a lo) = false]) := by kernel_rfl
set_option maxHeartbeats 4000000 in
theorem pIsWithin_e (a b lo hi : Int)  {B : Lo} (hJ : ∀ w, B.has w → J0 w) : EndsT Tryz.prog B (entryC Tryz.prog 109 24 (([.agg #[.int .i64 a, .int .i64 b], .int .i64 lo, .int .i64 hi]).map (pushT 0 4))) (.bool (spanB a b lo hi)) := by
  by_cases q0 : (lo : Int) ≤ (a)
  ·
    have hp0 : AllP (pIsWithin_p0 B a b lo hi) := by
      exact ⟨(nltq_t q0), trivial⟩
    by_cases q1 : (a : Int) ≤ (b)
    ·
      have hp1 : AllP (pIsWithin_p1 B a b lo hi) := by
        exact ⟨(nltq_t q1), hp0⟩
      by_cases q2 : (b : Int) ≤ (hi)
      ·
        exact (GoE.endsT okF hJ mixed_ok GoE.start (pIsWithin_s0 B a b lo hi)
          ⟨(nltq_t q2), hp1⟩).cast (by first | rfl | (simp [spanB, *]; done) | (simp_all [spanB]; done) | (simp_all [spanB]; omega))
      ·
        exact (GoE.endsT okF hJ mixed_ok GoE.start (pIsWithin_s1 B a b lo hi)
          ⟨(nltq_f (Int.not_le.1 q2)), hp1⟩).cast (by first | rfl | (simp [spanB, *]; done) | (simp_all [spanB]; done) | (simp_all [spanB]; omega))
    ·
      exact (GoE.endsT okF hJ mixed_ok GoE.start (pIsWithin_s2 B a b lo hi)
        ⟨(nltq_f (Int.not_le.1 q1)), hp0⟩).cast (by first | rfl | (simp [spanB, *]; done) | (simp_all [spanB]; done) | (simp_all [spanB]; omega))
  ·
    exact (GoE.endsT okF hJ mixed_ok GoE.start (pIsWithin_s3 B a b lo hi)
      ⟨(nltq_f (Int.not_le.1 q0)), trivial⟩).cast (by first | rfl | (simp [spanB, *]; done) | (simp_all [spanB]; done) | (simp_all [spanB]; omega))
theorem pIsWithin (a b lo hi : Int)  : PureC Tryz.prog J0 109 #[.agg #[.int .i64 a, .int .i64 b], .int .i64 lo, .int .i64 hi] (.bool (spanB a b lo hi)) :=
  pureC_of (ts := [.agg #[.int .i64 a, .int .i64 b], .int .i64 lo, .int .i64 hi]) J0_st (c0 := entryC Tryz.prog 109 24 (([.agg #[.int .i64 a, .int .i64 b], .int .i64 lo, .int .i64 hi]).map (pushT 0 4))) (by kernel_rfl) (by kernel_rfl) fun B hJ => pIsWithin_e a b lo hi  hJ
set_option maxRecDepth 100000 in
theorem pIsSpan_s0 (B : Lo) (a b most : Int) : endT (srunT Tryz.prog (okFn Tryz.prog) J0 B 6 1 (entryC Tryz.prog 102 8 (([.agg #[.int .i64 a, .int .i64 b], .int .i64 most]).map (pushT 0 4))) H00 1
    [(4, HintT.pure (Value.bool true) [])] 0 [] []) [] = some (Value.bool true,
    [AllP [] ∧ PureC Tryz.prog J0 109 #[Value.agg #[Value.int IntKind.i64 a, Value.int IntKind.i64 b], Value.int IntKind.i64 0, Value.int IntKind.i64 most] (Value.bool true)]) := by kernel_rfl
set_option maxRecDepth 100000 in
theorem pIsSpan_s1 (B : Lo) (a b most : Int) : endT (srunT Tryz.prog (okFn Tryz.prog) J0 B 6 1 (entryC Tryz.prog 102 8 (([.agg #[.int .i64 a, .int .i64 b], .int .i64 most]).map (pushT 0 4))) H00 1
    [(4, HintT.pure (Value.bool false) [])] 0 [] []) [] = some (Value.bool false,
    [AllP [] ∧ PureC Tryz.prog J0 109 #[Value.agg #[Value.int IntKind.i64 a, Value.int IntKind.i64 b], Value.int IntKind.i64 0, Value.int IntKind.i64 most] (Value.bool false)]) := by kernel_rfl
set_option maxHeartbeats 4000000 in
theorem pIsSpan_e (a b most : Int)  {B : Lo} (hJ : ∀ w, B.has w → J0 w) : EndsT Tryz.prog B (entryC Tryz.prog 102 8 (([.agg #[.int .i64 a, .int .i64 b], .int .i64 most]).map (pushT 0 4))) (.bool (spanB a b 0 most)) := by
  cases q0 : spanB a b 0 most with
  | true =>
    exact (GoE.endsT okF hJ mixed_ok GoE.start (pIsSpan_s0 B a b most)
      ⟨⟨trivial, (by have t_ := pIsWithin (a) (b) (0) (most); rw [q0] at t_; exact t_)⟩, trivial⟩).cast (by first | rfl | (simp [spanB, *]; done) | (simp_all [spanB]; done) | (simp_all [spanB]; omega))
  | false =>
    exact (GoE.endsT okF hJ mixed_ok GoE.start (pIsSpan_s1 B a b most)
      ⟨⟨trivial, (by have t_ := pIsWithin (a) (b) (0) (most); rw [q0] at t_; exact t_)⟩, trivial⟩).cast (by first | rfl | (simp [spanB, *]; done) | (simp_all [spanB]; done) | (simp_all [spanB]; omega))
theorem pIsSpan (a b most : Int)  : PureC Tryz.prog J0 102 #[.agg #[.int .i64 a, .int .i64 b], .int .i64 most] (.bool (spanB a b 0 most)) :=
  pureC_of (ts := [.agg #[.int .i64 a, .int .i64 b], .int .i64 most]) J0_st (c0 := entryC Tryz.prog 102 8 (([.agg #[.int .i64 a, .int .i64 b], .int .i64 most]).map (pushT 0 4))) (by kernel_rfl) (by kernel_rfl) fun B hJ => pIsSpan_e a b most  hJ
def pAreSpans_v0 (xs : List Span) (most : Int) (i : Int) : List Value := [Value.int IntKind.i64 most, topV 1 (slT (List.length xs) (rowL encSp xs)), Value.int IntKind.i64 (↑(List.length xs) : Int), .int .i64 i]
def pAreSpans_o0 (xs : List Span) (most : Int) (i : Int) : List Obj := []
noncomputable def pAreSpans_t0 : List Item := ([.code [1, 0, 1, 0, 0], .inLoop [1, 0, 1, 0, 0], .inBlock 0, .code [1, 1]]).map (it (bodyOf Tryz.prog 101))
def pAreSpans_h0 (B : Lo) (c0 : CF) (xs : List Span) (most : Int) (i : Int) : Prop := ∃ dJ : Nat → Value, (∀ t, Loose (dJ t)) ∧ GoE Tryz.prog B c0 H00 1 (headC 101 18 (([1, 7, 8, 9] : List Nat).zip (pAreSpans_v0 xs most i)) dJ pAreSpans_t0) (headH (pAreSpans_o0 xs most i)) (2 + (pAreSpans_o0 xs most i).length) []
noncomputable def pAreSpans_z0 (xs : List Span) (i : Int) : Array Value := #[Value.int IntKind.i64 (Span.lo (List.getD xs (Int.toNat i) default)), Value.int IntKind.i64 (Span.hi (List.getD xs (Int.toNat i) default))]
noncomputable def pAreSpans_p0 (B : Lo) (xs : List Span) (most : Int) (i : Int) (dJ0 : Nat → Value) : List Prop := [i = (↑(Int.toNat i) : Int) ∧ Int.toNat i < List.length xs ∧ Array.extract (rowL encSp xs) (Int.toNat i * TypeInfo.size Tryz.t25) (Int.toNat i * TypeInfo.size Tryz.t25 + TypeInfo.size Tryz.t25) = (pAreSpans_z0 xs i), ltq i (↑(List.length xs) : Int) = true] ++ ([] : List Prop)
noncomputable def pAreSpans_q0 (xs : List Span) (most : Int) (i : Int) (dJ0 : Nat → Value) : ScriptT := [(0, hvT), (1, HintT.tidx (Int.toNat i) (pAreSpans_z0 xs i))]
set_option maxRecDepth 100000 in
theorem pAreSpans_s0 (B : Lo) (xs : List Span) (most : Int) (i : Int) (dJ0 : Nat → Value) : landM (srunT Tryz.prog (okFn Tryz.prog) J0 B 16 1 (headC 101 18 (([1, 7, 8, 9] : List Nat).zip (pAreSpans_v0 xs most i)) dJ0 pAreSpans_t0) (headH (pAreSpans_o0 xs most i)) (2 + (pAreSpans_o0 xs most i).length)
    (pAreSpans_q0 xs most i dJ0 ++ [(7, HintT.pure (Value.bool true) []), (9, hvI (i + 1))]) 0 [] []) [1, 7, 8, 9] [] [] = some ⟨101, 18, pAreSpans_t0, [], .run, none, pAreSpans_v0 xs most (i + 1), pAreSpans_o0 xs most (i + 1),
    [wq (i + 1) = i + 1, AllP [] ∧ PureC Tryz.prog J0 102 #[Value.agg (pAreSpans_z0 xs i), Value.int IntKind.i64 most] (Value.bool true)] ++ pAreSpans_p0 B xs most i dJ0⟩ := by kernel_rfl
set_option maxRecDepth 100000 in
theorem pAreSpans_s1 (B : Lo) (xs : List Span) (most : Int) (i : Int) (dJ0 : Nat → Value) : endT (srunT Tryz.prog (okFn Tryz.prog) J0 B 16 1 (headC 101 18 (([1, 7, 8, 9] : List Nat).zip (pAreSpans_v0 xs most i)) dJ0 pAreSpans_t0) (headH (pAreSpans_o0 xs most i)) (2 + (pAreSpans_o0 xs most i).length)
    (pAreSpans_q0 xs most i dJ0 ++ [(7, HintT.pure (Value.bool false) [])]) 0 [] []) [] = some (Value.bool false,
    [AllP [] ∧ PureC Tryz.prog J0 102 #[Value.agg (pAreSpans_z0 xs i), Value.int IntKind.i64 most] (Value.bool false)] ++ pAreSpans_p0 B xs most i dJ0) := by kernel_rfl
set_option maxRecDepth 100000 in
theorem pAreSpans_s2 (B : Lo) (xs : List Span) (most : Int) (i : Int) (dJ0 : Nat → Value) : endT (srunT Tryz.prog (okFn Tryz.prog) J0 B 9 1 (headC 101 18 (([1, 7, 8, 9] : List Nat).zip (pAreSpans_v0 xs most i)) dJ0 pAreSpans_t0) (headH (pAreSpans_o0 xs most i)) (2 + (pAreSpans_o0 xs most i).length)
    [(0, hvF)] 0 [] []) [] = some (Value.bool true,
    [ltq i (↑(List.length xs) : Int) = false]) := by kernel_rfl
set_option maxRecDepth 100000 in
theorem pAreSpans_s3 (B : Lo) (xs : List Span) (most : Int) : landM (srunT Tryz.prog (okFn Tryz.prog) J0 B 7 1 (entryC Tryz.prog 101 18 (([slSp xs, .int .i64 most]).map (pushT 0 4))) H00 1
    [] 0 [] []) [1, 7, 8, 9] [] [] = some ⟨101, 18, pAreSpans_t0, [], .run, none, pAreSpans_v0 xs most (0), pAreSpans_o0 xs most (0),
    []⟩ := by kernel_rfl
set_option maxHeartbeats 4000000 in
theorem pAreSpans_ls (xs : List Span) (most : Int)  (hfacts : xs.length ≤ 9223372036854775807) {B : Lo} (hJ : ∀ w, B.has w → J0 w) {c0 : CF} : ∀ m : Nat, (∀ (i : Int), xs.length - i.toNat = m → ∀ (h0 : 0 ≤ i), pAreSpans_h0 B c0 xs most i → EndsT Tryz.prog B c0 (.bool ((xs.drop i.toNat).all (fun s => spanB s.lo s.hi 0 most)))) := by
  intro m0
  induction m0 using Nat.strongRecOn with
  | _ m0 ih0 =>
    intro i hm0 h0 ⟨dJ0, hdJ0, hg0⟩
    by_cases q0 : (i : Int) < ((↑(List.length xs) : Int))
    ·
      have hp0 : AllP (pAreSpans_p0 B xs most i dJ0) := by
        exact ⟨⟨by omega, by omega, (rowL_extract (z := 2) (fun _ => rfl) (by omega))⟩, ⟨(ltq_t q0), trivial⟩⟩
      cases q1 : spanB (Span.lo (List.getD xs (Int.toNat i) default)) (Span.hi (List.getD xs (Int.toNat i) default)) 0 most with
      | true =>
        exact ((ih0 _ (by omega)) (i + 1) rfl (by first | assumption | omega | (simp_all; done))
          (hg0.landM okF hJ mixed_ok (pAreSpans_s0 B xs most i dJ0)
          ⟨(wq_in (by omega) (by omega)), ⟨⟨trivial, (by have t_ := pIsSpan (Span.lo (List.getD xs (Int.toNat i) default)) (Span.hi (List.getD xs (Int.toNat i) default)) (most); rw [q1] at t_; exact t_)⟩, hp0⟩⟩ (by kernel_rfl) (by kernel_rfl))).cast (by first | (rw [drop_all (i := i)]; (· simp_all); (· omega); (· omega)) | (rw [drop_end (i := i)]; (· simp_all); (· omega)))
      | false =>
        exact (GoE.endsT okF hJ mixed_ok hg0 (pAreSpans_s1 B xs most i dJ0)
          ⟨⟨trivial, (by have t_ := pIsSpan (Span.lo (List.getD xs (Int.toNat i) default)) (Span.hi (List.getD xs (Int.toNat i) default)) (most); rw [q1] at t_; exact t_)⟩, hp0⟩).cast (by first | (rw [drop_all (i := i)]; (· simp_all); (· omega); (· omega)) | (rw [drop_end (i := i)]; (· simp_all); (· omega)))
    ·
      exact (GoE.endsT okF hJ mixed_ok hg0 (pAreSpans_s2 B xs most i dJ0)
        ⟨(ltq_f (Int.not_lt.1 q0)), trivial⟩).cast (by first | (rw [drop_all (i := i)]; (· simp_all); (· omega); (· omega)) | (rw [drop_end (i := i)]; (· simp_all); (· omega)))
set_option maxHeartbeats 4000000 in
theorem pAreSpans_e (xs : List Span) (most : Int)  (hfacts : xs.length ≤ 9223372036854775807) {B : Lo} (hJ : ∀ w, B.has w → J0 w) : EndsT Tryz.prog B (entryC Tryz.prog 101 18 (([slSp xs, .int .i64 most]).map (pushT 0 4))) (.bool (xs.all (fun s => spanB s.lo s.hi 0 most))) := by
  exact ((pAreSpans_ls xs most hfacts hJ _) (0) rfl (by first | assumption | omega | (simp_all; done))
    (GoE.start.landM okF hJ mixed_ok (pAreSpans_s3 B xs most)
    trivial (by kernel_rfl) (by kernel_rfl))).cast (by first | rfl | (simp [*]; done) | (simp_all []; done) | (simp_all []; omega))
theorem pAreSpans (xs : List Span) (most : Int)  : PureC Tryz.prog J0 101 #[slSp xs, .int .i64 most] (.bool (xs.all (fun s => spanB s.lo s.hi 0 most))) :=
  pureC_ofF (ts := [slSp xs, .int .i64 most]) (xs.length ≤ 9223372036854775807) (fun _ _ ht => ht.ln (i := 0) rfl) J0_st (c0 := entryC Tryz.prog 101 18 (([slSp xs, .int .i64 most]).map (pushT 0 4))) (by kernel_rfl) (by kernel_rfl) fun hfacts B hJ => pAreSpans_e xs most  hfacts hJ
noncomputable def pisPass_p0 (B : Lo) (p : ShPass) : List Prop := [AllP [] ∧ PureC Tryz.prog J0 76 #[Value.int IntKind.i64 (↑(List.length (ShPass.tides p)) : Int), Value.int IntKind.i64 1, Value.int IntKind.i64 50] (Value.bool true)] ++ ([] : List Prop)
noncomputable def pisPass_q0 (p : ShPass) : ScriptT := [(5, HintT.pure (Value.bool true) [])]
noncomputable def pisPass_p1 (B : Lo) (p : ShPass) : List Prop := [AllP [] ∧ PureC Tryz.prog J0 100 #[slT (List.length (ShPass.tides p)) (rowL encI (ShPass.tides p)), Value.int IntKind.i64 (-1000), Value.int IntKind.i64 1000] (Value.bool true)] ++ pisPass_p0 B p
noncomputable def pisPass_q1 (p : ShPass) : ScriptT := pisPass_q0 p ++ [(9, HintT.pure (Value.bool true) [])]
noncomputable def pisPass_p2 (B : Lo) (p : ShPass) : List Prop := [AllP [] ∧ PureC Tryz.prog J0 76 #[Value.int IntKind.i64 (ShPass.depth p), Value.int IntKind.i64 0, Value.int IntKind.i64 1000] (Value.bool true)] ++ pisPass_p1 B p
noncomputable def pisPass_q2 (p : ShPass) : ScriptT := pisPass_q1 p ++ [(14, HintT.pure (Value.bool true) [])]
noncomputable def pisPass_p3 (B : Lo) (p : ShPass) : List Prop := [AllP [] ∧ PureC Tryz.prog J0 76 #[Value.int IntKind.i64 (ShPass.draft p), Value.int IntKind.i64 0, Value.int IntKind.i64 1000] (Value.bool true)] ++ pisPass_p2 B p
noncomputable def pisPass_q3 (p : ShPass) : ScriptT := pisPass_q2 p ++ [(19, HintT.pure (Value.bool true) [])]
noncomputable def pisPass_p4 (B : Lo) (p : ShPass) : List Prop := [AllP [] ∧ PureC Tryz.prog J0 76 #[Value.int IntKind.i64 (↑(List.length (ShPass.swell p)) : Int), Value.int IntKind.i64 1, Value.int IntKind.i64 60] (Value.bool true)] ++ pisPass_p3 B p
noncomputable def pisPass_q4 (p : ShPass) : ScriptT := pisPass_q3 p ++ [(25, HintT.pure (Value.bool true) [])]
noncomputable def pisPass_p5 (B : Lo) (p : ShPass) : List Prop := [AllP [] ∧ PureC Tryz.prog J0 101 #[slT (List.length (ShPass.swell p)) (rowL encSp (ShPass.swell p)), Value.int IntKind.i64 1000] (Value.bool true)] ++ pisPass_p4 B p
noncomputable def pisPass_q5 (p : ShPass) : ScriptT := pisPass_q4 p ++ [(30, HintT.pure (Value.bool true) [])]
set_option maxRecDepth 100000 in
theorem pisPass_s0 (B : Lo) (p : ShPass) : endT (srunT Tryz.prog (okFn Tryz.prog) J0 B 6 1 (entryC Tryz.prog 60 38 (([.agg (encPass p).toArray]).map (pushT 0 4))) H00 1
    (pisPass_q5 p ++ [(35, HintT.pure (Value.bool true) [])]) 0 [] []) [] = some (Value.bool true,
    [AllP [] ∧ PureC Tryz.prog J0 102 #[Value.agg #[Value.int IntKind.i64 (ShPass.llo p), Value.int IntKind.i64 (ShPass.lhi p)], Value.int IntKind.i64 23] (Value.bool true)] ++ pisPass_p5 B p) := by kernel_rfl
set_option maxRecDepth 100000 in
theorem pisPass_s1 (B : Lo) (p : ShPass) : endT (srunT Tryz.prog (okFn Tryz.prog) J0 B 6 1 (entryC Tryz.prog 60 38 (([.agg (encPass p).toArray]).map (pushT 0 4))) H00 1
    (pisPass_q5 p ++ [(35, HintT.pure (Value.bool false) [])]) 0 [] []) [] = some (Value.bool false,
    [AllP [] ∧ PureC Tryz.prog J0 102 #[Value.agg #[Value.int IntKind.i64 (ShPass.llo p), Value.int IntKind.i64 (ShPass.lhi p)], Value.int IntKind.i64 23] (Value.bool false)] ++ pisPass_p5 B p) := by kernel_rfl
set_option maxRecDepth 100000 in
theorem pisPass_s2 (B : Lo) (p : ShPass) : endT (srunT Tryz.prog (okFn Tryz.prog) J0 B 6 1 (entryC Tryz.prog 60 38 (([.agg (encPass p).toArray]).map (pushT 0 4))) H00 1
    (pisPass_q4 p ++ [(30, HintT.pure (Value.bool false) [])]) 0 [] []) [] = some (Value.bool false,
    [AllP [] ∧ PureC Tryz.prog J0 101 #[slT (List.length (ShPass.swell p)) (rowL encSp (ShPass.swell p)), Value.int IntKind.i64 1000] (Value.bool false)] ++ pisPass_p4 B p) := by kernel_rfl
set_option maxRecDepth 100000 in
theorem pisPass_s3 (B : Lo) (p : ShPass) : endT (srunT Tryz.prog (okFn Tryz.prog) J0 B 6 1 (entryC Tryz.prog 60 38 (([.agg (encPass p).toArray]).map (pushT 0 4))) H00 1
    (pisPass_q3 p ++ [(25, HintT.pure (Value.bool false) [])]) 0 [] []) [] = some (Value.bool false,
    [AllP [] ∧ PureC Tryz.prog J0 76 #[Value.int IntKind.i64 (↑(List.length (ShPass.swell p)) : Int), Value.int IntKind.i64 1, Value.int IntKind.i64 60] (Value.bool false)] ++ pisPass_p3 B p) := by kernel_rfl
set_option maxRecDepth 100000 in
theorem pisPass_s4 (B : Lo) (p : ShPass) : endT (srunT Tryz.prog (okFn Tryz.prog) J0 B 6 1 (entryC Tryz.prog 60 38 (([.agg (encPass p).toArray]).map (pushT 0 4))) H00 1
    (pisPass_q2 p ++ [(19, HintT.pure (Value.bool false) [])]) 0 [] []) [] = some (Value.bool false,
    [AllP [] ∧ PureC Tryz.prog J0 76 #[Value.int IntKind.i64 (ShPass.draft p), Value.int IntKind.i64 0, Value.int IntKind.i64 1000] (Value.bool false)] ++ pisPass_p2 B p) := by kernel_rfl
set_option maxRecDepth 100000 in
theorem pisPass_s5 (B : Lo) (p : ShPass) : endT (srunT Tryz.prog (okFn Tryz.prog) J0 B 6 1 (entryC Tryz.prog 60 38 (([.agg (encPass p).toArray]).map (pushT 0 4))) H00 1
    (pisPass_q1 p ++ [(14, HintT.pure (Value.bool false) [])]) 0 [] []) [] = some (Value.bool false,
    [AllP [] ∧ PureC Tryz.prog J0 76 #[Value.int IntKind.i64 (ShPass.depth p), Value.int IntKind.i64 0, Value.int IntKind.i64 1000] (Value.bool false)] ++ pisPass_p1 B p) := by kernel_rfl
set_option maxRecDepth 100000 in
theorem pisPass_s6 (B : Lo) (p : ShPass) : endT (srunT Tryz.prog (okFn Tryz.prog) J0 B 6 1 (entryC Tryz.prog 60 38 (([.agg (encPass p).toArray]).map (pushT 0 4))) H00 1
    (pisPass_q0 p ++ [(9, HintT.pure (Value.bool false) [])]) 0 [] []) [] = some (Value.bool false,
    [AllP [] ∧ PureC Tryz.prog J0 100 #[slT (List.length (ShPass.tides p)) (rowL encI (ShPass.tides p)), Value.int IntKind.i64 (-1000), Value.int IntKind.i64 1000] (Value.bool false)] ++ pisPass_p0 B p) := by kernel_rfl
set_option maxRecDepth 100000 in
theorem pisPass_s7 (B : Lo) (p : ShPass) : endT (srunT Tryz.prog (okFn Tryz.prog) J0 B 6 1 (entryC Tryz.prog 60 38 (([.agg (encPass p).toArray]).map (pushT 0 4))) H00 1
    [(5, HintT.pure (Value.bool false) [])] 0 [] []) [] = some (Value.bool false,
    [AllP [] ∧ PureC Tryz.prog J0 76 #[Value.int IntKind.i64 (↑(List.length (ShPass.tides p)) : Int), Value.int IntKind.i64 1, Value.int IntKind.i64 50] (Value.bool false)]) := by kernel_rfl
set_option maxHeartbeats 4000000 in
theorem pisPass_e (p : ShPass)  {B : Lo} (hJ : ∀ w, B.has w → J0 w) : EndsT Tryz.prog B (entryC Tryz.prog 60 38 (([.agg (encPass p).toArray]).map (pushT 0 4))) (.bool (passB p)) := by
  cases q0 : inB (↑(List.length (ShPass.tides p)) : Int) 1 50 with
  | true =>
    have hp0 : AllP (pisPass_p0 B p) := by
      exact ⟨⟨trivial, (by have t_ := pIn ((↑(List.length (ShPass.tides p)) : Int)) (1) (50); rw [q0] at t_; exact t_)⟩, trivial⟩
    cases q1 : List.all (ShPass.tides p) fun x => inB x (-1000) 1000 with
    | true =>
      have hp1 : AllP (pisPass_p1 B p) := by
        exact ⟨⟨trivial, (by have t_ := pAllIn (ShPass.tides p) (-1000) (1000); rw [q1] at t_; exact t_)⟩, hp0⟩
      cases q2 : inB (ShPass.depth p) 0 1000 with
      | true =>
        have hp2 : AllP (pisPass_p2 B p) := by
          exact ⟨⟨trivial, (by have t_ := pIn (ShPass.depth p) (0) (1000); rw [q2] at t_; exact t_)⟩, hp1⟩
        cases q3 : inB (ShPass.draft p) 0 1000 with
        | true =>
          have hp3 : AllP (pisPass_p3 B p) := by
            exact ⟨⟨trivial, (by have t_ := pIn (ShPass.draft p) (0) (1000); rw [q3] at t_; exact t_)⟩, hp2⟩
          cases q4 : inB (↑(List.length (ShPass.swell p)) : Int) 1 60 with
          | true =>
            have hp4 : AllP (pisPass_p4 B p) := by
              exact ⟨⟨trivial, (by have t_ := pIn ((↑(List.length (ShPass.swell p)) : Int)) (1) (60); rw [q4] at t_; exact t_)⟩, hp3⟩
            cases q5 : List.all (ShPass.swell p) fun s => spanB (Span.lo s) (Span.hi s) 0 1000 with
            | true =>
              have hp5 : AllP (pisPass_p5 B p) := by
                exact ⟨⟨trivial, (by have t_ := pAreSpans (ShPass.swell p) (1000); rw [q5] at t_; exact t_)⟩, hp4⟩
              cases q6 : spanB (ShPass.llo p) (ShPass.lhi p) 0 23 with
              | true =>
                exact (GoE.endsT okF hJ mixed_ok GoE.start (pisPass_s0 B p)
                  ⟨⟨trivial, (by have t_ := pIsSpan (ShPass.llo p) (ShPass.lhi p) (23); rw [q6] at t_; exact t_)⟩, hp5⟩).cast (by first | rfl | (simp [passB, passC, passD, *]; done) | (simp_all [passB, passC, passD]; done) | (simp_all [passB, passC, passD]; omega))
              | false =>
                exact (GoE.endsT okF hJ mixed_ok GoE.start (pisPass_s1 B p)
                  ⟨⟨trivial, (by have t_ := pIsSpan (ShPass.llo p) (ShPass.lhi p) (23); rw [q6] at t_; exact t_)⟩, hp5⟩).cast (by first | rfl | (simp [passB, passC, passD, *]; done) | (simp_all [passB, passC, passD]; done) | (simp_all [passB, passC, passD]; omega))
            | false =>
              exact (GoE.endsT okF hJ mixed_ok GoE.start (pisPass_s2 B p)
                ⟨⟨trivial, (by have t_ := pAreSpans (ShPass.swell p) (1000); rw [q5] at t_; exact t_)⟩, hp4⟩).cast (by first | rfl | (simp [passB, passC, passD, *]; done) | (simp_all [passB, passC, passD]; done) | (simp_all [passB, passC, passD]; omega))
          | false =>
            exact (GoE.endsT okF hJ mixed_ok GoE.start (pisPass_s3 B p)
              ⟨⟨trivial, (by have t_ := pIn ((↑(List.length (ShPass.swell p)) : Int)) (1) (60); rw [q4] at t_; exact t_)⟩, hp3⟩).cast (by first | rfl | (simp [passB, passC, passD, *]; done) | (simp_all [passB, passC, passD]; done) | (simp_all [passB, passC, passD]; omega))
        | false =>
          exact (GoE.endsT okF hJ mixed_ok GoE.start (pisPass_s4 B p)
            ⟨⟨trivial, (by have t_ := pIn (ShPass.draft p) (0) (1000); rw [q3] at t_; exact t_)⟩, hp2⟩).cast (by first | rfl | (simp [passB, passC, passD, *]; done) | (simp_all [passB, passC, passD]; done) | (simp_all [passB, passC, passD]; omega))
      | false =>
        exact (GoE.endsT okF hJ mixed_ok GoE.start (pisPass_s5 B p)
          ⟨⟨trivial, (by have t_ := pIn (ShPass.depth p) (0) (1000); rw [q2] at t_; exact t_)⟩, hp1⟩).cast (by first | rfl | (simp [passB, passC, passD, *]; done) | (simp_all [passB, passC, passD]; done) | (simp_all [passB, passC, passD]; omega))
    | false =>
      exact (GoE.endsT okF hJ mixed_ok GoE.start (pisPass_s6 B p)
        ⟨⟨trivial, (by have t_ := pAllIn (ShPass.tides p) (-1000) (1000); rw [q1] at t_; exact t_)⟩, hp0⟩).cast (by first | rfl | (simp [passB, passC, passD, *]; done) | (simp_all [passB, passC, passD]; done) | (simp_all [passB, passC, passD]; omega))
  | false =>
    exact (GoE.endsT okF hJ mixed_ok GoE.start (pisPass_s7 B p)
      ⟨⟨trivial, (by have t_ := pIn ((↑(List.length (ShPass.tides p)) : Int)) (1) (50); rw [q0] at t_; exact t_)⟩, trivial⟩).cast (by first | rfl | (simp [passB, passC, passD, *]; done) | (simp_all [passB, passC, passD]; done) | (simp_all [passB, passC, passD]; omega))
theorem pisPass (p : ShPass)  : PureC Tryz.prog J0 60 #[.agg (encPass p).toArray] (.bool (passB p)) :=
  pureC_of (ts := [.agg (encPass p).toArray]) J0_st (c0 := entryC Tryz.prog 60 38 (([.agg (encPass p).toArray]).map (pushT 0 4))) (by kernel_rfl) (by kernel_rfl) fun B hJ => pisPass_e p  hJ
noncomputable def pisDay_p0 (B : Lo) (p : ShPass) (day : Int) : List Prop := [wq ((↑(List.length (ShPass.swell p)) : Int) - 1) = (↑(List.length (ShPass.swell p)) : Int) - 1] ++ ([] : List Prop)
noncomputable def pisDay_q0 (p : ShPass) (day : Int) : ScriptT := [(6, hvI ((↑(List.length (ShPass.swell p)) : Int) - 1))]
set_option maxRecDepth 100000 in
theorem pisDay_s0 (B : Lo) (p : ShPass) (day : Int) : endT (srunT Tryz.prog (okFn Tryz.prog) J0 B 6 1 (entryC Tryz.prog 61 11 (([.agg (encPass p).toArray, .int .i64 day]).map (pushT 0 4))) H00 1
    (pisDay_q0 p day ++ [(7, HintT.pure (Value.bool true) [])]) 0 [] []) [] = some (Value.bool true,
    [AllP [] ∧ PureC Tryz.prog J0 76 #[Value.int IntKind.i64 day, Value.int IntKind.i64 0, Value.int IntKind.i64 ((↑(List.length (ShPass.swell p)) : Int) - 1)] (Value.bool true)] ++ pisDay_p0 B p day) := by kernel_rfl
set_option maxRecDepth 100000 in
theorem pisDay_s1 (B : Lo) (p : ShPass) (day : Int) : endT (srunT Tryz.prog (okFn Tryz.prog) J0 B 6 1 (entryC Tryz.prog 61 11 (([.agg (encPass p).toArray, .int .i64 day]).map (pushT 0 4))) H00 1
    (pisDay_q0 p day ++ [(7, HintT.pure (Value.bool false) [])]) 0 [] []) [] = some (Value.bool false,
    [AllP [] ∧ PureC Tryz.prog J0 76 #[Value.int IntKind.i64 day, Value.int IntKind.i64 0, Value.int IntKind.i64 ((↑(List.length (ShPass.swell p)) : Int) - 1)] (Value.bool false)] ++ pisDay_p0 B p day) := by kernel_rfl
set_option maxHeartbeats 4000000 in
theorem pisDay_e (p : ShPass) (day : Int)  (hfacts : p.swell.length ≤ 9223372036854775807) {B : Lo} (hJ : ∀ w, B.has w → J0 w) : EndsT Tryz.prog B (entryC Tryz.prog 61 11 (([.agg (encPass p).toArray, .int .i64 day]).map (pushT 0 4))) (.bool (inB day 0 (p.swell.length - 1))) := by
  have hp0 : AllP (pisDay_p0 B p day) := by
    exact ⟨(wq_in (by omega) (by omega)), trivial⟩
  cases q0 : inB day 0 ((↑(List.length (ShPass.swell p)) : Int) - 1) with
  | true =>
    exact (GoE.endsT okF hJ mixed_ok GoE.start (pisDay_s0 B p day)
      ⟨⟨trivial, (by have t_ := pIn (day) (0) ((↑(List.length (ShPass.swell p)) : Int) - 1); rw [q0] at t_; exact t_)⟩, hp0⟩).cast (by first | rfl | (simp [*]; done) | (simp_all []; done) | (simp_all []; omega))
  | false =>
    exact (GoE.endsT okF hJ mixed_ok GoE.start (pisDay_s1 B p day)
      ⟨⟨trivial, (by have t_ := pIn (day) (0) ((↑(List.length (ShPass.swell p)) : Int) - 1); rw [q0] at t_; exact t_)⟩, hp0⟩).cast (by first | rfl | (simp [*]; done) | (simp_all []; done) | (simp_all []; omega))
theorem pisDay (p : ShPass) (day : Int)  : PureC Tryz.prog J0 61 #[.agg (encPass p).toArray, .int .i64 day] (.bool (inB day 0 (p.swell.length - 1))) :=
  pureC_ofF (ts := [.agg (encPass p).toArray, .int .i64 day]) (p.swell.length ≤ 9223372036854775807) (fun _ _ ht => ht.ln2 (i := 0) (j := 3) rfl rfl) J0_st (c0 := entryC Tryz.prog 61 11 (([.agg (encPass p).toArray, .int .i64 day]).map (pushT 0 4))) (by kernel_rfl) (by kernel_rfl) fun hfacts B hJ => pisDay_e p day  hfacts hJ
noncomputable def pisCall_p0 (B : Lo) (p : ShPass) (d h : Int) : List Prop := [AllP [] ∧ PureC Tryz.prog J0 61 #[Value.agg #[slT (List.length (ShPass.tides p)) (rowL encI (ShPass.tides p)), Value.int IntKind.i64 (ShPass.depth p), Value.int IntKind.i64 (ShPass.draft p), slT (List.length (ShPass.swell p)) (rowL encSp (ShPass.swell p)), Value.int IntKind.i64 (ShPass.llo p), Value.int IntKind.i64 (ShPass.lhi p)], Value.int IntKind.i64 d] (Value.bool true)] ++ ([] : List Prop)
noncomputable def pisCall_q0 (p : ShPass) (d h : Int) : ScriptT := [(6, HintT.pure (Value.bool true) [])]
set_option maxRecDepth 100000 in
theorem pisCall_s0 (B : Lo) (p : ShPass) (d h : Int) : endT (srunT Tryz.prog (okFn Tryz.prog) J0 B 6 1 (entryC Tryz.prog 65 14 (([.agg (encPass p).toArray, .agg #[.int .i64 d, .int .i64 h]]).map (pushT 0 4))) H00 1
    (pisCall_q0 p d h ++ [(10, HintT.pure (Value.bool true) [])]) 0 [] []) [] = some (Value.bool true,
    [AllP [] ∧ PureC Tryz.prog J0 76 #[Value.int IntKind.i64 h, Value.int IntKind.i64 0, Value.int IntKind.i64 23] (Value.bool true)] ++ pisCall_p0 B p d h) := by kernel_rfl
set_option maxRecDepth 100000 in
theorem pisCall_s1 (B : Lo) (p : ShPass) (d h : Int) : endT (srunT Tryz.prog (okFn Tryz.prog) J0 B 6 1 (entryC Tryz.prog 65 14 (([.agg (encPass p).toArray, .agg #[.int .i64 d, .int .i64 h]]).map (pushT 0 4))) H00 1
    (pisCall_q0 p d h ++ [(10, HintT.pure (Value.bool false) [])]) 0 [] []) [] = some (Value.bool false,
    [AllP [] ∧ PureC Tryz.prog J0 76 #[Value.int IntKind.i64 h, Value.int IntKind.i64 0, Value.int IntKind.i64 23] (Value.bool false)] ++ pisCall_p0 B p d h) := by kernel_rfl
set_option maxRecDepth 100000 in
theorem pisCall_s2 (B : Lo) (p : ShPass) (d h : Int) : endT (srunT Tryz.prog (okFn Tryz.prog) J0 B 6 1 (entryC Tryz.prog 65 14 (([.agg (encPass p).toArray, .agg #[.int .i64 d, .int .i64 h]]).map (pushT 0 4))) H00 1
    [(6, HintT.pure (Value.bool false) [])] 0 [] []) [] = some (Value.bool false,
    [AllP [] ∧ PureC Tryz.prog J0 61 #[Value.agg #[slT (List.length (ShPass.tides p)) (rowL encI (ShPass.tides p)), Value.int IntKind.i64 (ShPass.depth p), Value.int IntKind.i64 (ShPass.draft p), slT (List.length (ShPass.swell p)) (rowL encSp (ShPass.swell p)), Value.int IntKind.i64 (ShPass.llo p), Value.int IntKind.i64 (ShPass.lhi p)], Value.int IntKind.i64 d] (Value.bool false)]) := by kernel_rfl
set_option maxHeartbeats 4000000 in
theorem pisCall_e (p : ShPass) (d h : Int)  {B : Lo} (hJ : ∀ w, B.has w → J0 w) : EndsT Tryz.prog B (entryC Tryz.prog 65 14 (([.agg (encPass p).toArray, .agg #[.int .i64 d, .int .i64 h]]).map (pushT 0 4))) (.bool (inB d 0 (p.swell.length - 1) && inB h 0 23)) := by
  cases q0 : inB d 0 ((↑(List.length (ShPass.swell p)) : Int) - 1) with
  | true =>
    have hp0 : AllP (pisCall_p0 B p d h) := by
      exact ⟨⟨trivial, (by have t_ := pisDay (p) (d); rw [q0] at t_; exact t_)⟩, trivial⟩
    cases q1 : inB h 0 23 with
    | true =>
      exact (GoE.endsT okF hJ mixed_ok GoE.start (pisCall_s0 B p d h)
        ⟨⟨trivial, (by have t_ := pIn (h) (0) (23); rw [q1] at t_; exact t_)⟩, hp0⟩).cast (by first | rfl | (simp [*]; done) | (simp_all []; done) | (simp_all []; omega))
    | false =>
      exact (GoE.endsT okF hJ mixed_ok GoE.start (pisCall_s1 B p d h)
        ⟨⟨trivial, (by have t_ := pIn (h) (0) (23); rw [q1] at t_; exact t_)⟩, hp0⟩).cast (by first | rfl | (simp [*]; done) | (simp_all []; done) | (simp_all []; omega))
  | false =>
    exact (GoE.endsT okF hJ mixed_ok GoE.start (pisCall_s2 B p d h)
      ⟨⟨trivial, (by have t_ := pisDay (p) (d); rw [q0] at t_; exact t_)⟩, trivial⟩).cast (by first | rfl | (simp [*]; done) | (simp_all []; done) | (simp_all []; omega))
theorem pisCall (p : ShPass) (d h : Int)  : PureC Tryz.prog J0 65 #[.agg (encPass p).toArray, .agg #[.int .i64 d, .int .i64 h]] (.bool (inB d 0 (p.swell.length - 1) && inB h 0 23)) :=
  pureC_of (ts := [.agg (encPass p).toArray, .agg #[.int .i64 d, .int .i64 h]]) J0_st (c0 := entryC Tryz.prog 65 14 (([.agg (encPass p).toArray, .agg #[.int .i64 d, .int .i64 h]]).map (pushT 0 4))) (by kernel_rfl) (by kernel_rfl) fun B hJ => pisCall_e p d h  hJ
noncomputable def rDay_p0 (B : Lo) (p : ShPass) (day : Int) : List Prop := [wq ((↑(List.length (ShPass.swell p)) : Int) - 1) = (↑(List.length (ShPass.swell p)) : Int) - 1] ++ ([] : List Prop)
noncomputable def rDay_q0 (p : ShPass) (day : Int) : ScriptT := [(6, hvI ((↑(List.length (ShPass.swell p)) : Int) - 1))]
set_option maxRecDepth 100000 in
theorem rDay_s0 (B : Lo) (p : ShPass) (day : Int) : endT (srunT Tryz.prog (okFn Tryz.prog) J0 B 6 1 (entryC Tryz.prog 22 11 (([.agg (encPass p).toArray, .int .i64 day]).map (pushT 0 4))) H00 1
    (rDay_q0 p day ++ [(7, HintT.pure (Value.bool true) [])]) 0 [] []) [] = some (Value.bool true,
    [AllP [] ∧ PureC Tryz.prog J0 69 #[Value.int IntKind.i64 day, Value.int IntKind.i64 0, Value.int IntKind.i64 ((↑(List.length (ShPass.swell p)) : Int) - 1)] (Value.bool true)] ++ rDay_p0 B p day) := by kernel_rfl
set_option maxRecDepth 100000 in
theorem rDay_s1 (B : Lo) (p : ShPass) (day : Int) : endT (srunT Tryz.prog (okFn Tryz.prog) J0 B 6 1 (entryC Tryz.prog 22 11 (([.agg (encPass p).toArray, .int .i64 day]).map (pushT 0 4))) H00 1
    (rDay_q0 p day ++ [(7, HintT.pure (Value.bool false) [])]) 0 [] []) [] = some (Value.bool false,
    [AllP [] ∧ PureC Tryz.prog J0 69 #[Value.int IntKind.i64 day, Value.int IntKind.i64 0, Value.int IntKind.i64 ((↑(List.length (ShPass.swell p)) : Int) - 1)] (Value.bool false)] ++ rDay_p0 B p day) := by kernel_rfl
set_option maxHeartbeats 4000000 in
theorem rDay_e (p : ShPass) (day : Int)  (hfacts : p.swell.length ≤ 9223372036854775807) {B : Lo} (hJ : ∀ w, B.has w → J0 w) : EndsT Tryz.prog B (entryC Tryz.prog 22 11 (([.agg (encPass p).toArray, .int .i64 day]).map (pushT 0 4))) (.bool (inB day 0 (p.swell.length - 1))) := by
  have hp0 : AllP (rDay_p0 B p day) := by
    exact ⟨(wq_in (by omega) (by omega)), trivial⟩
  cases q0 : inB day 0 ((↑(List.length (ShPass.swell p)) : Int) - 1) with
  | true =>
    exact (GoE.endsT okF hJ mixed_ok GoE.start (rDay_s0 B p day)
      ⟨⟨trivial, (by have t_ := rin (day) (0) ((↑(List.length (ShPass.swell p)) : Int) - 1); rw [q0] at t_; exact t_)⟩, hp0⟩).cast (by first | rfl | (simp [*]; done) | (simp_all []; done) | (simp_all []; omega))
  | false =>
    exact (GoE.endsT okF hJ mixed_ok GoE.start (rDay_s1 B p day)
      ⟨⟨trivial, (by have t_ := rin (day) (0) ((↑(List.length (ShPass.swell p)) : Int) - 1); rw [q0] at t_; exact t_)⟩, hp0⟩).cast (by first | rfl | (simp [*]; done) | (simp_all []; done) | (simp_all []; omega))
theorem rDay (p : ShPass) (day : Int)  : PureC Tryz.prog J0 22 #[.agg (encPass p).toArray, .int .i64 day] (.bool (inB day 0 (p.swell.length - 1))) :=
  pureC_ofF (ts := [.agg (encPass p).toArray, .int .i64 day]) (p.swell.length ≤ 9223372036854775807) (fun _ _ ht => ht.ln2 (i := 0) (j := 3) rfl rfl) J0_st (c0 := entryC Tryz.prog 22 11 (([.agg (encPass p).toArray, .int .i64 day]).map (pushT 0 4))) (by kernel_rfl) (by kernel_rfl) fun hfacts B hJ => rDay_e p day  hfacts hJ
noncomputable def rCall_p0 (B : Lo) (p : ShPass) (d h : Int) : List Prop := [AllP [] ∧ PureC Tryz.prog J0 22 #[Value.agg #[slT (List.length (ShPass.tides p)) (rowL encI (ShPass.tides p)), Value.int IntKind.i64 (ShPass.depth p), Value.int IntKind.i64 (ShPass.draft p), slT (List.length (ShPass.swell p)) (rowL encSp (ShPass.swell p)), Value.int IntKind.i64 (ShPass.llo p), Value.int IntKind.i64 (ShPass.lhi p)], Value.int IntKind.i64 d] (Value.bool true)] ++ ([] : List Prop)
noncomputable def rCall_q0 (p : ShPass) (d h : Int) : ScriptT := [(6, HintT.pure (Value.bool true) [])]
set_option maxRecDepth 100000 in
theorem rCall_s0 (B : Lo) (p : ShPass) (d h : Int) : endT (srunT Tryz.prog (okFn Tryz.prog) J0 B 6 1 (entryC Tryz.prog 25 14 (([.agg (encPass p).toArray, .agg #[.int .i64 d, .int .i64 h]]).map (pushT 0 4))) H00 1
    (rCall_q0 p d h ++ [(10, HintT.pure (Value.bool true) [])]) 0 [] []) [] = some (Value.bool true,
    [AllP [] ∧ PureC Tryz.prog J0 69 #[Value.int IntKind.i64 h, Value.int IntKind.i64 0, Value.int IntKind.i64 23] (Value.bool true)] ++ rCall_p0 B p d h) := by kernel_rfl
set_option maxRecDepth 100000 in
theorem rCall_s1 (B : Lo) (p : ShPass) (d h : Int) : endT (srunT Tryz.prog (okFn Tryz.prog) J0 B 6 1 (entryC Tryz.prog 25 14 (([.agg (encPass p).toArray, .agg #[.int .i64 d, .int .i64 h]]).map (pushT 0 4))) H00 1
    (rCall_q0 p d h ++ [(10, HintT.pure (Value.bool false) [])]) 0 [] []) [] = some (Value.bool false,
    [AllP [] ∧ PureC Tryz.prog J0 69 #[Value.int IntKind.i64 h, Value.int IntKind.i64 0, Value.int IntKind.i64 23] (Value.bool false)] ++ rCall_p0 B p d h) := by kernel_rfl
set_option maxRecDepth 100000 in
theorem rCall_s2 (B : Lo) (p : ShPass) (d h : Int) : endT (srunT Tryz.prog (okFn Tryz.prog) J0 B 6 1 (entryC Tryz.prog 25 14 (([.agg (encPass p).toArray, .agg #[.int .i64 d, .int .i64 h]]).map (pushT 0 4))) H00 1
    [(6, HintT.pure (Value.bool false) [])] 0 [] []) [] = some (Value.bool false,
    [AllP [] ∧ PureC Tryz.prog J0 22 #[Value.agg #[slT (List.length (ShPass.tides p)) (rowL encI (ShPass.tides p)), Value.int IntKind.i64 (ShPass.depth p), Value.int IntKind.i64 (ShPass.draft p), slT (List.length (ShPass.swell p)) (rowL encSp (ShPass.swell p)), Value.int IntKind.i64 (ShPass.llo p), Value.int IntKind.i64 (ShPass.lhi p)], Value.int IntKind.i64 d] (Value.bool false)]) := by kernel_rfl
set_option maxHeartbeats 4000000 in
theorem rCall_e (p : ShPass) (d h : Int)  {B : Lo} (hJ : ∀ w, B.has w → J0 w) : EndsT Tryz.prog B (entryC Tryz.prog 25 14 (([.agg (encPass p).toArray, .agg #[.int .i64 d, .int .i64 h]]).map (pushT 0 4))) (.bool (inB d 0 (p.swell.length - 1) && inB h 0 23)) := by
  cases q0 : inB d 0 ((↑(List.length (ShPass.swell p)) : Int) - 1) with
  | true =>
    have hp0 : AllP (rCall_p0 B p d h) := by
      exact ⟨⟨trivial, (by have t_ := rDay (p) (d); rw [q0] at t_; exact t_)⟩, trivial⟩
    cases q1 : inB h 0 23 with
    | true =>
      exact (GoE.endsT okF hJ mixed_ok GoE.start (rCall_s0 B p d h)
        ⟨⟨trivial, (by have t_ := rin (h) (0) (23); rw [q1] at t_; exact t_)⟩, hp0⟩).cast (by first | rfl | (simp [*]; done) | (simp_all []; done) | (simp_all []; omega))
    | false =>
      exact (GoE.endsT okF hJ mixed_ok GoE.start (rCall_s1 B p d h)
        ⟨⟨trivial, (by have t_ := rin (h) (0) (23); rw [q1] at t_; exact t_)⟩, hp0⟩).cast (by first | rfl | (simp [*]; done) | (simp_all []; done) | (simp_all []; omega))
  | false =>
    exact (GoE.endsT okF hJ mixed_ok GoE.start (rCall_s2 B p d h)
      ⟨⟨trivial, (by have t_ := rDay (p) (d); rw [q0] at t_; exact t_)⟩, trivial⟩).cast (by first | rfl | (simp [*]; done) | (simp_all []; done) | (simp_all []; omega))
theorem rCall (p : ShPass) (d h : Int)  : PureC Tryz.prog J0 25 #[.agg (encPass p).toArray, .agg #[.int .i64 d, .int .i64 h]] (.bool (inB d 0 (p.swell.length - 1) && inB h 0 23)) :=
  pureC_of (ts := [.agg (encPass p).toArray, .agg #[.int .i64 d, .int .i64 h]]) J0_st (c0 := entryC Tryz.prog 25 14 (([.agg (encPass p).toArray, .agg #[.int .i64 d, .int .i64 h]]).map (pushT 0 4))) (by kernel_rfl) (by kernel_rfl) fun B hJ => rCall_e p d h  hJ
set_option maxRecDepth 100000 in
theorem pCheckPass_s0 (B : Lo) (p : ShPass) : endT (srunT Tryz.prog (okFn Tryz.prog) J0 B 11 1 (entryC Tryz.prog 18 6 (([.agg (encPass p).toArray]).map (pushT 0 4))) H00 1
    [(3, HintT.pure (Value.bool true) [])] 0 [] []) [] = some (Value.int IntKind.i64 0,
    [AllP [] ∧ PureC Tryz.prog J0 60 #[Value.agg #[slT (List.length (ShPass.tides p)) (rowL encI (ShPass.tides p)), Value.int IntKind.i64 (ShPass.depth p), Value.int IntKind.i64 (ShPass.draft p), slT (List.length (ShPass.swell p)) (rowL encSp (ShPass.swell p)), Value.int IntKind.i64 (ShPass.llo p), Value.int IntKind.i64 (ShPass.lhi p)]] (Value.bool true)]) := by kernel_rfl
set_option maxRecDepth 100000 in
theorem pCheckPass_s1 (B : Lo) (p : ShPass) : endT (srunT Tryz.prog (okFn Tryz.prog) J0 B 10 1 (entryC Tryz.prog 18 6 (([.agg (encPass p).toArray]).map (pushT 0 4))) H00 1
    [(3, HintT.pure (Value.bool false) [])] 0 [] []) [] = some (Value.int IntKind.i64 2,
    [AllP [] ∧ PureC Tryz.prog J0 60 #[Value.agg #[slT (List.length (ShPass.tides p)) (rowL encI (ShPass.tides p)), Value.int IntKind.i64 (ShPass.depth p), Value.int IntKind.i64 (ShPass.draft p), slT (List.length (ShPass.swell p)) (rowL encSp (ShPass.swell p)), Value.int IntKind.i64 (ShPass.llo p), Value.int IntKind.i64 (ShPass.lhi p)]] (Value.bool false)]) := by kernel_rfl
set_option maxHeartbeats 4000000 in
theorem pCheckPass_e (p : ShPass)  {B : Lo} (hJ : ∀ w, B.has w → J0 w) : EndsT Tryz.prog B (entryC Tryz.prog 18 6 (([.agg (encPass p).toArray]).map (pushT 0 4))) (.int .i64 (if passB p then 0 else 2)) := by
  cases q0 : passB p with
  | true =>
    exact (GoE.endsT okF hJ mixed_ok GoE.start (pCheckPass_s0 B p)
      ⟨⟨trivial, (by have t_ := pisPass (p); rw [q0] at t_; exact t_)⟩, trivial⟩).cast (by first | rfl | (simp [*]; done) | (simp_all []; done) | (simp_all []; omega))
  | false =>
    exact (GoE.endsT okF hJ mixed_ok GoE.start (pCheckPass_s1 B p)
      ⟨⟨trivial, (by have t_ := pisPass (p); rw [q0] at t_; exact t_)⟩, trivial⟩).cast (by first | rfl | (simp [*]; done) | (simp_all []; done) | (simp_all []; omega))
theorem pCheckPass (p : ShPass)  : PureC Tryz.prog J0 18 #[.agg (encPass p).toArray] (.int .i64 (if passB p then 0 else 2)) :=
  pureC_of (ts := [.agg (encPass p).toArray]) J0_st (c0 := entryC Tryz.prog 18 6 (([.agg (encPass p).toArray]).map (pushT 0 4))) (by kernel_rfl) (by kernel_rfl) fun B hJ => pCheckPass_e p  hJ
noncomputable def lpass_p0 (B : Lo) (p : ShPass) : List Prop := [(!ltq 60 (↑(List.length (ShPass.tides p)) : Int)) = true] ++ ([] : List Prop)
noncomputable def lpass_q0 (p : ShPass) : ScriptT := [(5, hvT)]
set_option maxRecDepth 100000 in
theorem lpass_s0 (B : Lo) (p : ShPass) : endT (srunT Tryz.prog (okFn Tryz.prog) J0 B 6 1 (entryC Tryz.prog 16 13 (([.agg (encPass p).toArray]).map (pushT 0 4))) H00 1
    (lpass_q0 p ++ [(10, hvT)]) 0 [] []) [] = some (Value.bool true,
    [(!ltq 70 (↑(List.length (ShPass.swell p)) : Int)) = true] ++ lpass_p0 B p) := by kernel_rfl
set_option maxRecDepth 100000 in
theorem lpass_s1 (B : Lo) (p : ShPass) : endT (srunT Tryz.prog (okFn Tryz.prog) J0 B 6 1 (entryC Tryz.prog 16 13 (([.agg (encPass p).toArray]).map (pushT 0 4))) H00 1
    (lpass_q0 p ++ [(10, hvF)]) 0 [] []) [] = some (Value.bool false,
    [(!ltq 70 (↑(List.length (ShPass.swell p)) : Int)) = false] ++ lpass_p0 B p) := by kernel_rfl
set_option maxRecDepth 100000 in
theorem lpass_s2 (B : Lo) (p : ShPass) : endT (srunT Tryz.prog (okFn Tryz.prog) J0 B 6 1 (entryC Tryz.prog 16 13 (([.agg (encPass p).toArray]).map (pushT 0 4))) H00 1
    [(5, hvF)] 0 [] []) [] = some (Value.bool false,
    [(!ltq 60 (↑(List.length (ShPass.tides p)) : Int)) = false]) := by kernel_rfl
set_option maxHeartbeats 4000000 in
theorem lpass_e (p : ShPass)  {B : Lo} (hJ : ∀ w, B.has w → J0 w) : EndsT Tryz.prog B (entryC Tryz.prog 16 13 (([.agg (encPass p).toArray]).map (pushT 0 4))) (.bool (decide (p.tides.length ≤ 60) && decide (p.swell.length ≤ 70))) := by
  by_cases q0 : ((↑(List.length (ShPass.tides p)) : Int) : Int) ≤ (60)
  ·
    have hp0 : AllP (lpass_p0 B p) := by
      exact ⟨(nltq_t q0), trivial⟩
    by_cases q1 : ((↑(List.length (ShPass.swell p)) : Int) : Int) ≤ (70)
    ·
      exact (GoE.endsT okF hJ mixed_ok GoE.start (lpass_s0 B p)
        ⟨(nltq_t q1), hp0⟩).cast (by first | rfl | (simp [*]; done) | (simp_all []; done) | (simp_all []; omega))
    ·
      exact (GoE.endsT okF hJ mixed_ok GoE.start (lpass_s1 B p)
        ⟨(nltq_f (Int.not_le.1 q1)), hp0⟩).cast (by first | rfl | (simp [*]; done) | (simp_all []; done) | (simp_all []; omega))
  ·
    exact (GoE.endsT okF hJ mixed_ok GoE.start (lpass_s2 B p)
      ⟨(nltq_f (Int.not_le.1 q0)), trivial⟩).cast (by first | rfl | (simp [*]; done) | (simp_all []; done) | (simp_all []; omega))
theorem lpass (p : ShPass)  : PureC Tryz.prog J0 16 #[.agg (encPass p).toArray] (.bool (decide (p.tides.length ≤ 60) && decide (p.swell.length ≤ 70))) :=
  pureC_of (ts := [.agg (encPass p).toArray]) J0_st (c0 := entryC Tryz.prog 16 13 (([.agg (encPass p).toArray]).map (pushT 0 4))) (by kernel_rfl) (by kernel_rfl) fun B hJ => lpass_e p  hJ
end Go.Proofs.YtoihlobogbeigaaGreat

