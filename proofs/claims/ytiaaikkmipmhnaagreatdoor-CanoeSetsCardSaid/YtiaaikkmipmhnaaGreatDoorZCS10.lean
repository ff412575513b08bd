/- TX 1: what a frame comes to: an answer or a panic, what it wrote of what was there, a region, and blocks of its own. -/
import Derived.Test.YtiaaikkmipmhnaaGreatDoorZCS09
import Derived.Deep.Slices
import Derived.Carry
import Derived.WideShapes
import Derived.ChangeShapes
import Derived.SevenTiedAt
import Derived.Test.YtiaaikkmipmhnaaGreatDoorZCS07
import Derived.Test.YtiaaikkmipmhnaaGreatDoorProg
set_option linter.all false
namespace Go.CE
open Go Go.RowKit

def hvI (n : Int) : HintT := .old (.val (.int .i64 n))
def hvT : HintT := .old (.val (.bool true))
def hvF : HintT := .old (.val (.bool false))
def coOut (f : Value → Option (Value × List Prop)) : OO → Option (OO × List Prop)
  | .ret v => match f v with
    | some (v1, L) => some (.ret v1, L)
    | none => none
  | .pan v => match f v with
    | some (v1, L) => some (.pan v1, L)
    | none => none
def finK (a : Nat) (s : Option ST) (wks keeps : List (Nat × KS)) (fz : List Fz) : Option (OO × Heap × List Obj × List Prop) := match s with
  | some ⟨.fin out H _, W, L⟩ => bif sideA a H W wks keeps fz then
      match coOut (coV H a (posA a (keeps.map (·.1))) fz 4) out, coWs H a (posA a (keeps.map (·.1))) fz wks, coObjs H a (posA a (keeps.map (·.1))) fz keeps with
      | some (v1, L1), some (ws, L3), some (os, L2) => some (v1, ws, os, L1 ++ (L3 ++ (L2 ++ L)))
      | _, _, _ => none
    else none
  | _ => none
def FinK (P : Program) (B : Lo) (c0 : CF) (Hb : Heap) (a : Nat) (out : OO) (ws : Heap) (os : List Obj) (Wf : List Nat) : Prop :=
  ∀ (μ : Mu) (w : World) (fr : Frame) (cs : List Frame), Ok B (fun i => i < a) μ (hget Hb) w → B.has w → (∀ i, a ≤ i → μ i = none) → FrR Bot.no μ c0 fr →
    ∃ out' w' μ', Post B (fun i => i < a) a (a + 1 + os.length) Wf μ μ' Hb (headA Hb a ws os) w w' ∧ OR2 μ' out out' ∧ (∀ i, a + 1 + os.length ≤ i → μ' i = none) ∧ EndsAs P fr cs w out' w'
section
variable {P : Program} {F : FuncId → Bool} {J : World → Prop} {B : Lo} {c0 c : CF} {Hb H : Heap} {a n : Nat} {W Wf : List Nat}
theorem GoE.finK (hF : ∀ g, F g = true → okFn P g = true) (hJ : ∀ w, B.has w → J w) (hmix : P.follows .mixedOrders = true) {wks keeps : List (Nat × KS)} (hu : Under Hb a) (hw : Writable Hb a (wks.map (·.1))) (h : GoE P B c0 Hb a c H n (wks.map (·.1))) {fuel : Nat} {sc : ScriptT} {fz : List Fz} {out : OO} {ws : Heap} {os : List Obj} {L : List Prop}
    (e : CE.finK a (srunT P F J B fuel a c H n sc 0 [] []) wks keeps fz = some (out, ws, os, L)) (hL : AllP L) : FinK P B c0 Hb a out ws os (wks.map (·.1)) := by
  unfold CE.finK at e
  split at e
  · rename_i out0 H' n' W' L' hs
    cases hq : sideA a H' W' wks keeps fz with
    | false => rw [hq] at e; cases e
    | true =>
      rw [hq] at e
      simp only [cond_true] at e
      split at e
      · rename_i v1 L1 ws0 L3 os0 L2 hv1 hws hos
        simp only [Option.some.injEq, Prod.mk.injEq] at e
        obtain ⟨rfl, rfl, rfl, rfl⟩ := e
        obtain ⟨hL1, hLr⟩ := allP_append hL
        obtain ⟨hL3, hLr⟩ := allP_append hLr
        obtain ⟨hL2, hL4⟩ := allP_append hLr
        obtain ⟨R, W2, hfj, hiff⟩ := srunT_sound hF hJ hmix fuel a c H n sc 0 [] [] _ h.under hs hL4
        intro μ w fr cs hok hB hf hfr
        obtain ⟨out', w', μ', hp, ho, he⟩ := h.fj hfj μ w fr cs hok hB hf hfr
        have hp := hp.widen (W' := wks.map (·.1)) hok (fun i hi hm => by
          rcases List.mem_append.1 hm with hm | hm
          · exact hm
          · have hi' : i ∈ W' := (hiff i hi).2 (.inr hm)
            have hq' := hq
            unfold sideA at hq'
            simp only [Bool.and_eq_true] at hq'
            simpa using List.all_eq_true.1 hq'.1.1.1.1 i hi') (fun i hi hiW => hw.rw hok hi hiW)
        obtain ⟨μ1, im1, hco, hpost, hfree, _⟩ := merge_core hu hw (h.under.shape hfj.shape) hq hok hf hp hws hos hL3 hL2
        cases ho with
        | ret hvr =>
          unfold coOut at hv1
          split at hv1
          · rename_i v0 e0
            cases e0
            split at hv1
            · rename_i v2 L2' hv2
              simp only [Option.some.injEq, Prod.mk.injEq] at hv1
              obtain ⟨rfl, rfl⟩ := hv1
              exact ⟨_, w', μ1, hpost, .ret (coV_sound hco 4 _ _ _ _ hv2 hL1 hvr), hfree, he⟩
            · cases hv1
          · rename_i e0; cases e0
        | pan hvr =>
          unfold coOut at hv1
          split at hv1
          · rename_i e0; cases e0
          · rename_i v0 e0
            cases e0
            split at hv1
            · rename_i v2 L2' hv2
              simp only [Option.some.injEq, Prod.mk.injEq] at hv1
              obtain ⟨rfl, rfl⟩ := hv1
              exact ⟨_, w', μ1, hpost, .pan (coV_sound hco 4 _ _ _ _ hv2 hL1 hvr), hfree, he⟩
            · cases hv1
      · cases e
  · cases e
theorem FinK.cast {out out1 : OO} {ws ws1 : Heap} {os os1 : List Obj} (h : FinK P B c0 Hb a out ws os Wf) (e1 : out = out1) (e2 : ws = ws1) (e3 : os = os1) : FinK P B c0 Hb a out1 ws1 os1 Wf := e1 ▸ e2 ▸ e3 ▸ h
theorem FinK.fj {out : OO} {ws : Heap} {os : List Obj} (h : FinK P B c0 Hb a out ws os Wf) (hub : Under Hb a) (hws : ∀ i o, hget ws i = some o → i < a ∧ i ∈ Wf) (hWf : ∀ i ∈ Wf, i < a) (hs : ∀ t, lowV a 4 (tget c0.tmps t) = true ∨ Loose (tget c0.tmps t)) (hp : c0.todo.all plainItem = true) (hd : c0.defers = []) (hm : c0.mode = .run) (hr : ∀ l, c0.roundOf = some l → l < a) (hob : ∀ i o, hget Hb i = some o → LowO a o) :
    FJ P B c0 Hb a out ((ws ++ ((a, regO) :: heapL (a + 1) os)) ++ Hb) (a + 1 + os.length) (List.range a) Wf := by
  have hG : (ws ++ ((a, regO) :: heapL (a + 1) os)) ++ Hb = headA Hb a ws os := by unfold headA; simp
  rw [hG]
  refine ⟨⟨by omega, fun i hi hw => ?_, fun i hi => ?_, fun i hi => List.mem_range.2 (hWf i hi), fun i hi => by have := hWf i hi; omega⟩, fun S μ w fr cs hok hB hS hf hfr hR => ?_⟩
  · rw [headA_get]
    cases hg : hget ws i with
    | some o => exact absurd (hws i o hg).2 hw
    | none => simp only; rw [if_neg (by omega), if_neg (by omega)]
  · rw [headA_get]
    cases hg : hget ws i with
    | some o => have := (hws i o hg).1; omega
    | none => simp only; rw [if_neg (by omega), if_neg (by omega)]
  · have hSeq : S = fun i => i < a := funext fun i => propext ⟨hS i, fun hi => hR i (List.mem_range.2 hi) hi⟩
    subst hSeq
    let μc : Mu := fun i => if i < a then μ i else none
    have hμc : ∀ b, b < a → μc b = μ b := fun b hb => by show (if b < a then μ b else none) = μ b; rw [if_pos hb]
    have hextc : Ext μc μ := fun k im hk => by
      have hk : (if k < a then μ k else none) = some im := hk
      split at hk
      · exact hk
      · cases hk
    have hokc : Ok B.B (fun i => i < a) μc (hget Hb) w := by
      refine ⟨fun i o hi hg hl => ?_, fun i o im hi hg hl him => ?_, fun i j oi oj x y hi hj hne hg1 hg2 l1 l2 m1 m2 r1 r2 => ?_, fun i o hi hg hr => ?_, fun i j oi oj x y z hi hj hg1 hg2 r1 l2 m1 m2 hrw => ?_⟩
      · obtain ⟨im, him, hor⟩ := hok.rel i o hi hg hl
        exact ⟨im, (hμc i hi).trans him, OR.low hμc (hob i o hg) hor⟩
      · exact hok.low i o im hi hg hl ((hμc i hi).symm.trans him)
      · exact hok.inj i j oi oj x y hi hj hne hg1 hg2 l1 l2 ((hμc i hi).symm.trans m1) ((hμc j hj).symm.trans m2) r1 r2
      · obtain ⟨im, him, hx⟩ := hok.reg i o hi hg hr
        exact ⟨im, (hμc i hi).trans him, hx⟩
      · exact hok.sep i j oi oj x y z hi hj hg1 hg2 r1 l2 ((hμc i hi).symm.trans m1) ((hμc j hj).symm.trans m2) hrw
    obtain ⟨out', w', μ', hpost, hv, hfree, he⟩ := h μc w fr cs hokc hB (fun i hi => by show (if i < a then μ i else none) = none; rw [if_neg (by omega)]) (hfr.low hμc hs hp hd hm hr)
    let μ2 : Mu := fun i => if i < a + 1 + os.length then μ' i else μ i
    have hμ2 : ∀ i, i < a + 1 + os.length → μ2 i = μ' i := fun i hi => by show (if i < a + 1 + os.length then μ' i else μ i) = μ' i; rw [if_pos hi]
    have ext2 : Ext μ' μ2 := fun k im hk => by
      rcases Nat.lt_or_ge k (a + 1 + os.length) with h1 | h1
      · rw [hμ2 k h1]; exact hk
      · rw [hfree k h1] at hk; cases hk
    have Slt : ∀ i, (i < a ∨ a ≤ i ∧ i < a + 1 + os.length) → i < a + 1 + os.length := fun i h => by omega
    refine ⟨_, w', μ2, ⟨?_, by omega, fun i hi => ?_, fun i hi hw => ?_, hpost.grow, fun b hb hx => hpost.frame b hb fun i hiW hi im him => hx i hiW hi im ((hμc i hi).symm.trans him), fun i hiW hi => ?_, fun i im o h1 h2 ho hl him => ?_, fun i im o hc ho hr him b x hx => ?_, hpost.os, hpost.tape, hpost.output⟩, OR2.mono ext2 hv, he⟩
    · have ok := hpost.ok
      refine ⟨fun i o hi hg hl => ?_, fun i o im hi hg hl him => ?_, fun i j oi oj x y hi hj hne hg1 hg2 l1 l2 m1 m2 r1 r2 => ?_, fun i o hi hg hr => ?_, fun i j oi oj x y z hi hj hg1 hg2 r1 l2 m1 m2 hrw => ?_⟩
      · obtain ⟨im, him, hor⟩ := ok.rel i o hi hg hl
        exact ⟨im, (hμ2 i (Slt i hi)).trans him, hor.keep ext2 rfl⟩
      · exact ok.low i o im hi hg hl ((hμ2 i (Slt i hi)).symm.trans him)
      · exact ok.inj i j oi oj x y hi hj hne hg1 hg2 l1 l2 ((hμ2 i (Slt i hi)).symm.trans m1) ((hμ2 j (Slt j hj)).symm.trans m2) r1 r2
      · obtain ⟨im, him, hx⟩ := ok.reg i o hi hg hr
        exact ⟨im, (hμ2 i (Slt i hi)).trans him, hx⟩
      · exact ok.sep i j oi oj x y z hi hj hg1 hg2 r1 l2 ((hμ2 i (Slt i hi)).symm.trans m1) ((hμ2 j (Slt j hj)).symm.trans m2) hrw
    · rcases Nat.lt_or_ge i a with h1 | h1
      · rw [hμ2 i (by omega), hpost.ext i (by omega), hμc i h1]
      · show (if i < a + 1 + os.length then μ' i else μ i) = μ i
        rw [if_neg (by omega)]
    · exact hpost.keep i hi hw
    · obtain ⟨p, q, im, s, t⟩ := hpost.wr i hiW hi
      exact ⟨p, q, im, (hμc i hi).symm.trans s, t⟩
    · obtain ⟨p, q⟩ := hpost.fresh i im o h1 h2 ho hl ((hμ2 i h2).symm.trans him)
      exact ⟨p, q.imp id fun ⟨k, x, y, ⟨im', m, m2⟩, z⟩ => ⟨k, x, y, ⟨im', (hμc k y).symm.trans m, m2⟩, z⟩⟩
    · have hlt : i < a + 1 + os.length := by omega
      rcases hpost.rf i im o hc ho hr ((hμ2 i hlt).symm.trans him) b x hx with e | ⟨k, kim, ko, p, q, r, s, t, u⟩ | ⟨k, p, q, ⟨im', m, m2⟩, z⟩
      · exact .inl e
      · exact .inr (.inl ⟨k, kim, ko, p, q, r, s, (hμc k q).symm.trans t, u⟩)
      · exact .inr (.inr ⟨k, p, q, ⟨im', (hμc k q).symm.trans m, m2⟩, z⟩)
def fjOk (a : Nat) (l : List Value) (todo : List Item) (ro : Option Nat) (Hb ws : Heap) (Wf ex : List Nat) : Bool :=
  l.all (lowV a 4) && (todo.all plainItem && ((match ro with | some l => Nat.blt l a | none => true) && ((Hb.all fun p => Nat.blt p.1 a) && ((Hb.all fun p => ex.contains p.1 || lowOb a p.2) && ((ws.all fun p => Nat.blt p.1 a && Wf.contains p.1) && ((Wf.all fun k => Nat.blt k a) && Nat.ble l.length 16000))))))
def LowX (a : Nat) : Heap → List Nat → Prop
  | [], _ => True
  | (k, o) :: H, ex => (bif ex.contains k then LowO a o else True) ∧ LowX a H ex
theorem lowX_get {a : Nat} {ex : List Nat} : ∀ {H : Heap} {k : Nat} {o : Obj}, LowX a H ex → ex.contains k = true → hget H k = some o → LowO a o
  | [], _, _, _, _, h => by cases h
  | (j, x) :: H, k, o, hx, hk, h => by
    rw [hget_cons] at h
    split at h
    · rename_i e
      cases h; subst e
      have := hx.1
      rw [hk] at this
      exact this
    · exact lowX_get hx.2 hk h
theorem lowX_nil {a : Nat} : ∀ H : Heap, LowX a H []
  | [] => trivial
  | (_, _) :: H => ⟨trivial, lowX_nil H⟩
theorem FinK.fjB {fn : FuncId} {len : Nat} {l : List Value} {todo : List Item} {ro : Option Nat} {out : OO} {ws : Heap} {os : List Obj} {ex : List Nat} (h : FinK P B ⟨fn, ofList len l, todo, [], .run, ro⟩ Hb a out ws os Wf) (e : fjOk a l todo ro Hb ws Wf ex = true) (hx : LowX a Hb ex) :
    FJ P B ⟨fn, ofList len l, todo, [], .run, ro⟩ Hb a out ((ws ++ ((a, regO) :: heapL (a + 1) os)) ++ Hb) (a + 1 + os.length) (List.range a) Wf := by
  simp only [fjOk, Bool.and_eq_true] at e
  obtain ⟨e1, e2, e3, e4, e5, e6, e7, e8⟩ := e
  have e8 := Nat.le_of_ble_eq_true e8
  refine h.fj (under_all e4) (fun i o ho => ?_) (fun i hi => Nat.le_of_ble_eq_true (List.all_eq_true.1 e7 i hi)) (fun t => ?_) e2 rfl rfl (fun k hk => ?_) (fun i o ho => ?_)
  · have := List.all_eq_true.1 e6 _ (hget_in ho)
    simp only [Bool.and_eq_true] at this
    exact ⟨Nat.le_of_ble_eq_true this.1, by simpa using this.2⟩
  · simp only [tget, ofList]
    rw [ofL_get _ _ _ _ (by omega)]
    split
    · rename_i ht
      have ht : t < l.length := by omega
      refine .inl (List.all_eq_true.1 e1 _ ?_)
      rw [Nat.sub_zero, List.getD_eq_getElem?_getD, List.getElem?_eq_getElem ht]
      exact List.getElem_mem ht
    · rw [Tri.get_lf]
      exact .inr (loose_af (by simp [Go.undef, af]))
  · have hk : ro = some k := hk
    subst hk
    exact Nat.le_of_ble_eq_true e3
  · have := List.all_eq_true.1 e5 _ (hget_in ho)
    simp only [Bool.or_eq_true] at this
    rcases this with h1 | h1
    · exact lowX_get hx h1 ho
    · exact lowOb_ok h1
end
end Go.CE

namespace Go.CE
open Go Go.RowKit Go.ChangeShapes Go.WideShapes

inductive Sh where
  | int | bool | str | unit
  | pair (a b : Sh)
  | struct (f : Sh)
  | slice (e : Sh)
def Sh.sz : Sh → Nat
  | .unit => 0
  | .pair a b => a.sz + b.sz
  | .struct f => f.sz
  | _ => 1
def Sh.ok : Sh → List Value → Prop
  | .int, cs => ∃ z : Int, (-9223372036854775808 ≤ z ∧ z ≤ 9223372036854775807) ∧ cs = [.int .i64 z]
  | .bool, cs => ∃ b, cs = [.bool b]
  | .str, cs => ∃ s : ByteArray, s.size ≤ maxLen ∧ cs = [.string s]
  | .unit, cs => cs = []
  | .pair a b, cs => ∃ x y, cs = x ++ y ∧ a.ok x ∧ b.ok y
  | .struct f, cs => f.ok cs
  | .slice e, cs => ∃ (n : Nat) (r : Nat → List Value), (∀ k, e.ok (r k) ∨ n ≤ k) ∧ (∀ k, (r k).length = e.sz) ∧ cs = [slT n (rowL r (List.range n))]
theorem Sh.ok_sz : ∀ (s : Sh) (cs : List Value), s.ok cs → cs.length = s.sz
  | .int, cs, ⟨z, _, h⟩ => by rw [h]; rfl
  | .bool, cs, ⟨z, h⟩ => by rw [h]; rfl
  | .str, cs, ⟨z, _, h⟩ => by rw [h]; rfl
  | .unit, cs, h => by rw [show cs = [] from h]; rfl
  | .pair a b, cs, ⟨x, y, h, hx, hy⟩ => by rw [h, List.length_append, Sh.ok_sz a x hx, Sh.ok_sz b y hy]; rfl
  | .struct f, cs, h => Sh.ok_sz f cs h
  | .slice e, cs, ⟨n, r, _, _, h⟩ => by rw [h]; rfl
def Sh.chk (P : Program) : Sh → Option (List Field × Nat) → TypeId → Bool
  | .int, none, t => match P.underlying t with | some (.int .i64) => true | _ => false
  | .bool, none, t => match P.underlying t with | some .bool => true | _ => false
  | .str, none, t => match P.underlying t with | some .string => true | _ => false
  | .struct f, none, t => match P.underlying t with | some (.struct fs) => f.chk P (some (fs.toList, 0)) t | _ => false
  | .slice e, none, t => match P.underlying t with | some (.slice u) => Nat.blt 0 e.sz && e.chk P none u | _ => false
  | .unit, some ([], off), t => Nat.beq off (P.cellsOf t)
  | .pair a b, some (f :: fs, off), t => Nat.beq f.offset off && (a.chk P none f.type && (Nat.beq (P.cellsOf f.type) a.sz && b.chk P (some (fs, off + P.cellsOf f.type)) t))
  | _, _, _ => false
def TRl (fm : Nat → Option Obj) (ts cs : List Value) : Prop := ts.length = cs.length ∧ ∀ (i : Nat) v v', ts[i]? = some v → cs[i]? = some v' → TRv fm v v'
theorem TRl.nil {fm : Nat → Option Obj} : TRl fm [] [] := ⟨rfl, fun i v v' h => by simp at h⟩
theorem TRl.one {fm : Nat → Option Obj} {t v : Value} (h : TRv fm t v) : TRl fm [t] [v] := ⟨rfl, fun i a b ha hb => by
  cases i with
  | zero => simp at ha hb; subst ha hb; exact h
  | succ i => simp at ha⟩
theorem TRl.append {fm : Nat → Option Obj} {a b c d : List Value} (h : TRl fm a b) (k : TRl fm c d) : TRl fm (a ++ c) (b ++ d) := ⟨by simp [h.1, k.1], fun i v v' x y => by
  rcases Nat.lt_or_ge i a.length with hi | hi
  · rw [List.getElem?_append_left hi] at x
    rw [List.getElem?_append_left (by rw [← h.1]; exact hi)] at y
    exact h.2 i v v' x y
  · rw [List.getElem?_append_right hi] at x
    rw [List.getElem?_append_right (by rw [← h.1]; exact hi)] at y
    exact k.2 _ v v' x (by rw [h.1]; exact y)⟩
def allM (w : World) (b : Nat) : Option Obj := w.heap[b]?
section
variable {P : Program} {H : Type} {enc : TypeId × Value → H} {w : World} {held : Bool}
theorem addr_plain {a : Addr} {v : Value} (h : w.cell? a = some v) : ∃ b o arr t fl, a = ⟨b, o, none⟩ ∧ w.heap[b]? = some (.cells arr t fl) ∧ arr[o]? = some v := by
  obtain ⟨b, o, s⟩ := a
  unfold World.cell? at h
  split at h
  · rename_i c t fl hb
    cases s with
    | some _ => simp at h
    | none => exact ⟨b, o, c, t, fl, rfl, hb, by simpa using h⟩
  · cases h
theorem plain_add {b o j : Nat} : (⟨b, o, none⟩ : Addr).add j = ⟨b, o + j, none⟩ := by
  unfold Addr.add
  split <;> simp_all
theorem range_row {e : Nat → List Value} {z n : Nat} (h : ∀ k, (e k).length = z) {i : Nat} {v : Value} (hv : (rowL e (List.range n))[i]? = some v) : ∃ k j, k < n ∧ j < z ∧ i = k * z + j ∧ (e k)[j]? = some v := by
  have hlt : i < n * z := by
    have := (Array.getElem?_eq_some_iff.1 hv).1
    rw [rowL_size h] at this
    simpa using this
  have hz : 0 < z := by
    rcases Nat.eq_zero_or_pos z with rfl | h
    · omega
    · exact h
  have hk : i / z < n := Nat.div_lt_of_lt_mul (by rwa [Nat.mul_comm] at hlt)
  have hj : i % z < z := Nat.mod_lt _ hz
  have hi : i = i / z * z + i % z := by
    have := Nat.div_add_mod i z
    rw [Nat.mul_comm] at this
    omega
  refine ⟨i / z, i % z, hk, hj, hi, ?_⟩
  have := rowL_get (e := e) (xs := List.range n) h (k := i / z) (j := i % z) (by simpa using hk) hj
  rw [← hi, hv] at this
  rw [this]
  simp [List.getD, hk]
theorem trod_sh : ∀ (s : Sh) (fuel : Nat) (t : TypeId) (cs : List Value) (x : DataW H × List MemPlace), s.chk P none t = true → DataW.trod enc P w 0 (fun _ => true) held fuel t cs = some x → ∃ ts, s.ok ts ∧ TRl (allM w) ts cs := by
  intro s
  -- for fields, too
  have key : (∀ (fuel : Nat) (t : TypeId) (cs : List Value) (x : DataW H × List MemPlace), s.chk P none t = true → DataW.trod enc P w 0 (fun _ => true) held fuel t cs = some x → ∃ ts, s.ok ts ∧ TRl (allM w) ts cs) ∧
      (∀ (fl : List Field) (off : Nat) (t : TypeId) (cs : List Value), s.chk P (some (fl, off)) t = true → cs.length = P.cellsOf t → (∀ f ∈ fl, ∃ fuel x, DataW.trod enc P w 0 (fun _ => true) held fuel f.type ((cs.drop f.offset).take (P.cellsOf f.type)) = some x) → ∃ ts, s.ok ts ∧ TRl (allM w) ts (cs.drop off)) := by
    induction s with
    | int =>
      refine ⟨fun fuel t cs x hc h => ?_, fun fl off t cs hc => by simp [Sh.chk] at hc⟩
      simp only [Sh.chk] at hc
      split at hc
      · rename_i ht
        obtain ⟨n, rfl, _, hw⟩ := DataW.trod_int ht h
        simp only [Lit.wf, Bool.and_eq_true, decide_eq_true_eq] at hw
        exact ⟨_, ⟨n, ⟨hw.1, hw.2⟩, rfl⟩, TRl.one (.simple rfl)⟩
      · cases hc
    | bool =>
      refine ⟨fun fuel t cs x hc h => ?_, fun fl off t cs hc => by simp [Sh.chk] at hc⟩
      simp only [Sh.chk] at hc
      split at hc
      · rename_i ht
        obtain ⟨b, rfl, _⟩ := DataW.trod_bool ht h
        exact ⟨_, ⟨b, rfl⟩, TRl.one (.simple rfl)⟩
      · cases hc
    | str =>
      refine ⟨fun fuel t cs x hc h => ?_, fun fl off t cs hc => by simp [Sh.chk] at hc⟩
      simp only [Sh.chk] at hc
      split at hc
      · rename_i ht
        obtain ⟨b, rfl, _, hl⟩ := DataW.trod_string ht h
        exact ⟨_, ⟨b, hl, rfl⟩, TRl.one (.simple rfl)⟩
      · cases hc
    | unit =>
      refine ⟨fun fuel t cs x hc h => by simp [Sh.chk] at hc, fun fl off t cs hc hl hf => ?_⟩
      cases fl with
      | nil =>
        simp only [Sh.chk] at hc
        have := Nat.eq_of_beq_eq_true hc
        refine ⟨[], rfl, ?_⟩
        rw [List.drop_eq_nil_of_le (by omega)]
        exact TRl.nil
      | cons f fl => simp [Sh.chk] at hc
    | pair a b iha ihb =>
      refine ⟨fun fuel t cs x hc h => by simp [Sh.chk] at hc, fun fl off t cs hc hl hf => ?_⟩
      cases fl with
      | nil => simp [Sh.chk] at hc
      | cons f fl =>
        simp only [Sh.chk, Bool.and_eq_true] at hc
        obtain ⟨h1, h2, h3, h4⟩ := hc
        have h1 := Nat.eq_of_beq_eq_true h1
        have h3 := Nat.eq_of_beq_eq_true h3
        subst h1
        obtain ⟨fuel, x, hx⟩ := hf f (by simp)
        obtain ⟨ta, oa, ra⟩ := iha.1 fuel f.type _ x h2 hx
        obtain ⟨tb, ob, rb⟩ := ihb.2 fl _ t cs h4 hl (fun g hg => hf g (by simp [hg]))
        refine ⟨ta ++ tb, ⟨ta, tb, rfl, oa, ob⟩, ?_⟩
        have : cs.drop f.offset = (cs.drop f.offset).take (P.cellsOf f.type) ++ cs.drop (f.offset + P.cellsOf f.type) := by
          rw [← List.drop_drop, List.take_append_drop]
        rw [this]
        exact ra.append rb
    | struct f ih =>
      refine ⟨fun fuel t cs x hc h => ?_, fun fl off t cs hc => by simp [Sh.chk] at hc⟩
      simp only [Sh.chk] at hc
      split at hc
      · rename_i fs ht
        obtain ⟨xs, n, _, _, hl, hlen, hg⟩ := DataW.trod_struct ht h
        obtain ⟨ts, h1, h2⟩ := ih.2 fs.toList 0 t cs hc hl fun g hg' => by
          obtain ⟨i, hi⟩ := List.getElem?_of_mem hg'
          have hi' : fs[i]? = some g := by simpa using hi
          have := hg i g hi'
          have hlt : i < xs.length := by
            have := (Array.getElem?_eq_some_iff.1 hi').1
            omega
          rw [List.getElem?_eq_getElem hlt] at this
          exact ⟨n, _, this⟩
        exact ⟨ts, h1, by simpa using h2⟩
      · cases hc
    | slice e ih =>
      refine ⟨fun fuel t cs x hc h => ?_, fun fl off t cs hc => by simp [Sh.chk] at hc⟩
      simp only [Sh.chk] at hc
      split at hc
      · rename_i u ht
        simp only [Bool.and_eq_true] at hc
        obtain ⟨hz, hc⟩ := hc
        have hz : 0 < e.sz := Nat.le_of_ble_eq_true hz
        rcases Deep.open_slice ht h with ⟨rfl, _⟩ | ⟨a, len, cap, m, n', D, Pl, rfl, _, hl, hm, hmm, _, hi⟩
        · exact ⟨_, ⟨0, fun _ => List.replicate e.sz undef, fun k => .inr (Nat.zero_le _), fun k => by simp, rfl⟩, TRl.one .nil⟩
        · simp only [if_true] at hmm
          subst hmm
          have each : ∀ k, ∃ r : List Value, (k < len → e.ok r ∧ (∀ j, j < P.cellsOf u → w.cell? (a.add (k * P.cellsOf u + j)) = none → False) ∧ ∀ (j : Nat) v v', r[j]? = some v → w.cell? (a.add (k * P.cellsOf u + j)) = some v' → TRv (allM w) v v') ∧ r.length = e.sz ∧ (k < len → e.sz = P.cellsOf u) := by
            intro k
            by_cases hk : k < len
            · obtain ⟨cs', hc', ht'⟩ := hi k (by omega)
              obtain ⟨ts, ho, hr⟩ := ih.1 n' u cs' _ hc ht'
              obtain ⟨_, hln, hat⟩ := World.cells?_some hc'
              have hsz : e.sz = P.cellsOf u := by rw [← Sh.ok_sz e ts ho, hr.1, hln]
              refine ⟨ts, fun _ => ⟨ho, fun j hj hnone => ?_, fun j v v' hv hv' => ?_⟩, Sh.ok_sz e ts ho, fun _ => hsz⟩
              · have := hat j hj
                rw [Deep.add_add, hnone, List.getElem?_eq_getElem (by omega)] at this
                cases this
              · have hj : j < ts.length := (List.getElem?_eq_some_iff.1 hv).1
                have := hat j (by rw [hr.1, hln] at hj; exact hj)
                rw [Deep.add_add, hv'] at this
                exact hr.2 j v v' hv this.symm
            · exact ⟨List.replicate e.sz undef, fun h => absurd h hk, by simp, fun h => absurd h hk⟩
          refine ⟨_, ⟨len, fun k => Classical.choose (each k), fun k => ?_, fun k => (Classical.choose_spec (each k)).2.1, rfl⟩, TRl.one ?_⟩
          · by_cases hk : k < len
            · exact .inl ((Classical.choose_spec (each k)).1 hk).1
            · exact .inr (by omega)
          · generalize hr : (fun k => Classical.choose (each k)) = r
            have hr1 : ∀ k, k < len → e.ok (r k) ∧ (∀ j, j < P.cellsOf u → w.cell? (a.add (k * P.cellsOf u + j)) = none → False) ∧ ∀ (j : Nat) v v', (r k)[j]? = some v → w.cell? (a.add (k * P.cellsOf u + j)) = some v' → TRv (allM w) v v' := fun k hk => by rw [← hr]; exact (Classical.choose_spec (each k)).1 hk
            have hr2 : ∀ k, (r k).length = e.sz := fun k => by rw [← hr]; exact (Classical.choose_spec (each k)).2.1
            have hr3 : ∀ k, k < len → e.sz = P.cellsOf u := fun k hk => (Classical.choose_spec (each k)).2.2 hk
            rcases Nat.eq_zero_or_pos len with rfl | hpos
            · have : rowL r (List.range 0) = #[] := rfl
              rw [this]
              exact .empty hm
            · have hsz := hr3 0 hpos
              have hex : ∃ v, w.cell? a = some v := by
                have := (hr1 0 hpos).2.1 0 (by omega)
                have ea : a.add (0 * P.cellsOf u + 0) = a := by simp [Addr.add]
                rw [ea] at this
                cases hq : w.cell? a with
                | none => exact absurd hq this
                | some v => exact ⟨v, rfl⟩
              obtain ⟨v0, hv0⟩ := hex
              obtain ⟨b, o, arr, ty, fl, rfl, hb, _⟩ := addr_plain hv0
              have cellE : ∀ i, w.cell? ⟨b, o + i, none⟩ = arr[o + i]? := fun i => by simp [World.cell?, hb]
              refine TRv.slice (o := o) hl hm hb (fun i hi' => ?_) fun i v v' hv hv' => ?_
              · obtain ⟨k, j, hk, hj, rfl, _⟩ := range_row hr2 (i := i) (v := (rowL r (List.range len))[i]) (Array.getElem?_eq_getElem hi')
                have := (hr1 k hk).2.1 j (by omega)
                rw [plain_add, ← hsz, cellE] at this
                rcases Nat.lt_or_ge (o + (k * e.sz + j)) arr.size with h1 | h1
                · exact h1
                · exact absurd (Array.getElem?_eq_none h1) this
              · obtain ⟨k, j, hk, hj, rfl, hkj⟩ := range_row hr2 hv
                refine (hr1 k hk).2.2 j v v' hkj ?_
                rw [plain_add, ← hsz, cellE]
                exact hv'
      · cases hc
  exact key.1
def Sh.arg : Sh → Value → Prop
  | .struct f, v => ∃ cs, v = .agg cs.toArray ∧ f.ok cs
  | s, v => s.ok [v]
def ArgAll : List Sh → List Value → Prop
  | [], l => l = []
  | s :: ss, l => ∃ t ts, l = t :: ts ∧ s.arg t ∧ ArgAll ss ts
theorem trod_arg {s : Sh} {t : TypeId} {v : Value} {d : DataW H} {ps : List MemPlace} {r : Reach} {b0 : Nat} (hc : s.chk P none t = true) (hv : Value.okWide P w r b0 t v) (h : DataW.Trod enc P w 0 (fun _ => true) held t v d ps) : ∃ tr, s.arg tr ∧ TRv (allM w) tr v := by
  obtain ⟨fuel, hf⟩ := h
  obtain ⟨ts, ho, hr⟩ := trod_sh s fuel t _ _ hc hf
  have one : v.cells = #[v] → s.ok ts → (∀ f, s ≠ .struct f) → ∃ tr, s.arg tr ∧ TRv (allM w) tr v := fun hv1 ho hs => by
    rw [hv1] at hr
    match ts, hr, ho with
    | [tr], hr, ho =>
      refine ⟨tr, ?_, hr.2 0 tr v rfl rfl⟩
      cases s <;> first | exact ho | exact absurd rfl (hs _)
    | [], hr, _ => have := hr.1; simp at this
    | _ :: _ :: _, hr, _ => have := hr.1; simp at this
  cases s with
  | int =>
    simp only [Sh.chk] at hc
    split at hc
    · rename_i ht; obtain ⟨n, rfl⟩ := okWide_int ht hv; exact one rfl ho fun f h => by cases h
    · cases hc
  | bool =>
    simp only [Sh.chk] at hc
    split at hc
    · rename_i ht; obtain ⟨n, rfl⟩ := okWide_bool ht hv; exact one rfl ho fun f h => by cases h
    · cases hc
  | str =>
    simp only [Sh.chk] at hc
    split at hc
    · rename_i ht; obtain ⟨n, rfl⟩ := okWide_string ht hv; exact one rfl ho fun f h => by cases h
    · cases hc
  | unit => simp [Sh.chk] at hc
  | pair a b => simp [Sh.chk] at hc
  | struct f =>
    simp only [Sh.chk] at hc
    split at hc
    · rename_i fs ht
      obtain ⟨cs, rfl, _⟩ := okWide_struct ht hv
      refine ⟨.agg ts.toArray, ⟨ts, rfl, ho⟩, .agg ?_ fun i v v' h1 h2 => ?_⟩
      · have := hr.1; simpa [Value.cells] using this
      · exact hr.2 i v v' (by simpa using h1) (by simpa [Value.cells] using h2)
    · cases hc
  | slice e =>
    simp only [Sh.chk] at hc
    split at hc
    · rename_i u ht; obtain ⟨a, l, c, rfl⟩ := okWide_slice ht hv; exact one rfl ho fun f h => by cases h
    · cases hc
def chkAll (P : Program) : List Sh → List TypeId → Bool
  | [], [] => true
  | s :: ss, t :: ts => s.chk P none t && chkAll P ss ts
  | _, _ => false
theorem trodAll_cons {t : TypeId} {ts : List TypeId} {vs : List Value} {ds : List (DataW H)} {ps : List MemPlace} {base : Nat} {spare : Nat → Bool} (h : DataW.TrodAll enc P w base spare held (t :: ts) vs ds ps) :
    ∃ v vs' d ds' p q, vs = v :: vs' ∧ ds = d :: ds' ∧ DataW.Trod enc P w base spare held t v d p ∧ DataW.TrodAll enc P w base spare held ts vs' ds' q ∧ ps = p ++ q := by
  cases vs with
  | nil => cases ds <;> simp [DataW.TrodAll] at h
  | cons v vs =>
    cases ds with
    | nil => simp [DataW.TrodAll] at h
    | cons d ds =>
      simp only [DataW.TrodAll] at h
      obtain ⟨p, q, h1, h2, h3⟩ := h
      exact ⟨v, vs, d, ds, p, q, rfl, rfl, h1, h2, h3⟩
theorem trodAll_nil {vs : List Value} {ds : List (DataW H)} {ps : List MemPlace} {base : Nat} {spare : Nat → Bool} (h : DataW.TrodAll enc P w base spare held [] vs ds ps) : vs = [] ∧ ds = [] ∧ ps = [] := by
  cases vs <;> cases ds <;> simp [DataW.TrodAll] at h
  exact ⟨rfl, rfl, h⟩
theorem trods : ∀ (ss : List Sh) (ts : List TypeId) (vs : List Value) (ds : List (DataW H)) (ps : List MemPlace) (r : Reach) (b0 : Nat), chkAll P ss ts = true → DataW.TrodAll enc P w 0 (fun _ => true) held ts vs ds ps →
    (∀ (j : Nat) t v, ts[j]? = some t → vs[j]? = some v → Value.okWide P w r b0 t v) → ∃ trs, ArgAll ss trs ∧ TRl (allM w) trs vs
  | [], [], vs, ds, ps, r, b0, _, h, _ => by
    obtain ⟨rfl, _, _⟩ := trodAll_nil h
    exact ⟨[], rfl, TRl.nil⟩
  | s :: ss, t :: ts, vs, ds, ps, r, b0, hc, h, hv => by
    simp only [chkAll, Bool.and_eq_true] at hc
    obtain ⟨v, vs', d, ds', p, q, rfl, rfl, h1, h2, rfl⟩ := trodAll_cons h
    obtain ⟨tr, ha, hr⟩ := trod_arg hc.1 (hv 0 t v rfl rfl) h1
    obtain ⟨trs, ha2, hr2⟩ := trods ss ts vs' ds' q r b0 hc.2 h2 fun j t v h1 h2 => hv (j + 1) t v (by simpa using h1) (by simpa using h2)
    exact ⟨tr :: trs, ⟨tr, trs, rfl, ha, ha2⟩, (TRl.one hr).append hr2⟩
  | [], _ :: _, _, _, _, _, _, hc, _, _ => by simp [chkAll] at hc
  | _ :: _, [], _, _, _, _, _, hc, _, _ => by simp [chkAll] at hc
theorem law_call {J : World → Prop} {f : FuncId} {ss : List Sh} {ts : List TypeId} {args : Array Value} {ds : List (DataW H)} {ps : List MemPlace} {r : Reach} {b0 : Nat} (hJ : J w) (hc : chkAll P ss ts = true) (h : DataW.TrodAll enc P w 0 (fun _ => true) held ts args.toList ds ps)
    (hv : ∀ (j : Nat) t v, ts[j]? = some t → args[j]? = some v → Value.okWide P w r b0 t v) (walk : ∀ trs, ArgAll ss trs → PureC P J f trs.toArray (.bool true)) : Calls P f args w fun e w' => e = .returned (.bool true) ∧ Below w.heap.size w w' := by
  obtain ⟨trs, ha, hr⟩ := trods ss ts args.toList ds ps r b0 hc h fun j t v h1 h2 => hv j t v h1 (by simpa using h2)
  refine (walk trs ha (allM w) w args hJ (fun b x h => h) ⟨by simpa using hr.1, fun i v v' h1 h2 => hr.2 i v v' (by simpa using h1) (by simpa using h2)⟩).mono fun e w' ⟨v', he, hb, ht⟩ => ⟨?_, hb⟩
  rw [he, TRv.simple_eq rfl ht]
theorem trodAll_below (hl : laidOutB P = true) {W W' : World} (hb : Below W.heap.size W W') : ∀ (ts : List TypeId) (vs : List Value) (ds : List (DataW H)) (ps : List MemPlace), (ts.all fun t => P.readableRec t && decide (t < P.types.size)) = true → DataW.TrodAll enc P W 0 (fun _ => true) true ts vs ds ps → (∀ x ∈ ps, x.block < W.heap.size) →
    DataW.TrodAll enc P W' 0 (fun b => decide (b < W.heap.size)) true ts vs ds ps
  | [], vs, ds, ps, _, h, _ => by
    obtain ⟨rfl, rfl, rfl⟩ := trodAll_nil h
    exact rfl
  | t :: ts, vs, ds, ps, ha, h, hlt => by
    simp only [List.all_cons, Bool.and_eq_true, decide_eq_true_eq] at ha
    obtain ⟨v, vs', d, ds', p, q, rfl, rfl, h1, h2, rfl⟩ := trodAll_cons h
    exact ⟨p, q, Below.trod hl ha.1.1 ha.1.2 h1 hb fun x hx => hlt x (List.mem_append_left _ hx), trodAll_below hl hb ts vs' ds' q ha.2 h2 fun x hx => hlt x (List.mem_append_right _ hx), rfl⟩
theorem sh_list {α : Type} {s : Sh} {e : α → List Value} (dec : ∀ cs, s.ok cs → ∃ x, cs = e x) {n : Nat} {r : Nat → List Value} (h : ∀ k, s.ok (r k) ∨ n ≤ k) : ∃ xs : List α, xs.length = n ∧ rowL r (List.range n) = rowL e xs := by
  induction n with
  | zero => exact ⟨[], rfl, rfl⟩
  | succ n ih =>
    obtain ⟨xs, hl, hx⟩ := ih fun k => (h k).imp id fun h => by omega
    obtain ⟨x, hxe⟩ := dec (r n) ((h n).resolve_right (by omega))
    refine ⟨xs ++ [x], by simp [hl], ?_⟩
    unfold rowL at hx ⊢
    rw [List.range_succ, List.flatMap_append, List.flatMap_append]
    have : (List.range n).flatMap r = xs.flatMap e := by simpa using hx
    rw [this]
    simp [hxe]
theorem sh_slice {α : Type} {s : Sh} {e : α → List Value} (dec : ∀ cs, s.ok cs → ∃ x, cs = e x) {cs : List Value} (h : Sh.ok (.slice s) cs) : ∃ xs : List α, cs = [slT xs.length (rowL e xs)] := by
  obtain ⟨n, r, h1, _, rfl⟩ := h
  obtain ⟨xs, rfl, hx⟩ := sh_list dec h1
  exact ⟨xs, by rw [hx]⟩
theorem sh_int {cs : List Value} (h : Sh.ok .int cs) : ∃ z : Int, cs = encI z := by
  obtain ⟨z, _, rfl⟩ := h
  exact ⟨z, rfl⟩
def Sh.zero : Sh → List Value
  | .int => [.int .i64 0]
  | .bool => [.bool false]
  | .str => [.string ⟨#[]⟩]
  | .unit => []
  | .pair a b => a.zero ++ b.zero
  | .struct f => f.zero
  | .slice _ => [.slice none 0 0]
def Sh.zeroA : Sh → Value
  | .struct f => .agg f.zero.toArray
  | s => s.zero.headD undef
def shS (l : List Sh) : Sh := .struct (l.foldr .pair .unit)
end
end Go.CE

namespace Go.CE
open Go Go.RowKit

section
variable {P : Program} {F : FuncId → Bool} {J : World → Prop} {B : Lo} {c0 c : CF} {Hb H : Heap} {a n : Nat} {W Wf : List Nat}
end
def pow2 (n : Int) : Nat := 2 ^ n.toNat
def shrN (a n : Int) : Nat := a.toNat >>> n.toNat
def andN (a b : Int) : Nat := a.toNat &&& b.toNat
def orN (a b : Int) : Nat := a.toNat ||| b.toNat
theorem pow2_le {n : Int} (h1 : n ≤ 62) : pow2 n ≤ 4611686018427387904 := by unfold pow2; exact Nat.le_trans (Nat.pow_le_pow_right (by decide) (show n.toNat ≤ 62 by omega)) (by decide)
theorem shrN_le {a n : Int} : shrN a n ≤ a.toNat := by unfold shrN; rw [Nat.shiftRight_eq_div_pow]; exact Nat.div_le_self _ _
theorem bits_two {n : Int} (h1 : n ≤ 62) : (2 : Nat) ^ n.toNat ≤ 2 ^ 62 := Nat.pow_le_pow_right (by decide) (by omega)
theorem bin_shl1 {P : Program} {t : TypeId} {yk : IntKind} {n : Int} (h0 : 0 ≤ n) (h1 : n ≤ 62) : BinTo P .shl t (.int .i64 1) (.int yk n) (.int .i64 ((pow2 n : Nat) : Int)) := fun x y w => by
  unfold pow2
  have e : min n.toNat (IntKind.bits IntKind.i64) = n.toNat := Nat.min_eq_left (by show n.toNat ≤ 64; omega)
  have hp := bits_two h1
  have e2 : (2 : Int) ^ n.toNat = ((2 ^ n.toNat : Nat) : Int) := by rw [Int.natCast_pow]; rfl
  have e3 : IntKind.wrap IntKind.i64 (1 * 2 ^ min n.toNat (IntKind.bits IntKind.i64)) = ((2 ^ n.toNat : Nat) : Int) := by
    rw [e, Int.one_mul, e2]
    generalize 2 ^ n.toNat = z at *
    exact wrap_in (by omega) (by omega)
  have hn : ¬ n < 0 := by omega
  simp only [eqGuard, binOp, Op.shift, hn, if_false, e3]
  simp
theorem bin_shr {P : Program} {t : TypeId} {yk : IntKind} {a n : Int} (ha : 0 ≤ a) (h0 : 0 ≤ n) (h1 : n ≤ 62) : BinTo P .shr t (.int .i64 a) (.int yk n) (.int .i64 ((shrN a n : Nat) : Int)) := fun x y w => by
  unfold shrN
  obtain ⟨b, rfl⟩ : ∃ b : Nat, a = b := ⟨a.toNat, by omega⟩
  have e : min n.toNat (IntKind.bits IntKind.i64) = n.toNat := Nat.min_eq_left (by show n.toNat ≤ 64; omega)
  have e3 : Int.fdiv (b : Int) (2 ^ min n.toNat (IntKind.bits IntKind.i64)) = ((((b : Int)).toNat >>> n.toNat : Nat) : Int) := by
    rw [e, Int.fdiv_eq_ediv_of_nonneg _ (Int.le_of_lt (Int.pow_pos (by decide))), Int.toNat_natCast, Nat.shiftRight_eq_div_pow, Int.natCast_ediv, Int.natCast_pow]
    rfl
  have hn : ¬ n < 0 := by omega
  simp only [eqGuard, binOp, Op.shift, hn, if_false, e3]
  simp
theorem ofInt_nat {a : Int} (ha : 0 ≤ a) : BitVec.ofInt (IntKind.bits IntKind.i64) a = BitVec.ofNat 64 a.toNat := by
  obtain ⟨b, rfl⟩ : ∃ b : Nat, a = b := ⟨a.toNat, by omega⟩
  rw [Int.toNat_natCast]; exact BitVec.ofInt_natCast 64 b
theorem bin_and {P : Program} {t : TypeId} {a b : Int} (ha : 0 ≤ a) (ha2 : a ≤ 9223372036854775807) (hb : 0 ≤ b) (hb2 : b ≤ 9223372036854775807) : BinTo P .and t (.int .i64 a) (.int .i64 b) (.int .i64 ((andN a b : Nat) : Int)) := fun x y w => by
  unfold andN
  have e : IntKind.wrap IntKind.i64 ((BitVec.toNat (BitVec.ofInt (IntKind.bits IntKind.i64) a &&& BitVec.ofInt (IntKind.bits IntKind.i64) b) : Nat) : Int) = ((a.toNat &&& b.toNat : Nat) : Int) := by
    rw [ofInt_nat ha, ofInt_nat hb]
    have e3 : BitVec.toNat (BitVec.ofNat 64 a.toNat &&& BitVec.ofNat 64 b.toNat) = a.toNat &&& b.toNat := by
      rw [BitVec.toNat_and, BitVec.toNat_ofNat, BitVec.toNat_ofNat, Nat.mod_eq_of_lt (a := a.toNat) (by omega), Nat.mod_eq_of_lt (a := b.toNat) (by omega)]
    show IntKind.wrap IntKind.i64 ((BitVec.toNat (BitVec.ofNat 64 a.toNat &&& BitVec.ofNat 64 b.toNat) : Nat) : Int) = _
    rw [e3]
    have := Nat.and_le_left (n := a.toNat) (m := b.toNat)
    exact wrap_in (by omega) (by omega)
  simp only [eqGuard, binOp, Op.intBits, ne_eq, not_true_eq_false, if_false, e]
  simp
theorem bin_or {P : Program} {t : TypeId} {a b : Int} (ha : 0 ≤ a) (ha2 : a ≤ 9223372036854775807) (hb : 0 ≤ b) (hb2 : b ≤ 9223372036854775807) : BinTo P .or t (.int .i64 a) (.int .i64 b) (.int .i64 ((orN a b : Nat) : Int)) := fun x y w => by
  unfold orN
  have e : IntKind.wrap IntKind.i64 ((BitVec.toNat (BitVec.ofInt (IntKind.bits IntKind.i64) a ||| BitVec.ofInt (IntKind.bits IntKind.i64) b) : Nat) : Int) = ((a.toNat ||| b.toNat : Nat) : Int) := by
    rw [ofInt_nat ha, ofInt_nat hb]
    have e3 : BitVec.toNat (BitVec.ofNat 64 a.toNat ||| BitVec.ofNat 64 b.toNat) = a.toNat ||| b.toNat := by
      rw [BitVec.toNat_or, BitVec.toNat_ofNat, BitVec.toNat_ofNat, Nat.mod_eq_of_lt (a := a.toNat) (by omega), Nat.mod_eq_of_lt (a := b.toNat) (by omega)]
    show IntKind.wrap IntKind.i64 ((BitVec.toNat (BitVec.ofNat 64 a.toNat ||| BitVec.ofNat 64 b.toNat) : Nat) : Int) = _
    rw [e3]
    have := Nat.or_lt_two_pow (n := 63) (x := a.toNat) (y := b.toNat) (by omega) (by omega)
    exact wrap_in (by omega) (by omega)
  simp only [eqGuard, binOp, Op.intBits, ne_eq, not_true_eq_false, if_false, e]
  simp
theorem pureC_closed {P : Program} {F : FuncId → Bool} {J : World → Prop} (hF : ∀ g, F g = true → okFn P g = true) (hmix : P.follows .mixedOrders = true) {g : FuncId} {args : Array Value} {out : Value} {fuel : Nat} (hs : args.all simple = true) (ho : simple out = true) (ho2 : af out = true) (h : isAns (callC P F noOrc fuel g args (heapOf 0 []) ([] : List (Array Value × TypeId)).length) out [] = true) : PureC P J g args out := fun fm w args' _ _ ha => by
  have e : args' = args := by
    refine Array.ext ha.1.symm fun i h1 h2 => ?_
    have k1 : args[i]? = some args[i] := by simp [h2]
    have k2 : args'[i]? = some args'[i] := by simp [h1]
    exact (ha.2 i _ _ k1 k2).simple_eq (Array.all_eq_true'.1 hs _ (Array.getElem_mem h2))
  subst e
  have hc := calls_ans hF hmix (at' := []) (args' := args') h (w := w) (I := fun _ => True) (hI := fun _ _ _ _ => trivial) (noOrc_ok _ _) trivial rfl (fun i x a h => by simp at h) ⟨rfl, fun i v v' h1 h2 => by rw [h1] at h2; cases h2; exact vr_simple (Array.all_eq_true'.1 hs v (Array.mem_of_getElem? h1))⟩
  refine hc.mono fun e w' ⟨v', n', H', μ', he, hp, hv, hb, hun, hbel⟩ => ⟨out, by rw [he, af_eq ho2 hv], hbel, .simple ho⟩
section
variable {α : Type} {e : α → List Value} {m r j z : Nat} {rs : List (Nat × Nat)} {frs : List (Nat × Array Value)} {ow : List (Nat × Nat)} {xs : List α} {rsT : List Nat}
end
section
variable {α : Type} {e : α → List Value} {m z : Nat} {rs : List (Nat × Nat)} {frs : List (Nat × Array Value)} {ow : List (Nat × Nat)} {xs : List α}
theorem rowL_st0 (h : ∀ x, (e x).length = z) {k z' : Nat} (hk : k < xs.length) {x : α} {cs : Array Value} (hc : cs = (e x).toArray) (hz : z' = z) : 0 + k * z + z' ≤ (rowL e xs).size ∧ splice (rowL e xs) (0 + k * z) cs = rowL e (xs.set k x) := by
  subst hz; rw [Nat.zero_add]; exact rowL_st h hk hc
end
end Go.CE

namespace Go.Proofs.YtiaaikkmipmhnaaGreatDoor
open Go Go.CE Go.RowKit
abbrev pA (b o : Nat) : Value := .pointer (some ⟨b, o, none⟩)
def J0 : World → Prop := fun _ => True
theorem J0_st : ∀ w w' : World, (∀ b, b < w.heap.size → w'.heap[b]? = w.heap[b]?) → J0 w → J0 w' := fun _ _ _ _ => trivial
theorem mixed_ok : Tryz.prog.follows .mixedOrders = true := by decide +kernel
theorem okF : ∀ g, okFn Tryz.prog g = true → okFn Tryz.prog g = true := fun _ h => h
end Go.Proofs.YtiaaikkmipmhnaaGreatDoor

namespace Go.CE
open Go Go.RowKit

section
variable {P : Program} {F : FuncId → Bool} {T : Tm} {o : Oper} {H : Heap} {n : Nat}
end
section
variable {P : Program} {F : FuncId → Bool} {T : Tm} {o : Oper} {H : Heap} {n : Nat}
end
theorem rowL_pushC {α : Type} {e : α → List Value} {xs : List α} {x : α} {cs : Array Value} (h : cs = (e x).toArray) : rowL e xs ++ cs = rowL e (xs ++ [x]) := by
  rw [h]; exact rowL_push
theorem rowL_ld0 {α : Type} {e : α → List Value} {xs : List α} {z : Nat} [Inhabited α] (h : ∀ x, (e x).length = z) {k j : Nat} {v : Value} (hk : k < xs.length) (hv : (e (xs.getD k default))[j]? = some v) : (rowL e xs)[0 + k * z + j]? = some v := by
  rw [Nat.zero_add]; exact rowL_ld h hk hv
end Go.CE

namespace Go.Proofs.YtiaaikkmipmhnaaGreatDoor
open Go Go.CE Go.RowKit
def inB (x lo hi : Int) : Bool := decide (lo ≤ x) && decide (x ≤ hi)
theorem inB_iff {x lo hi : Int} : inB x lo hi = true ↔ lo ≤ x ∧ x ≤ hi := by simp [inB]
theorem drop_all2 {α : Type} [Inhabited α] {l : List α} {i : Int} {p : α → Bool} (h0 : 0 ≤ i) (h : i < l.length) : (l.drop i.toNat).all p = (p (l.getD i.toNat default) && (l.drop (i + 1).toNat).all p) := by
  obtain ⟨k, rfl⟩ : ∃ k : Nat, i = k := ⟨i.toNat, by omega⟩
  have hk : k < l.length := by omega
  have e1 : ((k : Int)).toNat = k := by omega
  have e2 : ((k : Int) + 1).toNat = k + 1 := by omega
  rw [e1, e2, List.drop_eq_getElem_cons hk, List.all_cons]
  simp [List.getD_eq_getElem?_getD, hk]
theorem drop_nil2 {α : Type} {l : List α} {i : Int} {p : α → Bool} (h : l.length ≤ i) : (l.drop i.toNat).all p = true := by
  rw [List.drop_eq_nil_of_le (by omega)]; rfl
theorem getD_mem {α : Type} [Inhabited α] {l : List α} {i : Int} (h0 : 0 ≤ i) (h : i < l.length) : l.getD i.toNat default ∈ l := by
  have hk : i.toNat < l.length := by omega
  rw [List.getD_eq_getElem?_getD, List.getElem?_eq_getElem hk]; exact List.getElem_mem hk
def setW (s n : Int) : Int := ((orN s ((pow2 n : Nat) : Int) : Nat) : Int)
def setB (s n : Int) : Bool := decide (((andN ((shrN s n : Nat) : Int) 1 : Nat) : Int) = 1)
theorem setB_eq {s n : Int} : setB s n = s.toNat.testBit n.toNat := by
  unfold setB andN shrN
  rw [Int.toNat_natCast, show (1 : Int).toNat = 1 from rfl, Nat.and_one_is_mod, Nat.shiftRight_eq_div_pow, Nat.testBit_eq_decide_div_mod_eq]
  exact decide_eq_decide.2 (by omega)

structure Hour where
  course : Int
  star : Int
deriving Inhabited
def encHour (h : Hour) : List Value := [.int .i64 h.course, .int .i64 h.star]
abbrev slH (l : List Hour) : Value := slT l.length (rowL encHour l)
structure CSea where
  cells : Int
  start : Int
  courses : List (List Int)
  stars : List Int
  boats : List Int
  roads : List Int
deriving Inhabited
def slI2 (l : List Int) : List Value := [slI l]
def encSea (s : CSea) : List Value := [.int .i64 s.cells, .int .i64 s.start, slT s.courses.length (rowL slI2 s.courses), slI s.stars, slI s.boats, slI s.roads]
def topI (n : Int) : Int := ((pow2 n : Nat) : Int) - 1
def setsB (l : List Int) (lo n : Int) : Bool := l.all fun x => inB x lo (topI n)
def courseB (n : Int) (c : List Int) : Bool := decide ((c.length : Int) = n) && setsB c 1 n
def cellsB (s : CSea) (l : List Int) : Bool := l.all fun x => inB x 0 (s.cells - 1)
def coursesB (s : CSea) : Bool := inB s.courses.length 1 4 && s.courses.all (courseB s.cells)
def starsB (s : CSea) : Bool := decide ((s.stars.length : Int) ≤ 6) && setsB s.stars 1 s.cells
def seaB (s : CSea) : Bool := inB s.cells 1 10 && (inB s.start 1 (topI s.cells) && (coursesB s && (starsB s && (decide ((s.boats.length : Int) ≤ 2) && (cellsB s s.boats && (decide ((s.roads.length : Int) = s.cells) && setsB s.roads 0 s.cells))))))
def hourB (courses stars : Int) (h : Hour) : Bool := inB h.course 0 (courses - 1) && inB h.star (-1) (stars - 1)
def logB (s : CSea) (l : List Hour) : Bool := l.all (hourB s.courses.length s.stars.length)
theorem pow2_in {n : Int} (h0 : 0 ≤ n) (h : n ≤ 10) : 1 ≤ ((pow2 n : Nat) : Int) ∧ ((pow2 n : Nat) : Int) ≤ 1024 := by
  unfold pow2
  have h1 : n.toNat ≤ 10 := by omega
  have h2 : 2 ^ n.toNat ≤ 2 ^ 10 := Nat.pow_le_pow_right (by decide) h1
  have h3 : 1 ≤ 2 ^ n.toNat := Nat.one_le_two_pow
  omega
theorem topI_in {n : Int} (h0 : 0 ≤ n) (h : n ≤ 10) : 0 ≤ topI n ∧ topI n ≤ 1023 := by
  have := pow2_in h0 h
  unfold topI; omega
noncomputable def rin_p0 (B : Lo) (x lo hi : Int) : List Prop := [(!ltq x lo) = true] ++ ([] : List Prop)
noncomputable def rin_q0 (x lo hi : Int) : ScriptT := [(3, hvT)]
set_option maxRecDepth 100000 in
theorem rin_s0 (B : Lo) (x lo hi : Int) : endT (srunT Tryz.prog (okFn Tryz.prog) J0 B 6 1 (entryC Tryz.prog 35 15 (([.int .i64 x, .int .i64 lo, .int .i64 hi]).map (pushT 0 4))) H00 1
    (rin_q0 x lo hi ++ [(7, hvT)]) 0 [] []) [] = some (Value.bool true,
    [(!ltq hi x) = true] ++ rin_p0 B x lo hi) := by kernel_rfl
set_option maxRecDepth 100000 in
theorem rin_s1 (B : Lo) (x lo hi : Int) : endT (srunT Tryz.prog (okFn Tryz.prog) J0 B 6 1 (entryC Tryz.prog 35 15 (([.int .i64 x, .int .i64 lo, .int .i64 hi]).map (pushT 0 4))) H00 1
    (rin_q0 x lo hi ++ [(7, hvF)]) 0 [] []) [] = some (Value.bool false,
    [(!ltq hi x) = false] ++ rin_p0 B x lo hi) := by kernel_rfl
set_option maxRecDepth 100000 in
theorem rin_s2 (B : Lo) (x lo hi : Int) : endT (srunT Tryz.prog (okFn Tryz.prog) J0 B 6 1 (entryC Tryz.prog 35 15 (([.int .i64 x, .int .i64 lo, .int .i64 hi]).map (pushT 0 4))) H00 1
    [(3, hvF)] 0 [] []) [] = some (Value.bool false,
    [(!ltq x lo) = false]) := by kernel_rfl
set_option maxHeartbeats 4000000 in
theorem rin_e (x lo hi : Int)  {B : Lo} (hJ : ∀ w, B.has w → J0 w) : EndsT Tryz.prog B (entryC Tryz.prog 35 15 (([.int .i64 x, .int .i64 lo, .int .i64 hi]).map (pushT 0 4))) (.bool (inB x lo hi)) := by
  by_cases q0 : (lo : Int) ≤ (x)
  ·
    have hp0 : AllP (rin_p0 B x lo hi) := by
      exact ⟨(nltq_t q0), trivial⟩
    by_cases q1 : (x : Int) ≤ (hi)
    ·
      exact (GoE.endsT okF hJ mixed_ok GoE.start (rin_s0 B x lo hi)
        ⟨(nltq_t q1), hp0⟩).cast (by first | rfl | (simp [inB, *]; done) | (simp_all [inB]; done) | (simp_all [inB]; omega))
    ·
      exact (GoE.endsT okF hJ mixed_ok GoE.start (rin_s1 B x lo hi)
        ⟨(nltq_f (Int.not_le.1 q1)), hp0⟩).cast (by first | rfl | (simp [inB, *]; done) | (simp_all [inB]; done) | (simp_all [inB]; omega))
  ·
    exact (GoE.endsT okF hJ mixed_ok GoE.start (rin_s2 B x lo hi)
      ⟨(nltq_f (Int.not_le.1 q0)), trivial⟩).cast (by first | rfl | (simp [inB, *]; done) | (simp_all [inB]; done) | (simp_all [inB]; omega))
theorem rin (x lo hi : Int)  : PureC Tryz.prog J0 35 #[.int .i64 x, .int .i64 lo, .int .i64 hi] (.bool (inB x lo hi)) :=
  pureC_of (ts := [.int .i64 x, .int .i64 lo, .int .i64 hi]) J0_st (c0 := entryC Tryz.prog 35 15 (([.int .i64 x, .int .i64 lo, .int .i64 hi]).map (pushT 0 4))) (by kernel_rfl) (by kernel_rfl) fun B hJ => rin_e x lo hi  hJ
noncomputable def pIn_p0 (B : Lo) (n lo hi : Int) : List Prop := [(!ltq n lo) = true] ++ ([] : List Prop)
noncomputable def pIn_q0 (n lo hi : Int) : ScriptT := [(3, hvT)]
set_option maxRecDepth 100000 in
theorem pIn_s0 (B : Lo) (n lo hi : Int) : endT (srunT Tryz.prog (okFn Tryz.prog) J0 B 6 1 (entryC Tryz.prog 53 15 (([.int .i64 n, .int .i64 lo, .int .i64 hi]).map (pushT 0 4))) H00 1
    (pIn_q0 n lo hi ++ [(7, hvT)]) 0 [] []) [] = some (Value.bool true,
    [(!ltq hi n) = true] ++ pIn_p0 B n lo hi) := by kernel_rfl
set_option maxRecDepth 100000 in
theorem pIn_s1 (B : Lo) (n lo hi : Int) : endT (srunT Tryz.prog (okFn Tryz.prog) J0 B 6 1 (entryC Tryz.prog 53 15 (([.int .i64 n, .int .i64 lo, .int .i64 hi]).map (pushT 0 4))) H00 1
    (pIn_q0 n lo hi ++ [(7, hvF)]) 0 [] []) [] = some (Value.bool false,
    [(!ltq hi n) = false] ++ pIn_p0 B n lo hi) := by kernel_rfl
set_option maxRecDepth 100000 in
theorem pIn_s2 (B : Lo) (n lo hi : Int) : endT (srunT Tryz.prog (okFn Tryz.prog) J0 B 6 1 (entryC Tryz.prog 53 15 (([.int .i64 n, .int .i64 lo, .int .i64 hi]).map (pushT 0 4))) H00 1
    [(3, hvF)] 0 [] []) [] = some (Value.bool false,
    [(!ltq n lo) = false]) := by kernel_rfl
set_option maxHeartbeats 4000000 in
theorem pIn_e (n lo hi : Int)  {B : Lo} (hJ : ∀ w, B.has w → J0 w) : EndsT Tryz.prog B (entryC Tryz.prog 53 15 (([.int .i64 n, .int .i64 lo, .int .i64 hi]).map (pushT 0 4))) (.bool (inB n lo hi)) := by
  by_cases q0 : (lo : Int) ≤ (n)
  ·
    have hp0 : AllP (pIn_p0 B n lo hi) := by
      exact ⟨(nltq_t q0), trivial⟩
    by_cases q1 : (n : Int) ≤ (hi)
    ·
      exact (GoE.endsT okF hJ mixed_ok GoE.start (pIn_s0 B n lo hi)
        ⟨(nltq_t q1), hp0⟩).cast (by first | rfl | (simp [inB, *]; done) | (simp_all [inB]; done) | (simp_all [inB]; omega))
    ·
      exact (GoE.endsT okF hJ mixed_ok GoE.start (pIn_s1 B n lo hi)
        ⟨(nltq_f (Int.not_le.1 q1)), hp0⟩).cast (by first | rfl | (simp [inB, *]; done) | (simp_all [inB]; done) | (simp_all [inB]; omega))
  ·
    exact (GoE.endsT okF hJ mixed_ok GoE.start (pIn_s2 B n lo hi)
      ⟨(nltq_f (Int.not_le.1 q0)), trivial⟩).cast (by first | rfl | (simp [inB, *]; done) | (simp_all [inB]; done) | (simp_all [inB]; omega))
theorem pIn (n lo hi : Int)  : PureC Tryz.prog J0 53 #[.int .i64 n, .int .i64 lo, .int .i64 hi] (.bool (inB n lo hi)) :=
  pureC_of (ts := [.int .i64 n, .int .i64 lo, .int .i64 hi]) J0_st (c0 := entryC Tryz.prog 53 15 (([.int .i64 n, .int .i64 lo, .int .i64 hi]).map (pushT 0 4))) (by kernel_rfl) (by kernel_rfl) fun B hJ => pIn_e n lo hi  hJ
def pAllIn_v0 (xs : List Int) (lo hi : Int) (i : Int) : List Value := [Value.int IntKind.i64 lo, Value.int IntKind.i64 hi, topV 1 (slT xs.length (rowL encI xs)), Value.int IntKind.i64 (↑xs.length : Int), .int .i64 i]
def pAllIn_o0 (xs : List Int) (lo hi : Int) (i : Int) : List Obj := []
noncomputable def pAllIn_t0 : List Item := ([.code [1, 0, 1, 0, 0], .inLoop [1, 0, 1, 0, 0], .inBlock 0, .code [1, 1]]).map (it (bodyOf Tryz.prog 57))
def pAllIn_h0 (B : Lo) (c0 : CF) (xs : List Int) (lo hi : Int) (i : Int) : Prop := ∃ dJ : Nat → Value, (∀ t, Loose (dJ t)) ∧ GoE Tryz.prog B c0 H00 1 (headC 57 21 (([1, 2, 9, 10, 11] : List Nat).zip (pAllIn_v0 xs lo hi i)) dJ pAllIn_t0) (headH (pAllIn_o0 xs lo hi i)) (2 + (pAllIn_o0 xs lo hi i).length) []
noncomputable def pAllIn_p0 (B : Lo) (xs : List Int) (lo hi : Int) (i : Int) (dJ0 : Nat → Value) : List Prop := [i = (↑i.toNat : Int) ∧ Int.toNat i < List.length xs ∧ Array.extract (rowL encI xs) (Int.toNat i * TypeInfo.size Tryz.t3) (Int.toNat i * TypeInfo.size Tryz.t3 + TypeInfo.size Tryz.t3) = #[Value.int IntKind.i64 (List.getD xs i.toNat default)], ltq i (↑xs.length : Int) = true] ++ ([] : List Prop)
noncomputable def pAllIn_q0 (xs : List Int) (lo hi : Int) (i : Int) (dJ0 : Nat → Value) : ScriptT := [(0, hvT), (1, HintT.tidx i.toNat #[Value.int IntKind.i64 (List.getD xs i.toNat default)])]
set_option maxRecDepth 100000 in
theorem pAllIn_s0 (B : Lo) (xs : List Int) (lo hi : Int) (i : Int) (dJ0 : Nat → Value) : landM (srunT Tryz.prog (okFn Tryz.prog) J0 B 16 1 (headC 57 21 (([1, 2, 9, 10, 11] : List Nat).zip (pAllIn_v0 xs lo hi i)) dJ0 pAllIn_t0) (headH (pAllIn_o0 xs lo hi i)) (2 + (pAllIn_o0 xs lo hi i).length)
    (pAllIn_q0 xs lo hi i dJ0 ++ [(7, HintT.pure (Value.bool true) []), (9, hvI (i + 1))]) 0 [] []) [1, 2, 9, 10, 11] [] [] = some ⟨57, 21, pAllIn_t0, [], .run, none, pAllIn_v0 xs lo hi (i + 1), pAllIn_o0 xs lo hi (i + 1),
    [wq (i + 1) = i + 1, AllP [] ∧ PureC Tryz.prog J0 53 #[Value.int IntKind.i64 (List.getD xs i.toNat default), Value.int IntKind.i64 lo, Value.int IntKind.i64 hi] (Value.bool true)] ++ pAllIn_p0 B xs lo hi i dJ0⟩ := by kernel_rfl
set_option maxRecDepth 100000 in
theorem pAllIn_s1 (B : Lo) (xs : List Int) (lo hi : Int) (i : Int) (dJ0 : Nat → Value) : endT (srunT Tryz.prog (okFn Tryz.prog) J0 B 16 1 (headC 57 21 (([1, 2, 9, 10, 11] : List Nat).zip (pAllIn_v0 xs lo hi i)) dJ0 pAllIn_t0) (headH (pAllIn_o0 xs lo hi i)) (2 + (pAllIn_o0 xs lo hi i).length)
    (pAllIn_q0 xs lo hi i dJ0 ++ [(7, HintT.pure (Value.bool false) [])]) 0 [] []) [] = some (Value.bool false,
    [AllP [] ∧ PureC Tryz.prog J0 53 #[Value.int IntKind.i64 (List.getD xs i.toNat default), Value.int IntKind.i64 lo, Value.int IntKind.i64 hi] (Value.bool false)] ++ pAllIn_p0 B xs lo hi i dJ0) := by kernel_rfl
set_option maxRecDepth 100000 in
theorem pAllIn_s2 (B : Lo) (xs : List Int) (lo hi : Int) (i : Int) (dJ0 : Nat → Value) : endT (srunT Tryz.prog (okFn Tryz.prog) J0 B 9 1 (headC 57 21 (([1, 2, 9, 10, 11] : List Nat).zip (pAllIn_v0 xs lo hi i)) dJ0 pAllIn_t0) (headH (pAllIn_o0 xs lo hi i)) (2 + (pAllIn_o0 xs lo hi i).length)
    [(0, hvF)] 0 [] []) [] = some (Value.bool true,
    [ltq i (↑xs.length : Int) = false]) := by kernel_rfl
set_option maxRecDepth 100000 in
theorem pAllIn_s3 (B : Lo) (xs : List Int) (lo hi : Int) : landM (srunT Tryz.prog (okFn Tryz.prog) J0 B 7 1 (entryC Tryz.prog 57 21 (([slI xs, .int .i64 lo, .int .i64 hi]).map (pushT 0 4))) H00 1
    [] 0 [] []) [1, 2, 9, 10, 11] [] [] = some ⟨57, 21, pAllIn_t0, [], .run, none, pAllIn_v0 xs lo hi (0), pAllIn_o0 xs lo hi (0),
    []⟩ := by kernel_rfl
set_option maxHeartbeats 4000000 in
theorem pAllIn_ls (xs : List Int) (lo hi : Int)  (hfacts : xs.length ≤ 9223372036854775807) {B : Lo} (hJ : ∀ w, B.has w → J0 w) {c0 : CF} : ∀ m : Nat, (∀ (i : Int), xs.length - i.toNat = m → ∀ (h0 : 0 ≤ i), pAllIn_h0 B c0 xs lo hi i → EndsT Tryz.prog B c0 (.bool ((xs.drop i.toNat).all (fun x => inB x lo hi)))) := by
  intro m0
  induction m0 using Nat.strongRecOn with
  | _ m0 ih0 =>
    intro i hm0 h0 ⟨dJ0, hdJ0, hg0⟩
    by_cases q0 : (i : Int) < ((↑xs.length : Int))
    ·
      have hp0 : AllP (pAllIn_p0 B xs lo hi i dJ0) := by
        exact ⟨⟨by omega, by omega, (rowL_extract (z := 1) (fun _ => rfl) (by first | omega | (rw [List.length_set]; omega) | (rw [List.length_replicate]; omega)))⟩, ⟨(ltq_t q0), trivial⟩⟩
      cases q1 : inB (List.getD xs i.toNat default) lo hi with
      | true =>
        exact ((ih0 _ (by omega)) (i + 1) rfl (by first | with_reducible assumption | omega | (simp_all; done))
          (hg0.landM okF hJ mixed_ok (pAllIn_s0 B xs lo hi i dJ0)
          ⟨(wq_in (by omega) (by omega)), ⟨⟨trivial, (by have t_ := pIn (List.getD xs i.toNat default) (lo) (hi); rw [q1] at t_; exact t_)⟩, hp0⟩⟩ (by kernel_rfl) (by kernel_rfl))).cast (by first | (rw [drop_all (i := i)]; (· simp_all); (· omega); (· omega)) | (rw [drop_end (i := i)]; (· simp_all); (· omega)))
      | false =>
        exact (GoE.endsT okF hJ mixed_ok hg0 (pAllIn_s1 B xs lo hi i dJ0)
          ⟨⟨trivial, (by have t_ := pIn (List.getD xs i.toNat default) (lo) (hi); rw [q1] at t_; exact t_)⟩, hp0⟩).cast (by first | (rw [drop_all (i := i)]; (· simp_all); (· omega); (· omega)) | (rw [drop_end (i := i)]; (· simp_all); (· omega)))
    ·
      exact (GoE.endsT okF hJ mixed_ok hg0 (pAllIn_s2 B xs lo hi i dJ0)
        ⟨(ltq_f (Int.not_lt.1 q0)), trivial⟩).cast (by first | (rw [drop_all (i := i)]; (· simp_all); (· omega); (· omega)) | (rw [drop_end (i := i)]; (· simp_all); (· omega)))
set_option maxHeartbeats 4000000 in
theorem pAllIn_e (xs : List Int) (lo hi : Int)  (hfacts : xs.length ≤ 9223372036854775807) {B : Lo} (hJ : ∀ w, B.has w → J0 w) : EndsT Tryz.prog B (entryC Tryz.prog 57 21 (([slI xs, .int .i64 lo, .int .i64 hi]).map (pushT 0 4))) (.bool (xs.all (fun x => inB x lo hi))) := by
  exact ((pAllIn_ls xs lo hi hfacts hJ _) (0) rfl (by first | with_reducible assumption | omega | (simp_all; done))
    (GoE.start.landM okF hJ mixed_ok (pAllIn_s3 B xs lo hi)
    trivial (by kernel_rfl) (by kernel_rfl))).cast (by first | rfl | (simp [*]; done) | (simp_all []; done) | (simp_all []; omega))
theorem pAllIn (xs : List Int) (lo hi : Int)  : PureC Tryz.prog J0 57 #[slI xs, .int .i64 lo, .int .i64 hi] (.bool (xs.all (fun x => inB x lo hi))) :=
  pureC_ofF (ts := [slI xs, .int .i64 lo, .int .i64 hi]) (xs.length ≤ 9223372036854775807) (fun _ _ ht => ht.ln (i := 0) rfl) J0_st (c0 := entryC Tryz.prog 57 21 (([slI xs, .int .i64 lo, .int .i64 hi]).map (pushT 0 4))) (by kernel_rfl) (by kernel_rfl) fun hfacts B hJ => pAllIn_e xs lo hi  hfacts hJ
set_option maxRecDepth 100000 in
theorem pallCells_s0 (B : Lo) (s : CSea) : endT (srunT Tryz.prog (okFn Tryz.prog) J0 B 6 1 (entryC Tryz.prog 54 7 (([.agg (encSea s).toArray]).map (pushT 0 4))) H00 1
    [(4, HintT.bin (Value.int IntKind.i64 (↑(pow2 s.cells) : Int))), (5, hvI ((↑(pow2 s.cells) : Int) - 1))] 0 [] []) [] = some (Value.int IntKind.i64 ((↑(pow2 s.cells) : Int) - 1),
    [wq ((↑(pow2 s.cells) : Int) - 1) = (↑(pow2 s.cells) : Int) - 1, BinTo Tryz.prog BinOp.shl 3 (Value.int IntKind.i64 1) (tget { len := 16000, tr := Tri.set 14 Tri.lf 4 (Value.int IntKind.i64 s.cells) } 4) (Value.int IntKind.i64 (↑(pow2 s.cells) : Int))]) := by kernel_rfl
set_option maxHeartbeats 4000000 in
theorem pallCells_e (s : CSea) (h0 : 0 ≤ s.cells) (h1 : s.cells ≤ 10) {B : Lo} (hJ : ∀ w, B.has w → J0 w) : EndsT Tryz.prog B (entryC Tryz.prog 54 7 (([.agg (encSea s).toArray]).map (pushT 0 4))) (.int .i64 (topI s.cells)) := by
  have e1 := pow2_in h0 h1
  exact (GoE.endsT okF hJ mixed_ok GoE.start (pallCells_s0 B s)
    ⟨(wq_in (by omega) (by omega)), ⟨(bin_shl1 (by omega) (by omega)), trivial⟩⟩).cast (by first | rfl | (simp [topI, *]; done) | (simp_all [topI]; done) | (simp_all [topI]; omega))
theorem pallCells (s : CSea) (h0 : 0 ≤ s.cells) (h1 : s.cells ≤ 10) : PureC Tryz.prog J0 54 #[.agg (encSea s).toArray] (.int .i64 (topI s.cells)) :=
  pureC_of (ts := [.agg (encSea s).toArray]) J0_st (c0 := entryC Tryz.prog 54 7 (([.agg (encSea s).toArray]).map (pushT 0 4))) (by kernel_rfl) (by kernel_rfl) fun B hJ => pallCells_e s h0 h1 hJ
noncomputable def pareCells_p0 (B : Lo) (s : CSea) (l : List Int) : List Prop := [wq (s.cells - 1) = s.cells - 1] ++ ([] : List Prop)
noncomputable def pareCells_q0 (s : CSea) (l : List Int) : ScriptT := [(5, hvI (s.cells - 1))]
set_option maxRecDepth 100000 in
theorem pareCells_s0 (B : Lo) (s : CSea) (l : List Int) : endT (srunT Tryz.prog (okFn Tryz.prog) J0 B 6 1 (entryC Tryz.prog 43 10 (([.agg (encSea s).toArray, slI l]).map (pushT 0 4))) H00 1
    (pareCells_q0 s l ++ [(6, HintT.pure (Value.bool true) [])]) 0 [] []) [] = some (Value.bool true,
    [AllP [] ∧ PureC Tryz.prog J0 57 #[slT l.length (rowL encI l), Value.int IntKind.i64 0, Value.int IntKind.i64 (s.cells - 1)] (Value.bool true)] ++ pareCells_p0 B s l) := by kernel_rfl
set_option maxRecDepth 100000 in
theorem pareCells_s1 (B : Lo) (s : CSea) (l : List Int) : endT (srunT Tryz.prog (okFn Tryz.prog) J0 B 6 1 (entryC Tryz.prog 43 10 (([.agg (encSea s).toArray, slI l]).map (pushT 0 4))) H00 1
    (pareCells_q0 s l ++ [(6, HintT.pure (Value.bool false) [])]) 0 [] []) [] = some (Value.bool false,
    [AllP [] ∧ PureC Tryz.prog J0 57 #[slT l.length (rowL encI l), Value.int IntKind.i64 0, Value.int IntKind.i64 (s.cells - 1)] (Value.bool false)] ++ pareCells_p0 B s l) := by kernel_rfl
set_option maxHeartbeats 4000000 in
theorem pareCells_e (s : CSea) (l : List Int) (h0 : 0 ≤ s.cells) (h1 : s.cells ≤ 10) {B : Lo} (hJ : ∀ w, B.has w → J0 w) : EndsT Tryz.prog B (entryC Tryz.prog 43 10 (([.agg (encSea s).toArray, slI l]).map (pushT 0 4))) (.bool (cellsB s l)) := by
  have hp0 : AllP (pareCells_p0 B s l) := by
    exact ⟨(wq_in (by omega) (by omega)), trivial⟩
  cases q0 : List.all l fun x => inB x 0 (s.cells - 1) with
  | true =>
    exact (GoE.endsT okF hJ mixed_ok GoE.start (pareCells_s0 B s l)
      ⟨⟨trivial, (by have t_ := pAllIn (l) (0) (s.cells - 1); rw [q0] at t_; exact t_)⟩, hp0⟩).cast (by first | rfl | (simp [cellsB, *]; done) | (simp_all [cellsB]; done) | (simp_all [cellsB]; omega))
  | false =>
    exact (GoE.endsT okF hJ mixed_ok GoE.start (pareCells_s1 B s l)
      ⟨⟨trivial, (by have t_ := pAllIn (l) (0) (s.cells - 1); rw [q0] at t_; exact t_)⟩, hp0⟩).cast (by first | rfl | (simp [cellsB, *]; done) | (simp_all [cellsB]; done) | (simp_all [cellsB]; omega))
theorem pareCells (s : CSea) (l : List Int) (h0 : 0 ≤ s.cells) (h1 : s.cells ≤ 10) : PureC Tryz.prog J0 43 #[.agg (encSea s).toArray, slI l] (.bool (cellsB s l)) :=
  pureC_of (ts := [.agg (encSea s).toArray, slI l]) J0_st (c0 := entryC Tryz.prog 43 10 (([.agg (encSea s).toArray, slI l]).map (pushT 0 4))) (by kernel_rfl) (by kernel_rfl) fun B hJ => pareCells_e s l h0 h1 hJ
def pareCourses_v0 (s : CSea) (i : Int) : List Value := [pA 2 0, topV 1 (slT s.courses.length (rowL slI2 s.courses)), Value.int IntKind.i64 (↑s.courses.length : Int), .int .i64 i]
def pareCourses_o0 (s : CSea) (i : Int) : List Obj := [Obj.cells #[Value.int IntKind.i64 s.cells, Value.int IntKind.i64 s.start, topV 1 (slT s.courses.length (rowL slI2 s.courses)), topV 1 (slT s.stars.length (rowL encI s.stars)), topV 1 (slT s.boats.length (rowL encI s.boats)), topV 1 (slT s.roads.length (rowL encI s.roads))] 25]
noncomputable def pareCourses_t0 : List Item := ([.code [1, 1, 0, 1, 0, 0], .inLoop [1, 1, 0, 1, 0, 0], .inBlock 0, .code [1, 1, 1]]).map (it (bodyOf Tryz.prog 55))
def pareCourses_h0 (B : Lo) (c0 : CF) (s : CSea) (i : Int) : Prop := ∃ dJ : Nat → Value, (∀ t, Loose (dJ t)) ∧ GoE Tryz.prog B c0 H00 1 (headC 55 30 (([1, 11, 12, 13] : List Nat).zip (pareCourses_v0 s i)) dJ pareCourses_t0) (headH (pareCourses_o0 s i)) (2 + (pareCourses_o0 s i).length) []
noncomputable def pareCourses_p0 (B : Lo) (s : CSea) (i : Int) (dJ0 : Nat → Value) : List Prop := [i = (↑i.toNat : Int) ∧ Int.toNat i < List.length s.courses ∧ Array.extract (rowL slI2 s.courses) (Int.toNat i * TypeInfo.size Tryz.t23) (Int.toNat i * TypeInfo.size Tryz.t23 + TypeInfo.size Tryz.t23) = #[slT (List.length (List.getD s.courses i.toNat default)) (rowL encI (List.getD s.courses i.toNat default))], ltq i (↑s.courses.length : Int) = true] ++ ([] : List Prop)
noncomputable def pareCourses_q0 (s : CSea) (i : Int) (dJ0 : Nat → Value) : ScriptT := [(0, hvT), (1, HintT.tidx i.toNat #[slT (List.length (List.getD s.courses i.toNat default)) (rowL encI (List.getD s.courses i.toNat default))])]
set_option maxRecDepth 100000 in
theorem pareCourses_s0 (B : Lo) (s : CSea) (i : Int) (dJ0 : Nat → Value) : endT (srunT Tryz.prog (okFn Tryz.prog) J0 B 16 1 (headC 55 30 (([1, 11, 12, 13] : List Nat).zip (pareCourses_v0 s i)) dJ0 pareCourses_t0) (headH (pareCourses_o0 s i)) (2 + (pareCourses_o0 s i).length)
    (pareCourses_q0 s i dJ0 ++ [(8, hvT)]) 0 [] []) [] = some (Value.bool false,
    [(!eqq (↑(List.length (List.getD s.courses i.toNat default)) : Int) s.cells) = true] ++ pareCourses_p0 B s i dJ0) := by kernel_rfl
noncomputable def pareCourses_p1 (B : Lo) (s : CSea) (i : Int) (dJ0 : Nat → Value) : List Prop := [AllP [] ∧ PureC Tryz.prog J0 54 #[Value.agg #[Value.int IntKind.i64 s.cells, Value.int IntKind.i64 s.start, slT s.courses.length (rowL slI2 s.courses), slT s.stars.length (rowL encI s.stars), slT s.boats.length (rowL encI s.boats), slT s.roads.length (rowL encI s.roads)]] (Value.int IntKind.i64 (topI s.cells)), (!eqq (↑(List.length (List.getD s.courses i.toNat default)) : Int) s.cells) = false] ++ pareCourses_p0 B s i dJ0
noncomputable def pareCourses_q1 (s : CSea) (i : Int) (dJ0 : Nat → Value) : ScriptT := pareCourses_q0 s i dJ0 ++ [(8, hvF), (12, HintT.pure (Value.int IntKind.i64 (topI s.cells)) [])]
set_option maxRecDepth 100000 in
theorem pareCourses_s1 (B : Lo) (s : CSea) (i : Int) (dJ0 : Nat → Value) : landM (srunT Tryz.prog (okFn Tryz.prog) J0 B 16 1 (headC 55 30 (([1, 11, 12, 13] : List Nat).zip (pareCourses_v0 s i)) dJ0 pareCourses_t0) (headH (pareCourses_o0 s i)) (2 + (pareCourses_o0 s i).length)
    (pareCourses_q1 s i dJ0 ++ [(13, HintT.pure (Value.bool true) []), (16, hvI (i + 1))]) 0 [] []) [1, 11, 12, 13] [(2, KS.auto)] [] = some ⟨55, 30, pareCourses_t0, [], .run, none, pareCourses_v0 s (i + 1), pareCourses_o0 s (i + 1),
    [wq (i + 1) = i + 1, AllP [] ∧ PureC Tryz.prog J0 57 #[slT (List.length (List.getD s.courses i.toNat default)) (rowL encI (List.getD s.courses i.toNat default)), Value.int IntKind.i64 1, Value.int IntKind.i64 (topI s.cells)] (Value.bool true)] ++ pareCourses_p1 B s i dJ0⟩ := by kernel_rfl
set_option maxRecDepth 100000 in
theorem pareCourses_s2 (B : Lo) (s : CSea) (i : Int) (dJ0 : Nat → Value) : endT (srunT Tryz.prog (okFn Tryz.prog) J0 B 16 1 (headC 55 30 (([1, 11, 12, 13] : List Nat).zip (pareCourses_v0 s i)) dJ0 pareCourses_t0) (headH (pareCourses_o0 s i)) (2 + (pareCourses_o0 s i).length)
    (pareCourses_q1 s i dJ0 ++ [(13, HintT.pure (Value.bool false) [])]) 0 [] []) [] = some (Value.bool false,
    [AllP [] ∧ PureC Tryz.prog J0 57 #[slT (List.length (List.getD s.courses i.toNat default)) (rowL encI (List.getD s.courses i.toNat default)), Value.int IntKind.i64 1, Value.int IntKind.i64 (topI s.cells)] (Value.bool false)] ++ pareCourses_p1 B s i dJ0) := by kernel_rfl
set_option maxRecDepth 100000 in
theorem pareCourses_s3 (B : Lo) (s : CSea) (i : Int) (dJ0 : Nat → Value) : endT (srunT Tryz.prog (okFn Tryz.prog) J0 B 9 1 (headC 55 30 (([1, 11, 12, 13] : List Nat).zip (pareCourses_v0 s i)) dJ0 pareCourses_t0) (headH (pareCourses_o0 s i)) (2 + (pareCourses_o0 s i).length)
    [(0, hvF)] 0 [] []) [] = some (Value.bool true,
    [ltq i (↑s.courses.length : Int) = false]) := by kernel_rfl
set_option maxRecDepth 100000 in
theorem pareCourses_s4 (B : Lo) (s : CSea) : landM (srunT Tryz.prog (okFn Tryz.prog) J0 B 12 1 (entryC Tryz.prog 55 30 (([.agg (encSea s).toArray]).map (pushT 0 4))) H00 1
    [(5, HintT.pure (Value.bool true) [])] 0 [] []) [1, 11, 12, 13] [(1, KS.auto)] [] = some ⟨55, 30, pareCourses_t0, [], .run, none, pareCourses_v0 s (0), pareCourses_o0 s (0),
    [AllP [] ∧ PureC Tryz.prog J0 53 #[Value.int IntKind.i64 (↑s.courses.length : Int), Value.int IntKind.i64 1, Value.int IntKind.i64 4] (Value.bool true)]⟩ := by kernel_rfl
set_option maxRecDepth 100000 in
theorem pareCourses_s5 (B : Lo) (s : CSea) : endT (srunT Tryz.prog (okFn Tryz.prog) J0 B 10 1 (entryC Tryz.prog 55 30 (([.agg (encSea s).toArray]).map (pushT 0 4))) H00 1
    [(5, HintT.pure (Value.bool false) [])] 0 [] []) [] = some (Value.bool false,
    [AllP [] ∧ PureC Tryz.prog J0 53 #[Value.int IntKind.i64 (↑s.courses.length : Int), Value.int IntKind.i64 1, Value.int IntKind.i64 4] (Value.bool false)]) := by kernel_rfl
set_option maxHeartbeats 4000000 in
theorem pareCourses_ls (s : CSea) (h0 : 0 ≤ s.cells) (h1 : s.cells ≤ 10) (hfacts : s.courses.length ≤ 9223372036854775807) {B : Lo} (hJ : ∀ w, B.has w → J0 w) {c0 : CF} : ∀ m : Nat, (∀ (i : Int), s.courses.length - i.toNat = m → ∀ (i0 : 0 ≤ i), pareCourses_h0 B c0 s i → EndsT Tryz.prog B c0 (.bool ((s.courses.drop i.toNat).all (courseB s.cells)))) := by
  intro m0
  induction m0 using Nat.strongRecOn with
  | _ m0 ih0 =>
    intro i hm0 i0 ⟨dJ0, hdJ0, hg0⟩
    by_cases q0 : (i : Int) < ((↑s.courses.length : Int))
    ·
      have hp0 : AllP (pareCourses_p0 B s i dJ0) := by
        try have s2 := drop_all2 (p := courseB s.cells) i0 q0
        try have s2 := drop_nil2 (l := s.courses) (p := courseB s.cells) (i := i) (by omega)
        exact ⟨⟨by omega, by omega, (rowL_extract (z := 1) (fun _ => rfl) (by first | omega | (rw [List.length_set]; omega) | (rw [List.length_replicate]; omega)))⟩, ⟨(ltq_t q0), trivial⟩⟩
      by_cases q1 : ((↑(List.length (List.getD s.courses i.toNat default)) : Int) : Int) ≠ s.cells
      ·
        try have s2 := drop_all2 (p := courseB s.cells) i0 q0
        try have s2 := drop_nil2 (l := s.courses) (p := courseB s.cells) (i := i) (by omega)
        exact (GoE.endsT okF hJ mixed_ok hg0 (pareCourses_s0 B s i dJ0)
          ⟨(neqq_t q1), hp0⟩).cast (by first | rfl | (rw [s2]; unfold courseB setsB; rw [q2]; simp; done) | (rw [s2]; simp [courseB, setsB, *]; done) | (rw [s2]; simp_all [courseB, setsB]; done) | (rw [s2]; done))
      ·
        have hp1 : AllP (pareCourses_p1 B s i dJ0) := by
          try have s2 := drop_all2 (p := courseB s.cells) i0 q0
          try have s2 := drop_nil2 (l := s.courses) (p := courseB s.cells) (i := i) (by omega)
          exact ⟨⟨trivial, pallCells (s) (by first | with_reducible assumption | omega | simp_all) (by first | with_reducible assumption | omega | simp_all)⟩, ⟨(neqq_f (Decidable.of_not_not q1)), hp0⟩⟩
        cases q2 : List.all (List.getD s.courses i.toNat default) fun x => inB x 1 (topI s.cells) with
        | true =>
          try have s2 := drop_all2 (p := courseB s.cells) i0 q0
          try have s2 := drop_nil2 (l := s.courses) (p := courseB s.cells) (i := i) (by omega)
          exact ((ih0 _ (by omega)) (i + 1) rfl (by first | with_reducible assumption | omega | (simp_all; done))
            (hg0.landM okF hJ mixed_ok (pareCourses_s1 B s i dJ0)
            ⟨(wq_in (by omega) (by omega)), ⟨⟨trivial, (by have t_ := pAllIn (List.getD s.courses i.toNat default) (1) (topI s.cells); rw [q2] at t_; exact t_)⟩, hp1⟩⟩ (by kernel_rfl) (by kernel_rfl))).cast (by first | rfl | (rw [s2]; unfold courseB setsB; rw [q2]; simp; done) | (rw [s2]; simp [courseB, setsB, *]; done) | (rw [s2]; simp_all [courseB, setsB]; done) | (rw [s2]; done))
        | false =>
          try have s2 := drop_all2 (p := courseB s.cells) i0 q0
          try have s2 := drop_nil2 (l := s.courses) (p := courseB s.cells) (i := i) (by omega)
          exact (GoE.endsT okF hJ mixed_ok hg0 (pareCourses_s2 B s i dJ0)
            ⟨⟨trivial, (by have t_ := pAllIn (List.getD s.courses i.toNat default) (1) (topI s.cells); rw [q2] at t_; exact t_)⟩, hp1⟩).cast (by first | rfl | (rw [s2]; unfold courseB setsB; rw [q2]; simp; done) | (rw [s2]; simp [courseB, setsB, *]; done) | (rw [s2]; simp_all [courseB, setsB]; done) | (rw [s2]; done))
    ·
      try have s2 := drop_all2 (p := courseB s.cells) i0 q0
      try have s2 := drop_nil2 (l := s.courses) (p := courseB s.cells) (i := i) (by omega)
      exact (GoE.endsT okF hJ mixed_ok hg0 (pareCourses_s3 B s i dJ0)
        ⟨(ltq_f (Int.not_lt.1 q0)), trivial⟩).cast (by first | rfl | (rw [s2]; unfold courseB setsB; rw [q2]; simp; done) | (rw [s2]; simp [courseB, setsB, *]; done) | (rw [s2]; simp_all [courseB, setsB]; done) | (rw [s2]; done))
set_option maxHeartbeats 4000000 in
theorem pareCourses_e (s : CSea) (h0 : 0 ≤ s.cells) (h1 : s.cells ≤ 10) (hfacts : s.courses.length ≤ 9223372036854775807) {B : Lo} (hJ : ∀ w, B.has w → J0 w) : EndsT Tryz.prog B (entryC Tryz.prog 55 30 (([.agg (encSea s).toArray]).map (pushT 0 4))) (.bool (coursesB s)) := by
  cases q0 : inB (↑s.courses.length : Int) 1 4 with
  | true =>
    exact ((pareCourses_ls s h0 h1 hfacts hJ _) (0) rfl (by first | with_reducible assumption | omega | (simp_all; done))
      (GoE.start.landM okF hJ mixed_ok (pareCourses_s4 B s)
      ⟨⟨trivial, (by have t_ := pIn ((↑s.courses.length : Int)) (1) (4); rw [q0] at t_; exact t_)⟩, trivial⟩ (by kernel_rfl) (by kernel_rfl))).cast (by first | rfl | (simp only [coursesB]; simp [*]; done) | (simp_all [coursesB]; done))
  | false =>
    exact (GoE.endsT okF hJ mixed_ok GoE.start (pareCourses_s5 B s)
      ⟨⟨trivial, (by have t_ := pIn ((↑s.courses.length : Int)) (1) (4); rw [q0] at t_; exact t_)⟩, trivial⟩).cast (by first | rfl | (simp only [coursesB]; simp [*]; done) | (simp_all [coursesB]; done))
theorem pareCourses (s : CSea) (h0 : 0 ≤ s.cells) (h1 : s.cells ≤ 10) : PureC Tryz.prog J0 55 #[.agg (encSea s).toArray] (.bool (coursesB s)) :=
  pureC_ofF (ts := [.agg (encSea s).toArray]) (s.courses.length ≤ 9223372036854775807) (fun _ _ ht => ht.ln2 (i := 0) (j := 2) rfl rfl) J0_st (c0 := entryC Tryz.prog 55 30 (([.agg (encSea s).toArray]).map (pushT 0 4))) (by kernel_rfl) (by kernel_rfl) fun hfacts B hJ => pareCourses_e s h0 h1 hfacts hJ
noncomputable def pareStars_p0 (B : Lo) (s : CSea) : List Prop := [AllP [] ∧ PureC Tryz.prog J0 54 #[Value.agg #[Value.int IntKind.i64 s.cells, Value.int IntKind.i64 s.start, slT s.courses.length (rowL slI2 s.courses), slT s.stars.length (rowL encI s.stars), slT s.boats.length (rowL encI s.boats), slT s.roads.length (rowL encI s.roads)]] (Value.int IntKind.i64 (topI s.cells)), (!ltq 6 (↑s.stars.length : Int)) = true] ++ ([] : List Prop)
noncomputable def pareStars_q0 (s : CSea) : ScriptT := [(5, hvT), (10, HintT.pure (Value.int IntKind.i64 (topI s.cells)) [])]
set_option maxRecDepth 100000 in
theorem pareStars_s0 (B : Lo) (s : CSea) : endT (srunT Tryz.prog (okFn Tryz.prog) J0 B 6 1 (entryC Tryz.prog 56 14 (([.agg (encSea s).toArray]).map (pushT 0 4))) H00 1
    (pareStars_q0 s ++ [(11, HintT.pure (Value.bool true) [])]) 0 [] []) [] = some (Value.bool true,
    [AllP [] ∧ PureC Tryz.prog J0 57 #[slT s.stars.length (rowL encI s.stars), Value.int IntKind.i64 1, Value.int IntKind.i64 (topI s.cells)] (Value.bool true)] ++ pareStars_p0 B s) := by kernel_rfl
set_option maxRecDepth 100000 in
theorem pareStars_s1 (B : Lo) (s : CSea) : endT (srunT Tryz.prog (okFn Tryz.prog) J0 B 6 1 (entryC Tryz.prog 56 14 (([.agg (encSea s).toArray]).map (pushT 0 4))) H00 1
    (pareStars_q0 s ++ [(11, HintT.pure (Value.bool false) [])]) 0 [] []) [] = some (Value.bool false,
    [AllP [] ∧ PureC Tryz.prog J0 57 #[slT s.stars.length (rowL encI s.stars), Value.int IntKind.i64 1, Value.int IntKind.i64 (topI s.cells)] (Value.bool false)] ++ pareStars_p0 B s) := by kernel_rfl
set_option maxRecDepth 100000 in
theorem pareStars_s2 (B : Lo) (s : CSea) : endT (srunT Tryz.prog (okFn Tryz.prog) J0 B 6 1 (entryC Tryz.prog 56 14 (([.agg (encSea s).toArray]).map (pushT 0 4))) H00 1
    [(5, hvF)] 0 [] []) [] = some (Value.bool false,
    [(!ltq 6 (↑s.stars.length : Int)) = false]) := by kernel_rfl
set_option maxHeartbeats 4000000 in
theorem pareStars_e (s : CSea) (h0 : 0 ≤ s.cells) (h1 : s.cells ≤ 10) {B : Lo} (hJ : ∀ w, B.has w → J0 w) : EndsT Tryz.prog B (entryC Tryz.prog 56 14 (([.agg (encSea s).toArray]).map (pushT 0 4))) (.bool (starsB s)) := by
  by_cases q0 : ((↑s.stars.length : Int) : Int) ≤ (6)
  ·
    have hp0 : AllP (pareStars_p0 B s) := by
      exact ⟨⟨trivial, pallCells (s) (by first | with_reducible assumption | omega | simp_all) (by first | with_reducible assumption | omega | simp_all)⟩, ⟨(nltq_t q0), trivial⟩⟩
    cases q1 : List.all s.stars fun x => inB x 1 (topI s.cells) with
    | true =>
      exact (GoE.endsT okF hJ mixed_ok GoE.start (pareStars_s0 B s)
        ⟨⟨trivial, (by have t_ := pAllIn s.stars (1) (topI s.cells); rw [q1] at t_; exact t_)⟩, hp0⟩).cast (by first | rfl | (simp only [starsB, setsB]; simp [*]; done) | (simp_all [starsB, setsB]; done))
    | false =>
      exact (GoE.endsT okF hJ mixed_ok GoE.start (pareStars_s1 B s)
        ⟨⟨trivial, (by have t_ := pAllIn s.stars (1) (topI s.cells); rw [q1] at t_; exact t_)⟩, hp0⟩).cast (by first | rfl | (simp only [starsB, setsB]; simp [*]; done) | (simp_all [starsB, setsB]; done))
  ·
    exact (GoE.endsT okF hJ mixed_ok GoE.start (pareStars_s2 B s)
      ⟨(nltq_f (Int.not_le.1 q0)), trivial⟩).cast (by first | rfl | (simp only [starsB, setsB]; simp [*]; done) | (simp_all [starsB, setsB]; done))
theorem pareStars (s : CSea) (h0 : 0 ≤ s.cells) (h1 : s.cells ≤ 10) : PureC Tryz.prog J0 56 #[.agg (encSea s).toArray] (.bool (starsB s)) :=
  pureC_of (ts := [.agg (encSea s).toArray]) J0_st (c0 := entryC Tryz.prog 56 14 (([.agg (encSea s).toArray]).map (pushT 0 4))) (by kernel_rfl) (by kernel_rfl) fun B hJ => pareStars_e s h0 h1 hJ
noncomputable def pisSea_z0 (s : CSea) : Array Value := #[Value.agg #[Value.int IntKind.i64 s.cells, Value.int IntKind.i64 s.start, slT s.courses.length (rowL slI2 s.courses), slT s.stars.length (rowL encI s.stars), slT s.boats.length (rowL encI s.boats), slT s.roads.length (rowL encI s.roads)]]
noncomputable def pisSea_p0 (B : Lo) (s : CSea) : List Prop := [AllP [] ∧ PureC Tryz.prog J0 54 (pisSea_z0 s) (Value.int IntKind.i64 (topI s.cells)), AllP [] ∧ PureC Tryz.prog J0 53 #[Value.int IntKind.i64 s.cells, Value.int IntKind.i64 1, Value.int IntKind.i64 10] (Value.bool true)] ++ ([] : List Prop)
noncomputable def pisSea_q0 (s : CSea) : ScriptT := [(4, HintT.pure (Value.bool true) []), (9, HintT.pure (Value.int IntKind.i64 (topI s.cells)) [])]
noncomputable def pisSea_p1 (B : Lo) (s : CSea) : List Prop := [AllP [] ∧ PureC Tryz.prog J0 53 #[Value.int IntKind.i64 s.start, Value.int IntKind.i64 1, Value.int IntKind.i64 (topI s.cells)] (Value.bool true)] ++ pisSea_p0 B s
noncomputable def pisSea_q1 (s : CSea) : ScriptT := pisSea_q0 s ++ [(10, HintT.pure (Value.bool true) [])]
noncomputable def pisSea_p2 (B : Lo) (s : CSea) : List Prop := [AllP [] ∧ PureC Tryz.prog J0 55 (pisSea_z0 s) (Value.bool true)] ++ pisSea_p1 B s
noncomputable def pisSea_q2 (s : CSea) : ScriptT := pisSea_q1 s ++ [(14, HintT.pure (Value.bool true) [])]
noncomputable def pisSea_p3 (B : Lo) (s : CSea) : List Prop := [AllP [] ∧ PureC Tryz.prog J0 56 (pisSea_z0 s) (Value.bool true)] ++ pisSea_p2 B s
noncomputable def pisSea_q3 (s : CSea) : ScriptT := pisSea_q2 s ++ [(18, HintT.pure (Value.bool true) [])]
noncomputable def pisSea_p4 (B : Lo) (s : CSea) : List Prop := [(!ltq 2 (↑s.boats.length : Int)) = true] ++ pisSea_p3 B s
noncomputable def pisSea_q4 (s : CSea) : ScriptT := pisSea_q3 s ++ [(24, hvT)]
noncomputable def pisSea_p5 (B : Lo) (s : CSea) : List Prop := [AllP [] ∧ PureC Tryz.prog J0 43 #[Value.agg #[Value.int IntKind.i64 s.cells, Value.int IntKind.i64 s.start, slT s.courses.length (rowL slI2 s.courses), slT s.stars.length (rowL encI s.stars), slT s.boats.length (rowL encI s.boats), slT s.roads.length (rowL encI s.roads)], slT s.boats.length (rowL encI s.boats)] (Value.bool true)] ++ pisSea_p4 B s
noncomputable def pisSea_q5 (s : CSea) : ScriptT := pisSea_q4 s ++ [(30, HintT.pure (Value.bool true) [])]
noncomputable def pisSea_p6 (B : Lo) (s : CSea) : List Prop := [AllP [] ∧ PureC Tryz.prog J0 54 (pisSea_z0 s) (Value.int IntKind.i64 (topI s.cells)), eqq (↑s.roads.length : Int) s.cells = true] ++ pisSea_p5 B s
noncomputable def pisSea_q6 (s : CSea) : ScriptT := pisSea_q5 s ++ [(38, hvT), (44, HintT.pure (Value.int IntKind.i64 (topI s.cells)) [])]
set_option maxRecDepth 100000 in
theorem pisSea_s0 (B : Lo) (s : CSea) : endT (srunT Tryz.prog (okFn Tryz.prog) J0 B 6 1 (entryC Tryz.prog 33 48 (([.agg (encSea s).toArray]).map (pushT 0 4))) H00 1
    (pisSea_q6 s ++ [(45, HintT.pure (Value.bool true) [])]) 0 [] []) [] = some (Value.bool true,
    [AllP [] ∧ PureC Tryz.prog J0 57 #[slT s.roads.length (rowL encI s.roads), Value.int IntKind.i64 0, Value.int IntKind.i64 (topI s.cells)] (Value.bool true)] ++ pisSea_p6 B s) := by kernel_rfl
set_option maxRecDepth 100000 in
theorem pisSea_s1 (B : Lo) (s : CSea) : endT (srunT Tryz.prog (okFn Tryz.prog) J0 B 6 1 (entryC Tryz.prog 33 48 (([.agg (encSea s).toArray]).map (pushT 0 4))) H00 1
    (pisSea_q6 s ++ [(45, HintT.pure (Value.bool false) [])]) 0 [] []) [] = some (Value.bool false,
    [AllP [] ∧ PureC Tryz.prog J0 57 #[slT s.roads.length (rowL encI s.roads), Value.int IntKind.i64 0, Value.int IntKind.i64 (topI s.cells)] (Value.bool false)] ++ pisSea_p6 B s) := by kernel_rfl
set_option maxRecDepth 100000 in
theorem pisSea_s2 (B : Lo) (s : CSea) : endT (srunT Tryz.prog (okFn Tryz.prog) J0 B 6 1 (entryC Tryz.prog 33 48 (([.agg (encSea s).toArray]).map (pushT 0 4))) H00 1
    (pisSea_q5 s ++ [(38, hvF)]) 0 [] []) [] = some (Value.bool false,
    [eqq (↑s.roads.length : Int) s.cells = false] ++ pisSea_p5 B s) := by kernel_rfl
set_option maxRecDepth 100000 in
theorem pisSea_s3 (B : Lo) (s : CSea) : endT (srunT Tryz.prog (okFn Tryz.prog) J0 B 6 1 (entryC Tryz.prog 33 48 (([.agg (encSea s).toArray]).map (pushT 0 4))) H00 1
    (pisSea_q4 s ++ [(30, HintT.pure (Value.bool false) [])]) 0 [] []) [] = some (Value.bool false,
    [AllP [] ∧ PureC Tryz.prog J0 43 #[Value.agg #[Value.int IntKind.i64 s.cells, Value.int IntKind.i64 s.start, slT s.courses.length (rowL slI2 s.courses), slT s.stars.length (rowL encI s.stars), slT s.boats.length (rowL encI s.boats), slT s.roads.length (rowL encI s.roads)], slT s.boats.length (rowL encI s.boats)] (Value.bool false)] ++ pisSea_p4 B s) := by kernel_rfl
set_option maxRecDepth 100000 in
theorem pisSea_s4 (B : Lo) (s : CSea) : endT (srunT Tryz.prog (okFn Tryz.prog) J0 B 6 1 (entryC Tryz.prog 33 48 (([.agg (encSea s).toArray]).map (pushT 0 4))) H00 1
    (pisSea_q3 s ++ [(24, hvF)]) 0 [] []) [] = some (Value.bool false,
    [(!ltq 2 (↑s.boats.length : Int)) = false] ++ pisSea_p3 B s) := by kernel_rfl
set_option maxRecDepth 100000 in
theorem pisSea_s5 (B : Lo) (s : CSea) : endT (srunT Tryz.prog (okFn Tryz.prog) J0 B 6 1 (entryC Tryz.prog 33 48 (([.agg (encSea s).toArray]).map (pushT 0 4))) H00 1
    (pisSea_q2 s ++ [(18, HintT.pure (Value.bool false) [])]) 0 [] []) [] = some (Value.bool false,
    [AllP [] ∧ PureC Tryz.prog J0 56 (pisSea_z0 s) (Value.bool false)] ++ pisSea_p2 B s) := by kernel_rfl
set_option maxRecDepth 100000 in
theorem pisSea_s6 (B : Lo) (s : CSea) : endT (srunT Tryz.prog (okFn Tryz.prog) J0 B 6 1 (entryC Tryz.prog 33 48 (([.agg (encSea s).toArray]).map (pushT 0 4))) H00 1
    (pisSea_q1 s ++ [(14, HintT.pure (Value.bool false) [])]) 0 [] []) [] = some (Value.bool false,
    [AllP [] ∧ PureC Tryz.prog J0 55 (pisSea_z0 s) (Value.bool false)] ++ pisSea_p1 B s) := by kernel_rfl
set_option maxRecDepth 100000 in
theorem pisSea_s7 (B : Lo) (s : CSea) : endT (srunT Tryz.prog (okFn Tryz.prog) J0 B 6 1 (entryC Tryz.prog 33 48 (([.agg (encSea s).toArray]).map (pushT 0 4))) H00 1
    (pisSea_q0 s ++ [(10, HintT.pure (Value.bool false) [])]) 0 [] []) [] = some (Value.bool false,
    [AllP [] ∧ PureC Tryz.prog J0 53 #[Value.int IntKind.i64 s.start, Value.int IntKind.i64 1, Value.int IntKind.i64 (topI s.cells)] (Value.bool false)] ++ pisSea_p0 B s) := by kernel_rfl
set_option maxRecDepth 100000 in
theorem pisSea_s8 (B : Lo) (s : CSea) : endT (srunT Tryz.prog (okFn Tryz.prog) J0 B 6 1 (entryC Tryz.prog 33 48 (([.agg (encSea s).toArray]).map (pushT 0 4))) H00 1
    [(4, HintT.pure (Value.bool false) [])] 0 [] []) [] = some (Value.bool false,
    [AllP [] ∧ PureC Tryz.prog J0 53 #[Value.int IntKind.i64 s.cells, Value.int IntKind.i64 1, Value.int IntKind.i64 10] (Value.bool false)]) := by kernel_rfl
set_option maxHeartbeats 4000000 in
theorem pisSea_e (s : CSea)  (hfacts : s.boats.length ≤ 9223372036854775807) {B : Lo} (hJ : ∀ w, B.has w → J0 w) : EndsT Tryz.prog B (entryC Tryz.prog 33 48 (([.agg (encSea s).toArray]).map (pushT 0 4))) (.bool (seaB s)) := by
  cases q0 : inB s.cells 1 10 with
  | true =>
    have hp0 : AllP (pisSea_p0 B s) := by
      try have hcs := inB_iff.1 q0
      exact ⟨⟨trivial, pallCells (s) (by first | with_reducible assumption | omega | simp_all) (by first | with_reducible assumption | omega | simp_all)⟩, ⟨⟨trivial, (by have t_ := pIn s.cells (1) (10); rw [q0] at t_; exact t_)⟩, trivial⟩⟩
    cases q1 : inB s.start 1 (topI s.cells) with
    | true =>
      have hp1 : AllP (pisSea_p1 B s) := by
        try have hcs := inB_iff.1 q0
        exact ⟨⟨trivial, (by have t_ := pIn s.start (1) (topI s.cells); rw [q1] at t_; exact t_)⟩, hp0⟩
      cases q2 : coursesB s with
      | true =>
        have hp2 : AllP (pisSea_p2 B s) := by
          try have hcs := inB_iff.1 q0
          exact ⟨⟨trivial, (by have t_ := pareCourses (s) (by first | with_reducible assumption | omega | simp_all) (by first | with_reducible assumption | omega | simp_all); rw [q2] at t_; exact t_)⟩, hp1⟩
        cases q3 : starsB s with
        | true =>
          have hp3 : AllP (pisSea_p3 B s) := by
            try have hcs := inB_iff.1 q0
            exact ⟨⟨trivial, (by have t_ := pareStars (s) (by first | with_reducible assumption | omega | simp_all) (by first | with_reducible assumption | omega | simp_all); rw [q3] at t_; exact t_)⟩, hp2⟩
          by_cases q4 : ((↑s.boats.length : Int) : Int) ≤ (2)
          ·
            have hp4 : AllP (pisSea_p4 B s) := by
              exact ⟨(nltq_t q4), hp3⟩
            cases q5 : cellsB s s.boats with
            | true =>
              have hp5 : AllP (pisSea_p5 B s) := by
                try have hcs := inB_iff.1 q0
                exact ⟨⟨trivial, (by have t_ := pareCells (s) s.boats (by first | with_reducible assumption | omega | simp_all) (by first | with_reducible assumption | omega | simp_all); rw [q5] at t_; exact t_)⟩, hp4⟩
              by_cases q6 : ((↑s.roads.length : Int) : Int) = s.cells
              ·
                have hp6 : AllP (pisSea_p6 B s) := by
                  try have hcs := inB_iff.1 q0
                  exact ⟨⟨trivial, pallCells (s) (by first | with_reducible assumption | omega | simp_all) (by first | with_reducible assumption | omega | simp_all)⟩, ⟨(eqq_t q6), hp5⟩⟩
                cases q7 : List.all s.roads fun x => inB x 0 (topI s.cells) with
                | true =>
                  try have hcs := inB_iff.1 q0
                  exact (GoE.endsT okF hJ mixed_ok GoE.start (pisSea_s0 B s)
                    ⟨⟨trivial, (by have t_ := pAllIn s.roads (0) (topI s.cells); rw [q7] at t_; exact t_)⟩, hp6⟩).cast (by first | rfl | (simp only [seaB, setsB]; simp [*]; done) | (simp_all [seaB, setsB]; done))
                | false =>
                  try have hcs := inB_iff.1 q0
                  exact (GoE.endsT okF hJ mixed_ok GoE.start (pisSea_s1 B s)
                    ⟨⟨trivial, (by have t_ := pAllIn s.roads (0) (topI s.cells); rw [q7] at t_; exact t_)⟩, hp6⟩).cast (by first | rfl | (simp only [seaB, setsB]; simp [*]; done) | (simp_all [seaB, setsB]; done))
              ·
                try have hcs := inB_iff.1 q0
                exact (GoE.endsT okF hJ mixed_ok GoE.start (pisSea_s2 B s)
                  ⟨(eqq_f q6), hp5⟩).cast (by first | rfl | (simp only [seaB, setsB]; simp [*]; done) | (simp_all [seaB, setsB]; done))
            | false =>
              try have hcs := inB_iff.1 q0
              exact (GoE.endsT okF hJ mixed_ok GoE.start (pisSea_s3 B s)
                ⟨⟨trivial, (by have t_ := pareCells (s) s.boats (by first | with_reducible assumption | omega | simp_all) (by first | with_reducible assumption | omega | simp_all); rw [q5] at t_; exact t_)⟩, hp4⟩).cast (by first | rfl | (simp only [seaB, setsB]; simp [*]; done) | (simp_all [seaB, setsB]; done))
          ·
            try have hcs := inB_iff.1 q0
            exact (GoE.endsT okF hJ mixed_ok GoE.start (pisSea_s4 B s)
              ⟨(nltq_f (Int.not_le.1 q4)), hp3⟩).cast (by first | rfl | (simp only [seaB, setsB]; simp [*]; done) | (simp_all [seaB, setsB]; done))
        | false =>
          try have hcs := inB_iff.1 q0
          exact (GoE.endsT okF hJ mixed_ok GoE.start (pisSea_s5 B s)
            ⟨⟨trivial, (by have t_ := pareStars (s) (by first | with_reducible assumption | omega | simp_all) (by first | with_reducible assumption | omega | simp_all); rw [q3] at t_; exact t_)⟩, hp2⟩).cast (by first | rfl | (simp only [seaB, setsB]; simp [*]; done) | (simp_all [seaB, setsB]; done))
      | false =>
        try have hcs := inB_iff.1 q0
        exact (GoE.endsT okF hJ mixed_ok GoE.start (pisSea_s6 B s)
          ⟨⟨trivial, (by have t_ := pareCourses (s) (by first | with_reducible assumption | omega | simp_all) (by first | with_reducible assumption | omega | simp_all); rw [q2] at t_; exact t_)⟩, hp1⟩).cast (by first | rfl | (simp only [seaB, setsB]; simp [*]; done) | (simp_all [seaB, setsB]; done))
    | false =>
      try have hcs := inB_iff.1 q0
      exact (GoE.endsT okF hJ mixed_ok GoE.start (pisSea_s7 B s)
        ⟨⟨trivial, (by have t_ := pIn s.start (1) (topI s.cells); rw [q1] at t_; exact t_)⟩, hp0⟩).cast (by first | rfl | (simp only [seaB, setsB]; simp [*]; done) | (simp_all [seaB, setsB]; done))
  | false =>
    try have hcs := inB_iff.1 q0
    exact (GoE.endsT okF hJ mixed_ok GoE.start (pisSea_s8 B s)
      ⟨⟨trivial, (by have t_ := pIn s.cells (1) (10); rw [q0] at t_; exact t_)⟩, trivial⟩).cast (by first | rfl | (simp only [seaB, setsB]; simp [*]; done) | (simp_all [seaB, setsB]; done))
theorem pisSea (s : CSea)  : PureC Tryz.prog J0 33 #[.agg (encSea s).toArray] (.bool (seaB s)) :=
  pureC_ofF (ts := [.agg (encSea s).toArray]) (s.boats.length ≤ 9223372036854775807) (fun _ _ ht => ht.ln2 (i := 0) (j := 4) rfl rfl) J0_st (c0 := entryC Tryz.prog 33 48 (([.agg (encSea s).toArray]).map (pushT 0 4))) (by kernel_rfl) (by kernel_rfl) fun hfacts B hJ => pisSea_e s  hfacts hJ
def pareHours_v0 (l : List Hour) (a b : Int) (i : Int) : List Value := [Value.int IntKind.i64 a, Value.int IntKind.i64 b, topV 1 (slT l.length (rowL encHour l)), Value.int IntKind.i64 (↑l.length : Int), .int .i64 i]
def pareHours_o0 (l : List Hour) (a b : Int) (i : Int) : List Obj := []
noncomputable def pareHours_t0 : List Item := ([.code [1, 0, 1, 0, 0], .inLoop [1, 0, 1, 0, 0], .inBlock 0, .code [1, 1]]).map (it (bodyOf Tryz.prog 59))
def pareHours_h0 (B : Lo) (c0 : CF) (l : List Hour) (a b : Int) (i : Int) : Prop := ∃ dJ : Nat → Value, (∀ t, Loose (dJ t)) ∧ GoE Tryz.prog B c0 H00 1 (headC 59 30 (([1, 2, 9, 10, 11] : List Nat).zip (pareHours_v0 l a b i)) dJ pareHours_t0) (headH (pareHours_o0 l a b i)) (2 + (pareHours_o0 l a b i).length) []
noncomputable def pareHours_p0 (B : Lo) (l : List Hour) (a b : Int) (i : Int) (dJ0 : Nat → Value) : List Prop := [wq (a - 1) = a - 1, i = (↑i.toNat : Int) ∧ Int.toNat i < List.length l ∧ Array.extract (rowL encHour l) (Int.toNat i * TypeInfo.size Tryz.t49) (Int.toNat i * TypeInfo.size Tryz.t49 + TypeInfo.size Tryz.t49) = #[Value.int IntKind.i64 (Hour.course (List.getD l i.toNat default)), Value.int IntKind.i64 (Hour.star (List.getD l i.toNat default))], ltq i (↑l.length : Int) = true] ++ ([] : List Prop)
noncomputable def pareHours_q0 (l : List Hour) (a b : Int) (i : Int) (dJ0 : Nat → Value) : ScriptT := [(0, hvT), (1, HintT.tidx i.toNat #[Value.int IntKind.i64 (Hour.course (List.getD l i.toNat default)), Value.int IntKind.i64 (Hour.star (List.getD l i.toNat default))]), (8, hvI (a - 1))]
noncomputable def pareHours_p1 (B : Lo) (l : List Hour) (a b : Int) (i : Int) (dJ0 : Nat → Value) : List Prop := [wq (b - 1) = b - 1, AllP [] ∧ PureC Tryz.prog J0 53 #[Value.int IntKind.i64 (Hour.course (List.getD l i.toNat default)), Value.int IntKind.i64 0, Value.int IntKind.i64 (a - 1)] (Value.bool true)] ++ pareHours_p0 B l a b i dJ0
noncomputable def pareHours_q1 (l : List Hour) (a b : Int) (i : Int) (dJ0 : Nat → Value) : ScriptT := pareHours_q0 l a b i dJ0 ++ [(9, HintT.pure (Value.bool true) []), (15, hvI (b - 1))]
set_option maxRecDepth 100000 in
theorem pareHours_s0 (B : Lo) (l : List Hour) (a b : Int) (i : Int) (dJ0 : Nat → Value) : landM (srunT Tryz.prog (okFn Tryz.prog) J0 B 16 1 (headC 59 30 (([1, 2, 9, 10, 11] : List Nat).zip (pareHours_v0 l a b i)) dJ0 pareHours_t0) (headH (pareHours_o0 l a b i)) (2 + (pareHours_o0 l a b i).length)
    (pareHours_q1 l a b i dJ0 ++ [(16, HintT.pure (Value.bool true) []), (19, hvI (i + 1))]) 0 [] []) [1, 2, 9, 10, 11] [] [] = some ⟨59, 30, pareHours_t0, [], .run, none, pareHours_v0 l a b (i + 1), pareHours_o0 l a b (i + 1),
    [wq (i + 1) = i + 1, AllP [] ∧ PureC Tryz.prog J0 53 #[Value.int IntKind.i64 (Hour.star (List.getD l i.toNat default)), Value.int IntKind.i64 (-1), Value.int IntKind.i64 (b - 1)] (Value.bool true)] ++ pareHours_p1 B l a b i dJ0⟩ := by kernel_rfl
set_option maxRecDepth 100000 in
theorem pareHours_s1 (B : Lo) (l : List Hour) (a b : Int) (i : Int) (dJ0 : Nat → Value) : endT (srunT Tryz.prog (okFn Tryz.prog) J0 B 16 1 (headC 59 30 (([1, 2, 9, 10, 11] : List Nat).zip (pareHours_v0 l a b i)) dJ0 pareHours_t0) (headH (pareHours_o0 l a b i)) (2 + (pareHours_o0 l a b i).length)
    (pareHours_q1 l a b i dJ0 ++ [(16, HintT.pure (Value.bool false) [])]) 0 [] []) [] = some (Value.bool false,
    [AllP [] ∧ PureC Tryz.prog J0 53 #[Value.int IntKind.i64 (Hour.star (List.getD l i.toNat default)), Value.int IntKind.i64 (-1), Value.int IntKind.i64 (b - 1)] (Value.bool false)] ++ pareHours_p1 B l a b i dJ0) := by kernel_rfl
set_option maxRecDepth 100000 in
theorem pareHours_s2 (B : Lo) (l : List Hour) (a b : Int) (i : Int) (dJ0 : Nat → Value) : endT (srunT Tryz.prog (okFn Tryz.prog) J0 B 16 1 (headC 59 30 (([1, 2, 9, 10, 11] : List Nat).zip (pareHours_v0 l a b i)) dJ0 pareHours_t0) (headH (pareHours_o0 l a b i)) (2 + (pareHours_o0 l a b i).length)
    (pareHours_q0 l a b i dJ0 ++ [(9, HintT.pure (Value.bool false) [])]) 0 [] []) [] = some (Value.bool false,
    [AllP [] ∧ PureC Tryz.prog J0 53 #[Value.int IntKind.i64 (Hour.course (List.getD l i.toNat default)), Value.int IntKind.i64 0, Value.int IntKind.i64 (a - 1)] (Value.bool false)] ++ pareHours_p0 B l a b i dJ0) := by kernel_rfl
set_option maxRecDepth 100000 in
theorem pareHours_s3 (B : Lo) (l : List Hour) (a b : Int) (i : Int) (dJ0 : Nat → Value) : endT (srunT Tryz.prog (okFn Tryz.prog) J0 B 9 1 (headC 59 30 (([1, 2, 9, 10, 11] : List Nat).zip (pareHours_v0 l a b i)) dJ0 pareHours_t0) (headH (pareHours_o0 l a b i)) (2 + (pareHours_o0 l a b i).length)
    [(0, hvF)] 0 [] []) [] = some (Value.bool true,
    [ltq i (↑l.length : Int) = false]) := by kernel_rfl
set_option maxRecDepth 100000 in
theorem pareHours_s4 (B : Lo) (l : List Hour) (a b : Int) : landM (srunT Tryz.prog (okFn Tryz.prog) J0 B 7 1 (entryC Tryz.prog 59 30 (([slH l, .int .i64 a, .int .i64 b]).map (pushT 0 4))) H00 1
    [] 0 [] []) [1, 2, 9, 10, 11] [] [] = some ⟨59, 30, pareHours_t0, [], .run, none, pareHours_v0 l a b (0), pareHours_o0 l a b (0),
    []⟩ := by kernel_rfl
set_option maxHeartbeats 4000000 in
theorem pareHours_ls (l : List Hour) (a b : Int) (ha : 0 ≤ a ∧ a ≤ 9223372036854775807) (hb : 0 ≤ b ∧ b ≤ 9223372036854775807) (hfacts : l.length ≤ 9223372036854775807) {B : Lo} (hJ : ∀ w, B.has w → J0 w) {c0 : CF} : ∀ m : Nat, (∀ (i : Int), l.length - i.toNat = m → ∀ (i0 : 0 ≤ i), pareHours_h0 B c0 l a b i → EndsT Tryz.prog B c0 (.bool ((l.drop i.toNat).all (hourB a b)))) := by
  intro m0
  induction m0 using Nat.strongRecOn with
  | _ m0 ih0 =>
    intro i hm0 i0 ⟨dJ0, hdJ0, hg0⟩
    by_cases q0 : (i : Int) < ((↑l.length : Int))
    ·
      have hp0 : AllP (pareHours_p0 B l a b i dJ0) := by
        try have s2 := drop_all2 (p := hourB a b) i0 q0
        try have s2 := drop_nil2 (l := l) (p := hourB a b) (i := i) (by omega)
        exact ⟨(wq_in (by omega) (by omega)), ⟨⟨by omega, by omega, (rowL_extract (z := 2) (fun _ => rfl) (by first | omega | (rw [List.length_set]; omega) | (rw [List.length_replicate]; omega)))⟩, ⟨(ltq_t q0), trivial⟩⟩⟩
      cases q1 : inB (Hour.course (List.getD l i.toNat default)) 0 (a - 1) with
      | true =>
        have hp1 : AllP (pareHours_p1 B l a b i dJ0) := by
          try have s2 := drop_all2 (p := hourB a b) i0 q0
          try have s2 := drop_nil2 (l := l) (p := hourB a b) (i := i) (by omega)
          exact ⟨(wq_in (by omega) (by omega)), ⟨⟨trivial, (by have t_ := pIn (Hour.course (List.getD l i.toNat default)) (0) (a - 1); rw [q1] at t_; exact t_)⟩, hp0⟩⟩
        cases q2 : inB (Hour.star (List.getD l i.toNat default)) (-1) (b - 1) with
        | true =>
          try have s2 := drop_all2 (p := hourB a b) i0 q0
          try have s2 := drop_nil2 (l := l) (p := hourB a b) (i := i) (by omega)
          exact ((ih0 _ (by omega)) (i + 1) rfl (by first | with_reducible assumption | omega | (simp_all; done))
            (hg0.landM okF hJ mixed_ok (pareHours_s0 B l a b i dJ0)
            ⟨(wq_in (by omega) (by omega)), ⟨⟨trivial, (by have t_ := pIn (Hour.star (List.getD l i.toNat default)) (-1) (b - 1); rw [q2] at t_; exact t_)⟩, hp1⟩⟩ (by kernel_rfl) (by kernel_rfl))).cast (by first | rfl | (rw [s2]; simp [hourB, *]; done) | (rw [s2]; simp_all [hourB]; done) | (rw [s2]; done))
        | false =>
          try have s2 := drop_all2 (p := hourB a b) i0 q0
          try have s2 := drop_nil2 (l := l) (p := hourB a b) (i := i) (by omega)
          exact (GoE.endsT okF hJ mixed_ok hg0 (pareHours_s1 B l a b i dJ0)
            ⟨⟨trivial, (by have t_ := pIn (Hour.star (List.getD l i.toNat default)) (-1) (b - 1); rw [q2] at t_; exact t_)⟩, hp1⟩).cast (by first | rfl | (rw [s2]; simp [hourB, *]; done) | (rw [s2]; simp_all [hourB]; done) | (rw [s2]; done))
      | false =>
        try have s2 := drop_all2 (p := hourB a b) i0 q0
        try have s2 := drop_nil2 (l := l) (p := hourB a b) (i := i) (by omega)
        exact (GoE.endsT okF hJ mixed_ok hg0 (pareHours_s2 B l a b i dJ0)
          ⟨⟨trivial, (by have t_ := pIn (Hour.course (List.getD l i.toNat default)) (0) (a - 1); rw [q1] at t_; exact t_)⟩, hp0⟩).cast (by first | rfl | (rw [s2]; simp [hourB, *]; done) | (rw [s2]; simp_all [hourB]; done) | (rw [s2]; done))
    ·
      try have s2 := drop_all2 (p := hourB a b) i0 q0
      try have s2 := drop_nil2 (l := l) (p := hourB a b) (i := i) (by omega)
      exact (GoE.endsT okF hJ mixed_ok hg0 (pareHours_s3 B l a b i dJ0)
        ⟨(ltq_f (Int.not_lt.1 q0)), trivial⟩).cast (by first | rfl | (rw [s2]; simp [hourB, *]; done) | (rw [s2]; simp_all [hourB]; done) | (rw [s2]; done))
set_option maxHeartbeats 4000000 in
theorem pareHours_e (l : List Hour) (a b : Int) (ha : 0 ≤ a ∧ a ≤ 9223372036854775807) (hb : 0 ≤ b ∧ b ≤ 9223372036854775807) (hfacts : l.length ≤ 9223372036854775807) {B : Lo} (hJ : ∀ w, B.has w → J0 w) : EndsT Tryz.prog B (entryC Tryz.prog 59 30 (([slH l, .int .i64 a, .int .i64 b]).map (pushT 0 4))) (.bool (l.all (hourB a b))) := by
  exact ((pareHours_ls l a b ha hb hfacts hJ _) (0) rfl (by first | with_reducible assumption | omega | (simp_all; done))
    (GoE.start.landM okF hJ mixed_ok (pareHours_s4 B l a b)
    trivial (by kernel_rfl) (by kernel_rfl))).cast (by first | rfl | (simp [*]; done) | (simp_all []; done) | (simp_all []; omega))
theorem pareHours (l : List Hour) (a b : Int) (ha : 0 ≤ a ∧ a ≤ 9223372036854775807) (hb : 0 ≤ b ∧ b ≤ 9223372036854775807) : PureC Tryz.prog J0 59 #[slH l, .int .i64 a, .int .i64 b] (.bool (l.all (hourB a b))) :=
  pureC_ofF (ts := [slH l, .int .i64 a, .int .i64 b]) (l.length ≤ 9223372036854775807) (fun _ _ ht => ht.ln (i := 0) rfl) J0_st (c0 := entryC Tryz.prog 59 30 (([slH l, .int .i64 a, .int .i64 b]).map (pushT 0 4))) (by kernel_rfl) (by kernel_rfl) fun hfacts B hJ => pareHours_e l a b ha hb hfacts hJ
set_option maxRecDepth 100000 in
theorem pisLog_s0 (B : Lo) (s : CSea) (l : List Hour) : endT (srunT Tryz.prog (okFn Tryz.prog) J0 B 6 1 (entryC Tryz.prog 42 13 (([.agg (encSea s).toArray, slH l]).map (pushT 0 4))) H00 1
    [(9, HintT.pure (Value.bool true) [])] 0 [] []) [] = some (Value.bool true,
    [AllP [] ∧ PureC Tryz.prog J0 59 #[slT l.length (rowL encHour l), Value.int IntKind.i64 (↑s.courses.length : Int), Value.int IntKind.i64 (↑s.stars.length : Int)] (Value.bool true)]) := by kernel_rfl
set_option maxRecDepth 100000 in
theorem pisLog_s1 (B : Lo) (s : CSea) (l : List Hour) : endT (srunT Tryz.prog (okFn Tryz.prog) J0 B 6 1 (entryC Tryz.prog 42 13 (([.agg (encSea s).toArray, slH l]).map (pushT 0 4))) H00 1
    [(9, HintT.pure (Value.bool false) [])] 0 [] []) [] = some (Value.bool false,
    [AllP [] ∧ PureC Tryz.prog J0 59 #[slT l.length (rowL encHour l), Value.int IntKind.i64 (↑s.courses.length : Int), Value.int IntKind.i64 (↑s.stars.length : Int)] (Value.bool false)]) := by kernel_rfl
set_option maxHeartbeats 4000000 in
theorem pisLog_e (s : CSea) (l : List Hour)  (hfacts : s.courses.length ≤ 9223372036854775807 ∧ s.stars.length ≤ 9223372036854775807) {B : Lo} (hJ : ∀ w, B.has w → J0 w) : EndsT Tryz.prog B (entryC Tryz.prog 42 13 (([.agg (encSea s).toArray, slH l]).map (pushT 0 4))) (.bool (logB s l)) := by
  have hfa := hfacts.1
  have hfb := hfacts.2
  cases q0 : List.all l (hourB (↑s.courses.length : Int) (↑s.stars.length : Int)) with
  | true =>
    exact (GoE.endsT okF hJ mixed_ok GoE.start (pisLog_s0 B s l)
      ⟨⟨trivial, (by have t_ := pareHours (l) ((↑s.courses.length : Int)) ((↑s.stars.length : Int)) (by first | with_reducible assumption | omega | simp_all) (by first | with_reducible assumption | omega | simp_all); rw [q0] at t_; exact t_)⟩, trivial⟩).cast (by first | rfl | (simp [logB, *]; done) | (simp_all [logB]; done) | (simp_all [logB]; omega))
  | false =>
    exact (GoE.endsT okF hJ mixed_ok GoE.start (pisLog_s1 B s l)
      ⟨⟨trivial, (by have t_ := pareHours (l) ((↑s.courses.length : Int)) ((↑s.stars.length : Int)) (by first | with_reducible assumption | omega | simp_all) (by first | with_reducible assumption | omega | simp_all); rw [q0] at t_; exact t_)⟩, trivial⟩).cast (by first | rfl | (simp [logB, *]; done) | (simp_all [logB]; done) | (simp_all [logB]; omega))
theorem pisLog (s : CSea) (l : List Hour)  : PureC Tryz.prog J0 42 #[.agg (encSea s).toArray, slH l] (.bool (logB s l)) :=
  pureC_ofF (ts := [.agg (encSea s).toArray, slH l]) (s.courses.length ≤ 9223372036854775807 ∧ s.stars.length ≤ 9223372036854775807) (fun _ _ ht => ⟨ht.ln2 (i := 0) (j := 2) rfl rfl, ht.ln2 (i := 0) (j := 3) rfl rfl⟩) J0_st (c0 := entryC Tryz.prog 42 13 (([.agg (encSea s).toArray, slH l]).map (pushT 0 4))) (by kernel_rfl) (by kernel_rfl) fun hfacts B hJ => pisLog_e s l  hfacts hJ
set_option maxRecDepth 100000 in
theorem pisLong_s0 (B : Lo) (l : List Hour) : endT (srunT Tryz.prog (okFn Tryz.prog) J0 B 6 1 (entryC Tryz.prog 41 6 (([slH l]).map (pushT 0 4))) H00 1
    [(3, hvT)] 0 [] []) [] = some (Value.bool true,
    [ltq 12 (↑l.length : Int) = true]) := by kernel_rfl
set_option maxRecDepth 100000 in
theorem pisLong_s1 (B : Lo) (l : List Hour) : endT (srunT Tryz.prog (okFn Tryz.prog) J0 B 6 1 (entryC Tryz.prog 41 6 (([slH l]).map (pushT 0 4))) H00 1
    [(3, hvF)] 0 [] []) [] = some (Value.bool false,
    [ltq 12 (↑l.length : Int) = false]) := by kernel_rfl
set_option maxHeartbeats 4000000 in
theorem pisLong_e (l : List Hour)  {B : Lo} (hJ : ∀ w, B.has w → J0 w) : EndsT Tryz.prog B (entryC Tryz.prog 41 6 (([slH l]).map (pushT 0 4))) (.bool (decide (12 < (l.length : Int)))) := by
  by_cases q0 : (12 : Int) < ((↑l.length : Int))
  ·
    exact (GoE.endsT okF hJ mixed_ok GoE.start (pisLong_s0 B l)
      ⟨(ltq_t q0), trivial⟩).cast (by first | rfl | (simp [*]; done) | (simp_all []; done) | (simp_all []; omega))
  ·
    exact (GoE.endsT okF hJ mixed_ok GoE.start (pisLong_s1 B l)
      ⟨(ltq_f (Int.not_lt.1 q0)), trivial⟩).cast (by first | rfl | (simp [*]; done) | (simp_all []; done) | (simp_all []; omega))
theorem pisLong (l : List Hour)  : PureC Tryz.prog J0 41 #[slH l] (.bool (decide (12 < (l.length : Int)))) :=
  pureC_of (ts := [slH l]) J0_st (c0 := entryC Tryz.prog 41 6 (([slH l]).map (pushT 0 4))) (by kernel_rfl) (by kernel_rfl) fun B hJ => pisLong_e l  hJ
set_option maxRecDepth 100000 in
theorem pCheck_s0 (B : Lo) (s : CSea) : endT (srunT Tryz.prog (okFn Tryz.prog) J0 B 11 1 (entryC Tryz.prog 10 6 (([.agg (encSea s).toArray]).map (pushT 0 4))) H00 1
    [(3, HintT.pure (Value.bool true) [])] 0 [] []) [] = some (Value.int IntKind.i64 0,
    [AllP [] ∧ PureC Tryz.prog J0 33 #[Value.agg #[Value.int IntKind.i64 s.cells, Value.int IntKind.i64 s.start, slT s.courses.length (rowL slI2 s.courses), slT s.stars.length (rowL encI s.stars), slT s.boats.length (rowL encI s.boats), slT s.roads.length (rowL encI s.roads)]] (Value.bool true)]) := by kernel_rfl
set_option maxRecDepth 100000 in
theorem pCheck_s1 (B : Lo) (s : CSea) : endT (srunT Tryz.prog (okFn Tryz.prog) J0 B 10 1 (entryC Tryz.prog 10 6 (([.agg (encSea s).toArray]).map (pushT 0 4))) H00 1
    [(3, HintT.pure (Value.bool false) [])] 0 [] []) [] = some (Value.int IntKind.i64 2,
    [AllP [] ∧ PureC Tryz.prog J0 33 #[Value.agg #[Value.int IntKind.i64 s.cells, Value.int IntKind.i64 s.start, slT s.courses.length (rowL slI2 s.courses), slT s.stars.length (rowL encI s.stars), slT s.boats.length (rowL encI s.boats), slT s.roads.length (rowL encI s.roads)]] (Value.bool false)]) := by kernel_rfl
set_option maxHeartbeats 4000000 in
theorem pCheck_e (s : CSea)  {B : Lo} (hJ : ∀ w, B.has w → J0 w) : EndsT Tryz.prog B (entryC Tryz.prog 10 6 (([.agg (encSea s).toArray]).map (pushT 0 4))) (.int .i64 (bif seaB s then 0 else 2)) := by
  cases q0 : seaB s with
  | true =>
    exact (GoE.endsT okF hJ mixed_ok GoE.start (pCheck_s0 B s)
      ⟨⟨trivial, (by have t_ := pisSea (s); rw [q0] at t_; exact t_)⟩, trivial⟩).cast (by first | rfl | (simp [*]; done) | (simp_all []; done) | (simp_all []; omega))
  | false =>
    exact (GoE.endsT okF hJ mixed_ok GoE.start (pCheck_s1 B s)
      ⟨⟨trivial, (by have t_ := pisSea (s); rw [q0] at t_; exact t_)⟩, trivial⟩).cast (by first | rfl | (simp [*]; done) | (simp_all []; done) | (simp_all []; omega))
theorem pCheck (s : CSea)  : PureC Tryz.prog J0 10 #[.agg (encSea s).toArray] (.int .i64 (bif seaB s then 0 else 2)) :=
  pureC_of (ts := [.agg (encSea s).toArray]) J0_st (c0 := entryC Tryz.prog 10 6 (([.agg (encSea s).toArray]).map (pushT 0 4))) (by kernel_rfl) (by kernel_rfl) fun B hJ => pCheck_e s  hJ
end Go.Proofs.YtiaaikkmipmhnaaGreatDoor

namespace Go.Proofs.YtiaaikkmipmhnaaGreatDoor
open Go Go.CE Go.RowKit
def lenI (s : Int) : Int := if s = 0 then 0 else ((s.toNat.log2 + 1 : Nat) : Int)
theorem len_all : (List.range 1024).all (fun x => isAns (callC Tryz.prog (okFn Tryz.prog) noOrc 10000 89 #[.int .u64 (x : Nat)] (heapOf 0 []) ([] : List (Array Value × TypeId)).length) (.int .i64 (lenI (x : Nat))) []) = true := by decide +kernel
theorem pLen (s : Int) (h0 : 0 ≤ s) (h1 : s < 1024) : PureC Tryz.prog J0 89 #[.int .u64 s] (.int .i64 (lenI s)) := by
  obtain ⟨k, rfl⟩ : ∃ k : Nat, s = k := ⟨s.toNat, by omega⟩
  exact pureC_closed okF mixed_ok (fuel := 10000) (by kernel_rfl) (by kernel_rfl) (by kernel_rfl) (List.all_eq_true.1 len_all k (List.mem_range.2 (by omega)))

set_option maxRecDepth 100000 in
theorem pWith_s0 (B : Lo) (s n : Int) : endT (srunT Tryz.prog (okFn Tryz.prog) J0 B 6 1 (entryC Tryz.prog 80 9 (([.int .i64 s, .int .i64 n]).map (pushT 0 4))) H00 1
    [(3, HintT.bin (Value.int IntKind.i64 (↑(pow2 n) : Int))), (4, HintT.bin (Value.int IntKind.i64 (↑(orN s (↑(pow2 n) : Int)) : Int)))] 0 [] []) [] = some (Value.int IntKind.i64 (↑(orN s (↑(pow2 n) : Int)) : Int),
    [BinTo Tryz.prog BinOp.or 79 (tget { len := 16000, tr := Tri.set 14 (Tri.set 14 Tri.lf 7 (Value.int IntKind.i64 (↑(pow2 n) : Int))) 5 (Value.int IntKind.i64 s) } 5) (tget { len := 16000, tr := Tri.set 14 (Tri.set 14 Tri.lf 7 (Value.int IntKind.i64 (↑(pow2 n) : Int))) 5 (Value.int IntKind.i64 s) } 7) (Value.int IntKind.i64 (↑(orN s (↑(pow2 n) : Int)) : Int)), BinTo Tryz.prog BinOp.shl 79 (Value.int IntKind.i64 1) (tget { len := 16000, tr := Tri.set 14 Tri.lf 6 (Value.int IntKind.i64 n) } 6) (Value.int IntKind.i64 (↑(pow2 n) : Int))]) := by kernel_rfl
set_option maxHeartbeats 4000000 in
theorem pWith_e (s n : Int) (hn : 0 ≤ n ∧ n ≤ 61) (hs : 0 ≤ s ∧ s ≤ 4611686018427387904) {B : Lo} (hJ : ∀ w, B.has w → J0 w) : EndsT Tryz.prog B (entryC Tryz.prog 80 9 (([.int .i64 s, .int .i64 n]).map (pushT 0 4))) (.int .i64 (setW s n)) := by
  have e1 := pow2_le (n := n) (by omega)
  exact (GoE.endsT okF hJ mixed_ok GoE.start (pWith_s0 B s n)
    ⟨(bin_or (by omega) (by omega) (by omega) (by omega)), ⟨(bin_shl1 (by omega) (by omega)), trivial⟩⟩).cast (by first | rfl | (simp [setW, *]; done) | (simp_all [setW]; done) | (simp_all [setW]; omega))
theorem pWith (s n : Int) (hn : 0 ≤ n ∧ n ≤ 61) (hs : 0 ≤ s ∧ s ≤ 4611686018427387904) : PureC Tryz.prog J0 80 #[.int .i64 s, .int .i64 n] (.int .i64 (setW s n)) :=
  pureC_of (ts := [.int .i64 s, .int .i64 n]) J0_st (c0 := entryC Tryz.prog 80 9 (([.int .i64 s, .int .i64 n]).map (pushT 0 4))) (by kernel_rfl) (by kernel_rfl) fun B hJ => pWith_e s n hn hs hJ
end Go.Proofs.YtiaaikkmipmhnaaGreatDoor

