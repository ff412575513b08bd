/- TW 9: runs from entries at which there are blocks that may be written: rounds of loops, what goes through a loop, closures. -/
import Derived.Test.YtoihlobogbeigaaGreatZOp08
import Derived.Deep.Slices
import Derived.Carry
import Derived.WideShapes
import Derived.ChangeShapes
import Derived.SevenTiedAt
import Derived.Test.YtoihlobogbeigaaGreatZOp06
import Derived.Test.YtoihlobogbeigaaGreatProg
set_option linter.all false
namespace Go.CE
open Go Go.RowKit

theorem Post.widen {B n n' : Nat} {S : Nat → Prop} {W W' : List Nat} {μ μ' : Mu} {H H' : Heap} {w w' : World} (hok : Ok B S μ (hget H) w) (h : Post B S n n' W μ μ' H H' w w') (hW : ∀ i, i < n → i ∈ W → i ∈ W') (hw : ∀ i, i < n → i ∈ W' → S i ∧ ∃ o, hget H i = some o ∧ live o ∧ ∀ im, μ i = some im → im.rw = true) : Post B S n n' W' μ μ' H H' w w' :=
  ⟨h.ok, h.le, h.ext, fun i hi hw' => h.keep i hi fun e => hw' (hW i hi e), h.grow, fun b hb hx => h.frame b hb fun i hi hl => hx i (hW i hl hi) hl, fun i hi hl => by
    obtain ⟨hs, o, hg, hl', hr⟩ := hw i hl hi
    obtain ⟨im, him, _⟩ := hok.rel i _ hs hg hl'
    exact ⟨hs, ⟨o, hg, hl'⟩, im, him, hr im him⟩, fun i im o h1 h2 ho hl hm => by
    obtain ⟨hr, hf⟩ := h.fresh i im o h1 h2 ho hl hm
    exact ⟨hr, hf.imp id fun ⟨k, a, b, d⟩ => ⟨k, hW k b a, b, d⟩⟩, fun i im o hi ho hr hm b x hx => by
    have res : (n ≤ i ∧ i < n' ∨ i ∈ W ∧ i < n) → w.heap.size ≤ b ∨ (∃ k kim ko, S k ∧ k < n ∧ hget H k = some ko ∧ isReg ko ∧ μ k = some kim ∧ kim.fm b = some x) ∨ ∃ k, k ∈ W' ∧ k < n ∧ (∃ im', μ k = some im' ∧ im'.blk = b) ∧ ∀ o, hget H' k = some o → ¬ live o := fun hc => by
      rcases h.rf i im o hc ho hr hm b x hx with e | e | ⟨k, p, q, r⟩
      · exact .inl e
      · exact .inr (.inl e)
      · exact .inr (.inr ⟨k, hW k q p, q, r⟩)
    rcases hi with hi | ⟨hi, hlt⟩
    · exact res (.inl hi)
    · by_cases hin : i ∈ W
      · exact res (.inr ⟨hin, hlt⟩)
      · obtain ⟨_, o', hg, hl, _⟩ := hw i hlt hi
        rw [h.keep i hlt hin, hg] at ho
        cases ho
        exact absurd hl (by cases o <;> first | exact id | exact hr.elim), h.os, h.tape, h.output⟩
def Writable (H0 : Heap) (a : Nat) (Wf : List Nat) : Prop := ∀ i, i < a → i ∈ Wf → (∃ cs t, hget H0 i = some (.cells cs t (0, 0))) ∨ (∃ r, hget H0 i = some (.loop r)) ∨ (∃ es clk, hget H0 i = some (.map es clk)) ∨ ∃ ds, hget H0 i = some (.deferred ds)
def writB (o : Option Obj) : Bool := match o with
  | some (.cells _ _ (0, 0)) | some (.loop _) | some (.map _ _) | some (.deferred _) => true
  | _ => false
theorem writable_of {H0 : Heap} {a : Nat} {Wf : List Nat} (h : (Wf.all fun i => writB (hget H0 i)) = true) : Writable H0 a Wf := fun i _ hi => by
  have := List.all_eq_true.1 h i hi
  unfold writB at this
  split at this
  · rename_i cs t hg; exact .inl ⟨cs, t, hg⟩
  · rename_i r hg; exact .inr (.inl ⟨r, hg⟩)
  · rename_i es clk hg; exact .inr (.inr (.inl ⟨es, clk, hg⟩))
  · rename_i ds hg; exact .inr (.inr (.inr ⟨ds, hg⟩))
  · cases this
theorem Writable.rw {B : Nat} {μ : Mu} {H0 : Heap} {a : Nat} {Wf : List Nat} {w : World} (h : Writable H0 a Wf) (hok : Ok B (fun i => i < a) μ (hget H0) w) {i : Nat} (hi : i < a) (hw : i ∈ Wf) : i < a ∧ ∃ o, hget H0 i = some o ∧ live o ∧ ∀ im, μ i = some im → im.rw = true := by
  rcases h i hi hw with ⟨cs, t, hg⟩ | ⟨r, hg⟩ | ⟨es, clk, hg⟩ | ⟨ds, hg⟩
  · refine ⟨hi, _, hg, trivial, fun im him => ?_⟩
    obtain ⟨im', him', hor⟩ := hok.rel i _ hi hg trivial
    rw [him] at him'; cases him'
    rcases hor with ⟨_, h, _⟩ | ⟨h, _⟩
    · exact h
    · exact absurd rfl h
  all_goals
    refine ⟨hi, _, hg, trivial, fun im him => ?_⟩
    obtain ⟨im', him', hor⟩ := hok.rel i _ hi hg trivial
    rw [him] at him'; cases him'
    exact hor.1
def headR (ro : Option Nat) (f : FuncId) (len : Nat) (live : List (Nat × Value)) (d : Nat → Value) (todo : List Item) : CF := ⟨f, mkT len live d, todo, [], .run, ro⟩
/-- A heap: what there was, some of it otherwise; a region; blocks of the run's own. -/
def headA (Hb : Heap) (a : Nat) (ws : Heap) (os : List Obj) : Heap := ws ++ ((a, regO) :: (heapL (a + 1) os ++ Hb))
def posA (a : Nat) (olds : List Nat) (k : Nat) : Option Nat := bif Nat.blt k a then some k else posOf olds (a + 1) k
def coWs (H : Heap) (m : Nat) (pos : Nat → Option Nat) (fz : List Fz) : List (Nat × KS) → Option (Heap × List Prop)
  | [] => some ([], [])
  | (k, s) :: l => match coO H m pos fz (hget H k) s with
    | some (o, L) => match coWs H m pos fz l with
      | some (os, L2) => some ((k, o) :: os, L ++ L2)
      | none => none
    | none => none
theorem coWs_get {H : Heap} {m : Nat} {pos : Nat → Option Nat} {fz : List Fz} : ∀ (l : List (Nat × KS)) (ws : Heap) (L : List Prop), coWs H m pos fz l = some (ws, L) → ∀ i, (hget ws i = none ↔ i ∉ l.map (·.1)) ∧ ∀ o, hget ws i = some o → ∃ s L1, coO H m pos fz (hget H i) s = some (o, L1) ∧ (AllP L → AllP L1)
  | [], ws, L, h, i => by
    simp only [coWs, Option.some.injEq, Prod.mk.injEq] at h
    obtain ⟨rfl, rfl⟩ := h
    simp [hget]
  | (k, s) :: l, ws, L, h, i => by
    simp only [coWs] at h
    split at h
    · rename_i t L1 h1
      split at h
      · rename_i ts2 L2 h2
        simp only [Option.some.injEq, Prod.mk.injEq] at h
        obtain ⟨rfl, rfl⟩ := h
        obtain ⟨k1, k2⟩ := coWs_get l ts2 L2 h2 i
        rw [hget_cons]
        by_cases e : i = k
        · subst e
          simp only [if_true, List.map_cons, List.mem_cons, true_or, not_true_eq_false, iff_false]
          exact ⟨by simp, fun o ho => by cases ho; exact ⟨s, L1, h1, fun h => (allP_append h).1⟩⟩
        · rw [if_neg e]
          refine ⟨by rw [k1]; simp [e], fun o ho => ?_⟩
          obtain ⟨s', L', a, b⟩ := k2 o ho
          exact ⟨s', L', a, fun h => b (allP_append h).2⟩
      · cases h
    · cases h
structure LandA where
  fn : FuncId
  len : Nat
  todo : List Item
  defers : List Nat
  mode : CM
  roundOf : Option Nat
  vals : List Value
  ws : Heap
  objs : List Obj
  L : List Prop
def sideA (a : Nat) (H : Heap) (W : List Nat) (wks keeps : List (Nat × KS)) (fz : List Fz) : Bool :=
  (W.all fun i => (wks.map (·.1)).contains i) && (wks.all fun k => Nat.blt k.1 a) && distinct (keeps.map (·.1)) && (keeps.all fun k => Nat.ble a k.1) && (fz.all fun x => Nat.ble a x.k && ownB (hget H x.k) && (keeps.all fun k => !(Nat.beq k.1 x.k)))
def landA (a : Nat) (s : Option ST) (slots : List Nat) (wks keeps : List (Nat × KS)) (fz : List Fz) : Option LandA := match s with
  | some ⟨.at c H n, W, L⟩ => bif sideA a H W wks keeps fz then
      match coL (coV H a (posA a (keeps.map (·.1))) fz 4) (slots.map (tget c.tmps)), coWs H a (posA a (keeps.map (·.1))) fz wks, coObjs H a (posA a (keeps.map (·.1))) fz keeps with
      | some (vs, L1), some (ws, L3), some (os, L2) => some ⟨c.fn, c.tmps.len, c.todo, c.defers, c.mode, c.roundOf, vs, ws, os, L1 ++ (L3 ++ (L2 ++ L))⟩
      | _, _, _ => none
    else none
  | _ => none
section
variable {P : Program} {F : FuncId → Bool} {J : World → Prop} {B : Lo} {c0 c : CF} {Hb H : Heap} {a n : Nat} {W Wf : List Nat}
theorem GoE.widen (h : GoE P B c0 Hb a c H n W) (hW : ∀ i, i < a → i ∈ W → i ∈ Wf) (hw : Writable Hb a Wf) : GoE P B c0 Hb a c H n Wf :=
  ⟨h.under, h.le, fun Z μ w fr cs hok hB hf hfr => by
    obtain ⟨fr', w', μ', hp, r⟩ := h.sem Z μ w fr cs hok hB hf hfr
    exact ⟨fr', w', μ', hp.widen hok hW fun i hi hiW => hw.rw hok hi hiW, r⟩⟩
theorem headA_get {ws : Heap} {os : List Obj} (i : Nat) : hget (headA Hb a ws os) i = match hget ws i with
    | some o => some o
    | none => if i = a then some regO else if a < i ∧ i < a + 1 + os.length then os[i - (a + 1)]? else hget Hb i := by
  unfold headA
  rw [hget_append]
  cases hget ws i with
  | some o => rfl
  | none =>
    simp only
    rw [hget_cons]
    by_cases e : i = a
    · rw [if_pos e, if_pos e]
    · rw [if_neg e, if_neg e, hget_append, heapL_get]
      by_cases h1 : a + 1 ≤ i
      · rw [if_pos h1]
        by_cases h2 : i < a + 1 + os.length
        · rw [if_pos ⟨by omega, h2⟩]
          have : i - (a + 1) < os.length := by omega
          simp [this]
        · rw [if_neg (by omega), List.getElem?_eq_none (by omega)]
      · rw [if_neg h1, if_neg (by omega)]
theorem under_headA {ws : Heap} {os : List Obj} (hu : Under Hb a) (hws : ∀ i o, hget ws i = some o → i < a) : Under (headA Hb a ws os) (a + 1 + os.length) := fun i hi => by
  rw [headA_get]
  cases hg : hget ws i with
  | some o => have := hws i o hg; omega
  | none => simp only; rw [if_neg (by omega), if_neg (by omega)]; exact hu i (by omega)
/-- What a landing, or an end, comes to in worlds. -/
theorem merge_core {n' : Nat} {H' : Heap} {μ μ' : Mu} {w w' : World} {W' : List Nat} {wks keeps : List (Nat × KS)} {fz : List Fz} {ws : Heap} {os : List Obj} {L2 L3 : List Prop} (hu : Under Hb a) (hw : Writable Hb a (wks.map (·.1))) (hu' : Under H' n') (hq : sideA a H' W' wks keeps fz = true)
    (hok : Ok B.B (fun i => i < a) μ (hget Hb) w) (hf : ∀ i, a ≤ i → μ i = none) (hp : Post B.B (fun i => i < a) a n' (wks.map (·.1)) μ μ' Hb H' w w')
    (hws : coWs H' a (posA a (keeps.map (·.1))) fz wks = some (ws, L3)) (hos : coObjs H' a (posA a (keeps.map (·.1))) fz keeps = some (os, L2)) (hL3 : AllP L3) (hL2 : AllP L2) :
    ∃ μ1 im1, CoOk H' a (posA a (keeps.map (·.1))) fz μ' μ1 w' n' (fz.map (·.k)) im1 ∧ Post B.B (fun i => i < a) a (a + 1 + os.length) (wks.map (·.1)) μ μ1 Hb (headA Hb a ws os) w w' ∧ (∀ i, a + 1 + os.length ≤ i → μ1 i = none) ∧ (∀ i o, hget ws i = some o → i < a) := by
  unfold sideA at hq
  simp only [Bool.and_eq_true] at hq
  obtain ⟨⟨⟨⟨hW, hwlt⟩, hdist⟩, hge⟩, hfz⟩ := hq
  have wlt : ∀ i, i ∈ wks.map (·.1) → i < a := fun i hi => by
    obtain ⟨k, hk, rfl⟩ := List.mem_map.1 hi
    exact Nat.le_of_ble_eq_true (List.all_eq_true.1 hwlt k hk)
  have wsget := coWs_get wks ws L3 hws
  have wslt : ∀ i o, hget ws i = some o → i < a := fun i o ho => by
    refine wlt i (Decidable.of_not_not fun e => ?_)
    have := (wsget i).1.2 e
    rw [this] at ho; cases ho
  have hlenos := (coObjs_get keeps os L2 hos).1
  let ρ : Nat → Nat := fun i => if i < a then i else ((keeps.map (·.1))[i - (a + 1)]?).getD i
  have hρ : ∀ i k, a + 1 ≤ i → (keeps.map (·.1))[i - (a + 1)]? = some k → ρ i = k := fun i k hi hk => by
    show (if i < a then i else ((keeps.map (·.1))[i - (a + 1)]?).getD i) = k
    rw [if_neg (by omega), hk]; rfl
  have hρlow : ∀ i, i < a → ρ i = i := fun i hi => by
    show (if i < a then i else ((keeps.map (·.1))[i - (a + 1)]?).getD i) = i
    rw [if_pos hi]
  have get : ∀ i, a < i → i < a + 1 + os.length → ∃ k, (keeps.map (·.1))[i - (a + 1)]? = some k ∧ ρ i = k ∧ a ≤ k := by
    intro i h1 h2
    have hlt : i - (a + 1) < keeps.length := by omega
    refine ⟨(keeps[i - (a + 1)]).1, by simp [hlt], hρ i _ (by omega) (by simp [hlt]), ?_⟩
    exact Nat.le_of_ble_eq_true (List.all_eq_true.1 hge _ (List.getElem_mem hlt))
  let im1 : Img := ⟨0, 0, 0, false, fmU μ' H' w' (regsL H' n' ++ fz.map (·.k))⟩
  let μ1 := muM a (a + 1 + os.length) ρ μ μ' (fmU μ' H' w' (regsL H' n' ++ fz.map (·.k)))
  have hco : CoOk H' a (posA a (keeps.map (·.1))) fz μ' μ1 w' n' (fz.map (·.k)) im1 := by
    refine ⟨⟨B.B, _, hp.ok, fun i hi => ?_⟩, hu', fun k j hj => ?_, ?_, rfl, fun x hx => List.mem_map.2 ⟨x, hx, rfl⟩⟩
    · rcases Nat.lt_or_ge i a with h | h
      · exact .inl h
      · exact .inr ⟨h, hi⟩
    · unfold posA at hj
      cases hb : Nat.blt k a with
      | true =>
        rw [hb] at hj
        simp only [cond_true, Option.some.injEq] at hj
        subst hj
        have hlt : k < a := Nat.le_of_ble_eq_true hb
        show muM a (a + 1 + os.length) ρ μ μ' _ k = μ' k
        unfold muM
        rw [if_neg (by omega), if_neg (by omega), hp.ext k (by omega)]
      | false =>
        rw [hb] at hj
        obtain ⟨h1, h2⟩ := posOf_spec _ _ _ _ hj
        have hlt : j - (a + 1) < keeps.length := by
          have := (List.getElem?_eq_some_iff.1 h2).1
          simpa using this
        show muM a (a + 1 + os.length) ρ μ μ' _ j = μ' k
        unfold muM
        rw [if_neg (by omega), if_pos ⟨by omega, by omega⟩, hρ j k h1 h2]
    · show muM a (a + 1 + os.length) ρ μ μ' _ a = some im1
      unfold muM
      rw [if_pos rfl]
  have hkeeps : KeepsM a n' (a + 1 + os.length) (wks.map (·.1)) μ μ' Hb H' (headA Hb a ws os) w' ρ (fz.map (·.k)) := by
    refine ⟨by omega, hρlow, fun i h1 h2 => ?_, fun i j h1 h2 h3 h4 h5 => ?_, under_headA hu wslt, fun i hi hn => ?_, ?_, fun i o1 hi hc ho => ?_, fun k hk => ?_⟩
    · obtain ⟨k, hk, hk2, hk3⟩ := get i h1 h2
      refine ⟨by omega, ?_⟩
      rw [hk2]
      have hlt : i - (a + 1) < os.length := by omega
      obtain ⟨k', s, L', ha, hb, hc⟩ := (coObjs_get keeps os L2 hos).2 (i - (a + 1)) os[i - (a + 1)] (by simp [hlt])
      have : k' = k := by
        rw [List.getElem?_map, ha] at hk
        simpa using hk
      subst this
      obtain ⟨⟨x, hx⟩, _⟩ := coO_sound hco hb (hc hL2)
      exact hu'.lt hx
    · obtain ⟨k, hk, hk2, _⟩ := get i h1 h2
      obtain ⟨k', hk', hk2', _⟩ := get j h3 h4
      rw [hk2, hk2'] at h5
      subst h5
      have := distinct_inj hdist _ _ _ hk hk'
      omega
    · rw [headA_get, (wsget i).1.2 hn]
      simp only
      rw [if_neg (by omega), if_neg (by omega)]
    · rw [headA_get]
      cases hg : hget ws a with
      | some o => have := wslt a o hg; omega
      | none => simp
    · rcases hc with h1i | ⟨hin, hlt⟩
      · rw [headA_get] at ho
        have hn : hget ws i = none := by
          cases hg : hget ws i with
          | none => rfl
          | some o => have := wslt i o hg; omega
        rw [hn] at ho
        simp only at ho
        rw [if_neg (by omega), if_pos ⟨h1i, hi⟩] at ho
        obtain ⟨k, s, L', ha, hb, hc'⟩ := (coObjs_get keeps os L2 hos).2 (i - (a + 1)) o1 ho
        obtain ⟨_, hnr, hli⟩ := coO_sound hco hb (hc' hL2)
        refine ⟨hnr, fun hl1 => ?_⟩
        obtain ⟨x, hx, hl, hor⟩ := hli hl1
        refine ⟨x, ?_, hl, fun im _ h => hor im h⟩
        rw [hρ i k (by omega) (by rw [List.getElem?_map, ha]; rfl)]
        exact hx
      · cases hg : hget ws i with
        | none => exact absurd hin ((wsget i).1.1 hg)
        | some o =>
          rw [headA_get, hg] at ho
          simp only [Option.some.injEq] at ho
          subst ho
          obtain ⟨s, L1, h1, h2⟩ := (wsget i).2 o hg
          obtain ⟨_, hnr, hli⟩ := coO_sound hco h1 (h2 hL3)
          refine ⟨hnr, fun hl1 => ?_⟩
          obtain ⟨x, hx, hl, hor⟩ := hli hl1
          exact ⟨x, by rw [hρlow i hlt]; exact hx, hl, fun im _ h => hor im h⟩
    · obtain ⟨x, hx, rfl⟩ := List.mem_map.1 hk
      have := List.all_eq_true.1 hfz x hx
      simp only [Bool.and_eq_true] at this
      obtain ⟨⟨q1, q2⟩, q3⟩ := this
      have hown : ∃ o, hget H' x.k = some o ∧ live o := by
        unfold ownB at q2
        split at q2
        · rename_i ho; exact ⟨_, ho, trivial⟩
        · cases q2
      obtain ⟨o, ho, hl⟩ := hown
      refine ⟨Nat.le_of_ble_eq_true q1, hu'.lt ho, ⟨o, ho, hl⟩, fun i h1 h2 hr => ?_⟩
      obtain ⟨k, hk, hk2, _⟩ := get i h1 h2
      rw [hk2] at hr
      rw [List.getElem?_map] at hk
      cases hy : keeps[i - (a + 1)]? with
      | none => rw [hy] at hk; cases hk
      | some y =>
        rw [hy] at hk
        simp only [Option.map_some, Option.some.injEq] at hk
        have := List.all_eq_true.1 q3 y (List.mem_of_getElem? hy)
        rw [hk, hr] at this
        simp at this
  refine ⟨μ1, im1, hco, hp.merge hok hf hkeeps, fun i hi => ?_, wslt⟩
  show muM a (a + 1 + os.length) ρ μ μ' _ i = none
  unfold muM
  rw [if_neg (by omega), if_neg (by omega)]
  exact hf i (by omega)
theorem GoE.landA (hF : ∀ g, F g = true → okFn P g = true) (hJ : ∀ w, B.has w → J w) (hmix : P.follows .mixedOrders = true) {wks : List (Nat × KS)} (hu : Under Hb a) (hw : Writable Hb a (wks.map (·.1))) (h : GoE P B c0 Hb a c H n (wks.map (·.1))) {fuel : Nat} {sc : ScriptT} {f : FuncId} {len : Nat} {todo : List Item} {ro : Option Nat} {slots : List Nat} {keeps : List (Nat × KS)} {fz : List Fz} {vs : List Value} {ws : Heap} {os : List Obj} {L : List Prop}
    (e : CE.landA a (srunT P F J B fuel a c H n sc 0 [] []) slots wks keeps fz = some ⟨f, len, todo, [], .run, ro, vs, ws, os, L⟩) (hL : AllP L) (hlen : Nat.ble len 16000 = true) (hplain : todo.all plainItem = true) (hro : ∀ l, ro = some l → l < a) :
    ∃ d : Nat → Value, (∀ t, Loose (d t)) ∧ GoE P B c0 Hb a (headR ro f len (slots.zip vs) d todo) (headA Hb a ws os) (a + 1 + os.length) (wks.map (·.1)) := by
  unfold CE.landA at e
  split at e
  · rename_i c' H' n' W' L' hs
    cases hq : sideA a H' W' wks keeps fz with
    | false => rw [hq] at e; cases e
    | true =>
      rw [hq] at e
      simp only [cond_true] at e
      split at e
      · rename_i vs0 L1 ws0 L3 os0 L2 hvs hws hos
        simp only [Option.some.injEq, LandA.mk.injEq] at e
        obtain ⟨e1, e2, e3, e4, e5, e6, rfl, rfl, rfl, rfl⟩ := e
        obtain ⟨hL1, hLr⟩ := allP_append hL
        obtain ⟨hL3, hLr⟩ := allP_append hLr
        obtain ⟨hL2, hL4⟩ := allP_append hLr
        obtain ⟨R, W2, hgo, hiff⟩ := srunT_sound hF hJ hmix fuel a c H n sc 0 [] [] _ h.under hs hL4
        have hg := (h.step hgo).widen (Wf := wks.map (·.1)) (fun i hi hm => by
          rcases List.mem_append.1 hm with hm | hm
          · exact hm
          · have hi' : i ∈ W' := (hiff i hi).2 (.inr hm)
            unfold sideA at hq
            simp only [Bool.and_eq_true] at hq
            simpa using List.all_eq_true.1 hq.1.1.1.1 i hi') hw
        have hd : ∀ t, ∃ d, Loose d ∧ ∀ μ v', VR μ (tget c'.tmps t) v' → VR μ d v' := fun t => forget_ex _
        have wslt : ∀ i o, hget ws0 i = some o → i < a := fun i o ho => by
          have hq' := hq
          unfold sideA at hq'
          simp only [Bool.and_eq_true] at hq'
          have hin : i ∈ wks.map (·.1) := Decidable.of_not_not fun e => by
            have := (coWs_get wks ws0 L3 hws i).1.2 e
            rw [this] at ho; cases ho
          obtain ⟨k, hk, rfl⟩ := List.mem_map.1 hin
          exact Nat.le_of_ble_eq_true (List.all_eq_true.1 hq'.1.1.1.2 k hk)
        refine ⟨fun t => Classical.choose (hd t), fun t => (Classical.choose_spec (hd t)).1, under_headA hu wslt, by omega, fun Z μ w fr cs hok hB hf hfr => ?_⟩
        obtain ⟨fr', w', μ', hp, hfr', ha, hb, hst⟩ := hg.sem Z μ w fr cs hok hB hf hfr
        obtain ⟨μ1, im1, hco, hpost, hfree, _⟩ := merge_core hu hw hg.under hq hok hf hp hws hos hL3 hL2
        have hpans : c'.mode.pans = false := by rw [e5]; rfl
        refine ⟨fr', w', μ1, hpost, ⟨by rw [hfr'.fn, e1]; rfl, ?_, fun _ => (e3 ▸ hfr'.todo hpans).plain hplain, ?_, ?_, hfr'.kind, ?_⟩, ha, hb, hst⟩
        · refine hfr'.tmps.merge e2 (Nat.le_of_ble_eq_true hlen) (fun p hp v' hv => ?_) fun t => Classical.choose_spec (hd t)
          obtain ⟨i, hi⟩ := List.getElem?_of_mem hp
          rw [List.getElem?_zip_eq_some] at hi
          obtain ⟨hi1, hi2⟩ := hi
          obtain ⟨u, L', ha, hb, hc⟩ := (coL_get _ _ _ hvs).2 i p.2 hi2
          rw [List.getElem?_map, hi1] at ha
          simp only [Option.map_some, Option.some.injEq] at ha
          subst ha
          exact coV_sound hco 4 _ _ _ _ hb (hc hL1) hv
        · have := hfr'.defers
          rw [e4] at this
          exact .of_empty this.empty
        · have := hfr'.mode
          rw [e5] at this
          generalize fr'.mode = ds at this
          cases this
          exact .run
        · have := hfr'.round
          rw [e6] at this
          show RoR μ1 ro fr'.roundOf
          generalize fr'.roundOf = x at this
          cases ro with
          | none =>
            cases x with
            | none => trivial
            | some x => cases this
          | some l =>
            cases x with
            | none => cases this
            | some x =>
              obtain ⟨im, h1, h2⟩ := this
              have hl := hro l rfl
              refine ⟨im, ?_, h2⟩
              rw [hpost.ext l (by omega)]
              rw [hp.ext l (by omega)] at h1
              exact h1
      · cases e
  · cases e
/-- Values in which no numbers stand but those below a. -/
def lowS (a : Nat) (v : Value) : Bool := simple v || match v with
  | .func (.via r ⟨[]⟩ 0 true) ⟨[_]⟩ ⟨[]⟩ => Nat.blt r a
  | .pointer (some ⟨k, _, none⟩) => Nat.blt k a
  | .slice (some ⟨k, _, none⟩) _ _ => Nat.blt k a
  | .map (some r) => Nat.blt r a
  | .func (.yield l) ⟨[]⟩ ⟨[]⟩ => Nat.blt l a
  | .chan none => true
  | _ => false
def lowV (a : Nat) : Nat → Value → Bool
  | 0, v => lowS a v
  | f + 1, v => match v with
    | .agg xs => xs.all (lowV a f)
    | .tuple xs => xs.all (lowV a f)
    | .iface _ x => lowV a f x
    | .func (.func _) xs ys => xs.all (lowV a f) && ys.all (lowV a f)
    | v => lowS a v
section
variable {μ μ0 : Mu} (hμ : ∀ b, b < a → μ0 b = μ b)
include hμ
theorem lowS_VR {v v' : Value} (h : lowS a v = true) (hv : VR μ v v') : VR μ0 v v' := by
  unfold lowS at h
  cases hs : simple v with
  | true => rw [simple_eq hs hv]; exact vr_simple hs
  | false =>
    rw [hs] at h
    simp only [Bool.false_or] at h
    have lt : ∀ {k}, Nat.blt k a = true → μ0 k = μ k := fun h => hμ _ (Nat.le_of_ble_eq_true h)
    split at h
    · cases hv with
      | top h1 h2 h3 => exact .top h1 (by rw [lt h]; exact h2) h3
    · cases hv with
      | ptr har =>
        obtain ⟨im, h1, h2, h3⟩ := har
        exact .ptr ⟨im, by rw [lt h]; exact h1, h2, h3⟩
    · cases hv with
      | slice har x y z =>
        obtain ⟨im, h1, h2, h3⟩ := har
        exact .slice ⟨im, by rw [lt h]; exact h1, h2, h3⟩ x y fun hz im' him' => z hz im' (by rw [← lt h]; exact him')
    · cases hv with
      | map hr => exact .map (by rw [lt h]; exact hr)
    · cases hv with
      | yield hr => exact .yield (by rw [lt h]; exact hr)
    · cases hv with
      | junk x y z => exact .junk x y z
    · cases h
theorem lowV_VR : ∀ (f : Nat) (v v' : Value), lowV a f v = true → VR μ v v' → VR μ0 v v'
  | 0, v, v', h, hv => lowS_VR hμ h hv
  | f + 1, v, v', h, hv => by
    have arr : ∀ {xs xs' : Array Value}, xs.all (lowV a f) = true → (∀ (i : Nat) v v', xs[i]? = some v → xs'[i]? = some v' → VR μ v v') → ∀ (i : Nat) v v', xs[i]? = some v → xs'[i]? = some v' → VR μ0 v v' :=
      fun ha hx i v v' h1 h2 => lowV_VR f v v' (Array.all_eq_true'.1 ha v (Array.mem_of_getElem? h1)) (hx i v v' h1 h2)
    cases v with
    | agg xs => cases hv with | agg h1 h2 => exact .agg h1 (arr h h2)
    | tuple xs => cases hv with | tuple h1 h2 => exact .tuple h1 (arr h h2)
    | iface t x => cases hv with | iface hv => exact .iface (lowV_VR f x _ h hv)
    | func fn xs ys =>
      cases fn with
      | func g =>
        have h : (xs.all (lowV a f) && ys.all (lowV a f)) = true := h
        simp only [Bool.and_eq_true] at h
        cases hv with
        | func h1 h2 h3 h4 => exact .func h1 h2 (arr h.1 h3) (arr h.2 h4)
      | _ => exact lowS_VR hμ (by exact h) hv
    | _ => exact lowS_VR hμ (by exact h) hv
end
theorem low_slots {μ μ0 : Mu} (hμ : ∀ b, b < a → μ0 b = μ b) {T : Tm} {A : Array Value} (hl : ∀ t, lowV a 4 (tget T t) = true ∨ Loose (tget T t)) (h : TR μ T A) : TR μ0 T A := ⟨h.1, fun t => (hl t).elim (fun h1 => lowV_VR hμ 4 _ _ h1 (h.2 t)) fun h1 => h1 _ _ _ (h.2 t)⟩
theorem FrR.low {μ μ0 : Mu} {fr : Frame} (hμ : ∀ b, b < a → μ0 b = μ b) (hs : ∀ t, lowV a 4 (tget c.tmps t) = true ∨ Loose (tget c.tmps t)) (hp : c.todo.all plainItem = true) (hd : c.defers = []) (hm : c.mode = .run) (hr : ∀ l, c.roundOf = some l → l < a) (h : FrR Bot.no μ c fr) : FrR Bot.no μ0 c fr := by
  have hpans : c.mode.pans = false := by rw [hm]; rfl
  refine ⟨h.fn, low_slots hμ hs h.tmps, fun _ => (h.todo hpans).plain hp, ?_, ?_, h.kind, ?_⟩
  · have := h.defers
    rw [hd] at this ⊢
    exact .of_empty this.empty
  · have := h.mode
    rw [hm] at this ⊢
    generalize fr.mode = ds at this ⊢
    cases this
    exact .run
  · have := h.round
    generalize fr.roundOf = x at this ⊢
    cases hro : c.roundOf with
    | none =>
      rw [hro] at this
      cases x with
      | none => trivial
      | some x => cases this
    | some l =>
      rw [hro] at this
      cases x with
      | none => cases this
      | some x =>
        obtain ⟨im, h1, h2⟩ := this
        exact ⟨im, by rw [hμ l (hr l hro)]; exact h1, h2⟩
/-- Objects in which no numbers stand but those below a. -/
def LV (a : Nat) (v : Value) : Prop := lowV a 4 v = true ∨ Loose v
theorem LV.vr {μ μ0 : Mu} {v v' : Value} (hμ : ∀ b, b < a → μ0 b = μ b) (h : LV a v) (hv : VR μ v v') : VR μ0 v v' := h.elim (fun h => lowV_VR hμ 4 _ _ h hv) fun h => h _ _ _ hv
def LowO (a : Nat) : Obj → Prop
  | .cells cs _ _ => ∀ (i : Nat) v, cs[i]? = some v → LV a v
  | .map es _ => ∀ (i : Nat) e, es[i]? = some e → LV a e.val
  | .loop l => ∀ (i : Nat) v, l.tmps[i]? = some v → LV a v
  | _ => True
theorem OR.low {μ μ0 : Mu} {w : World} {im : Img} {o : Obj} (hμ : ∀ b, b < a → μ0 b = μ b) (hl : LowO a o) (h : OR μ w im o) : OR μ0 w im o := by
  cases o with
  | cells cs t fz =>
    rcases h with ⟨h1, h2, h3, arr, h4, h5, h6, h7⟩ | ⟨h1, h2⟩
    · exact .inl ⟨h1, h2, h3, arr, h4, h5, h6, fun i v hv => by
        obtain ⟨v', a1, b1⟩ := h7 i v hv
        exact ⟨v', a1, (hl i v hv).vr hμ b1⟩⟩
    · exact .inr ⟨h1, fun i v hv => by
        obtain ⟨v', a1, b1⟩ := h2 i v hv
        exact ⟨v', a1, (hl i v hv).vr hμ b1⟩⟩
  | map es clk =>
    obtain ⟨h1, es', h2, h3, h4⟩ := h
    exact ⟨h1, es', h2, h3, fun i e e' he he' => by
      obtain ⟨x, y, z, u⟩ := h4 i e e' he he'
      exact ⟨x, y, z, (hl i e he).vr hμ u⟩⟩
  | loop l =>
    obtain ⟨h1, tm, df, h2, h3⟩ := h
    exact ⟨h1, tm, df, h2, h3.1, fun i v v' hv hv' => (hl i v hv).vr hμ (h3.2 i v v' hv hv')⟩
  | deferred ds => exact h
  | pending x y => trivial
  | _ => exact h
/-- The same, of which all conditions are reckoned. -/
def lowOb (a : Nat) : Obj → Bool
  | .cells cs _ _ => cs.toList.all (lowV a 4)
  | .map es _ => es.toList.all fun e => lowV a 4 e.val
  | .loop l => l.tmps.toList.all (lowV a 4)
  | _ => true
theorem lowOb_ok {a : Nat} {o : Obj} (h : lowOb a o = true) : LowO a o := by
  cases o with
  | cells cs t fz => exact fun i v hv => .inl (List.all_eq_true.1 h v (Array.mem_toList_iff.2 (Array.mem_of_getElem? hv)))
  | map es clk => exact fun i e he => .inl (List.all_eq_true.1 h e (Array.mem_toList_iff.2 (Array.mem_of_getElem? he)))
  | loop l => exact fun i v hv => .inl (List.all_eq_true.1 h v (Array.mem_toList_iff.2 (Array.mem_of_getElem? hv)))
  | _ => exact trivial
theorem hget_in : ∀ {H : Heap} {i : Nat} {o : Obj}, hget H i = some o → (i, o) ∈ H
  | [], _, _, h => by cases h
  | (k, x) :: l, i, o, h => by
    rw [hget_cons] at h
    split at h
    · rename_i e; cases h; subst e; exact List.mem_cons_self
    · exact List.mem_cons_of_mem _ (hget_in h)
theorem under_all {H : Heap} {n : Nat} (h : (H.all fun p => Nat.blt p.1 n) = true) : Under H n := fun i hi => by
  cases hg : hget H i with
  | none => rfl
  | some o => have := Nat.le_of_ble_eq_true (List.all_eq_true.1 h _ (hget_in hg)); simp at this; omega
end
end Go.CE

namespace Go.CE
open Go Go.RowKit

/-! Hints, in short. -/
def hvI (n : Int) : HintT := .old (.val (.int .i64 n))
def hvT : HintT := .old (.val (.bool true))
def hvF : HintT := .old (.val (.bool false))
def coOut (f : Value → Option (Value × List Prop)) : OO → Option (OO × List Prop)
  | .ret v => match f v with
    | some (v1, L) => some (.ret v1, L)
    | none => none
  | .pan v => match f v with
    | some (v1, L) => some (.pan v1, L)
    | none => none
def finK (a : Nat) (s : Option ST) (wks keeps : List (Nat × KS)) (fz : List Fz) : Option (OO × Heap × List Obj × List Prop) := match s with
  | some ⟨.fin out H _, W, L⟩ => bif sideA a H W wks keeps fz then
      match coOut (coV H a (posA a (keeps.map (·.1))) fz 4) out, coWs H a (posA a (keeps.map (·.1))) fz wks, coObjs H a (posA a (keeps.map (·.1))) fz keeps with
      | some (v1, L1), some (ws, L3), some (os, L2) => some (v1, ws, os, L1 ++ (L3 ++ (L2 ++ L)))
      | _, _, _ => none
    else none
  | _ => none
/-- What a frame comes to from blocks 0 .. a - 1: an answer or a panic, what it wrote of them, a region a, and blocks of its own behind it. -/
def FinK (P : Program) (B : Lo) (c0 : CF) (Hb : Heap) (a : Nat) (out : OO) (ws : Heap) (os : List Obj) (Wf : List Nat) : Prop :=
  ∀ (μ : Mu) (w : World) (fr : Frame) (cs : List Frame), Ok B (fun i => i < a) μ (hget Hb) w → B.has w → (∀ i, a ≤ i → μ i = none) → FrR Bot.no μ c0 fr →
    ∃ out' w' μ', Post B (fun i => i < a) a (a + 1 + os.length) Wf μ μ' Hb (headA Hb a ws os) w w' ∧ OR2 μ' out out' ∧ (∀ i, a + 1 + os.length ≤ i → μ' i = none) ∧ EndsAs P fr cs w out' w'
section
variable {P : Program} {F : FuncId → Bool} {J : World → Prop} {B : Lo} {c0 c : CF} {Hb H : Heap} {a n : Nat} {W Wf : List Nat}
theorem GoE.finK (hF : ∀ g, F g = true → okFn P g = true) (hJ : ∀ w, B.has w → J w) (hmix : P.follows .mixedOrders = true) {wks keeps : List (Nat × KS)} (hu : Under Hb a) (hw : Writable Hb a (wks.map (·.1))) (h : GoE P B c0 Hb a c H n (wks.map (·.1))) {fuel : Nat} {sc : ScriptT} {fz : List Fz} {out : OO} {ws : Heap} {os : List Obj} {L : List Prop}
    (e : CE.finK a (srunT P F J B fuel a c H n sc 0 [] []) wks keeps fz = some (out, ws, os, L)) (hL : AllP L) : FinK P B c0 Hb a out ws os (wks.map (·.1)) := by
  unfold CE.finK at e
  split at e
  · rename_i out0 H' n' W' L' hs
    cases hq : sideA a H' W' wks keeps fz with
    | false => rw [hq] at e; cases e
    | true =>
      rw [hq] at e
      simp only [cond_true] at e
      split at e
      · rename_i v1 L1 ws0 L3 os0 L2 hv1 hws hos
        simp only [Option.some.injEq, Prod.mk.injEq] at e
        obtain ⟨rfl, rfl, rfl, rfl⟩ := e
        obtain ⟨hL1, hLr⟩ := allP_append hL
        obtain ⟨hL3, hLr⟩ := allP_append hLr
        obtain ⟨hL2, hL4⟩ := allP_append hLr
        obtain ⟨R, W2, hfj, hiff⟩ := srunT_sound hF hJ hmix fuel a c H n sc 0 [] [] _ h.under hs hL4
        intro μ w fr cs hok hB hf hfr
        obtain ⟨out', w', μ', hp, ho, he⟩ := h.fj hfj μ w fr cs hok hB hf hfr
        have hp := hp.widen (W' := wks.map (·.1)) hok (fun i hi hm => by
          rcases List.mem_append.1 hm with hm | hm
          · exact hm
          · have hi' : i ∈ W' := (hiff i hi).2 (.inr hm)
            have hq' := hq
            unfold sideA at hq'
            simp only [Bool.and_eq_true] at hq'
            simpa using List.all_eq_true.1 hq'.1.1.1.1 i hi') (fun i hi hiW => hw.rw hok hi hiW)
        obtain ⟨μ1, im1, hco, hpost, hfree, _⟩ := merge_core hu hw (h.under.shape hfj.shape) hq hok hf hp hws hos hL3 hL2
        cases ho with
        | ret hvr =>
          unfold coOut at hv1
          split at hv1
          · rename_i v0 e0
            cases e0
            split at hv1
            · rename_i v2 L2' hv2
              simp only [Option.some.injEq, Prod.mk.injEq] at hv1
              obtain ⟨rfl, rfl⟩ := hv1
              exact ⟨_, w', μ1, hpost, .ret (coV_sound hco 4 _ _ _ _ hv2 hL1 hvr), hfree, he⟩
            · cases hv1
          · rename_i e0; cases e0
        | pan hvr =>
          unfold coOut at hv1
          split at hv1
          · rename_i e0; cases e0
          · rename_i v0 e0
            cases e0
            split at hv1
            · rename_i v2 L2' hv2
              simp only [Option.some.injEq, Prod.mk.injEq] at hv1
              obtain ⟨rfl, rfl⟩ := hv1
              exact ⟨_, w', μ1, hpost, .pan (coV_sound hco 4 _ _ _ _ hv2 hL1 hvr), hfree, he⟩
            · cases hv1
      · cases e
  · cases e
theorem FinK.cast {out out1 : OO} {ws ws1 : Heap} {os os1 : List Obj} (h : FinK P B c0 Hb a out ws os Wf) (e1 : out = out1) (e2 : ws = ws1) (e3 : os = os1) : FinK P B c0 Hb a out1 ws1 os1 Wf := e1 ▸ e2 ▸ e3 ▸ h
theorem FinK.fj {out : OO} {ws : Heap} {os : List Obj} (h : FinK P B c0 Hb a out ws os Wf) (hub : Under Hb a) (hws : ∀ i o, hget ws i = some o → i < a ∧ i ∈ Wf) (hWf : ∀ i ∈ Wf, i < a) (hs : ∀ t, lowV a 4 (tget c0.tmps t) = true ∨ Loose (tget c0.tmps t)) (hp : c0.todo.all plainItem = true) (hd : c0.defers = []) (hm : c0.mode = .run) (hr : ∀ l, c0.roundOf = some l → l < a) (hob : ∀ i o, hget Hb i = some o → LowO a o) :
    FJ P B c0 Hb a out ((ws ++ ((a, regO) :: heapL (a + 1) os)) ++ Hb) (a + 1 + os.length) (List.range a) Wf := by
  have hG : (ws ++ ((a, regO) :: heapL (a + 1) os)) ++ Hb = headA Hb a ws os := by unfold headA; simp
  rw [hG]
  refine ⟨⟨by omega, fun i hi hw => ?_, fun i hi => ?_, fun i hi => List.mem_range.2 (hWf i hi), fun i hi => by have := hWf i hi; omega⟩, fun S μ w fr cs hok hB hS hf hfr hR => ?_⟩
  · rw [headA_get]
    cases hg : hget ws i with
    | some o => exact absurd (hws i o hg).2 hw
    | none => simp only; rw [if_neg (by omega), if_neg (by omega)]
  · rw [headA_get]
    cases hg : hget ws i with
    | some o => have := (hws i o hg).1; omega
    | none => simp only; rw [if_neg (by omega), if_neg (by omega)]
  · have hSeq : S = fun i => i < a := funext fun i => propext ⟨hS i, fun hi => hR i (List.mem_range.2 hi) hi⟩
    subst hSeq
    let μc : Mu := fun i => if i < a then μ i else none
    have hμc : ∀ b, b < a → μc b = μ b := fun b hb => by show (if b < a then μ b else none) = μ b; rw [if_pos hb]
    have hextc : Ext μc μ := fun k im hk => by
      have hk : (if k < a then μ k else none) = some im := hk
      split at hk
      · exact hk
      · cases hk
    have hokc : Ok B.B (fun i => i < a) μc (hget Hb) w := by
      refine ⟨fun i o hi hg hl => ?_, fun i o im hi hg hl him => ?_, fun i j oi oj x y hi hj hne hg1 hg2 l1 l2 m1 m2 r1 r2 => ?_, fun i o hi hg hr => ?_, fun i j oi oj x y z hi hj hg1 hg2 r1 l2 m1 m2 hrw => ?_⟩
      · obtain ⟨im, him, hor⟩ := hok.rel i o hi hg hl
        exact ⟨im, (hμc i hi).trans him, OR.low hμc (hob i o hg) hor⟩
      · exact hok.low i o im hi hg hl ((hμc i hi).symm.trans him)
      · exact hok.inj i j oi oj x y hi hj hne hg1 hg2 l1 l2 ((hμc i hi).symm.trans m1) ((hμc j hj).symm.trans m2) r1 r2
      · obtain ⟨im, him, hx⟩ := hok.reg i o hi hg hr
        exact ⟨im, (hμc i hi).trans him, hx⟩
      · exact hok.sep i j oi oj x y z hi hj hg1 hg2 r1 l2 ((hμc i hi).symm.trans m1) ((hμc j hj).symm.trans m2) hrw
    obtain ⟨out', w', μ', hpost, hv, hfree, he⟩ := h μc w fr cs hokc hB (fun i hi => by show (if i < a then μ i else none) = none; rw [if_neg (by omega)]) (hfr.low hμc hs hp hd hm hr)
    let μ2 : Mu := fun i => if i < a + 1 + os.length then μ' i else μ i
    have hμ2 : ∀ i, i < a + 1 + os.length → μ2 i = μ' i := fun i hi => by show (if i < a + 1 + os.length then μ' i else μ i) = μ' i; rw [if_pos hi]
    have ext2 : Ext μ' μ2 := fun k im hk => by
      rcases Nat.lt_or_ge k (a + 1 + os.length) with h1 | h1
      · rw [hμ2 k h1]; exact hk
      · rw [hfree k h1] at hk; cases hk
    have Slt : ∀ i, (i < a ∨ a ≤ i ∧ i < a + 1 + os.length) → i < a + 1 + os.length := fun i h => by omega
    refine ⟨_, w', μ2, ⟨?_, by omega, fun i hi => ?_, fun i hi hw => ?_, hpost.grow, fun b hb hx => hpost.frame b hb fun i hiW hi im him => hx i hiW hi im ((hμc i hi).symm.trans him), fun i hiW hi => ?_, fun i im o h1 h2 ho hl him => ?_, fun i im o hc ho hr him b x hx => ?_, hpost.os, hpost.tape, hpost.output⟩, OR2.mono ext2 hv, he⟩
    · have ok := hpost.ok
      refine ⟨fun i o hi hg hl => ?_, fun i o im hi hg hl him => ?_, fun i j oi oj x y hi hj hne hg1 hg2 l1 l2 m1 m2 r1 r2 => ?_, fun i o hi hg hr => ?_, fun i j oi oj x y z hi hj hg1 hg2 r1 l2 m1 m2 hrw => ?_⟩
      · obtain ⟨im, him, hor⟩ := ok.rel i o hi hg hl
        exact ⟨im, (hμ2 i (Slt i hi)).trans him, hor.keep ext2 rfl⟩
      · exact ok.low i o im hi hg hl ((hμ2 i (Slt i hi)).symm.trans him)
      · exact ok.inj i j oi oj x y hi hj hne hg1 hg2 l1 l2 ((hμ2 i (Slt i hi)).symm.trans m1) ((hμ2 j (Slt j hj)).symm.trans m2) r1 r2
      · obtain ⟨im, him, hx⟩ := ok.reg i o hi hg hr
        exact ⟨im, (hμ2 i (Slt i hi)).trans him, hx⟩
      · exact ok.sep i j oi oj x y z hi hj hg1 hg2 r1 l2 ((hμ2 i (Slt i hi)).symm.trans m1) ((hμ2 j (Slt j hj)).symm.trans m2) hrw
    · rcases Nat.lt_or_ge i a with h1 | h1
      · rw [hμ2 i (by omega), hpost.ext i (by omega), hμc i h1]
      · show (if i < a + 1 + os.length then μ' i else μ i) = μ i
        rw [if_neg (by omega)]
    · exact hpost.keep i hi hw
    · obtain ⟨p, q, im, s, t⟩ := hpost.wr i hiW hi
      exact ⟨p, q, im, (hμc i hi).symm.trans s, t⟩
    · obtain ⟨p, q⟩ := hpost.fresh i im o h1 h2 ho hl ((hμ2 i h2).symm.trans him)
      exact ⟨p, q.imp id fun ⟨k, x, y, ⟨im', m, m2⟩, z⟩ => ⟨k, x, y, ⟨im', (hμc k y).symm.trans m, m2⟩, z⟩⟩
    · have hlt : i < a + 1 + os.length := by omega
      rcases hpost.rf i im o hc ho hr ((hμ2 i hlt).symm.trans him) b x hx with e | ⟨k, kim, ko, p, q, r, s, t, u⟩ | ⟨k, p, q, ⟨im', m, m2⟩, z⟩
      · exact .inl e
      · exact .inr (.inl ⟨k, kim, ko, p, q, r, s, (hμc k q).symm.trans t, u⟩)
      · exact .inr (.inr ⟨k, p, q, ⟨im', (hμc k q).symm.trans m, m2⟩, z⟩)
/-- The conditions of all that, reckoned; but for some blocks (ex), of which it is told. -/
def fjOk (a : Nat) (l : List Value) (todo : List Item) (ro : Option Nat) (Hb ws : Heap) (Wf ex : List Nat) : Bool :=
  l.all (lowV a 4) && (todo.all plainItem && ((match ro with | some l => Nat.blt l a | none => true) && ((Hb.all fun p => Nat.blt p.1 a) && ((Hb.all fun p => ex.contains p.1 || lowOb a p.2) && ((ws.all fun p => Nat.blt p.1 a && Wf.contains p.1) && ((Wf.all fun k => Nat.blt k a) && Nat.ble l.length 16000))))))
def LowX (a : Nat) : Heap → List Nat → Prop
  | [], _ => True
  | (k, o) :: H, ex => (bif ex.contains k then LowO a o else True) ∧ LowX a H ex
theorem lowX_get {a : Nat} {ex : List Nat} : ∀ {H : Heap} {k : Nat} {o : Obj}, LowX a H ex → ex.contains k = true → hget H k = some o → LowO a o
  | [], _, _, _, _, h => by cases h
  | (j, x) :: H, k, o, hx, hk, h => by
    rw [hget_cons] at h
    split at h
    · rename_i e
      cases h; subst e
      have := hx.1
      rw [hk] at this
      exact this
    · exact lowX_get hx.2 hk h
/-- A loop that was left, or not. -/
def loopDone (l : Loop) (b : Bool) (pe : Option Code) : Loop := bif b then { l with state := .done, pending := pe } else l
theorem lowX_nil {a : Nat} : ∀ H : Heap, LowX a H []
  | [] => trivial
  | (_, _) :: H => ⟨trivial, lowX_nil H⟩
theorem FinK.fjB {fn : FuncId} {len : Nat} {l : List Value} {todo : List Item} {ro : Option Nat} {out : OO} {ws : Heap} {os : List Obj} {ex : List Nat} (h : FinK P B ⟨fn, ofList len l, todo, [], .run, ro⟩ Hb a out ws os Wf) (e : fjOk a l todo ro Hb ws Wf ex = true) (hx : LowX a Hb ex) :
    FJ P B ⟨fn, ofList len l, todo, [], .run, ro⟩ Hb a out ((ws ++ ((a, regO) :: heapL (a + 1) os)) ++ Hb) (a + 1 + os.length) (List.range a) Wf := by
  simp only [fjOk, Bool.and_eq_true] at e
  obtain ⟨e1, e2, e3, e4, e5, e6, e7, e8⟩ := e
  have e8 := Nat.le_of_ble_eq_true e8
  refine h.fj (under_all e4) (fun i o ho => ?_) (fun i hi => Nat.le_of_ble_eq_true (List.all_eq_true.1 e7 i hi)) (fun t => ?_) e2 rfl rfl (fun k hk => ?_) (fun i o ho => ?_)
  · have := List.all_eq_true.1 e6 _ (hget_in ho)
    simp only [Bool.and_eq_true] at this
    exact ⟨Nat.le_of_ble_eq_true this.1, by simpa using this.2⟩
  · simp only [tget, ofList]
    rw [ofL_get _ _ _ _ (by omega)]
    split
    · rename_i ht
      have ht : t < l.length := by omega
      refine .inl (List.all_eq_true.1 e1 _ ?_)
      rw [Nat.sub_zero, List.getD_eq_getElem?_getD, List.getElem?_eq_getElem ht]
      exact List.getElem_mem ht
    · rw [Tri.get_lf]
      exact .inr (loose_af (by simp [Go.undef, af]))
  · have hk : ro = some k := hk
    subst hk
    exact Nat.le_of_ble_eq_true e3
  · have := List.all_eq_true.1 e5 _ (hget_in ho)
    simp only [Bool.or_eq_true] at this
    rcases this with h1 | h1
    · exact lowX_get hx h1 ho
    · exact lowOb_ok h1
end
end Go.CE

namespace Go.CE
open Go Go.RowKit Go.ChangeShapes Go.WideShapes

/-- The shape of a type: its cells. -/
inductive Sh where
  | int | bool | str | unit
  | pair (a b : Sh)
  | struct (f : Sh)
  | slice (e : Sh)
def Sh.sz : Sh → Nat
  | .unit => 0
  | .pair a b => a.sz + b.sz
  | .struct f => f.sz
  | _ => 1
/-- Cells of trees that a type can have. -/
def Sh.ok : Sh → List Value → Prop
  | .int, cs => ∃ z : Int, (-9223372036854775808 ≤ z ∧ z ≤ 9223372036854775807) ∧ cs = [.int .i64 z]
  | .bool, cs => ∃ b, cs = [.bool b]
  | .str, cs => ∃ s : ByteArray, s.size ≤ maxLen ∧ cs = [.string s]
  | .unit, cs => cs = []
  | .pair a b, cs => ∃ x y, cs = x ++ y ∧ a.ok x ∧ b.ok y
  | .struct f, cs => f.ok cs
  | .slice e, cs => ∃ (n : Nat) (r : Nat → List Value), (∀ k, e.ok (r k) ∨ n ≤ k) ∧ (∀ k, (r k).length = e.sz) ∧ cs = [slT n (rowL r (List.range n))]
theorem Sh.ok_sz : ∀ (s : Sh) (cs : List Value), s.ok cs → cs.length = s.sz
  | .int, cs, ⟨z, _, h⟩ => by rw [h]; rfl
  | .bool, cs, ⟨z, h⟩ => by rw [h]; rfl
  | .str, cs, ⟨z, _, h⟩ => by rw [h]; rfl
  | .unit, cs, h => by rw [show cs = [] from h]; rfl
  | .pair a b, cs, ⟨x, y, h, hx, hy⟩ => by rw [h, List.length_append, Sh.ok_sz a x hx, Sh.ok_sz b y hy]; rfl
  | .struct f, cs, h => Sh.ok_sz f cs h
  | .slice e, cs, ⟨n, r, _, _, h⟩ => by rw [h]; rfl
/-- A type of a program has that shape. -/
def Sh.chk (P : Program) : Sh → Option (List Field × Nat) → TypeId → Bool
  | .int, none, t => match P.underlying t with | some (.int .i64) => true | _ => false
  | .bool, none, t => match P.underlying t with | some .bool => true | _ => false
  | .str, none, t => match P.underlying t with | some .string => true | _ => false
  | .struct f, none, t => match P.underlying t with | some (.struct fs) => f.chk P (some (fs.toList, 0)) t | _ => false
  | .slice e, none, t => match P.underlying t with | some (.slice u) => Nat.blt 0 e.sz && e.chk P none u | _ => false
  | .unit, some ([], off), t => Nat.beq off (P.cellsOf t)
  | .pair a b, some (f :: fs, off), t => Nat.beq f.offset off && (a.chk P none f.type && (Nat.beq (P.cellsOf f.type) a.sz && b.chk P (some (fs, off + P.cellsOf f.type)) t))
  | _, _, _ => false
def TRl (fm : Nat → Option Obj) (ts cs : List Value) : Prop := ts.length = cs.length ∧ ∀ (i : Nat) v v', ts[i]? = some v → cs[i]? = some v' → TRv fm v v'
theorem TRl.nil {fm : Nat → Option Obj} : TRl fm [] [] := ⟨rfl, fun i v v' h => by simp at h⟩
theorem TRl.one {fm : Nat → Option Obj} {t v : Value} (h : TRv fm t v) : TRl fm [t] [v] := ⟨rfl, fun i a b ha hb => by
  cases i with
  | zero => simp at ha hb; subst ha hb; exact h
  | succ i => simp at ha⟩
theorem TRl.append {fm : Nat → Option Obj} {a b c d : List Value} (h : TRl fm a b) (k : TRl fm c d) : TRl fm (a ++ c) (b ++ d) := ⟨by simp [h.1, k.1], fun i v v' x y => by
  rcases Nat.lt_or_ge i a.length with hi | hi
  · rw [List.getElem?_append_left hi] at x
    rw [List.getElem?_append_left (by rw [← h.1]; exact hi)] at y
    exact h.2 i v v' x y
  · rw [List.getElem?_append_right hi] at x
    rw [List.getElem?_append_right (by rw [← h.1]; exact hi)] at y
    exact k.2 _ v v' x (by rw [h.1]; exact y)⟩
/-- All memory of a world. -/
def allM (w : World) (b : Nat) : Option Obj := w.heap[b]?
section
variable {P : Program} {H : Type} {enc : TypeId × Value → H} {w : World} {held : Bool}
theorem addr_plain {a : Addr} {v : Value} (h : w.cell? a = some v) : ∃ b o arr t fl, a = ⟨b, o, none⟩ ∧ w.heap[b]? = some (.cells arr t fl) ∧ arr[o]? = some v := by
  obtain ⟨b, o, s⟩ := a
  unfold World.cell? at h
  split at h
  · rename_i c t fl hb
    cases s with
    | some _ => simp at h
    | none => exact ⟨b, o, c, t, fl, rfl, hb, by simpa using h⟩
  · cases h
theorem plain_add {b o j : Nat} : (⟨b, o, none⟩ : Addr).add j = ⟨b, o + j, none⟩ := by
  unfold Addr.add
  split <;> simp_all
theorem range_row {e : Nat → List Value} {z n : Nat} (h : ∀ k, (e k).length = z) {i : Nat} {v : Value} (hv : (rowL e (List.range n))[i]? = some v) : ∃ k j, k < n ∧ j < z ∧ i = k * z + j ∧ (e k)[j]? = some v := by
  have hlt : i < n * z := by
    have := (Array.getElem?_eq_some_iff.1 hv).1
    rw [rowL_size h] at this
    simpa using this
  have hz : 0 < z := by
    rcases Nat.eq_zero_or_pos z with rfl | h
    · omega
    · exact h
  have hk : i / z < n := Nat.div_lt_of_lt_mul (by rwa [Nat.mul_comm] at hlt)
  have hj : i % z < z := Nat.mod_lt _ hz
  have hi : i = i / z * z + i % z := by
    have := Nat.div_add_mod i z
    rw [Nat.mul_comm] at this
    omega
  refine ⟨i / z, i % z, hk, hj, hi, ?_⟩
  have := rowL_get (e := e) (xs := List.range n) h (k := i / z) (j := i % z) (by simpa using hk) hj
  rw [← hi, hv] at this
  rw [this]
  simp [List.getD, hk]
theorem trod_sh : ∀ (s : Sh) (fuel : Nat) (t : TypeId) (cs : List Value) (x : DataW H × List MemPlace), s.chk P none t = true → DataW.trod enc P w 0 (fun _ => true) held fuel t cs = some x → ∃ ts, s.ok ts ∧ TRl (allM w) ts cs := by
  intro s
  -- for fields, too
  have key : (∀ (fuel : Nat) (t : TypeId) (cs : List Value) (x : DataW H × List MemPlace), s.chk P none t = true → DataW.trod enc P w 0 (fun _ => true) held fuel t cs = some x → ∃ ts, s.ok ts ∧ TRl (allM w) ts cs) ∧
      (∀ (fl : List Field) (off : Nat) (t : TypeId) (cs : List Value), s.chk P (some (fl, off)) t = true → cs.length = P.cellsOf t → (∀ f ∈ fl, ∃ fuel x, DataW.trod enc P w 0 (fun _ => true) held fuel f.type ((cs.drop f.offset).take (P.cellsOf f.type)) = some x) → ∃ ts, s.ok ts ∧ TRl (allM w) ts (cs.drop off)) := by
    induction s with
    | int =>
      refine ⟨fun fuel t cs x hc h => ?_, fun fl off t cs hc => by simp [Sh.chk] at hc⟩
      simp only [Sh.chk] at hc
      split at hc
      · rename_i ht
        obtain ⟨n, rfl, _, hw⟩ := DataW.trod_int ht h
        simp only [Lit.wf, Bool.and_eq_true, decide_eq_true_eq] at hw
        exact ⟨_, ⟨n, ⟨hw.1, hw.2⟩, rfl⟩, TRl.one (.simple rfl)⟩
      · cases hc
    | bool =>
      refine ⟨fun fuel t cs x hc h => ?_, fun fl off t cs hc => by simp [Sh.chk] at hc⟩
      simp only [Sh.chk] at hc
      split at hc
      · rename_i ht
        obtain ⟨b, rfl, _⟩ := DataW.trod_bool ht h
        exact ⟨_, ⟨b, rfl⟩, TRl.one (.simple rfl)⟩
      · cases hc
    | str =>
      refine ⟨fun fuel t cs x hc h => ?_, fun fl off t cs hc => by simp [Sh.chk] at hc⟩
      simp only [Sh.chk] at hc
      split at hc
      · rename_i ht
        obtain ⟨b, rfl, _, hl⟩ := DataW.trod_string ht h
        exact ⟨_, ⟨b, hl, rfl⟩, TRl.one (.simple rfl)⟩
      · cases hc
    | unit =>
      refine ⟨fun fuel t cs x hc h => by simp [Sh.chk] at hc, fun fl off t cs hc hl hf => ?_⟩
      cases fl with
      | nil =>
        simp only [Sh.chk] at hc
        have := Nat.eq_of_beq_eq_true hc
        refine ⟨[], rfl, ?_⟩
        rw [List.drop_eq_nil_of_le (by omega)]
        exact TRl.nil
      | cons f fl => simp [Sh.chk] at hc
    | pair a b iha ihb =>
      refine ⟨fun fuel t cs x hc h => by simp [Sh.chk] at hc, fun fl off t cs hc hl hf => ?_⟩
      cases fl with
      | nil => simp [Sh.chk] at hc
      | cons f fl =>
        simp only [Sh.chk, Bool.and_eq_true] at hc
        obtain ⟨h1, h2, h3, h4⟩ := hc
        have h1 := Nat.eq_of_beq_eq_true h1
        have h3 := Nat.eq_of_beq_eq_true h3
        subst h1
        obtain ⟨fuel, x, hx⟩ := hf f (by simp)
        obtain ⟨ta, oa, ra⟩ := iha.1 fuel f.type _ x h2 hx
        obtain ⟨tb, ob, rb⟩ := ihb.2 fl _ t cs h4 hl (fun g hg => hf g (by simp [hg]))
        refine ⟨ta ++ tb, ⟨ta, tb, rfl, oa, ob⟩, ?_⟩
        have : cs.drop f.offset = (cs.drop f.offset).take (P.cellsOf f.type) ++ cs.drop (f.offset + P.cellsOf f.type) := by
          rw [← List.drop_drop, List.take_append_drop]
        rw [this]
        exact ra.append rb
    | struct f ih =>
      refine ⟨fun fuel t cs x hc h => ?_, fun fl off t cs hc => by simp [Sh.chk] at hc⟩
      simp only [Sh.chk] at hc
      split at hc
      · rename_i fs ht
        obtain ⟨xs, n, _, _, hl, hlen, hg⟩ := DataW.trod_struct ht h
        obtain ⟨ts, h1, h2⟩ := ih.2 fs.toList 0 t cs hc hl fun g hg' => by
          obtain ⟨i, hi⟩ := List.getElem?_of_mem hg'
          have hi' : fs[i]? = some g := by simpa using hi
          have := hg i g hi'
          have hlt : i < xs.length := by
            have := (Array.getElem?_eq_some_iff.1 hi').1
            omega
          rw [List.getElem?_eq_getElem hlt] at this
          exact ⟨n, _, this⟩
        exact ⟨ts, h1, by simpa using h2⟩
      · cases hc
    | slice e ih =>
      refine ⟨fun fuel t cs x hc h => ?_, fun fl off t cs hc => by simp [Sh.chk] at hc⟩
      simp only [Sh.chk] at hc
      split at hc
      · rename_i u ht
        simp only [Bool.and_eq_true] at hc
        obtain ⟨hz, hc⟩ := hc
        have hz : 0 < e.sz := Nat.le_of_ble_eq_true hz
        rcases Deep.open_slice ht h with ⟨rfl, _⟩ | ⟨a, len, cap, m, n', D, Pl, rfl, _, hl, hm, hmm, _, hi⟩
        · exact ⟨_, ⟨0, fun _ => List.replicate e.sz undef, fun k => .inr (Nat.zero_le _), fun k => by simp, rfl⟩, TRl.one .nil⟩
        · simp only [if_true] at hmm
          subst hmm
          have each : ∀ k, ∃ r : List Value, (k < len → e.ok r ∧ (∀ j, j < P.cellsOf u → w.cell? (a.add (k * P.cellsOf u + j)) = none → False) ∧ ∀ (j : Nat) v v', r[j]? = some v → w.cell? (a.add (k * P.cellsOf u + j)) = some v' → TRv (allM w) v v') ∧ r.length = e.sz ∧ (k < len → e.sz = P.cellsOf u) := by
            intro k
            by_cases hk : k < len
            · obtain ⟨cs', hc', ht'⟩ := hi k (by omega)
              obtain ⟨ts, ho, hr⟩ := ih.1 n' u cs' _ hc ht'
              obtain ⟨_, hln, hat⟩ := World.cells?_some hc'
              have hsz : e.sz = P.cellsOf u := by rw [← Sh.ok_sz e ts ho, hr.1, hln]
              refine ⟨ts, fun _ => ⟨ho, fun j hj hnone => ?_, fun j v v' hv hv' => ?_⟩, Sh.ok_sz e ts ho, fun _ => hsz⟩
              · have := hat j hj
                rw [Deep.add_add, hnone, List.getElem?_eq_getElem (by omega)] at this
                cases this
              · have hj : j < ts.length := (List.getElem?_eq_some_iff.1 hv).1
                have := hat j (by rw [hr.1, hln] at hj; exact hj)
                rw [Deep.add_add, hv'] at this
                exact hr.2 j v v' hv this.symm
            · exact ⟨List.replicate e.sz undef, fun h => absurd h hk, by simp, fun h => absurd h hk⟩
          refine ⟨_, ⟨len, fun k => Classical.choose (each k), fun k => ?_, fun k => (Classical.choose_spec (each k)).2.1, rfl⟩, TRl.one ?_⟩
          · by_cases hk : k < len
            · exact .inl ((Classical.choose_spec (each k)).1 hk).1
            · exact .inr (by omega)
          · generalize hr : (fun k => Classical.choose (each k)) = r
            have hr1 : ∀ k, k < len → e.ok (r k) ∧ (∀ j, j < P.cellsOf u → w.cell? (a.add (k * P.cellsOf u + j)) = none → False) ∧ ∀ (j : Nat) v v', (r k)[j]? = some v → w.cell? (a.add (k * P.cellsOf u + j)) = some v' → TRv (allM w) v v' := fun k hk => by rw [← hr]; exact (Classical.choose_spec (each k)).1 hk
            have hr2 : ∀ k, (r k).length = e.sz := fun k => by rw [← hr]; exact (Classical.choose_spec (each k)).2.1
            have hr3 : ∀ k, k < len → e.sz = P.cellsOf u := fun k hk => (Classical.choose_spec (each k)).2.2 hk
            rcases Nat.eq_zero_or_pos len with rfl | hpos
            · have : rowL r (List.range 0) = #[] := rfl
              rw [this]
              exact .empty hm
            · have hsz := hr3 0 hpos
              have hex : ∃ v, w.cell? a = some v := by
                have := (hr1 0 hpos).2.1 0 (by omega)
                have ea : a.add (0 * P.cellsOf u + 0) = a := by simp [Addr.add]
                rw [ea] at this
                cases hq : w.cell? a with
                | none => exact absurd hq this
                | some v => exact ⟨v, rfl⟩
              obtain ⟨v0, hv0⟩ := hex
              obtain ⟨b, o, arr, ty, fl, rfl, hb, _⟩ := addr_plain hv0
              have cellE : ∀ i, w.cell? ⟨b, o + i, none⟩ = arr[o + i]? := fun i => by simp [World.cell?, hb]
              refine TRv.slice (o := o) hl hm hb (fun i hi' => ?_) fun i v v' hv hv' => ?_
              · obtain ⟨k, j, hk, hj, rfl, _⟩ := range_row hr2 (i := i) (v := (rowL r (List.range len))[i]) (Array.getElem?_eq_getElem hi')
                have := (hr1 k hk).2.1 j (by omega)
                rw [plain_add, ← hsz, cellE] at this
                rcases Nat.lt_or_ge (o + (k * e.sz + j)) arr.size with h1 | h1
                · exact h1
                · exact absurd (Array.getElem?_eq_none h1) this
              · obtain ⟨k, j, hk, hj, rfl, hkj⟩ := range_row hr2 hv
                refine (hr1 k hk).2.2 j v v' hkj ?_
                rw [plain_add, ← hsz, cellE]
                exact hv'
      · cases hc
  exact key.1
def Sh.arg : Sh → Value → Prop
  | .struct f, v => ∃ cs, v = .agg cs.toArray ∧ f.ok cs
  | s, v => s.ok [v]
def ArgAll : List Sh → List Value → Prop
  | [], l => l = []
  | s :: ss, l => ∃ t ts, l = t :: ts ∧ s.arg t ∧ ArgAll ss ts
theorem trod_arg {s : Sh} {t : TypeId} {v : Value} {d : DataW H} {ps : List MemPlace} {r : Reach} {b0 : Nat} (hc : s.chk P none t = true) (hv : Value.okWide P w r b0 t v) (h : DataW.Trod enc P w 0 (fun _ => true) held t v d ps) : ∃ tr, s.arg tr ∧ TRv (allM w) tr v := by
  obtain ⟨fuel, hf⟩ := h
  obtain ⟨ts, ho, hr⟩ := trod_sh s fuel t _ _ hc hf
  have one : v.cells = #[v] → s.ok ts → (∀ f, s ≠ .struct f) → ∃ tr, s.arg tr ∧ TRv (allM w) tr v := fun hv1 ho hs => by
    rw [hv1] at hr
    match ts, hr, ho with
    | [tr], hr, ho =>
      refine ⟨tr, ?_, hr.2 0 tr v rfl rfl⟩
      cases s <;> first | exact ho | exact absurd rfl (hs _)
    | [], hr, _ => have := hr.1; simp at this
    | _ :: _ :: _, hr, _ => have := hr.1; simp at this
  cases s with
  | int =>
    simp only [Sh.chk] at hc
    split at hc
    · rename_i ht; obtain ⟨n, rfl⟩ := okWide_int ht hv; exact one rfl ho fun f h => by cases h
    · cases hc
  | bool =>
    simp only [Sh.chk] at hc
    split at hc
    · rename_i ht; obtain ⟨n, rfl⟩ := okWide_bool ht hv; exact one rfl ho fun f h => by cases h
    · cases hc
  | str =>
    simp only [Sh.chk] at hc
    split at hc
    · rename_i ht; obtain ⟨n, rfl⟩ := okWide_string ht hv; exact one rfl ho fun f h => by cases h
    · cases hc
  | unit => simp [Sh.chk] at hc
  | pair a b => simp [Sh.chk] at hc
  | struct f =>
    simp only [Sh.chk] at hc
    split at hc
    · rename_i fs ht
      obtain ⟨cs, rfl, _⟩ := okWide_struct ht hv
      refine ⟨.agg ts.toArray, ⟨ts, rfl, ho⟩, .agg ?_ fun i v v' h1 h2 => ?_⟩
      · have := hr.1; simpa [Value.cells] using this
      · exact hr.2 i v v' (by simpa using h1) (by simpa [Value.cells] using h2)
    · cases hc
  | slice e =>
    simp only [Sh.chk] at hc
    split at hc
    · rename_i u ht; obtain ⟨a, l, c, rfl⟩ := okWide_slice ht hv; exact one rfl ho fun f h => by cases h
    · cases hc
def chkAll (P : Program) : List Sh → List TypeId → Bool
  | [], [] => true
  | s :: ss, t :: ts => s.chk P none t && chkAll P ss ts
  | _, _ => false
theorem trodAll_cons {t : TypeId} {ts : List TypeId} {vs : List Value} {ds : List (DataW H)} {ps : List MemPlace} {base : Nat} {spare : Nat → Bool} (h : DataW.TrodAll enc P w base spare held (t :: ts) vs ds ps) :
    ∃ v vs' d ds' p q, vs = v :: vs' ∧ ds = d :: ds' ∧ DataW.Trod enc P w base spare held t v d p ∧ DataW.TrodAll enc P w base spare held ts vs' ds' q ∧ ps = p ++ q := by
  cases vs with
  | nil => cases ds <;> simp [DataW.TrodAll] at h
  | cons v vs =>
    cases ds with
    | nil => simp [DataW.TrodAll] at h
    | cons d ds =>
      simp only [DataW.TrodAll] at h
      obtain ⟨p, q, h1, h2, h3⟩ := h
      exact ⟨v, vs, d, ds, p, q, rfl, rfl, h1, h2, h3⟩
theorem trodAll_nil {vs : List Value} {ds : List (DataW H)} {ps : List MemPlace} {base : Nat} {spare : Nat → Bool} (h : DataW.TrodAll enc P w base spare held [] vs ds ps) : vs = [] ∧ ds = [] ∧ ps = [] := by
  cases vs <;> cases ds <;> simp [DataW.TrodAll] at h
  exact ⟨rfl, rfl, h⟩
theorem trods : ∀ (ss : List Sh) (ts : List TypeId) (vs : List Value) (ds : List (DataW H)) (ps : List MemPlace) (r : Reach) (b0 : Nat), chkAll P ss ts = true → DataW.TrodAll enc P w 0 (fun _ => true) held ts vs ds ps →
    (∀ (j : Nat) t v, ts[j]? = some t → vs[j]? = some v → Value.okWide P w r b0 t v) → ∃ trs, ArgAll ss trs ∧ TRl (allM w) trs vs
  | [], [], vs, ds, ps, r, b0, _, h, _ => by
    obtain ⟨rfl, _, _⟩ := trodAll_nil h
    exact ⟨[], rfl, TRl.nil⟩
  | s :: ss, t :: ts, vs, ds, ps, r, b0, hc, h, hv => by
    simp only [chkAll, Bool.and_eq_true] at hc
    obtain ⟨v, vs', d, ds', p, q, rfl, rfl, h1, h2, rfl⟩ := trodAll_cons h
    obtain ⟨tr, ha, hr⟩ := trod_arg hc.1 (hv 0 t v rfl rfl) h1
    obtain ⟨trs, ha2, hr2⟩ := trods ss ts vs' ds' q r b0 hc.2 h2 fun j t v h1 h2 => hv (j + 1) t v (by simpa using h1) (by simpa using h2)
    exact ⟨tr :: trs, ⟨tr, trs, rfl, ha, ha2⟩, (TRl.one hr).append hr2⟩
  | [], _ :: _, _, _, _, _, _, hc, _, _ => by simp [chkAll] at hc
  | _ :: _, [], _, _, _, _, _, hc, _, _ => by simp [chkAll] at hc
/-- A law's call, from what is known of it for all trees. -/
theorem law_call {J : World → Prop} {f : FuncId} {ss : List Sh} {ts : List TypeId} {args : Array Value} {ds : List (DataW H)} {ps : List MemPlace} {r : Reach} {b0 : Nat} (hJ : J w) (hc : chkAll P ss ts = true) (h : DataW.TrodAll enc P w 0 (fun _ => true) held ts args.toList ds ps)
    (hv : ∀ (j : Nat) t v, ts[j]? = some t → args[j]? = some v → Value.okWide P w r b0 t v) (walk : ∀ trs, ArgAll ss trs → PureC P J f trs.toArray (.bool true)) : Calls P f args w fun e w' => e = .returned (.bool true) ∧ Below w.heap.size w w' := by
  obtain ⟨trs, ha, hr⟩ := trods ss ts args.toList ds ps r b0 hc h fun j t v h1 h2 => hv j t v h1 (by simpa using h2)
  refine (walk trs ha (allM w) w args hJ (fun b x h => h) ⟨by simpa using hr.1, fun i v v' h1 h2 => hr.2 i v v' (by simpa using h1) (by simpa using h2)⟩).mono fun e w' ⟨v', he, hb, ht⟩ => ⟨?_, hb⟩
  rw [he, TRv.simple_eq rfl ht]
theorem trodAll_below (hl : laidOutB P = true) {W W' : World} (hb : Below W.heap.size W W') : ∀ (ts : List TypeId) (vs : List Value) (ds : List (DataW H)) (ps : List MemPlace), (ts.all fun t => P.readableRec t && decide (t < P.types.size)) = true → DataW.TrodAll enc P W 0 (fun _ => true) true ts vs ds ps → (∀ x ∈ ps, x.block < W.heap.size) →
    DataW.TrodAll enc P W' 0 (fun b => decide (b < W.heap.size)) true ts vs ds ps
  | [], vs, ds, ps, _, h, _ => by
    obtain ⟨rfl, rfl, rfl⟩ := trodAll_nil h
    exact rfl
  | t :: ts, vs, ds, ps, ha, h, hlt => by
    simp only [List.all_cons, Bool.and_eq_true, decide_eq_true_eq] at ha
    obtain ⟨v, vs', d, ds', p, q, rfl, rfl, h1, h2, rfl⟩ := trodAll_cons h
    exact ⟨p, q, Below.trod hl ha.1.1 ha.1.2 h1 hb fun x hx => hlt x (List.mem_append_left _ hx), trodAll_below hl hb ts vs' ds' q ha.2 h2 fun x hx => hlt x (List.mem_append_right _ hx), rfl⟩
/-- Lists of what the elements stand for. -/
theorem sh_list {α : Type} {s : Sh} {e : α → List Value} (dec : ∀ cs, s.ok cs → ∃ x, cs = e x) {n : Nat} {r : Nat → List Value} (h : ∀ k, s.ok (r k) ∨ n ≤ k) : ∃ xs : List α, xs.length = n ∧ rowL r (List.range n) = rowL e xs := by
  induction n with
  | zero => exact ⟨[], rfl, rfl⟩
  | succ n ih =>
    obtain ⟨xs, hl, hx⟩ := ih fun k => (h k).imp id fun h => by omega
    obtain ⟨x, hxe⟩ := dec (r n) ((h n).resolve_right (by omega))
    refine ⟨xs ++ [x], by simp [hl], ?_⟩
    unfold rowL at hx ⊢
    rw [List.range_succ, List.flatMap_append, List.flatMap_append]
    have : (List.range n).flatMap r = xs.flatMap e := by simpa using hx
    rw [this]
    simp [hxe]
theorem sh_slice {α : Type} {s : Sh} {e : α → List Value} (dec : ∀ cs, s.ok cs → ∃ x, cs = e x) {cs : List Value} (h : Sh.ok (.slice s) cs) : ∃ xs : List α, cs = [slT xs.length (rowL e xs)] := by
  obtain ⟨n, r, h1, _, rfl⟩ := h
  obtain ⟨xs, rfl, hx⟩ := sh_list dec h1
  exact ⟨xs, by rw [hx]⟩
theorem sh_int {cs : List Value} (h : Sh.ok .int cs) : ∃ z : Int, cs = encI z := by
  obtain ⟨z, _, rfl⟩ := h
  exact ⟨z, rfl⟩
/-- Values of nothing. -/
def Sh.zero : Sh → List Value
  | .int => [.int .i64 0]
  | .bool => [.bool false]
  | .str => [.string ⟨#[]⟩]
  | .unit => []
  | .pair a b => a.zero ++ b.zero
  | .struct f => f.zero
  | .slice _ => [.slice none 0 0]
def Sh.zeroA : Sh → Value
  | .struct f => .agg f.zero.toArray
  | s => s.zero.headD undef
/-- A structure's shape, of its fields'. -/
def shS (l : List Sh) : Sh := .struct (l.foldr .pair .unit)
end
end Go.CE

namespace Go.CE
open Go Go.RowKit

def cmOf : OO → CM
  | .ret _ => .ret
  | .pan v => .pan v
/-- A region whose last operation defers a function: what has been done, the frame behind it, what was deferred. -/
structure SpD where
  c : CF
  H : Heap
  n : Nat
  g : FuncId
  args : Array Value
  R : List Nat
  W : List Nat
section
variable {P : Program} {F : FuncId → Bool} {J : World → Prop} {B : Lo} {c0 c : CF} {Hb H : Heap} {a n : Nat} {W Wf : List Nat}
/-! ### A frame that unwinds -/
/-- What a frame comes to from blocks 0 .. a - 1 where it unwinds: in what way, what stands in some of its slots, what it wrote of them, a region a, and blocks of its own behind it. -/
def FinU (P : Program) (B : Lo) (c0 : CF) (Hb : Heap) (a : Nat) (out : OO) (live : List (Nat × Value)) (ws : Heap) (os : List Obj) (Wf : List Nat) : Prop :=
  ∃ (d : Nat → Value) (td : List Item), GoE P B c0 Hb a ⟨c0.fn, mkT c0.tmps.len live d, td, [], cmOf out, c0.roundOf⟩ (headA Hb a ws os) (a + 1 + os.length) Wf
theorem FinU.cast {out out1 : OO} {live : List (Nat × Value)} {ws ws1 : Heap} {os os1 : List Obj} (h : FinU P B c0 Hb a out live ws os Wf) (e1 : out = out1) (e2 : ws = ws1) (e3 : os = os1) : FinU P B c0 Hb a out1 live ws1 os1 Wf := e1 ▸ e2 ▸ e3 ▸ h
end
/-! ### Bits -/
/-! ### Rows in which there are trees -/
section
variable {α : Type} {e : α → List Value} {m r j z : Nat} {rs : List (Nat × Nat)} {frs : List (Nat × Array Value)} {xs : List α} {rsT : List Nat}
end
/-! ### New slices of open length -/
section
variable {α : Type} {e : α → List Value} {m z : Nat} {rs : List (Nat × Nat)} {frs : List (Nat × Array Value)} {xs : List α}
theorem AllX.take {l k : List Value} : ∀ (n : Nat) {l k : List Value}, AllX m rs frs l k → AllX m rs frs (l.take n) (k.take n)
  | 0, _, _, _ => trivial
  | _ + 1, [], [], _ => trivial
  | n + 1, _ :: _, _ :: _, h => ⟨h.1, AllX.take (l := []) (k := []) n h.2⟩
  | _ + 1, [], _ :: _, h => h.elim
  | _ + 1, _ :: _, [], h => h.elim
theorem AllX.drop {l k : List Value} : ∀ (n : Nat) {l k : List Value}, AllX m rs frs l k → AllX m rs frs (l.drop n) (k.drop n)
  | 0, _, _, h => h
  | _ + 1, [], [], _ => trivial
  | n + 1, _ :: _, _ :: _, h => AllX.drop (l := []) (k := []) n h.2
  | _ + 1, [], _ :: _, h => h.elim
  | _ + 1, _ :: _, [], h => h.elim
end
end Go.CE

namespace Go.Proofs.YtoihlobogbeigaaGreat
open Go Go.CE Go.RowKit
def J0 : World → Prop := fun _ => True
theorem J0_st : ∀ w w' : World, (∀ b, b < w.heap.size → w'.heap[b]? = w.heap[b]?) → J0 w → J0 w' := fun _ _ _ _ => trivial
theorem mixed_ok : Tryz.prog.follows .mixedOrders = true := by decide +kernel
theorem okF : ∀ g, okFn Tryz.prog g = true → okFn Tryz.prog g = true := fun _ h => h
end Go.Proofs.YtoihlobogbeigaaGreat

namespace Go.Proofs.YtoihlobogbeigaaGreat
open Go Go.CE Go.RowKit
def inB (x lo hi : Int) : Bool := decide (lo ≤ x) && decide (x ≤ hi)
structure Span where
  lo : Int
  hi : Int
deriving Inhabited
def encSp (s : Span) : List Value := [.int .i64 s.lo, .int .i64 s.hi]
def spanB (a b lo hi : Int) : Bool := decide (lo ≤ a) && (decide (a ≤ b) && decide (b ≤ hi))
noncomputable def rin_p0 (B : Lo) (x lo hi : Int) : List Prop := [(!ltq x lo) = true] ++ ([] : List Prop)
noncomputable def rin_q0 (x lo hi : Int) : ScriptT := [(3, hvT)]
set_option maxRecDepth 100000 in
theorem rin_s0 (B : Lo) (x lo hi : Int) : endT (srunT Tryz.prog (okFn Tryz.prog) J0 B 6 1 (entryC Tryz.prog 69 15 (([.int .i64 x, .int .i64 lo, .int .i64 hi]).map (pushT 0 4))) H00 1
    (rin_q0 x lo hi ++ [(7, hvT)]) 0 [] []) [] = some (Value.bool true,
    [(!ltq hi x) = true] ++ rin_p0 B x lo hi) := by kernel_rfl
set_option maxRecDepth 100000 in
theorem rin_s1 (B : Lo) (x lo hi : Int) : endT (srunT Tryz.prog (okFn Tryz.prog) J0 B 6 1 (entryC Tryz.prog 69 15 (([.int .i64 x, .int .i64 lo, .int .i64 hi]).map (pushT 0 4))) H00 1
    (rin_q0 x lo hi ++ [(7, hvF)]) 0 [] []) [] = some (Value.bool false,
    [(!ltq hi x) = false] ++ rin_p0 B x lo hi) := by kernel_rfl
set_option maxRecDepth 100000 in
theorem rin_s2 (B : Lo) (x lo hi : Int) : endT (srunT Tryz.prog (okFn Tryz.prog) J0 B 6 1 (entryC Tryz.prog 69 15 (([.int .i64 x, .int .i64 lo, .int .i64 hi]).map (pushT 0 4))) H00 1
    [(3, hvF)] 0 [] []) [] = some (Value.bool false,
    [(!ltq x lo) = false]) := by kernel_rfl
set_option maxHeartbeats 4000000 in
theorem rin_e (x lo hi : Int)  {B : Lo} (hJ : ∀ w, B.has w → J0 w) : EndsT Tryz.prog B (entryC Tryz.prog 69 15 (([.int .i64 x, .int .i64 lo, .int .i64 hi]).map (pushT 0 4))) (.bool (inB x lo hi)) := by
  by_cases q0 : (lo : Int) ≤ (x)
  ·
    have hp0 : AllP (rin_p0 B x lo hi) := by
      exact ⟨(nltq_t q0), trivial⟩
    by_cases q1 : (x : Int) ≤ (hi)
    ·
      exact (GoE.endsT okF hJ mixed_ok GoE.start (rin_s0 B x lo hi)
        ⟨(nltq_t q1), hp0⟩).cast (by first | rfl | (simp [inB, *]; done) | (simp_all [inB]; done) | (simp_all [inB]; omega))
    ·
      exact (GoE.endsT okF hJ mixed_ok GoE.start (rin_s1 B x lo hi)
        ⟨(nltq_f (Int.not_le.1 q1)), hp0⟩).cast (by first | rfl | (simp [inB, *]; done) | (simp_all [inB]; done) | (simp_all [inB]; omega))
  ·
    exact (GoE.endsT okF hJ mixed_ok GoE.start (rin_s2 B x lo hi)
      ⟨(nltq_f (Int.not_le.1 q0)), trivial⟩).cast (by first | rfl | (simp [inB, *]; done) | (simp_all [inB]; done) | (simp_all [inB]; omega))
theorem rin (x lo hi : Int)  : PureC Tryz.prog J0 69 #[.int .i64 x, .int .i64 lo, .int .i64 hi] (.bool (inB x lo hi)) :=
  pureC_of (ts := [.int .i64 x, .int .i64 lo, .int .i64 hi]) J0_st (c0 := entryC Tryz.prog 69 15 (([.int .i64 x, .int .i64 lo, .int .i64 hi]).map (pushT 0 4))) (by kernel_rfl) (by kernel_rfl) fun B hJ => rin_e x lo hi  hJ
noncomputable def rSpan_p0 (B : Lo) (a b lo hi : Int) : List Prop := [(!ltq a lo) = true] ++ ([] : List Prop)
noncomputable def rSpan_q0 (a b lo hi : Int) : ScriptT := [(5, hvT)]
noncomputable def rSpan_p1 (B : Lo) (a b lo hi : Int) : List Prop := [(!ltq b a) = true] ++ rSpan_p0 B a b lo hi
noncomputable def rSpan_q1 (a b lo hi : Int) : ScriptT := rSpan_q0 a b lo hi ++ [(11, hvT)]
set_option maxRecDepth 100000 in
theorem rSpan_s0 (B : Lo) (a b lo hi : Int) : endT (srunT Tryz.prog (okFn Tryz.prog) J0 B 6 1 (entryC Tryz.prog 70 24 (([.agg #[.int .i64 a, .int .i64 b], .int .i64 lo, .int .i64 hi]).map (pushT 0 4))) H00 1
    (rSpan_q1 a b lo hi ++ [(17, hvT)]) 0 [] []) [] = some (Value.bool true,
    [(!ltq hi b) = true] ++ rSpan_p1 B a b lo hi) := by kernel_rfl
set_option maxRecDepth 100000 in
theorem rSpan_s1 (B : Lo) (a b lo hi : Int) : endT (srunT Tryz.prog (okFn Tryz.prog) J0 B 6 1 (entryC Tryz.prog 70 24 (([.agg #[.int .i64 a, .int .i64 b], .int .i64 lo, .int .i64 hi]).map (pushT 0 4))) H00 1
    (rSpan_q1 a b lo hi ++ [(17, hvF)]) 0 [] []) [] = some (Value.bool false,
    [(!ltq hi b) = false] ++ rSpan_p1 B a b lo hi) := by kernel_rfl
set_option maxRecDepth 100000 in
theorem rSpan_s2 (B : Lo) (a b lo hi : Int) : endT (srunT Tryz.prog (okFn Tryz.prog) J0 B 6 1 (entryC Tryz.prog 70 24 (([.agg #[.int .i64 a, .int .i64 b], .int .i64 lo, .int .i64 hi]).map (pushT 0 4))) H00 1
    (rSpan_q0 a b lo hi ++ [(11, hvF)]) 0 [] []) [] = some (Value.bool false,
    [(!ltq b a) = false] ++ rSpan_p0 B a b lo hi) := by kernel_rfl
set_option maxRecDepth 100000 in
theorem rSpan_s3 (B : Lo) (a b lo hi : Int) : endT (srunT Tryz.prog (okFn Tryz.prog) J0 B 6 1 (entryC Tryz.prog 70 24 (([.agg #[.int .i64 a, .int .i64 b], .int .i64 lo, .int .i64 hi]).map (pushT 0 4))) H00 1
    [(5, hvF)] 0 [] []) [] = some (Value.bool false,
    [(!ltq a lo) = false]) := by kernel_rfl
set_option maxHeartbeats 4000000 in
theorem rSpan_e (a b lo hi : Int)  {B : Lo} (hJ : ∀ w, B.has w → J0 w) : EndsT Tryz.prog B (entryC Tryz.prog 70 24 (([.agg #[.int .i64 a, .int .i64 b], .int .i64 lo, .int .i64 hi]).map (pushT 0 4))) (.bool (spanB a b lo hi)) := by
  by_cases q0 : (lo : Int) ≤ (a)
  ·
    have hp0 : AllP (rSpan_p0 B a b lo hi) := by
      exact ⟨(nltq_t q0), trivial⟩
    by_cases q1 : (a : Int) ≤ (b)
    ·
      have hp1 : AllP (rSpan_p1 B a b lo hi) := by
        exact ⟨(nltq_t q1), hp0⟩
      by_cases q2 : (b : Int) ≤ (hi)
      ·
        exact (GoE.endsT okF hJ mixed_ok GoE.start (rSpan_s0 B a b lo hi)
          ⟨(nltq_t q2), hp1⟩).cast (by first | rfl | (simp [spanB, *]; done) | (simp_all [spanB]; done) | (simp_all [spanB]; omega))
      ·
        exact (GoE.endsT okF hJ mixed_ok GoE.start (rSpan_s1 B a b lo hi)
          ⟨(nltq_f (Int.not_le.1 q2)), hp1⟩).cast (by first | rfl | (simp [spanB, *]; done) | (simp_all [spanB]; done) | (simp_all [spanB]; omega))
    ·
      exact (GoE.endsT okF hJ mixed_ok GoE.start (rSpan_s2 B a b lo hi)
        ⟨(nltq_f (Int.not_le.1 q1)), hp0⟩).cast (by first | rfl | (simp [spanB, *]; done) | (simp_all [spanB]; done) | (simp_all [spanB]; omega))
  ·
    exact (GoE.endsT okF hJ mixed_ok GoE.start (rSpan_s3 B a b lo hi)
      ⟨(nltq_f (Int.not_le.1 q0)), trivial⟩).cast (by first | rfl | (simp [spanB, *]; done) | (simp_all [spanB]; done) | (simp_all [spanB]; omega))
theorem rSpan (a b lo hi : Int)  : PureC Tryz.prog J0 70 #[.agg #[.int .i64 a, .int .i64 b], .int .i64 lo, .int .i64 hi] (.bool (spanB a b lo hi)) :=
  pureC_of (ts := [.agg #[.int .i64 a, .int .i64 b], .int .i64 lo, .int .i64 hi]) J0_st (c0 := entryC Tryz.prog 70 24 (([.agg #[.int .i64 a, .int .i64 b], .int .i64 lo, .int .i64 hi]).map (pushT 0 4))) (by kernel_rfl) (by kernel_rfl) fun B hJ => rSpan_e a b lo hi  hJ
structure ShPass where
  tides : List Int
  depth : Int
  draft : Int
  swell : List Span
  llo : Int
  lhi : Int
deriving Inhabited
abbrev slSp (xs : List Span) : Value := slT xs.length (rowL encSp xs)
def encPass (p : ShPass) : List Value := [slI p.tides, .int .i64 p.depth, .int .i64 p.draft, slSp p.swell, .int .i64 p.llo, .int .i64 p.lhi]
def passD (p : ShPass) : Bool := inB p.tides.length 1 50 && (inB p.depth 0 1000 && (inB p.draft 0 1000 && (inB p.swell.length 1 60 && spanB p.llo p.lhi 0 23)))
def passC (p : ShPass) : Bool := p.swell.all (fun s => spanB s.lo s.hi 0 1000) && passD p
def passB (p : ShPass) : Bool := p.tides.all (fun x => inB x (-1000) 1000) && passC p
def rPass_v0 (p : ShPass) (i : Int) : List Value := [Value.pointer (some { block := 2, off := 0 }), .int .i64 i]
def rPass_o0 (p : ShPass) (i : Int) : List Obj := [Obj.cells #[topV 1 (slT (List.length (ShPass.tides p)) (rowL encI (ShPass.tides p))), Value.int IntKind.i64 (ShPass.depth p), Value.int IntKind.i64 (ShPass.draft p), topV 1 (slT (List.length (ShPass.swell p)) (rowL encSp (ShPass.swell p))), Value.int IntKind.i64 (ShPass.llo p), Value.int IntKind.i64 (ShPass.lhi p)] 27]
noncomputable def rPass_t0 : List Item := ([.code [1, 0, 1, 0, 0], .inLoop [1, 0, 1, 0, 0], .inBlock 0, .code [1, 1]]).map (it (bodyOf Tryz.prog 21))
def rPass_h0 (B : Lo) (c0 : CF) (p : ShPass) (i : Int) : Prop := ∃ dJ : Nat → Value, (∀ t, Loose (dJ t)) ∧ GoE Tryz.prog B c0 H00 1 (headC 21 58 (([1, 3] : List Nat).zip (rPass_v0 p i)) dJ rPass_t0) (headH (rPass_o0 p i)) (2 + (rPass_o0 p i).length) []
def rPass_v1 (p : ShPass) (i : Int) : List Value := [Value.pointer (some { block := 2, off := 0 }), .int .i64 i]
def rPass_o1 (p : ShPass) (i : Int) : List Obj := [Obj.cells #[topV 1 (slT (List.length (ShPass.tides p)) (rowL encI (ShPass.tides p))), Value.int IntKind.i64 (ShPass.depth p), Value.int IntKind.i64 (ShPass.draft p), topV 1 (slT (List.length (ShPass.swell p)) (rowL encSp (ShPass.swell p))), Value.int IntKind.i64 (ShPass.llo p), Value.int IntKind.i64 (ShPass.lhi p)] 27]
noncomputable def rPass_t1 : List Item := ([.code [1, 1, 0, 1, 0, 0], .inLoop [1, 1, 0, 1, 0, 0], .inBlock 2, .code [1, 1, 1]]).map (it (bodyOf Tryz.prog 21))
def rPass_h1 (B : Lo) (c0 : CF) (p : ShPass) (i : Int) : Prop := ∃ dJ : Nat → Value, (∀ t, Loose (dJ t)) ∧ GoE Tryz.prog B c0 H00 1 (headC 21 58 (([1, 4] : List Nat).zip (rPass_v1 p i)) dJ rPass_t1) (headH (rPass_o1 p i)) (2 + (rPass_o1 p i).length) []
noncomputable def rPass_z0 (p : ShPass) (i : Int) : Array Value := #[Value.int IntKind.i64 (Span.lo (List.getD (ShPass.swell p) (Int.toNat i) default)), Value.int IntKind.i64 (Span.hi (List.getD (ShPass.swell p) (Int.toNat i) default))]
noncomputable def rPass_p0 (B : Lo) (p : ShPass) (i : Int) (dJ0 : Nat → Value) : List Prop := [i = (↑(Int.toNat i) : Int) ∧ Int.toNat i < List.length (ShPass.tides p) ∧ Array.extract (rowL encI (ShPass.tides p)) (Int.toNat i * TypeInfo.size Tryz.t3) (Int.toNat i * TypeInfo.size Tryz.t3 + TypeInfo.size Tryz.t3) = #[Value.int IntKind.i64 (List.getD (ShPass.tides p) (Int.toNat i) default)], ltq i (↑(List.length (ShPass.tides p)) : Int) = true] ++ ([] : List Prop)
noncomputable def rPass_q0 (p : ShPass) (i : Int) (dJ0 : Nat → Value) : ScriptT := [(4, hvT), (8, HintT.tidx (Int.toNat i) #[Value.int IntKind.i64 (List.getD (ShPass.tides p) (Int.toNat i) default)])]
set_option maxRecDepth 100000 in
theorem rPass_s0 (B : Lo) (p : ShPass) (i : Int) (dJ0 : Nat → Value) : landM (srunT Tryz.prog (okFn Tryz.prog) J0 B 14 1 (headC 21 58 (([1, 3] : List Nat).zip (rPass_v0 p i)) dJ0 rPass_t0) (headH (rPass_o0 p i)) (2 + (rPass_o0 p i).length)
    (rPass_q0 p i dJ0 ++ [(10, HintT.pure (Value.bool true) []), (13, hvI (i + 1))]) 0 [] []) [1, 3] [(2, KS.auto)] [] = some ⟨21, 58, rPass_t0, [], .run, none, rPass_v0 p (i + 1), rPass_o0 p (i + 1),
    [wq (i + 1) = i + 1, AllP [] ∧ PureC Tryz.prog J0 69 #[Value.int IntKind.i64 (List.getD (ShPass.tides p) (Int.toNat i) default), Value.int IntKind.i64 (-1000), Value.int IntKind.i64 1000] (Value.bool true)] ++ rPass_p0 B p i dJ0⟩ := by kernel_rfl
set_option maxRecDepth 100000 in
theorem rPass_s1 (B : Lo) (p : ShPass) (i : Int) (dJ0 : Nat → Value) : endT (srunT Tryz.prog (okFn Tryz.prog) J0 B 14 1 (headC 21 58 (([1, 3] : List Nat).zip (rPass_v0 p i)) dJ0 rPass_t0) (headH (rPass_o0 p i)) (2 + (rPass_o0 p i).length)
    (rPass_q0 p i dJ0 ++ [(10, HintT.pure (Value.bool false) [])]) 0 [] []) [] = some (Value.bool false,
    [AllP [] ∧ PureC Tryz.prog J0 69 #[Value.int IntKind.i64 (List.getD (ShPass.tides p) (Int.toNat i) default), Value.int IntKind.i64 (-1000), Value.int IntKind.i64 1000] (Value.bool false)] ++ rPass_p0 B p i dJ0) := by kernel_rfl
set_option maxRecDepth 100000 in
theorem rPass_s2 (B : Lo) (p : ShPass) (i : Int) (dJ0 : Nat → Value) : landM (srunT Tryz.prog (okFn Tryz.prog) J0 B 10 1 (headC 21 58 (([1, 3] : List Nat).zip (rPass_v0 p i)) dJ0 rPass_t0) (headH (rPass_o0 p i)) (2 + (rPass_o0 p i).length)
    [(4, hvF)] 0 [] []) [1, 4] [(2, KS.auto)] [] = some ⟨21, 58, rPass_t1, [], .run, none, rPass_v1 p (0), rPass_o1 p (0),
    [ltq i (↑(List.length (ShPass.tides p)) : Int) = false]⟩ := by kernel_rfl
noncomputable def rPass_p1 (B : Lo) (p : ShPass) (i : Int) (dJ0 : Nat → Value) : List Prop := [i = (↑(Int.toNat i) : Int) ∧ Int.toNat i < List.length (ShPass.swell p) ∧ Array.extract (rowL encSp (ShPass.swell p)) (Int.toNat i * TypeInfo.size Tryz.t25) (Int.toNat i * TypeInfo.size Tryz.t25 + TypeInfo.size Tryz.t25) = (rPass_z0 p i), ltq i (↑(List.length (ShPass.swell p)) : Int) = true] ++ ([] : List Prop)
noncomputable def rPass_q1 (p : ShPass) (i : Int) (dJ0 : Nat → Value) : ScriptT := [(4, hvT), (8, HintT.tidx (Int.toNat i) (rPass_z0 p i))]
set_option maxRecDepth 100000 in
theorem rPass_s3 (B : Lo) (p : ShPass) (i : Int) (dJ0 : Nat → Value) : landM (srunT Tryz.prog (okFn Tryz.prog) J0 B 14 1 (headC 21 58 (([1, 4] : List Nat).zip (rPass_v1 p i)) dJ0 rPass_t1) (headH (rPass_o1 p i)) (2 + (rPass_o1 p i).length)
    (rPass_q1 p i dJ0 ++ [(10, HintT.pure (Value.bool true) []), (13, hvI (i + 1))]) 0 [] []) [1, 4] [(2, KS.auto)] [] = some ⟨21, 58, rPass_t1, [], .run, none, rPass_v1 p (i + 1), rPass_o1 p (i + 1),
    [wq (i + 1) = i + 1, AllP [] ∧ PureC Tryz.prog J0 70 #[Value.agg (rPass_z0 p i), Value.int IntKind.i64 0, Value.int IntKind.i64 1000] (Value.bool true)] ++ rPass_p1 B p i dJ0⟩ := by kernel_rfl
set_option maxRecDepth 100000 in
theorem rPass_s4 (B : Lo) (p : ShPass) (i : Int) (dJ0 : Nat → Value) : endT (srunT Tryz.prog (okFn Tryz.prog) J0 B 14 1 (headC 21 58 (([1, 4] : List Nat).zip (rPass_v1 p i)) dJ0 rPass_t1) (headH (rPass_o1 p i)) (2 + (rPass_o1 p i).length)
    (rPass_q1 p i dJ0 ++ [(10, HintT.pure (Value.bool false) [])]) 0 [] []) [] = some (Value.bool false,
    [AllP [] ∧ PureC Tryz.prog J0 70 #[Value.agg (rPass_z0 p i), Value.int IntKind.i64 0, Value.int IntKind.i64 1000] (Value.bool false)] ++ rPass_p1 B p i dJ0) := by kernel_rfl
noncomputable def rPass_p2 (B : Lo) (p : ShPass) (i : Int) (dJ0 : Nat → Value) : List Prop := [ltq i (↑(List.length (ShPass.swell p)) : Int) = false] ++ ([] : List Prop)
noncomputable def rPass_q2 (p : ShPass) (i : Int) (dJ0 : Nat → Value) : ScriptT := [(4, hvF)]
noncomputable def rPass_p3 (B : Lo) (p : ShPass) (i : Int) (dJ0 : Nat → Value) : List Prop := [AllP [] ∧ PureC Tryz.prog J0 69 #[Value.int IntKind.i64 (↑(List.length (ShPass.tides p)) : Int), Value.int IntKind.i64 1, Value.int IntKind.i64 50] (Value.bool true)] ++ rPass_p2 B p i dJ0
noncomputable def rPass_q3 (p : ShPass) (i : Int) (dJ0 : Nat → Value) : ScriptT := rPass_q2 p i dJ0 ++ [(8, HintT.pure (Value.bool true) [])]
noncomputable def rPass_p4 (B : Lo) (p : ShPass) (i : Int) (dJ0 : Nat → Value) : List Prop := [AllP [] ∧ PureC Tryz.prog J0 69 #[Value.int IntKind.i64 (ShPass.depth p), Value.int IntKind.i64 0, Value.int IntKind.i64 1000] (Value.bool true)] ++ rPass_p3 B p i dJ0
noncomputable def rPass_q4 (p : ShPass) (i : Int) (dJ0 : Nat → Value) : ScriptT := rPass_q3 p i dJ0 ++ [(12, HintT.pure (Value.bool true) [])]
noncomputable def rPass_p5 (B : Lo) (p : ShPass) (i : Int) (dJ0 : Nat → Value) : List Prop := [AllP [] ∧ PureC Tryz.prog J0 69 #[Value.int IntKind.i64 (ShPass.draft p), Value.int IntKind.i64 0, Value.int IntKind.i64 1000] (Value.bool true)] ++ rPass_p4 B p i dJ0
noncomputable def rPass_q5 (p : ShPass) (i : Int) (dJ0 : Nat → Value) : ScriptT := rPass_q4 p i dJ0 ++ [(17, HintT.pure (Value.bool true) [])]
noncomputable def rPass_p6 (B : Lo) (p : ShPass) (i : Int) (dJ0 : Nat → Value) : List Prop := [AllP [] ∧ PureC Tryz.prog J0 69 #[Value.int IntKind.i64 (↑(List.length (ShPass.swell p)) : Int), Value.int IntKind.i64 1, Value.int IntKind.i64 60] (Value.bool true)] ++ rPass_p5 B p i dJ0
noncomputable def rPass_q6 (p : ShPass) (i : Int) (dJ0 : Nat → Value) : ScriptT := rPass_q5 p i dJ0 ++ [(23, HintT.pure (Value.bool true) [])]
set_option maxRecDepth 100000 in
theorem rPass_s5 (B : Lo) (p : ShPass) (i : Int) (dJ0 : Nat → Value) : endT (srunT Tryz.prog (okFn Tryz.prog) J0 B 9 1 (headC 21 58 (([1, 4] : List Nat).zip (rPass_v1 p i)) dJ0 rPass_t1) (headH (rPass_o1 p i)) (2 + (rPass_o1 p i).length)
    (rPass_q6 p i dJ0 ++ [(28, HintT.pure (Value.bool true) [])]) 0 [] []) [] = some (Value.bool true,
    [AllP [] ∧ PureC Tryz.prog J0 70 #[Value.agg #[Value.int IntKind.i64 (ShPass.llo p), Value.int IntKind.i64 (ShPass.lhi p)], Value.int IntKind.i64 0, Value.int IntKind.i64 23] (Value.bool true)] ++ rPass_p6 B p i dJ0) := by kernel_rfl
set_option maxRecDepth 100000 in
theorem rPass_s6 (B : Lo) (p : ShPass) (i : Int) (dJ0 : Nat → Value) : endT (srunT Tryz.prog (okFn Tryz.prog) J0 B 9 1 (headC 21 58 (([1, 4] : List Nat).zip (rPass_v1 p i)) dJ0 rPass_t1) (headH (rPass_o1 p i)) (2 + (rPass_o1 p i).length)
    (rPass_q6 p i dJ0 ++ [(28, HintT.pure (Value.bool false) [])]) 0 [] []) [] = some (Value.bool false,
    [AllP [] ∧ PureC Tryz.prog J0 70 #[Value.agg #[Value.int IntKind.i64 (ShPass.llo p), Value.int IntKind.i64 (ShPass.lhi p)], Value.int IntKind.i64 0, Value.int IntKind.i64 23] (Value.bool false)] ++ rPass_p6 B p i dJ0) := by kernel_rfl
set_option maxRecDepth 100000 in
theorem rPass_s7 (B : Lo) (p : ShPass) (i : Int) (dJ0 : Nat → Value) : endT (srunT Tryz.prog (okFn Tryz.prog) J0 B 9 1 (headC 21 58 (([1, 4] : List Nat).zip (rPass_v1 p i)) dJ0 rPass_t1) (headH (rPass_o1 p i)) (2 + (rPass_o1 p i).length)
    (rPass_q5 p i dJ0 ++ [(23, HintT.pure (Value.bool false) [])]) 0 [] []) [] = some (Value.bool false,
    [AllP [] ∧ PureC Tryz.prog J0 69 #[Value.int IntKind.i64 (↑(List.length (ShPass.swell p)) : Int), Value.int IntKind.i64 1, Value.int IntKind.i64 60] (Value.bool false)] ++ rPass_p5 B p i dJ0) := by kernel_rfl
set_option maxRecDepth 100000 in
theorem rPass_s8 (B : Lo) (p : ShPass) (i : Int) (dJ0 : Nat → Value) : endT (srunT Tryz.prog (okFn Tryz.prog) J0 B 9 1 (headC 21 58 (([1, 4] : List Nat).zip (rPass_v1 p i)) dJ0 rPass_t1) (headH (rPass_o1 p i)) (2 + (rPass_o1 p i).length)
    (rPass_q4 p i dJ0 ++ [(17, HintT.pure (Value.bool false) [])]) 0 [] []) [] = some (Value.bool false,
    [AllP [] ∧ PureC Tryz.prog J0 69 #[Value.int IntKind.i64 (ShPass.draft p), Value.int IntKind.i64 0, Value.int IntKind.i64 1000] (Value.bool false)] ++ rPass_p4 B p i dJ0) := by kernel_rfl
set_option maxRecDepth 100000 in
theorem rPass_s9 (B : Lo) (p : ShPass) (i : Int) (dJ0 : Nat → Value) : endT (srunT Tryz.prog (okFn Tryz.prog) J0 B 9 1 (headC 21 58 (([1, 4] : List Nat).zip (rPass_v1 p i)) dJ0 rPass_t1) (headH (rPass_o1 p i)) (2 + (rPass_o1 p i).length)
    (rPass_q3 p i dJ0 ++ [(12, HintT.pure (Value.bool false) [])]) 0 [] []) [] = some (Value.bool false,
    [AllP [] ∧ PureC Tryz.prog J0 69 #[Value.int IntKind.i64 (ShPass.depth p), Value.int IntKind.i64 0, Value.int IntKind.i64 1000] (Value.bool false)] ++ rPass_p3 B p i dJ0) := by kernel_rfl
set_option maxRecDepth 100000 in
theorem rPass_s10 (B : Lo) (p : ShPass) (i : Int) (dJ0 : Nat → Value) : endT (srunT Tryz.prog (okFn Tryz.prog) J0 B 9 1 (headC 21 58 (([1, 4] : List Nat).zip (rPass_v1 p i)) dJ0 rPass_t1) (headH (rPass_o1 p i)) (2 + (rPass_o1 p i).length)
    (rPass_q2 p i dJ0 ++ [(8, HintT.pure (Value.bool false) [])]) 0 [] []) [] = some (Value.bool false,
    [AllP [] ∧ PureC Tryz.prog J0 69 #[Value.int IntKind.i64 (↑(List.length (ShPass.tides p)) : Int), Value.int IntKind.i64 1, Value.int IntKind.i64 50] (Value.bool false)] ++ rPass_p2 B p i dJ0) := by kernel_rfl
set_option maxRecDepth 100000 in
theorem rPass_s11 (B : Lo) (p : ShPass) : landM (srunT Tryz.prog (okFn Tryz.prog) J0 B 7 1 (entryC Tryz.prog 21 58 (([.agg (encPass p).toArray]).map (pushT 0 4))) H00 1
    [] 0 [] []) [1, 3] [(1, KS.auto)] [] = some ⟨21, 58, rPass_t0, [], .run, none, rPass_v0 p (0), rPass_o0 p (0),
    []⟩ := by kernel_rfl
set_option maxHeartbeats 4000000 in
theorem rPass_ls (p : ShPass)  (hfacts : p.tides.length ≤ 9223372036854775807 ∧ p.swell.length ≤ 9223372036854775807) {B : Lo} (hJ : ∀ w, B.has w → J0 w) {c0 : CF} : ∀ m : Nat, (∀ (i : Int), (p.tides.length - i.toNat) + p.swell.length + 1 = m → ∀ (h0 : 0 ≤ i), rPass_h0 B c0 p i → EndsT Tryz.prog B c0 (.bool ((p.tides.drop i.toNat).all (fun x => inB x (-1000) 1000) && passC p))) ∧ (∀ (i : Int), (p.swell.length - i.toNat) = m → ∀ (h0 : 0 ≤ i), rPass_h1 B c0 p i → EndsT Tryz.prog B c0 (.bool ((p.swell.drop i.toNat).all (fun s => spanB s.lo s.hi 0 1000) && passD p))) := by
  intro m0
  induction m0 using Nat.strongRecOn with
  | _ m0 ih0 =>
    refine ⟨?_, ?_⟩
    · intro i hm0 h0 ⟨dJ0, hdJ0, hg0⟩
      by_cases q0 : (i : Int) < ((↑(List.length (ShPass.tides p)) : Int))
      ·
        have hp0 : AllP (rPass_p0 B p i dJ0) := by
          exact ⟨⟨by omega, by omega, (rowL_extract (z := 1) (fun _ => rfl) (by omega))⟩, ⟨(ltq_t q0), trivial⟩⟩
        cases q1 : inB (List.getD (ShPass.tides p) (Int.toNat i) default) (-1000) 1000 with
        | true =>
          exact ((ih0 _ (by omega)).1 (i + 1) rfl (by first | assumption | omega | (simp_all; done))
            (hg0.landM okF hJ mixed_ok (rPass_s0 B p i dJ0)
            ⟨(wq_in (by omega) (by omega)), ⟨⟨trivial, (by have t_ := rin (List.getD (ShPass.tides p) (Int.toNat i) default) (-1000) (1000); rw [q1] at t_; exact t_)⟩, hp0⟩⟩ (by kernel_rfl) (by kernel_rfl))).cast (by first | (rw [drop_all (i := i)]; (· simp_all [passC, passD]); (· omega); (· omega)) | (rw [drop_end (i := i)]; (· simp_all [passC, passD]); (· omega)))
        | false =>
          exact (GoE.endsT okF hJ mixed_ok hg0 (rPass_s1 B p i dJ0)
            ⟨⟨trivial, (by have t_ := rin (List.getD (ShPass.tides p) (Int.toNat i) default) (-1000) (1000); rw [q1] at t_; exact t_)⟩, hp0⟩).cast (by first | (rw [drop_all (i := i)]; (· simp_all [passC, passD]); (· omega); (· omega)) | (rw [drop_end (i := i)]; (· simp_all [passC, passD]); (· omega)))
      ·
        exact ((ih0 _ (by omega)).2 (0) rfl (by first | assumption | omega | (simp_all; done))
          (hg0.landM okF hJ mixed_ok (rPass_s2 B p i dJ0)
          ⟨(ltq_f (Int.not_lt.1 q0)), trivial⟩ (by kernel_rfl) (by kernel_rfl))).cast (by first | (rw [drop_all (i := i)]; (· simp_all [passC, passD]); (· omega); (· omega)) | (rw [drop_end (i := i)]; (· simp_all [passC, passD]); (· omega)))
    · intro i hm0 h0 ⟨dJ0, hdJ0, hg0⟩
      by_cases q0 : (i : Int) < ((↑(List.length (ShPass.swell p)) : Int))
      ·
        have hp1 : AllP (rPass_p1 B p i dJ0) := by
          exact ⟨⟨by omega, by omega, (rowL_extract (z := 2) (fun _ => rfl) (by omega))⟩, ⟨(ltq_t q0), trivial⟩⟩
        cases q1 : spanB (Span.lo (List.getD (ShPass.swell p) (Int.toNat i) default)) (Span.hi (List.getD (ShPass.swell p) (Int.toNat i) default)) 0 1000 with
        | true =>
          exact ((ih0 _ (by omega)).2 (i + 1) rfl (by first | assumption | omega | (simp_all; done))
            (hg0.landM okF hJ mixed_ok (rPass_s3 B p i dJ0)
            ⟨(wq_in (by omega) (by omega)), ⟨⟨trivial, (by have t_ := rSpan (Span.lo (List.getD (ShPass.swell p) (Int.toNat i) default)) (Span.hi (List.getD (ShPass.swell p) (Int.toNat i) default)) (0) (1000); rw [q1] at t_; exact t_)⟩, hp1⟩⟩ (by kernel_rfl) (by kernel_rfl))).cast (by first | (rw [drop_all (i := i)]; (· simp_all [passD]); (· omega); (· omega)) | (rw [drop_end (i := i)]; (· simp_all [passD]); (· omega)))
        | false =>
          exact (GoE.endsT okF hJ mixed_ok hg0 (rPass_s4 B p i dJ0)
            ⟨⟨trivial, (by have t_ := rSpan (Span.lo (List.getD (ShPass.swell p) (Int.toNat i) default)) (Span.hi (List.getD (ShPass.swell p) (Int.toNat i) default)) (0) (1000); rw [q1] at t_; exact t_)⟩, hp1⟩).cast (by first | (rw [drop_all (i := i)]; (· simp_all [passD]); (· omega); (· omega)) | (rw [drop_end (i := i)]; (· simp_all [passD]); (· omega)))
      ·
        have hp2 : AllP (rPass_p2 B p i dJ0) := by
          exact ⟨(ltq_f (Int.not_lt.1 q0)), trivial⟩
        cases q1 : inB (↑(List.length (ShPass.tides p)) : Int) 1 50 with
        | true =>
          have hp3 : AllP (rPass_p3 B p i dJ0) := by
            exact ⟨⟨trivial, (by have t_ := rin ((↑(List.length (ShPass.tides p)) : Int)) (1) (50); rw [q1] at t_; exact t_)⟩, hp2⟩
          cases q2 : inB (ShPass.depth p) 0 1000 with
          | true =>
            have hp4 : AllP (rPass_p4 B p i dJ0) := by
              exact ⟨⟨trivial, (by have t_ := rin (ShPass.depth p) (0) (1000); rw [q2] at t_; exact t_)⟩, hp3⟩
            cases q3 : inB (ShPass.draft p) 0 1000 with
            | true =>
              have hp5 : AllP (rPass_p5 B p i dJ0) := by
                exact ⟨⟨trivial, (by have t_ := rin (ShPass.draft p) (0) (1000); rw [q3] at t_; exact t_)⟩, hp4⟩
              cases q4 : inB (↑(List.length (ShPass.swell p)) : Int) 1 60 with
              | true =>
                have hp6 : AllP (rPass_p6 B p i dJ0) := by
                  exact ⟨⟨trivial, (by have t_ := rin ((↑(List.length (ShPass.swell p)) : Int)) (1) (60); rw [q4] at t_; exact t_)⟩, hp5⟩
                cases q5 : spanB (ShPass.llo p) (ShPass.lhi p) 0 23 with
                | true =>
                  exact (GoE.endsT okF hJ mixed_ok hg0 (rPass_s5 B p i dJ0)
                    ⟨⟨trivial, (by have t_ := rSpan (ShPass.llo p) (ShPass.lhi p) (0) (23); rw [q5] at t_; exact t_)⟩, hp6⟩).cast (by first | (rw [drop_all (i := i)]; (· simp_all [passD]); (· omega); (· omega)) | (rw [drop_end (i := i)]; (· simp_all [passD]); (· omega)))
                | false =>
                  exact (GoE.endsT okF hJ mixed_ok hg0 (rPass_s6 B p i dJ0)
                    ⟨⟨trivial, (by have t_ := rSpan (ShPass.llo p) (ShPass.lhi p) (0) (23); rw [q5] at t_; exact t_)⟩, hp6⟩).cast (by first | (rw [drop_all (i := i)]; (· simp_all [passD]); (· omega); (· omega)) | (rw [drop_end (i := i)]; (· simp_all [passD]); (· omega)))
              | false =>
                exact (GoE.endsT okF hJ mixed_ok hg0 (rPass_s7 B p i dJ0)
                  ⟨⟨trivial, (by have t_ := rin ((↑(List.length (ShPass.swell p)) : Int)) (1) (60); rw [q4] at t_; exact t_)⟩, hp5⟩).cast (by first | (rw [drop_all (i := i)]; (· simp_all [passD]); (· omega); (· omega)) | (rw [drop_end (i := i)]; (· simp_all [passD]); (· omega)))
            | false =>
              exact (GoE.endsT okF hJ mixed_ok hg0 (rPass_s8 B p i dJ0)
                ⟨⟨trivial, (by have t_ := rin (ShPass.draft p) (0) (1000); rw [q3] at t_; exact t_)⟩, hp4⟩).cast (by first | (rw [drop_all (i := i)]; (· simp_all [passD]); (· omega); (· omega)) | (rw [drop_end (i := i)]; (· simp_all [passD]); (· omega)))
          | false =>
            exact (GoE.endsT okF hJ mixed_ok hg0 (rPass_s9 B p i dJ0)
              ⟨⟨trivial, (by have t_ := rin (ShPass.depth p) (0) (1000); rw [q2] at t_; exact t_)⟩, hp3⟩).cast (by first | (rw [drop_all (i := i)]; (· simp_all [passD]); (· omega); (· omega)) | (rw [drop_end (i := i)]; (· simp_all [passD]); (· omega)))
        | false =>
          exact (GoE.endsT okF hJ mixed_ok hg0 (rPass_s10 B p i dJ0)
            ⟨⟨trivial, (by have t_ := rin ((↑(List.length (ShPass.tides p)) : Int)) (1) (50); rw [q1] at t_; exact t_)⟩, hp2⟩).cast (by first | (rw [drop_all (i := i)]; (· simp_all [passD]); (· omega); (· omega)) | (rw [drop_end (i := i)]; (· simp_all [passD]); (· omega)))
set_option maxHeartbeats 4000000 in
theorem rPass_e (p : ShPass)  (hfacts : p.tides.length ≤ 9223372036854775807 ∧ p.swell.length ≤ 9223372036854775807) {B : Lo} (hJ : ∀ w, B.has w → J0 w) : EndsT Tryz.prog B (entryC Tryz.prog 21 58 (([.agg (encPass p).toArray]).map (pushT 0 4))) (.bool (passB p)) := by
  exact ((rPass_ls p hfacts hJ _).1 (0) rfl (by first | assumption | omega | (simp_all; done))
    (GoE.start.landM okF hJ mixed_ok (rPass_s11 B p)
    trivial (by kernel_rfl) (by kernel_rfl))).cast (by simp_all [passB])
theorem rPass (p : ShPass)  : PureC Tryz.prog J0 21 #[.agg (encPass p).toArray] (.bool (passB p)) :=
  pureC_ofF (ts := [.agg (encPass p).toArray]) (p.tides.length ≤ 9223372036854775807 ∧ p.swell.length ≤ 9223372036854775807) (fun _ _ ht => ⟨ht.ln2 (i := 0) (j := 0) rfl rfl, ht.ln2 (i := 0) (j := 3) rfl rfl⟩) J0_st (c0 := entryC Tryz.prog 21 58 (([.agg (encPass p).toArray]).map (pushT 0 4))) (by kernel_rfl) (by kernel_rfl) fun hfacts B hJ => rPass_e p  hfacts hJ
end Go.Proofs.YtoihlobogbeigaaGreat

