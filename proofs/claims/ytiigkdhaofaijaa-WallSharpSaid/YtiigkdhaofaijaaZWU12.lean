/- Wall: levels, and the reference's depths. -/
import Derived.Test.YtiigkdhaofaijaaZWU11
set_option linter.all false
namespace Go.Proofs.Ytiigkdhaofaijaa
open Go Go.CE Go.RowKit
set_option maxRecDepth 100000
def waveN (loss : Int) : Nat → Int → Int
 | 0, w => w
 | n + 1, w => waveN loss n (w - (w * loss).tdiv 1000)
def levelF (s : WShore) (t : WTruth) : Int := t.tide + waveN t.loss s.reef.toNat ((t.fetch * t.wind).tdiv 1000)
def tOk (s : WShore) (t : WTruth) : Prop := (0 ≤ t.wind ∧ t.wind ≤ 1000) ∧ (0 ≤ t.fetch ∧ t.fetch ≤ 10000) ∧ (-5000 ≤ t.tide ∧ t.tide ≤ 5000) ∧ (0 ≤ t.loss ∧ t.loss ≤ 1000) ∧ t.drags.length = s.cells.length ∧ ∀ x ∈ t.drags, 0 ≤ x ∧ x ≤ 5000
theorem tOk_of {s : WShore} {c : WStorm} {t : WTruth} (hs : shoreB s = true) (hc : stormB c = true) (ht : truthB s c t = true) : tOk s t := by
 have h1 := shore_facts hs
 have h2 := storm_facts hc
 have h3 := truth_facts ht
 have h4 := drags_facts h3.2.2.2.2
 refine ⟨by omega, by omega, by omega, by omega, h4.1, fun x hx => ?_⟩
 obtain ⟨i, i0, i1, rfl⟩ := mem_getD hx
 have h5 := h4.2 i i0 i1
 have h6 := cell_facts (h1.2.2.2.2.1 _ (getD_mem (l := s.cells) (i := i) i0 (by omega)))
 omega
theorem tOk_end {b : Bool} {s : WShore} {c : WStorm} (hs : shoreB s = true) (hc : stormB c = true) : tOk s (endE b s c) := by
 have h1 := shore_facts hs
 have h2 := storm_facts hc
 cases b <;> refine ⟨by simp only [endE, cond_true, cond_false]; omega, by simp only [endE, cond_true, cond_false]; omega, by simp only [endE, cond_true, cond_false]; omega, by simp only [endE, cond_true, cond_false]; omega, by simp [endE], fun x hx => ?_⟩ <;>
 ·obtain ⟨k, hk, rfl⟩ := List.mem_map.1 hx
  have := cell_facts (h1.2.2.2.2.1 k hk)
  simp only [cond_true, cond_false]; omega
theorem wave_q {w l : Int} (hw : 0 ≤ w ∧ w ≤ 10000) (hl : 0 ≤ l ∧ l ≤ 1000) : 0 ≤ w * l ∧ w * l ≤ 10000000 ∧ (w * l).tdiv 1000 = (w * l) / 1000 ∧ 0 ≤ (w * l) / 1000 ∧ (w * l) / 1000 ≤ w := by
 have e0 : 0 ≤ w * l := Int.mul_nonneg hw.1 hl.1
 have e1 : w * l ≤ w * 1000 := Int.mul_le_mul_of_nonneg_left hl.2 hw.1
 refine ⟨e0, by omega, Int.tdiv_eq_ediv_of_nonneg e0, by omega, by omega⟩
theorem wave_0 {s : WShore} {t : WTruth} (ht : tOk s t) : 0 ≤ t.fetch * t.wind ∧ t.fetch * t.wind ≤ 10000000 ∧ (t.fetch * t.wind).tdiv 1000 = (t.fetch * t.wind) / 1000 ∧ 0 ≤ (t.fetch * t.wind) / 1000 ∧ (t.fetch * t.wind) / 1000 ≤ 10000 := by
 have h := wave_q (w := t.fetch) (l := t.wind) ht.2.1 ht.1
 refine ⟨h.1, h.2.1, h.2.2.1, h.2.2.2.1, by omega⟩
theorem waveN_in {l : Int} (hl : 0 ≤ l ∧ l ≤ 1000) : ∀ (n : Nat) (w : Int), 0 ≤ w ∧ w ≤ 10000 → 0 ≤ waveN l n w ∧ waveN l n w ≤ 10000
 | 0, w, hw => hw
 | n + 1, w, hw => by
   have h := wave_q hw hl
   exact waveN_in hl n _ (by omega)
theorem waveN_cons {l w r i : Int} (h : i < r) : waveN l (r - i).toNat w = waveN l (r - (i + 1)).toNat (w - (w * l).tdiv 1000) := by
 rw [show (r - i).toNat = (r - (i + 1)).toNat + 1 by omega]; rfl
theorem waveN_nil {l w r i : Int} (h : r ≤ i) : waveN l (r - i).toNat w = w := by
 rw [show (r - i).toNat = 0 by omega]; rfl
theorem level_in {s : WShore} {t : WTruth} (ht : tOk s t) : -5000 ≤ levelF s t ∧ levelF s t ≤ 15000 := by
 have h0 := wave_0 ht
 have h1 := waveN_in ht.2.2.2.1 s.reef.toNat ((t.fetch * t.wind).tdiv 1000) (by omega)
 have h2 := ht.2.2.1
 unfold levelF; omega
def rLevel_v0 (s : WShore) (t : WTruth) (w i : Int) : List Value := [pA 2 0, pA 3 0, .int .i64 w, .int .i64 i]
def rLevel_o0 (s : WShore) (t : WTruth) (w i : Int) : List Obj := [Obj.cells #[topV 1 (slT s.cells.length (rowL encWCell s.cells)), topV 1 (slT s.works.length (rowL encWWork s.works)), Value.int IntKind.i64 s.reef, Value.int IntKind.i64 s.llo, Value.int IntKind.i64 s.lhi] 27, Obj.cells #[Value.int IntKind.i64 t.wind, Value.int IntKind.i64 t.fetch, Value.int IntKind.i64 t.tide, Value.int IntKind.i64 t.loss, topV 1 (slT t.drags.length (rowL encI t.drags))] 38]
noncomputable def rLevel_t0 : List Item := ([.code [1, 1, 0, 1, 0, 0], .inLoop [1, 1, 0, 1, 0, 0], .inBlock 0, .code [1, 1, 1]]).map (it (bodyOf Try.prog 22))
def rLevel_h0 (B : Lo) (c0 : CF) (s : WShore) (t : WTruth) (w i : Int) : Prop := ∃ dJ : Nat → Value, (∀ t, Loose (dJ t)) ∧ GoE Try.prog B c0 H00 1 (headC 22 30 (([2, 3, 5, 6] : List Nat).zip (rLevel_v0 s t w i)) dJ rLevel_t0) (headH (rLevel_o0 s t w i)) (2 + (rLevel_o0 s t w i).length) []
theorem rLevel_s0 (B : Lo) (s : WShore) (t : WTruth) (w i : Int) (dJ0 : Nat → Value) : landM (srunT Try.prog (okFn Try.prog) J0 B 11 1 (headC 22 30 (([2, 3, 5, 6] : List Nat).zip (rLevel_v0 s t w i)) dJ0 rLevel_t0) (headH (rLevel_o0 s t w i)) (2 + (rLevel_o0 s t w i).length)
 [(3, hvT), (8, hvI (w * t.loss)), (9, hvI (Int.tdiv (w * t.loss) 1000)), (10, hvI (w - Int.tdiv (w * t.loss) 1000)), (13, hvI (i + 1))] 0 [] []) [2, 3, 5, 6] [(2, KS.auto), (3, KS.auto)] [] = some ⟨22, 30, rLevel_t0, [], .run, none, rLevel_v0 s t (w - Int.tdiv (w * t.loss) 1000) (i + 1), rLevel_o0 s t (w - Int.tdiv (w * t.loss) 1000) (i + 1),
 [wq (i + 1) = i + 1, wq (w - Int.tdiv (w * t.loss) 1000) = w - Int.tdiv (w * t.loss) 1000, IntKind.wrap IntKind.i64 (Int.tdiv (w * t.loss) 1000) = Int.tdiv (w * t.loss) 1000, wq (w * t.loss) = w * t.loss, ltq i s.reef = true]⟩ := by kernel_rfl
theorem rLevel_s1 (B : Lo) (s : WShore) (t : WTruth) (w i : Int) (dJ0 : Nat → Value) : endT (srunT Try.prog (okFn Try.prog) J0 B 9 1 (headC 22 30 (([2, 3, 5, 6] : List Nat).zip (rLevel_v0 s t w i)) dJ0 rLevel_t0) (headH (rLevel_o0 s t w i)) (2 + (rLevel_o0 s t w i).length)
 [(3, hvF), (7, hvI (t.tide + w))] 0 [] []) [] = some (Value.int IntKind.i64 (t.tide + w),
 [wq (t.tide + w) = t.tide + w, ltq i s.reef = false]) := by kernel_rfl
theorem rLevel_s2 (B : Lo) (s : WShore) (t : WTruth) : landM (srunT Try.prog (okFn Try.prog) J0 B 9 1 (entryC Try.prog 22 30 (([.agg (encShore s).toArray, .agg (encTruth t).toArray]).map (pushT 0 4))) H00 1
 [(7, hvI (t.wind * t.fetch)), (8, hvI (Int.tdiv (t.wind * t.fetch) 1000))] 0 [] []) [2, 3, 5, 6] [(1, KS.auto), (2, KS.auto)] [] = some ⟨22, 30, rLevel_t0, [], .run, none, rLevel_v0 s t (Int.tdiv (t.wind * t.fetch) 1000) (0), rLevel_o0 s t (Int.tdiv (t.wind * t.fetch) 1000) (0),
 [IntKind.wrap IntKind.i64 (Int.tdiv (t.wind * t.fetch) 1000) = Int.tdiv (t.wind * t.fetch) 1000, wq (t.wind * t.fetch) = t.wind * t.fetch]⟩ := by kernel_rfl
set_option maxHeartbeats 4000000 in
theorem rLevel_ls (s : WShore) (t : WTruth) (hr : 0 ≤ s.reef ∧ s.reef ≤ 20) (ht : tOk s t) {B : Lo} (hJ : ∀ w, B.has w → J0 w) {c0 : CF} : ∀ m : Nat, (∀ (w i : Int), (s.reef - i).toNat = m → ∀ (h0 : 0 ≤ i) (hw : 0 ≤ w ∧ w ≤ 10000), rLevel_h0 B c0 s t w i → EndsT Try.prog B c0 (.int .i64 (t.tide + waveN t.loss (s.reef - i).toNat w))) := by
 intro m0
 induction m0 using Nat.strongRecOn with
 | _ m0 ih0 =>
   intro w i hm0 h0 hw ⟨dJ0, hdJ0, hg0⟩
   have h0 := wave_0 ht
   have hm : t.wind * t.fetch = t.fetch * t.wind := Int.mul_comm _ _
   have hlt := ht.2.2.1
   have hll := ht.2.2.2.1
   have hq := wave_q hw ht.2.2.2.1
   have hlt := ht.2.2.1
   by_cases q0 : (i : Int) < s.reef
   ·
    have s2 := waveN_cons (l := t.loss) (w := w) q0
    exact ((ih0 _ (by omega)) (w - Int.tdiv (w * t.loss) 1000) (i + 1) rfl (by omega) (by omega)
     (hg0.landM okF hJ mixed_ok (rLevel_s0 B s t w i dJ0)
     ⟨(wq_in (by omega) (by omega)), ⟨(wq_in (by omega) (by omega)), ⟨(wrap_in (by omega) (by omega)), ⟨(wq_in (by omega) (by omega)), ⟨(ltq_t q0), trivial⟩⟩⟩⟩⟩ (by kernel_rfl) (by kernel_rfl))).cast (by (rw [s2]; done))
   ·
    have s2 := waveN_nil (l := t.loss) (w := w) (r := s.reef) (i := i) (by omega)
    exact (GoE.endsT okF hJ mixed_ok hg0 (rLevel_s1 B s t w i dJ0)
     ⟨(wq_in (by omega) (by omega)), ⟨(ltq_f (Int.not_lt.1 q0)), trivial⟩⟩).cast (by (rw [s2]; done))
set_option maxHeartbeats 4000000 in
theorem rLevel_e (s : WShore) (t : WTruth) (hr : 0 ≤ s.reef ∧ s.reef ≤ 20) (ht : tOk s t) {B : Lo} (hJ : ∀ w, B.has w → J0 w) : EndsT Try.prog B (entryC Try.prog 22 30 (([.agg (encShore s).toArray, .agg (encTruth t).toArray]).map (pushT 0 4))) (.int .i64 (levelF s t)) := by
 have h0 := wave_0 ht
 have hm : t.wind * t.fetch = t.fetch * t.wind := Int.mul_comm _ _
 have hlt := ht.2.2.1
 have hll := ht.2.2.2.1
 exact ((rLevel_ls s t hr ht hJ _) (Int.tdiv (t.wind * t.fetch) 1000) (0) rfl (by omega) (by (simp_all; done))
  (GoE.start.landM okF hJ mixed_ok (rLevel_s2 B s t)
  ⟨(wrap_in (by (rw [hm]; omega)) (by (rw [hm]; omega))), ⟨(wq_in (by omega) (by omega)), trivial⟩⟩ (by kernel_rfl) (by kernel_rfl))).cast (by (rw [hm, Int.sub_zero]; rfl))
theorem rLevel (s : WShore) (t : WTruth) (hr : 0 ≤ s.reef ∧ s.reef ≤ 20) (ht : tOk s t) : PureC Try.prog J0 22 #[.agg (encShore s).toArray, .agg (encTruth t).toArray] (.int .i64 (levelF s t)) :=
 pureC_of (ts := [.agg (encShore s).toArray, .agg (encTruth t).toArray]) J0_st (c0 := entryC Try.prog 22 30 (([.agg (encShore s).toArray, .agg (encTruth t).toArray]).map (pushT 0 4))) (by kernel_rfl) (by kernel_rfl) fun B hJ => rLevel_e s t hr ht hJ
def workOf (s : WShore) (k : Int) : WWork := if 0 ≤ k then s.works.getD k.toNat default else ⟨0, 0, 0⟩
def wk (s : WShore) (plan : List Int) (i : Int) : WWork := workOf s (plan.getD i.toNat default)
def gr (s : WShore) (i : Int) : Int := (s.cells.getD i.toNat default).ground
def playI (s : WShore) (plan : List Int) (t : WTruth) : List Int → Int → Bool → List Int
 | [], _, _ => []
 | i :: l, lv, r => (bif r && decide (gr s i + (wk s plan i).rise < lv - t.drags.getD i.toNat default - (wk s plan i).calm) then lv - t.drags.getD i.toNat default - (wk s plan i).calm - gr s i else 0) :: playI s plan t l (lv - t.drags.getD i.toNat default - (wk s plan i).calm) (r && decide (gr s i + (wk s plan i).rise < lv - t.drags.getD i.toNat default - (wk s plan i).calm))
def playL (s : WShore) (plan : List Int) (t : WTruth) : List Int := playI s plan t (upI 0 s.cells.length) (levelF s t) true
theorem workOf_in {s : WShore} {k : Int} (hs : shoreB s = true) (hk : k < s.works.length) : (0 ≤ (workOf s k).rise ∧ (workOf s k).rise ≤ 5000) ∧ (0 ≤ (workOf s k).calm ∧ (workOf s k).calm ≤ 5000) := by
 unfold workOf
 split
 ·have := work_facts ((shore_facts hs).2.2.2.2.2 _ (getD_mem (l := s.works) (i := k) (by omega) hk)); omega
 ·simp
theorem wk_in {s : WShore} {plan : List Int} {i : Int} (hs : shoreB s = true) (hp : planB s plan = true) (h0 : 0 ≤ i) (h1 : i < s.cells.length) : (0 ≤ (wk s plan i).rise ∧ (wk s plan i).rise ≤ 5000) ∧ (0 ≤ (wk s plan i).calm ∧ (wk s plan i).calm ≤ 5000) := by
 have h2 := plan_facts hp
 have h3 := h2.2 _ (getD_mem (l := plan) (i := i) h0 (by omega))
 exact workOf_in hs h3.2
theorem gr_in {s : WShore} {i : Int} (hs : shoreB s = true) (h0 : 0 ≤ i) (h1 : i < s.cells.length) : -5000 ≤ gr s i ∧ gr s i ≤ 5000 := by
 have := cell_facts ((shore_facts hs).2.2.2.2.1 _ (getD_mem (l := s.cells) (i := i) h0 h1)); unfold gr; omega
theorem drag_in {s : WShore} {t : WTruth} {i : Int} (ht : tOk s t) (h0 : 0 ≤ i) (h1 : i < s.cells.length) : 0 ≤ t.drags.getD i.toNat default ∧ t.drags.getD i.toNat default ≤ 5000 :=
 ht.2.2.2.2.2 _ (getD_mem (l := t.drags) (i := i) h0 (by have := ht.2.2.2.2.1; omega))
theorem playI_cons {s : WShore} {plan : List Int} {t : WTruth} {i lv : Int} {r : Bool} (h : i < s.cells.length) : playI s plan t (upI i s.cells.length) lv r = (bif r && decide (gr s i + (wk s plan i).rise < lv - t.drags.getD i.toNat default - (wk s plan i).calm) then lv - t.drags.getD i.toNat default - (wk s plan i).calm - gr s i else 0) :: playI s plan t (upI (i + 1) s.cells.length) (lv - t.drags.getD i.toNat default - (wk s plan i).calm) (r && decide (gr s i + (wk s plan i).rise < lv - t.drags.getD i.toNat default - (wk s plan i).calm)) := by
 rw [upI_cons h]; rfl
theorem playI_nil {s : WShore} {plan : List Int} {t : WTruth} {i lv : Int} {r : Bool} (h : s.cells.length ≤ i) : playI s plan t (upI i s.cells.length) lv r = [] := by
 rw [upI_nil h]; rfl
theorem wk_pos {s : WShore} {plan : List Int} {i : Int} (h : 0 ≤ plan.getD i.toNat default) : wk s plan i = s.works.getD (plan.getD i.toNat default).toNat default := if_pos h
theorem wk_neg {s : WShore} {plan : List Int} {i : Int} (h : ¬ 0 ≤ plan.getD i.toNat default) : wk s plan i = ⟨0, 0, 0⟩ := if_neg h
def rPlay_v0 (s : WShore) (plan : List Int) (t : WTruth) (lv : Int) (r : Bool) (i : Int) : List Value := [topV 1 (slT plan.length (rowL encI plan)), pA 2 0, pA 3 0, .int .i64 lv, .bool r, .slice none 0 0, .int .i64 i]
def rPlay_o0 (s : WShore) (plan : List Int) (t : WTruth) (lv : Int) (r : Bool) (i : Int) : List Obj := [Obj.cells #[topV 1 (slT s.cells.length (rowL encWCell s.cells)), topV 1 (slT s.works.length (rowL encWWork s.works)), Value.int IntKind.i64 s.reef, Value.int IntKind.i64 s.llo, Value.int IntKind.i64 s.lhi] 27, Obj.cells #[Value.int IntKind.i64 t.wind, Value.int IntKind.i64 t.fetch, Value.int IntKind.i64 t.tide, Value.int IntKind.i64 t.loss, topV 1 (slT t.drags.length (rowL encI t.drags))] 38]
noncomputable def rPlay_t0 : List Item := ([.code [1, 1, 1, 0, 1, 0, 0], .inLoop [1, 1, 1, 0, 1, 0, 0], .inBlock 0, .code [1, 1, 1, 1]]).map (it (bodyOf Try.prog 28))
def rPlay_h0 (B : Lo) (c0 : CF) (s : WShore) (plan : List Int) (t : WTruth) (lv : Int) (r : Bool) (i : Int) : Prop := ∃ dJ : Nat → Value, (∀ t, Loose (dJ t)) ∧ GoE Try.prog B c0 H00 1 (headC 28 75 (([1, 3, 5, 7, 8, 9, 10] : List Nat).zip (rPlay_v0 s plan t lv r i)) dJ rPlay_t0) (headH (rPlay_o0 s plan t lv r i)) (2 + (rPlay_o0 s plan t lv r i).length) []
def rPlay_v1 (s : WShore) (plan : List Int) (t : WTruth) (lv : Int) (r : Bool) (i : Int) (out : List Int) (out_n : Nat) : List Value := [topV 1 (slT plan.length (rowL encI plan)), pA 2 0, pA 3 0, .int .i64 lv, .bool r, .slice (some ⟨4, 0, none⟩) out_n 1, .int .i64 i]
def rPlay_o1 (s : WShore) (plan : List Int) (t : WTruth) (lv : Int) (r : Bool) (i : Int) (out : List Int) (out_n : Nat) : List Obj := [Obj.cells #[topV 1 (slT s.cells.length (rowL encWCell s.cells)), topV 1 (slT s.works.length (rowL encWWork s.works)), Value.int IntKind.i64 s.reef, Value.int IntKind.i64 s.llo, Value.int IntKind.i64 s.lhi] 27, Obj.cells #[Value.int IntKind.i64 t.wind, Value.int IntKind.i64 t.fetch, Value.int IntKind.i64 t.tide, Value.int IntKind.i64 t.loss, topV 1 (slT t.drags.length (rowL encI t.drags))] 38, Obj.cells (rowL encI out) 3 (0, 0)]
noncomputable def rPlay_t1 : List Item := ([.code [1, 1, 1, 0, 1, 0, 0], .inLoop [1, 1, 1, 0, 1, 0, 0], .inBlock 0, .code [1, 1, 1, 1]]).map (it (bodyOf Try.prog 28))
def rPlay_h1 (B : Lo) (c0 : CF) (s : WShore) (plan : List Int) (t : WTruth) (lv : Int) (r : Bool) (i : Int) (out : List Int) (out_n : Nat) : Prop := ∃ dJ : Nat → Value, (∀ t, Loose (dJ t)) ∧ GoE Try.prog B c0 H00 1 (headC 28 75 (([1, 3, 5, 7, 8, 9, 10] : List Nat).zip (rPlay_v1 s plan t lv r i out out_n)) dJ rPlay_t1) (headH (rPlay_o1 s plan t lv r i out out_n)) (2 + (rPlay_o1 s plan t lv r i out out_n).length) []
noncomputable def rPlay_z0 (s : WShore) (plan : List Int) (i : Int) : Array Value := #[Value.int IntKind.i64 (WWork.rise (List.getD s.works (Int.toNat (List.getD plan i.toNat default)) default)), Value.int IntKind.i64 (WWork.calm (List.getD s.works (Int.toNat (List.getD plan i.toNat default)) default)), Value.int IntKind.i64 (WWork.cost (List.getD s.works (Int.toNat (List.getD plan i.toNat default)) default))]
noncomputable def rPlay_z1 (s : WShore) (i : Int) : Array Value := #[Value.int IntKind.i64 (WCell.ground (List.getD s.cells i.toNat default)), Value.int IntKind.i64 (WCell.dlo (List.getD s.cells i.toNat default)), Value.int IntKind.i64 (WCell.dhi (List.getD s.cells i.toNat default)), Value.int IntKind.i64 (WCell.floor (List.getD s.cells i.toNat default))]
noncomputable def rPlay_z2 (t : WTruth) (i : Int) : Array Value := #[Value.int IntKind.i64 (List.getD t.drags i.toNat default)]
noncomputable def rPlay_p0 (B : Lo) (s : WShore) (plan : List Int) (t : WTruth) (lv : Int)  (i : Int) (dJ0 : Nat → Value) : List Prop := [i = (↑i.toNat : Int) ∧ Int.toNat i < List.length plan ∧ Array.extract (rowL encI plan) (Int.toNat i * TypeInfo.size Try.t3) (Int.toNat i * TypeInfo.size Try.t3 + TypeInfo.size Try.t3) = #[Value.int IntKind.i64 (List.getD plan i.toNat default)], ltq i (↑s.cells.length : Int) = true] ++ ([] : List Prop)
noncomputable def rPlay_q0 (s : WShore) (plan : List Int) (t : WTruth) (lv : Int)  (i : Int) (dJ0 : Nat → Value) : ScriptT := [(4, hvT), (10, HintT.tidx i.toNat #[Value.int IntKind.i64 (List.getD plan i.toNat default)])]
noncomputable def rPlay_p1 (B : Lo) (s : WShore) (plan : List Int) (t : WTruth) (lv : Int)  (i : Int) (dJ0 : Nat → Value) : List Prop := [wq (WCell.ground (List.getD s.cells i.toNat default) + WWork.rise (List.getD s.works (Int.toNat (List.getD plan i.toNat default)) default)) = WCell.ground (List.getD s.cells i.toNat default) + WWork.rise (List.getD s.works (Int.toNat (List.getD plan i.toNat default)) default), i = (↑i.toNat : Int) ∧ Int.toNat i < List.length s.cells ∧ Array.extract (rowL encWCell s.cells) (Int.toNat i * TypeInfo.size Try.t59) (Int.toNat i * TypeInfo.size Try.t59 + TypeInfo.size Try.t59) = (rPlay_z1 s i), wq (lv - List.getD t.drags i.toNat default - WWork.calm (List.getD s.works (Int.toNat (List.getD plan i.toNat default)) default)) = lv - List.getD t.drags i.toNat default - WWork.calm (List.getD s.works (Int.toNat (List.getD plan i.toNat default)) default), wq (lv - List.getD t.drags i.toNat default) = lv - List.getD t.drags i.toNat default, i = (↑i.toNat : Int) ∧ Int.toNat i < List.length t.drags ∧ Array.extract (rowL encI t.drags) (Int.toNat i * TypeInfo.size Try.t3) (Int.toNat i * TypeInfo.size Try.t3 + TypeInfo.size Try.t3) = (rPlay_z2 t i), List.getD plan i.toNat default = (↑(Int.toNat (List.getD plan i.toNat default)) : Int) ∧ Int.toNat (List.getD plan i.toNat default) < List.length s.works ∧ Array.extract (rowL encWWork s.works) (Int.toNat (List.getD plan i.toNat default) * TypeInfo.size Try.t85) (Int.toNat (List.getD plan i.toNat default) * TypeInfo.size Try.t85 + TypeInfo.size Try.t85) = (rPlay_z0 s plan i), i = (↑i.toNat : Int) ∧ Int.toNat i < List.length plan ∧ Array.extract (rowL encI plan) (Int.toNat i * TypeInfo.size Try.t3) (Int.toNat i * TypeInfo.size Try.t3 + TypeInfo.size Try.t3) = #[Value.int IntKind.i64 (List.getD plan i.toNat default)], (!ltq (List.getD plan i.toNat default) 0) = true] ++ rPlay_p0 B s plan t lv i dJ0
noncomputable def rPlay_q1 (s : WShore) (plan : List Int) (t : WTruth) (lv : Int)  (i : Int) (dJ0 : Nat → Value) : ScriptT := rPlay_q0 s plan t lv i dJ0 ++ [(12, hvT), (17, HintT.tidx i.toNat #[Value.int IntKind.i64 (List.getD plan i.toNat default)]), (19, HintT.tidx (Int.toNat (List.getD plan i.toNat default)) (rPlay_z0 s plan i)), (26, HintT.tidx i.toNat (rPlay_z2 t i)), (28, hvI (lv - List.getD t.drags i.toNat default)), (31, hvI (lv - List.getD t.drags i.toNat default - WWork.calm (List.getD s.works (Int.toNat (List.getD plan i.toNat default)) default))), (39, HintT.tidx i.toNat (rPlay_z1 s i)), (44, hvI (WCell.ground (List.getD s.cells i.toNat default) + WWork.rise (List.getD s.works (Int.toNat (List.getD plan i.toNat default)) default)))]
theorem rPlay_s0 (B : Lo) (s : WShore) (plan : List Int) (t : WTruth) (lv : Int)  (i : Int) (dJ0 : Nat → Value) : landM (srunT Try.prog (okFn Try.prog) J0 B 29 1 (headC 28 75 (([1, 3, 5, 7, 8, 9, 10] : List Nat).zip (rPlay_v0 s plan t lv true i)) dJ0 rPlay_t0) (headH (rPlay_o0 s plan t lv true i)) (2 + (rPlay_o0 s plan t lv true i).length)
 (rPlay_q1 s plan t lv i dJ0 ++ [(45, hvT), (54, HintT.tidx i.toNat (rPlay_z1 s i)), (57, hvI (lv - List.getD t.drags i.toNat default - WWork.calm (List.getD s.works (Int.toNat (List.getD plan i.toNat default)) default) - WCell.ground (List.getD s.cells i.toNat default))), (65, hvI (i + 1))]) 0 [] []) [1, 3, 5, 7, 8, 9, 10] [(2, KS.auto), (3, KS.auto), (6, KS.cells [] (rowL encI [lv - List.getD t.drags i.toNat default - WWork.calm (List.getD s.works (Int.toNat (List.getD plan i.toNat default)) default) - WCell.ground (List.getD s.cells i.toNat default)]))] [] = some ⟨28, 75, rPlay_t1, [], .run, none, rPlay_v1 s plan t (lv - List.getD t.drags i.toNat default - WWork.calm (List.getD s.works (Int.toNat (List.getD plan i.toNat default)) default)) (true) (i + 1) ([lv - List.getD t.drags i.toNat default - WWork.calm (List.getD s.works (Int.toNat (List.getD plan i.toNat default)) default) - WCell.ground (List.getD s.cells i.toNat default)]) (1), rPlay_o1 s plan t (lv - List.getD t.drags i.toNat default - WWork.calm (List.getD s.works (Int.toNat (List.getD plan i.toNat default)) default)) (true) (i + 1) ([lv - List.getD t.drags i.toNat default - WWork.calm (List.getD s.works (Int.toNat (List.getD plan i.toNat default)) default) - WCell.ground (List.getD s.cells i.toNat default)]) (1),
 [CellsM 1 [] (#[Value.int IntKind.i64 (lv - List.getD t.drags i.toNat default - WWork.calm (List.getD s.works (Int.toNat (List.getD plan i.toNat default)) default) - WCell.ground (List.getD s.cells i.toNat default))]) (rowL encI [lv - List.getD t.drags i.toNat default - WWork.calm (List.getD s.works (Int.toNat (List.getD plan i.toNat default)) default) - WCell.ground (List.getD s.cells i.toNat default)]), wq (i + 1) = i + 1, wq (lv - List.getD t.drags i.toNat default - WWork.calm (List.getD s.works (Int.toNat (List.getD plan i.toNat default)) default) - WCell.ground (List.getD s.cells i.toNat default)) = lv - List.getD t.drags i.toNat default - WWork.calm (List.getD s.works (Int.toNat (List.getD plan i.toNat default)) default) - WCell.ground (List.getD s.cells i.toNat default), i = (↑i.toNat : Int) ∧ Int.toNat i < List.length s.cells ∧ Array.extract (rowL encWCell s.cells) (Int.toNat i * TypeInfo.size Try.t59) (Int.toNat i * TypeInfo.size Try.t59 + TypeInfo.size Try.t59) = (rPlay_z1 s i), ltq (WCell.ground (List.getD s.cells i.toNat default) + WWork.rise (List.getD s.works (Int.toNat (List.getD plan i.toNat default)) default)) (lv - List.getD t.drags i.toNat default - WWork.calm (List.getD s.works (Int.toNat (List.getD plan i.toNat default)) default)) = true] ++ rPlay_p1 B s plan t lv i dJ0⟩ := by kernel_rfl
theorem rPlay_s1 (B : Lo) (s : WShore) (plan : List Int) (t : WTruth) (lv : Int)  (i : Int) (dJ0 : Nat → Value) : landM (srunT Try.prog (okFn Try.prog) J0 B 29 1 (headC 28 75 (([1, 3, 5, 7, 8, 9, 10] : List Nat).zip (rPlay_v0 s plan t lv true i)) dJ0 rPlay_t0) (headH (rPlay_o0 s plan t lv true i)) (2 + (rPlay_o0 s plan t lv true i).length)
 (rPlay_q1 s plan t lv i dJ0 ++ [(45, hvF), (56, hvI (i + 1))]) 0 [] []) [1, 3, 5, 7, 8, 9, 10] [(2, KS.auto), (3, KS.auto), (6, KS.cells [] (rowL encI [0]))] [] = some ⟨28, 75, rPlay_t1, [], .run, none, rPlay_v1 s plan t (lv - List.getD t.drags i.toNat default - WWork.calm (List.getD s.works (Int.toNat (List.getD plan i.toNat default)) default)) (false) (i + 1) ([0]) (1), rPlay_o1 s plan t (lv - List.getD t.drags i.toNat default - WWork.calm (List.getD s.works (Int.toNat (List.getD plan i.toNat default)) default)) (false) (i + 1) ([0]) (1),
 [CellsM 1 [] (#[Value.int IntKind.i64 0]) (rowL encI [0]), wq (i + 1) = i + 1, ltq (WCell.ground (List.getD s.cells i.toNat default) + WWork.rise (List.getD s.works (Int.toNat (List.getD plan i.toNat default)) default)) (lv - List.getD t.drags i.toNat default - WWork.calm (List.getD s.works (Int.toNat (List.getD plan i.toNat default)) default)) = false] ++ rPlay_p1 B s plan t lv i dJ0⟩ := by kernel_rfl
noncomputable def rPlay_p2 (B : Lo) (s : WShore) (plan : List Int) (t : WTruth) (lv : Int)  (i : Int) (dJ0 : Nat → Value) : List Prop := [wq (WCell.ground (List.getD s.cells i.toNat default) + 0) = WCell.ground (List.getD s.cells i.toNat default) + 0, i = (↑i.toNat : Int) ∧ Int.toNat i < List.length s.cells ∧ Array.extract (rowL encWCell s.cells) (Int.toNat i * TypeInfo.size Try.t59) (Int.toNat i * TypeInfo.size Try.t59 + TypeInfo.size Try.t59) = (rPlay_z1 s i), wq (lv - List.getD t.drags i.toNat default - 0) = lv - List.getD t.drags i.toNat default - 0, wq (lv - List.getD t.drags i.toNat default) = lv - List.getD t.drags i.toNat default, i = (↑i.toNat : Int) ∧ Int.toNat i < List.length t.drags ∧ Array.extract (rowL encI t.drags) (Int.toNat i * TypeInfo.size Try.t3) (Int.toNat i * TypeInfo.size Try.t3 + TypeInfo.size Try.t3) = (rPlay_z2 t i), (!ltq (List.getD plan i.toNat default) 0) = false] ++ rPlay_p0 B s plan t lv i dJ0
noncomputable def rPlay_q2 (s : WShore) (plan : List Int) (t : WTruth) (lv : Int)  (i : Int) (dJ0 : Nat → Value) : ScriptT := rPlay_q0 s plan t lv i dJ0 ++ [(12, hvF), (17, HintT.tidx i.toNat (rPlay_z2 t i)), (19, hvI (lv - List.getD t.drags i.toNat default)), (22, hvI (lv - List.getD t.drags i.toNat default - 0)), (30, HintT.tidx i.toNat (rPlay_z1 s i)), (35, hvI (WCell.ground (List.getD s.cells i.toNat default) + 0))]
theorem rPlay_s2 (B : Lo) (s : WShore) (plan : List Int) (t : WTruth) (lv : Int)  (i : Int) (dJ0 : Nat → Value) : landM (srunT Try.prog (okFn Try.prog) J0 B 29 1 (headC 28 75 (([1, 3, 5, 7, 8, 9, 10] : List Nat).zip (rPlay_v0 s plan t lv true i)) dJ0 rPlay_t0) (headH (rPlay_o0 s plan t lv true i)) (2 + (rPlay_o0 s plan t lv true i).length)
 (rPlay_q2 s plan t lv i dJ0 ++ [(36, hvT), (45, HintT.tidx i.toNat (rPlay_z1 s i)), (48, hvI (lv - List.getD t.drags i.toNat default - 0 - WCell.ground (List.getD s.cells i.toNat default))), (56, hvI (i + 1))]) 0 [] []) [1, 3, 5, 7, 8, 9, 10] [(2, KS.auto), (3, KS.auto), (6, KS.cells [] (rowL encI [lv - List.getD t.drags i.toNat default - 0 - WCell.ground (List.getD s.cells i.toNat default)]))] [] = some ⟨28, 75, rPlay_t1, [], .run, none, rPlay_v1 s plan t (lv - List.getD t.drags i.toNat default - 0) (true) (i + 1) ([lv - List.getD t.drags i.toNat default - 0 - WCell.ground (List.getD s.cells i.toNat default)]) (1), rPlay_o1 s plan t (lv - List.getD t.drags i.toNat default - 0) (true) (i + 1) ([lv - List.getD t.drags i.toNat default - 0 - WCell.ground (List.getD s.cells i.toNat default)]) (1),
 [CellsM 1 [] (#[Value.int IntKind.i64 (lv - List.getD t.drags i.toNat default - 0 - WCell.ground (List.getD s.cells i.toNat default))]) (rowL encI [lv - List.getD t.drags i.toNat default - 0 - WCell.ground (List.getD s.cells i.toNat default)]), wq (i + 1) = i + 1, wq (lv - List.getD t.drags i.toNat default - 0 - WCell.ground (List.getD s.cells i.toNat default)) = lv - List.getD t.drags i.toNat default - 0 - WCell.ground (List.getD s.cells i.toNat default), i = (↑i.toNat : Int) ∧ Int.toNat i < List.length s.cells ∧ Array.extract (rowL encWCell s.cells) (Int.toNat i * TypeInfo.size Try.t59) (Int.toNat i * TypeInfo.size Try.t59 + TypeInfo.size Try.t59) = (rPlay_z1 s i), ltq (WCell.ground (List.getD s.cells i.toNat default) + 0) (lv - List.getD t.drags i.toNat default - 0) = true] ++ rPlay_p2 B s plan t lv i dJ0⟩ := by kernel_rfl
theorem rPlay_s3 (B : Lo) (s : WShore) (plan : List Int) (t : WTruth) (lv : Int)  (i : Int) (dJ0 : Nat → Value) : landM (srunT Try.prog (okFn Try.prog) J0 B 29 1 (headC 28 75 (([1, 3, 5, 7, 8, 9, 10] : List Nat).zip (rPlay_v0 s plan t lv true i)) dJ0 rPlay_t0) (headH (rPlay_o0 s plan t lv true i)) (2 + (rPlay_o0 s plan t lv true i).length)
 (rPlay_q2 s plan t lv i dJ0 ++ [(36, hvF), (47, hvI (i + 1))]) 0 [] []) [1, 3, 5, 7, 8, 9, 10] [(2, KS.auto), (3, KS.auto), (6, KS.cells [] (rowL encI [0]))] [] = some ⟨28, 75, rPlay_t1, [], .run, none, rPlay_v1 s plan t (lv - List.getD t.drags i.toNat default - 0) (false) (i + 1) ([0]) (1), rPlay_o1 s plan t (lv - List.getD t.drags i.toNat default - 0) (false) (i + 1) ([0]) (1),
 [CellsM 1 [] (#[Value.int IntKind.i64 0]) (rowL encI [0]), wq (i + 1) = i + 1, ltq (WCell.ground (List.getD s.cells i.toNat default) + 0) (lv - List.getD t.drags i.toNat default - 0) = false] ++ rPlay_p2 B s plan t lv i dJ0⟩ := by kernel_rfl
theorem rPlay_s4 (B : Lo) (s : WShore) (plan : List Int) (t : WTruth) (lv : Int)  (i : Int) (dJ0 : Nat → Value) : endT (srunT Try.prog (okFn Try.prog) J0 B 9 1 (headC 28 75 (([1, 3, 5, 7, 8, 9, 10] : List Nat).zip (rPlay_v0 s plan t lv true i)) dJ0 rPlay_t0) (headH (rPlay_o0 s plan t lv true i)) (2 + (rPlay_o0 s plan t lv true i).length)
 [(4, hvF)] 0 [] []) [] = some (slT 0 #[],
 [ltq i (↑s.cells.length : Int) = false]) := by kernel_rfl
noncomputable def rPlay_p3 (B : Lo) (s : WShore) (plan : List Int) (t : WTruth) (lv : Int)  (i : Int) (dJ0 : Nat → Value) : List Prop := [i = (↑i.toNat : Int) ∧ Int.toNat i < List.length plan ∧ Array.extract (rowL encI plan) (Int.toNat i * TypeInfo.size Try.t3) (Int.toNat i * TypeInfo.size Try.t3 + TypeInfo.size Try.t3) = #[Value.int IntKind.i64 (List.getD plan i.toNat default)], ltq i (↑s.cells.length : Int) = true] ++ ([] : List Prop)
noncomputable def rPlay_q3 (s : WShore) (plan : List Int) (t : WTruth) (lv : Int)  (i : Int) (dJ0 : Nat → Value) : ScriptT := [(4, hvT), (10, HintT.tidx i.toNat #[Value.int IntKind.i64 (List.getD plan i.toNat default)])]
theorem rPlay_s5 (B : Lo) (s : WShore) (plan : List Int) (t : WTruth) (lv : Int)  (i : Int) (dJ0 : Nat → Value) : landM (srunT Try.prog (okFn Try.prog) J0 B 29 1 (headC 28 75 (([1, 3, 5, 7, 8, 9, 10] : List Nat).zip (rPlay_v0 s plan t lv false i)) dJ0 rPlay_t0) (headH (rPlay_o0 s plan t lv false i)) (2 + (rPlay_o0 s plan t lv false i).length)
 (rPlay_q3 s plan t lv i dJ0 ++ [(12, hvT), (17, HintT.tidx i.toNat #[Value.int IntKind.i64 (List.getD plan i.toNat default)]), (19, HintT.tidx (Int.toNat (List.getD plan i.toNat default)) (rPlay_z0 s plan i)), (26, HintT.tidx i.toNat (rPlay_z2 t i)), (28, hvI (lv - List.getD t.drags i.toNat default)), (31, hvI (lv - List.getD t.drags i.toNat default - WWork.calm (List.getD s.works (Int.toNat (List.getD plan i.toNat default)) default))), (56, hvI (i + 1))]) 0 [] []) [1, 3, 5, 7, 8, 9, 10] [(2, KS.auto), (3, KS.auto), (6, KS.cells [] (rowL encI [0]))] [] = some ⟨28, 75, rPlay_t1, [], .run, none, rPlay_v1 s plan t (lv - List.getD t.drags i.toNat default - WWork.calm (List.getD s.works (Int.toNat (List.getD plan i.toNat default)) default)) (false) (i + 1) ([0]) (1), rPlay_o1 s plan t (lv - List.getD t.drags i.toNat default - WWork.calm (List.getD s.works (Int.toNat (List.getD plan i.toNat default)) default)) (false) (i + 1) ([0]) (1),
 [CellsM 1 [] (#[Value.int IntKind.i64 0]) (rowL encI [0]), wq (i + 1) = i + 1, wq (lv - List.getD t.drags i.toNat default - WWork.calm (List.getD s.works (Int.toNat (List.getD plan i.toNat default)) default)) = lv - List.getD t.drags i.toNat default - WWork.calm (List.getD s.works (Int.toNat (List.getD plan i.toNat default)) default), wq (lv - List.getD t.drags i.toNat default) = lv - List.getD t.drags i.toNat default, i = (↑i.toNat : Int) ∧ Int.toNat i < List.length t.drags ∧ Array.extract (rowL encI t.drags) (Int.toNat i * TypeInfo.size Try.t3) (Int.toNat i * TypeInfo.size Try.t3 + TypeInfo.size Try.t3) = (rPlay_z2 t i), List.getD plan i.toNat default = (↑(Int.toNat (List.getD plan i.toNat default)) : Int) ∧ Int.toNat (List.getD plan i.toNat default) < List.length s.works ∧ Array.extract (rowL encWWork s.works) (Int.toNat (List.getD plan i.toNat default) * TypeInfo.size Try.t85) (Int.toNat (List.getD plan i.toNat default) * TypeInfo.size Try.t85 + TypeInfo.size Try.t85) = (rPlay_z0 s plan i), i = (↑i.toNat : Int) ∧ Int.toNat i < List.length plan ∧ Array.extract (rowL encI plan) (Int.toNat i * TypeInfo.size Try.t3) (Int.toNat i * TypeInfo.size Try.t3 + TypeInfo.size Try.t3) = #[Value.int IntKind.i64 (List.getD plan i.toNat default)], (!ltq (List.getD plan i.toNat default) 0) = true] ++ rPlay_p3 B s plan t lv i dJ0⟩ := by kernel_rfl
theorem rPlay_s6 (B : Lo) (s : WShore) (plan : List Int) (t : WTruth) (lv : Int)  (i : Int) (dJ0 : Nat → Value) : landM (srunT Try.prog (okFn Try.prog) J0 B 29 1 (headC 28 75 (([1, 3, 5, 7, 8, 9, 10] : List Nat).zip (rPlay_v0 s plan t lv false i)) dJ0 rPlay_t0) (headH (rPlay_o0 s plan t lv false i)) (2 + (rPlay_o0 s plan t lv false i).length)
 (rPlay_q3 s plan t lv i dJ0 ++ [(12, hvF), (17, HintT.tidx i.toNat (rPlay_z2 t i)), (19, hvI (lv - List.getD t.drags i.toNat default)), (22, hvI (lv - List.getD t.drags i.toNat default - 0)), (47, hvI (i + 1))]) 0 [] []) [1, 3, 5, 7, 8, 9, 10] [(2, KS.auto), (3, KS.auto), (6, KS.cells [] (rowL encI [0]))] [] = some ⟨28, 75, rPlay_t1, [], .run, none, rPlay_v1 s plan t (lv - List.getD t.drags i.toNat default - 0) (false) (i + 1) ([0]) (1), rPlay_o1 s plan t (lv - List.getD t.drags i.toNat default - 0) (false) (i + 1) ([0]) (1),
 [CellsM 1 [] (#[Value.int IntKind.i64 0]) (rowL encI [0]), wq (i + 1) = i + 1, wq (lv - List.getD t.drags i.toNat default - 0) = lv - List.getD t.drags i.toNat default - 0, wq (lv - List.getD t.drags i.toNat default) = lv - List.getD t.drags i.toNat default, i = (↑i.toNat : Int) ∧ Int.toNat i < List.length t.drags ∧ Array.extract (rowL encI t.drags) (Int.toNat i * TypeInfo.size Try.t3) (Int.toNat i * TypeInfo.size Try.t3 + TypeInfo.size Try.t3) = (rPlay_z2 t i), (!ltq (List.getD plan i.toNat default) 0) = false] ++ rPlay_p3 B s plan t lv i dJ0⟩ := by kernel_rfl
theorem rPlay_s7 (B : Lo) (s : WShore) (plan : List Int) (t : WTruth) (lv : Int)  (i : Int) (dJ0 : Nat → Value) : endT (srunT Try.prog (okFn Try.prog) J0 B 9 1 (headC 28 75 (([1, 3, 5, 7, 8, 9, 10] : List Nat).zip (rPlay_v0 s plan t lv false i)) dJ0 rPlay_t0) (headH (rPlay_o0 s plan t lv false i)) (2 + (rPlay_o0 s plan t lv false i).length)
 [(4, hvF)] 0 [] []) [] = some (slT 0 #[],
 [ltq i (↑s.cells.length : Int) = false]) := by kernel_rfl
noncomputable def rPlay_p4 (B : Lo) (s : WShore) (plan : List Int) (t : WTruth) (lv : Int)  (i : Int) (out : List Int) (out_n : Nat) (dJ0 : Nat → Value) : List Prop := [i = (↑i.toNat : Int) ∧ Int.toNat i < List.length plan ∧ Array.extract (rowL encI plan) (Int.toNat i * TypeInfo.size Try.t3) (Int.toNat i * TypeInfo.size Try.t3 + TypeInfo.size Try.t3) = #[Value.int IntKind.i64 (List.getD plan i.toNat default)], ltq i (↑s.cells.length : Int) = true] ++ ([] : List Prop)
noncomputable def rPlay_q4 (s : WShore) (plan : List Int) (t : WTruth) (lv : Int)  (i : Int) (out : List Int) (out_n : Nat) (dJ0 : Nat → Value) : ScriptT := [(4, hvT), (10, HintT.tidx i.toNat #[Value.int IntKind.i64 (List.getD plan i.toNat default)])]
noncomputable def rPlay_p5 (B : Lo) (s : WShore) (plan : List Int) (t : WTruth) (lv : Int)  (i : Int) (out : List Int) (out_n : Nat) (dJ0 : Nat → Value) : List Prop := [wq (WCell.ground (List.getD s.cells i.toNat default) + WWork.rise (List.getD s.works (Int.toNat (List.getD plan i.toNat default)) default)) = WCell.ground (List.getD s.cells i.toNat default) + WWork.rise (List.getD s.works (Int.toNat (List.getD plan i.toNat default)) default), i = (↑i.toNat : Int) ∧ Int.toNat i < List.length s.cells ∧ Array.extract (rowL encWCell s.cells) (Int.toNat i * TypeInfo.size Try.t59) (Int.toNat i * TypeInfo.size Try.t59 + TypeInfo.size Try.t59) = (rPlay_z1 s i), wq (lv - List.getD t.drags i.toNat default - WWork.calm (List.getD s.works (Int.toNat (List.getD plan i.toNat default)) default)) = lv - List.getD t.drags i.toNat default - WWork.calm (List.getD s.works (Int.toNat (List.getD plan i.toNat default)) default), wq (lv - List.getD t.drags i.toNat default) = lv - List.getD t.drags i.toNat default, i = (↑i.toNat : Int) ∧ Int.toNat i < List.length t.drags ∧ Array.extract (rowL encI t.drags) (Int.toNat i * TypeInfo.size Try.t3) (Int.toNat i * TypeInfo.size Try.t3 + TypeInfo.size Try.t3) = (rPlay_z2 t i), List.getD plan i.toNat default = (↑(Int.toNat (List.getD plan i.toNat default)) : Int) ∧ Int.toNat (List.getD plan i.toNat default) < List.length s.works ∧ Array.extract (rowL encWWork s.works) (Int.toNat (List.getD plan i.toNat default) * TypeInfo.size Try.t85) (Int.toNat (List.getD plan i.toNat default) * TypeInfo.size Try.t85 + TypeInfo.size Try.t85) = (rPlay_z0 s plan i), i = (↑i.toNat : Int) ∧ Int.toNat i < List.length plan ∧ Array.extract (rowL encI plan) (Int.toNat i * TypeInfo.size Try.t3) (Int.toNat i * TypeInfo.size Try.t3 + TypeInfo.size Try.t3) = #[Value.int IntKind.i64 (List.getD plan i.toNat default)], (!ltq (List.getD plan i.toNat default) 0) = true] ++ rPlay_p4 B s plan t lv i out out_n dJ0
noncomputable def rPlay_q5 (s : WShore) (plan : List Int) (t : WTruth) (lv : Int)  (i : Int) (out : List Int) (out_n : Nat) (dJ0 : Nat → Value) : ScriptT := rPlay_q4 s plan t lv i out out_n dJ0 ++ [(12, hvT), (17, HintT.tidx i.toNat #[Value.int IntKind.i64 (List.getD plan i.toNat default)]), (19, HintT.tidx (Int.toNat (List.getD plan i.toNat default)) (rPlay_z0 s plan i)), (26, HintT.tidx i.toNat (rPlay_z2 t i)), (28, hvI (lv - List.getD t.drags i.toNat default)), (31, hvI (lv - List.getD t.drags i.toNat default - WWork.calm (List.getD s.works (Int.toNat (List.getD plan i.toNat default)) default))), (39, HintT.tidx i.toNat (rPlay_z1 s i)), (44, hvI (WCell.ground (List.getD s.cells i.toNat default) + WWork.rise (List.getD s.works (Int.toNat (List.getD plan i.toNat default)) default)))]
theorem rPlay_s8 (B : Lo) (s : WShore) (plan : List Int) (t : WTruth) (lv : Int)  (i : Int) (out : List Int) (out_n : Nat) (dJ0 : Nat → Value) : landM (srunT Try.prog (okFn Try.prog) J0 B 29 1 (headC 28 75 (([1, 3, 5, 7, 8, 9, 10] : List Nat).zip (rPlay_v1 s plan t lv true i out out_n)) dJ0 rPlay_t1) (headH (rPlay_o1 s plan t lv true i out out_n)) (2 + (rPlay_o1 s plan t lv true i out out_n).length)
 (rPlay_q5 s plan t lv i out out_n dJ0 ++ [(45, hvT), (54, HintT.tidx i.toNat (rPlay_z1 s i)), (57, hvI (lv - List.getD t.drags i.toNat default - WWork.calm (List.getD s.works (Int.toNat (List.getD plan i.toNat default)) default) - WCell.ground (List.getD s.cells i.toNat default))), (62, HintT.old (Hint.app (rowL encI (out ++ [lv - List.getD t.drags i.toNat default - WWork.calm (List.getD s.works (Int.toNat (List.getD plan i.toNat default)) default) - WCell.ground (List.getD s.cells i.toNat default)])))), (65, hvI (i + 1))]) 0 [] []) [1, 3, 5, 7, 8, 9, 10] [(2, KS.auto), (3, KS.auto), (7, KS.cells [] (rowL encI (out ++ [lv - List.getD t.drags i.toNat default - WWork.calm (List.getD s.works (Int.toNat (List.getD plan i.toNat default)) default) - WCell.ground (List.getD s.cells i.toNat default)])))] [] = some ⟨28, 75, rPlay_t1, [], .run, none, rPlay_v1 s plan t (lv - List.getD t.drags i.toNat default - WWork.calm (List.getD s.works (Int.toNat (List.getD plan i.toNat default)) default)) (true) (i + 1) (out ++ [lv - List.getD t.drags i.toNat default - WWork.calm (List.getD s.works (Int.toNat (List.getD plan i.toNat default)) default) - WCell.ground (List.getD s.cells i.toNat default)]) (out_n + 1), rPlay_o1 s plan t (lv - List.getD t.drags i.toNat default - WWork.calm (List.getD s.works (Int.toNat (List.getD plan i.toNat default)) default)) (true) (i + 1) (out ++ [lv - List.getD t.drags i.toNat default - WWork.calm (List.getD s.works (Int.toNat (List.getD plan i.toNat default)) default) - WCell.ground (List.getD s.cells i.toNat default)]) (out_n + 1),
 [CellsM 1 [] (rowL encI (out ++ [lv - List.getD t.drags i.toNat default - WWork.calm (List.getD s.works (Int.toNat (List.getD plan i.toNat default)) default) - WCell.ground (List.getD s.cells i.toNat default)])) (rowL encI (out ++ [lv - List.getD t.drags i.toNat default - WWork.calm (List.getD s.works (Int.toNat (List.getD plan i.toNat default)) default) - WCell.ground (List.getD s.cells i.toNat default)])), wq (i + 1) = i + 1, Array.size (rowL encI out) = out_n * (0 + 1) ∧ out_n + 1 ≤ maxLen ∧ (out_n + 1) * 8 ≤ 140737488355328 ∧ rowL encI out ++ #[Value.int IntKind.i64 (lv - List.getD t.drags i.toNat default - WWork.calm (List.getD s.works (Int.toNat (List.getD plan i.toNat default)) default) - WCell.ground (List.getD s.cells i.toNat default))] = rowL encI (out ++ [lv - List.getD t.drags i.toNat default - WWork.calm (List.getD s.works (Int.toNat (List.getD plan i.toNat default)) default) - WCell.ground (List.getD s.cells i.toNat default)]), wq (lv - List.getD t.drags i.toNat default - WWork.calm (List.getD s.works (Int.toNat (List.getD plan i.toNat default)) default) - WCell.ground (List.getD s.cells i.toNat default)) = lv - List.getD t.drags i.toNat default - WWork.calm (List.getD s.works (Int.toNat (List.getD plan i.toNat default)) default) - WCell.ground (List.getD s.cells i.toNat default), i = (↑i.toNat : Int) ∧ Int.toNat i < List.length s.cells ∧ Array.extract (rowL encWCell s.cells) (Int.toNat i * TypeInfo.size Try.t59) (Int.toNat i * TypeInfo.size Try.t59 + TypeInfo.size Try.t59) = (rPlay_z1 s i), ltq (WCell.ground (List.getD s.cells i.toNat default) + WWork.rise (List.getD s.works (Int.toNat (List.getD plan i.toNat default)) default)) (lv - List.getD t.drags i.toNat default - WWork.calm (List.getD s.works (Int.toNat (List.getD plan i.toNat default)) default)) = true] ++ rPlay_p5 B s plan t lv i out out_n dJ0⟩ := by kernel_rfl
theorem rPlay_s9 (B : Lo) (s : WShore) (plan : List Int) (t : WTruth) (lv : Int)  (i : Int) (out : List Int) (out_n : Nat) (dJ0 : Nat → Value) : landM (srunT Try.prog (okFn Try.prog) J0 B 29 1 (headC 28 75 (([1, 3, 5, 7, 8, 9, 10] : List Nat).zip (rPlay_v1 s plan t lv true i out out_n)) dJ0 rPlay_t1) (headH (rPlay_o1 s plan t lv true i out out_n)) (2 + (rPlay_o1 s plan t lv true i out out_n).length)
 (rPlay_q5 s plan t lv i out out_n dJ0 ++ [(45, hvF), (53, HintT.old (Hint.app (rowL encI (out ++ [0])))), (56, hvI (i + 1))]) 0 [] []) [1, 3, 5, 7, 8, 9, 10] [(2, KS.auto), (3, KS.auto), (7, KS.cells [] (rowL encI (out ++ [0])))] [] = some ⟨28, 75, rPlay_t1, [], .run, none, rPlay_v1 s plan t (lv - List.getD t.drags i.toNat default - WWork.calm (List.getD s.works (Int.toNat (List.getD plan i.toNat default)) default)) (false) (i + 1) (out ++ [0]) (out_n + 1), rPlay_o1 s plan t (lv - List.getD t.drags i.toNat default - WWork.calm (List.getD s.works (Int.toNat (List.getD plan i.toNat default)) default)) (false) (i + 1) (out ++ [0]) (out_n + 1),
 [CellsM 1 [] (rowL encI (out ++ [0])) (rowL encI (out ++ [0])), wq (i + 1) = i + 1, Array.size (rowL encI out) = out_n * (0 + 1) ∧ out_n + 1 ≤ maxLen ∧ (out_n + 1) * 8 ≤ 140737488355328 ∧ rowL encI out ++ #[Value.int IntKind.i64 0] = rowL encI (out ++ [0]), ltq (WCell.ground (List.getD s.cells i.toNat default) + WWork.rise (List.getD s.works (Int.toNat (List.getD plan i.toNat default)) default)) (lv - List.getD t.drags i.toNat default - WWork.calm (List.getD s.works (Int.toNat (List.getD plan i.toNat default)) default)) = false] ++ rPlay_p5 B s plan t lv i out out_n dJ0⟩ := by kernel_rfl
noncomputable def rPlay_p6 (B : Lo) (s : WShore) (plan : List Int) (t : WTruth) (lv : Int)  (i : Int) (out : List Int) (out_n : Nat) (dJ0 : Nat → Value) : List Prop := [wq (WCell.ground (List.getD s.cells i.toNat default) + 0) = WCell.ground (List.getD s.cells i.toNat default) + 0, i = (↑i.toNat : Int) ∧ Int.toNat i < List.length s.cells ∧ Array.extract (rowL encWCell s.cells) (Int.toNat i * TypeInfo.size Try.t59) (Int.toNat i * TypeInfo.size Try.t59 + TypeInfo.size Try.t59) = (rPlay_z1 s i), wq (lv - List.getD t.drags i.toNat default - 0) = lv - List.getD t.drags i.toNat default - 0, wq (lv - List.getD t.drags i.toNat default) = lv - List.getD t.drags i.toNat default, i = (↑i.toNat : Int) ∧ Int.toNat i < List.length t.drags ∧ Array.extract (rowL encI t.drags) (Int.toNat i * TypeInfo.size Try.t3) (Int.toNat i * TypeInfo.size Try.t3 + TypeInfo.size Try.t3) = (rPlay_z2 t i), (!ltq (List.getD plan i.toNat default) 0) = false] ++ rPlay_p4 B s plan t lv i out out_n dJ0
noncomputable def rPlay_q6 (s : WShore) (plan : List Int) (t : WTruth) (lv : Int)  (i : Int) (out : List Int) (out_n : Nat) (dJ0 : Nat → Value) : ScriptT := rPlay_q4 s plan t lv i out out_n dJ0 ++ [(12, hvF), (17, HintT.tidx i.toNat (rPlay_z2 t i)), (19, hvI (lv - List.getD t.drags i.toNat default)), (22, hvI (lv - List.getD t.drags i.toNat default - 0)), (30, HintT.tidx i.toNat (rPlay_z1 s i)), (35, hvI (WCell.ground (List.getD s.cells i.toNat default) + 0))]
theorem rPlay_s10 (B : Lo) (s : WShore) (plan : List Int) (t : WTruth) (lv : Int)  (i : Int) (out : List Int) (out_n : Nat) (dJ0 : Nat → Value) : landM (srunT Try.prog (okFn Try.prog) J0 B 29 1 (headC 28 75 (([1, 3, 5, 7, 8, 9, 10] : List Nat).zip (rPlay_v1 s plan t lv true i out out_n)) dJ0 rPlay_t1) (headH (rPlay_o1 s plan t lv true i out out_n)) (2 + (rPlay_o1 s plan t lv true i out out_n).length)
 (rPlay_q6 s plan t lv i out out_n dJ0 ++ [(36, hvT), (45, HintT.tidx i.toNat (rPlay_z1 s i)), (48, hvI (lv - List.getD t.drags i.toNat default - 0 - WCell.ground (List.getD s.cells i.toNat default))), (53, HintT.old (Hint.app (rowL encI (out ++ [lv - List.getD t.drags i.toNat default - 0 - WCell.ground (List.getD s.cells i.toNat default)])))), (56, hvI (i + 1))]) 0 [] []) [1, 3, 5, 7, 8, 9, 10] [(2, KS.auto), (3, KS.auto), (7, KS.cells [] (rowL encI (out ++ [lv - List.getD t.drags i.toNat default - 0 - WCell.ground (List.getD s.cells i.toNat default)])))] [] = some ⟨28, 75, rPlay_t1, [], .run, none, rPlay_v1 s plan t (lv - List.getD t.drags i.toNat default - 0) (true) (i + 1) (out ++ [lv - List.getD t.drags i.toNat default - 0 - WCell.ground (List.getD s.cells i.toNat default)]) (out_n + 1), rPlay_o1 s plan t (lv - List.getD t.drags i.toNat default - 0) (true) (i + 1) (out ++ [lv - List.getD t.drags i.toNat default - 0 - WCell.ground (List.getD s.cells i.toNat default)]) (out_n + 1),
 [CellsM 1 [] (rowL encI (out ++ [lv - List.getD t.drags i.toNat default - 0 - WCell.ground (List.getD s.cells i.toNat default)])) (rowL encI (out ++ [lv - List.getD t.drags i.toNat default - 0 - WCell.ground (List.getD s.cells i.toNat default)])), wq (i + 1) = i + 1, Array.size (rowL encI out) = out_n * (0 + 1) ∧ out_n + 1 ≤ maxLen ∧ (out_n + 1) * 8 ≤ 140737488355328 ∧ rowL encI out ++ #[Value.int IntKind.i64 (lv - List.getD t.drags i.toNat default - 0 - WCell.ground (List.getD s.cells i.toNat default))] = rowL encI (out ++ [lv - List.getD t.drags i.toNat default - 0 - WCell.ground (List.getD s.cells i.toNat default)]), wq (lv - List.getD t.drags i.toNat default - 0 - WCell.ground (List.getD s.cells i.toNat default)) = lv - List.getD t.drags i.toNat default - 0 - WCell.ground (List.getD s.cells i.toNat default), i = (↑i.toNat : Int) ∧ Int.toNat i < List.length s.cells ∧ Array.extract (rowL encWCell s.cells) (Int.toNat i * TypeInfo.size Try.t59) (Int.toNat i * TypeInfo.size Try.t59 + TypeInfo.size Try.t59) = (rPlay_z1 s i), ltq (WCell.ground (List.getD s.cells i.toNat default) + 0) (lv - List.getD t.drags i.toNat default - 0) = true] ++ rPlay_p6 B s plan t lv i out out_n dJ0⟩ := by kernel_rfl
theorem rPlay_s11 (B : Lo) (s : WShore) (plan : List Int) (t : WTruth) (lv : Int)  (i : Int) (out : List Int) (out_n : Nat) (dJ0 : Nat → Value) : landM (srunT Try.prog (okFn Try.prog) J0 B 29 1 (headC 28 75 (([1, 3, 5, 7, 8, 9, 10] : List Nat).zip (rPlay_v1 s plan t lv true i out out_n)) dJ0 rPlay_t1) (headH (rPlay_o1 s plan t lv true i out out_n)) (2 + (rPlay_o1 s plan t lv true i out out_n).length)
 (rPlay_q6 s plan t lv i out out_n dJ0 ++ [(36, hvF), (44, HintT.old (Hint.app (rowL encI (out ++ [0])))), (47, hvI (i + 1))]) 0 [] []) [1, 3, 5, 7, 8, 9, 10] [(2, KS.auto), (3, KS.auto), (7, KS.cells [] (rowL encI (out ++ [0])))] [] = some ⟨28, 75, rPlay_t1, [], .run, none, rPlay_v1 s plan t (lv - List.getD t.drags i.toNat default - 0) (false) (i + 1) (out ++ [0]) (out_n + 1), rPlay_o1 s plan t (lv - List.getD t.drags i.toNat default - 0) (false) (i + 1) (out ++ [0]) (out_n + 1),
 [CellsM 1 [] (rowL encI (out ++ [0])) (rowL encI (out ++ [0])), wq (i + 1) = i + 1, Array.size (rowL encI out) = out_n * (0 + 1) ∧ out_n + 1 ≤ maxLen ∧ (out_n + 1) * 8 ≤ 140737488355328 ∧ rowL encI out ++ #[Value.int IntKind.i64 0] = rowL encI (out ++ [0]), ltq (WCell.ground (List.getD s.cells i.toNat default) + 0) (lv - List.getD t.drags i.toNat default - 0) = false] ++ rPlay_p6 B s plan t lv i out out_n dJ0⟩ := by kernel_rfl
theorem rPlay_s12 (B : Lo) (s : WShore) (plan : List Int) (t : WTruth) (lv : Int)  (i : Int) (out : List Int) (out_n : Nat) (dJ0 : Nat → Value) : endT (srunT Try.prog (okFn Try.prog) J0 B 9 1 (headC 28 75 (([1, 3, 5, 7, 8, 9, 10] : List Nat).zip (rPlay_v1 s plan t lv true i out out_n)) dJ0 rPlay_t1) (headH (rPlay_o1 s plan t lv true i out out_n)) (2 + (rPlay_o1 s plan t lv true i out out_n).length)
 [(4, hvF)] 0 [] []) [{ k := 4, rs := [], cs := rowL encI out }] = some (slT out_n (Fz.cs { k := 4, rs := [], cs := rowL encI out }),
 [CellsT (Fz.rs { k := 4, rs := [], cs := rowL encI out }) (rowL encI out) (Fz.cs { k := 4, rs := [], cs := rowL encI out }), ltq i (↑s.cells.length : Int) = false]) := by kernel_rfl
noncomputable def rPlay_p7 (B : Lo) (s : WShore) (plan : List Int) (t : WTruth) (lv : Int)  (i : Int) (out : List Int) (out_n : Nat) (dJ0 : Nat → Value) : List Prop := [i = (↑i.toNat : Int) ∧ Int.toNat i < List.length plan ∧ Array.extract (rowL encI plan) (Int.toNat i * TypeInfo.size Try.t3) (Int.toNat i * TypeInfo.size Try.t3 + TypeInfo.size Try.t3) = #[Value.int IntKind.i64 (List.getD plan i.toNat default)], ltq i (↑s.cells.length : Int) = true] ++ ([] : List Prop)
noncomputable def rPlay_q7 (s : WShore) (plan : List Int) (t : WTruth) (lv : Int)  (i : Int) (out : List Int) (out_n : Nat) (dJ0 : Nat → Value) : ScriptT := [(4, hvT), (10, HintT.tidx i.toNat #[Value.int IntKind.i64 (List.getD plan i.toNat default)])]
theorem rPlay_s13 (B : Lo) (s : WShore) (plan : List Int) (t : WTruth) (lv : Int)  (i : Int) (out : List Int) (out_n : Nat) (dJ0 : Nat → Value) : landM (srunT Try.prog (okFn Try.prog) J0 B 29 1 (headC 28 75 (([1, 3, 5, 7, 8, 9, 10] : List Nat).zip (rPlay_v1 s plan t lv false i out out_n)) dJ0 rPlay_t1) (headH (rPlay_o1 s plan t lv false i out out_n)) (2 + (rPlay_o1 s plan t lv false i out out_n).length)
 (rPlay_q7 s plan t lv i out out_n dJ0 ++ [(12, hvT), (17, HintT.tidx i.toNat #[Value.int IntKind.i64 (List.getD plan i.toNat default)]), (19, HintT.tidx (Int.toNat (List.getD plan i.toNat default)) (rPlay_z0 s plan i)), (26, HintT.tidx i.toNat (rPlay_z2 t i)), (28, hvI (lv - List.getD t.drags i.toNat default)), (31, hvI (lv - List.getD t.drags i.toNat default - WWork.calm (List.getD s.works (Int.toNat (List.getD plan i.toNat default)) default))), (53, HintT.old (Hint.app (rowL encI (out ++ [0])))), (56, hvI (i + 1))]) 0 [] []) [1, 3, 5, 7, 8, 9, 10] [(2, KS.auto), (3, KS.auto), (7, KS.cells [] (rowL encI (out ++ [0])))] [] = some ⟨28, 75, rPlay_t1, [], .run, none, rPlay_v1 s plan t (lv - List.getD t.drags i.toNat default - WWork.calm (List.getD s.works (Int.toNat (List.getD plan i.toNat default)) default)) (false) (i + 1) (out ++ [0]) (out_n + 1), rPlay_o1 s plan t (lv - List.getD t.drags i.toNat default - WWork.calm (List.getD s.works (Int.toNat (List.getD plan i.toNat default)) default)) (false) (i + 1) (out ++ [0]) (out_n + 1),
 [CellsM 1 [] (rowL encI (out ++ [0])) (rowL encI (out ++ [0])), wq (i + 1) = i + 1, Array.size (rowL encI out) = out_n * (0 + 1) ∧ out_n + 1 ≤ maxLen ∧ (out_n + 1) * 8 ≤ 140737488355328 ∧ rowL encI out ++ #[Value.int IntKind.i64 0] = rowL encI (out ++ [0]), wq (lv - List.getD t.drags i.toNat default - WWork.calm (List.getD s.works (Int.toNat (List.getD plan i.toNat default)) default)) = lv - List.getD t.drags i.toNat default - WWork.calm (List.getD s.works (Int.toNat (List.getD plan i.toNat default)) default), wq (lv - List.getD t.drags i.toNat default) = lv - List.getD t.drags i.toNat default, i = (↑i.toNat : Int) ∧ Int.toNat i < List.length t.drags ∧ Array.extract (rowL encI t.drags) (Int.toNat i * TypeInfo.size Try.t3) (Int.toNat i * TypeInfo.size Try.t3 + TypeInfo.size Try.t3) = (rPlay_z2 t i), List.getD plan i.toNat default = (↑(Int.toNat (List.getD plan i.toNat default)) : Int) ∧ Int.toNat (List.getD plan i.toNat default) < List.length s.works ∧ Array.extract (rowL encWWork s.works) (Int.toNat (List.getD plan i.toNat default) * TypeInfo.size Try.t85) (Int.toNat (List.getD plan i.toNat default) * TypeInfo.size Try.t85 + TypeInfo.size Try.t85) = (rPlay_z0 s plan i), i = (↑i.toNat : Int) ∧ Int.toNat i < List.length plan ∧ Array.extract (rowL encI plan) (Int.toNat i * TypeInfo.size Try.t3) (Int.toNat i * TypeInfo.size Try.t3 + TypeInfo.size Try.t3) = #[Value.int IntKind.i64 (List.getD plan i.toNat default)], (!ltq (List.getD plan i.toNat default) 0) = true] ++ rPlay_p7 B s plan t lv i out out_n dJ0⟩ := by kernel_rfl
theorem rPlay_s14 (B : Lo) (s : WShore) (plan : List Int) (t : WTruth) (lv : Int)  (i : Int) (out : List Int) (out_n : Nat) (dJ0 : Nat → Value) : landM (srunT Try.prog (okFn Try.prog) J0 B 29 1 (headC 28 75 (([1, 3, 5, 7, 8, 9, 10] : List Nat).zip (rPlay_v1 s plan t lv false i out out_n)) dJ0 rPlay_t1) (headH (rPlay_o1 s plan t lv false i out out_n)) (2 + (rPlay_o1 s plan t lv false i out out_n).length)
 (rPlay_q7 s plan t lv i out out_n dJ0 ++ [(12, hvF), (17, HintT.tidx i.toNat (rPlay_z2 t i)), (19, hvI (lv - List.getD t.drags i.toNat default)), (22, hvI (lv - List.getD t.drags i.toNat default - 0)), (44, HintT.old (Hint.app (rowL encI (out ++ [0])))), (47, hvI (i + 1))]) 0 [] []) [1, 3, 5, 7, 8, 9, 10] [(2, KS.auto), (3, KS.auto), (7, KS.cells [] (rowL encI (out ++ [0])))] [] = some ⟨28, 75, rPlay_t1, [], .run, none, rPlay_v1 s plan t (lv - List.getD t.drags i.toNat default - 0) (false) (i + 1) (out ++ [0]) (out_n + 1), rPlay_o1 s plan t (lv - List.getD t.drags i.toNat default - 0) (false) (i + 1) (out ++ [0]) (out_n + 1),
 [CellsM 1 [] (rowL encI (out ++ [0])) (rowL encI (out ++ [0])), wq (i + 1) = i + 1, Array.size (rowL encI out) = out_n * (0 + 1) ∧ out_n + 1 ≤ maxLen ∧ (out_n + 1) * 8 ≤ 140737488355328 ∧ rowL encI out ++ #[Value.int IntKind.i64 0] = rowL encI (out ++ [0]), wq (lv - List.getD t.drags i.toNat default - 0) = lv - List.getD t.drags i.toNat default - 0, wq (lv - List.getD t.drags i.toNat default) = lv - List.getD t.drags i.toNat default, i = (↑i.toNat : Int) ∧ Int.toNat i < List.length t.drags ∧ Array.extract (rowL encI t.drags) (Int.toNat i * TypeInfo.size Try.t3) (Int.toNat i * TypeInfo.size Try.t3 + TypeInfo.size Try.t3) = (rPlay_z2 t i), (!ltq (List.getD plan i.toNat default) 0) = false] ++ rPlay_p7 B s plan t lv i out out_n dJ0⟩ := by kernel_rfl
theorem rPlay_s15 (B : Lo) (s : WShore) (plan : List Int) (t : WTruth) (lv : Int)  (i : Int) (out : List Int) (out_n : Nat) (dJ0 : Nat → Value) : endT (srunT Try.prog (okFn Try.prog) J0 B 9 1 (headC 28 75 (([1, 3, 5, 7, 8, 9, 10] : List Nat).zip (rPlay_v1 s plan t lv false i out out_n)) dJ0 rPlay_t1) (headH (rPlay_o1 s plan t lv false i out out_n)) (2 + (rPlay_o1 s plan t lv false i out out_n).length)
 [(4, hvF)] 0 [] []) [{ k := 4, rs := [], cs := rowL encI out }] = some (slT out_n (Fz.cs { k := 4, rs := [], cs := rowL encI out }),
 [CellsT (Fz.rs { k := 4, rs := [], cs := rowL encI out }) (rowL encI out) (Fz.cs { k := 4, rs := [], cs := rowL encI out }), ltq i (↑s.cells.length : Int) = false]) := by kernel_rfl
theorem rPlay_s16 (B : Lo) (s : WShore) (plan : List Int) (t : WTruth) : landM (srunT Try.prog (okFn Try.prog) J0 B 11 1 (entryC Try.prog 28 75 (([.agg (encShore s).toArray, slI plan, .agg (encTruth t).toArray]).map (pushT 0 4))) H00 1
 [(5, HintT.pure (Value.int IntKind.i64 (levelF s t)) [])] 0 [] []) [1, 3, 5, 7, 8, 9, 10] [(1, KS.auto), (2, KS.auto)] [] = some ⟨28, 75, rPlay_t0, [], .run, none, rPlay_v0 s plan t (levelF s t) (true) (0), rPlay_o0 s plan t (levelF s t) (true) (0),
 [AllP [] ∧ PureC Try.prog J0 22 #[Value.agg #[slT s.cells.length (rowL encWCell s.cells), slT s.works.length (rowL encWWork s.works), Value.int IntKind.i64 s.reef, Value.int IntKind.i64 s.llo, Value.int IntKind.i64 s.lhi], Value.agg #[Value.int IntKind.i64 t.wind, Value.int IntKind.i64 t.fetch, Value.int IntKind.i64 t.tide, Value.int IntKind.i64 t.loss, slT t.drags.length (rowL encI t.drags)]] (Value.int IntKind.i64 (levelF s t))]⟩ := by kernel_rfl
set_option maxHeartbeats 4000000 in
theorem rPlay_ls (s : WShore) (plan : List Int) (t : WTruth) (hs : shoreB s = true) (hp : planB s plan = true) (ht : tOk s t) {B : Lo} (hJ : ∀ w, B.has w → J0 w) {c0 : CF} : ∀ m : Nat, (∀ (lv : Int) (r : Bool) (i : Int), s.cells.length - i.toNat = m → ∀ (h0 : 0 ≤ i) (hv : -5000 - 10000 * i ≤ lv ∧ lv ≤ 15000), rPlay_h0 B c0 s plan t lv r i → EndsT Try.prog B c0 (slI (([] : List Int) ++ playI s plan t (upI i s.cells.length) lv r))) ∧ (∀ (lv : Int) (r : Bool) (i : Int) (out : List Int) (out_n : Nat), s.cells.length - i.toNat = m → ∀ (h0 : 0 ≤ i) (hv : -5000 - 10000 * i ≤ lv ∧ lv ≤ 15000) (hout : out_n = out.length) (houtb : (out_n : Int) ≤ i), rPlay_h1 B c0 s plan t lv r i out out_n → EndsT Try.prog B c0 (slI (out ++ playI s plan t (upI i s.cells.length) lv r))) := by
 intro m0
 induction m0 using Nat.strongRecOn with
 | _ m0 ih0 =>
   refine ⟨?_, ?_⟩
   ·intro lv r i hm0 h0 hv ⟨dJ0, hdJ0, hg0⟩
    have hsf := shore_facts hs
    have hpf := plan_facts hp
    have hlv := level_in ht
    have hsf := shore_facts hs
    have hpf := plan_facts hp
    have hdl := ht.2.2.2.2.1
    cases r with
    | true =>
      by_cases q0 : (i : Int) < ((↑s.cells.length : Int))
      ·
       have hp0 : AllP (rPlay_p0 B s plan t lv i dJ0) := by
        have h7 := hpf.2 _ (getD_mem (l := plan) (i := i) h0 (by omega))
        have hw := wk_in hs hp h0 (by omega)
        have hg := gr_in hs h0 (by omega)
        have hd := drag_in ht h0 (by omega)
        unfold gr at hg
        have s2 := playI_cons (s := s) (plan := plan) (t := t) (lv := lv) (r := true) (i := i) (by omega)
        have s3 := playI_cons (s := s) (plan := plan) (t := t) (lv := lv) (r := false) (i := i) (by omega)
        unfold gr at s2
        unfold gr at s3
        exact ⟨⟨by omega, by omega, (rowL_extract (z := 1) (fun _ => rfl) (by omega))⟩, ⟨(ltq_t q0), trivial⟩⟩
       by_cases q1 : (0 : Int) ≤ (List.getD plan i.toNat default)
       ·
        have hp1 : AllP (rPlay_p1 B s plan t lv i dJ0) := by
         have h7 := hpf.2 _ (getD_mem (l := plan) (i := i) h0 (by omega))
         have hw := wk_in hs hp h0 (by omega)
         have hg := gr_in hs h0 (by omega)
         have hd := drag_in ht h0 (by omega)
         have e1 := wk_pos (s := s) (by assumption)
         rw [e1] at hw
         unfold gr at hg
         have s2 := playI_cons (s := s) (plan := plan) (t := t) (lv := lv) (r := true) (i := i) (by omega)
         have s3 := playI_cons (s := s) (plan := plan) (t := t) (lv := lv) (r := false) (i := i) (by omega)
         rw [e1] at s2
         rw [e1] at s3
         unfold gr at s2
         unfold gr at s3
         exact ⟨(wq_in (by omega) (by omega)), ⟨⟨by omega, by omega, (rowL_extract (z := 4) (fun _ => rfl) (by omega))⟩, ⟨(wq_in (by omega) (by omega)), ⟨(wq_in (by omega) (by omega)), ⟨⟨by omega, by omega, (rowL_extract (z := 1) (fun _ => rfl) (by omega))⟩, ⟨⟨by omega, by omega, (rowL_extract (z := 3) (fun _ => rfl) (by omega))⟩, ⟨⟨by omega, by omega, (rowL_extract (z := 1) (fun _ => rfl) (by omega))⟩, ⟨(nltq_t q1), hp0⟩⟩⟩⟩⟩⟩⟩⟩
        by_cases q2 : (WCell.ground (List.getD s.cells i.toNat default) + WWork.rise (List.getD s.works (Int.toNat (List.getD plan i.toNat default)) default) : Int) < (lv - List.getD t.drags i.toNat default - WWork.calm (List.getD s.works (Int.toNat (List.getD plan i.toNat default)) default))
        ·
         have h7 := hpf.2 _ (getD_mem (l := plan) (i := i) h0 (by omega))
         have hw := wk_in hs hp h0 (by omega)
         have hg := gr_in hs h0 (by omega)
         have hd := drag_in ht h0 (by omega)
         have e1 := wk_pos (s := s) (by assumption)
         rw [e1] at hw
         unfold gr at hg
         have s2 := playI_cons (s := s) (plan := plan) (t := t) (lv := lv) (r := true) (i := i) (by omega)
         have s3 := playI_cons (s := s) (plan := plan) (t := t) (lv := lv) (r := false) (i := i) (by omega)
         rw [e1] at s2
         rw [e1] at s3
         unfold gr at s2
         unfold gr at s3
         exact ((ih0 _ (by omega)).2 (lv - List.getD t.drags i.toNat default - WWork.calm (List.getD s.works (Int.toNat (List.getD plan i.toNat default)) default)) (true) (i + 1) ([lv - List.getD t.drags i.toNat default - WWork.calm (List.getD s.works (Int.toNat (List.getD plan i.toNat default)) default) - WCell.ground (List.getD s.cells i.toNat default)]) (1) rfl (by omega) (by omega) (by (simp_all; done)) (by omega)
          (hg0.landM okF hJ mixed_ok (rPlay_s0 B s plan t lv i dJ0)
          ⟨(cellsM_lit (by kernel_rfl)), ⟨(wq_in (by omega) (by omega)), ⟨(wq_in (by omega) (by omega)), ⟨⟨by omega, by omega, (rowL_extract (z := 4) (fun _ => rfl) (by omega))⟩, ⟨(ltq_t q2), hp1⟩⟩⟩⟩⟩ (by kernel_rfl) (by kernel_rfl))).cast (by (rw [s2, decide_eq_true (by omega)]; simp; done))
        ·
         have h7 := hpf.2 _ (getD_mem (l := plan) (i := i) h0 (by omega))
         have hw := wk_in hs hp h0 (by omega)
         have hg := gr_in hs h0 (by omega)
         have hd := drag_in ht h0 (by omega)
         have e1 := wk_pos (s := s) (by assumption)
         rw [e1] at hw
         unfold gr at hg
         have s2 := playI_cons (s := s) (plan := plan) (t := t) (lv := lv) (r := true) (i := i) (by omega)
         have s3 := playI_cons (s := s) (plan := plan) (t := t) (lv := lv) (r := false) (i := i) (by omega)
         rw [e1] at s2
         rw [e1] at s3
         unfold gr at s2
         unfold gr at s3
         exact ((ih0 _ (by omega)).2 (lv - List.getD t.drags i.toNat default - WWork.calm (List.getD s.works (Int.toNat (List.getD plan i.toNat default)) default)) (false) (i + 1) ([0]) (1) rfl (by omega) (by omega) (by (simp_all; done)) (by omega)
          (hg0.landM okF hJ mixed_ok (rPlay_s1 B s plan t lv i dJ0)
          ⟨(cellsM_lit (by kernel_rfl)), ⟨(wq_in (by omega) (by omega)), ⟨(ltq_f (Int.not_lt.1 q2)), hp1⟩⟩⟩ (by kernel_rfl) (by kernel_rfl))).cast (by (rw [s2, decide_eq_false (by omega)]; simp; done))
       ·
        have hp2 : AllP (rPlay_p2 B s plan t lv i dJ0) := by
         have h7 := hpf.2 _ (getD_mem (l := plan) (i := i) h0 (by omega))
         have hw := wk_in hs hp h0 (by omega)
         have hg := gr_in hs h0 (by omega)
         have hd := drag_in ht h0 (by omega)
         have e1 := wk_neg (s := s) (by assumption)
         rw [e1] at hw
         unfold gr at hg
         have s2 := playI_cons (s := s) (plan := plan) (t := t) (lv := lv) (r := true) (i := i) (by omega)
         have s3 := playI_cons (s := s) (plan := plan) (t := t) (lv := lv) (r := false) (i := i) (by omega)
         rw [e1] at s2
         rw [e1] at s3
         unfold gr at s2
         unfold gr at s3
         exact ⟨(wq_in (by omega) (by omega)), ⟨⟨by omega, by omega, (rowL_extract (z := 4) (fun _ => rfl) (by omega))⟩, ⟨(wq_in (by omega) (by omega)), ⟨(wq_in (by omega) (by omega)), ⟨⟨by omega, by omega, (rowL_extract (z := 1) (fun _ => rfl) (by omega))⟩, ⟨(nltq_f (Int.not_le.1 q1)), hp0⟩⟩⟩⟩⟩⟩
        by_cases q2 : (WCell.ground (List.getD s.cells i.toNat default) + 0 : Int) < (lv - List.getD t.drags i.toNat default - 0)
        ·
         have h7 := hpf.2 _ (getD_mem (l := plan) (i := i) h0 (by omega))
         have hw := wk_in hs hp h0 (by omega)
         have hg := gr_in hs h0 (by omega)
         have hd := drag_in ht h0 (by omega)
         have e1 := wk_neg (s := s) (by assumption)
         rw [e1] at hw
         unfold gr at hg
         have s2 := playI_cons (s := s) (plan := plan) (t := t) (lv := lv) (r := true) (i := i) (by omega)
         have s3 := playI_cons (s := s) (plan := plan) (t := t) (lv := lv) (r := false) (i := i) (by omega)
         rw [e1] at s2
         rw [e1] at s3
         unfold gr at s2
         unfold gr at s3
         exact ((ih0 _ (by omega)).2 (lv - List.getD t.drags i.toNat default - 0) (true) (i + 1) ([lv - List.getD t.drags i.toNat default - 0 - WCell.ground (List.getD s.cells i.toNat default)]) (1) rfl (by omega) (by omega) (by (simp_all; done)) (by omega)
          (hg0.landM okF hJ mixed_ok (rPlay_s2 B s plan t lv i dJ0)
          ⟨(cellsM_lit (by kernel_rfl)), ⟨(wq_in (by omega) (by omega)), ⟨(wq_in (by omega) (by omega)), ⟨⟨by omega, by omega, (rowL_extract (z := 4) (fun _ => rfl) (by omega))⟩, ⟨(ltq_t q2), hp2⟩⟩⟩⟩⟩ (by kernel_rfl) (by kernel_rfl))).cast (by (rw [s2, decide_eq_true (by omega)]; simp; done))
        ·
         have h7 := hpf.2 _ (getD_mem (l := plan) (i := i) h0 (by omega))
         have hw := wk_in hs hp h0 (by omega)
         have hg := gr_in hs h0 (by omega)
         have hd := drag_in ht h0 (by omega)
         have e1 := wk_neg (s := s) (by assumption)
         rw [e1] at hw
         unfold gr at hg
         have s2 := playI_cons (s := s) (plan := plan) (t := t) (lv := lv) (r := true) (i := i) (by omega)
         have s3 := playI_cons (s := s) (plan := plan) (t := t) (lv := lv) (r := false) (i := i) (by omega)
         rw [e1] at s2
         rw [e1] at s3
         unfold gr at s2
         unfold gr at s3
         exact ((ih0 _ (by omega)).2 (lv - List.getD t.drags i.toNat default - 0) (false) (i + 1) ([0]) (1) rfl (by omega) (by omega) (by (simp_all; done)) (by omega)
          (hg0.landM okF hJ mixed_ok (rPlay_s3 B s plan t lv i dJ0)
          ⟨(cellsM_lit (by kernel_rfl)), ⟨(wq_in (by omega) (by omega)), ⟨(ltq_f (Int.not_lt.1 q2)), hp2⟩⟩⟩ (by kernel_rfl) (by kernel_rfl))).cast (by (rw [s2, decide_eq_false (by omega)]; simp; done))
      ·
       exact (GoE.endsT okF hJ mixed_ok hg0 (rPlay_s4 B s plan t lv i dJ0)
        ⟨(ltq_f (Int.not_lt.1 q0)), trivial⟩).cast (by (rw [playI_nil (by omega)]; rfl))
    | false =>
      by_cases q0 : (i : Int) < ((↑s.cells.length : Int))
      ·
       have hp3 : AllP (rPlay_p3 B s plan t lv i dJ0) := by
        have h7 := hpf.2 _ (getD_mem (l := plan) (i := i) h0 (by omega))
        have hw := wk_in hs hp h0 (by omega)
        have hg := gr_in hs h0 (by omega)
        have hd := drag_in ht h0 (by omega)
        unfold gr at hg
        have s2 := playI_cons (s := s) (plan := plan) (t := t) (lv := lv) (r := true) (i := i) (by omega)
        have s3 := playI_cons (s := s) (plan := plan) (t := t) (lv := lv) (r := false) (i := i) (by omega)
        unfold gr at s2
        unfold gr at s3
        exact ⟨⟨by omega, by omega, (rowL_extract (z := 1) (fun _ => rfl) (by omega))⟩, ⟨(ltq_t q0), trivial⟩⟩
       by_cases q1 : (0 : Int) ≤ (List.getD plan i.toNat default)
       ·
        have h7 := hpf.2 _ (getD_mem (l := plan) (i := i) h0 (by omega))
        have hw := wk_in hs hp h0 (by omega)
        have hg := gr_in hs h0 (by omega)
        have hd := drag_in ht h0 (by omega)
        have e1 := wk_pos (s := s) (by assumption)
        rw [e1] at hw
        unfold gr at hg
        have s2 := playI_cons (s := s) (plan := plan) (t := t) (lv := lv) (r := true) (i := i) (by omega)
        have s3 := playI_cons (s := s) (plan := plan) (t := t) (lv := lv) (r := false) (i := i) (by omega)
        rw [e1] at s2
        rw [e1] at s3
        unfold gr at s2
        unfold gr at s3
        exact ((ih0 _ (by omega)).2 (lv - List.getD t.drags i.toNat default - WWork.calm (List.getD s.works (Int.toNat (List.getD plan i.toNat default)) default)) (false) (i + 1) ([0]) (1) rfl (by omega) (by omega) (by (simp_all; done)) (by omega)
         (hg0.landM okF hJ mixed_ok (rPlay_s5 B s plan t lv i dJ0)
         ⟨(cellsM_lit (by kernel_rfl)), ⟨(wq_in (by omega) (by omega)), ⟨(wq_in (by omega) (by omega)), ⟨(wq_in (by omega) (by omega)), ⟨⟨by omega, by omega, (rowL_extract (z := 1) (fun _ => rfl) (by omega))⟩, ⟨⟨by omega, by omega, (rowL_extract (z := 3) (fun _ => rfl) (by omega))⟩, ⟨⟨by omega, by omega, (rowL_extract (z := 1) (fun _ => rfl) (by omega))⟩, ⟨(nltq_t q1), hp3⟩⟩⟩⟩⟩⟩⟩⟩ (by kernel_rfl) (by kernel_rfl))).cast (by (rw [s3]; simp; done))
       ·
        have h7 := hpf.2 _ (getD_mem (l := plan) (i := i) h0 (by omega))
        have hw := wk_in hs hp h0 (by omega)
        have hg := gr_in hs h0 (by omega)
        have hd := drag_in ht h0 (by omega)
        have e1 := wk_neg (s := s) (by assumption)
        rw [e1] at hw
        unfold gr at hg
        have s2 := playI_cons (s := s) (plan := plan) (t := t) (lv := lv) (r := true) (i := i) (by omega)
        have s3 := playI_cons (s := s) (plan := plan) (t := t) (lv := lv) (r := false) (i := i) (by omega)
        rw [e1] at s2
        rw [e1] at s3
        unfold gr at s2
        unfold gr at s3
        exact ((ih0 _ (by omega)).2 (lv - List.getD t.drags i.toNat default - 0) (false) (i + 1) ([0]) (1) rfl (by omega) (by omega) (by (simp_all; done)) (by omega)
         (hg0.landM okF hJ mixed_ok (rPlay_s6 B s plan t lv i dJ0)
         ⟨(cellsM_lit (by kernel_rfl)), ⟨(wq_in (by omega) (by omega)), ⟨(wq_in (by omega) (by omega)), ⟨(wq_in (by omega) (by omega)), ⟨⟨by omega, by omega, (rowL_extract (z := 1) (fun _ => rfl) (by omega))⟩, ⟨(nltq_f (Int.not_le.1 q1)), hp3⟩⟩⟩⟩⟩⟩ (by kernel_rfl) (by kernel_rfl))).cast (by (rw [s3]; simp; done))
      ·
       exact (GoE.endsT okF hJ mixed_ok hg0 (rPlay_s7 B s plan t lv i dJ0)
        ⟨(ltq_f (Int.not_lt.1 q0)), trivial⟩).cast (by (rw [playI_nil (by omega)]; rfl))
   ·intro lv r i out out_n hm0 h0 hv hout houtb ⟨dJ0, hdJ0, hg0⟩
    have hsf := shore_facts hs
    have hpf := plan_facts hp
    have hlv := level_in ht
    have hsf := shore_facts hs
    have hpf := plan_facts hp
    have hdl := ht.2.2.2.2.1
    cases r with
    | true =>
      by_cases q0 : (i : Int) < ((↑s.cells.length : Int))
      ·
       have hp4 : AllP (rPlay_p4 B s plan t lv i out out_n dJ0) := by
        have h7 := hpf.2 _ (getD_mem (l := plan) (i := i) h0 (by omega))
        have hw := wk_in hs hp h0 (by omega)
        have hg := gr_in hs h0 (by omega)
        have hd := drag_in ht h0 (by omega)
        unfold gr at hg
        have s2 := playI_cons (s := s) (plan := plan) (t := t) (lv := lv) (r := true) (i := i) (by omega)
        have s3 := playI_cons (s := s) (plan := plan) (t := t) (lv := lv) (r := false) (i := i) (by omega)
        unfold gr at s2
        unfold gr at s3
        exact ⟨⟨by omega, by omega, (rowL_extract (z := 1) (fun _ => rfl) (by omega))⟩, ⟨(ltq_t q0), trivial⟩⟩
       by_cases q1 : (0 : Int) ≤ (List.getD plan i.toNat default)
       ·
        have hp5 : AllP (rPlay_p5 B s plan t lv i out out_n dJ0) := by
         have h7 := hpf.2 _ (getD_mem (l := plan) (i := i) h0 (by omega))
         have hw := wk_in hs hp h0 (by omega)
         have hg := gr_in hs h0 (by omega)
         have hd := drag_in ht h0 (by omega)
         have e1 := wk_pos (s := s) (by assumption)
         rw [e1] at hw
         unfold gr at hg
         have s2 := playI_cons (s := s) (plan := plan) (t := t) (lv := lv) (r := true) (i := i) (by omega)
         have s3 := playI_cons (s := s) (plan := plan) (t := t) (lv := lv) (r := false) (i := i) (by omega)
         rw [e1] at s2
         rw [e1] at s3
         unfold gr at s2
         unfold gr at s3
         exact ⟨(wq_in (by omega) (by omega)), ⟨⟨by omega, by omega, (rowL_extract (z := 4) (fun _ => rfl) (by omega))⟩, ⟨(wq_in (by omega) (by omega)), ⟨(wq_in (by omega) (by omega)), ⟨⟨by omega, by omega, (rowL_extract (z := 1) (fun _ => rfl) (by omega))⟩, ⟨⟨by omega, by omega, (rowL_extract (z := 3) (fun _ => rfl) (by omega))⟩, ⟨⟨by omega, by omega, (rowL_extract (z := 1) (fun _ => rfl) (by omega))⟩, ⟨(nltq_t q1), hp4⟩⟩⟩⟩⟩⟩⟩⟩
        by_cases q2 : (WCell.ground (List.getD s.cells i.toNat default) + WWork.rise (List.getD s.works (Int.toNat (List.getD plan i.toNat default)) default) : Int) < (lv - List.getD t.drags i.toNat default - WWork.calm (List.getD s.works (Int.toNat (List.getD plan i.toNat default)) default))
        ·
         have h7 := hpf.2 _ (getD_mem (l := plan) (i := i) h0 (by omega))
         have hw := wk_in hs hp h0 (by omega)
         have hg := gr_in hs h0 (by omega)
         have hd := drag_in ht h0 (by omega)
         have e1 := wk_pos (s := s) (by assumption)
         rw [e1] at hw
         unfold gr at hg
         have s2 := playI_cons (s := s) (plan := plan) (t := t) (lv := lv) (r := true) (i := i) (by omega)
         have s3 := playI_cons (s := s) (plan := plan) (t := t) (lv := lv) (r := false) (i := i) (by omega)
         rw [e1] at s2
         rw [e1] at s3
         unfold gr at s2
         unfold gr at s3
         exact ((ih0 _ (by omega)).2 (lv - List.getD t.drags i.toNat default - WWork.calm (List.getD s.works (Int.toNat (List.getD plan i.toNat default)) default)) (true) (i + 1) (out ++ [lv - List.getD t.drags i.toNat default - WWork.calm (List.getD s.works (Int.toNat (List.getD plan i.toNat default)) default) - WCell.ground (List.getD s.cells i.toNat default)]) (out_n + 1) rfl (by omega) (by omega) (by (simp_all; done)) (by omega)
          (hg0.landM okF hJ mixed_ok (rPlay_s8 B s plan t lv i out out_n dJ0)
          ⟨(cellsM_simple (rowL_simple (fun x => List.all_eq_true.1 (by rfl)))), ⟨(wq_in (by omega) (by omega)), ⟨⟨(by (rw [rowL_size (z := 1) (fun _ => rfl)]; first | omega | (simp; omega) | (simp_all; done))), (by unfold maxLen; omega), by omega, by first | exact rowL_push | exact rowL_pushC rfl⟩, ⟨(wq_in (by omega) (by omega)), ⟨⟨by omega, by omega, (rowL_extract (z := 4) (fun _ => rfl) (by omega))⟩, ⟨(ltq_t q2), hp5⟩⟩⟩⟩⟩⟩ (by kernel_rfl) (by kernel_rfl))).cast (by (rw [s2, decide_eq_true (by omega)]; simp; done))
        ·
         have h7 := hpf.2 _ (getD_mem (l := plan) (i := i) h0 (by omega))
         have hw := wk_in hs hp h0 (by omega)
         have hg := gr_in hs h0 (by omega)
         have hd := drag_in ht h0 (by omega)
         have e1 := wk_pos (s := s) (by assumption)
         rw [e1] at hw
         unfold gr at hg
         have s2 := playI_cons (s := s) (plan := plan) (t := t) (lv := lv) (r := true) (i := i) (by omega)
         have s3 := playI_cons (s := s) (plan := plan) (t := t) (lv := lv) (r := false) (i := i) (by omega)
         rw [e1] at s2
         rw [e1] at s3
         unfold gr at s2
         unfold gr at s3
         exact ((ih0 _ (by omega)).2 (lv - List.getD t.drags i.toNat default - WWork.calm (List.getD s.works (Int.toNat (List.getD plan i.toNat default)) default)) (false) (i + 1) (out ++ [0]) (out_n + 1) rfl (by omega) (by omega) (by (simp_all; done)) (by omega)
          (hg0.landM okF hJ mixed_ok (rPlay_s9 B s plan t lv i out out_n dJ0)
          ⟨(cellsM_simple (rowL_simple (fun x => List.all_eq_true.1 (by rfl)))), ⟨(wq_in (by omega) (by omega)), ⟨⟨(by (rw [rowL_size (z := 1) (fun _ => rfl)]; first | omega | (simp; omega) | (simp_all; done))), (by unfold maxLen; omega), by omega, by first | exact rowL_push | exact rowL_pushC rfl⟩, ⟨(ltq_f (Int.not_lt.1 q2)), hp5⟩⟩⟩⟩ (by kernel_rfl) (by kernel_rfl))).cast (by (rw [s2, decide_eq_false (by omega)]; simp; done))
       ·
        have hp6 : AllP (rPlay_p6 B s plan t lv i out out_n dJ0) := by
         have h7 := hpf.2 _ (getD_mem (l := plan) (i := i) h0 (by omega))
         have hw := wk_in hs hp h0 (by omega)
         have hg := gr_in hs h0 (by omega)
         have hd := drag_in ht h0 (by omega)
         have e1 := wk_neg (s := s) (by assumption)
         rw [e1] at hw
         unfold gr at hg
         have s2 := playI_cons (s := s) (plan := plan) (t := t) (lv := lv) (r := true) (i := i) (by omega)
         have s3 := playI_cons (s := s) (plan := plan) (t := t) (lv := lv) (r := false) (i := i) (by omega)
         rw [e1] at s2
         rw [e1] at s3
         unfold gr at s2
         unfold gr at s3
         exact ⟨(wq_in (by omega) (by omega)), ⟨⟨by omega, by omega, (rowL_extract (z := 4) (fun _ => rfl) (by omega))⟩, ⟨(wq_in (by omega) (by omega)), ⟨(wq_in (by omega) (by omega)), ⟨⟨by omega, by omega, (rowL_extract (z := 1) (fun _ => rfl) (by omega))⟩, ⟨(nltq_f (Int.not_le.1 q1)), hp4⟩⟩⟩⟩⟩⟩
        by_cases q2 : (WCell.ground (List.getD s.cells i.toNat default) + 0 : Int) < (lv - List.getD t.drags i.toNat default - 0)
        ·
         have h7 := hpf.2 _ (getD_mem (l := plan) (i := i) h0 (by omega))
         have hw := wk_in hs hp h0 (by omega)
         have hg := gr_in hs h0 (by omega)
         have hd := drag_in ht h0 (by omega)
         have e1 := wk_neg (s := s) (by assumption)
         rw [e1] at hw
         unfold gr at hg
         have s2 := playI_cons (s := s) (plan := plan) (t := t) (lv := lv) (r := true) (i := i) (by omega)
         have s3 := playI_cons (s := s) (plan := plan) (t := t) (lv := lv) (r := false) (i := i) (by omega)
         rw [e1] at s2
         rw [e1] at s3
         unfold gr at s2
         unfold gr at s3
         exact ((ih0 _ (by omega)).2 (lv - List.getD t.drags i.toNat default - 0) (true) (i + 1) (out ++ [lv - List.getD t.drags i.toNat default - 0 - WCell.ground (List.getD s.cells i.toNat default)]) (out_n + 1) rfl (by omega) (by omega) (by (simp_all; done)) (by omega)
          (hg0.landM okF hJ mixed_ok (rPlay_s10 B s plan t lv i out out_n dJ0)
          ⟨(cellsM_simple (rowL_simple (fun x => List.all_eq_true.1 (by rfl)))), ⟨(wq_in (by omega) (by omega)), ⟨⟨(by (rw [rowL_size (z := 1) (fun _ => rfl)]; first | omega | (simp; omega) | (simp_all; done))), (by unfold maxLen; omega), by omega, by first | exact rowL_push | exact rowL_pushC rfl⟩, ⟨(wq_in (by omega) (by omega)), ⟨⟨by omega, by omega, (rowL_extract (z := 4) (fun _ => rfl) (by omega))⟩, ⟨(ltq_t q2), hp6⟩⟩⟩⟩⟩⟩ (by kernel_rfl) (by kernel_rfl))).cast (by (rw [s2, decide_eq_true (by omega)]; simp; done))
        ·
         have h7 := hpf.2 _ (getD_mem (l := plan) (i := i) h0 (by omega))
         have hw := wk_in hs hp h0 (by omega)
         have hg := gr_in hs h0 (by omega)
         have hd := drag_in ht h0 (by omega)
         have e1 := wk_neg (s := s) (by assumption)
         rw [e1] at hw
         unfold gr at hg
         have s2 := playI_cons (s := s) (plan := plan) (t := t) (lv := lv) (r := true) (i := i) (by omega)
         have s3 := playI_cons (s := s) (plan := plan) (t := t) (lv := lv) (r := false) (i := i) (by omega)
         rw [e1] at s2
         rw [e1] at s3
         unfold gr at s2
         unfold gr at s3
         exact ((ih0 _ (by omega)).2 (lv - List.getD t.drags i.toNat default - 0) (false) (i + 1) (out ++ [0]) (out_n + 1) rfl (by omega) (by omega) (by (simp_all; done)) (by omega)
          (hg0.landM okF hJ mixed_ok (rPlay_s11 B s plan t lv i out out_n dJ0)
          ⟨(cellsM_simple (rowL_simple (fun x => List.all_eq_true.1 (by rfl)))), ⟨(wq_in (by omega) (by omega)), ⟨⟨(by (rw [rowL_size (z := 1) (fun _ => rfl)]; first | omega | (simp; omega) | (simp_all; done))), (by unfold maxLen; omega), by omega, by first | exact rowL_push | exact rowL_pushC rfl⟩, ⟨(ltq_f (Int.not_lt.1 q2)), hp6⟩⟩⟩⟩ (by kernel_rfl) (by kernel_rfl))).cast (by (rw [s2, decide_eq_false (by omega)]; simp; done))
      ·
       exact (GoE.endsT okF hJ mixed_ok hg0 (rPlay_s12 B s plan t lv i out out_n dJ0)
        ⟨(rowL_cellsT (fun x => List.all_eq_true.1 (by rfl))), ⟨(ltq_f (Int.not_lt.1 q0)), trivial⟩⟩).cast (by (rw [playI_nil (by omega), List.append_nil, hout]; done))
    | false =>
      by_cases q0 : (i : Int) < ((↑s.cells.length : Int))
      ·
       have hp7 : AllP (rPlay_p7 B s plan t lv i out out_n dJ0) := by
        have h7 := hpf.2 _ (getD_mem (l := plan) (i := i) h0 (by omega))
        have hw := wk_in hs hp h0 (by omega)
        have hg := gr_in hs h0 (by omega)
        have hd := drag_in ht h0 (by omega)
        unfold gr at hg
        have s2 := playI_cons (s := s) (plan := plan) (t := t) (lv := lv) (r := true) (i := i) (by omega)
        have s3 := playI_cons (s := s) (plan := plan) (t := t) (lv := lv) (r := false) (i := i) (by omega)
        unfold gr at s2
        unfold gr at s3
        exact ⟨⟨by omega, by omega, (rowL_extract (z := 1) (fun _ => rfl) (by omega))⟩, ⟨(ltq_t q0), trivial⟩⟩
       by_cases q1 : (0 : Int) ≤ (List.getD plan i.toNat default)
       ·
        have h7 := hpf.2 _ (getD_mem (l := plan) (i := i) h0 (by omega))
        have hw := wk_in hs hp h0 (by omega)
        have hg := gr_in hs h0 (by omega)
        have hd := drag_in ht h0 (by omega)
        have e1 := wk_pos (s := s) (by assumption)
        rw [e1] at hw
        unfold gr at hg
        have s2 := playI_cons (s := s) (plan := plan) (t := t) (lv := lv) (r := true) (i := i) (by omega)
        have s3 := playI_cons (s := s) (plan := plan) (t := t) (lv := lv) (r := false) (i := i) (by omega)
        rw [e1] at s2
        rw [e1] at s3
        unfold gr at s2
        unfold gr at s3
        exact ((ih0 _ (by omega)).2 (lv - List.getD t.drags i.toNat default - WWork.calm (List.getD s.works (Int.toNat (List.getD plan i.toNat default)) default)) (false) (i + 1) (out ++ [0]) (out_n + 1) rfl (by omega) (by omega) (by (simp_all; done)) (by omega)
         (hg0.landM okF hJ mixed_ok (rPlay_s13 B s plan t lv i out out_n dJ0)
         ⟨(cellsM_simple (rowL_simple (fun x => List.all_eq_true.1 (by rfl)))), ⟨(wq_in (by omega) (by omega)), ⟨⟨(by (rw [rowL_size (z := 1) (fun _ => rfl)]; first | omega | (simp; omega) | (simp_all; done))), (by unfold maxLen; omega), by omega, by first | exact rowL_push | exact rowL_pushC rfl⟩, ⟨(wq_in (by omega) (by omega)), ⟨(wq_in (by omega) (by omega)), ⟨⟨by omega, by omega, (rowL_extract (z := 1) (fun _ => rfl) (by omega))⟩, ⟨⟨by omega, by omega, (rowL_extract (z := 3) (fun _ => rfl) (by omega))⟩, ⟨⟨by omega, by omega, (rowL_extract (z := 1) (fun _ => rfl) (by omega))⟩, ⟨(nltq_t q1), hp7⟩⟩⟩⟩⟩⟩⟩⟩⟩ (by kernel_rfl) (by kernel_rfl))).cast (by (rw [s3]; simp; done))
       ·
        have h7 := hpf.2 _ (getD_mem (l := plan) (i := i) h0 (by omega))
        have hw := wk_in hs hp h0 (by omega)
        have hg := gr_in hs h0 (by omega)
        have hd := drag_in ht h0 (by omega)
        have e1 := wk_neg (s := s) (by assumption)
        rw [e1] at hw
        unfold gr at hg
        have s2 := playI_cons (s := s) (plan := plan) (t := t) (lv := lv) (r := true) (i := i) (by omega)
        have s3 := playI_cons (s := s) (plan := plan) (t := t) (lv := lv) (r := false) (i := i) (by omega)
        rw [e1] at s2
        rw [e1] at s3
        unfold gr at s2
        unfold gr at s3
        exact ((ih0 _ (by omega)).2 (lv - List.getD t.drags i.toNat default - 0) (false) (i + 1) (out ++ [0]) (out_n + 1) rfl (by omega) (by omega) (by (simp_all; done)) (by omega)
         (hg0.landM okF hJ mixed_ok (rPlay_s14 B s plan t lv i out out_n dJ0)
         ⟨(cellsM_simple (rowL_simple (fun x => List.all_eq_true.1 (by rfl)))), ⟨(wq_in (by omega) (by omega)), ⟨⟨(by (rw [rowL_size (z := 1) (fun _ => rfl)]; first | omega | (simp; omega) | (simp_all; done))), (by unfold maxLen; omega), by omega, by first | exact rowL_push | exact rowL_pushC rfl⟩, ⟨(wq_in (by omega) (by omega)), ⟨(wq_in (by omega) (by omega)), ⟨⟨by omega, by omega, (rowL_extract (z := 1) (fun _ => rfl) (by omega))⟩, ⟨(nltq_f (Int.not_le.1 q1)), hp7⟩⟩⟩⟩⟩⟩⟩ (by kernel_rfl) (by kernel_rfl))).cast (by (rw [s3]; simp; done))
      ·
       exact (GoE.endsT okF hJ mixed_ok hg0 (rPlay_s15 B s plan t lv i out out_n dJ0)
        ⟨(rowL_cellsT (fun x => List.all_eq_true.1 (by rfl))), ⟨(ltq_f (Int.not_lt.1 q0)), trivial⟩⟩).cast (by (rw [playI_nil (by omega), List.append_nil, hout]; done))
set_option maxHeartbeats 4000000 in
theorem rPlay_e (s : WShore) (plan : List Int) (t : WTruth) (hs : shoreB s = true) (hp : planB s plan = true) (ht : tOk s t) {B : Lo} (hJ : ∀ w, B.has w → J0 w) : EndsT Try.prog B (entryC Try.prog 28 75 (([.agg (encShore s).toArray, slI plan, .agg (encTruth t).toArray]).map (pushT 0 4))) (slI (playL s plan t)) := by
 have hsf := shore_facts hs
 have hpf := plan_facts hp
 have hlv := level_in ht
 exact ((rPlay_ls s plan t hs hp ht hJ _).1 (levelF s t) (true) (0) rfl (by omega) (by omega)
  (GoE.start.landM okF hJ mixed_ok (rPlay_s16 B s plan t)
  ⟨⟨trivial, rLevel (s) (t) (by omega) (by with_reducible assumption)⟩, trivial⟩ (by kernel_rfl) (by kernel_rfl))).cast (by rfl)
theorem rPlay (s : WShore) (plan : List Int) (t : WTruth) (hs : shoreB s = true) (hp : planB s plan = true) (ht : tOk s t) : PureC Try.prog J0 28 #[.agg (encShore s).toArray, slI plan, .agg (encTruth t).toArray] (slI (playL s plan t)) :=
 pureC_of (ts := [.agg (encShore s).toArray, slI plan, .agg (encTruth t).toArray]) J0_st (c0 := entryC Try.prog 28 75 (([.agg (encShore s).toArray, slI plan, .agg (encTruth t).toArray]).map (pushT 0 4))) (by kernel_rfl) (by kernel_rfl) fun B hJ => rPlay_e s plan t hs hp ht hJ
end Go.Proofs.Ytiigkdhaofaijaa

