/- Wall: levels, and the reference's depths. -/
import Derived.Test.YtiigkdhaofaijaaZWR11
set_option linter.all false
namespace Go.Proofs.Ytiigkdhaofaijaa
open Go Go.CE Go.RowKit
set_option maxRecDepth 100000
def waveN (loss : Int) : Nat → Int → Int
 | 0, w => w
 | n + 1, w => waveN loss n (w - (w * loss).tdiv 1000)
def levelF (s : WShore) (t : WTruth) : Int := t.tide + waveN t.loss s.reef.toNat ((t.fetch * t.wind).tdiv 1000)
def tOk (s : WShore) (t : WTruth) : Prop := (0 ≤ t.wind ∧ t.wind ≤ 1000) ∧ (0 ≤ t.fetch ∧ t.fetch ≤ 10000) ∧ (-5000 ≤ t.tide ∧ t.tide ≤ 5000) ∧ (0 ≤ t.loss ∧ t.loss ≤ 1000) ∧ t.drags.length = s.cells.length ∧ ∀ x ∈ t.drags, 0 ≤ x ∧ x ≤ 5000
theorem tOk_end {b : Bool} {s : WShore} {c : WStorm} (hs : shoreB s = true) (hc : stormB c = true) : tOk s (endE b s c) := by
 have h1 := shore_facts hs
 have h2 := storm_facts hc
 cases b <;> refine ⟨by simp only [endE, cond_true, cond_false]; omega, by simp only [endE, cond_true, cond_false]; omega, by simp only [endE, cond_true, cond_false]; omega, by simp only [endE, cond_true, cond_false]; omega, by simp [endE], fun x hx => ?_⟩ <;>
 ·obtain ⟨k, hk, rfl⟩ := List.mem_map.1 hx
  have := cell_facts (h1.2.2.2.2.1 k hk)
  simp only [cond_true, cond_false]; omega
theorem wave_q {w l : Int} (hw : 0 ≤ w ∧ w ≤ 10000) (hl : 0 ≤ l ∧ l ≤ 1000) : 0 ≤ w * l ∧ w * l ≤ 10000000 ∧ (w * l).tdiv 1000 = (w * l) / 1000 ∧ 0 ≤ (w * l) / 1000 ∧ (w * l) / 1000 ≤ w := by
 have e0 : 0 ≤ w * l := Int.mul_nonneg hw.1 hl.1
 have e1 : w * l ≤ w * 1000 := Int.mul_le_mul_of_nonneg_left hl.2 hw.1
 refine ⟨e0, by omega, Int.tdiv_eq_ediv_of_nonneg e0, by omega, by omega⟩
theorem wave_0 {s : WShore} {t : WTruth} (ht : tOk s t) : 0 ≤ t.fetch * t.wind ∧ t.fetch * t.wind ≤ 10000000 ∧ (t.fetch * t.wind).tdiv 1000 = (t.fetch * t.wind) / 1000 ∧ 0 ≤ (t.fetch * t.wind) / 1000 ∧ (t.fetch * t.wind) / 1000 ≤ 10000 := by
 have h := wave_q (w := t.fetch) (l := t.wind) ht.2.1 ht.1
 refine ⟨h.1, h.2.1, h.2.2.1, h.2.2.2.1, by omega⟩
theorem waveN_in {l : Int} (hl : 0 ≤ l ∧ l ≤ 1000) : ∀ (n : Nat) (w : Int), 0 ≤ w ∧ w ≤ 10000 → 0 ≤ waveN l n w ∧ waveN l n w ≤ 10000
 | 0, w, hw => hw
 | n + 1, w, hw => by
   have h := wave_q hw hl
   exact waveN_in hl n _ (by omega)
theorem waveN_cons {l w r i : Int} (h : i < r) : waveN l (r - i).toNat w = waveN l (r - (i + 1)).toNat (w - (w * l).tdiv 1000) := by
 rw [show (r - i).toNat = (r - (i + 1)).toNat + 1 by omega]; rfl
theorem waveN_nil {l w r i : Int} (h : r ≤ i) : waveN l (r - i).toNat w = w := by
 rw [show (r - i).toNat = 0 by omega]; rfl
theorem level_in {s : WShore} {t : WTruth} (ht : tOk s t) : -5000 ≤ levelF s t ∧ levelF s t ≤ 15000 := by
 have h0 := wave_0 ht
 have h1 := waveN_in ht.2.2.2.1 s.reef.toNat ((t.fetch * t.wind).tdiv 1000) (by omega)
 have h2 := ht.2.2.1
 unfold levelF; omega
def rLevel_v0 (s : WShore) (t : WTruth) (w i : Int) : List Value := [pA 2 0, pA 3 0, .int .i64 w, .int .i64 i]
def rLevel_o0 (s : WShore) (t : WTruth) (w i : Int) : List Obj := [Obj.cells #[topV 1 (slT (List.length (WShore.cells s)) (rowL encWCell (WShore.cells s))), topV 1 (slT (List.length (WShore.works s)) (rowL encWWork (WShore.works s))), Value.int IntKind.i64 (WShore.reef s), Value.int IntKind.i64 (WShore.llo s), Value.int IntKind.i64 (WShore.lhi s)] 27, Obj.cells #[Value.int IntKind.i64 (WTruth.wind t), Value.int IntKind.i64 (WTruth.fetch t), Value.int IntKind.i64 (WTruth.tide t), Value.int IntKind.i64 (WTruth.loss t), topV 1 (slT (List.length (WTruth.drags t)) (rowL encI (WTruth.drags t)))] 38]
noncomputable def rLevel_t0 : List Item := ([.code [1, 1, 0, 1, 0, 0], .inLoop [1, 1, 0, 1, 0, 0], .inBlock 0, .code [1, 1, 1]]).map (it (bodyOf Try.prog 22))
def rLevel_h0 (B : Lo) (c0 : CF) (s : WShore) (t : WTruth) (w i : Int) : Prop := ∃ dJ : Nat → Value, (∀ t, Loose (dJ t)) ∧ GoE Try.prog B c0 H00 1 (headC 22 30 (([2, 3, 5, 6] : List Nat).zip (rLevel_v0 s t w i)) dJ rLevel_t0) (headH (rLevel_o0 s t w i)) (2 + (rLevel_o0 s t w i).length) []
theorem rLevel_s0 (B : Lo) (s : WShore) (t : WTruth) (w i : Int) (dJ0 : Nat → Value) : landM (srunT Try.prog (okFn Try.prog) J0 B 11 1 (headC 22 30 (([2, 3, 5, 6] : List Nat).zip (rLevel_v0 s t w i)) dJ0 rLevel_t0) (headH (rLevel_o0 s t w i)) (2 + (rLevel_o0 s t w i).length)
 [(3, hvT), (8, hvI (w * WTruth.loss t)), (9, hvI (Int.tdiv (w * WTruth.loss t) 1000)), (10, hvI (w - Int.tdiv (w * WTruth.loss t) 1000)), (13, hvI (i + 1))] 0 [] []) [2, 3, 5, 6] [(2, KS.auto), (3, KS.auto)] [] = some ⟨22, 30, rLevel_t0, [], .run, none, rLevel_v0 s t (w - Int.tdiv (w * WTruth.loss t) 1000) (i + 1), rLevel_o0 s t (w - Int.tdiv (w * WTruth.loss t) 1000) (i + 1),
 [wq (i + 1) = i + 1, wq (w - Int.tdiv (w * WTruth.loss t) 1000) = w - Int.tdiv (w * WTruth.loss t) 1000, IntKind.wrap IntKind.i64 (Int.tdiv (w * WTruth.loss t) 1000) = Int.tdiv (w * WTruth.loss t) 1000, wq (w * WTruth.loss t) = w * WTruth.loss t, ltq i (WShore.reef s) = true]⟩ := by kernel_rfl
theorem rLevel_s1 (B : Lo) (s : WShore) (t : WTruth) (w i : Int) (dJ0 : Nat → Value) : endT (srunT Try.prog (okFn Try.prog) J0 B 9 1 (headC 22 30 (([2, 3, 5, 6] : List Nat).zip (rLevel_v0 s t w i)) dJ0 rLevel_t0) (headH (rLevel_o0 s t w i)) (2 + (rLevel_o0 s t w i).length)
 [(3, hvF), (7, hvI (WTruth.tide t + w))] 0 [] []) [] = some (Value.int IntKind.i64 (WTruth.tide t + w),
 [wq (WTruth.tide t + w) = WTruth.tide t + w, ltq i (WShore.reef s) = false]) := by kernel_rfl
theorem rLevel_s2 (B : Lo) (s : WShore) (t : WTruth) : landM (srunT Try.prog (okFn Try.prog) J0 B 9 1 (entryC Try.prog 22 30 (([.agg (encShore s).toArray, .agg (encTruth t).toArray]).map (pushT 0 4))) H00 1
 [(7, hvI (WTruth.wind t * WTruth.fetch t)), (8, hvI (Int.tdiv (WTruth.wind t * WTruth.fetch t) 1000))] 0 [] []) [2, 3, 5, 6] [(1, KS.auto), (2, KS.auto)] [] = some ⟨22, 30, rLevel_t0, [], .run, none, rLevel_v0 s t (Int.tdiv (WTruth.wind t * WTruth.fetch t) 1000) (0), rLevel_o0 s t (Int.tdiv (WTruth.wind t * WTruth.fetch t) 1000) (0),
 [IntKind.wrap IntKind.i64 (Int.tdiv (WTruth.wind t * WTruth.fetch t) 1000) = Int.tdiv (WTruth.wind t * WTruth.fetch t) 1000, wq (WTruth.wind t * WTruth.fetch t) = WTruth.wind t * WTruth.fetch t]⟩ := by kernel_rfl
set_option maxHeartbeats 4000000 in
theorem rLevel_ls (s : WShore) (t : WTruth) (hr : 0 ≤ s.reef ∧ s.reef ≤ 20) (ht : tOk s t) {B : Lo} (hJ : ∀ w, B.has w → J0 w) {c0 : CF} : ∀ m : Nat, (∀ (w i : Int), (s.reef - i).toNat = m → ∀ (h0 : 0 ≤ i) (hw : 0 ≤ w ∧ w ≤ 10000), rLevel_h0 B c0 s t w i → EndsT Try.prog B c0 (.int .i64 (t.tide + waveN t.loss (s.reef - i).toNat w))) := by
 intro m0
 induction m0 using Nat.strongRecOn with
 | _ m0 ih0 =>
   intro w i hm0 h0 hw ⟨dJ0, hdJ0, hg0⟩
   have h0 := wave_0 ht
   have hm : t.wind * t.fetch = t.fetch * t.wind := Int.mul_comm _ _
   have hlt := ht.2.2.1
   have hll := ht.2.2.2.1
   have hq := wave_q hw ht.2.2.2.1
   have hlt := ht.2.2.1
   by_cases q0 : (i : Int) < (WShore.reef s)
   ·
    have s2 := waveN_cons (l := t.loss) (w := w) q0
    exact ((ih0 _ (by omega)) (w - Int.tdiv (w * WTruth.loss t) 1000) (i + 1) rfl (by omega) (by omega)
     (hg0.landM okF hJ mixed_ok (rLevel_s0 B s t w i dJ0)
     ⟨(wq_in (by omega) (by omega)), ⟨(wq_in (by omega) (by omega)), ⟨(wrap_in (by omega) (by omega)), ⟨(wq_in (by omega) (by omega)), ⟨(ltq_t q0), trivial⟩⟩⟩⟩⟩ (by kernel_rfl) (by kernel_rfl))).cast (by (rw [s2]; done))
   ·
    have s2 := waveN_nil (l := t.loss) (w := w) (r := s.reef) (i := i) (by omega)
    exact (GoE.endsT okF hJ mixed_ok hg0 (rLevel_s1 B s t w i dJ0)
     ⟨(wq_in (by omega) (by omega)), ⟨(ltq_f (Int.not_lt.1 q0)), trivial⟩⟩).cast (by (rw [s2]; done))
set_option maxHeartbeats 4000000 in
theorem rLevel_e (s : WShore) (t : WTruth) (hr : 0 ≤ s.reef ∧ s.reef ≤ 20) (ht : tOk s t) {B : Lo} (hJ : ∀ w, B.has w → J0 w) : EndsT Try.prog B (entryC Try.prog 22 30 (([.agg (encShore s).toArray, .agg (encTruth t).toArray]).map (pushT 0 4))) (.int .i64 (levelF s t)) := by
 have h0 := wave_0 ht
 have hm : t.wind * t.fetch = t.fetch * t.wind := Int.mul_comm _ _
 have hlt := ht.2.2.1
 have hll := ht.2.2.2.1
 exact ((rLevel_ls s t hr ht hJ _) (Int.tdiv (WTruth.wind t * WTruth.fetch t) 1000) (0) rfl (by omega) (by (simp_all; done))
  (GoE.start.landM okF hJ mixed_ok (rLevel_s2 B s t)
  ⟨(wrap_in (by (rw [hm]; omega)) (by (rw [hm]; omega))), ⟨(wq_in (by omega) (by omega)), trivial⟩⟩ (by kernel_rfl) (by kernel_rfl))).cast (by (rw [hm, Int.sub_zero]; rfl))
theorem rLevel (s : WShore) (t : WTruth) (hr : 0 ≤ s.reef ∧ s.reef ≤ 20) (ht : tOk s t) : PureC Try.prog J0 22 #[.agg (encShore s).toArray, .agg (encTruth t).toArray] (.int .i64 (levelF s t)) :=
 pureC_of (ts := [.agg (encShore s).toArray, .agg (encTruth t).toArray]) J0_st (c0 := entryC Try.prog 22 30 (([.agg (encShore s).toArray, .agg (encTruth t).toArray]).map (pushT 0 4))) (by kernel_rfl) (by kernel_rfl) fun B hJ => rLevel_e s t hr ht hJ
def workOf (s : WShore) (k : Int) : WWork := if 0 ≤ k then s.works.getD k.toNat default else ⟨0, 0, 0⟩
def wk (s : WShore) (plan : List Int) (i : Int) : WWork := workOf s (plan.getD i.toNat default)
def gr (s : WShore) (i : Int) : Int := (s.cells.getD i.toNat default).ground
def playI (s : WShore) (plan : List Int) (t : WTruth) : List Int → Int → Bool → List Int
 | [], _, _ => []
 | i :: l, lv, r => (bif r && decide (gr s i + (wk s plan i).rise < lv - t.drags.getD i.toNat default - (wk s plan i).calm) then lv - t.drags.getD i.toNat default - (wk s plan i).calm - gr s i else 0) :: playI s plan t l (lv - t.drags.getD i.toNat default - (wk s plan i).calm) (r && decide (gr s i + (wk s plan i).rise < lv - t.drags.getD i.toNat default - (wk s plan i).calm))
def playL (s : WShore) (plan : List Int) (t : WTruth) : List Int := playI s plan t (upI 0 s.cells.length) (levelF s t) true
theorem workOf_in {s : WShore} {k : Int} (hs : shoreB s = true) (hk : k < s.works.length) : (0 ≤ (workOf s k).rise ∧ (workOf s k).rise ≤ 5000) ∧ (0 ≤ (workOf s k).calm ∧ (workOf s k).calm ≤ 5000) := by
 unfold workOf
 split
 ·have := work_facts ((shore_facts hs).2.2.2.2.2 _ (getD_mem (l := s.works) (i := k) (by omega) hk)); omega
 ·simp
theorem wk_in {s : WShore} {plan : List Int} {i : Int} (hs : shoreB s = true) (hp : planB s plan = true) (h0 : 0 ≤ i) (h1 : i < s.cells.length) : (0 ≤ (wk s plan i).rise ∧ (wk s plan i).rise ≤ 5000) ∧ (0 ≤ (wk s plan i).calm ∧ (wk s plan i).calm ≤ 5000) := by
 have h2 := plan_facts hp
 have h3 := h2.2 _ (getD_mem (l := plan) (i := i) h0 (by omega))
 exact workOf_in hs h3.2
theorem gr_in {s : WShore} {i : Int} (hs : shoreB s = true) (h0 : 0 ≤ i) (h1 : i < s.cells.length) : -5000 ≤ gr s i ∧ gr s i ≤ 5000 := by
 have := cell_facts ((shore_facts hs).2.2.2.2.1 _ (getD_mem (l := s.cells) (i := i) h0 h1)); unfold gr; omega
theorem drag_in {s : WShore} {t : WTruth} {i : Int} (ht : tOk s t) (h0 : 0 ≤ i) (h1 : i < s.cells.length) : 0 ≤ t.drags.getD i.toNat default ∧ t.drags.getD i.toNat default ≤ 5000 :=
 ht.2.2.2.2.2 _ (getD_mem (l := t.drags) (i := i) h0 (by have := ht.2.2.2.2.1; omega))
theorem playI_cons {s : WShore} {plan : List Int} {t : WTruth} {i lv : Int} {r : Bool} (h : i < s.cells.length) : playI s plan t (upI i s.cells.length) lv r = (bif r && decide (gr s i + (wk s plan i).rise < lv - t.drags.getD i.toNat default - (wk s plan i).calm) then lv - t.drags.getD i.toNat default - (wk s plan i).calm - gr s i else 0) :: playI s plan t (upI (i + 1) s.cells.length) (lv - t.drags.getD i.toNat default - (wk s plan i).calm) (r && decide (gr s i + (wk s plan i).rise < lv - t.drags.getD i.toNat default - (wk s plan i).calm)) := by
 rw [upI_cons h]; rfl
theorem playI_nil {s : WShore} {plan : List Int} {t : WTruth} {i lv : Int} {r : Bool} (h : s.cells.length ≤ i) : playI s plan t (upI i s.cells.length) lv r = [] := by
 rw [upI_nil h]; rfl
theorem wk_pos {s : WShore} {plan : List Int} {i : Int} (h : 0 ≤ plan.getD i.toNat default) : wk s plan i = s.works.getD (plan.getD i.toNat default).toNat default := if_pos h
theorem wk_neg {s : WShore} {plan : List Int} {i : Int} (h : ¬ 0 ≤ plan.getD i.toNat default) : wk s plan i = ⟨0, 0, 0⟩ := if_neg h
def rPlay_v0 (s : WShore) (plan : List Int) (t : WTruth) (lv : Int) (r : Bool) (i : Int) : List Value := [topV 1 (slT (List.length plan) (rowL encI plan)), pA 2 0, pA 3 0, .int .i64 lv, .bool r, .slice none 0 0, .int .i64 i]
def rPlay_o0 (s : WShore) (plan : List Int) (t : WTruth) (lv : Int) (r : Bool) (i : Int) : List Obj := [Obj.cells #[topV 1 (slT (List.length (WShore.cells s)) (rowL encWCell (WShore.cells s))), topV 1 (slT (List.length (WShore.works s)) (rowL encWWork (WShore.works s))), Value.int IntKind.i64 (WShore.reef s), Value.int IntKind.i64 (WShore.llo s), Value.int IntKind.i64 (WShore.lhi s)] 27, Obj.cells #[Value.int IntKind.i64 (WTruth.wind t), Value.int IntKind.i64 (WTruth.fetch t), Value.int IntKind.i64 (WTruth.tide t), Value.int IntKind.i64 (WTruth.loss t), topV 1 (slT (List.length (WTruth.drags t)) (rowL encI (WTruth.drags t)))] 38]
noncomputable def rPlay_t0 : List Item := ([.code [1, 1, 1, 0, 1, 0, 0], .inLoop [1, 1, 1, 0, 1, 0, 0], .inBlock 0, .code [1, 1, 1, 1]]).map (it (bodyOf Try.prog 28))
def rPlay_h0 (B : Lo) (c0 : CF) (s : WShore) (plan : List Int) (t : WTruth) (lv : Int) (r : Bool) (i : Int) : Prop := ∃ dJ : Nat → Value, (∀ t, Loose (dJ t)) ∧ GoE Try.prog B c0 H00 1 (headC 28 75 (([1, 3, 5, 7, 8, 9, 10] : List Nat).zip (rPlay_v0 s plan t lv r i)) dJ rPlay_t0) (headH (rPlay_o0 s plan t lv r i)) (2 + (rPlay_o0 s plan t lv r i).length) []
def rPlay_v1 (s : WShore) (plan : List Int) (t : WTruth) (lv : Int) (r : Bool) (i : Int) (out : List Int) (out_n : Nat) : List Value := [topV 1 (slT (List.length plan) (rowL encI plan)), pA 2 0, pA 3 0, .int .i64 lv, .bool r, .slice (some ⟨4, 0, none⟩) out_n 1, .int .i64 i]
def rPlay_o1 (s : WShore) (plan : List Int) (t : WTruth) (lv : Int) (r : Bool) (i : Int) (out : List Int) (out_n : Nat) : List Obj := [Obj.cells #[topV 1 (slT (List.length (WShore.cells s)) (rowL encWCell (WShore.cells s))), topV 1 (slT (List.length (WShore.works s)) (rowL encWWork (WShore.works s))), Value.int IntKind.i64 (WShore.reef s), Value.int IntKind.i64 (WShore.llo s), Value.int IntKind.i64 (WShore.lhi s)] 27, Obj.cells #[Value.int IntKind.i64 (WTruth.wind t), Value.int IntKind.i64 (WTruth.fetch t), Value.int IntKind.i64 (WTruth.tide t), Value.int IntKind.i64 (WTruth.loss t), topV 1 (slT (List.length (WTruth.drags t)) (rowL encI (WTruth.drags t)))] 38, Obj.cells (rowL encI out) 3 (0, 0)]
noncomputable def rPlay_t1 : List Item := ([.code [1, 1, 1, 0, 1, 0, 0], .inLoop [1, 1, 1, 0, 1, 0, 0], .inBlock 0, .code [1, 1, 1, 1]]).map (it (bodyOf Try.prog 28))
def rPlay_h1 (B : Lo) (c0 : CF) (s : WShore) (plan : List Int) (t : WTruth) (lv : Int) (r : Bool) (i : Int) (out : List Int) (out_n : Nat) : Prop := ∃ dJ : Nat → Value, (∀ t, Loose (dJ t)) ∧ GoE Try.prog B c0 H00 1 (headC 28 75 (([1, 3, 5, 7, 8, 9, 10] : List Nat).zip (rPlay_v1 s plan t lv r i out out_n)) dJ rPlay_t1) (headH (rPlay_o1 s plan t lv r i out out_n)) (2 + (rPlay_o1 s plan t lv r i out out_n).length) []
noncomputable def rPlay_z0 (s : WShore) (plan : List Int) (i : Int) : Array Value := #[Value.int IntKind.i64 (WWork.rise (List.getD (WShore.works s) (Int.toNat (List.getD plan (Int.toNat i) default)) default)), Value.int IntKind.i64 (WWork.calm (List.getD (WShore.works s) (Int.toNat (List.getD plan (Int.toNat i) default)) default)), Value.int IntKind.i64 (WWork.cost (List.getD (WShore.works s) (Int.toNat (List.getD plan (Int.toNat i) default)) default))]
noncomputable def rPlay_z1 (s : WShore) (i : Int) : Array Value := #[Value.int IntKind.i64 (WCell.ground (List.getD (WShore.cells s) (Int.toNat i) default)), Value.int IntKind.i64 (WCell.dlo (List.getD (WShore.cells s) (Int.toNat i) default)), Value.int IntKind.i64 (WCell.dhi (List.getD (WShore.cells s) (Int.toNat i) default)), Value.int IntKind.i64 (WCell.floor (List.getD (WShore.cells s) (Int.toNat i) default))]
noncomputable def rPlay_z2 (t : WTruth) (i : Int) : Array Value := #[Value.int IntKind.i64 (List.getD (WTruth.drags t) (Int.toNat i) default)]
noncomputable def rPlay_p0 (B : Lo) (s : WShore) (plan : List Int) (t : WTruth) (lv : Int)  (i : Int) (dJ0 : Nat → Value) : List Prop := [i = (↑(Int.toNat i) : Int) ∧ Int.toNat i < List.length plan ∧ Array.extract (rowL encI plan) (Int.toNat i * TypeInfo.size Try.t3) (Int.toNat i * TypeInfo.size Try.t3 + TypeInfo.size Try.t3) = #[Value.int IntKind.i64 (List.getD plan (Int.toNat i) default)], ltq i (↑(List.length (WShore.cells s)) : Int) = true] ++ ([] : List Prop)
noncomputable def rPlay_q0 (s : WShore) (plan : List Int) (t : WTruth) (lv : Int)  (i : Int) (dJ0 : Nat → Value) : ScriptT := [(4, hvT), (10, HintT.tidx (Int.toNat i) #[Value.int IntKind.i64 (List.getD plan (Int.toNat i) default)])]
noncomputable def rPlay_p1 (B : Lo) (s : WShore) (plan : List Int) (t : WTruth) (lv : Int)  (i : Int) (dJ0 : Nat → Value) : List Prop := [wq (WCell.ground (List.getD (WShore.cells s) (Int.toNat i) default) + WWork.rise (List.getD (WShore.works s) (Int.toNat (List.getD plan (Int.toNat i) default)) default)) = WCell.ground (List.getD (WShore.cells s) (Int.toNat i) default) + WWork.rise (List.getD (WShore.works s) (Int.toNat (List.getD plan (Int.toNat i) default)) default), i = (↑(Int.toNat i) : Int) ∧ Int.toNat i < List.length (WShore.cells s) ∧ Array.extract (rowL encWCell (WShore.cells s)) (Int.toNat i * TypeInfo.size Try.t59) (Int.toNat i * TypeInfo.size Try.t59 + TypeInfo.size Try.t59) = (rPlay_z1 s i), wq (lv - List.getD (WTruth.drags t) (Int.toNat i) default - WWork.calm (List.getD (WShore.works s) (Int.toNat (List.getD plan (Int.toNat i) default)) default)) = lv - List.getD (WTruth.drags t) (Int.toNat i) default - WWork.calm (List.getD (WShore.works s) (Int.toNat (List.getD plan (Int.toNat i) default)) default), wq (lv - List.getD (WTruth.drags t) (Int.toNat i) default) = lv - List.getD (WTruth.drags t) (Int.toNat i) default, i = (↑(Int.toNat i) : Int) ∧ Int.toNat i < List.length (WTruth.drags t) ∧ Array.extract (rowL encI (WTruth.drags t)) (Int.toNat i * TypeInfo.size Try.t3) (Int.toNat i * TypeInfo.size Try.t3 + TypeInfo.size Try.t3) = (rPlay_z2 t i), List.getD plan (Int.toNat i) default = (↑(Int.toNat (List.getD plan (Int.toNat i) default)) : Int) ∧ Int.toNat (List.getD plan (Int.toNat i) default) < List.length (WShore.works s) ∧ Array.extract (rowL encWWork (WShore.works s)) (Int.toNat (List.getD plan (Int.toNat i) default) * TypeInfo.size Try.t85) (Int.toNat (List.getD plan (Int.toNat i) default) * TypeInfo.size Try.t85 + TypeInfo.size Try.t85) = (rPlay_z0 s plan i), i = (↑(Int.toNat i) : Int) ∧ Int.toNat i < List.length plan ∧ Array.extract (rowL encI plan) (Int.toNat i * TypeInfo.size Try.t3) (Int.toNat i * TypeInfo.size Try.t3 + TypeInfo.size Try.t3) = #[Value.int IntKind.i64 (List.getD plan (Int.toNat i) default)], (!ltq (List.getD plan (Int.toNat i) default) 0) = true] ++ rPlay_p0 B s plan t lv i dJ0
noncomputable def rPlay_q1 (s : WShore) (plan : List Int) (t : WTruth) (lv : Int)  (i : Int) (dJ0 : Nat → Value) : ScriptT := rPlay_q0 s plan t lv i dJ0 ++ [(12, hvT), (17, HintT.tidx (Int.toNat i) #[Value.int IntKind.i64 (List.getD plan (Int.toNat i) default)]), (19, HintT.tidx (Int.toNat (List.getD plan (Int.toNat i) default)) (rPlay_z0 s plan i)), (26, HintT.tidx (Int.toNat i) (rPlay_z2 t i)), (28, hvI (lv - List.getD (WTruth.drags t) (Int.toNat i) default)), (31, hvI (lv - List.getD (WTruth.drags t) (Int.toNat i) default - WWork.calm (List.getD (WShore.works s) (Int.toNat (List.getD plan (Int.toNat i) default)) default))), (39, HintT.tidx (Int.toNat i) (rPlay_z1 s i)), (44, hvI (WCell.ground (List.getD (WShore.cells s) (Int.toNat i) default) + WWork.rise (List.getD (WShore.works s) (Int.toNat (List.getD plan (Int.toNat i) default)) default)))]
theorem rPlay_s0 (B : Lo) (s : WShore) (plan : List Int) (t : WTruth) (lv : Int)  (i : Int) (dJ0 : Nat → Value) : landM (srunT Try.prog (okFn Try.prog) J0 B 29 1 (headC 28 75 (([1, 3, 5, 7, 8, 9, 10] : List Nat).zip (rPlay_v0 s plan t lv true i)) dJ0 rPlay_t0) (headH (rPlay_o0 s plan t lv true i)) (2 + (rPlay_o0 s plan t lv true i).length)
 (rPlay_q1 s plan t lv i dJ0 ++ [(45, hvT), (54, HintT.tidx (Int.toNat i) (rPlay_z1 s i)), (57, hvI (lv - List.getD (WTruth.drags t) (Int.toNat i) default - WWork.calm (List.getD (WShore.works s) (Int.toNat (List.getD plan (Int.toNat i) default)) default) - WCell.ground (List.getD (WShore.cells s) (Int.toNat i) default))), (65, hvI (i + 1))]) 0 [] []) [1, 3, 5, 7, 8, 9, 10] [(2, KS.auto), (3, KS.auto), (6, KS.cells [] (rowL encI [lv - List.getD (WTruth.drags t) (Int.toNat i) default - WWork.calm (List.getD (WShore.works s) (Int.toNat (List.getD plan (Int.toNat i) default)) default) - WCell.ground (List.getD (WShore.cells s) (Int.toNat i) default)]))] [] = some ⟨28, 75, rPlay_t1, [], .run, none, rPlay_v1 s plan t (lv - List.getD (WTruth.drags t) (Int.toNat i) default - WWork.calm (List.getD (WShore.works s) (Int.toNat (List.getD plan (Int.toNat i) default)) default)) (true) (i + 1) ([lv - List.getD (WTruth.drags t) (Int.toNat i) default - WWork.calm (List.getD (WShore.works s) (Int.toNat (List.getD plan (Int.toNat i) default)) default) - WCell.ground (List.getD (WShore.cells s) (Int.toNat i) default)]) (1), rPlay_o1 s plan t (lv - List.getD (WTruth.drags t) (Int.toNat i) default - WWork.calm (List.getD (WShore.works s) (Int.toNat (List.getD plan (Int.toNat i) default)) default)) (true) (i + 1) ([lv - List.getD (WTruth.drags t) (Int.toNat i) default - WWork.calm (List.getD (WShore.works s) (Int.toNat (List.getD plan (Int.toNat i) default)) default) - WCell.ground (List.getD (WShore.cells s) (Int.toNat i) default)]) (1),
 [CellsM 1 [] (#[Value.int IntKind.i64 (lv - List.getD (WTruth.drags t) (Int.toNat i) default - WWork.calm (List.getD (WShore.works s) (Int.toNat (List.getD plan (Int.toNat i) default)) default) - WCell.ground (List.getD (WShore.cells s) (Int.toNat i) default))]) (rowL encI [lv - List.getD (WTruth.drags t) (Int.toNat i) default - WWork.calm (List.getD (WShore.works s) (Int.toNat (List.getD plan (Int.toNat i) default)) default) - WCell.ground (List.getD (WShore.cells s) (Int.toNat i) default)]), wq (i + 1) = i + 1, wq (lv - List.getD (WTruth.drags t) (Int.toNat i) default - WWork.calm (List.getD (WShore.works s) (Int.toNat (List.getD plan (Int.toNat i) default)) default) - WCell.ground (List.getD (WShore.cells s) (Int.toNat i) default)) = lv - List.getD (WTruth.drags t) (Int.toNat i) default - WWork.calm (List.getD (WShore.works s) (Int.toNat (List.getD plan (Int.toNat i) default)) default) - WCell.ground (List.getD (WShore.cells s) (Int.toNat i) default), i = (↑(Int.toNat i) : Int) ∧ Int.toNat i < List.length (WShore.cells s) ∧ Array.extract (rowL encWCell (WShore.cells s)) (Int.toNat i * TypeInfo.size Try.t59) (Int.toNat i * TypeInfo.size Try.t59 + TypeInfo.size Try.t59) = (rPlay_z1 s i), ltq (WCell.ground (List.getD (WShore.cells s) (Int.toNat i) default) + WWork.rise (List.getD (WShore.works s) (Int.toNat (List.getD plan (Int.toNat i) default)) default)) (lv - List.getD (WTruth.drags t) (Int.toNat i) default - WWork.calm (List.getD (WShore.works s) (Int.toNat (List.getD plan (Int.toNat i) default)) default)) = true] ++ rPlay_p1 B s plan t lv i dJ0⟩ := by kernel_rfl
theorem rPlay_s1 (B : Lo) (s : WShore) (plan : List Int) (t : WTruth) (lv : Int)  (i : Int) (dJ0 : Nat → Value) : landM (srunT Try.prog (okFn Try.prog) J0 B 29 1 (headC 28 75 (([1, 3, 5, 7, 8, 9, 10] : List Nat).zip (rPlay_v0 s plan t lv true i)) dJ0 rPlay_t0) (headH (rPlay_o0 s plan t lv true i)) (2 + (rPlay_o0 s plan t lv true i).length)
 (rPlay_q1 s plan t lv i dJ0 ++ [(45, hvF), (56, hvI (i + 1))]) 0 [] []) [1, 3, 5, 7, 8, 9, 10] [(2, KS.auto), (3, KS.auto), (6, KS.cells [] (rowL encI [0]))] [] = some ⟨28, 75, rPlay_t1, [], .run, none, rPlay_v1 s plan t (lv - List.getD (WTruth.drags t) (Int.toNat i) default - WWork.calm (List.getD (WShore.works s) (Int.toNat (List.getD plan (Int.toNat i) default)) default)) (false) (i + 1) ([0]) (1), rPlay_o1 s plan t (lv - List.getD (WTruth.drags t) (Int.toNat i) default - WWork.calm (List.getD (WShore.works s) (Int.toNat (List.getD plan (Int.toNat i) default)) default)) (false) (i + 1) ([0]) (1),
 [CellsM 1 [] (#[Value.int IntKind.i64 0]) (rowL encI [0]), wq (i + 1) = i + 1, ltq (WCell.ground (List.getD (WShore.cells s) (Int.toNat i) default) + WWork.rise (List.getD (WShore.works s) (Int.toNat (List.getD plan (Int.toNat i) default)) default)) (lv - List.getD (WTruth.drags t) (Int.toNat i) default - WWork.calm (List.getD (WShore.works s) (Int.toNat (List.getD plan (Int.toNat i) default)) default)) = false] ++ rPlay_p1 B s plan t lv i dJ0⟩ := by kernel_rfl
noncomputable def rPlay_p2 (B : Lo) (s : WShore) (plan : List Int) (t : WTruth) (lv : Int)  (i : Int) (dJ0 : Nat → Value) : List Prop := [wq (WCell.ground (List.getD (WShore.cells s) (Int.toNat i) default) + 0) = WCell.ground (List.getD (WShore.cells s) (Int.toNat i) default) + 0, i = (↑(Int.toNat i) : Int) ∧ Int.toNat i < List.length (WShore.cells s) ∧ Array.extract (rowL encWCell (WShore.cells s)) (Int.toNat i * TypeInfo.size Try.t59) (Int.toNat i * TypeInfo.size Try.t59 + TypeInfo.size Try.t59) = (rPlay_z1 s i), wq (lv - List.getD (WTruth.drags t) (Int.toNat i) default - 0) = lv - List.getD (WTruth.drags t) (Int.toNat i) default - 0, wq (lv - List.getD (WTruth.drags t) (Int.toNat i) default) = lv - List.getD (WTruth.drags t) (Int.toNat i) default, i = (↑(Int.toNat i) : Int) ∧ Int.toNat i < List.length (WTruth.drags t) ∧ Array.extract (rowL encI (WTruth.drags t)) (Int.toNat i * TypeInfo.size Try.t3) (Int.toNat i * TypeInfo.size Try.t3 + TypeInfo.size Try.t3) = (rPlay_z2 t i), (!ltq (List.getD plan (Int.toNat i) default) 0) = false] ++ rPlay_p0 B s plan t lv i dJ0
noncomputable def rPlay_q2 (s : WShore) (plan : List Int) (t : WTruth) (lv : Int)  (i : Int) (dJ0 : Nat → Value) : ScriptT := rPlay_q0 s plan t lv i dJ0 ++ [(12, hvF), (17, HintT.tidx (Int.toNat i) (rPlay_z2 t i)), (19, hvI (lv - List.getD (WTruth.drags t) (Int.toNat i) default)), (22, hvI (lv - List.getD (WTruth.drags t) (Int.toNat i) default - 0)), (30, HintT.tidx (Int.toNat i) (rPlay_z1 s i)), (35, hvI (WCell.ground (List.getD (WShore.cells s) (Int.toNat i) default) + 0))]
theorem rPlay_s2 (B : Lo) (s : WShore) (plan : List Int) (t : WTruth) (lv : Int)  (i : Int) (dJ0 : Nat → Value) : landM (srunT Try.prog (okFn Try.prog) J0 B 29 1 (headC 28 75 (([1, 3, 5, 7, 8, 9, 10] : List Nat).zip (rPlay_v0 s plan t lv true i)) dJ0 rPlay_t0) (headH (rPlay_o0 s plan t lv true i)) (2 + (rPlay_o0 s plan t lv true i).length)
 (rPlay_q2 s plan t lv i dJ0 ++ [(36, hvT), (45, HintT.tidx (Int.toNat i) (rPlay_z1 s i)), (48, hvI (lv - List.getD (WTruth.drags t) (Int.toNat i) default - 0 - WCell.ground (List.getD (WShore.cells s) (Int.toNat i) default))), (56, hvI (i + 1))]) 0 [] []) [1, 3, 5, 7, 8, 9, 10] [(2, KS.auto), (3, KS.auto), (6, KS.cells [] (rowL encI [lv - List.getD (WTruth.drags t) (Int.toNat i) default - 0 - WCell.ground (List.getD (WShore.cells s) (Int.toNat i) default)]))] [] = some ⟨28, 75, rPlay_t1, [], .run, none, rPlay_v1 s plan t (lv - List.getD (WTruth.drags t) (Int.toNat i) default - 0) (true) (i + 1) ([lv - List.getD (WTruth.drags t) (Int.toNat i) default - 0 - WCell.ground (List.getD (WShore.cells s) (Int.toNat i) default)]) (1), rPlay_o1 s plan t (lv - List.getD (WTruth.drags t) (Int.toNat i) default - 0) (true) (i + 1) ([lv - List.getD (WTruth.drags t) (Int.toNat i) default - 0 - WCell.ground (List.getD (WShore.cells s) (Int.toNat i) default)]) (1),
 [CellsM 1 [] (#[Value.int IntKind.i64 (lv - List.getD (WTruth.drags t) (Int.toNat i) default - 0 - WCell.ground (List.getD (WShore.cells s) (Int.toNat i) default))]) (rowL encI [lv - List.getD (WTruth.drags t) (Int.toNat i) default - 0 - WCell.ground (List.getD (WShore.cells s) (Int.toNat i) default)]), wq (i + 1) = i + 1, wq (lv - List.getD (WTruth.drags t) (Int.toNat i) default - 0 - WCell.ground (List.getD (WShore.cells s) (Int.toNat i) default)) = lv - List.getD (WTruth.drags t) (Int.toNat i) default - 0 - WCell.ground (List.getD (WShore.cells s) (Int.toNat i) default), i = (↑(Int.toNat i) : Int) ∧ Int.toNat i < List.length (WShore.cells s) ∧ Array.extract (rowL encWCell (WShore.cells s)) (Int.toNat i * TypeInfo.size Try.t59) (Int.toNat i * TypeInfo.size Try.t59 + TypeInfo.size Try.t59) = (rPlay_z1 s i), ltq (WCell.ground (List.getD (WShore.cells s) (Int.toNat i) default) + 0) (lv - List.getD (WTruth.drags t) (Int.toNat i) default - 0) = true] ++ rPlay_p2 B s plan t lv i dJ0⟩ := by kernel_rfl
theorem rPlay_s3 (B : Lo) (s : WShore) (plan : List Int) (t : WTruth) (lv : Int)  (i : Int) (dJ0 : Nat → Value) : landM (srunT Try.prog (okFn Try.prog) J0 B 29 1 (headC 28 75 (([1, 3, 5, 7, 8, 9, 10] : List Nat).zip (rPlay_v0 s plan t lv true i)) dJ0 rPlay_t0) (headH (rPlay_o0 s plan t lv true i)) (2 + (rPlay_o0 s plan t lv true i).length)
 (rPlay_q2 s plan t lv i dJ0 ++ [(36, hvF), (47, hvI (i + 1))]) 0 [] []) [1, 3, 5, 7, 8, 9, 10] [(2, KS.auto), (3, KS.auto), (6, KS.cells [] (rowL encI [0]))] [] = some ⟨28, 75, rPlay_t1, [], .run, none, rPlay_v1 s plan t (lv - List.getD (WTruth.drags t) (Int.toNat i) default - 0) (false) (i + 1) ([0]) (1), rPlay_o1 s plan t (lv - List.getD (WTruth.drags t) (Int.toNat i) default - 0) (false) (i + 1) ([0]) (1),
 [CellsM 1 [] (#[Value.int IntKind.i64 0]) (rowL encI [0]), wq (i + 1) = i + 1, ltq (WCell.ground (List.getD (WShore.cells s) (Int.toNat i) default) + 0) (lv - List.getD (WTruth.drags t) (Int.toNat i) default - 0) = false] ++ rPlay_p2 B s plan t lv i dJ0⟩ := by kernel_rfl
theorem rPlay_s4 (B : Lo) (s : WShore) (plan : List Int) (t : WTruth) (lv : Int)  (i : Int) (dJ0 : Nat → Value) : endT (srunT Try.prog (okFn Try.prog) J0 B 9 1 (headC 28 75 (([1, 3, 5, 7, 8, 9, 10] : List Nat).zip (rPlay_v0 s plan t lv true i)) dJ0 rPlay_t0) (headH (rPlay_o0 s plan t lv true i)) (2 + (rPlay_o0 s plan t lv true i).length)
 [(4, hvF)] 0 [] []) [] = some (slT 0 #[],
 [ltq i (↑(List.length (WShore.cells s)) : Int) = false]) := by kernel_rfl
noncomputable def rPlay_p3 (B : Lo) (s : WShore) (plan : List Int) (t : WTruth) (lv : Int)  (i : Int) (dJ0 : Nat → Value) : List Prop := [i = (↑(Int.toNat i) : Int) ∧ Int.toNat i < List.length plan ∧ Array.extract (rowL encI plan) (Int.toNat i * TypeInfo.size Try.t3) (Int.toNat i * TypeInfo.size Try.t3 + TypeInfo.size Try.t3) = #[Value.int IntKind.i64 (List.getD plan (Int.toNat i) default)], ltq i (↑(List.length (WShore.cells s)) : Int) = true] ++ ([] : List Prop)
noncomputable def rPlay_q3 (s : WShore) (plan : List Int) (t : WTruth) (lv : Int)  (i : Int) (dJ0 : Nat → Value) : ScriptT := [(4, hvT), (10, HintT.tidx (Int.toNat i) #[Value.int IntKind.i64 (List.getD plan (Int.toNat i) default)])]
theorem rPlay_s5 (B : Lo) (s : WShore) (plan : List Int) (t : WTruth) (lv : Int)  (i : Int) (dJ0 : Nat → Value) : landM (srunT Try.prog (okFn Try.prog) J0 B 29 1 (headC 28 75 (([1, 3, 5, 7, 8, 9, 10] : List Nat).zip (rPlay_v0 s plan t lv false i)) dJ0 rPlay_t0) (headH (rPlay_o0 s plan t lv false i)) (2 + (rPlay_o0 s plan t lv false i).length)
 (rPlay_q3 s plan t lv i dJ0 ++ [(12, hvT), (17, HintT.tidx (Int.toNat i) #[Value.int IntKind.i64 (List.getD plan (Int.toNat i) default)]), (19, HintT.tidx (Int.toNat (List.getD plan (Int.toNat i) default)) (rPlay_z0 s plan i)), (26, HintT.tidx (Int.toNat i) (rPlay_z2 t i)), (28, hvI (lv - List.getD (WTruth.drags t) (Int.toNat i) default)), (31, hvI (lv - List.getD (WTruth.drags t) (Int.toNat i) default - WWork.calm (List.getD (WShore.works s) (Int.toNat (List.getD plan (Int.toNat i) default)) default))), (56, hvI (i + 1))]) 0 [] []) [1, 3, 5, 7, 8, 9, 10] [(2, KS.auto), (3, KS.auto), (6, KS.cells [] (rowL encI [0]))] [] = some ⟨28, 75, rPlay_t1, [], .run, none, rPlay_v1 s plan t (lv - List.getD (WTruth.drags t) (Int.toNat i) default - WWork.calm (List.getD (WShore.works s) (Int.toNat (List.getD plan (Int.toNat i) default)) default)) (false) (i + 1) ([0]) (1), rPlay_o1 s plan t (lv - List.getD (WTruth.drags t) (Int.toNat i) default - WWork.calm (List.getD (WShore.works s) (Int.toNat (List.getD plan (Int.toNat i) default)) default)) (false) (i + 1) ([0]) (1),
 [CellsM 1 [] (#[Value.int IntKind.i64 0]) (rowL encI [0]), wq (i + 1) = i + 1, wq (lv - List.getD (WTruth.drags t) (Int.toNat i) default - WWork.calm (List.getD (WShore.works s) (Int.toNat (List.getD plan (Int.toNat i) default)) default)) = lv - List.getD (WTruth.drags t) (Int.toNat i) default - WWork.calm (List.getD (WShore.works s) (Int.toNat (List.getD plan (Int.toNat i) default)) default), wq (lv - List.getD (WTruth.drags t) (Int.toNat i) default) = lv - List.getD (WTruth.drags t) (Int.toNat i) default, i = (↑(Int.toNat i) : Int) ∧ Int.toNat i < List.length (WTruth.drags t) ∧ Array.extract (rowL encI (WTruth.drags t)) (Int.toNat i * TypeInfo.size Try.t3) (Int.toNat i * TypeInfo.size Try.t3 + TypeInfo.size Try.t3) = (rPlay_z2 t i), List.getD plan (Int.toNat i) default = (↑(Int.toNat (List.getD plan (Int.toNat i) default)) : Int) ∧ Int.toNat (List.getD plan (Int.toNat i) default) < List.length (WShore.works s) ∧ Array.extract (rowL encWWork (WShore.works s)) (Int.toNat (List.getD plan (Int.toNat i) default) * TypeInfo.size Try.t85) (Int.toNat (List.getD plan (Int.toNat i) default) * TypeInfo.size Try.t85 + TypeInfo.size Try.t85) = (rPlay_z0 s plan i), i = (↑(Int.toNat i) : Int) ∧ Int.toNat i < List.length plan ∧ Array.extract (rowL encI plan) (Int.toNat i * TypeInfo.size Try.t3) (Int.toNat i * TypeInfo.size Try.t3 + TypeInfo.size Try.t3) = #[Value.int IntKind.i64 (List.getD plan (Int.toNat i) default)], (!ltq (List.getD plan (Int.toNat i) default) 0) = true] ++ rPlay_p3 B s plan t lv i dJ0⟩ := by kernel_rfl
theorem rPlay_s6 (B : Lo) (s : WShore) (plan : List Int) (t : WTruth) (lv : Int)  (i : Int) (dJ0 : Nat → Value) : landM (srunT Try.prog (okFn Try.prog) J0 B 29 1 (headC 28 75 (([1, 3, 5, 7, 8, 9, 10] : List Nat).zip (rPlay_v0 s plan t lv false i)) dJ0 rPlay_t0) (headH (rPlay_o0 s plan t lv false i)) (2 + (rPlay_o0 s plan t lv false i).length)
 (rPlay_q3 s plan t lv i dJ0 ++ [(12, hvF), (17, HintT.tidx (Int.toNat i) (rPlay_z2 t i)), (19, hvI (lv - List.getD (WTruth.drags t) (Int.toNat i) default)), (22, hvI (lv - List.getD (WTruth.drags t) (Int.toNat i) default - 0)), (47, hvI (i + 1))]) 0 [] []) [1, 3, 5, 7, 8, 9, 10] [(2, KS.auto), (3, KS.auto), (6, KS.cells [] (rowL encI [0]))] [] = some ⟨28, 75, rPlay_t1, [], .run, none, rPlay_v1 s plan t (lv - List.getD (WTruth.drags t) (Int.toNat i) default - 0) (false) (i + 1) ([0]) (1), rPlay_o1 s plan t (lv - List.getD (WTruth.drags t) (Int.toNat i) default - 0) (false) (i + 1) ([0]) (1),
 [CellsM 1 [] (#[Value.int IntKind.i64 0]) (rowL encI [0]), wq (i + 1) = i + 1, wq (lv - List.getD (WTruth.drags t) (Int.toNat i) default - 0) = lv - List.getD (WTruth.drags t) (Int.toNat i) default - 0, wq (lv - List.getD (WTruth.drags t) (Int.toNat i) default) = lv - List.getD (WTruth.drags t) (Int.toNat i) default, i = (↑(Int.toNat i) : Int) ∧ Int.toNat i < List.length (WTruth.drags t) ∧ Array.extract (rowL encI (WTruth.drags t)) (Int.toNat i * TypeInfo.size Try.t3) (Int.toNat i * TypeInfo.size Try.t3 + TypeInfo.size Try.t3) = (rPlay_z2 t i), (!ltq (List.getD plan (Int.toNat i) default) 0) = false] ++ rPlay_p3 B s plan t lv i dJ0⟩ := by kernel_rfl
theorem rPlay_s7 (B : Lo) (s : WShore) (plan : List Int) (t : WTruth) (lv : Int)  (i : Int) (dJ0 : Nat → Value) : endT (srunT Try.prog (okFn Try.prog) J0 B 9 1 (headC 28 75 (([1, 3, 5, 7, 8, 9, 10] : List Nat).zip (rPlay_v0 s plan t lv false i)) dJ0 rPlay_t0) (headH (rPlay_o0 s plan t lv false i)) (2 + (rPlay_o0 s plan t lv false i).length)
 [(4, hvF)] 0 [] []) [] = some (slT 0 #[],
 [ltq i (↑(List.length (WShore.cells s)) : Int) = false]) := by kernel_rfl
noncomputable def rPlay_p4 (B : Lo) (s : WShore) (plan : List Int) (t : WTruth) (lv : Int)  (i : Int) (out : List Int) (out_n : Nat) (dJ0 : Nat → Value) : List Prop := [i = (↑(Int.toNat i) : Int) ∧ Int.toNat i < List.length plan ∧ Array.extract (rowL encI plan) (Int.toNat i * TypeInfo.size Try.t3) (Int.toNat i * TypeInfo.size Try.t3 + TypeInfo.size Try.t3) = #[Value.int IntKind.i64 (List.getD plan (Int.toNat i) default)], ltq i (↑(List.length (WShore.cells s)) : Int) = true] ++ ([] : List Prop)
noncomputable def rPlay_q4 (s : WShore) (plan : List Int) (t : WTruth) (lv : Int)  (i : Int) (out : List Int) (out_n : Nat) (dJ0 : Nat → Value) : ScriptT := [(4, hvT), (10, HintT.tidx (Int.toNat i) #[Value.int IntKind.i64 (List.getD plan (Int.toNat i) default)])]
noncomputable def rPlay_p5 (B : Lo) (s : WShore) (plan : List Int) (t : WTruth) (lv : Int)  (i : Int) (out : List Int) (out_n : Nat) (dJ0 : Nat → Value) : List Prop := [wq (WCell.ground (List.getD (WShore.cells s) (Int.toNat i) default) + WWork.rise (List.getD (WShore.works s) (Int.toNat (List.getD plan (Int.toNat i) default)) default)) = WCell.ground (List.getD (WShore.cells s) (Int.toNat i) default) + WWork.rise (List.getD (WShore.works s) (Int.toNat (List.getD plan (Int.toNat i) default)) default), i = (↑(Int.toNat i) : Int) ∧ Int.toNat i < List.length (WShore.cells s) ∧ Array.extract (rowL encWCell (WShore.cells s)) (Int.toNat i * TypeInfo.size Try.t59) (Int.toNat i * TypeInfo.size Try.t59 + TypeInfo.size Try.t59) = (rPlay_z1 s i), wq (lv - List.getD (WTruth.drags t) (Int.toNat i) default - WWork.calm (List.getD (WShore.works s) (Int.toNat (List.getD plan (Int.toNat i) default)) default)) = lv - List.getD (WTruth.drags t) (Int.toNat i) default - WWork.calm (List.getD (WShore.works s) (Int.toNat (List.getD plan (Int.toNat i) default)) default), wq (lv - List.getD (WTruth.drags t) (Int.toNat i) default) = lv - List.getD (WTruth.drags t) (Int.toNat i) default, i = (↑(Int.toNat i) : Int) ∧ Int.toNat i < List.length (WTruth.drags t) ∧ Array.extract (rowL encI (WTruth.drags t)) (Int.toNat i * TypeInfo.size Try.t3) (Int.toNat i * TypeInfo.size Try.t3 + TypeInfo.size Try.t3) = (rPlay_z2 t i), List.getD plan (Int.toNat i) default = (↑(Int.toNat (List.getD plan (Int.toNat i) default)) : Int) ∧ Int.toNat (List.getD plan (Int.toNat i) default) < List.length (WShore.works s) ∧ Array.extract (rowL encWWork (WShore.works s)) (Int.toNat (List.getD plan (Int.toNat i) default) * TypeInfo.size Try.t85) (Int.toNat (List.getD plan (Int.toNat i) default) * TypeInfo.size Try.t85 + TypeInfo.size Try.t85) = (rPlay_z0 s plan i), i = (↑(Int.toNat i) : Int) ∧ Int.toNat i < List.length plan ∧ Array.extract (rowL encI plan) (Int.toNat i * TypeInfo.size Try.t3) (Int.toNat i * TypeInfo.size Try.t3 + TypeInfo.size Try.t3) = #[Value.int IntKind.i64 (List.getD plan (Int.toNat i) default)], (!ltq (List.getD plan (Int.toNat i) default) 0) = true] ++ rPlay_p4 B s plan t lv i out out_n dJ0
noncomputable def rPlay_q5 (s : WShore) (plan : List Int) (t : WTruth) (lv : Int)  (i : Int) (out : List Int) (out_n : Nat) (dJ0 : Nat → Value) : ScriptT := rPlay_q4 s plan t lv i out out_n dJ0 ++ [(12, hvT), (17, HintT.tidx (Int.toNat i) #[Value.int IntKind.i64 (List.getD plan (Int.toNat i) default)]), (19, HintT.tidx (Int.toNat (List.getD plan (Int.toNat i) default)) (rPlay_z0 s plan i)), (26, HintT.tidx (Int.toNat i) (rPlay_z2 t i)), (28, hvI (lv - List.getD (WTruth.drags t) (Int.toNat i) default)), (31, hvI (lv - List.getD (WTruth.drags t) (Int.toNat i) default - WWork.calm (List.getD (WShore.works s) (Int.toNat (List.getD plan (Int.toNat i) default)) default))), (39, HintT.tidx (Int.toNat i) (rPlay_z1 s i)), (44, hvI (WCell.ground (List.getD (WShore.cells s) (Int.toNat i) default) + WWork.rise (List.getD (WShore.works s) (Int.toNat (List.getD plan (Int.toNat i) default)) default)))]
theorem rPlay_s8 (B : Lo) (s : WShore) (plan : List Int) (t : WTruth) (lv : Int)  (i : Int) (out : List Int) (out_n : Nat) (dJ0 : Nat → Value) : landM (srunT Try.prog (okFn Try.prog) J0 B 29 1 (headC 28 75 (([1, 3, 5, 7, 8, 9, 10] : List Nat).zip (rPlay_v1 s plan t lv true i out out_n)) dJ0 rPlay_t1) (headH (rPlay_o1 s plan t lv true i out out_n)) (2 + (rPlay_o1 s plan t lv true i out out_n).length)
 (rPlay_q5 s plan t lv i out out_n dJ0 ++ [(45, hvT), (54, HintT.tidx (Int.toNat i) (rPlay_z1 s i)), (57, hvI (lv - List.getD (WTruth.drags t) (Int.toNat i) default - WWork.calm (List.getD (WShore.works s) (Int.toNat (List.getD plan (Int.toNat i) default)) default) - WCell.ground (List.getD (WShore.cells s) (Int.toNat i) default))), (62, HintT.old (Hint.app (rowL encI (out ++ [lv - List.getD (WTruth.drags t) (Int.toNat i) default - WWork.calm (List.getD (WShore.works s) (Int.toNat (List.getD plan (Int.toNat i) default)) default) - WCell.ground (List.getD (WShore.cells s) (Int.toNat i) default)])))), (65, hvI (i + 1))]) 0 [] []) [1, 3, 5, 7, 8, 9, 10] [(2, KS.auto), (3, KS.auto), (7, KS.cells [] (rowL encI (out ++ [lv - List.getD (WTruth.drags t) (Int.toNat i) default - WWork.calm (List.getD (WShore.works s) (Int.toNat (List.getD plan (Int.toNat i) default)) default) - WCell.ground (List.getD (WShore.cells s) (Int.toNat i) default)])))] [] = some ⟨28, 75, rPlay_t1, [], .run, none, rPlay_v1 s plan t (lv - List.getD (WTruth.drags t) (Int.toNat i) default - WWork.calm (List.getD (WShore.works s) (Int.toNat (List.getD plan (Int.toNat i) default)) default)) (true) (i + 1) (out ++ [lv - List.getD (WTruth.drags t) (Int.toNat i) default - WWork.calm (List.getD (WShore.works s) (Int.toNat (List.getD plan (Int.toNat i) default)) default) - WCell.ground (List.getD (WShore.cells s) (Int.toNat i) default)]) (out_n + 1), rPlay_o1 s plan t (lv - List.getD (WTruth.drags t) (Int.toNat i) default - WWork.calm (List.getD (WShore.works s) (Int.toNat (List.getD plan (Int.toNat i) default)) default)) (true) (i + 1) (out ++ [lv - List.getD (WTruth.drags t) (Int.toNat i) default - WWork.calm (List.getD (WShore.works s) (Int.toNat (List.getD plan (Int.toNat i) default)) default) - WCell.ground (List.getD (WShore.cells s) (Int.toNat i) default)]) (out_n + 1),
 [CellsM 1 [] (rowL encI (out ++ [lv - List.getD (WTruth.drags t) (Int.toNat i) default - WWork.calm (List.getD (WShore.works s) (Int.toNat (List.getD plan (Int.toNat i) default)) default) - WCell.ground (List.getD (WShore.cells s) (Int.toNat i) default)])) (rowL encI (out ++ [lv - List.getD (WTruth.drags t) (Int.toNat i) default - WWork.calm (List.getD (WShore.works s) (Int.toNat (List.getD plan (Int.toNat i) default)) default) - WCell.ground (List.getD (WShore.cells s) (Int.toNat i) default)])), wq (i + 1) = i + 1, Array.size (rowL encI out) = out_n * (0 + 1) ∧ out_n + 1 ≤ maxLen ∧ (out_n + 1) * 8 ≤ 140737488355328 ∧ rowL encI out ++ #[Value.int IntKind.i64 (lv - List.getD (WTruth.drags t) (Int.toNat i) default - WWork.calm (List.getD (WShore.works s) (Int.toNat (List.getD plan (Int.toNat i) default)) default) - WCell.ground (List.getD (WShore.cells s) (Int.toNat i) default))] = rowL encI (out ++ [lv - List.getD (WTruth.drags t) (Int.toNat i) default - WWork.calm (List.getD (WShore.works s) (Int.toNat (List.getD plan (Int.toNat i) default)) default) - WCell.ground (List.getD (WShore.cells s) (Int.toNat i) default)]), wq (lv - List.getD (WTruth.drags t) (Int.toNat i) default - WWork.calm (List.getD (WShore.works s) (Int.toNat (List.getD plan (Int.toNat i) default)) default) - WCell.ground (List.getD (WShore.cells s) (Int.toNat i) default)) = lv - List.getD (WTruth.drags t) (Int.toNat i) default - WWork.calm (List.getD (WShore.works s) (Int.toNat (List.getD plan (Int.toNat i) default)) default) - WCell.ground (List.getD (WShore.cells s) (Int.toNat i) default), i = (↑(Int.toNat i) : Int) ∧ Int.toNat i < List.length (WShore.cells s) ∧ Array.extract (rowL encWCell (WShore.cells s)) (Int.toNat i * TypeInfo.size Try.t59) (Int.toNat i * TypeInfo.size Try.t59 + TypeInfo.size Try.t59) = (rPlay_z1 s i), ltq (WCell.ground (List.getD (WShore.cells s) (Int.toNat i) default) + WWork.rise (List.getD (WShore.works s) (Int.toNat (List.getD plan (Int.toNat i) default)) default)) (lv - List.getD (WTruth.drags t) (Int.toNat i) default - WWork.calm (List.getD (WShore.works s) (Int.toNat (List.getD plan (Int.toNat i) default)) default)) = true] ++ rPlay_p5 B s plan t lv i out out_n dJ0⟩ := by kernel_rfl
theorem rPlay_s9 (B : Lo) (s : WShore) (plan : List Int) (t : WTruth) (lv : Int)  (i : Int) (out : List Int) (out_n : Nat) (dJ0 : Nat → Value) : landM (srunT Try.prog (okFn Try.prog) J0 B 29 1 (headC 28 75 (([1, 3, 5, 7, 8, 9, 10] : List Nat).zip (rPlay_v1 s plan t lv true i out out_n)) dJ0 rPlay_t1) (headH (rPlay_o1 s plan t lv true i out out_n)) (2 + (rPlay_o1 s plan t lv true i out out_n).length)
 (rPlay_q5 s plan t lv i out out_n dJ0 ++ [(45, hvF), (53, HintT.old (Hint.app (rowL encI (out ++ [0])))), (56, hvI (i + 1))]) 0 [] []) [1, 3, 5, 7, 8, 9, 10] [(2, KS.auto), (3, KS.auto), (7, KS.cells [] (rowL encI (out ++ [0])))] [] = some ⟨28, 75, rPlay_t1, [], .run, none, rPlay_v1 s plan t (lv - List.getD (WTruth.drags t) (Int.toNat i) default - WWork.calm (List.getD (WShore.works s) (Int.toNat (List.getD plan (Int.toNat i) default)) default)) (false) (i + 1) (out ++ [0]) (out_n + 1), rPlay_o1 s plan t (lv - List.getD (WTruth.drags t) (Int.toNat i) default - WWork.calm (List.getD (WShore.works s) (Int.toNat (List.getD plan (Int.toNat i) default)) default)) (false) (i + 1) (out ++ [0]) (out_n + 1),
 [CellsM 1 [] (rowL encI (out ++ [0])) (rowL encI (out ++ [0])), wq (i + 1) = i + 1, Array.size (rowL encI out) = out_n * (0 + 1) ∧ out_n + 1 ≤ maxLen ∧ (out_n + 1) * 8 ≤ 140737488355328 ∧ rowL encI out ++ #[Value.int IntKind.i64 0] = rowL encI (out ++ [0]), ltq (WCell.ground (List.getD (WShore.cells s) (Int.toNat i) default) + WWork.rise (List.getD (WShore.works s) (Int.toNat (List.getD plan (Int.toNat i) default)) default)) (lv - List.getD (WTruth.drags t) (Int.toNat i) default - WWork.calm (List.getD (WShore.works s) (Int.toNat (List.getD plan (Int.toNat i) default)) default)) = false] ++ rPlay_p5 B s plan t lv i out out_n dJ0⟩ := by kernel_rfl
noncomputable def rPlay_p6 (B : Lo) (s : WShore) (plan : List Int) (t : WTruth) (lv : Int)  (i : Int) (out : List Int) (out_n : Nat) (dJ0 : Nat → Value) : List Prop := [wq (WCell.ground (List.getD (WShore.cells s) (Int.toNat i) default) + 0) = WCell.ground (List.getD (WShore.cells s) (Int.toNat i) default) + 0, i = (↑(Int.toNat i) : Int) ∧ Int.toNat i < List.length (WShore.cells s) ∧ Array.extract (rowL encWCell (WShore.cells s)) (Int.toNat i * TypeInfo.size Try.t59) (Int.toNat i * TypeInfo.size Try.t59 + TypeInfo.size Try.t59) = (rPlay_z1 s i), wq (lv - List.getD (WTruth.drags t) (Int.toNat i) default - 0) = lv - List.getD (WTruth.drags t) (Int.toNat i) default - 0, wq (lv - List.getD (WTruth.drags t) (Int.toNat i) default) = lv - List.getD (WTruth.drags t) (Int.toNat i) default, i = (↑(Int.toNat i) : Int) ∧ Int.toNat i < List.length (WTruth.drags t) ∧ Array.extract (rowL encI (WTruth.drags t)) (Int.toNat i * TypeInfo.size Try.t3) (Int.toNat i * TypeInfo.size Try.t3 + TypeInfo.size Try.t3) = (rPlay_z2 t i), (!ltq (List.getD plan (Int.toNat i) default) 0) = false] ++ rPlay_p4 B s plan t lv i out out_n dJ0
noncomputable def rPlay_q6 (s : WShore) (plan : List Int) (t : WTruth) (lv : Int)  (i : Int) (out : List Int) (out_n : Nat) (dJ0 : Nat → Value) : ScriptT := rPlay_q4 s plan t lv i out out_n dJ0 ++ [(12, hvF), (17, HintT.tidx (Int.toNat i) (rPlay_z2 t i)), (19, hvI (lv - List.getD (WTruth.drags t) (Int.toNat i) default)), (22, hvI (lv - List.getD (WTruth.drags t) (Int.toNat i) default - 0)), (30, HintT.tidx (Int.toNat i) (rPlay_z1 s i)), (35, hvI (WCell.ground (List.getD (WShore.cells s) (Int.toNat i) default) + 0))]
theorem rPlay_s10 (B : Lo) (s : WShore) (plan : List Int) (t : WTruth) (lv : Int)  (i : Int) (out : List Int) (out_n : Nat) (dJ0 : Nat → Value) : landM (srunT Try.prog (okFn Try.prog) J0 B 29 1 (headC 28 75 (([1, 3, 5, 7, 8, 9, 10] : List Nat).zip (rPlay_v1 s plan t lv true i out out_n)) dJ0 rPlay_t1) (headH (rPlay_o1 s plan t lv true i out out_n)) (2 + (rPlay_o1 s plan t lv true i out out_n).length)
 (rPlay_q6 s plan t lv i out out_n dJ0 ++ [(36, hvT), (45, HintT.tidx (Int.toNat i) (rPlay_z1 s i)), (48, hvI (lv - List.getD (WTruth.drags t) (Int.toNat i) default - 0 - WCell.ground (List.getD (WShore.cells s) (Int.toNat i) default))), (53, HintT.old (Hint.app (rowL encI (out ++ [lv - List.getD (WTruth.drags t) (Int.toNat i) default - 0 - WCell.ground (List.getD (WShore.cells s) (Int.toNat i) default)])))), (56, hvI (i + 1))]) 0 [] []) [1, 3, 5, 7, 8, 9, 10] [(2, KS.auto), (3, KS.auto), (7, KS.cells [] (rowL encI (out ++ [lv - List.getD (WTruth.drags t) (Int.toNat i) default - 0 - WCell.ground (List.getD (WShore.cells s) (Int.toNat i) default)])))] [] = some ⟨28, 75, rPlay_t1, [], .run, none, rPlay_v1 s plan t (lv - List.getD (WTruth.drags t) (Int.toNat i) default - 0) (true) (i + 1) (out ++ [lv - List.getD (WTruth.drags t) (Int.toNat i) default - 0 - WCell.ground (List.getD (WShore.cells s) (Int.toNat i) default)]) (out_n + 1), rPlay_o1 s plan t (lv - List.getD (WTruth.drags t) (Int.toNat i) default - 0) (true) (i + 1) (out ++ [lv - List.getD (WTruth.drags t) (Int.toNat i) default - 0 - WCell.ground (List.getD (WShore.cells s) (Int.toNat i) default)]) (out_n + 1),
 [CellsM 1 [] (rowL encI (out ++ [lv - List.getD (WTruth.drags t) (Int.toNat i) default - 0 - WCell.ground (List.getD (WShore.cells s) (Int.toNat i) default)])) (rowL encI (out ++ [lv - List.getD (WTruth.drags t) (Int.toNat i) default - 0 - WCell.ground (List.getD (WShore.cells s) (Int.toNat i) default)])), wq (i + 1) = i + 1, Array.size (rowL encI out) = out_n * (0 + 1) ∧ out_n + 1 ≤ maxLen ∧ (out_n + 1) * 8 ≤ 140737488355328 ∧ rowL encI out ++ #[Value.int IntKind.i64 (lv - List.getD (WTruth.drags t) (Int.toNat i) default - 0 - WCell.ground (List.getD (WShore.cells s) (Int.toNat i) default))] = rowL encI (out ++ [lv - List.getD (WTruth.drags t) (Int.toNat i) default - 0 - WCell.ground (List.getD (WShore.cells s) (Int.toNat i) default)]), wq (lv - List.getD (WTruth.drags t) (Int.toNat i) default - 0 - WCell.ground (List.getD (WShore.cells s) (Int.toNat i) default)) = lv - List.getD (WTruth.drags t) (Int.toNat i) default - 0 - WCell.ground (List.getD (WShore.cells s) (Int.toNat i) default), i = (↑(Int.toNat i) : Int) ∧ Int.toNat i < List.length (WShore.cells s) ∧ Array.extract (rowL encWCell (WShore.cells s)) (Int.toNat i * TypeInfo.size Try.t59) (Int.toNat i * TypeInfo.size Try.t59 + TypeInfo.size Try.t59) = (rPlay_z1 s i), ltq (WCell.ground (List.getD (WShore.cells s) (Int.toNat i) default) + 0) (lv - List.getD (WTruth.drags t) (Int.toNat i) default - 0) = true] ++ rPlay_p6 B s plan t lv i out out_n dJ0⟩ := by kernel_rfl
theorem rPlay_s11 (B : Lo) (s : WShore) (plan : List Int) (t : WTruth) (lv : Int)  (i : Int) (out : List Int) (out_n : Nat) (dJ0 : Nat → Value) : landM (srunT Try.prog (okFn Try.prog) J0 B 29 1 (headC 28 75 (([1, 3, 5, 7, 8, 9, 10] : List Nat).zip (rPlay_v1 s plan t lv true i out out_n)) dJ0 rPlay_t1) (headH (rPlay_o1 s plan t lv true i out out_n)) (2 + (rPlay_o1 s plan t lv true i out out_n).length)
 (rPlay_q6 s plan t lv i out out_n dJ0 ++ [(36, hvF), (44, HintT.old (Hint.app (rowL encI (out ++ [0])))), (47, hvI (i + 1))]) 0 [] []) [1, 3, 5, 7, 8, 9, 10] [(2, KS.auto), (3, KS.auto), (7, KS.cells [] (rowL encI (out ++ [0])))] [] = some ⟨28, 75, rPlay_t1, [], .run, none, rPlay_v1 s plan t (lv - List.getD (WTruth.drags t) (Int.toNat i) default - 0) (false) (i + 1) (out ++ [0]) (out_n + 1), rPlay_o1 s plan t (lv - List.getD (WTruth.drags t) (Int.toNat i) default - 0) (false) (i + 1) (out ++ [0]) (out_n + 1),
 [CellsM 1 [] (rowL encI (out ++ [0])) (rowL encI (out ++ [0])), wq (i + 1) = i + 1, Array.size (rowL encI out) = out_n * (0 + 1) ∧ out_n + 1 ≤ maxLen ∧ (out_n + 1) * 8 ≤ 140737488355328 ∧ rowL encI out ++ #[Value.int IntKind.i64 0] = rowL encI (out ++ [0]), ltq (WCell.ground (List.getD (WShore.cells s) (Int.toNat i) default) + 0) (lv - List.getD (WTruth.drags t) (Int.toNat i) default - 0) = false] ++ rPlay_p6 B s plan t lv i out out_n dJ0⟩ := by kernel_rfl
theorem rPlay_s12 (B : Lo) (s : WShore) (plan : List Int) (t : WTruth) (lv : Int)  (i : Int) (out : List Int) (out_n : Nat) (dJ0 : Nat → Value) : endT (srunT Try.prog (okFn Try.prog) J0 B 9 1 (headC 28 75 (([1, 3, 5, 7, 8, 9, 10] : List Nat).zip (rPlay_v1 s plan t lv true i out out_n)) dJ0 rPlay_t1) (headH (rPlay_o1 s plan t lv true i out out_n)) (2 + (rPlay_o1 s plan t lv true i out out_n).length)
 [(4, hvF)] 0 [] []) [{ k := 4, rs := [], cs := rowL encI out }] = some (slT out_n (Fz.cs { k := 4, rs := [], cs := rowL encI out }),
 [CellsT (Fz.rs { k := 4, rs := [], cs := rowL encI out }) (rowL encI out) (Fz.cs { k := 4, rs := [], cs := rowL encI out }), ltq i (↑(List.length (WShore.cells s)) : Int) = false]) := by kernel_rfl
noncomputable def rPlay_p7 (B : Lo) (s : WShore) (plan : List Int) (t : WTruth) (lv : Int)  (i : Int) (out : List Int) (out_n : Nat) (dJ0 : Nat → Value) : List Prop := [i = (↑(Int.toNat i) : Int) ∧ Int.toNat i < List.length plan ∧ Array.extract (rowL encI plan) (Int.toNat i * TypeInfo.size Try.t3) (Int.toNat i * TypeInfo.size Try.t3 + TypeInfo.size Try.t3) = #[Value.int IntKind.i64 (List.getD plan (Int.toNat i) default)], ltq i (↑(List.length (WShore.cells s)) : Int) = true] ++ ([] : List Prop)
noncomputable def rPlay_q7 (s : WShore) (plan : List Int) (t : WTruth) (lv : Int)  (i : Int) (out : List Int) (out_n : Nat) (dJ0 : Nat → Value) : ScriptT := [(4, hvT), (10, HintT.tidx (Int.toNat i) #[Value.int IntKind.i64 (List.getD plan (Int.toNat i) default)])]
theorem rPlay_s13 (B : Lo) (s : WShore) (plan : List Int) (t : WTruth) (lv : Int)  (i : Int) (out : List Int) (out_n : Nat) (dJ0 : Nat → Value) : landM (srunT Try.prog (okFn Try.prog) J0 B 29 1 (headC 28 75 (([1, 3, 5, 7, 8, 9, 10] : List Nat).zip (rPlay_v1 s plan t lv false i out out_n)) dJ0 rPlay_t1) (headH (rPlay_o1 s plan t lv false i out out_n)) (2 + (rPlay_o1 s plan t lv false i out out_n).length)
 (rPlay_q7 s plan t lv i out out_n dJ0 ++ [(12, hvT), (17, HintT.tidx (Int.toNat i) #[Value.int IntKind.i64 (List.getD plan (Int.toNat i) default)]), (19, HintT.tidx (Int.toNat (List.getD plan (Int.toNat i) default)) (rPlay_z0 s plan i)), (26, HintT.tidx (Int.toNat i) (rPlay_z2 t i)), (28, hvI (lv - List.getD (WTruth.drags t) (Int.toNat i) default)), (31, hvI (lv - List.getD (WTruth.drags t) (Int.toNat i) default - WWork.calm (List.getD (WShore.works s) (Int.toNat (List.getD plan (Int.toNat i) default)) default))), (53, HintT.old (Hint.app (rowL encI (out ++ [0])))), (56, hvI (i + 1))]) 0 [] []) [1, 3, 5, 7, 8, 9, 10] [(2, KS.auto), (3, KS.auto), (7, KS.cells [] (rowL encI (out ++ [0])))] [] = some ⟨28, 75, rPlay_t1, [], .run, none, rPlay_v1 s plan t (lv - List.getD (WTruth.drags t) (Int.toNat i) default - WWork.calm (List.getD (WShore.works s) (Int.toNat (List.getD plan (Int.toNat i) default)) default)) (false) (i + 1) (out ++ [0]) (out_n + 1), rPlay_o1 s plan t (lv - List.getD (WTruth.drags t) (Int.toNat i) default - WWork.calm (List.getD (WShore.works s) (Int.toNat (List.getD plan (Int.toNat i) default)) default)) (false) (i + 1) (out ++ [0]) (out_n + 1),
 [CellsM 1 [] (rowL encI (out ++ [0])) (rowL encI (out ++ [0])), wq (i + 1) = i + 1, Array.size (rowL encI out) = out_n * (0 + 1) ∧ out_n + 1 ≤ maxLen ∧ (out_n + 1) * 8 ≤ 140737488355328 ∧ rowL encI out ++ #[Value.int IntKind.i64 0] = rowL encI (out ++ [0]), wq (lv - List.getD (WTruth.drags t) (Int.toNat i) default - WWork.calm (List.getD (WShore.works s) (Int.toNat (List.getD plan (Int.toNat i) default)) default)) = lv - List.getD (WTruth.drags t) (Int.toNat i) default - WWork.calm (List.getD (WShore.works s) (Int.toNat (List.getD plan (Int.toNat i) default)) default), wq (lv - List.getD (WTruth.drags t) (Int.toNat i) default) = lv - List.getD (WTruth.drags t) (Int.toNat i) default, i = (↑(Int.toNat i) : Int) ∧ Int.toNat i < List.length (WTruth.drags t) ∧ Array.extract (rowL encI (WTruth.drags t)) (Int.toNat i * TypeInfo.size Try.t3) (Int.toNat i * TypeInfo.size Try.t3 + TypeInfo.size Try.t3) = (rPlay_z2 t i), List.getD plan (Int.toNat i) default = (↑(Int.toNat (List.getD plan (Int.toNat i) default)) : Int) ∧ Int.toNat (List.getD plan (Int.toNat i) default) < List.length (WShore.works s) ∧ Array.extract (rowL encWWork (WShore.works s)) (Int.toNat (List.getD plan (Int.toNat i) default) * TypeInfo.size Try.t85) (Int.toNat (List.getD plan (Int.toNat i) default) * TypeInfo.size Try.t85 + TypeInfo.size Try.t85) = (rPlay_z0 s plan i), i = (↑(Int.toNat i) : Int) ∧ Int.toNat i < List.length plan ∧ Array.extract (rowL encI plan) (Int.toNat i * TypeInfo.size Try.t3) (Int.toNat i * TypeInfo.size Try.t3 + TypeInfo.size Try.t3) = #[Value.int IntKind.i64 (List.getD plan (Int.toNat i) default)], (!ltq (List.getD plan (Int.toNat i) default) 0) = true] ++ rPlay_p7 B s plan t lv i out out_n dJ0⟩ := by kernel_rfl
theorem rPlay_s14 (B : Lo) (s : WShore) (plan : List Int) (t : WTruth) (lv : Int)  (i : Int) (out : List Int) (out_n : Nat) (dJ0 : Nat → Value) : landM (srunT Try.prog (okFn Try.prog) J0 B 29 1 (headC 28 75 (([1, 3, 5, 7, 8, 9, 10] : List Nat).zip (rPlay_v1 s plan t lv false i out out_n)) dJ0 rPlay_t1) (headH (rPlay_o1 s plan t lv false i out out_n)) (2 + (rPlay_o1 s plan t lv false i out out_n).length)
 (rPlay_q7 s plan t lv i out out_n dJ0 ++ [(12, hvF), (17, HintT.tidx (Int.toNat i) (rPlay_z2 t i)), (19, hvI (lv - List.getD (WTruth.drags t) (Int.toNat i) default)), (22, hvI (lv - List.getD (WTruth.drags t) (Int.toNat i) default - 0)), (44, HintT.old (Hint.app (rowL encI (out ++ [0])))), (47, hvI (i + 1))]) 0 [] []) [1, 3, 5, 7, 8, 9, 10] [(2, KS.auto), (3, KS.auto), (7, KS.cells [] (rowL encI (out ++ [0])))] [] = some ⟨28, 75, rPlay_t1, [], .run, none, rPlay_v1 s plan t (lv - List.getD (WTruth.drags t) (Int.toNat i) default - 0) (false) (i + 1) (out ++ [0]) (out_n + 1), rPlay_o1 s plan t (lv - List.getD (WTruth.drags t) (Int.toNat i) default - 0) (false) (i + 1) (out ++ [0]) (out_n + 1),
 [CellsM 1 [] (rowL encI (out ++ [0])) (rowL encI (out ++ [0])), wq (i + 1) = i + 1, Array.size (rowL encI out) = out_n * (0 + 1) ∧ out_n + 1 ≤ maxLen ∧ (out_n + 1) * 8 ≤ 140737488355328 ∧ rowL encI out ++ #[Value.int IntKind.i64 0] = rowL encI (out ++ [0]), wq (lv - List.getD (WTruth.drags t) (Int.toNat i) default - 0) = lv - List.getD (WTruth.drags t) (Int.toNat i) default - 0, wq (lv - List.getD (WTruth.drags t) (Int.toNat i) default) = lv - List.getD (WTruth.drags t) (Int.toNat i) default, i = (↑(Int.toNat i) : Int) ∧ Int.toNat i < List.length (WTruth.drags t) ∧ Array.extract (rowL encI (WTruth.drags t)) (Int.toNat i * TypeInfo.size Try.t3) (Int.toNat i * TypeInfo.size Try.t3 + TypeInfo.size Try.t3) = (rPlay_z2 t i), (!ltq (List.getD plan (Int.toNat i) default) 0) = false] ++ rPlay_p7 B s plan t lv i out out_n dJ0⟩ := by kernel_rfl
theorem rPlay_s15 (B : Lo) (s : WShore) (plan : List Int) (t : WTruth) (lv : Int)  (i : Int) (out : List Int) (out_n : Nat) (dJ0 : Nat → Value) : endT (srunT Try.prog (okFn Try.prog) J0 B 9 1 (headC 28 75 (([1, 3, 5, 7, 8, 9, 10] : List Nat).zip (rPlay_v1 s plan t lv false i out out_n)) dJ0 rPlay_t1) (headH (rPlay_o1 s plan t lv false i out out_n)) (2 + (rPlay_o1 s plan t lv false i out out_n).length)
 [(4, hvF)] 0 [] []) [{ k := 4, rs := [], cs := rowL encI out }] = some (slT out_n (Fz.cs { k := 4, rs := [], cs := rowL encI out }),
 [CellsT (Fz.rs { k := 4, rs := [], cs := rowL encI out }) (rowL encI out) (Fz.cs { k := 4, rs := [], cs := rowL encI out }), ltq i (↑(List.length (WShore.cells s)) : Int) = false]) := by kernel_rfl
theorem rPlay_s16 (B : Lo) (s : WShore) (plan : List Int) (t : WTruth) : landM (srunT Try.prog (okFn Try.prog) J0 B 11 1 (entryC Try.prog 28 75 (([.agg (encShore s).toArray, slI plan, .agg (encTruth t).toArray]).map (pushT 0 4))) H00 1
 [(5, HintT.pure (Value.int IntKind.i64 (levelF s t)) [])] 0 [] []) [1, 3, 5, 7, 8, 9, 10] [(1, KS.auto), (2, KS.auto)] [] = some ⟨28, 75, rPlay_t0, [], .run, none, rPlay_v0 s plan t (levelF s t) (true) (0), rPlay_o0 s plan t (levelF s t) (true) (0),
 [AllP [] ∧ PureC Try.prog J0 22 #[Value.agg #[slT (List.length (WShore.cells s)) (rowL encWCell (WShore.cells s)), slT (List.length (WShore.works s)) (rowL encWWork (WShore.works s)), Value.int IntKind.i64 (WShore.reef s), Value.int IntKind.i64 (WShore.llo s), Value.int IntKind.i64 (WShore.lhi s)], Value.agg #[Value.int IntKind.i64 (WTruth.wind t), Value.int IntKind.i64 (WTruth.fetch t), Value.int IntKind.i64 (WTruth.tide t), Value.int IntKind.i64 (WTruth.loss t), slT (List.length (WTruth.drags t)) (rowL encI (WTruth.drags t))]] (Value.int IntKind.i64 (levelF s t))]⟩ := by kernel_rfl
set_option maxHeartbeats 4000000 in
theorem rPlay_ls (s : WShore) (plan : List Int) (t : WTruth) (hs : shoreB s = true) (hp : planB s plan = true) (ht : tOk s t) {B : Lo} (hJ : ∀ w, B.has w → J0 w) {c0 : CF} : ∀ m : Nat, (∀ (lv : Int) (r : Bool) (i : Int), s.cells.length - i.toNat = m → ∀ (h0 : 0 ≤ i) (hv : -5000 - 10000 * i ≤ lv ∧ lv ≤ 15000), rPlay_h0 B c0 s plan t lv r i → EndsT Try.prog B c0 (slI (([] : List Int) ++ playI s plan t (upI i s.cells.length) lv r))) ∧ (∀ (lv : Int) (r : Bool) (i : Int) (out : List Int) (out_n : Nat), s.cells.length - i.toNat = m → ∀ (h0 : 0 ≤ i) (hv : -5000 - 10000 * i ≤ lv ∧ lv ≤ 15000) (hout : out_n = out.length) (houtb : (out_n : Int) ≤ i), rPlay_h1 B c0 s plan t lv r i out out_n → EndsT Try.prog B c0 (slI (out ++ playI s plan t (upI i s.cells.length) lv r))) := by
 intro m0
 induction m0 using Nat.strongRecOn with
 | _ m0 ih0 =>
   refine ⟨?_, ?_⟩
   ·intro lv r i hm0 h0 hv ⟨dJ0, hdJ0, hg0⟩
    have hsf := shore_facts hs
    have hpf := plan_facts hp
    have hlv := level_in ht
    have hsf := shore_facts hs
    have hpf := plan_facts hp
    have hdl := ht.2.2.2.2.1
    cases r with
    | true =>
      by_cases q0 : (i : Int) < ((↑(List.length (WShore.cells s)) : Int))
      ·
       have hp0 : AllP (rPlay_p0 B s plan t lv i dJ0) := by
        have h7 := hpf.2 _ (getD_mem (l := plan) (i := i) h0 (by omega))
        have hw := wk_in hs hp h0 (by omega)
        have hg := gr_in hs h0 (by omega)
        have hd := drag_in ht h0 (by omega)
        unfold gr at hg
        have s2 := playI_cons (s := s) (plan := plan) (t := t) (lv := lv) (r := true) (i := i) (by omega)
        have s3 := playI_cons (s := s) (plan := plan) (t := t) (lv := lv) (r := false) (i := i) (by omega)
        unfold gr at s2
        unfold gr at s3
        exact ⟨⟨by omega, by omega, (rowL_extract (z := 1) (fun _ => rfl) (by omega))⟩, ⟨(ltq_t q0), trivial⟩⟩
       by_cases q1 : (0 : Int) ≤ (List.getD plan (Int.toNat i) default)
       ·
        have hp1 : AllP (rPlay_p1 B s plan t lv i dJ0) := by
         have h7 := hpf.2 _ (getD_mem (l := plan) (i := i) h0 (by omega))
         have hw := wk_in hs hp h0 (by omega)
         have hg := gr_in hs h0 (by omega)
         have hd := drag_in ht h0 (by omega)
         have e1 := wk_pos (s := s) (by assumption)
         rw [e1] at hw
         unfold gr at hg
         have s2 := playI_cons (s := s) (plan := plan) (t := t) (lv := lv) (r := true) (i := i) (by omega)
         have s3 := playI_cons (s := s) (plan := plan) (t := t) (lv := lv) (r := false) (i := i) (by omega)
         rw [e1] at s2
         rw [e1] at s3
         unfold gr at s2
         unfold gr at s3
         exact ⟨(wq_in (by omega) (by omega)), ⟨⟨by omega, by omega, (rowL_extract (z := 4) (fun _ => rfl) (by omega))⟩, ⟨(wq_in (by omega) (by omega)), ⟨(wq_in (by omega) (by omega)), ⟨⟨by omega, by omega, (rowL_extract (z := 1) (fun _ => rfl) (by omega))⟩, ⟨⟨by omega, by omega, (rowL_extract (z := 3) (fun _ => rfl) (by omega))⟩, ⟨⟨by omega, by omega, (rowL_extract (z := 1) (fun _ => rfl) (by omega))⟩, ⟨(nltq_t q1), hp0⟩⟩⟩⟩⟩⟩⟩⟩
        by_cases q2 : (WCell.ground (List.getD (WShore.cells s) (Int.toNat i) default) + WWork.rise (List.getD (WShore.works s) (Int.toNat (List.getD plan (Int.toNat i) default)) default) : Int) < (lv - List.getD (WTruth.drags t) (Int.toNat i) default - WWork.calm (List.getD (WShore.works s) (Int.toNat (List.getD plan (Int.toNat i) default)) default))
        ·
         have h7 := hpf.2 _ (getD_mem (l := plan) (i := i) h0 (by omega))
         have hw := wk_in hs hp h0 (by omega)
         have hg := gr_in hs h0 (by omega)
         have hd := drag_in ht h0 (by omega)
         have e1 := wk_pos (s := s) (by assumption)
         rw [e1] at hw
         unfold gr at hg
         have s2 := playI_cons (s := s) (plan := plan) (t := t) (lv := lv) (r := true) (i := i) (by omega)
         have s3 := playI_cons (s := s) (plan := plan) (t := t) (lv := lv) (r := false) (i := i) (by omega)
         rw [e1] at s2
         rw [e1] at s3
         unfold gr at s2
         unfold gr at s3
         exact ((ih0 _ (by omega)).2 (lv - List.getD (WTruth.drags t) (Int.toNat i) default - WWork.calm (List.getD (WShore.works s) (Int.toNat (List.getD plan (Int.toNat i) default)) default)) (true) (i + 1) ([lv - List.getD (WTruth.drags t) (Int.toNat i) default - WWork.calm (List.getD (WShore.works s) (Int.toNat (List.getD plan (Int.toNat i) default)) default) - WCell.ground (List.getD (WShore.cells s) (Int.toNat i) default)]) (1) rfl (by omega) (by omega) (by (simp_all; done)) (by omega)
          (hg0.landM okF hJ mixed_ok (rPlay_s0 B s plan t lv i dJ0)
          ⟨(cellsM_lit (by kernel_rfl)), ⟨(wq_in (by omega) (by omega)), ⟨(wq_in (by omega) (by omega)), ⟨⟨by omega, by omega, (rowL_extract (z := 4) (fun _ => rfl) (by omega))⟩, ⟨(ltq_t q2), hp1⟩⟩⟩⟩⟩ (by kernel_rfl) (by kernel_rfl))).cast (by (rw [s2, decide_eq_true (by omega)]; simp; done))
        ·
         have h7 := hpf.2 _ (getD_mem (l := plan) (i := i) h0 (by omega))
         have hw := wk_in hs hp h0 (by omega)
         have hg := gr_in hs h0 (by omega)
         have hd := drag_in ht h0 (by omega)
         have e1 := wk_pos (s := s) (by assumption)
         rw [e1] at hw
         unfold gr at hg
         have s2 := playI_cons (s := s) (plan := plan) (t := t) (lv := lv) (r := true) (i := i) (by omega)
         have s3 := playI_cons (s := s) (plan := plan) (t := t) (lv := lv) (r := false) (i := i) (by omega)
         rw [e1] at s2
         rw [e1] at s3
         unfold gr at s2
         unfold gr at s3
         exact ((ih0 _ (by omega)).2 (lv - List.getD (WTruth.drags t) (Int.toNat i) default - WWork.calm (List.getD (WShore.works s) (Int.toNat (List.getD plan (Int.toNat i) default)) default)) (false) (i + 1) ([0]) (1) rfl (by omega) (by omega) (by (simp_all; done)) (by omega)
          (hg0.landM okF hJ mixed_ok (rPlay_s1 B s plan t lv i dJ0)
          ⟨(cellsM_lit (by kernel_rfl)), ⟨(wq_in (by omega) (by omega)), ⟨(ltq_f (Int.not_lt.1 q2)), hp1⟩⟩⟩ (by kernel_rfl) (by kernel_rfl))).cast (by (rw [s2, decide_eq_false (by omega)]; simp; done))
       ·
        have hp2 : AllP (rPlay_p2 B s plan t lv i dJ0) := by
         have h7 := hpf.2 _ (getD_mem (l := plan) (i := i) h0 (by omega))
         have hw := wk_in hs hp h0 (by omega)
         have hg := gr_in hs h0 (by omega)
         have hd := drag_in ht h0 (by omega)
         have e1 := wk_neg (s := s) (by assumption)
         rw [e1] at hw
         unfold gr at hg
         have s2 := playI_cons (s := s) (plan := plan) (t := t) (lv := lv) (r := true) (i := i) (by omega)
         have s3 := playI_cons (s := s) (plan := plan) (t := t) (lv := lv) (r := false) (i := i) (by omega)
         rw [e1] at s2
         rw [e1] at s3
         unfold gr at s2
         unfold gr at s3
         exact ⟨(wq_in (by omega) (by omega)), ⟨⟨by omega, by omega, (rowL_extract (z := 4) (fun _ => rfl) (by omega))⟩, ⟨(wq_in (by omega) (by omega)), ⟨(wq_in (by omega) (by omega)), ⟨⟨by omega, by omega, (rowL_extract (z := 1) (fun _ => rfl) (by omega))⟩, ⟨(nltq_f (Int.not_le.1 q1)), hp0⟩⟩⟩⟩⟩⟩
        by_cases q2 : (WCell.ground (List.getD (WShore.cells s) (Int.toNat i) default) + 0 : Int) < (lv - List.getD (WTruth.drags t) (Int.toNat i) default - 0)
        ·
         have h7 := hpf.2 _ (getD_mem (l := plan) (i := i) h0 (by omega))
         have hw := wk_in hs hp h0 (by omega)
         have hg := gr_in hs h0 (by omega)
         have hd := drag_in ht h0 (by omega)
         have e1 := wk_neg (s := s) (by assumption)
         rw [e1] at hw
         unfold gr at hg
         have s2 := playI_cons (s := s) (plan := plan) (t := t) (lv := lv) (r := true) (i := i) (by omega)
         have s3 := playI_cons (s := s) (plan := plan) (t := t) (lv := lv) (r := false) (i := i) (by omega)
         rw [e1] at s2
         rw [e1] at s3
         unfold gr at s2
         unfold gr at s3
         exact ((ih0 _ (by omega)).2 (lv - List.getD (WTruth.drags t) (Int.toNat i) default - 0) (true) (i + 1) ([lv - List.getD (WTruth.drags t) (Int.toNat i) default - 0 - WCell.ground (List.getD (WShore.cells s) (Int.toNat i) default)]) (1) rfl (by omega) (by omega) (by (simp_all; done)) (by omega)
          (hg0.landM okF hJ mixed_ok (rPlay_s2 B s plan t lv i dJ0)
          ⟨(cellsM_lit (by kernel_rfl)), ⟨(wq_in (by omega) (by omega)), ⟨(wq_in (by omega) (by omega)), ⟨⟨by omega, by omega, (rowL_extract (z := 4) (fun _ => rfl) (by omega))⟩, ⟨(ltq_t q2), hp2⟩⟩⟩⟩⟩ (by kernel_rfl) (by kernel_rfl))).cast (by (rw [s2, decide_eq_true (by omega)]; simp; done))
        ·
         have h7 := hpf.2 _ (getD_mem (l := plan) (i := i) h0 (by omega))
         have hw := wk_in hs hp h0 (by omega)
         have hg := gr_in hs h0 (by omega)
         have hd := drag_in ht h0 (by omega)
         have e1 := wk_neg (s := s) (by assumption)
         rw [e1] at hw
         unfold gr at hg
         have s2 := playI_cons (s := s) (plan := plan) (t := t) (lv := lv) (r := true) (i := i) (by omega)
         have s3 := playI_cons (s := s) (plan := plan) (t := t) (lv := lv) (r := false) (i := i) (by omega)
         rw [e1] at s2
         rw [e1] at s3
         unfold gr at s2
         unfold gr at s3
         exact ((ih0 _ (by omega)).2 (lv - List.getD (WTruth.drags t) (Int.toNat i) default - 0) (false) (i + 1) ([0]) (1) rfl (by omega) (by omega) (by (simp_all; done)) (by omega)
          (hg0.landM okF hJ mixed_ok (rPlay_s3 B s plan t lv i dJ0)
          ⟨(cellsM_lit (by kernel_rfl)), ⟨(wq_in (by omega) (by omega)), ⟨(ltq_f (Int.not_lt.1 q2)), hp2⟩⟩⟩ (by kernel_rfl) (by kernel_rfl))).cast (by (rw [s2, decide_eq_false (by omega)]; simp; done))
      ·
       exact (GoE.endsT okF hJ mixed_ok hg0 (rPlay_s4 B s plan t lv i dJ0)
        ⟨(ltq_f (Int.not_lt.1 q0)), trivial⟩).cast (by (rw [playI_nil (by omega)]; rfl))
    | false =>
      by_cases q0 : (i : Int) < ((↑(List.length (WShore.cells s)) : Int))
      ·
       have hp3 : AllP (rPlay_p3 B s plan t lv i dJ0) := by
        have h7 := hpf.2 _ (getD_mem (l := plan) (i := i) h0 (by omega))
        have hw := wk_in hs hp h0 (by omega)
        have hg := gr_in hs h0 (by omega)
        have hd := drag_in ht h0 (by omega)
        unfold gr at hg
        have s2 := playI_cons (s := s) (plan := plan) (t := t) (lv := lv) (r := true) (i := i) (by omega)
        have s3 := playI_cons (s := s) (plan := plan) (t := t) (lv := lv) (r := false) (i := i) (by omega)
        unfold gr at s2
        unfold gr at s3
        exact ⟨⟨by omega, by omega, (rowL_extract (z := 1) (fun _ => rfl) (by omega))⟩, ⟨(ltq_t q0), trivial⟩⟩
       by_cases q1 : (0 : Int) ≤ (List.getD plan (Int.toNat i) default)
       ·
        have h7 := hpf.2 _ (getD_mem (l := plan) (i := i) h0 (by omega))
        have hw := wk_in hs hp h0 (by omega)
        have hg := gr_in hs h0 (by omega)
        have hd := drag_in ht h0 (by omega)
        have e1 := wk_pos (s := s) (by assumption)
        rw [e1] at hw
        unfold gr at hg
        have s2 := playI_cons (s := s) (plan := plan) (t := t) (lv := lv) (r := true) (i := i) (by omega)
        have s3 := playI_cons (s := s) (plan := plan) (t := t) (lv := lv) (r := false) (i := i) (by omega)
        rw [e1] at s2
        rw [e1] at s3
        unfold gr at s2
        unfold gr at s3
        exact ((ih0 _ (by omega)).2 (lv - List.getD (WTruth.drags t) (Int.toNat i) default - WWork.calm (List.getD (WShore.works s) (Int.toNat (List.getD plan (Int.toNat i) default)) default)) (false) (i + 1) ([0]) (1) rfl (by omega) (by omega) (by (simp_all; done)) (by omega)
         (hg0.landM okF hJ mixed_ok (rPlay_s5 B s plan t lv i dJ0)
         ⟨(cellsM_lit (by kernel_rfl)), ⟨(wq_in (by omega) (by omega)), ⟨(wq_in (by omega) (by omega)), ⟨(wq_in (by omega) (by omega)), ⟨⟨by omega, by omega, (rowL_extract (z := 1) (fun _ => rfl) (by omega))⟩, ⟨⟨by omega, by omega, (rowL_extract (z := 3) (fun _ => rfl) (by omega))⟩, ⟨⟨by omega, by omega, (rowL_extract (z := 1) (fun _ => rfl) (by omega))⟩, ⟨(nltq_t q1), hp3⟩⟩⟩⟩⟩⟩⟩⟩ (by kernel_rfl) (by kernel_rfl))).cast (by (rw [s3]; simp; done))
       ·
        have h7 := hpf.2 _ (getD_mem (l := plan) (i := i) h0 (by omega))
        have hw := wk_in hs hp h0 (by omega)
        have hg := gr_in hs h0 (by omega)
        have hd := drag_in ht h0 (by omega)
        have e1 := wk_neg (s := s) (by assumption)
        rw [e1] at hw
        unfold gr at hg
        have s2 := playI_cons (s := s) (plan := plan) (t := t) (lv := lv) (r := true) (i := i) (by omega)
        have s3 := playI_cons (s := s) (plan := plan) (t := t) (lv := lv) (r := false) (i := i) (by omega)
        rw [e1] at s2
        rw [e1] at s3
        unfold gr at s2
        unfold gr at s3
        exact ((ih0 _ (by omega)).2 (lv - List.getD (WTruth.drags t) (Int.toNat i) default - 0) (false) (i + 1) ([0]) (1) rfl (by omega) (by omega) (by (simp_all; done)) (by omega)
         (hg0.landM okF hJ mixed_ok (rPlay_s6 B s plan t lv i dJ0)
         ⟨(cellsM_lit (by kernel_rfl)), ⟨(wq_in (by omega) (by omega)), ⟨(wq_in (by omega) (by omega)), ⟨(wq_in (by omega) (by omega)), ⟨⟨by omega, by omega, (rowL_extract (z := 1) (fun _ => rfl) (by omega))⟩, ⟨(nltq_f (Int.not_le.1 q1)), hp3⟩⟩⟩⟩⟩⟩ (by kernel_rfl) (by kernel_rfl))).cast (by (rw [s3]; simp; done))
      ·
       exact (GoE.endsT okF hJ mixed_ok hg0 (rPlay_s7 B s plan t lv i dJ0)
        ⟨(ltq_f (Int.not_lt.1 q0)), trivial⟩).cast (by (rw [playI_nil (by omega)]; rfl))
   ·intro lv r i out out_n hm0 h0 hv hout houtb ⟨dJ0, hdJ0, hg0⟩
    have hsf := shore_facts hs
    have hpf := plan_facts hp
    have hlv := level_in ht
    have hsf := shore_facts hs
    have hpf := plan_facts hp
    have hdl := ht.2.2.2.2.1
    cases r with
    | true =>
      by_cases q0 : (i : Int) < ((↑(List.length (WShore.cells s)) : Int))
      ·
       have hp4 : AllP (rPlay_p4 B s plan t lv i out out_n dJ0) := by
        have h7 := hpf.2 _ (getD_mem (l := plan) (i := i) h0 (by omega))
        have hw := wk_in hs hp h0 (by omega)
        have hg := gr_in hs h0 (by omega)
        have hd := drag_in ht h0 (by omega)
        unfold gr at hg
        have s2 := playI_cons (s := s) (plan := plan) (t := t) (lv := lv) (r := true) (i := i) (by omega)
        have s3 := playI_cons (s := s) (plan := plan) (t := t) (lv := lv) (r := false) (i := i) (by omega)
        unfold gr at s2
        unfold gr at s3
        exact ⟨⟨by omega, by omega, (rowL_extract (z := 1) (fun _ => rfl) (by omega))⟩, ⟨(ltq_t q0), trivial⟩⟩
       by_cases q1 : (0 : Int) ≤ (List.getD plan (Int.toNat i) default)
       ·
        have hp5 : AllP (rPlay_p5 B s plan t lv i out out_n dJ0) := by
         have h7 := hpf.2 _ (getD_mem (l := plan) (i := i) h0 (by omega))
         have hw := wk_in hs hp h0 (by omega)
         have hg := gr_in hs h0 (by omega)
         have hd := drag_in ht h0 (by omega)
         have e1 := wk_pos (s := s) (by assumption)
         rw [e1] at hw
         unfold gr at hg
         have s2 := playI_cons (s := s) (plan := plan) (t := t) (lv := lv) (r := true) (i := i) (by omega)
         have s3 := playI_cons (s := s) (plan := plan) (t := t) (lv := lv) (r := false) (i := i) (by omega)
         rw [e1] at s2
         rw [e1] at s3
         unfold gr at s2
         unfold gr at s3
         exact ⟨(wq_in (by omega) (by omega)), ⟨⟨by omega, by omega, (rowL_extract (z := 4) (fun _ => rfl) (by omega))⟩, ⟨(wq_in (by omega) (by omega)), ⟨(wq_in (by omega) (by omega)), ⟨⟨by omega, by omega, (rowL_extract (z := 1) (fun _ => rfl) (by omega))⟩, ⟨⟨by omega, by omega, (rowL_extract (z := 3) (fun _ => rfl) (by omega))⟩, ⟨⟨by omega, by omega, (rowL_extract (z := 1) (fun _ => rfl) (by omega))⟩, ⟨(nltq_t q1), hp4⟩⟩⟩⟩⟩⟩⟩⟩
        by_cases q2 : (WCell.ground (List.getD (WShore.cells s) (Int.toNat i) default) + WWork.rise (List.getD (WShore.works s) (Int.toNat (List.getD plan (Int.toNat i) default)) default) : Int) < (lv - List.getD (WTruth.drags t) (Int.toNat i) default - WWork.calm (List.getD (WShore.works s) (Int.toNat (List.getD plan (Int.toNat i) default)) default))
        ·
         have h7 := hpf.2 _ (getD_mem (l := plan) (i := i) h0 (by omega))
         have hw := wk_in hs hp h0 (by omega)
         have hg := gr_in hs h0 (by omega)
         have hd := drag_in ht h0 (by omega)
         have e1 := wk_pos (s := s) (by assumption)
         rw [e1] at hw
         unfold gr at hg
         have s2 := playI_cons (s := s) (plan := plan) (t := t) (lv := lv) (r := true) (i := i) (by omega)
         have s3 := playI_cons (s := s) (plan := plan) (t := t) (lv := lv) (r := false) (i := i) (by omega)
         rw [e1] at s2
         rw [e1] at s3
         unfold gr at s2
         unfold gr at s3
         exact ((ih0 _ (by omega)).2 (lv - List.getD (WTruth.drags t) (Int.toNat i) default - WWork.calm (List.getD (WShore.works s) (Int.toNat (List.getD plan (Int.toNat i) default)) default)) (true) (i + 1) (out ++ [lv - List.getD (WTruth.drags t) (Int.toNat i) default - WWork.calm (List.getD (WShore.works s) (Int.toNat (List.getD plan (Int.toNat i) default)) default) - WCell.ground (List.getD (WShore.cells s) (Int.toNat i) default)]) (out_n + 1) rfl (by omega) (by omega) (by (simp_all; done)) (by omega)
          (hg0.landM okF hJ mixed_ok (rPlay_s8 B s plan t lv i out out_n dJ0)
          ⟨(cellsM_simple (rowL_simple (fun x => List.all_eq_true.1 (by rfl)))), ⟨(wq_in (by omega) (by omega)), ⟨⟨(by (rw [rowL_size (z := 1) (fun _ => rfl)]; first | omega | (simp; omega) | (simp_all; done))), (by unfold maxLen; omega), by omega, by first | exact rowL_push | exact rowL_pushC rfl⟩, ⟨(wq_in (by omega) (by omega)), ⟨⟨by omega, by omega, (rowL_extract (z := 4) (fun _ => rfl) (by omega))⟩, ⟨(ltq_t q2), hp5⟩⟩⟩⟩⟩⟩ (by kernel_rfl) (by kernel_rfl))).cast (by (rw [s2, decide_eq_true (by omega)]; simp; done))
        ·
         have h7 := hpf.2 _ (getD_mem (l := plan) (i := i) h0 (by omega))
         have hw := wk_in hs hp h0 (by omega)
         have hg := gr_in hs h0 (by omega)
         have hd := drag_in ht h0 (by omega)
         have e1 := wk_pos (s := s) (by assumption)
         rw [e1] at hw
         unfold gr at hg
         have s2 := playI_cons (s := s) (plan := plan) (t := t) (lv := lv) (r := true) (i := i) (by omega)
         have s3 := playI_cons (s := s) (plan := plan) (t := t) (lv := lv) (r := false) (i := i) (by omega)
         rw [e1] at s2
         rw [e1] at s3
         unfold gr at s2
         unfold gr at s3
         exact ((ih0 _ (by omega)).2 (lv - List.getD (WTruth.drags t) (Int.toNat i) default - WWork.calm (List.getD (WShore.works s) (Int.toNat (List.getD plan (Int.toNat i) default)) default)) (false) (i + 1) (out ++ [0]) (out_n + 1) rfl (by omega) (by omega) (by (simp_all; done)) (by omega)
          (hg0.landM okF hJ mixed_ok (rPlay_s9 B s plan t lv i out out_n dJ0)
          ⟨(cellsM_simple (rowL_simple (fun x => List.all_eq_true.1 (by rfl)))), ⟨(wq_in (by omega) (by omega)), ⟨⟨(by (rw [rowL_size (z := 1) (fun _ => rfl)]; first | omega | (simp; omega) | (simp_all; done))), (by unfold maxLen; omega), by omega, by first | exact rowL_push | exact rowL_pushC rfl⟩, ⟨(ltq_f (Int.not_lt.1 q2)), hp5⟩⟩⟩⟩ (by kernel_rfl) (by kernel_rfl))).cast (by (rw [s2, decide_eq_false (by omega)]; simp; done))
       ·
        have hp6 : AllP (rPlay_p6 B s plan t lv i out out_n dJ0) := by
         have h7 := hpf.2 _ (getD_mem (l := plan) (i := i) h0 (by omega))
         have hw := wk_in hs hp h0 (by omega)
         have hg := gr_in hs h0 (by omega)
         have hd := drag_in ht h0 (by omega)
         have e1 := wk_neg (s := s) (by assumption)
         rw [e1] at hw
         unfold gr at hg
         have s2 := playI_cons (s := s) (plan := plan) (t := t) (lv := lv) (r := true) (i := i) (by omega)
         have s3 := playI_cons (s := s) (plan := plan) (t := t) (lv := lv) (r := false) (i := i) (by omega)
         rw [e1] at s2
         rw [e1] at s3
         unfold gr at s2
         unfold gr at s3
         exact ⟨(wq_in (by omega) (by omega)), ⟨⟨by omega, by omega, (rowL_extract (z := 4) (fun _ => rfl) (by omega))⟩, ⟨(wq_in (by omega) (by omega)), ⟨(wq_in (by omega) (by omega)), ⟨⟨by omega, by omega, (rowL_extract (z := 1) (fun _ => rfl) (by omega))⟩, ⟨(nltq_f (Int.not_le.1 q1)), hp4⟩⟩⟩⟩⟩⟩
        by_cases q2 : (WCell.ground (List.getD (WShore.cells s) (Int.toNat i) default) + 0 : Int) < (lv - List.getD (WTruth.drags t) (Int.toNat i) default - 0)
        ·
         have h7 := hpf.2 _ (getD_mem (l := plan) (i := i) h0 (by omega))
         have hw := wk_in hs hp h0 (by omega)
         have hg := gr_in hs h0 (by omega)
         have hd := drag_in ht h0 (by omega)
         have e1 := wk_neg (s := s) (by assumption)
         rw [e1] at hw
         unfold gr at hg
         have s2 := playI_cons (s := s) (plan := plan) (t := t) (lv := lv) (r := true) (i := i) (by omega)
         have s3 := playI_cons (s := s) (plan := plan) (t := t) (lv := lv) (r := false) (i := i) (by omega)
         rw [e1] at s2
         rw [e1] at s3
         unfold gr at s2
         unfold gr at s3
         exact ((ih0 _ (by omega)).2 (lv - List.getD (WTruth.drags t) (Int.toNat i) default - 0) (true) (i + 1) (out ++ [lv - List.getD (WTruth.drags t) (Int.toNat i) default - 0 - WCell.ground (List.getD (WShore.cells s) (Int.toNat i) default)]) (out_n + 1) rfl (by omega) (by omega) (by (simp_all; done)) (by omega)
          (hg0.landM okF hJ mixed_ok (rPlay_s10 B s plan t lv i out out_n dJ0)
          ⟨(cellsM_simple (rowL_simple (fun x => List.all_eq_true.1 (by rfl)))), ⟨(wq_in (by omega) (by omega)), ⟨⟨(by (rw [rowL_size (z := 1) (fun _ => rfl)]; first | omega | (simp; omega) | (simp_all; done))), (by unfold maxLen; omega), by omega, by first | exact rowL_push | exact rowL_pushC rfl⟩, ⟨(wq_in (by omega) (by omega)), ⟨⟨by omega, by omega, (rowL_extract (z := 4) (fun _ => rfl) (by omega))⟩, ⟨(ltq_t q2), hp6⟩⟩⟩⟩⟩⟩ (by kernel_rfl) (by kernel_rfl))).cast (by (rw [s2, decide_eq_true (by omega)]; simp; done))
        ·
         have h7 := hpf.2 _ (getD_mem (l := plan) (i := i) h0 (by omega))
         have hw := wk_in hs hp h0 (by omega)
         have hg := gr_in hs h0 (by omega)
         have hd := drag_in ht h0 (by omega)
         have e1 := wk_neg (s := s) (by assumption)
         rw [e1] at hw
         unfold gr at hg
         have s2 := playI_cons (s := s) (plan := plan) (t := t) (lv := lv) (r := true) (i := i) (by omega)
         have s3 := playI_cons (s := s) (plan := plan) (t := t) (lv := lv) (r := false) (i := i) (by omega)
         rw [e1] at s2
         rw [e1] at s3
         unfold gr at s2
         unfold gr at s3
         exact ((ih0 _ (by omega)).2 (lv - List.getD (WTruth.drags t) (Int.toNat i) default - 0) (false) (i + 1) (out ++ [0]) (out_n + 1) rfl (by omega) (by omega) (by (simp_all; done)) (by omega)
          (hg0.landM okF hJ mixed_ok (rPlay_s11 B s plan t lv i out out_n dJ0)
          ⟨(cellsM_simple (rowL_simple (fun x => List.all_eq_true.1 (by rfl)))), ⟨(wq_in (by omega) (by omega)), ⟨⟨(by (rw [rowL_size (z := 1) (fun _ => rfl)]; first | omega | (simp; omega) | (simp_all; done))), (by unfold maxLen; omega), by omega, by first | exact rowL_push | exact rowL_pushC rfl⟩, ⟨(ltq_f (Int.not_lt.1 q2)), hp6⟩⟩⟩⟩ (by kernel_rfl) (by kernel_rfl))).cast (by (rw [s2, decide_eq_false (by omega)]; simp; done))
      ·
       exact (GoE.endsT okF hJ mixed_ok hg0 (rPlay_s12 B s plan t lv i out out_n dJ0)
        ⟨(rowL_cellsT (fun x => List.all_eq_true.1 (by rfl))), ⟨(ltq_f (Int.not_lt.1 q0)), trivial⟩⟩).cast (by (rw [playI_nil (by omega), List.append_nil, hout]; done))
    | false =>
      by_cases q0 : (i : Int) < ((↑(List.length (WShore.cells s)) : Int))
      ·
       have hp7 : AllP (rPlay_p7 B s plan t lv i out out_n dJ0) := by
        have h7 := hpf.2 _ (getD_mem (l := plan) (i := i) h0 (by omega))
        have hw := wk_in hs hp h0 (by omega)
        have hg := gr_in hs h0 (by omega)
        have hd := drag_in ht h0 (by omega)
        unfold gr at hg
        have s2 := playI_cons (s := s) (plan := plan) (t := t) (lv := lv) (r := true) (i := i) (by omega)
        have s3 := playI_cons (s := s) (plan := plan) (t := t) (lv := lv) (r := false) (i := i) (by omega)
        unfold gr at s2
        unfold gr at s3
        exact ⟨⟨by omega, by omega, (rowL_extract (z := 1) (fun _ => rfl) (by omega))⟩, ⟨(ltq_t q0), trivial⟩⟩
       by_cases q1 : (0 : Int) ≤ (List.getD plan (Int.toNat i) default)
       ·
        have h7 := hpf.2 _ (getD_mem (l := plan) (i := i) h0 (by omega))
        have hw := wk_in hs hp h0 (by omega)
        have hg := gr_in hs h0 (by omega)
        have hd := drag_in ht h0 (by omega)
        have e1 := wk_pos (s := s) (by assumption)
        rw [e1] at hw
        unfold gr at hg
        have s2 := playI_cons (s := s) (plan := plan) (t := t) (lv := lv) (r := true) (i := i) (by omega)
        have s3 := playI_cons (s := s) (plan := plan) (t := t) (lv := lv) (r := false) (i := i) (by omega)
        rw [e1] at s2
        rw [e1] at s3
        unfold gr at s2
        unfold gr at s3
        exact ((ih0 _ (by omega)).2 (lv - List.getD (WTruth.drags t) (Int.toNat i) default - WWork.calm (List.getD (WShore.works s) (Int.toNat (List.getD plan (Int.toNat i) default)) default)) (false) (i + 1) (out ++ [0]) (out_n + 1) rfl (by omega) (by omega) (by (simp_all; done)) (by omega)
         (hg0.landM okF hJ mixed_ok (rPlay_s13 B s plan t lv i out out_n dJ0)
         ⟨(cellsM_simple (rowL_simple (fun x => List.all_eq_true.1 (by rfl)))), ⟨(wq_in (by omega) (by omega)), ⟨⟨(by (rw [rowL_size (z := 1) (fun _ => rfl)]; first | omega | (simp; omega) | (simp_all; done))), (by unfold maxLen; omega), by omega, by first | exact rowL_push | exact rowL_pushC rfl⟩, ⟨(wq_in (by omega) (by omega)), ⟨(wq_in (by omega) (by omega)), ⟨⟨by omega, by omega, (rowL_extract (z := 1) (fun _ => rfl) (by omega))⟩, ⟨⟨by omega, by omega, (rowL_extract (z := 3) (fun _ => rfl) (by omega))⟩, ⟨⟨by omega, by omega, (rowL_extract (z := 1) (fun _ => rfl) (by omega))⟩, ⟨(nltq_t q1), hp7⟩⟩⟩⟩⟩⟩⟩⟩⟩ (by kernel_rfl) (by kernel_rfl))).cast (by (rw [s3]; simp; done))
       ·
        have h7 := hpf.2 _ (getD_mem (l := plan) (i := i) h0 (by omega))
        have hw := wk_in hs hp h0 (by omega)
        have hg := gr_in hs h0 (by omega)
        have hd := drag_in ht h0 (by omega)
        have e1 := wk_neg (s := s) (by assumption)
        rw [e1] at hw
        unfold gr at hg
        have s2 := playI_cons (s := s) (plan := plan) (t := t) (lv := lv) (r := true) (i := i) (by omega)
        have s3 := playI_cons (s := s) (plan := plan) (t := t) (lv := lv) (r := false) (i := i) (by omega)
        rw [e1] at s2
        rw [e1] at s3
        unfold gr at s2
        unfold gr at s3
        exact ((ih0 _ (by omega)).2 (lv - List.getD (WTruth.drags t) (Int.toNat i) default - 0) (false) (i + 1) (out ++ [0]) (out_n + 1) rfl (by omega) (by omega) (by (simp_all; done)) (by omega)
         (hg0.landM okF hJ mixed_ok (rPlay_s14 B s plan t lv i out out_n dJ0)
         ⟨(cellsM_simple (rowL_simple (fun x => List.all_eq_true.1 (by rfl)))), ⟨(wq_in (by omega) (by omega)), ⟨⟨(by (rw [rowL_size (z := 1) (fun _ => rfl)]; first | omega | (simp; omega) | (simp_all; done))), (by unfold maxLen; omega), by omega, by first | exact rowL_push | exact rowL_pushC rfl⟩, ⟨(wq_in (by omega) (by omega)), ⟨(wq_in (by omega) (by omega)), ⟨⟨by omega, by omega, (rowL_extract (z := 1) (fun _ => rfl) (by omega))⟩, ⟨(nltq_f (Int.not_le.1 q1)), hp7⟩⟩⟩⟩⟩⟩⟩ (by kernel_rfl) (by kernel_rfl))).cast (by (rw [s3]; simp; done))
      ·
       exact (GoE.endsT okF hJ mixed_ok hg0 (rPlay_s15 B s plan t lv i out out_n dJ0)
        ⟨(rowL_cellsT (fun x => List.all_eq_true.1 (by rfl))), ⟨(ltq_f (Int.not_lt.1 q0)), trivial⟩⟩).cast (by (rw [playI_nil (by omega), List.append_nil, hout]; done))
set_option maxHeartbeats 4000000 in
theorem rPlay_e (s : WShore) (plan : List Int) (t : WTruth) (hs : shoreB s = true) (hp : planB s plan = true) (ht : tOk s t) {B : Lo} (hJ : ∀ w, B.has w → J0 w) : EndsT Try.prog B (entryC Try.prog 28 75 (([.agg (encShore s).toArray, slI plan, .agg (encTruth t).toArray]).map (pushT 0 4))) (slI (playL s plan t)) := by
 have hsf := shore_facts hs
 have hpf := plan_facts hp
 have hlv := level_in ht
 exact ((rPlay_ls s plan t hs hp ht hJ _).1 (levelF s t) (true) (0) rfl (by omega) (by omega)
  (GoE.start.landM okF hJ mixed_ok (rPlay_s16 B s plan t)
  ⟨⟨trivial, rLevel (s) (t) (by omega) (by with_reducible assumption)⟩, trivial⟩ (by kernel_rfl) (by kernel_rfl))).cast (by rfl)
theorem rPlay (s : WShore) (plan : List Int) (t : WTruth) (hs : shoreB s = true) (hp : planB s plan = true) (ht : tOk s t) : PureC Try.prog J0 28 #[.agg (encShore s).toArray, slI plan, .agg (encTruth t).toArray] (slI (playL s plan t)) :=
 pureC_of (ts := [.agg (encShore s).toArray, slI plan, .agg (encTruth t).toArray]) J0_st (c0 := entryC Try.prog 28 75 (([.agg (encShore s).toArray, slI plan, .agg (encTruth t).toArray]).map (pushT 0 4))) (by kernel_rfl) (by kernel_rfl) fun B hJ => rPlay_e s plan t hs hp ht hJ
end Go.Proofs.Ytiigkdhaofaijaa

namespace Go.Proofs.Ytiigkdhaofaijaa
open Go Go.CE Go.RowKit
set_option maxRecDepth 100000
def plevel_v0 (s : WShore) (c : WStorm) (t : WTruth) (w i : Int) : List Value := [pA 2 0, .int .i64 w, Value.int IntKind.i64 (WShore.reef s), .int .i64 i]
def plevel_o0 (s : WShore) (c : WStorm) (t : WTruth) (w i : Int) : List Obj := [Obj.cells #[Value.int IntKind.i64 (WTruth.wind t), Value.int IntKind.i64 (WTruth.fetch t), Value.int IntKind.i64 (WTruth.tide t), Value.int IntKind.i64 (WTruth.loss t), topV 1 (slT (List.length (WTruth.drags t)) (rowL encI (WTruth.drags t)))] 38]
noncomputable def plevel_t0 : List Item := ([.code [1, 1, 0, 1, 0, 0], .inLoop [1, 1, 0, 1, 0, 0], .inBlock 0, .code [1, 1, 1]]).map (it (bodyOf Try.prog 75))
def plevel_h0 (B : Lo) (c0 : CF) (s : WShore) (c : WStorm) (t : WTruth) (w i : Int) : Prop := ∃ dJ : Nat → Value, (∀ t, Loose (dJ t)) ∧ GoE Try.prog B c0 H00 1 (headC 75 28 (([3, 5, 13, 14] : List Nat).zip (plevel_v0 s c t w i)) dJ plevel_t0) (headH (plevel_o0 s c t w i)) (2 + (plevel_o0 s c t w i).length) []
theorem plevel_s0 (B : Lo) (s : WShore) (c : WStorm) (t : WTruth) (w i : Int) (dJ0 : Nat → Value) : landM (srunT Try.prog (okFn Try.prog) J0 B 11 1 (headC 75 28 (([3, 5, 13, 14] : List Nat).zip (plevel_v0 s c t w i)) dJ0 plevel_t0) (headH (plevel_o0 s c t w i)) (2 + (plevel_o0 s c t w i).length)
 [(0, hvT), (5, HintT.pure (Value.int IntKind.i64 (Int.tdiv (w * WTruth.loss t) 1000)) []), (6, hvI (w - Int.tdiv (w * WTruth.loss t) 1000)), (8, hvI (i + 1))] 0 [] []) [3, 5, 13, 14] [(2, KS.auto)] [] = some ⟨75, 28, plevel_t0, [], .run, none, plevel_v0 s c t (w - Int.tdiv (w * WTruth.loss t) 1000) (i + 1), plevel_o0 s c t (w - Int.tdiv (w * WTruth.loss t) 1000) (i + 1),
 [wq (i + 1) = i + 1, wq (w - Int.tdiv (w * WTruth.loss t) 1000) = w - Int.tdiv (w * WTruth.loss t) 1000, AllP [] ∧ PureC Try.prog J0 97 #[Value.int IntKind.i64 w, Value.int IntKind.i64 (WTruth.loss t)] (Value.int IntKind.i64 (Int.tdiv (w * WTruth.loss t) 1000)), ltq i (WShore.reef s) = true]⟩ := by kernel_rfl
noncomputable def plevel_H0 (s : WShore) (c : WStorm) (t : WTruth) (w i : Int) (dJ0 : Nat → Value) : Heap := [(3, Obj.cells #[Value.int IntKind.i64 (WTruth.tide t), Value.int IntKind.i64 w] 3), (0, Obj.coro none), (1, Obj.coro none), (2, Obj.cells #[Value.int IntKind.i64 (WTruth.wind t), Value.int IntKind.i64 (WTruth.fetch t), Value.int IntKind.i64 (WTruth.tide t), Value.int IntKind.i64 (WTruth.loss t), topV 1 (slT (List.length (WTruth.drags t)) (rowL encI (WTruth.drags t)))] 38)]
noncomputable def plevel_c0 (s : WShore) (c : WStorm) (t : WTruth) (w i : Int) (dJ0 : Nat → Value) : CF := ⟨98, ofList 17 [Value.slice (some { block := 3, off := 0 }) 2 1], [Item.code (bodyOf Try.prog 98)], [], .run, none⟩
theorem plevel_s1 (B : Lo) (s : WShore) (c : WStorm) (t : WTruth) (w i : Int) (dJ0 : Nat → Value) : CE.finK 4 (srunT Try.prog (okFn Try.prog) J0 B 44 4 (plevel_c0 s c t w i dJ0) (plevel_H0 s c t w i dJ0) 4
 [(11, hvI (0 + WTruth.tide t)), (21, hvI (0 + WTruth.tide t + w))] 0 [] []) [] [] [] = some (OO.ret (Value.int IntKind.i64 (0 + WTruth.tide t + w)), [], [],
 [wq (0 + WTruth.tide t + w) = 0 + WTruth.tide t + w, wq (0 + WTruth.tide t) = 0 + WTruth.tide t]) := by kernel_rfl
theorem plevel_s2 (B : Lo) (s : WShore) (c : WStorm) (t : WTruth) (w i : Int) (dJ0 : Nat → Value) : endT (srunT Try.prog (okFn Try.prog) J0 B 9 1 (headC 75 28 (([3, 5, 13, 14] : List Nat).zip (plevel_v0 s c t w i)) dJ0 plevel_t0) (headH (plevel_o0 s c t w i)) (2 + (plevel_o0 s c t w i).length)
 [(0, hvF), (5, HintT.call (List.range 4) (OO.ret (Value.int IntKind.i64 (0 + WTruth.tide t + w))) ([] ++ (4, regO) :: heapL 5 []) 5 [])] 0 [] []) [] = some (Value.int IntKind.i64 (0 + WTruth.tide t + w),
 [FJ Try.prog B (plevel_c0 s c t w i dJ0) (plevel_H0 s c t w i dJ0) 4 (OO.ret (Value.int IntKind.i64 (0 + WTruth.tide t + w))) (([] ++ ((4, regO) :: heapL (4 + 1) [])) ++ plevel_H0 s c t w i dJ0) 5 (List.range 4) [], ltq i (WShore.reef s) = false]) := by kernel_rfl
theorem plevel_s3 (B : Lo) (s : WShore) (c : WStorm) (t : WTruth) : landM (srunT Try.prog (okFn Try.prog) J0 B 9 1 (entryC Try.prog 75 28 (([.agg (encStormy s c).toArray, .agg (encTruth t).toArray]).map (pushT 0 4))) H00 1
 [(7, HintT.pure (Value.int IntKind.i64 (Int.tdiv (WTruth.fetch t * WTruth.wind t) 1000)) [])] 0 [] []) [3, 5, 13, 14] [(2, KS.auto)] [] = some ⟨75, 28, plevel_t0, [], .run, none, plevel_v0 s c t (Int.tdiv (WTruth.fetch t * WTruth.wind t) 1000) (0), plevel_o0 s c t (Int.tdiv (WTruth.fetch t * WTruth.wind t) 1000) (0),
 [AllP [] ∧ PureC Try.prog J0 97 #[Value.int IntKind.i64 (WTruth.fetch t), Value.int IntKind.i64 (WTruth.wind t)] (Value.int IntKind.i64 (Int.tdiv (WTruth.fetch t * WTruth.wind t) 1000))]⟩ := by kernel_rfl
set_option maxHeartbeats 4000000 in
theorem plevel_ls (s : WShore) (c : WStorm) (t : WTruth) (hr : 0 ≤ s.reef ∧ s.reef ≤ 20) (ht : tOk s t) {B : Lo} (hJ : ∀ w, B.has w → J0 w) {c0 : CF} : ∀ m : Nat, (∀ (w i : Int), (s.reef - i).toNat = m → ∀ (h0 : 0 ≤ i) (hw : 0 ≤ w ∧ w ≤ 10000), plevel_h0 B c0 s c t w i → EndsT Try.prog B c0 (.int .i64 (t.tide + waveN t.loss (s.reef - i).toNat w))) := by
 intro m0
 induction m0 using Nat.strongRecOn with
 | _ m0 ih0 =>
   intro w i hm0 h0 hw ⟨dJ0, hdJ0, hg0⟩
   have h0 := wave_0 ht
   have hlt := ht.2.2.1
   have hll := ht.2.2.2.1
   have hwi := ht.1
   have hfe := ht.2.1
   have hq := wave_q hw ht.2.2.2.1
   have hlt := ht.2.2.1
   have hll := ht.2.2.2.1
   by_cases q0 : (i : Int) < (WShore.reef s)
   ·
    have s2 := waveN_cons (l := t.loss) (w := w) q0
    exact ((ih0 _ (by omega)) (w - Int.tdiv (w * WTruth.loss t) 1000) (i + 1) rfl (by omega) (by omega)
     (hg0.landM okF hJ mixed_ok (plevel_s0 B s c t w i dJ0)
     ⟨(wq_in (by omega) (by omega)), ⟨(wq_in (by omega) (by omega)), ⟨⟨trivial, pPart (w) (WTruth.loss t) (by omega) (by omega)⟩, ⟨(ltq_t q0), trivial⟩⟩⟩⟩ (by kernel_rfl) (by kernel_rfl))).cast (by (rw [s2]; done))
   ·
    have rj0 : FJ Try.prog B (plevel_c0 s c t w i dJ0) (plevel_H0 s c t w i dJ0) 4 (OO.ret (Value.int IntKind.i64 (0 + WTruth.tide t + w))) (([] ++ ((4, regO) :: heapL (4 + 1) [])) ++ plevel_H0 s c t w i dJ0) 5 (List.range 4) [] := by
     have s2 := waveN_nil (l := t.loss) (w := w) (r := s.reef) (i := i) (by omega)
     exact FinK.fjB (GoE.finK okF hJ mixed_ok (under_all (by kernel_rfl)) (writable_of (by kernel_rfl)) ((GoE.refl (P := Try.prog) (B := B) (c0 := plevel_c0 s c t w i dJ0) (under_all (by kernel_rfl))).widen (Wf := ((([]) : List (Nat × KS)).map (·.1))) (by simp) (writable_of (by kernel_rfl))) (plevel_s1 B s c t w i dJ0)
      ⟨(wq_in (by omega) (by omega)), ⟨(wq_in (by omega) (by omega)), trivial⟩⟩) (ex := []) (by kernel_rfl) (lowX_nil _)
    have s2 := waveN_nil (l := t.loss) (w := w) (r := s.reef) (i := i) (by omega)
    exact (GoE.endsT okF hJ mixed_ok hg0 (plevel_s2 B s c t w i dJ0)
     ⟨rj0, ⟨(ltq_f (Int.not_lt.1 q0)), trivial⟩⟩).cast (by (rw [s2]; simp [sumL]; done))
set_option maxHeartbeats 4000000 in
theorem plevel_e (s : WShore) (c : WStorm) (t : WTruth) (hr : 0 ≤ s.reef ∧ s.reef ≤ 20) (ht : tOk s t) {B : Lo} (hJ : ∀ w, B.has w → J0 w) : EndsT Try.prog B (entryC Try.prog 75 28 (([.agg (encStormy s c).toArray, .agg (encTruth t).toArray]).map (pushT 0 4))) (.int .i64 (levelF s t)) := by
 have h0 := wave_0 ht
 have hlt := ht.2.2.1
 have hll := ht.2.2.2.1
 have hwi := ht.1
 have hfe := ht.2.1
 exact ((plevel_ls s c t hr ht hJ _) (Int.tdiv (WTruth.fetch t * WTruth.wind t) 1000) (0) rfl (by omega) (by omega)
  (GoE.start.landM okF hJ mixed_ok (plevel_s3 B s c t)
  ⟨⟨trivial, pPart (WTruth.fetch t) (WTruth.wind t) (by omega) (by omega)⟩, trivial⟩ (by kernel_rfl) (by kernel_rfl))).cast (by (rw [Int.sub_zero]; rfl))
theorem plevel (s : WShore) (c : WStorm) (t : WTruth) (hr : 0 ≤ s.reef ∧ s.reef ≤ 20) (ht : tOk s t) : PureC Try.prog J0 75 #[.agg (encStormy s c).toArray, .agg (encTruth t).toArray] (.int .i64 (levelF s t)) :=
 pureC_of (ts := [.agg (encStormy s c).toArray, .agg (encTruth t).toArray]) J0_st (c0 := entryC Try.prog 75 28 (([.agg (encStormy s c).toArray, .agg (encTruth t).toArray]).map (pushT 0 4))) (by kernel_rfl) (by kernel_rfl) fun B hJ => plevel_e s c t hr ht hJ
def pEachSH_v0 (xs : List Span) (i : Int) (ys : List Int) : List Value := [Value.func (Fn.func 77) #[] #[], Value.slice (some { block := 2, off := 0 }) (List.length xs) 1, topV 1 (slT (List.length xs) (rowL encSp xs)), Value.int IntKind.i64 (↑(List.length xs) : Int), .int .i64 i]
def pEachSH_o0 (xs : List Span) (i : Int) (ys : List Int) : List Obj := [.cells (rowL encI ys) 3 (0, 0)]
noncomputable def pEachSH_t0 : List Item := ([.code [1, 1, 0, 1, 0, 0], .inLoop [1, 1, 0, 1, 0, 0], .inBlock 0, .code [1, 1, 1]]).map (it (bodyOf Try.prog 99))
def pEachSH_h0 (B : Lo) (c0 : CF) (xs : List Span) (i : Int) (ys : List Int) : Prop := ∃ dJ : Nat → Value, (∀ t, Loose (dJ t)) ∧ GoE Try.prog B c0 H00 1 (headC 99 26 (([1, 5, 11, 12, 13] : List Nat).zip (pEachSH_v0 xs i ys)) dJ pEachSH_t0) (headH (pEachSH_o0 xs i ys)) (2 + (pEachSH_o0 xs i ys).length) []
noncomputable def pEachSH_z0 (xs : List Span) (i : Int) : Array Value := #[Value.int IntKind.i64 (Span.lo (List.getD xs (Int.toNat i) default)), Value.int IntKind.i64 (Span.hi (List.getD xs (Int.toNat i) default))]
theorem pEachSH_s0 (B : Lo) (xs : List Span) (i : Int) (ys : List Int) (dJ0 : Nat → Value) : landM (srunT Try.prog (okFn Try.prog) J0 B 13 1 (headC 99 26 (([1, 5, 11, 12, 13] : List Nat).zip (pEachSH_v0 xs i ys)) dJ0 pEachSH_t0) (headH (pEachSH_o0 xs i ys)) (2 + (pEachSH_o0 xs i ys).length)
 [(0, hvT), (2, HintT.tidx (Int.toNat i) (pEachSH_z0 xs i)), (11, HintT.pure (Value.int IntKind.i64 (Span.hi (List.getD xs (Int.toNat i) default))) []), (12, HintT.old (Hint.idx (Int.toNat i))), (13, HintT.old (Hint.st (rowL encI (List.set ys (Int.toNat i) (Span.hi (List.getD xs (Int.toNat i) default)))))), (14, hvI (i + 1))] 0 [] []) [1, 5, 11, 12, 13] [(2, KS.cells [] (rowL encI (List.set ys (Int.toNat i) (Span.hi (List.getD xs (Int.toNat i) default)))))] [] = some ⟨99, 26, pEachSH_t0, [], .run, none, pEachSH_v0 xs (i + 1) (List.set ys (Int.toNat i) (Span.hi (List.getD xs (Int.toNat i) default))), pEachSH_o0 xs (i + 1) (List.set ys (Int.toNat i) (Span.hi (List.getD xs (Int.toNat i) default))),
 [CellsM 1 [] (rowL encI (List.set ys (Int.toNat i) (Span.hi (List.getD xs (Int.toNat i) default)))) (rowL encI (List.set ys (Int.toNat i) (Span.hi (List.getD xs (Int.toNat i) default)))), wq (i + 1) = i + 1, 0 + Int.toNat i * 1 + TypeInfo.size Try.t3 ≤ Array.size (rowL encI ys) ∧ splice (rowL encI ys) (0 + Int.toNat i * 1) (Value.cells (tget { len := 16000, tr := Tri.set 14 (Tri.set 14 Tri.lf 22 (Value.int IntKind.i64 (Span.hi (List.getD xs (Int.toNat i) default)))) 23 (Value.pointer (some { block := 2, off := 0 + Int.toNat i * 1 })) } 22)) = rowL encI (List.set ys (Int.toNat i) (Span.hi (List.getD xs (Int.toNat i) default))), i = (↑(Int.toNat i) : Int) ∧ Int.toNat i < List.length xs, AllP [] ∧ PureC Try.prog J0 77 #[Value.agg (pEachSH_z0 xs i)] (Value.int IntKind.i64 (Span.hi (List.getD xs (Int.toNat i) default))), i = (↑(Int.toNat i) : Int) ∧ Int.toNat i < List.length xs ∧ Array.extract (rowL encSp xs) (Int.toNat i * TypeInfo.size Try.t25) (Int.toNat i * TypeInfo.size Try.t25 + TypeInfo.size Try.t25) = (pEachSH_z0 xs i), ltq i (↑(List.length xs) : Int) = true]⟩ := by kernel_rfl
theorem pEachSH_s1 (B : Lo) (xs : List Span) (i : Int) (ys : List Int) (dJ0 : Nat → Value) : endT (srunT Try.prog (okFn Try.prog) J0 B 9 1 (headC 99 26 (([1, 5, 11, 12, 13] : List Nat).zip (pEachSH_v0 xs i ys)) dJ0 pEachSH_t0) (headH (pEachSH_o0 xs i ys)) (2 + (pEachSH_o0 xs i ys).length)
 [(0, hvF)] 0 [] []) [{ k := 2, rs := [], cs := rowL encI ys }] = some (slT (List.length xs) (Fz.cs { k := 2, rs := [], cs := rowL encI ys }),
 [CellsT (Fz.rs { k := 2, rs := [], cs := rowL encI ys }) (rowL encI ys) (Fz.cs { k := 2, rs := [], cs := rowL encI ys }), ltq i (↑(List.length xs) : Int) = false]) := by kernel_rfl
theorem pEachSH_s2 (B : Lo) (xs : List Span) : landM (srunT Try.prog (okFn Try.prog) J0 B 9 1 (entryC Try.prog 99 26 (([slSp xs, .func (.func 77) #[] #[]]).map (pushT 0 4))) H00 1
 [(3, HintT.old (Hint.mk (List.length xs) (rowL (zeroE [Value.int IntKind.i64 0]) (List.replicate (List.length xs) ()))))] 0 [] []) [1, 5, 11, 12, 13] [(1, KS.rows [] [] (rowL encI (List.replicate (List.length xs) 0)))] [] = some ⟨99, 26, pEachSH_t0, [], .run, none, pEachSH_v0 xs (0) (List.replicate (List.length xs) 0), pEachSH_o0 xs (0) (List.replicate (List.length xs) 0),
 [CellsX 1 [] [] (rowL (zeroE [Value.int IntKind.i64 0]) (List.replicate (List.length xs) ())) (rowL encI (List.replicate (List.length xs) 0)), cMake Try.prog 36 (tget { len := 16000, tr := Tri.set 14 Tri.lf 9 (Value.int IntKind.i64 (↑(List.length xs) : Int)) } 9) (tget { len := 16000, tr := Tri.set 14 Tri.lf 9 (Value.int IntKind.i64 (↑(List.length xs) : Int)) } 9) = some (3, rowL (zeroE [Value.int IntKind.i64 0]) (List.replicate (List.length xs) ()), List.length xs, TypeInfo.size Try.t3)]⟩ := by kernel_rfl
set_option maxHeartbeats 4000000 in
theorem pEachSH_ls (xs : List Span) (hn : xs.length ≤ 1000000) {B : Lo} (hJ : ∀ w, B.has w → J0 w) {c0 : CF} : ∀ m : Nat, (∀ (i : Int) (ys : List Int), (xs.length - i.toNat) = m → ∀ (h0 : 0 ≤ i) (hy : ys = doneL Span.hi 0 xs i), pEachSH_h0 B c0 xs i ys → EndsT Try.prog B c0 (slI (xs.map Span.hi))) := by
 intro m0
 induction m0 using Nat.strongRecOn with
 | _ m0 ih0 =>
   intro i ys hm0 h0 hy ⟨dJ0, hdJ0, hg0⟩
   have hyl : ys.length = xs.length := by rw [hy]; exact doneL_len
   by_cases q0 : (i : Int) < ((↑(List.length xs) : Int))
   ·
    exact ((ih0 _ (by omega)) (i + 1) (List.set ys (Int.toNat i) (Span.hi (List.getD xs (Int.toNat i) default))) rfl (by omega) (by (subst hy; exact doneL_set (f := Span.hi) h0 q0))
     (hg0.landM okF hJ mixed_ok (pEachSH_s0 B xs i ys dJ0)
     ⟨(cellsM_simple (rowL_simple (fun x => List.all_eq_true.1 (by rfl)))), ⟨(wq_in (by omega) (by omega)), ⟨(by exact rowL_st0 (z := 1) (fun _ => rfl) (by omega) rfl rfl), ⟨⟨by omega, by omega⟩, ⟨⟨trivial, pHigh (Span.lo (List.getD xs (Int.toNat i) default)) (Span.hi (List.getD xs (Int.toNat i) default))⟩, ⟨⟨by omega, by omega, (rowL_extract (z := 2) (fun _ => rfl) (by omega))⟩, ⟨(ltq_t q0), trivial⟩⟩⟩⟩⟩⟩⟩ (by kernel_rfl) (by kernel_rfl))).cast (by rfl)
   ·
    exact (GoE.endsT okF hJ mixed_ok hg0 (pEachSH_s1 B xs i ys dJ0)
     ⟨(rowL_cellsT (fun x => List.all_eq_true.1 (by rfl))), ⟨(ltq_f (Int.not_lt.1 q0)), trivial⟩⟩).cast (by exact row_len (hy.trans (doneL_end (by omega))) (by simp))
set_option maxHeartbeats 4000000 in
theorem pEachSH_e (xs : List Span) (hn : xs.length ≤ 1000000) {B : Lo} (hJ : ∀ w, B.has w → J0 w) : EndsT Try.prog B (entryC Try.prog 99 26 (([slSp xs, .func (.func 77) #[] #[]]).map (pushT 0 4))) (slI (xs.map Span.hi)) := by
 exact ((pEachSH_ls xs hn hJ _) (0) (List.replicate (List.length xs) 0) rfl (by omega) (by exact doneL_0)
  (GoE.start.landM okF hJ mixed_ok (pEachSH_s2 B xs)
  ⟨(by exact (cellsX_zero (by exact ⟨(.simple rfl), trivial⟩) _)), ⟨(cMakeL (bytes := 8) (by kernel_rfl) (by omega) (by omega) (by omega)), trivial⟩⟩ (by kernel_rfl) (by kernel_rfl))).cast (by rfl)
def pEachSL_v0 (xs : List Span) (i : Int) (ys : List Int) : List Value := [Value.func (Fn.func 78) #[] #[], Value.slice (some { block := 2, off := 0 }) (List.length xs) 1, topV 1 (slT (List.length xs) (rowL encSp xs)), Value.int IntKind.i64 (↑(List.length xs) : Int), .int .i64 i]
def pEachSL_o0 (xs : List Span) (i : Int) (ys : List Int) : List Obj := [.cells (rowL encI ys) 3 (0, 0)]
noncomputable def pEachSL_t0 : List Item := ([.code [1, 1, 0, 1, 0, 0], .inLoop [1, 1, 0, 1, 0, 0], .inBlock 0, .code [1, 1, 1]]).map (it (bodyOf Try.prog 99))
def pEachSL_h0 (B : Lo) (c0 : CF) (xs : List Span) (i : Int) (ys : List Int) : Prop := ∃ dJ : Nat → Value, (∀ t, Loose (dJ t)) ∧ GoE Try.prog B c0 H00 1 (headC 99 26 (([1, 5, 11, 12, 13] : List Nat).zip (pEachSL_v0 xs i ys)) dJ pEachSL_t0) (headH (pEachSL_o0 xs i ys)) (2 + (pEachSL_o0 xs i ys).length) []
noncomputable def pEachSL_z0 (xs : List Span) (i : Int) : Array Value := #[Value.int IntKind.i64 (Span.lo (List.getD xs (Int.toNat i) default)), Value.int IntKind.i64 (Span.hi (List.getD xs (Int.toNat i) default))]
theorem pEachSL_s0 (B : Lo) (xs : List Span) (i : Int) (ys : List Int) (dJ0 : Nat → Value) : landM (srunT Try.prog (okFn Try.prog) J0 B 13 1 (headC 99 26 (([1, 5, 11, 12, 13] : List Nat).zip (pEachSL_v0 xs i ys)) dJ0 pEachSL_t0) (headH (pEachSL_o0 xs i ys)) (2 + (pEachSL_o0 xs i ys).length)
 [(0, hvT), (2, HintT.tidx (Int.toNat i) (pEachSL_z0 xs i)), (11, HintT.pure (Value.int IntKind.i64 (Span.lo (List.getD xs (Int.toNat i) default))) []), (12, HintT.old (Hint.idx (Int.toNat i))), (13, HintT.old (Hint.st (rowL encI (List.set ys (Int.toNat i) (Span.lo (List.getD xs (Int.toNat i) default)))))), (14, hvI (i + 1))] 0 [] []) [1, 5, 11, 12, 13] [(2, KS.cells [] (rowL encI (List.set ys (Int.toNat i) (Span.lo (List.getD xs (Int.toNat i) default)))))] [] = some ⟨99, 26, pEachSL_t0, [], .run, none, pEachSL_v0 xs (i + 1) (List.set ys (Int.toNat i) (Span.lo (List.getD xs (Int.toNat i) default))), pEachSL_o0 xs (i + 1) (List.set ys (Int.toNat i) (Span.lo (List.getD xs (Int.toNat i) default))),
 [CellsM 1 [] (rowL encI (List.set ys (Int.toNat i) (Span.lo (List.getD xs (Int.toNat i) default)))) (rowL encI (List.set ys (Int.toNat i) (Span.lo (List.getD xs (Int.toNat i) default)))), wq (i + 1) = i + 1, 0 + Int.toNat i * 1 + TypeInfo.size Try.t3 ≤ Array.size (rowL encI ys) ∧ splice (rowL encI ys) (0 + Int.toNat i * 1) (Value.cells (tget { len := 16000, tr := Tri.set 14 (Tri.set 14 Tri.lf 22 (Value.int IntKind.i64 (Span.lo (List.getD xs (Int.toNat i) default)))) 23 (Value.pointer (some { block := 2, off := 0 + Int.toNat i * 1 })) } 22)) = rowL encI (List.set ys (Int.toNat i) (Span.lo (List.getD xs (Int.toNat i) default))), i = (↑(Int.toNat i) : Int) ∧ Int.toNat i < List.length xs, AllP [] ∧ PureC Try.prog J0 78 #[Value.agg (pEachSL_z0 xs i)] (Value.int IntKind.i64 (Span.lo (List.getD xs (Int.toNat i) default))), i = (↑(Int.toNat i) : Int) ∧ Int.toNat i < List.length xs ∧ Array.extract (rowL encSp xs) (Int.toNat i * TypeInfo.size Try.t25) (Int.toNat i * TypeInfo.size Try.t25 + TypeInfo.size Try.t25) = (pEachSL_z0 xs i), ltq i (↑(List.length xs) : Int) = true]⟩ := by kernel_rfl
theorem pEachSL_s1 (B : Lo) (xs : List Span) (i : Int) (ys : List Int) (dJ0 : Nat → Value) : endT (srunT Try.prog (okFn Try.prog) J0 B 9 1 (headC 99 26 (([1, 5, 11, 12, 13] : List Nat).zip (pEachSL_v0 xs i ys)) dJ0 pEachSL_t0) (headH (pEachSL_o0 xs i ys)) (2 + (pEachSL_o0 xs i ys).length)
 [(0, hvF)] 0 [] []) [{ k := 2, rs := [], cs := rowL encI ys }] = some (slT (List.length xs) (Fz.cs { k := 2, rs := [], cs := rowL encI ys }),
 [CellsT (Fz.rs { k := 2, rs := [], cs := rowL encI ys }) (rowL encI ys) (Fz.cs { k := 2, rs := [], cs := rowL encI ys }), ltq i (↑(List.length xs) : Int) = false]) := by kernel_rfl
theorem pEachSL_s2 (B : Lo) (xs : List Span) : landM (srunT Try.prog (okFn Try.prog) J0 B 9 1 (entryC Try.prog 99 26 (([slSp xs, .func (.func 78) #[] #[]]).map (pushT 0 4))) H00 1
 [(3, HintT.old (Hint.mk (List.length xs) (rowL (zeroE [Value.int IntKind.i64 0]) (List.replicate (List.length xs) ()))))] 0 [] []) [1, 5, 11, 12, 13] [(1, KS.rows [] [] (rowL encI (List.replicate (List.length xs) 0)))] [] = some ⟨99, 26, pEachSL_t0, [], .run, none, pEachSL_v0 xs (0) (List.replicate (List.length xs) 0), pEachSL_o0 xs (0) (List.replicate (List.length xs) 0),
 [CellsX 1 [] [] (rowL (zeroE [Value.int IntKind.i64 0]) (List.replicate (List.length xs) ())) (rowL encI (List.replicate (List.length xs) 0)), cMake Try.prog 36 (tget { len := 16000, tr := Tri.set 14 Tri.lf 9 (Value.int IntKind.i64 (↑(List.length xs) : Int)) } 9) (tget { len := 16000, tr := Tri.set 14 Tri.lf 9 (Value.int IntKind.i64 (↑(List.length xs) : Int)) } 9) = some (3, rowL (zeroE [Value.int IntKind.i64 0]) (List.replicate (List.length xs) ()), List.length xs, TypeInfo.size Try.t3)]⟩ := by kernel_rfl
set_option maxHeartbeats 4000000 in
theorem pEachSL_ls (xs : List Span) (hn : xs.length ≤ 1000000) {B : Lo} (hJ : ∀ w, B.has w → J0 w) {c0 : CF} : ∀ m : Nat, (∀ (i : Int) (ys : List Int), (xs.length - i.toNat) = m → ∀ (h0 : 0 ≤ i) (hy : ys = doneL Span.lo 0 xs i), pEachSL_h0 B c0 xs i ys → EndsT Try.prog B c0 (slI (xs.map Span.lo))) := by
 intro m0
 induction m0 using Nat.strongRecOn with
 | _ m0 ih0 =>
   intro i ys hm0 h0 hy ⟨dJ0, hdJ0, hg0⟩
   have hyl : ys.length = xs.length := by rw [hy]; exact doneL_len
   by_cases q0 : (i : Int) < ((↑(List.length xs) : Int))
   ·
    exact ((ih0 _ (by omega)) (i + 1) (List.set ys (Int.toNat i) (Span.lo (List.getD xs (Int.toNat i) default))) rfl (by omega) (by (subst hy; exact doneL_set (f := Span.lo) h0 q0))
     (hg0.landM okF hJ mixed_ok (pEachSL_s0 B xs i ys dJ0)
     ⟨(cellsM_simple (rowL_simple (fun x => List.all_eq_true.1 (by rfl)))), ⟨(wq_in (by omega) (by omega)), ⟨(by exact rowL_st0 (z := 1) (fun _ => rfl) (by omega) rfl rfl), ⟨⟨by omega, by omega⟩, ⟨⟨trivial, pLow (Span.lo (List.getD xs (Int.toNat i) default)) (Span.hi (List.getD xs (Int.toNat i) default))⟩, ⟨⟨by omega, by omega, (rowL_extract (z := 2) (fun _ => rfl) (by omega))⟩, ⟨(ltq_t q0), trivial⟩⟩⟩⟩⟩⟩⟩ (by kernel_rfl) (by kernel_rfl))).cast (by rfl)
   ·
    exact (GoE.endsT okF hJ mixed_ok hg0 (pEachSL_s1 B xs i ys dJ0)
     ⟨(rowL_cellsT (fun x => List.all_eq_true.1 (by rfl))), ⟨(ltq_f (Int.not_lt.1 q0)), trivial⟩⟩).cast (by exact row_len (hy.trans (doneL_end (by omega))) (by simp))
set_option maxHeartbeats 4000000 in
theorem pEachSL_e (xs : List Span) (hn : xs.length ≤ 1000000) {B : Lo} (hJ : ∀ w, B.has w → J0 w) : EndsT Try.prog B (entryC Try.prog 99 26 (([slSp xs, .func (.func 78) #[] #[]]).map (pushT 0 4))) (slI (xs.map Span.lo)) := by
 exact ((pEachSL_ls xs hn hJ _) (0) (List.replicate (List.length xs) 0) rfl (by omega) (by exact doneL_0)
  (GoE.start.landM okF hJ mixed_ok (pEachSL_s2 B xs)
  ⟨(by exact (cellsX_zero (by exact ⟨(.simple rfl), trivial⟩) _)), ⟨(cMakeL (bytes := 8) (by kernel_rfl) (by omega) (by omega) (by omega)), trivial⟩⟩ (by kernel_rfl) (by kernel_rfl))).cast (by rfl)
theorem pEachSL (xs : List Span) (hn : xs.length ≤ 1000000) : PureC Try.prog J0 99 #[slSp xs, .func (.func 78) #[] #[]] (slI (xs.map Span.lo)) :=
 pureC_of (ts := [slSp xs, .func (.func 78) #[] #[]]) J0_st (c0 := entryC Try.prog 99 26 (([slSp xs, .func (.func 78) #[] #[]]).map (pushT 0 4))) (by kernel_rfl) (by kernel_rfl) fun B hJ => pEachSL_e xs hn hJ
noncomputable def pworst_H0 (s : WShore) (c : WStorm) : Heap := [(2, Obj.cells #[Value.int IntKind.i64 0, Value.int IntKind.i64 0, Value.int IntKind.i64 0, Value.int IntKind.i64 0, Value.slice none 0 0] 38), (1, Obj.cells #[topV 0 (slT (List.length (WShore.cells s)) (rowL encWCell (WShore.cells s))), topV 0 (slT (List.length (WShore.works s)) (rowL encWWork (WShore.works s))), Value.int IntKind.i64 (WShore.reef s), Value.int IntKind.i64 (WShore.llo s), Value.int IntKind.i64 (WShore.lhi s), Value.int IntKind.i64 (WStorm.wlo c), Value.int IntKind.i64 (WStorm.whi c), Value.int IntKind.i64 (WStorm.flo c), Value.int IntKind.i64 (WStorm.fhi c), Value.int IntKind.i64 (WStorm.tlo c), Value.int IntKind.i64 (WStorm.thi c)] 92), (0, Obj.coro none)]
noncomputable def pworst_c0 (s : WShore) (c : WStorm) : CF := ⟨76, ofList 32 [Value.agg #[topV 0 (slT (List.length (WShore.cells s)) (rowL encWCell (WShore.cells s))), topV 0 (slT (List.length (WShore.works s)) (rowL encWWork (WShore.works s))), Value.int IntKind.i64 (WShore.reef s), Value.int IntKind.i64 (WShore.llo s), Value.int IntKind.i64 (WShore.lhi s), Value.int IntKind.i64 (WStorm.wlo c), Value.int IntKind.i64 (WStorm.whi c), Value.int IntKind.i64 (WStorm.flo c), Value.int IntKind.i64 (WStorm.fhi c), Value.int IntKind.i64 (WStorm.tlo c), Value.int IntKind.i64 (WStorm.thi c)], Value.func (Fn.func 77) #[] #[], Value.func (Fn.func 78) #[] #[]], [Item.code (bodyOf Try.prog 76)], [], .run, none⟩
noncomputable def pworst_z0 (s : WShore) : Value := (slT (List.length (List.map Span.lo (List.map spanOf (WShore.cells s)))) (rowL encI (List.map Span.lo (List.map spanOf (WShore.cells s)))))
theorem pworst_s0 (B : Lo) (s : WShore) (c : WStorm) : CE.finK 3 (srunT Try.prog (okFn Try.prog) J0 B 6 3 (pworst_c0 s c) (pworst_H0 s c) 3
 [(6, HintT.pure (Value.int IntKind.i64 (WStorm.whi c)) []), (11, HintT.pure (Value.int IntKind.i64 (WStorm.fhi c)) []), (16, HintT.pure (Value.int IntKind.i64 (WStorm.thi c)) []), (21, HintT.pure (Value.int IntKind.i64 (WShore.llo s)) []), (23, HintT.pure (slT (List.length (List.map spanOf (WShore.cells s))) (rowL encSp (List.map spanOf (WShore.cells s)))) []), (25, HintT.pure (pworst_z0 s) [])] 0 [] []) [] [] [] = some (OO.ret (Value.agg #[Value.int IntKind.i64 (WStorm.whi c), Value.int IntKind.i64 (WStorm.fhi c), Value.int IntKind.i64 (WStorm.thi c), Value.int IntKind.i64 (WShore.llo s), topV 3 (slT (List.length (List.map Span.lo (List.map spanOf (WShore.cells s)))) (rowL encI (List.map Span.lo (List.map spanOf (WShore.cells s)))))]), [], [],
 [AllP [] ∧ PureC Try.prog J0 99 #[slT (List.length (List.map spanOf (WShore.cells s))) (rowL encSp (List.map spanOf (WShore.cells s))), Value.func (Fn.func 78) #[] #[]] (pworst_z0 s), AllP [] ∧ PureC Try.prog J0 82 #[Value.agg #[slT (List.length (WShore.cells s)) (rowL encWCell (WShore.cells s)), slT (List.length (WShore.works s)) (rowL encWWork (WShore.works s)), Value.int IntKind.i64 (WShore.reef s), Value.int IntKind.i64 (WShore.llo s), Value.int IntKind.i64 (WShore.lhi s), Value.int IntKind.i64 (WStorm.wlo c), Value.int IntKind.i64 (WStorm.whi c), Value.int IntKind.i64 (WStorm.flo c), Value.int IntKind.i64 (WStorm.fhi c), Value.int IntKind.i64 (WStorm.tlo c), Value.int IntKind.i64 (WStorm.thi c)]] (slT (List.length (List.map spanOf (WShore.cells s))) (rowL encSp (List.map spanOf (WShore.cells s)))), AllP [] ∧ PureC Try.prog J0 78 #[Value.agg #[Value.int IntKind.i64 (WShore.llo s), Value.int IntKind.i64 (WShore.lhi s)]] (Value.int IntKind.i64 (WShore.llo s)), AllP [] ∧ PureC Try.prog J0 77 #[Value.agg #[Value.int IntKind.i64 (WStorm.tlo c), Value.int IntKind.i64 (WStorm.thi c)]] (Value.int IntKind.i64 (WStorm.thi c)), AllP [] ∧ PureC Try.prog J0 77 #[Value.agg #[Value.int IntKind.i64 (WStorm.flo c), Value.int IntKind.i64 (WStorm.fhi c)]] (Value.int IntKind.i64 (WStorm.fhi c)), AllP [] ∧ PureC Try.prog J0 77 #[Value.agg #[Value.int IntKind.i64 (WStorm.wlo c), Value.int IntKind.i64 (WStorm.whi c)]] (Value.int IntKind.i64 (WStorm.whi c))]) := by kernel_rfl
theorem pworst_s1 (B : Lo) (s : WShore) (c : WStorm) : endT (srunT Try.prog (okFn Try.prog) J0 B 6 1 (entryC Try.prog 55 5 (([.agg (encStormy s c).toArray]).map (pushT 0 4))) H00 1
 [(3, HintT.call (List.range 3) (OO.ret (Value.agg #[Value.int IntKind.i64 (WStorm.whi c), Value.int IntKind.i64 (WStorm.fhi c), Value.int IntKind.i64 (WStorm.thi c), Value.int IntKind.i64 (WShore.llo s), topV 3 (pworst_z0 s)])) ([] ++ (3, regO) :: heapL 4 []) 4 [])] 0 [] []) [] = some (Value.agg #[Value.int IntKind.i64 (WStorm.whi c), Value.int IntKind.i64 (WStorm.fhi c), Value.int IntKind.i64 (WStorm.thi c), Value.int IntKind.i64 (WShore.llo s), slT (List.length (List.map Span.lo (List.map spanOf (WShore.cells s)))) (rowL encI (List.map Span.lo (List.map spanOf (WShore.cells s))))],
 [FJ Try.prog B (pworst_c0 s c) (pworst_H0 s c) 3 (OO.ret (Value.agg #[Value.int IntKind.i64 (WStorm.whi c), Value.int IntKind.i64 (WStorm.fhi c), Value.int IntKind.i64 (WStorm.thi c), Value.int IntKind.i64 (WShore.llo s), topV 3 (pworst_z0 s)])) (([] ++ ((3, regO) :: heapL (3 + 1) [])) ++ pworst_H0 s c) 4 (List.range 3) []]) := by kernel_rfl
set_option maxHeartbeats 4000000 in
theorem pworst_e (s : WShore) (c : WStorm) (hn : s.cells.length ≤ 1000000) {B : Lo} (hJ : ∀ w, B.has w → J0 w) : EndsT Try.prog B (entryC Try.prog 55 5 (([.agg (encStormy s c).toArray]).map (pushT 0 4))) (.agg (encTruth (endE true s c)).toArray) := by
 have hm : (s.cells.map spanOf).length ≤ 1000000 := by rw [List.length_map]; exact hn
 have rj0 : FJ Try.prog B (pworst_c0 s c) (pworst_H0 s c) 3 (OO.ret (Value.agg #[Value.int IntKind.i64 (WStorm.whi c), Value.int IntKind.i64 (WStorm.fhi c), Value.int IntKind.i64 (WStorm.thi c), Value.int IntKind.i64 (WShore.llo s), topV 3 (slT (List.length (List.map Span.lo (List.map spanOf (WShore.cells s)))) (rowL encI (List.map Span.lo (List.map spanOf (WShore.cells s)))))])) (([] ++ ((3, regO) :: heapL (3 + 1) [])) ++ pworst_H0 s c) 4 (List.range 3) [] := by
  exact FinK.fjB (GoE.finK okF hJ mixed_ok (under_all (by kernel_rfl)) (writable_of (by kernel_rfl)) ((GoE.refl (P := Try.prog) (B := B) (c0 := pworst_c0 s c) (under_all (by kernel_rfl))).widen (Wf := ((([]) : List (Nat × KS)).map (·.1))) (by simp) (writable_of (by kernel_rfl))) (pworst_s0 B s c)
   ⟨⟨trivial, pEachSL (List.map spanOf (WShore.cells s)) (by with_reducible assumption)⟩, ⟨⟨trivial, pdrags (s) (c) (by with_reducible assumption)⟩, ⟨⟨trivial, pLow (WShore.llo s) (WShore.lhi s)⟩, ⟨⟨trivial, pHigh (WStorm.tlo c) (WStorm.thi c)⟩, ⟨⟨trivial, pHigh (WStorm.flo c) (WStorm.fhi c)⟩, ⟨⟨trivial, pHigh (WStorm.wlo c) (WStorm.whi c)⟩, trivial⟩⟩⟩⟩⟩⟩) (ex := []) (by kernel_rfl) (lowX_nil _)
 exact (GoE.endsT okF hJ mixed_ok GoE.start (pworst_s1 B s c)
  ⟨rj0, trivial⟩).cast (by (rw [List.map_map]; rfl))
theorem pworst (s : WShore) (c : WStorm) (hn : s.cells.length ≤ 1000000) : PureC Try.prog J0 55 #[.agg (encStormy s c).toArray] (.agg (encTruth (endE true s c)).toArray) :=
 pureC_of (ts := [.agg (encStormy s c).toArray]) J0_st (c0 := entryC Try.prog 55 5 (([.agg (encStormy s c).toArray]).map (pushT 0 4))) (by kernel_rfl) (by kernel_rfl) fun B hJ => pworst_e s c hn hJ
end Go.Proofs.Ytiigkdhaofaijaa

