/- WallShelters: what the law returns. -/
import Derived.Test.YtiigkdhaofaijaaZWI14
set_option linter.all false
namespace Go.Proofs.Ytiigkdhaofaijaa
open Go Go.CE Go.RowKit
set_option maxRecDepth 100000
theorem inw_before : ∀ (l : List Int) (i : Int) (k : Nat), 0 ≤ i → k < l.length → (inwI l i = -1 ∨ (k : Int) < inwI l i - i) → l.getD k default ≠ 0
 | [], _, _, _, hk, _ => by simp at hk
 | x :: l, i, 0, h0, _, h => by
   simp only [List.getD_cons_zero]
   intro e
   unfold inwI at h; rw [if_pos e] at h; omega
 | x :: l, i, k + 1, h0, hk, h => by
   simp only [List.getD_cons_succ]
   have hx : x ≠ 0 := by
    intro e
    unfold inwI at h; rw [if_pos e] at h; omega
   unfold inwI at h; rw [if_neg hx] at h
   exact inw_before l (i + 1) k (by omega) (by simpa using hk) (by omega)
theorem inw_at : ∀ (l : List Int) (i : Int), 0 ≤ i → 0 ≤ inwI l i → l.getD (inwI l i - i).toNat default = 0
 | [], i, _, h => by simp [inwI] at h
 | x :: l, i, h0, h => by
   by_cases e : x = 0
   ·have : inwI (x :: l) i = i := by unfold inwI; rw [if_pos e]
    rw [this, Int.sub_self]; simpa using e
   ·have hh : inwI (x :: l) i = inwI l (i + 1) := by
     show (if x = 0 then i else inwI l (i + 1)) = _
     rw [if_neg e]
    rw [hh] at h ⊢
    have hg := inwI_ge (l := l) (i := i + 1)
    rw [show (inwI l (i + 1) - i).toNat = (inwI l (i + 1) - (i + 1)).toNat + 1 by omega, List.getD_cons_succ]
    exact inw_at l (i + 1) (by omega) h
theorem getD_dropN {l : List Int} {f k : Nat} : (l.drop f).getD k default = l.getD (f + k) default := by
 simp [List.getD_eq_getElem?_getD, List.getElem?_drop]
theorem inw_b {l : List Int} {f k : Int} (h0 : 0 ≤ f) (h1 : f ≤ k) (h2 : k < l.length) (h : inwI (l.drop f.toNat) 0 = -1 ∨ k < f + inwI (l.drop f.toNat) 0) : l.getD k.toNat default ≠ 0 := by
 have := inw_before (l.drop f.toNat) 0 (k - f).toNat (Int.le_refl 0) (by rw [List.length_drop]; omega) (by omega)
 rw [getD_dropN, show f.toNat + (k - f).toNat = k.toNat by omega] at this
 exact this
theorem inw_a {l : List Int} {f : Int} (h0 : 0 ≤ f) (h : 0 ≤ inwI (l.drop f.toNat) 0) : l.getD (f + inwI (l.drop f.toNat) 0).toNat default = 0 := by
 have := inw_at (l.drop f.toNat) 0 (Int.le_refl 0) h
 rw [getD_dropN, Int.sub_zero, show f.toNat + (inwI (l.drop f.toNat) 0).toNat = (f + inwI (l.drop f.toNat) 0).toNat by omega] at this
 exact this
theorem dry_any {s : WShore} {l : List Int} {k : Int} (h0 : 0 ≤ k) (h1 : k < s.cells.length) : (dryL s l 0).any (fun y => decide (y = k)) = dryB s l k := by
 refine Bool.eq_iff_iff.2 ?_
 simp only [dryL, List.any_eq_true, List.mem_filter, mem_upI, decide_eq_true_iff]
 constructor
 ·rintro ⟨y, ⟨_, hy⟩, rfl⟩; exact hy
 ·intro h; exact ⟨k, ⟨⟨h0, h1⟩, h⟩, rfl⟩
theorem dry_t {s : WShore} {l : List Int} {k : Int} (h0 : 0 ≤ k) (h1 : k < s.cells.length) (h : (dryL s l 0).any (fun y => decide (y = k)) = true) : 0 ≤ (s.cells.getD k.toNat default).floor ∧ l.getD k.toNat default ≤ (s.cells.getD k.toNat default).floor := by
 rw [dry_any h0 h1] at h
 simpa only [dryB, Bool.and_eq_true, decide_eq_true_iff] using h
theorem dry_f {s : WShore} {l : List Int} {k : Int} (h0 : 0 ≤ k) (h1 : k < s.cells.length) (h : (dryL s l 0).any (fun y => decide (y = k)) = false) : ¬ (0 ≤ (s.cells.getD k.toNat default).floor ∧ l.getD k.toNat default ≤ (s.cells.getD k.toNat default).floor) := by
 intro hh
 rw [dry_any h0 h1] at h
 have : dryB s l k = true := by simpa only [dryB, Bool.and_eq_true, decide_eq_true_iff] using hh
 rw [this] at h; cases h
theorem dry_len {s : WShore} {l : List Int} : (dryL s l 0).length ≤ s.cells.length := by
 unfold dryL
 refine Nat.le_trans (List.length_filter_le _ _) ?_
 rw [upI_len]; omega
def wShelters_v0 (s : WShore) (c : WStorm) (plan : List Int) (t : WTruth) (fr : Int) (k : Int) : List Value := [.int .i64 fr, pA 2 0, topV 1 (slT (List.length (dryL s (playL s plan (endE true s c)) 0)) (rowL encI (dryL s (playL s plan (endE true s c)) 0))), .int .i64 (fr + inwI ((playL s plan (endE true s c)).drop fr.toNat) 0), .int .i64 (if 0 ≤ inwI (List.drop fr.toNat (playL s plan (endE true s c))) 0 then 0 else 5), topV 1 (slT (List.length (playL s plan t)) (rowL encI (playL s plan t))), topV 1 (slT (List.length (playL s plan (endE true s c))) (rowL encI (playL s plan (endE true s c)))), .int .i64 k]
def wShelters_o0 (s : WShore) (c : WStorm) (plan : List Int) (t : WTruth) (fr : Int) (k : Int) : List Obj := [Obj.cells #[topV 1 (slT s.cells.length (rowL encWCell s.cells)), topV 1 (slT s.works.length (rowL encWWork s.works)), .int .i64 s.reef, .int .i64 s.llo, .int .i64 s.lhi] 27]
noncomputable def wShelters_t0 : List Item := ([.code [1, 1, 1, 1, 1, 1, 1, 1, 1, 0, 1, 0, 0], .inLoop [1, 1, 1, 1, 1, 1, 1, 1, 1, 0, 1, 0, 0], .inBlock 0, .code [1, 1, 1, 1, 1, 1, 1, 1, 1, 1]]).map (it (bodyOf Try.prog 9))
def wShelters_h0 (B : Lo) (c0 : CF) (s : WShore) (c : WStorm) (plan : List Int) (t : WTruth) (fr : Int) (k : Int) : Prop := ∃ dJ : Nat → Value, (∀ t, Loose (dJ t)) ∧ GoE Try.prog B c0 H00 1 (headC 9 249 (([4, 5, 11, 13, 14, 15, 19, 21] : List Nat).zip (wShelters_v0 s c plan t fr k)) dJ wShelters_t0) (headH (wShelters_o0 s c plan t fr k)) (2 + (wShelters_o0 s c plan t fr k).length) []
def wShelters_v1 (s : WShore) (c : WStorm) (plan : List Int) (t : WTruth) (fr : Int) (k : Int) : List Value := [.int .i64 fr, pA 2 0, topV 1 (slT (List.length (dryL s (playL s plan (endE true s c)) 0)) (rowL encI (dryL s (playL s plan (endE true s c)) 0))), .int .i64 0, .int .i64 (if 0 ≤ inwI (List.drop fr.toNat (playL s plan (endE true s c))) 0 then 0 else 5), topV 1 (slT (List.length (playL s plan t)) (rowL encI (playL s plan t))), topV 1 (slT (List.length (playL s plan (endE true s c))) (rowL encI (playL s plan (endE true s c)))), .int .i64 k]
def wShelters_o1 (s : WShore) (c : WStorm) (plan : List Int) (t : WTruth) (fr : Int) (k : Int) : List Obj := [Obj.cells #[topV 1 (slT s.cells.length (rowL encWCell s.cells)), topV 1 (slT s.works.length (rowL encWWork s.works)), .int .i64 s.reef, .int .i64 s.llo, .int .i64 s.lhi] 27]
noncomputable def wShelters_t1 : List Item := ([.code [1, 1, 1, 1, 1, 1, 1, 1, 1, 0, 1, 0, 0], .inLoop [1, 1, 1, 1, 1, 1, 1, 1, 1, 0, 1, 0, 0], .inBlock 0, .code [1, 1, 1, 1, 1, 1, 1, 1, 1, 1]]).map (it (bodyOf Try.prog 9))
def wShelters_h1 (B : Lo) (c0 : CF) (s : WShore) (c : WStorm) (plan : List Int) (t : WTruth) (fr : Int) (k : Int) : Prop := ∃ dJ : Nat → Value, (∀ t, Loose (dJ t)) ∧ GoE Try.prog B c0 H00 1 (headC 9 249 (([4, 5, 11, 13, 14, 15, 19, 21] : List Nat).zip (wShelters_v1 s c plan t fr k)) dJ wShelters_t1) (headH (wShelters_o1 s c plan t fr k)) (2 + (wShelters_o1 s c plan t fr k).length) []
noncomputable def wShelters_z0 (s : WShore) (c : WStorm) : Array Value := #[Value.agg #[slT s.cells.length (rowL encWCell s.cells), slT s.works.length (rowL encWWork s.works), .int .i64 s.reef, .int .i64 s.llo, .int .i64 s.lhi], Value.agg #[.int .i64 c.wlo, .int .i64 c.whi, .int .i64 c.flo, .int .i64 c.fhi, .int .i64 c.tlo, .int .i64 c.thi], Value.agg #[.int .i64 (WTruth.wind (endE true s c)), .int .i64 (WTruth.fetch (endE true s c)), .int .i64 (WTruth.tide (endE true s c)), .int .i64 (WTruth.loss (endE true s c)), slT (List.length (WTruth.drags (endE true s c))) (rowL encI (WTruth.drags (endE true s c)))]]
noncomputable def wShelters_z1 (s : WShore) (c : WStorm) (plan : List Int) : Array Value := #[Value.agg #[slT s.cells.length (rowL encWCell s.cells), slT s.works.length (rowL encWWork s.works), .int .i64 s.reef, .int .i64 s.llo, .int .i64 s.lhi], Value.agg #[.int .i64 c.wlo, .int .i64 c.whi, .int .i64 c.flo, .int .i64 c.fhi, .int .i64 c.tlo, .int .i64 c.thi], slT plan.length (rowL encI plan)]
noncomputable def wShelters_z2 (s : WShore) (c : WStorm) : Value := (Value.tuple #[Value.agg #[.int .i64 (WTruth.wind (endE true s c)), .int .i64 (WTruth.fetch (endE true s c)), .int .i64 (WTruth.tide (endE true s c)), .int .i64 (WTruth.loss (endE true s c)), slT (List.length (WTruth.drags (endE true s c))) (rowL encI (WTruth.drags (endE true s c)))], .int .i64 0])
noncomputable def wShelters_z3 (s : WShore) (k : Int) : Array Value := #[.int .i64 (WCell.ground (List.getD s.cells k.toNat default)), .int .i64 (WCell.dlo (List.getD s.cells k.toNat default)), .int .i64 (WCell.dhi (List.getD s.cells k.toNat default)), .int .i64 (WCell.floor (List.getD s.cells k.toNat default))]
noncomputable def wShelters_z4 (s : WShore) : Array Value := #[Value.agg #[slT s.cells.length (rowL encWCell s.cells), slT s.works.length (rowL encWWork s.works), .int .i64 s.reef, .int .i64 s.llo, .int .i64 s.lhi]]
noncomputable def wShelters_z5 (s : WShore) : Array Value := #[slT s.cells.length (rowL encWCell s.cells), slT s.works.length (rowL encWWork s.works), .int .i64 s.reef, .int .i64 s.llo, .int .i64 s.lhi]
noncomputable def wShelters_z6 (c : WStorm) : Array Value := #[.int .i64 c.wlo, .int .i64 c.whi, .int .i64 c.flo, .int .i64 c.fhi, .int .i64 c.tlo, .int .i64 c.thi]
noncomputable def wShelters_z7 (t : WTruth) : Array Value := #[.int .i64 t.wind, .int .i64 t.fetch, .int .i64 t.tide, .int .i64 t.loss, slT t.drags.length (rowL encI t.drags)]
noncomputable def wShelters_z8 (s : WShore) (c : WStorm) (plan : List Int) (k : Int) : Array Value := #[slT (List.length (dryL s (playL s plan (endE true s c)) 0)) (rowL encI (dryL s (playL s plan (endE true s c)) 0)), .int .i64 k]
noncomputable def wShelters_z9 (s : WShore) (c : WStorm) (plan : List Int) : Value := (Value.tuple #[slT (List.length (playL s plan (endE true s c))) (rowL encI (playL s plan (endE true s c))), .int .i64 0])
noncomputable def wShelters_z10 (s : WShore) (plan : List Int) (t : WTruth) : Value := (Value.tuple #[slT (List.length (playL s plan t)) (rowL encI (playL s plan t)), .int .i64 0])
noncomputable def wShelters_z11 (s : WShore) (c : WStorm) (plan : List Int) (k : Int) : Array Value := #[.int .i64 (List.getD (playL s plan (endE true s c)) k.toNat default)]
noncomputable def wShelters_z12 (s : WShore) (plan : List Int) (t : WTruth) (k : Int) : Array Value := #[.int .i64 (List.getD (playL s plan t) k.toNat default)]
noncomputable def wShelters_p0 (B : Lo) (s : WShore) (c : WStorm) (plan : List Int) (t : WTruth) (fr : Int) (k : Int) (dJ0 : Nat → Value) : List Prop := [k = (↑k.toNat : Int) ∧ Int.toNat k < List.length s.cells ∧ Array.extract (rowL encWCell s.cells) (Int.toNat k * TypeInfo.size Try.t59) (Int.toNat k * TypeInfo.size Try.t59 + TypeInfo.size Try.t59) = (wShelters_z3 s k), ltq k (↑s.cells.length : Int) = true] ++ ([] : List Prop)
noncomputable def wShelters_q0 (s : WShore) (c : WStorm) (plan : List Int) (t : WTruth) (fr : Int) (k : Int) (dJ0 : Nat → Value) : ScriptT := [(4, hvT), (8, HintT.tidx k.toNat (wShelters_z3 s k))]
noncomputable def wShelters_p1 (B : Lo) (s : WShore) (c : WStorm) (plan : List Int) (t : WTruth) (fr : Int) (k : Int) (dJ0 : Nat → Value) : List Prop := [AllP [] ∧ PureC Try.prog J0 37 (wShelters_z8 s c plan k) (Value.bool true)] ++ wShelters_p0 B s c plan t fr k dJ0
noncomputable def wShelters_q1 (s : WShore) (c : WStorm) (plan : List Int) (t : WTruth) (fr : Int) (k : Int) (dJ0 : Nat → Value) : ScriptT := wShelters_q0 s c plan t fr k dJ0 ++ [(14, HintT.pure (Value.bool true) [])]
theorem wShelters_s0 (B : Lo) (s : WShore) (c : WStorm) (plan : List Int) (t : WTruth) (fr : Int) (k : Int) (dJ0 : Nat → Value) : endT (srunT Try.prog (okFn Try.prog) J0 B 19 1 (headC 9 249 (([4, 5, 11, 13, 14, 15, 19, 21] : List Nat).zip (wShelters_v0 s c plan t fr k)) dJ0 wShelters_t0) (headH (wShelters_o0 s c plan t fr k)) (2 + (wShelters_o0 s c plan t fr k).length)
 (wShelters_q1 s c plan t fr k dJ0 ++ [(19, hvT)]) 0 [] []) [] = some (Value.bool false,
 [ltq (WCell.floor (List.getD s.cells k.toNat default)) 0 = true] ++ wShelters_p1 B s c plan t fr k dJ0) := by kernel_rfl
noncomputable def wShelters_p2 (B : Lo) (s : WShore) (c : WStorm) (plan : List Int) (t : WTruth) (fr : Int) (k : Int) (dJ0 : Nat → Value) : List Prop := [k = (↑k.toNat : Int) ∧ Int.toNat k < List.length (playL s plan t) ∧ Array.extract (rowL encI (playL s plan t)) (Int.toNat k * TypeInfo.size Try.t3) (Int.toNat k * TypeInfo.size Try.t3 + TypeInfo.size Try.t3) = (wShelters_z12 s plan t k), ltq (WCell.floor (List.getD s.cells k.toNat default)) 0 = false] ++ wShelters_p1 B s c plan t fr k dJ0
noncomputable def wShelters_q2 (s : WShore) (c : WStorm) (plan : List Int) (t : WTruth) (fr : Int) (k : Int) (dJ0 : Nat → Value) : ScriptT := wShelters_q1 s c plan t fr k dJ0 ++ [(19, hvF), (23, HintT.tidx k.toNat (wShelters_z12 s plan t k))]
theorem wShelters_s1 (B : Lo) (s : WShore) (c : WStorm) (plan : List Int) (t : WTruth) (fr : Int) (k : Int) (dJ0 : Nat → Value) : endT (srunT Try.prog (okFn Try.prog) J0 B 19 1 (headC 9 249 (([4, 5, 11, 13, 14, 15, 19, 21] : List Nat).zip (wShelters_v0 s c plan t fr k)) dJ0 wShelters_t0) (headH (wShelters_o0 s c plan t fr k)) (2 + (wShelters_o0 s c plan t fr k).length)
 (wShelters_q2 s c plan t fr k dJ0 ++ [(26, hvT)]) 0 [] []) [] = some (Value.bool false,
 [ltq (WCell.floor (List.getD s.cells k.toNat default)) (List.getD (playL s plan t) k.toNat default) = true] ++ wShelters_p2 B s c plan t fr k dJ0) := by kernel_rfl
noncomputable def wShelters_p3 (B : Lo) (s : WShore) (c : WStorm) (plan : List Int) (t : WTruth) (fr : Int) (k : Int) (dJ0 : Nat → Value) : List Prop := [k = (↑k.toNat : Int) ∧ Int.toNat k < List.length (playL s plan (endE true s c)) ∧ Array.extract (rowL encI (playL s plan (endE true s c))) (Int.toNat k * TypeInfo.size Try.t3) (Int.toNat k * TypeInfo.size Try.t3 + TypeInfo.size Try.t3) = (wShelters_z11 s c plan k), ltq (WCell.floor (List.getD s.cells k.toNat default)) (List.getD (playL s plan t) k.toNat default) = false] ++ wShelters_p2 B s c plan t fr k dJ0
noncomputable def wShelters_q3 (s : WShore) (c : WStorm) (plan : List Int) (t : WTruth) (fr : Int) (k : Int) (dJ0 : Nat → Value) : ScriptT := wShelters_q2 s c plan t fr k dJ0 ++ [(26, hvF), (31, HintT.tidx k.toNat (wShelters_z11 s c plan k))]
theorem wShelters_s2 (B : Lo) (s : WShore) (c : WStorm) (plan : List Int) (t : WTruth) (fr : Int) (k : Int) (dJ0 : Nat → Value) : endT (srunT Try.prog (okFn Try.prog) J0 B 19 1 (headC 9 249 (([4, 5, 11, 13, 14, 15, 19, 21] : List Nat).zip (wShelters_v0 s c plan t fr k)) dJ0 wShelters_t0) (headH (wShelters_o0 s c plan t fr k)) (2 + (wShelters_o0 s c plan t fr k).length)
 (wShelters_q3 s c plan t fr k dJ0 ++ [(34, hvT)]) 0 [] []) [] = some (Value.bool false,
 [ltq (WCell.floor (List.getD s.cells k.toNat default)) (List.getD (playL s plan (endE true s c)) k.toNat default) = true] ++ wShelters_p3 B s c plan t fr k dJ0) := by kernel_rfl
noncomputable def wShelters_p4 (B : Lo) (s : WShore) (c : WStorm) (plan : List Int) (t : WTruth) (fr : Int) (k : Int) (dJ0 : Nat → Value) : List Prop := [ltq (WCell.floor (List.getD s.cells k.toNat default)) (List.getD (playL s plan (endE true s c)) k.toNat default) = false] ++ wShelters_p3 B s c plan t fr k dJ0
noncomputable def wShelters_q4 (s : WShore) (c : WStorm) (plan : List Int) (t : WTruth) (fr : Int) (k : Int) (dJ0 : Nat → Value) : ScriptT := wShelters_q3 s c plan t fr k dJ0 ++ [(34, hvF)]
noncomputable def wShelters_p5 (B : Lo) (s : WShore) (c : WStorm) (plan : List Int) (t : WTruth) (fr : Int) (k : Int) (dJ0 : Nat → Value) : List Prop := [(!ltq k fr) = true] ++ wShelters_p4 B s c plan t fr k dJ0
noncomputable def wShelters_q5 (s : WShore) (c : WStorm) (plan : List Int) (t : WTruth) (fr : Int) (k : Int) (dJ0 : Nat → Value) : ScriptT := wShelters_q4 s c plan t fr k dJ0 ++ [(55, hvT)]
noncomputable def wShelters_p6 (B : Lo) (s : WShore) (c : WStorm) (plan : List Int) (t : WTruth) (fr : Int) (k : Int) (dJ0 : Nat → Value) : List Prop := [k = (↑k.toNat : Int) ∧ Int.toNat k < List.length (playL s plan (endE true s c)) ∧ Array.extract (rowL encI (playL s plan (endE true s c))) (Int.toNat k * TypeInfo.size Try.t3) (Int.toNat k * TypeInfo.size Try.t3 + TypeInfo.size Try.t3) = (wShelters_z11 s c plan k), (!eqq (if 0 ≤ inwI (List.drop fr.toNat (playL s plan (endE true s c))) 0 then 0 else 5) 0) = true] ++ wShelters_p5 B s c plan t fr k dJ0
noncomputable def wShelters_q6 (s : WShore) (c : WStorm) (plan : List Int) (t : WTruth) (fr : Int) (k : Int) (dJ0 : Nat → Value) : ScriptT := wShelters_q5 s c plan t fr k dJ0 ++ [(58, hvT), (68, HintT.tidx k.toNat (wShelters_z11 s c plan k))]
theorem wShelters_s3 (B : Lo) (s : WShore) (c : WStorm) (plan : List Int) (t : WTruth) (fr : Int) (k : Int) (dJ0 : Nat → Value) : endT (srunT Try.prog (okFn Try.prog) J0 B 23 1 (headC 9 249 (([4, 5, 11, 13, 14, 15, 19, 21] : List Nat).zip (wShelters_v0 s c plan t fr k)) dJ0 wShelters_t0) (headH (wShelters_o0 s c plan t fr k)) (2 + (wShelters_o0 s c plan t fr k).length)
 (wShelters_q6 s c plan t fr k dJ0 ++ [(70, hvT)]) 0 [] []) [] = some (Value.bool false,
 [eqq (List.getD (playL s plan (endE true s c)) k.toNat default) 0 = true] ++ wShelters_p6 B s c plan t fr k dJ0) := by kernel_rfl
theorem wShelters_s4 (B : Lo) (s : WShore) (c : WStorm) (plan : List Int) (t : WTruth) (fr : Int) (k : Int) (dJ0 : Nat → Value) : landM (srunT Try.prog (okFn Try.prog) J0 B 23 1 (headC 9 249 (([4, 5, 11, 13, 14, 15, 19, 21] : List Nat).zip (wShelters_v0 s c plan t fr k)) dJ0 wShelters_t0) (headH (wShelters_o0 s c plan t fr k)) (2 + (wShelters_o0 s c plan t fr k).length)
 (wShelters_q6 s c plan t fr k dJ0 ++ [(70, hvF), (73, hvI (k + 1))]) 0 [] []) [4, 5, 11, 13, 14, 15, 19, 21] [(2, KS.auto)] [] = some ⟨9, 249, wShelters_t0, [], .run, none, wShelters_v0 s c plan t fr (k + 1), wShelters_o0 s c plan t fr (k + 1),
 [wq (k + 1) = k + 1, eqq (List.getD (playL s plan (endE true s c)) k.toNat default) 0 = false] ++ wShelters_p6 B s c plan t fr k dJ0⟩ := by kernel_rfl
noncomputable def wShelters_p7 (B : Lo) (s : WShore) (c : WStorm) (plan : List Int) (t : WTruth) (fr : Int) (k : Int) (dJ0 : Nat → Value) : List Prop := [(!eqq (if 0 ≤ inwI (List.drop fr.toNat (playL s plan (endE true s c))) 0 then 0 else 5) 0) = false] ++ wShelters_p5 B s c plan t fr k dJ0
noncomputable def wShelters_q7 (s : WShore) (c : WStorm) (plan : List Int) (t : WTruth) (fr : Int) (k : Int) (dJ0 : Nat → Value) : ScriptT := wShelters_q5 s c plan t fr k dJ0 ++ [(58, hvF)]
noncomputable def wShelters_p8 (B : Lo) (s : WShore) (c : WStorm) (plan : List Int) (t : WTruth) (fr : Int) (k : Int) (dJ0 : Nat → Value) : List Prop := [k = (↑k.toNat : Int) ∧ Int.toNat k < List.length (playL s plan (endE true s c)) ∧ Array.extract (rowL encI (playL s plan (endE true s c))) (Int.toNat k * TypeInfo.size Try.t3) (Int.toNat k * TypeInfo.size Try.t3 + TypeInfo.size Try.t3) = (wShelters_z11 s c plan k), ltq k (fr + inwI (List.drop fr.toNat (playL s plan (endE true s c))) 0) = true] ++ wShelters_p7 B s c plan t fr k dJ0
noncomputable def wShelters_q8 (s : WShore) (c : WStorm) (plan : List Int) (t : WTruth) (fr : Int) (k : Int) (dJ0 : Nat → Value) : ScriptT := wShelters_q7 s c plan t fr k dJ0 ++ [(62, hvT), (68, HintT.tidx k.toNat (wShelters_z11 s c plan k))]
theorem wShelters_s5 (B : Lo) (s : WShore) (c : WStorm) (plan : List Int) (t : WTruth) (fr : Int) (k : Int) (dJ0 : Nat → Value) : endT (srunT Try.prog (okFn Try.prog) J0 B 23 1 (headC 9 249 (([4, 5, 11, 13, 14, 15, 19, 21] : List Nat).zip (wShelters_v0 s c plan t fr k)) dJ0 wShelters_t0) (headH (wShelters_o0 s c plan t fr k)) (2 + (wShelters_o0 s c plan t fr k).length)
 (wShelters_q8 s c plan t fr k dJ0 ++ [(70, hvT)]) 0 [] []) [] = some (Value.bool false,
 [eqq (List.getD (playL s plan (endE true s c)) k.toNat default) 0 = true] ++ wShelters_p8 B s c plan t fr k dJ0) := by kernel_rfl
theorem wShelters_s6 (B : Lo) (s : WShore) (c : WStorm) (plan : List Int) (t : WTruth) (fr : Int) (k : Int) (dJ0 : Nat → Value) : landM (srunT Try.prog (okFn Try.prog) J0 B 23 1 (headC 9 249 (([4, 5, 11, 13, 14, 15, 19, 21] : List Nat).zip (wShelters_v0 s c plan t fr k)) dJ0 wShelters_t0) (headH (wShelters_o0 s c plan t fr k)) (2 + (wShelters_o0 s c plan t fr k).length)
 (wShelters_q8 s c plan t fr k dJ0 ++ [(70, hvF), (73, hvI (k + 1))]) 0 [] []) [4, 5, 11, 13, 14, 15, 19, 21] [(2, KS.auto)] [] = some ⟨9, 249, wShelters_t0, [], .run, none, wShelters_v0 s c plan t fr (k + 1), wShelters_o0 s c plan t fr (k + 1),
 [wq (k + 1) = k + 1, eqq (List.getD (playL s plan (endE true s c)) k.toNat default) 0 = false] ++ wShelters_p8 B s c plan t fr k dJ0⟩ := by kernel_rfl
theorem wShelters_s7 (B : Lo) (s : WShore) (c : WStorm) (plan : List Int) (t : WTruth) (fr : Int) (k : Int) (dJ0 : Nat → Value) : landM (srunT Try.prog (okFn Try.prog) J0 B 23 1 (headC 9 249 (([4, 5, 11, 13, 14, 15, 19, 21] : List Nat).zip (wShelters_v0 s c plan t fr k)) dJ0 wShelters_t0) (headH (wShelters_o0 s c plan t fr k)) (2 + (wShelters_o0 s c plan t fr k).length)
 (wShelters_q7 s c plan t fr k dJ0 ++ [(62, hvF), (73, hvI (k + 1))]) 0 [] []) [4, 5, 11, 13, 14, 15, 19, 21] [(2, KS.auto)] [] = some ⟨9, 249, wShelters_t0, [], .run, none, wShelters_v0 s c plan t fr (k + 1), wShelters_o0 s c plan t fr (k + 1),
 [wq (k + 1) = k + 1, ltq k (fr + inwI (List.drop fr.toNat (playL s plan (endE true s c))) 0) = false] ++ wShelters_p7 B s c plan t fr k dJ0⟩ := by kernel_rfl
theorem wShelters_s8 (B : Lo) (s : WShore) (c : WStorm) (plan : List Int) (t : WTruth) (fr : Int) (k : Int) (dJ0 : Nat → Value) : landM (srunT Try.prog (okFn Try.prog) J0 B 23 1 (headC 9 249 (([4, 5, 11, 13, 14, 15, 19, 21] : List Nat).zip (wShelters_v0 s c plan t fr k)) dJ0 wShelters_t0) (headH (wShelters_o0 s c plan t fr k)) (2 + (wShelters_o0 s c plan t fr k).length)
 (wShelters_q4 s c plan t fr k dJ0 ++ [(55, hvF), (73, hvI (k + 1))]) 0 [] []) [4, 5, 11, 13, 14, 15, 19, 21] [(2, KS.auto)] [] = some ⟨9, 249, wShelters_t0, [], .run, none, wShelters_v0 s c plan t fr (k + 1), wShelters_o0 s c plan t fr (k + 1),
 [wq (k + 1) = k + 1, (!ltq k fr) = false] ++ wShelters_p4 B s c plan t fr k dJ0⟩ := by kernel_rfl
noncomputable def wShelters_p9 (B : Lo) (s : WShore) (c : WStorm) (plan : List Int) (t : WTruth) (fr : Int) (k : Int) (dJ0 : Nat → Value) : List Prop := [AllP [] ∧ PureC Try.prog J0 37 (wShelters_z8 s c plan k) (Value.bool false)] ++ wShelters_p0 B s c plan t fr k dJ0
noncomputable def wShelters_q9 (s : WShore) (c : WStorm) (plan : List Int) (t : WTruth) (fr : Int) (k : Int) (dJ0 : Nat → Value) : ScriptT := wShelters_q0 s c plan t fr k dJ0 ++ [(14, HintT.pure (Value.bool false) [])]
noncomputable def wShelters_p10 (B : Lo) (s : WShore) (c : WStorm) (plan : List Int) (t : WTruth) (fr : Int) (k : Int) (dJ0 : Nat → Value) : List Prop := [k = (↑k.toNat : Int) ∧ Int.toNat k < List.length (playL s plan (endE true s c)) ∧ Array.extract (rowL encI (playL s plan (endE true s c))) (Int.toNat k * TypeInfo.size Try.t3) (Int.toNat k * TypeInfo.size Try.t3 + TypeInfo.size Try.t3) = (wShelters_z11 s c plan k), (!ltq (WCell.floor (List.getD s.cells k.toNat default)) 0) = true] ++ wShelters_p9 B s c plan t fr k dJ0
noncomputable def wShelters_q10 (s : WShore) (c : WStorm) (plan : List Int) (t : WTruth) (fr : Int) (k : Int) (dJ0 : Nat → Value) : ScriptT := wShelters_q9 s c plan t fr k dJ0 ++ [(42, hvT), (47, HintT.tidx k.toNat (wShelters_z11 s c plan k))]
theorem wShelters_s9 (B : Lo) (s : WShore) (c : WStorm) (plan : List Int) (t : WTruth) (fr : Int) (k : Int) (dJ0 : Nat → Value) : endT (srunT Try.prog (okFn Try.prog) J0 B 19 1 (headC 9 249 (([4, 5, 11, 13, 14, 15, 19, 21] : List Nat).zip (wShelters_v0 s c plan t fr k)) dJ0 wShelters_t0) (headH (wShelters_o0 s c plan t fr k)) (2 + (wShelters_o0 s c plan t fr k).length)
 (wShelters_q10 s c plan t fr k dJ0 ++ [(50, hvT)]) 0 [] []) [] = some (Value.bool false,
 [(!ltq (WCell.floor (List.getD s.cells k.toNat default)) (List.getD (playL s plan (endE true s c)) k.toNat default)) = true] ++ wShelters_p10 B s c plan t fr k dJ0) := by kernel_rfl
noncomputable def wShelters_p11 (B : Lo) (s : WShore) (c : WStorm) (plan : List Int) (t : WTruth) (fr : Int) (k : Int) (dJ0 : Nat → Value) : List Prop := [(!ltq (WCell.floor (List.getD s.cells k.toNat default)) (List.getD (playL s plan (endE true s c)) k.toNat default)) = false] ++ wShelters_p10 B s c plan t fr k dJ0
noncomputable def wShelters_q11 (s : WShore) (c : WStorm) (plan : List Int) (t : WTruth) (fr : Int) (k : Int) (dJ0 : Nat → Value) : ScriptT := wShelters_q10 s c plan t fr k dJ0 ++ [(50, hvF)]
noncomputable def wShelters_p12 (B : Lo) (s : WShore) (c : WStorm) (plan : List Int) (t : WTruth) (fr : Int) (k : Int) (dJ0 : Nat → Value) : List Prop := [(!ltq k fr) = true] ++ wShelters_p11 B s c plan t fr k dJ0
noncomputable def wShelters_q12 (s : WShore) (c : WStorm) (plan : List Int) (t : WTruth) (fr : Int) (k : Int) (dJ0 : Nat → Value) : ScriptT := wShelters_q11 s c plan t fr k dJ0 ++ [(55, hvT)]
noncomputable def wShelters_p13 (B : Lo) (s : WShore) (c : WStorm) (plan : List Int) (t : WTruth) (fr : Int) (k : Int) (dJ0 : Nat → Value) : List Prop := [k = (↑k.toNat : Int) ∧ Int.toNat k < List.length (playL s plan (endE true s c)) ∧ Array.extract (rowL encI (playL s plan (endE true s c))) (Int.toNat k * TypeInfo.size Try.t3) (Int.toNat k * TypeInfo.size Try.t3 + TypeInfo.size Try.t3) = (wShelters_z11 s c plan k), (!eqq (if 0 ≤ inwI (List.drop fr.toNat (playL s plan (endE true s c))) 0 then 0 else 5) 0) = true] ++ wShelters_p12 B s c plan t fr k dJ0
noncomputable def wShelters_q13 (s : WShore) (c : WStorm) (plan : List Int) (t : WTruth) (fr : Int) (k : Int) (dJ0 : Nat → Value) : ScriptT := wShelters_q12 s c plan t fr k dJ0 ++ [(58, hvT), (68, HintT.tidx k.toNat (wShelters_z11 s c plan k))]
theorem wShelters_s10 (B : Lo) (s : WShore) (c : WStorm) (plan : List Int) (t : WTruth) (fr : Int) (k : Int) (dJ0 : Nat → Value) : endT (srunT Try.prog (okFn Try.prog) J0 B 23 1 (headC 9 249 (([4, 5, 11, 13, 14, 15, 19, 21] : List Nat).zip (wShelters_v0 s c plan t fr k)) dJ0 wShelters_t0) (headH (wShelters_o0 s c plan t fr k)) (2 + (wShelters_o0 s c plan t fr k).length)
 (wShelters_q13 s c plan t fr k dJ0 ++ [(70, hvT)]) 0 [] []) [] = some (Value.bool false,
 [eqq (List.getD (playL s plan (endE true s c)) k.toNat default) 0 = true] ++ wShelters_p13 B s c plan t fr k dJ0) := by kernel_rfl
theorem wShelters_s11 (B : Lo) (s : WShore) (c : WStorm) (plan : List Int) (t : WTruth) (fr : Int) (k : Int) (dJ0 : Nat → Value) : landM (srunT Try.prog (okFn Try.prog) J0 B 23 1 (headC 9 249 (([4, 5, 11, 13, 14, 15, 19, 21] : List Nat).zip (wShelters_v0 s c plan t fr k)) dJ0 wShelters_t0) (headH (wShelters_o0 s c plan t fr k)) (2 + (wShelters_o0 s c plan t fr k).length)
 (wShelters_q13 s c plan t fr k dJ0 ++ [(70, hvF), (73, hvI (k + 1))]) 0 [] []) [4, 5, 11, 13, 14, 15, 19, 21] [(2, KS.auto)] [] = some ⟨9, 249, wShelters_t0, [], .run, none, wShelters_v0 s c plan t fr (k + 1), wShelters_o0 s c plan t fr (k + 1),
 [wq (k + 1) = k + 1, eqq (List.getD (playL s plan (endE true s c)) k.toNat default) 0 = false] ++ wShelters_p13 B s c plan t fr k dJ0⟩ := by kernel_rfl
noncomputable def wShelters_p14 (B : Lo) (s : WShore) (c : WStorm) (plan : List Int) (t : WTruth) (fr : Int) (k : Int) (dJ0 : Nat → Value) : List Prop := [(!eqq (if 0 ≤ inwI (List.drop fr.toNat (playL s plan (endE true s c))) 0 then 0 else 5) 0) = false] ++ wShelters_p12 B s c plan t fr k dJ0
noncomputable def wShelters_q14 (s : WShore) (c : WStorm) (plan : List Int) (t : WTruth) (fr : Int) (k : Int) (dJ0 : Nat → Value) : ScriptT := wShelters_q12 s c plan t fr k dJ0 ++ [(58, hvF)]
noncomputable def wShelters_p15 (B : Lo) (s : WShore) (c : WStorm) (plan : List Int) (t : WTruth) (fr : Int) (k : Int) (dJ0 : Nat → Value) : List Prop := [k = (↑k.toNat : Int) ∧ Int.toNat k < List.length (playL s plan (endE true s c)) ∧ Array.extract (rowL encI (playL s plan (endE true s c))) (Int.toNat k * TypeInfo.size Try.t3) (Int.toNat k * TypeInfo.size Try.t3 + TypeInfo.size Try.t3) = (wShelters_z11 s c plan k), ltq k (fr + inwI (List.drop fr.toNat (playL s plan (endE true s c))) 0) = true] ++ wShelters_p14 B s c plan t fr k dJ0
noncomputable def wShelters_q15 (s : WShore) (c : WStorm) (plan : List Int) (t : WTruth) (fr : Int) (k : Int) (dJ0 : Nat → Value) : ScriptT := wShelters_q14 s c plan t fr k dJ0 ++ [(62, hvT), (68, HintT.tidx k.toNat (wShelters_z11 s c plan k))]
theorem wShelters_s12 (B : Lo) (s : WShore) (c : WStorm) (plan : List Int) (t : WTruth) (fr : Int) (k : Int) (dJ0 : Nat → Value) : endT (srunT Try.prog (okFn Try.prog) J0 B 23 1 (headC 9 249 (([4, 5, 11, 13, 14, 15, 19, 21] : List Nat).zip (wShelters_v0 s c plan t fr k)) dJ0 wShelters_t0) (headH (wShelters_o0 s c plan t fr k)) (2 + (wShelters_o0 s c plan t fr k).length)
 (wShelters_q15 s c plan t fr k dJ0 ++ [(70, hvT)]) 0 [] []) [] = some (Value.bool false,
 [eqq (List.getD (playL s plan (endE true s c)) k.toNat default) 0 = true] ++ wShelters_p15 B s c plan t fr k dJ0) := by kernel_rfl
theorem wShelters_s13 (B : Lo) (s : WShore) (c : WStorm) (plan : List Int) (t : WTruth) (fr : Int) (k : Int) (dJ0 : Nat → Value) : landM (srunT Try.prog (okFn Try.prog) J0 B 23 1 (headC 9 249 (([4, 5, 11, 13, 14, 15, 19, 21] : List Nat).zip (wShelters_v0 s c plan t fr k)) dJ0 wShelters_t0) (headH (wShelters_o0 s c plan t fr k)) (2 + (wShelters_o0 s c plan t fr k).length)
 (wShelters_q15 s c plan t fr k dJ0 ++ [(70, hvF), (73, hvI (k + 1))]) 0 [] []) [4, 5, 11, 13, 14, 15, 19, 21] [(2, KS.auto)] [] = some ⟨9, 249, wShelters_t0, [], .run, none, wShelters_v0 s c plan t fr (k + 1), wShelters_o0 s c plan t fr (k + 1),
 [wq (k + 1) = k + 1, eqq (List.getD (playL s plan (endE true s c)) k.toNat default) 0 = false] ++ wShelters_p15 B s c plan t fr k dJ0⟩ := by kernel_rfl
theorem wShelters_s14 (B : Lo) (s : WShore) (c : WStorm) (plan : List Int) (t : WTruth) (fr : Int) (k : Int) (dJ0 : Nat → Value) : landM (srunT Try.prog (okFn Try.prog) J0 B 23 1 (headC 9 249 (([4, 5, 11, 13, 14, 15, 19, 21] : List Nat).zip (wShelters_v0 s c plan t fr k)) dJ0 wShelters_t0) (headH (wShelters_o0 s c plan t fr k)) (2 + (wShelters_o0 s c plan t fr k).length)
 (wShelters_q14 s c plan t fr k dJ0 ++ [(62, hvF), (73, hvI (k + 1))]) 0 [] []) [4, 5, 11, 13, 14, 15, 19, 21] [(2, KS.auto)] [] = some ⟨9, 249, wShelters_t0, [], .run, none, wShelters_v0 s c plan t fr (k + 1), wShelters_o0 s c plan t fr (k + 1),
 [wq (k + 1) = k + 1, ltq k (fr + inwI (List.drop fr.toNat (playL s plan (endE true s c))) 0) = false] ++ wShelters_p14 B s c plan t fr k dJ0⟩ := by kernel_rfl
theorem wShelters_s15 (B : Lo) (s : WShore) (c : WStorm) (plan : List Int) (t : WTruth) (fr : Int) (k : Int) (dJ0 : Nat → Value) : landM (srunT Try.prog (okFn Try.prog) J0 B 23 1 (headC 9 249 (([4, 5, 11, 13, 14, 15, 19, 21] : List Nat).zip (wShelters_v0 s c plan t fr k)) dJ0 wShelters_t0) (headH (wShelters_o0 s c plan t fr k)) (2 + (wShelters_o0 s c plan t fr k).length)
 (wShelters_q11 s c plan t fr k dJ0 ++ [(55, hvF), (73, hvI (k + 1))]) 0 [] []) [4, 5, 11, 13, 14, 15, 19, 21] [(2, KS.auto)] [] = some ⟨9, 249, wShelters_t0, [], .run, none, wShelters_v0 s c plan t fr (k + 1), wShelters_o0 s c plan t fr (k + 1),
 [wq (k + 1) = k + 1, (!ltq k fr) = false] ++ wShelters_p11 B s c plan t fr k dJ0⟩ := by kernel_rfl
noncomputable def wShelters_p16 (B : Lo) (s : WShore) (c : WStorm) (plan : List Int) (t : WTruth) (fr : Int) (k : Int) (dJ0 : Nat → Value) : List Prop := [(!ltq (WCell.floor (List.getD s.cells k.toNat default)) 0) = false] ++ wShelters_p9 B s c plan t fr k dJ0
noncomputable def wShelters_q16 (s : WShore) (c : WStorm) (plan : List Int) (t : WTruth) (fr : Int) (k : Int) (dJ0 : Nat → Value) : ScriptT := wShelters_q9 s c plan t fr k dJ0 ++ [(42, hvF)]
noncomputable def wShelters_p17 (B : Lo) (s : WShore) (c : WStorm) (plan : List Int) (t : WTruth) (fr : Int) (k : Int) (dJ0 : Nat → Value) : List Prop := [(!ltq k fr) = true] ++ wShelters_p16 B s c plan t fr k dJ0
noncomputable def wShelters_q17 (s : WShore) (c : WStorm) (plan : List Int) (t : WTruth) (fr : Int) (k : Int) (dJ0 : Nat → Value) : ScriptT := wShelters_q16 s c plan t fr k dJ0 ++ [(55, hvT)]
noncomputable def wShelters_p18 (B : Lo) (s : WShore) (c : WStorm) (plan : List Int) (t : WTruth) (fr : Int) (k : Int) (dJ0 : Nat → Value) : List Prop := [k = (↑k.toNat : Int) ∧ Int.toNat k < List.length (playL s plan (endE true s c)) ∧ Array.extract (rowL encI (playL s plan (endE true s c))) (Int.toNat k * TypeInfo.size Try.t3) (Int.toNat k * TypeInfo.size Try.t3 + TypeInfo.size Try.t3) = (wShelters_z11 s c plan k), (!eqq (if 0 ≤ inwI (List.drop fr.toNat (playL s plan (endE true s c))) 0 then 0 else 5) 0) = true] ++ wShelters_p17 B s c plan t fr k dJ0
noncomputable def wShelters_q18 (s : WShore) (c : WStorm) (plan : List Int) (t : WTruth) (fr : Int) (k : Int) (dJ0 : Nat → Value) : ScriptT := wShelters_q17 s c plan t fr k dJ0 ++ [(58, hvT), (68, HintT.tidx k.toNat (wShelters_z11 s c plan k))]
theorem wShelters_s16 (B : Lo) (s : WShore) (c : WStorm) (plan : List Int) (t : WTruth) (fr : Int) (k : Int) (dJ0 : Nat → Value) : endT (srunT Try.prog (okFn Try.prog) J0 B 23 1 (headC 9 249 (([4, 5, 11, 13, 14, 15, 19, 21] : List Nat).zip (wShelters_v0 s c plan t fr k)) dJ0 wShelters_t0) (headH (wShelters_o0 s c plan t fr k)) (2 + (wShelters_o0 s c plan t fr k).length)
 (wShelters_q18 s c plan t fr k dJ0 ++ [(70, hvT)]) 0 [] []) [] = some (Value.bool false,
 [eqq (List.getD (playL s plan (endE true s c)) k.toNat default) 0 = true] ++ wShelters_p18 B s c plan t fr k dJ0) := by kernel_rfl
theorem wShelters_s17 (B : Lo) (s : WShore) (c : WStorm) (plan : List Int) (t : WTruth) (fr : Int) (k : Int) (dJ0 : Nat → Value) : landM (srunT Try.prog (okFn Try.prog) J0 B 23 1 (headC 9 249 (([4, 5, 11, 13, 14, 15, 19, 21] : List Nat).zip (wShelters_v0 s c plan t fr k)) dJ0 wShelters_t0) (headH (wShelters_o0 s c plan t fr k)) (2 + (wShelters_o0 s c plan t fr k).length)
 (wShelters_q18 s c plan t fr k dJ0 ++ [(70, hvF), (73, hvI (k + 1))]) 0 [] []) [4, 5, 11, 13, 14, 15, 19, 21] [(2, KS.auto)] [] = some ⟨9, 249, wShelters_t0, [], .run, none, wShelters_v0 s c plan t fr (k + 1), wShelters_o0 s c plan t fr (k + 1),
 [wq (k + 1) = k + 1, eqq (List.getD (playL s plan (endE true s c)) k.toNat default) 0 = false] ++ wShelters_p18 B s c plan t fr k dJ0⟩ := by kernel_rfl
noncomputable def wShelters_p19 (B : Lo) (s : WShore) (c : WStorm) (plan : List Int) (t : WTruth) (fr : Int) (k : Int) (dJ0 : Nat → Value) : List Prop := [(!eqq (if 0 ≤ inwI (List.drop fr.toNat (playL s plan (endE true s c))) 0 then 0 else 5) 0) = false] ++ wShelters_p17 B s c plan t fr k dJ0
noncomputable def wShelters_q19 (s : WShore) (c : WStorm) (plan : List Int) (t : WTruth) (fr : Int) (k : Int) (dJ0 : Nat → Value) : ScriptT := wShelters_q17 s c plan t fr k dJ0 ++ [(58, hvF)]
noncomputable def wShelters_p20 (B : Lo) (s : WShore) (c : WStorm) (plan : List Int) (t : WTruth) (fr : Int) (k : Int) (dJ0 : Nat → Value) : List Prop := [k = (↑k.toNat : Int) ∧ Int.toNat k < List.length (playL s plan (endE true s c)) ∧ Array.extract (rowL encI (playL s plan (endE true s c))) (Int.toNat k * TypeInfo.size Try.t3) (Int.toNat k * TypeInfo.size Try.t3 + TypeInfo.size Try.t3) = (wShelters_z11 s c plan k), ltq k (fr + inwI (List.drop fr.toNat (playL s plan (endE true s c))) 0) = true] ++ wShelters_p19 B s c plan t fr k dJ0
noncomputable def wShelters_q20 (s : WShore) (c : WStorm) (plan : List Int) (t : WTruth) (fr : Int) (k : Int) (dJ0 : Nat → Value) : ScriptT := wShelters_q19 s c plan t fr k dJ0 ++ [(62, hvT), (68, HintT.tidx k.toNat (wShelters_z11 s c plan k))]
theorem wShelters_s18 (B : Lo) (s : WShore) (c : WStorm) (plan : List Int) (t : WTruth) (fr : Int) (k : Int) (dJ0 : Nat → Value) : endT (srunT Try.prog (okFn Try.prog) J0 B 23 1 (headC 9 249 (([4, 5, 11, 13, 14, 15, 19, 21] : List Nat).zip (wShelters_v0 s c plan t fr k)) dJ0 wShelters_t0) (headH (wShelters_o0 s c plan t fr k)) (2 + (wShelters_o0 s c plan t fr k).length)
 (wShelters_q20 s c plan t fr k dJ0 ++ [(70, hvT)]) 0 [] []) [] = some (Value.bool false,
 [eqq (List.getD (playL s plan (endE true s c)) k.toNat default) 0 = true] ++ wShelters_p20 B s c plan t fr k dJ0) := by kernel_rfl
theorem wShelters_s19 (B : Lo) (s : WShore) (c : WStorm) (plan : List Int) (t : WTruth) (fr : Int) (k : Int) (dJ0 : Nat → Value) : landM (srunT Try.prog (okFn Try.prog) J0 B 23 1 (headC 9 249 (([4, 5, 11, 13, 14, 15, 19, 21] : List Nat).zip (wShelters_v0 s c plan t fr k)) dJ0 wShelters_t0) (headH (wShelters_o0 s c plan t fr k)) (2 + (wShelters_o0 s c plan t fr k).length)
 (wShelters_q20 s c plan t fr k dJ0 ++ [(70, hvF), (73, hvI (k + 1))]) 0 [] []) [4, 5, 11, 13, 14, 15, 19, 21] [(2, KS.auto)] [] = some ⟨9, 249, wShelters_t0, [], .run, none, wShelters_v0 s c plan t fr (k + 1), wShelters_o0 s c plan t fr (k + 1),
 [wq (k + 1) = k + 1, eqq (List.getD (playL s plan (endE true s c)) k.toNat default) 0 = false] ++ wShelters_p20 B s c plan t fr k dJ0⟩ := by kernel_rfl
theorem wShelters_s20 (B : Lo) (s : WShore) (c : WStorm) (plan : List Int) (t : WTruth) (fr : Int) (k : Int) (dJ0 : Nat → Value) : landM (srunT Try.prog (okFn Try.prog) J0 B 23 1 (headC 9 249 (([4, 5, 11, 13, 14, 15, 19, 21] : List Nat).zip (wShelters_v0 s c plan t fr k)) dJ0 wShelters_t0) (headH (wShelters_o0 s c plan t fr k)) (2 + (wShelters_o0 s c plan t fr k).length)
 (wShelters_q19 s c plan t fr k dJ0 ++ [(62, hvF), (73, hvI (k + 1))]) 0 [] []) [4, 5, 11, 13, 14, 15, 19, 21] [(2, KS.auto)] [] = some ⟨9, 249, wShelters_t0, [], .run, none, wShelters_v0 s c plan t fr (k + 1), wShelters_o0 s c plan t fr (k + 1),
 [wq (k + 1) = k + 1, ltq k (fr + inwI (List.drop fr.toNat (playL s plan (endE true s c))) 0) = false] ++ wShelters_p19 B s c plan t fr k dJ0⟩ := by kernel_rfl
theorem wShelters_s21 (B : Lo) (s : WShore) (c : WStorm) (plan : List Int) (t : WTruth) (fr : Int) (k : Int) (dJ0 : Nat → Value) : landM (srunT Try.prog (okFn Try.prog) J0 B 23 1 (headC 9 249 (([4, 5, 11, 13, 14, 15, 19, 21] : List Nat).zip (wShelters_v0 s c plan t fr k)) dJ0 wShelters_t0) (headH (wShelters_o0 s c plan t fr k)) (2 + (wShelters_o0 s c plan t fr k).length)
 (wShelters_q16 s c plan t fr k dJ0 ++ [(55, hvF), (73, hvI (k + 1))]) 0 [] []) [4, 5, 11, 13, 14, 15, 19, 21] [(2, KS.auto)] [] = some ⟨9, 249, wShelters_t0, [], .run, none, wShelters_v0 s c plan t fr (k + 1), wShelters_o0 s c plan t fr (k + 1),
 [wq (k + 1) = k + 1, (!ltq k fr) = false] ++ wShelters_p16 B s c plan t fr k dJ0⟩ := by kernel_rfl
noncomputable def wShelters_p21 (B : Lo) (s : WShore) (c : WStorm) (plan : List Int) (t : WTruth) (fr : Int) (k : Int) (dJ0 : Nat → Value) : List Prop := [ltq k (↑s.cells.length : Int) = false] ++ ([] : List Prop)
noncomputable def wShelters_q21 (s : WShore) (c : WStorm) (plan : List Int) (t : WTruth) (fr : Int) (k : Int) (dJ0 : Nat → Value) : ScriptT := [(4, hvF)]
noncomputable def wShelters_p22 (B : Lo) (s : WShore) (c : WStorm) (plan : List Int) (t : WTruth) (fr : Int) (k : Int) (dJ0 : Nat → Value) : List Prop := [(!eqq (if 0 ≤ inwI (List.drop fr.toNat (playL s plan (endE true s c))) 0 then 0 else 5) 0) = true] ++ wShelters_p21 B s c plan t fr k dJ0
noncomputable def wShelters_q22 (s : WShore) (c : WStorm) (plan : List Int) (t : WTruth) (fr : Int) (k : Int) (dJ0 : Nat → Value) : ScriptT := wShelters_q21 s c plan t fr k dJ0 ++ [(6, hvT)]
theorem wShelters_s22 (B : Lo) (s : WShore) (c : WStorm) (plan : List Int) (t : WTruth) (fr : Int) (k : Int) (dJ0 : Nat → Value) : endT (srunT Try.prog (okFn Try.prog) J0 B 13 1 (headC 9 249 (([4, 5, 11, 13, 14, 15, 19, 21] : List Nat).zip (wShelters_v0 s c plan t fr k)) dJ0 wShelters_t0) (headH (wShelters_o0 s c plan t fr k)) (2 + (wShelters_o0 s c plan t fr k).length)
 (wShelters_q22 s c plan t fr k dJ0 ++ [(8, hvT), (10, HintT.pure (Value.bool true) [])]) 0 [] []) [] = some (Value.bool true,
 [AllP [] ∧ PureC Try.prog J0 15 #[] (Value.bool true), eqq (if 0 ≤ inwI (List.drop fr.toNat (playL s plan (endE true s c))) 0 then 0 else 5) 5 = true] ++ wShelters_p22 B s c plan t fr k dJ0) := by kernel_rfl
theorem wShelters_s23 (B : Lo) (s : WShore) (c : WStorm) (plan : List Int) (t : WTruth) (fr : Int) (k : Int) (dJ0 : Nat → Value) : endT (srunT Try.prog (okFn Try.prog) J0 B 13 1 (headC 9 249 (([4, 5, 11, 13, 14, 15, 19, 21] : List Nat).zip (wShelters_v0 s c plan t fr k)) dJ0 wShelters_t0) (headH (wShelters_o0 s c plan t fr k)) (2 + (wShelters_o0 s c plan t fr k).length)
 (wShelters_q22 s c plan t fr k dJ0 ++ [(8, hvF)]) 0 [] []) [] = some (Value.bool false,
 [eqq (if 0 ≤ inwI (List.drop fr.toNat (playL s plan (endE true s c))) 0 then 0 else 5) 5 = false] ++ wShelters_p22 B s c plan t fr k dJ0) := by kernel_rfl
noncomputable def wShelters_p23 (B : Lo) (s : WShore) (c : WStorm) (plan : List Int) (t : WTruth) (fr : Int) (k : Int) (dJ0 : Nat → Value) : List Prop := [(!eqq (if 0 ≤ inwI (List.drop fr.toNat (playL s plan (endE true s c))) 0 then 0 else 5) 0) = false] ++ wShelters_p21 B s c plan t fr k dJ0
noncomputable def wShelters_q23 (s : WShore) (c : WStorm) (plan : List Int) (t : WTruth) (fr : Int) (k : Int) (dJ0 : Nat → Value) : ScriptT := wShelters_q21 s c plan t fr k dJ0 ++ [(6, hvF)]
noncomputable def wShelters_p24 (B : Lo) (s : WShore) (c : WStorm) (plan : List Int) (t : WTruth) (fr : Int) (k : Int) (dJ0 : Nat → Value) : List Prop := [AllP [] ∧ PureC Try.prog J0 35 #[Value.agg (wShelters_z5 s), .int .i64 (fr + inwI (List.drop fr.toNat (playL s plan (endE true s c))) 0)] (Value.bool true)] ++ wShelters_p23 B s c plan t fr k dJ0
noncomputable def wShelters_q24 (s : WShore) (c : WStorm) (plan : List Int) (t : WTruth) (fr : Int) (k : Int) (dJ0 : Nat → Value) : ScriptT := wShelters_q23 s c plan t fr k dJ0 ++ [(9, HintT.pure (Value.bool true) [])]
noncomputable def wShelters_p25 (B : Lo) (s : WShore) (c : WStorm) (plan : List Int) (t : WTruth) (fr : Int) (k : Int) (dJ0 : Nat → Value) : List Prop := [fr + inwI (List.drop fr.toNat (playL s plan (endE true s c))) 0 = (↑(Int.toNat (fr + inwI (List.drop fr.toNat (playL s plan (endE true s c))) 0)) : Int) ∧ Int.toNat (fr + inwI (List.drop fr.toNat (playL s plan (endE true s c))) 0) < List.length (playL s plan t) ∧ Array.extract (rowL encI (playL s plan t)) (Int.toNat (fr + inwI (List.drop fr.toNat (playL s plan (endE true s c))) 0) * TypeInfo.size Try.t3) (Int.toNat (fr + inwI (List.drop fr.toNat (playL s plan (endE true s c))) 0) * TypeInfo.size Try.t3 + TypeInfo.size Try.t3) = #[.int .i64 (List.getD (playL s plan t) (Int.toNat (fr + inwI (List.drop fr.toNat (playL s plan (endE true s c))) 0)) default)], (!ltq (fr + inwI (List.drop fr.toNat (playL s plan (endE true s c))) 0) fr) = true] ++ wShelters_p24 B s c plan t fr k dJ0
noncomputable def wShelters_q25 (s : WShore) (c : WStorm) (plan : List Int) (t : WTruth) (fr : Int) (k : Int) (dJ0 : Nat → Value) : ScriptT := wShelters_q24 s c plan t fr k dJ0 ++ [(13, hvT), (18, HintT.tidx (Int.toNat (fr + inwI (List.drop fr.toNat (playL s plan (endE true s c))) 0)) #[.int .i64 (List.getD (playL s plan t) (Int.toNat (fr + inwI (List.drop fr.toNat (playL s plan (endE true s c))) 0)) default)])]
noncomputable def wShelters_p26 (B : Lo) (s : WShore) (c : WStorm) (plan : List Int) (t : WTruth) (fr : Int) (k : Int) (dJ0 : Nat → Value) : List Prop := [fr + inwI (List.drop fr.toNat (playL s plan (endE true s c))) 0 = (↑(Int.toNat (fr + inwI (List.drop fr.toNat (playL s plan (endE true s c))) 0)) : Int) ∧ Int.toNat (fr + inwI (List.drop fr.toNat (playL s plan (endE true s c))) 0) < List.length (playL s plan (endE true s c)) ∧ Array.extract (rowL encI (playL s plan (endE true s c))) (Int.toNat (fr + inwI (List.drop fr.toNat (playL s plan (endE true s c))) 0) * TypeInfo.size Try.t3) (Int.toNat (fr + inwI (List.drop fr.toNat (playL s plan (endE true s c))) 0) * TypeInfo.size Try.t3 + TypeInfo.size Try.t3) = #[.int .i64 (List.getD (playL s plan (endE true s c)) (Int.toNat (fr + inwI (List.drop fr.toNat (playL s plan (endE true s c))) 0)) default)], eqq (List.getD (playL s plan t) (Int.toNat (fr + inwI (List.drop fr.toNat (playL s plan (endE true s c))) 0)) default) 0 = true] ++ wShelters_p25 B s c plan t fr k dJ0
noncomputable def wShelters_q26 (s : WShore) (c : WStorm) (plan : List Int) (t : WTruth) (fr : Int) (k : Int) (dJ0 : Nat → Value) : ScriptT := wShelters_q25 s c plan t fr k dJ0 ++ [(20, hvT), (25, HintT.tidx (Int.toNat (fr + inwI (List.drop fr.toNat (playL s plan (endE true s c))) 0)) #[.int .i64 (List.getD (playL s plan (endE true s c)) (Int.toNat (fr + inwI (List.drop fr.toNat (playL s plan (endE true s c))) 0)) default)])]
theorem wShelters_s24 (B : Lo) (s : WShore) (c : WStorm) (plan : List Int) (t : WTruth) (fr : Int) (k : Int) (dJ0 : Nat → Value) : endT (srunT Try.prog (okFn Try.prog) J0 B 14 1 (headC 9 249 (([4, 5, 11, 13, 14, 15, 19, 21] : List Nat).zip (wShelters_v0 s c plan t fr k)) dJ0 wShelters_t0) (headH (wShelters_o0 s c plan t fr k)) (2 + (wShelters_o0 s c plan t fr k).length)
 (wShelters_q26 s c plan t fr k dJ0 ++ [(27, hvT), (30, HintT.pure (Value.bool true) [])]) 0 [] []) [] = some (Value.bool true,
 [AllP [] ∧ PureC Try.prog J0 15 #[] (Value.bool true), eqq (List.getD (playL s plan (endE true s c)) (Int.toNat (fr + inwI (List.drop fr.toNat (playL s plan (endE true s c))) 0)) default) 0 = true] ++ wShelters_p26 B s c plan t fr k dJ0) := by kernel_rfl
theorem wShelters_s25 (B : Lo) (s : WShore) (c : WStorm) (plan : List Int) (t : WTruth) (fr : Int) (k : Int) (dJ0 : Nat → Value) : endT (srunT Try.prog (okFn Try.prog) J0 B 14 1 (headC 9 249 (([4, 5, 11, 13, 14, 15, 19, 21] : List Nat).zip (wShelters_v0 s c plan t fr k)) dJ0 wShelters_t0) (headH (wShelters_o0 s c plan t fr k)) (2 + (wShelters_o0 s c plan t fr k).length)
 (wShelters_q26 s c plan t fr k dJ0 ++ [(27, hvF)]) 0 [] []) [] = some (Value.bool false,
 [eqq (List.getD (playL s plan (endE true s c)) (Int.toNat (fr + inwI (List.drop fr.toNat (playL s plan (endE true s c))) 0)) default) 0 = false] ++ wShelters_p26 B s c plan t fr k dJ0) := by kernel_rfl
theorem wShelters_s26 (B : Lo) (s : WShore) (c : WStorm) (plan : List Int) (t : WTruth) (fr : Int) (k : Int) (dJ0 : Nat → Value) : endT (srunT Try.prog (okFn Try.prog) J0 B 14 1 (headC 9 249 (([4, 5, 11, 13, 14, 15, 19, 21] : List Nat).zip (wShelters_v0 s c plan t fr k)) dJ0 wShelters_t0) (headH (wShelters_o0 s c plan t fr k)) (2 + (wShelters_o0 s c plan t fr k).length)
 (wShelters_q25 s c plan t fr k dJ0 ++ [(20, hvF)]) 0 [] []) [] = some (Value.bool false,
 [eqq (List.getD (playL s plan t) (Int.toNat (fr + inwI (List.drop fr.toNat (playL s plan (endE true s c))) 0)) default) 0 = false] ++ wShelters_p25 B s c plan t fr k dJ0) := by kernel_rfl
theorem wShelters_s27 (B : Lo) (s : WShore) (c : WStorm) (plan : List Int) (t : WTruth) (fr : Int) (k : Int) (dJ0 : Nat → Value) : endT (srunT Try.prog (okFn Try.prog) J0 B 14 1 (headC 9 249 (([4, 5, 11, 13, 14, 15, 19, 21] : List Nat).zip (wShelters_v0 s c plan t fr k)) dJ0 wShelters_t0) (headH (wShelters_o0 s c plan t fr k)) (2 + (wShelters_o0 s c plan t fr k).length)
 (wShelters_q24 s c plan t fr k dJ0 ++ [(13, hvF)]) 0 [] []) [] = some (Value.bool false,
 [(!ltq (fr + inwI (List.drop fr.toNat (playL s plan (endE true s c))) 0) fr) = false] ++ wShelters_p24 B s c plan t fr k dJ0) := by kernel_rfl
theorem wShelters_s28 (B : Lo) (s : WShore) (c : WStorm) (plan : List Int) (t : WTruth) (fr : Int) (k : Int) (dJ0 : Nat → Value) : endT (srunT Try.prog (okFn Try.prog) J0 B 14 1 (headC 9 249 (([4, 5, 11, 13, 14, 15, 19, 21] : List Nat).zip (wShelters_v0 s c plan t fr k)) dJ0 wShelters_t0) (headH (wShelters_o0 s c plan t fr k)) (2 + (wShelters_o0 s c plan t fr k).length)
 (wShelters_q23 s c plan t fr k dJ0 ++ [(9, HintT.pure (Value.bool false) [])]) 0 [] []) [] = some (Value.bool false,
 [AllP [] ∧ PureC Try.prog J0 35 #[Value.agg (wShelters_z5 s), .int .i64 (fr + inwI (List.drop fr.toNat (playL s plan (endE true s c))) 0)] (Value.bool false)] ++ wShelters_p23 B s c plan t fr k dJ0) := by kernel_rfl
noncomputable def wShelters_p27 (B : Lo) (s : WShore) (c : WStorm) (plan : List Int) (t : WTruth) (fr : Int) (k : Int) (dJ0 : Nat → Value) : List Prop := [k = (↑k.toNat : Int) ∧ Int.toNat k < List.length s.cells ∧ Array.extract (rowL encWCell s.cells) (Int.toNat k * TypeInfo.size Try.t59) (Int.toNat k * TypeInfo.size Try.t59 + TypeInfo.size Try.t59) = (wShelters_z3 s k), ltq k (↑s.cells.length : Int) = true] ++ ([] : List Prop)
noncomputable def wShelters_q27 (s : WShore) (c : WStorm) (plan : List Int) (t : WTruth) (fr : Int) (k : Int) (dJ0 : Nat → Value) : ScriptT := [(4, hvT), (8, HintT.tidx k.toNat (wShelters_z3 s k))]
noncomputable def wShelters_p28 (B : Lo) (s : WShore) (c : WStorm) (plan : List Int) (t : WTruth) (fr : Int) (k : Int) (dJ0 : Nat → Value) : List Prop := [AllP [] ∧ PureC Try.prog J0 37 (wShelters_z8 s c plan k) (Value.bool true)] ++ wShelters_p27 B s c plan t fr k dJ0
noncomputable def wShelters_q28 (s : WShore) (c : WStorm) (plan : List Int) (t : WTruth) (fr : Int) (k : Int) (dJ0 : Nat → Value) : ScriptT := wShelters_q27 s c plan t fr k dJ0 ++ [(14, HintT.pure (Value.bool true) [])]
theorem wShelters_s29 (B : Lo) (s : WShore) (c : WStorm) (plan : List Int) (t : WTruth) (fr : Int) (k : Int) (dJ0 : Nat → Value) : endT (srunT Try.prog (okFn Try.prog) J0 B 19 1 (headC 9 249 (([4, 5, 11, 13, 14, 15, 19, 21] : List Nat).zip (wShelters_v1 s c plan t fr k)) dJ0 wShelters_t1) (headH (wShelters_o1 s c plan t fr k)) (2 + (wShelters_o1 s c plan t fr k).length)
 (wShelters_q28 s c plan t fr k dJ0 ++ [(19, hvT)]) 0 [] []) [] = some (Value.bool false,
 [ltq (WCell.floor (List.getD s.cells k.toNat default)) 0 = true] ++ wShelters_p28 B s c plan t fr k dJ0) := by kernel_rfl
noncomputable def wShelters_p29 (B : Lo) (s : WShore) (c : WStorm) (plan : List Int) (t : WTruth) (fr : Int) (k : Int) (dJ0 : Nat → Value) : List Prop := [k = (↑k.toNat : Int) ∧ Int.toNat k < List.length (playL s plan t) ∧ Array.extract (rowL encI (playL s plan t)) (Int.toNat k * TypeInfo.size Try.t3) (Int.toNat k * TypeInfo.size Try.t3 + TypeInfo.size Try.t3) = (wShelters_z12 s plan t k), ltq (WCell.floor (List.getD s.cells k.toNat default)) 0 = false] ++ wShelters_p28 B s c plan t fr k dJ0
noncomputable def wShelters_q29 (s : WShore) (c : WStorm) (plan : List Int) (t : WTruth) (fr : Int) (k : Int) (dJ0 : Nat → Value) : ScriptT := wShelters_q28 s c plan t fr k dJ0 ++ [(19, hvF), (23, HintT.tidx k.toNat (wShelters_z12 s plan t k))]
theorem wShelters_s30 (B : Lo) (s : WShore) (c : WStorm) (plan : List Int) (t : WTruth) (fr : Int) (k : Int) (dJ0 : Nat → Value) : endT (srunT Try.prog (okFn Try.prog) J0 B 19 1 (headC 9 249 (([4, 5, 11, 13, 14, 15, 19, 21] : List Nat).zip (wShelters_v1 s c plan t fr k)) dJ0 wShelters_t1) (headH (wShelters_o1 s c plan t fr k)) (2 + (wShelters_o1 s c plan t fr k).length)
 (wShelters_q29 s c plan t fr k dJ0 ++ [(26, hvT)]) 0 [] []) [] = some (Value.bool false,
 [ltq (WCell.floor (List.getD s.cells k.toNat default)) (List.getD (playL s plan t) k.toNat default) = true] ++ wShelters_p29 B s c plan t fr k dJ0) := by kernel_rfl
noncomputable def wShelters_p30 (B : Lo) (s : WShore) (c : WStorm) (plan : List Int) (t : WTruth) (fr : Int) (k : Int) (dJ0 : Nat → Value) : List Prop := [k = (↑k.toNat : Int) ∧ Int.toNat k < List.length (playL s plan (endE true s c)) ∧ Array.extract (rowL encI (playL s plan (endE true s c))) (Int.toNat k * TypeInfo.size Try.t3) (Int.toNat k * TypeInfo.size Try.t3 + TypeInfo.size Try.t3) = (wShelters_z11 s c plan k), ltq (WCell.floor (List.getD s.cells k.toNat default)) (List.getD (playL s plan t) k.toNat default) = false] ++ wShelters_p29 B s c plan t fr k dJ0
noncomputable def wShelters_q30 (s : WShore) (c : WStorm) (plan : List Int) (t : WTruth) (fr : Int) (k : Int) (dJ0 : Nat → Value) : ScriptT := wShelters_q29 s c plan t fr k dJ0 ++ [(26, hvF), (31, HintT.tidx k.toNat (wShelters_z11 s c plan k))]
theorem wShelters_s31 (B : Lo) (s : WShore) (c : WStorm) (plan : List Int) (t : WTruth) (fr : Int) (k : Int) (dJ0 : Nat → Value) : endT (srunT Try.prog (okFn Try.prog) J0 B 19 1 (headC 9 249 (([4, 5, 11, 13, 14, 15, 19, 21] : List Nat).zip (wShelters_v1 s c plan t fr k)) dJ0 wShelters_t1) (headH (wShelters_o1 s c plan t fr k)) (2 + (wShelters_o1 s c plan t fr k).length)
 (wShelters_q30 s c plan t fr k dJ0 ++ [(34, hvT)]) 0 [] []) [] = some (Value.bool false,
 [ltq (WCell.floor (List.getD s.cells k.toNat default)) (List.getD (playL s plan (endE true s c)) k.toNat default) = true] ++ wShelters_p30 B s c plan t fr k dJ0) := by kernel_rfl
noncomputable def wShelters_p31 (B : Lo) (s : WShore) (c : WStorm) (plan : List Int) (t : WTruth) (fr : Int) (k : Int) (dJ0 : Nat → Value) : List Prop := [ltq (WCell.floor (List.getD s.cells k.toNat default)) (List.getD (playL s plan (endE true s c)) k.toNat default) = false] ++ wShelters_p30 B s c plan t fr k dJ0
noncomputable def wShelters_q31 (s : WShore) (c : WStorm) (plan : List Int) (t : WTruth) (fr : Int) (k : Int) (dJ0 : Nat → Value) : ScriptT := wShelters_q30 s c plan t fr k dJ0 ++ [(34, hvF)]
noncomputable def wShelters_p32 (B : Lo) (s : WShore) (c : WStorm) (plan : List Int) (t : WTruth) (fr : Int) (k : Int) (dJ0 : Nat → Value) : List Prop := [(!ltq k fr) = true] ++ wShelters_p31 B s c plan t fr k dJ0
noncomputable def wShelters_q32 (s : WShore) (c : WStorm) (plan : List Int) (t : WTruth) (fr : Int) (k : Int) (dJ0 : Nat → Value) : ScriptT := wShelters_q31 s c plan t fr k dJ0 ++ [(55, hvT)]
noncomputable def wShelters_p33 (B : Lo) (s : WShore) (c : WStorm) (plan : List Int) (t : WTruth) (fr : Int) (k : Int) (dJ0 : Nat → Value) : List Prop := [k = (↑k.toNat : Int) ∧ Int.toNat k < List.length (playL s plan (endE true s c)) ∧ Array.extract (rowL encI (playL s plan (endE true s c))) (Int.toNat k * TypeInfo.size Try.t3) (Int.toNat k * TypeInfo.size Try.t3 + TypeInfo.size Try.t3) = (wShelters_z11 s c plan k), (!eqq (if 0 ≤ inwI (List.drop fr.toNat (playL s plan (endE true s c))) 0 then 0 else 5) 0) = true] ++ wShelters_p32 B s c plan t fr k dJ0
noncomputable def wShelters_q33 (s : WShore) (c : WStorm) (plan : List Int) (t : WTruth) (fr : Int) (k : Int) (dJ0 : Nat → Value) : ScriptT := wShelters_q32 s c plan t fr k dJ0 ++ [(58, hvT), (68, HintT.tidx k.toNat (wShelters_z11 s c plan k))]
theorem wShelters_s32 (B : Lo) (s : WShore) (c : WStorm) (plan : List Int) (t : WTruth) (fr : Int) (k : Int) (dJ0 : Nat → Value) : endT (srunT Try.prog (okFn Try.prog) J0 B 23 1 (headC 9 249 (([4, 5, 11, 13, 14, 15, 19, 21] : List Nat).zip (wShelters_v1 s c plan t fr k)) dJ0 wShelters_t1) (headH (wShelters_o1 s c plan t fr k)) (2 + (wShelters_o1 s c plan t fr k).length)
 (wShelters_q33 s c plan t fr k dJ0 ++ [(70, hvT)]) 0 [] []) [] = some (Value.bool false,
 [eqq (List.getD (playL s plan (endE true s c)) k.toNat default) 0 = true] ++ wShelters_p33 B s c plan t fr k dJ0) := by kernel_rfl
theorem wShelters_s33 (B : Lo) (s : WShore) (c : WStorm) (plan : List Int) (t : WTruth) (fr : Int) (k : Int) (dJ0 : Nat → Value) : landM (srunT Try.prog (okFn Try.prog) J0 B 23 1 (headC 9 249 (([4, 5, 11, 13, 14, 15, 19, 21] : List Nat).zip (wShelters_v1 s c plan t fr k)) dJ0 wShelters_t1) (headH (wShelters_o1 s c plan t fr k)) (2 + (wShelters_o1 s c plan t fr k).length)
 (wShelters_q33 s c plan t fr k dJ0 ++ [(70, hvF), (73, hvI (k + 1))]) 0 [] []) [4, 5, 11, 13, 14, 15, 19, 21] [(2, KS.auto)] [] = some ⟨9, 249, wShelters_t1, [], .run, none, wShelters_v1 s c plan t fr (k + 1), wShelters_o1 s c plan t fr (k + 1),
 [wq (k + 1) = k + 1, eqq (List.getD (playL s plan (endE true s c)) k.toNat default) 0 = false] ++ wShelters_p33 B s c plan t fr k dJ0⟩ := by kernel_rfl
noncomputable def wShelters_p34 (B : Lo) (s : WShore) (c : WStorm) (plan : List Int) (t : WTruth) (fr : Int) (k : Int) (dJ0 : Nat → Value) : List Prop := [(!eqq (if 0 ≤ inwI (List.drop fr.toNat (playL s plan (endE true s c))) 0 then 0 else 5) 0) = false] ++ wShelters_p32 B s c plan t fr k dJ0
noncomputable def wShelters_q34 (s : WShore) (c : WStorm) (plan : List Int) (t : WTruth) (fr : Int) (k : Int) (dJ0 : Nat → Value) : ScriptT := wShelters_q32 s c plan t fr k dJ0 ++ [(58, hvF)]
noncomputable def wShelters_p35 (B : Lo) (s : WShore) (c : WStorm) (plan : List Int) (t : WTruth) (fr : Int) (k : Int) (dJ0 : Nat → Value) : List Prop := [k = (↑k.toNat : Int) ∧ Int.toNat k < List.length (playL s plan (endE true s c)) ∧ Array.extract (rowL encI (playL s plan (endE true s c))) (Int.toNat k * TypeInfo.size Try.t3) (Int.toNat k * TypeInfo.size Try.t3 + TypeInfo.size Try.t3) = (wShelters_z11 s c plan k), ltq k 0 = true] ++ wShelters_p34 B s c plan t fr k dJ0
noncomputable def wShelters_q35 (s : WShore) (c : WStorm) (plan : List Int) (t : WTruth) (fr : Int) (k : Int) (dJ0 : Nat → Value) : ScriptT := wShelters_q34 s c plan t fr k dJ0 ++ [(62, hvT), (68, HintT.tidx k.toNat (wShelters_z11 s c plan k))]
theorem wShelters_s34 (B : Lo) (s : WShore) (c : WStorm) (plan : List Int) (t : WTruth) (fr : Int) (k : Int) (dJ0 : Nat → Value) : endT (srunT Try.prog (okFn Try.prog) J0 B 23 1 (headC 9 249 (([4, 5, 11, 13, 14, 15, 19, 21] : List Nat).zip (wShelters_v1 s c plan t fr k)) dJ0 wShelters_t1) (headH (wShelters_o1 s c plan t fr k)) (2 + (wShelters_o1 s c plan t fr k).length)
 (wShelters_q35 s c plan t fr k dJ0 ++ [(70, hvT)]) 0 [] []) [] = some (Value.bool false,
 [eqq (List.getD (playL s plan (endE true s c)) k.toNat default) 0 = true] ++ wShelters_p35 B s c plan t fr k dJ0) := by kernel_rfl
theorem wShelters_s35 (B : Lo) (s : WShore) (c : WStorm) (plan : List Int) (t : WTruth) (fr : Int) (k : Int) (dJ0 : Nat → Value) : landM (srunT Try.prog (okFn Try.prog) J0 B 23 1 (headC 9 249 (([4, 5, 11, 13, 14, 15, 19, 21] : List Nat).zip (wShelters_v1 s c plan t fr k)) dJ0 wShelters_t1) (headH (wShelters_o1 s c plan t fr k)) (2 + (wShelters_o1 s c plan t fr k).length)
 (wShelters_q35 s c plan t fr k dJ0 ++ [(70, hvF), (73, hvI (k + 1))]) 0 [] []) [4, 5, 11, 13, 14, 15, 19, 21] [(2, KS.auto)] [] = some ⟨9, 249, wShelters_t1, [], .run, none, wShelters_v1 s c plan t fr (k + 1), wShelters_o1 s c plan t fr (k + 1),
 [wq (k + 1) = k + 1, eqq (List.getD (playL s plan (endE true s c)) k.toNat default) 0 = false] ++ wShelters_p35 B s c plan t fr k dJ0⟩ := by kernel_rfl
theorem wShelters_s36 (B : Lo) (s : WShore) (c : WStorm) (plan : List Int) (t : WTruth) (fr : Int) (k : Int) (dJ0 : Nat → Value) : landM (srunT Try.prog (okFn Try.prog) J0 B 23 1 (headC 9 249 (([4, 5, 11, 13, 14, 15, 19, 21] : List Nat).zip (wShelters_v1 s c plan t fr k)) dJ0 wShelters_t1) (headH (wShelters_o1 s c plan t fr k)) (2 + (wShelters_o1 s c plan t fr k).length)
 (wShelters_q34 s c plan t fr k dJ0 ++ [(62, hvF), (73, hvI (k + 1))]) 0 [] []) [4, 5, 11, 13, 14, 15, 19, 21] [(2, KS.auto)] [] = some ⟨9, 249, wShelters_t1, [], .run, none, wShelters_v1 s c plan t fr (k + 1), wShelters_o1 s c plan t fr (k + 1),
 [wq (k + 1) = k + 1, ltq k 0 = false] ++ wShelters_p34 B s c plan t fr k dJ0⟩ := by kernel_rfl
theorem wShelters_s37 (B : Lo) (s : WShore) (c : WStorm) (plan : List Int) (t : WTruth) (fr : Int) (k : Int) (dJ0 : Nat → Value) : landM (srunT Try.prog (okFn Try.prog) J0 B 23 1 (headC 9 249 (([4, 5, 11, 13, 14, 15, 19, 21] : List Nat).zip (wShelters_v1 s c plan t fr k)) dJ0 wShelters_t1) (headH (wShelters_o1 s c plan t fr k)) (2 + (wShelters_o1 s c plan t fr k).length)
 (wShelters_q31 s c plan t fr k dJ0 ++ [(55, hvF), (73, hvI (k + 1))]) 0 [] []) [4, 5, 11, 13, 14, 15, 19, 21] [(2, KS.auto)] [] = some ⟨9, 249, wShelters_t1, [], .run, none, wShelters_v1 s c plan t fr (k + 1), wShelters_o1 s c plan t fr (k + 1),
 [wq (k + 1) = k + 1, (!ltq k fr) = false] ++ wShelters_p31 B s c plan t fr k dJ0⟩ := by kernel_rfl
noncomputable def wShelters_p36 (B : Lo) (s : WShore) (c : WStorm) (plan : List Int) (t : WTruth) (fr : Int) (k : Int) (dJ0 : Nat → Value) : List Prop := [AllP [] ∧ PureC Try.prog J0 37 (wShelters_z8 s c plan k) (Value.bool false)] ++ wShelters_p27 B s c plan t fr k dJ0
noncomputable def wShelters_q36 (s : WShore) (c : WStorm) (plan : List Int) (t : WTruth) (fr : Int) (k : Int) (dJ0 : Nat → Value) : ScriptT := wShelters_q27 s c plan t fr k dJ0 ++ [(14, HintT.pure (Value.bool false) [])]
noncomputable def wShelters_p37 (B : Lo) (s : WShore) (c : WStorm) (plan : List Int) (t : WTruth) (fr : Int) (k : Int) (dJ0 : Nat → Value) : List Prop := [k = (↑k.toNat : Int) ∧ Int.toNat k < List.length (playL s plan (endE true s c)) ∧ Array.extract (rowL encI (playL s plan (endE true s c))) (Int.toNat k * TypeInfo.size Try.t3) (Int.toNat k * TypeInfo.size Try.t3 + TypeInfo.size Try.t3) = (wShelters_z11 s c plan k), (!ltq (WCell.floor (List.getD s.cells k.toNat default)) 0) = true] ++ wShelters_p36 B s c plan t fr k dJ0
noncomputable def wShelters_q37 (s : WShore) (c : WStorm) (plan : List Int) (t : WTruth) (fr : Int) (k : Int) (dJ0 : Nat → Value) : ScriptT := wShelters_q36 s c plan t fr k dJ0 ++ [(42, hvT), (47, HintT.tidx k.toNat (wShelters_z11 s c plan k))]
theorem wShelters_s38 (B : Lo) (s : WShore) (c : WStorm) (plan : List Int) (t : WTruth) (fr : Int) (k : Int) (dJ0 : Nat → Value) : endT (srunT Try.prog (okFn Try.prog) J0 B 19 1 (headC 9 249 (([4, 5, 11, 13, 14, 15, 19, 21] : List Nat).zip (wShelters_v1 s c plan t fr k)) dJ0 wShelters_t1) (headH (wShelters_o1 s c plan t fr k)) (2 + (wShelters_o1 s c plan t fr k).length)
 (wShelters_q37 s c plan t fr k dJ0 ++ [(50, hvT)]) 0 [] []) [] = some (Value.bool false,
 [(!ltq (WCell.floor (List.getD s.cells k.toNat default)) (List.getD (playL s plan (endE true s c)) k.toNat default)) = true] ++ wShelters_p37 B s c plan t fr k dJ0) := by kernel_rfl
noncomputable def wShelters_p38 (B : Lo) (s : WShore) (c : WStorm) (plan : List Int) (t : WTruth) (fr : Int) (k : Int) (dJ0 : Nat → Value) : List Prop := [(!ltq (WCell.floor (List.getD s.cells k.toNat default)) (List.getD (playL s plan (endE true s c)) k.toNat default)) = false] ++ wShelters_p37 B s c plan t fr k dJ0
noncomputable def wShelters_q38 (s : WShore) (c : WStorm) (plan : List Int) (t : WTruth) (fr : Int) (k : Int) (dJ0 : Nat → Value) : ScriptT := wShelters_q37 s c plan t fr k dJ0 ++ [(50, hvF)]
noncomputable def wShelters_p39 (B : Lo) (s : WShore) (c : WStorm) (plan : List Int) (t : WTruth) (fr : Int) (k : Int) (dJ0 : Nat → Value) : List Prop := [(!ltq k fr) = true] ++ wShelters_p38 B s c plan t fr k dJ0
noncomputable def wShelters_q39 (s : WShore) (c : WStorm) (plan : List Int) (t : WTruth) (fr : Int) (k : Int) (dJ0 : Nat → Value) : ScriptT := wShelters_q38 s c plan t fr k dJ0 ++ [(55, hvT)]
noncomputable def wShelters_p40 (B : Lo) (s : WShore) (c : WStorm) (plan : List Int) (t : WTruth) (fr : Int) (k : Int) (dJ0 : Nat → Value) : List Prop := [k = (↑k.toNat : Int) ∧ Int.toNat k < List.length (playL s plan (endE true s c)) ∧ Array.extract (rowL encI (playL s plan (endE true s c))) (Int.toNat k * TypeInfo.size Try.t3) (Int.toNat k * TypeInfo.size Try.t3 + TypeInfo.size Try.t3) = (wShelters_z11 s c plan k), (!eqq (if 0 ≤ inwI (List.drop fr.toNat (playL s plan (endE true s c))) 0 then 0 else 5) 0) = true] ++ wShelters_p39 B s c plan t fr k dJ0
noncomputable def wShelters_q40 (s : WShore) (c : WStorm) (plan : List Int) (t : WTruth) (fr : Int) (k : Int) (dJ0 : Nat → Value) : ScriptT := wShelters_q39 s c plan t fr k dJ0 ++ [(58, hvT), (68, HintT.tidx k.toNat (wShelters_z11 s c plan k))]
theorem wShelters_s39 (B : Lo) (s : WShore) (c : WStorm) (plan : List Int) (t : WTruth) (fr : Int) (k : Int) (dJ0 : Nat → Value) : endT (srunT Try.prog (okFn Try.prog) J0 B 23 1 (headC 9 249 (([4, 5, 11, 13, 14, 15, 19, 21] : List Nat).zip (wShelters_v1 s c plan t fr k)) dJ0 wShelters_t1) (headH (wShelters_o1 s c plan t fr k)) (2 + (wShelters_o1 s c plan t fr k).length)
 (wShelters_q40 s c plan t fr k dJ0 ++ [(70, hvT)]) 0 [] []) [] = some (Value.bool false,
 [eqq (List.getD (playL s plan (endE true s c)) k.toNat default) 0 = true] ++ wShelters_p40 B s c plan t fr k dJ0) := by kernel_rfl
theorem wShelters_s40 (B : Lo) (s : WShore) (c : WStorm) (plan : List Int) (t : WTruth) (fr : Int) (k : Int) (dJ0 : Nat → Value) : landM (srunT Try.prog (okFn Try.prog) J0 B 23 1 (headC 9 249 (([4, 5, 11, 13, 14, 15, 19, 21] : List Nat).zip (wShelters_v1 s c plan t fr k)) dJ0 wShelters_t1) (headH (wShelters_o1 s c plan t fr k)) (2 + (wShelters_o1 s c plan t fr k).length)
 (wShelters_q40 s c plan t fr k dJ0 ++ [(70, hvF), (73, hvI (k + 1))]) 0 [] []) [4, 5, 11, 13, 14, 15, 19, 21] [(2, KS.auto)] [] = some ⟨9, 249, wShelters_t1, [], .run, none, wShelters_v1 s c plan t fr (k + 1), wShelters_o1 s c plan t fr (k + 1),
 [wq (k + 1) = k + 1, eqq (List.getD (playL s plan (endE true s c)) k.toNat default) 0 = false] ++ wShelters_p40 B s c plan t fr k dJ0⟩ := by kernel_rfl
noncomputable def wShelters_p41 (B : Lo) (s : WShore) (c : WStorm) (plan : List Int) (t : WTruth) (fr : Int) (k : Int) (dJ0 : Nat → Value) : List Prop := [(!eqq (if 0 ≤ inwI (List.drop fr.toNat (playL s plan (endE true s c))) 0 then 0 else 5) 0) = false] ++ wShelters_p39 B s c plan t fr k dJ0
noncomputable def wShelters_q41 (s : WShore) (c : WStorm) (plan : List Int) (t : WTruth) (fr : Int) (k : Int) (dJ0 : Nat → Value) : ScriptT := wShelters_q39 s c plan t fr k dJ0 ++ [(58, hvF)]
noncomputable def wShelters_p42 (B : Lo) (s : WShore) (c : WStorm) (plan : List Int) (t : WTruth) (fr : Int) (k : Int) (dJ0 : Nat → Value) : List Prop := [k = (↑k.toNat : Int) ∧ Int.toNat k < List.length (playL s plan (endE true s c)) ∧ Array.extract (rowL encI (playL s plan (endE true s c))) (Int.toNat k * TypeInfo.size Try.t3) (Int.toNat k * TypeInfo.size Try.t3 + TypeInfo.size Try.t3) = (wShelters_z11 s c plan k), ltq k 0 = true] ++ wShelters_p41 B s c plan t fr k dJ0
noncomputable def wShelters_q42 (s : WShore) (c : WStorm) (plan : List Int) (t : WTruth) (fr : Int) (k : Int) (dJ0 : Nat → Value) : ScriptT := wShelters_q41 s c plan t fr k dJ0 ++ [(62, hvT), (68, HintT.tidx k.toNat (wShelters_z11 s c plan k))]
theorem wShelters_s41 (B : Lo) (s : WShore) (c : WStorm) (plan : List Int) (t : WTruth) (fr : Int) (k : Int) (dJ0 : Nat → Value) : endT (srunT Try.prog (okFn Try.prog) J0 B 23 1 (headC 9 249 (([4, 5, 11, 13, 14, 15, 19, 21] : List Nat).zip (wShelters_v1 s c plan t fr k)) dJ0 wShelters_t1) (headH (wShelters_o1 s c plan t fr k)) (2 + (wShelters_o1 s c plan t fr k).length)
 (wShelters_q42 s c plan t fr k dJ0 ++ [(70, hvT)]) 0 [] []) [] = some (Value.bool false,
 [eqq (List.getD (playL s plan (endE true s c)) k.toNat default) 0 = true] ++ wShelters_p42 B s c plan t fr k dJ0) := by kernel_rfl
theorem wShelters_s42 (B : Lo) (s : WShore) (c : WStorm) (plan : List Int) (t : WTruth) (fr : Int) (k : Int) (dJ0 : Nat → Value) : landM (srunT Try.prog (okFn Try.prog) J0 B 23 1 (headC 9 249 (([4, 5, 11, 13, 14, 15, 19, 21] : List Nat).zip (wShelters_v1 s c plan t fr k)) dJ0 wShelters_t1) (headH (wShelters_o1 s c plan t fr k)) (2 + (wShelters_o1 s c plan t fr k).length)
 (wShelters_q42 s c plan t fr k dJ0 ++ [(70, hvF), (73, hvI (k + 1))]) 0 [] []) [4, 5, 11, 13, 14, 15, 19, 21] [(2, KS.auto)] [] = some ⟨9, 249, wShelters_t1, [], .run, none, wShelters_v1 s c plan t fr (k + 1), wShelters_o1 s c plan t fr (k + 1),
 [wq (k + 1) = k + 1, eqq (List.getD (playL s plan (endE true s c)) k.toNat default) 0 = false] ++ wShelters_p42 B s c plan t fr k dJ0⟩ := by kernel_rfl
theorem wShelters_s43 (B : Lo) (s : WShore) (c : WStorm) (plan : List Int) (t : WTruth) (fr : Int) (k : Int) (dJ0 : Nat → Value) : landM (srunT Try.prog (okFn Try.prog) J0 B 23 1 (headC 9 249 (([4, 5, 11, 13, 14, 15, 19, 21] : List Nat).zip (wShelters_v1 s c plan t fr k)) dJ0 wShelters_t1) (headH (wShelters_o1 s c plan t fr k)) (2 + (wShelters_o1 s c plan t fr k).length)
 (wShelters_q41 s c plan t fr k dJ0 ++ [(62, hvF), (73, hvI (k + 1))]) 0 [] []) [4, 5, 11, 13, 14, 15, 19, 21] [(2, KS.auto)] [] = some ⟨9, 249, wShelters_t1, [], .run, none, wShelters_v1 s c plan t fr (k + 1), wShelters_o1 s c plan t fr (k + 1),
 [wq (k + 1) = k + 1, ltq k 0 = false] ++ wShelters_p41 B s c plan t fr k dJ0⟩ := by kernel_rfl
theorem wShelters_s44 (B : Lo) (s : WShore) (c : WStorm) (plan : List Int) (t : WTruth) (fr : Int) (k : Int) (dJ0 : Nat → Value) : landM (srunT Try.prog (okFn Try.prog) J0 B 23 1 (headC 9 249 (([4, 5, 11, 13, 14, 15, 19, 21] : List Nat).zip (wShelters_v1 s c plan t fr k)) dJ0 wShelters_t1) (headH (wShelters_o1 s c plan t fr k)) (2 + (wShelters_o1 s c plan t fr k).length)
 (wShelters_q38 s c plan t fr k dJ0 ++ [(55, hvF), (73, hvI (k + 1))]) 0 [] []) [4, 5, 11, 13, 14, 15, 19, 21] [(2, KS.auto)] [] = some ⟨9, 249, wShelters_t1, [], .run, none, wShelters_v1 s c plan t fr (k + 1), wShelters_o1 s c plan t fr (k + 1),
 [wq (k + 1) = k + 1, (!ltq k fr) = false] ++ wShelters_p38 B s c plan t fr k dJ0⟩ := by kernel_rfl
noncomputable def wShelters_p43 (B : Lo) (s : WShore) (c : WStorm) (plan : List Int) (t : WTruth) (fr : Int) (k : Int) (dJ0 : Nat → Value) : List Prop := [(!ltq (WCell.floor (List.getD s.cells k.toNat default)) 0) = false] ++ wShelters_p36 B s c plan t fr k dJ0
noncomputable def wShelters_q43 (s : WShore) (c : WStorm) (plan : List Int) (t : WTruth) (fr : Int) (k : Int) (dJ0 : Nat → Value) : ScriptT := wShelters_q36 s c plan t fr k dJ0 ++ [(42, hvF)]
noncomputable def wShelters_p44 (B : Lo) (s : WShore) (c : WStorm) (plan : List Int) (t : WTruth) (fr : Int) (k : Int) (dJ0 : Nat → Value) : List Prop := [(!ltq k fr) = true] ++ wShelters_p43 B s c plan t fr k dJ0
noncomputable def wShelters_q44 (s : WShore) (c : WStorm) (plan : List Int) (t : WTruth) (fr : Int) (k : Int) (dJ0 : Nat → Value) : ScriptT := wShelters_q43 s c plan t fr k dJ0 ++ [(55, hvT)]
noncomputable def wShelters_p45 (B : Lo) (s : WShore) (c : WStorm) (plan : List Int) (t : WTruth) (fr : Int) (k : Int) (dJ0 : Nat → Value) : List Prop := [k = (↑k.toNat : Int) ∧ Int.toNat k < List.length (playL s plan (endE true s c)) ∧ Array.extract (rowL encI (playL s plan (endE true s c))) (Int.toNat k * TypeInfo.size Try.t3) (Int.toNat k * TypeInfo.size Try.t3 + TypeInfo.size Try.t3) = (wShelters_z11 s c plan k), (!eqq (if 0 ≤ inwI (List.drop fr.toNat (playL s plan (endE true s c))) 0 then 0 else 5) 0) = true] ++ wShelters_p44 B s c plan t fr k dJ0
noncomputable def wShelters_q45 (s : WShore) (c : WStorm) (plan : List Int) (t : WTruth) (fr : Int) (k : Int) (dJ0 : Nat → Value) : ScriptT := wShelters_q44 s c plan t fr k dJ0 ++ [(58, hvT), (68, HintT.tidx k.toNat (wShelters_z11 s c plan k))]
theorem wShelters_s45 (B : Lo) (s : WShore) (c : WStorm) (plan : List Int) (t : WTruth) (fr : Int) (k : Int) (dJ0 : Nat → Value) : endT (srunT Try.prog (okFn Try.prog) J0 B 23 1 (headC 9 249 (([4, 5, 11, 13, 14, 15, 19, 21] : List Nat).zip (wShelters_v1 s c plan t fr k)) dJ0 wShelters_t1) (headH (wShelters_o1 s c plan t fr k)) (2 + (wShelters_o1 s c plan t fr k).length)
 (wShelters_q45 s c plan t fr k dJ0 ++ [(70, hvT)]) 0 [] []) [] = some (Value.bool false,
 [eqq (List.getD (playL s plan (endE true s c)) k.toNat default) 0 = true] ++ wShelters_p45 B s c plan t fr k dJ0) := by kernel_rfl
theorem wShelters_s46 (B : Lo) (s : WShore) (c : WStorm) (plan : List Int) (t : WTruth) (fr : Int) (k : Int) (dJ0 : Nat → Value) : landM (srunT Try.prog (okFn Try.prog) J0 B 23 1 (headC 9 249 (([4, 5, 11, 13, 14, 15, 19, 21] : List Nat).zip (wShelters_v1 s c plan t fr k)) dJ0 wShelters_t1) (headH (wShelters_o1 s c plan t fr k)) (2 + (wShelters_o1 s c plan t fr k).length)
 (wShelters_q45 s c plan t fr k dJ0 ++ [(70, hvF), (73, hvI (k + 1))]) 0 [] []) [4, 5, 11, 13, 14, 15, 19, 21] [(2, KS.auto)] [] = some ⟨9, 249, wShelters_t1, [], .run, none, wShelters_v1 s c plan t fr (k + 1), wShelters_o1 s c plan t fr (k + 1),
 [wq (k + 1) = k + 1, eqq (List.getD (playL s plan (endE true s c)) k.toNat default) 0 = false] ++ wShelters_p45 B s c plan t fr k dJ0⟩ := by kernel_rfl
noncomputable def wShelters_p46 (B : Lo) (s : WShore) (c : WStorm) (plan : List Int) (t : WTruth) (fr : Int) (k : Int) (dJ0 : Nat → Value) : List Prop := [(!eqq (if 0 ≤ inwI (List.drop fr.toNat (playL s plan (endE true s c))) 0 then 0 else 5) 0) = false] ++ wShelters_p44 B s c plan t fr k dJ0
noncomputable def wShelters_q46 (s : WShore) (c : WStorm) (plan : List Int) (t : WTruth) (fr : Int) (k : Int) (dJ0 : Nat → Value) : ScriptT := wShelters_q44 s c plan t fr k dJ0 ++ [(58, hvF)]
noncomputable def wShelters_p47 (B : Lo) (s : WShore) (c : WStorm) (plan : List Int) (t : WTruth) (fr : Int) (k : Int) (dJ0 : Nat → Value) : List Prop := [k = (↑k.toNat : Int) ∧ Int.toNat k < List.length (playL s plan (endE true s c)) ∧ Array.extract (rowL encI (playL s plan (endE true s c))) (Int.toNat k * TypeInfo.size Try.t3) (Int.toNat k * TypeInfo.size Try.t3 + TypeInfo.size Try.t3) = (wShelters_z11 s c plan k), ltq k 0 = true] ++ wShelters_p46 B s c plan t fr k dJ0
noncomputable def wShelters_q47 (s : WShore) (c : WStorm) (plan : List Int) (t : WTruth) (fr : Int) (k : Int) (dJ0 : Nat → Value) : ScriptT := wShelters_q46 s c plan t fr k dJ0 ++ [(62, hvT), (68, HintT.tidx k.toNat (wShelters_z11 s c plan k))]
theorem wShelters_s47 (B : Lo) (s : WShore) (c : WStorm) (plan : List Int) (t : WTruth) (fr : Int) (k : Int) (dJ0 : Nat → Value) : endT (srunT Try.prog (okFn Try.prog) J0 B 23 1 (headC 9 249 (([4, 5, 11, 13, 14, 15, 19, 21] : List Nat).zip (wShelters_v1 s c plan t fr k)) dJ0 wShelters_t1) (headH (wShelters_o1 s c plan t fr k)) (2 + (wShelters_o1 s c plan t fr k).length)
 (wShelters_q47 s c plan t fr k dJ0 ++ [(70, hvT)]) 0 [] []) [] = some (Value.bool false,
 [eqq (List.getD (playL s plan (endE true s c)) k.toNat default) 0 = true] ++ wShelters_p47 B s c plan t fr k dJ0) := by kernel_rfl
theorem wShelters_s48 (B : Lo) (s : WShore) (c : WStorm) (plan : List Int) (t : WTruth) (fr : Int) (k : Int) (dJ0 : Nat → Value) : landM (srunT Try.prog (okFn Try.prog) J0 B 23 1 (headC 9 249 (([4, 5, 11, 13, 14, 15, 19, 21] : List Nat).zip (wShelters_v1 s c plan t fr k)) dJ0 wShelters_t1) (headH (wShelters_o1 s c plan t fr k)) (2 + (wShelters_o1 s c plan t fr k).length)
 (wShelters_q47 s c plan t fr k dJ0 ++ [(70, hvF), (73, hvI (k + 1))]) 0 [] []) [4, 5, 11, 13, 14, 15, 19, 21] [(2, KS.auto)] [] = some ⟨9, 249, wShelters_t1, [], .run, none, wShelters_v1 s c plan t fr (k + 1), wShelters_o1 s c plan t fr (k + 1),
 [wq (k + 1) = k + 1, eqq (List.getD (playL s plan (endE true s c)) k.toNat default) 0 = false] ++ wShelters_p47 B s c plan t fr k dJ0⟩ := by kernel_rfl
theorem wShelters_s49 (B : Lo) (s : WShore) (c : WStorm) (plan : List Int) (t : WTruth) (fr : Int) (k : Int) (dJ0 : Nat → Value) : landM (srunT Try.prog (okFn Try.prog) J0 B 23 1 (headC 9 249 (([4, 5, 11, 13, 14, 15, 19, 21] : List Nat).zip (wShelters_v1 s c plan t fr k)) dJ0 wShelters_t1) (headH (wShelters_o1 s c plan t fr k)) (2 + (wShelters_o1 s c plan t fr k).length)
 (wShelters_q46 s c plan t fr k dJ0 ++ [(62, hvF), (73, hvI (k + 1))]) 0 [] []) [4, 5, 11, 13, 14, 15, 19, 21] [(2, KS.auto)] [] = some ⟨9, 249, wShelters_t1, [], .run, none, wShelters_v1 s c plan t fr (k + 1), wShelters_o1 s c plan t fr (k + 1),
 [wq (k + 1) = k + 1, ltq k 0 = false] ++ wShelters_p46 B s c plan t fr k dJ0⟩ := by kernel_rfl
theorem wShelters_s50 (B : Lo) (s : WShore) (c : WStorm) (plan : List Int) (t : WTruth) (fr : Int) (k : Int) (dJ0 : Nat → Value) : landM (srunT Try.prog (okFn Try.prog) J0 B 23 1 (headC 9 249 (([4, 5, 11, 13, 14, 15, 19, 21] : List Nat).zip (wShelters_v1 s c plan t fr k)) dJ0 wShelters_t1) (headH (wShelters_o1 s c plan t fr k)) (2 + (wShelters_o1 s c plan t fr k).length)
 (wShelters_q43 s c plan t fr k dJ0 ++ [(55, hvF), (73, hvI (k + 1))]) 0 [] []) [4, 5, 11, 13, 14, 15, 19, 21] [(2, KS.auto)] [] = some ⟨9, 249, wShelters_t1, [], .run, none, wShelters_v1 s c plan t fr (k + 1), wShelters_o1 s c plan t fr (k + 1),
 [wq (k + 1) = k + 1, (!ltq k fr) = false] ++ wShelters_p43 B s c plan t fr k dJ0⟩ := by kernel_rfl
noncomputable def wShelters_p48 (B : Lo) (s : WShore) (c : WStorm) (plan : List Int) (t : WTruth) (fr : Int) (k : Int) (dJ0 : Nat → Value) : List Prop := [ltq k (↑s.cells.length : Int) = false] ++ ([] : List Prop)
noncomputable def wShelters_q48 (s : WShore) (c : WStorm) (plan : List Int) (t : WTruth) (fr : Int) (k : Int) (dJ0 : Nat → Value) : ScriptT := [(4, hvF)]
noncomputable def wShelters_p49 (B : Lo) (s : WShore) (c : WStorm) (plan : List Int) (t : WTruth) (fr : Int) (k : Int) (dJ0 : Nat → Value) : List Prop := [(!eqq (if 0 ≤ inwI (List.drop fr.toNat (playL s plan (endE true s c))) 0 then 0 else 5) 0) = true] ++ wShelters_p48 B s c plan t fr k dJ0
noncomputable def wShelters_q49 (s : WShore) (c : WStorm) (plan : List Int) (t : WTruth) (fr : Int) (k : Int) (dJ0 : Nat → Value) : ScriptT := wShelters_q48 s c plan t fr k dJ0 ++ [(6, hvT)]
theorem wShelters_s51 (B : Lo) (s : WShore) (c : WStorm) (plan : List Int) (t : WTruth) (fr : Int) (k : Int) (dJ0 : Nat → Value) : endT (srunT Try.prog (okFn Try.prog) J0 B 13 1 (headC 9 249 (([4, 5, 11, 13, 14, 15, 19, 21] : List Nat).zip (wShelters_v1 s c plan t fr k)) dJ0 wShelters_t1) (headH (wShelters_o1 s c plan t fr k)) (2 + (wShelters_o1 s c plan t fr k).length)
 (wShelters_q49 s c plan t fr k dJ0 ++ [(8, hvT), (10, HintT.pure (Value.bool true) [])]) 0 [] []) [] = some (Value.bool true,
 [AllP [] ∧ PureC Try.prog J0 15 #[] (Value.bool true), eqq (if 0 ≤ inwI (List.drop fr.toNat (playL s plan (endE true s c))) 0 then 0 else 5) 5 = true] ++ wShelters_p49 B s c plan t fr k dJ0) := by kernel_rfl
theorem wShelters_s52 (B : Lo) (s : WShore) (c : WStorm) (plan : List Int) (t : WTruth) (fr : Int) (k : Int) (dJ0 : Nat → Value) : endT (srunT Try.prog (okFn Try.prog) J0 B 13 1 (headC 9 249 (([4, 5, 11, 13, 14, 15, 19, 21] : List Nat).zip (wShelters_v1 s c plan t fr k)) dJ0 wShelters_t1) (headH (wShelters_o1 s c plan t fr k)) (2 + (wShelters_o1 s c plan t fr k).length)
 (wShelters_q49 s c plan t fr k dJ0 ++ [(8, hvF)]) 0 [] []) [] = some (Value.bool false,
 [eqq (if 0 ≤ inwI (List.drop fr.toNat (playL s plan (endE true s c))) 0 then 0 else 5) 5 = false] ++ wShelters_p49 B s c plan t fr k dJ0) := by kernel_rfl
noncomputable def wShelters_p50 (B : Lo) (s : WShore) (c : WStorm) (plan : List Int) (t : WTruth) (fr : Int) (k : Int) (dJ0 : Nat → Value) : List Prop := [(!eqq (if 0 ≤ inwI (List.drop fr.toNat (playL s plan (endE true s c))) 0 then 0 else 5) 0) = false] ++ wShelters_p48 B s c plan t fr k dJ0
noncomputable def wShelters_q50 (s : WShore) (c : WStorm) (plan : List Int) (t : WTruth) (fr : Int) (k : Int) (dJ0 : Nat → Value) : ScriptT := wShelters_q48 s c plan t fr k dJ0 ++ [(6, hvF)]
noncomputable def wShelters_p51 (B : Lo) (s : WShore) (c : WStorm) (plan : List Int) (t : WTruth) (fr : Int) (k : Int) (dJ0 : Nat → Value) : List Prop := [AllP [] ∧ PureC Try.prog J0 35 #[Value.agg (wShelters_z5 s), .int .i64 0] (Value.bool true)] ++ wShelters_p50 B s c plan t fr k dJ0
noncomputable def wShelters_q51 (s : WShore) (c : WStorm) (plan : List Int) (t : WTruth) (fr : Int) (k : Int) (dJ0 : Nat → Value) : ScriptT := wShelters_q50 s c plan t fr k dJ0 ++ [(9, HintT.pure (Value.bool true) [])]
noncomputable def wShelters_p52 (B : Lo) (s : WShore) (c : WStorm) (plan : List Int) (t : WTruth) (fr : Int) (k : Int) (dJ0 : Nat → Value) : List Prop := [0 = (↑0 : Int) ∧ 0 < List.length (playL s plan t) ∧ Array.extract (rowL encI (playL s plan t)) (0 * TypeInfo.size Try.t3) (0 * TypeInfo.size Try.t3 + TypeInfo.size Try.t3) = #[.int .i64 (List.getD (playL s plan t) 0 default)], (!ltq 0 fr) = true] ++ wShelters_p51 B s c plan t fr k dJ0
noncomputable def wShelters_q52 (s : WShore) (c : WStorm) (plan : List Int) (t : WTruth) (fr : Int) (k : Int) (dJ0 : Nat → Value) : ScriptT := wShelters_q51 s c plan t fr k dJ0 ++ [(13, hvT), (18, HintT.tidx 0 #[.int .i64 (List.getD (playL s plan t) 0 default)])]
noncomputable def wShelters_p53 (B : Lo) (s : WShore) (c : WStorm) (plan : List Int) (t : WTruth) (fr : Int) (k : Int) (dJ0 : Nat → Value) : List Prop := [0 = (↑0 : Int) ∧ 0 < List.length (playL s plan (endE true s c)) ∧ Array.extract (rowL encI (playL s plan (endE true s c))) (0 * TypeInfo.size Try.t3) (0 * TypeInfo.size Try.t3 + TypeInfo.size Try.t3) = #[.int .i64 (List.getD (playL s plan (endE true s c)) 0 default)], eqq (List.getD (playL s plan t) 0 default) 0 = true] ++ wShelters_p52 B s c plan t fr k dJ0
noncomputable def wShelters_q53 (s : WShore) (c : WStorm) (plan : List Int) (t : WTruth) (fr : Int) (k : Int) (dJ0 : Nat → Value) : ScriptT := wShelters_q52 s c plan t fr k dJ0 ++ [(20, hvT), (25, HintT.tidx 0 #[.int .i64 (List.getD (playL s plan (endE true s c)) 0 default)])]
theorem wShelters_s53 (B : Lo) (s : WShore) (c : WStorm) (plan : List Int) (t : WTruth) (fr : Int) (k : Int) (dJ0 : Nat → Value) : endT (srunT Try.prog (okFn Try.prog) J0 B 14 1 (headC 9 249 (([4, 5, 11, 13, 14, 15, 19, 21] : List Nat).zip (wShelters_v1 s c plan t fr k)) dJ0 wShelters_t1) (headH (wShelters_o1 s c plan t fr k)) (2 + (wShelters_o1 s c plan t fr k).length)
 (wShelters_q53 s c plan t fr k dJ0 ++ [(27, hvT), (30, HintT.pure (Value.bool true) [])]) 0 [] []) [] = some (Value.bool true,
 [AllP [] ∧ PureC Try.prog J0 15 #[] (Value.bool true), eqq (List.getD (playL s plan (endE true s c)) 0 default) 0 = true] ++ wShelters_p53 B s c plan t fr k dJ0) := by kernel_rfl
theorem wShelters_s54 (B : Lo) (s : WShore) (c : WStorm) (plan : List Int) (t : WTruth) (fr : Int) (k : Int) (dJ0 : Nat → Value) : endT (srunT Try.prog (okFn Try.prog) J0 B 14 1 (headC 9 249 (([4, 5, 11, 13, 14, 15, 19, 21] : List Nat).zip (wShelters_v1 s c plan t fr k)) dJ0 wShelters_t1) (headH (wShelters_o1 s c plan t fr k)) (2 + (wShelters_o1 s c plan t fr k).length)
 (wShelters_q53 s c plan t fr k dJ0 ++ [(27, hvF)]) 0 [] []) [] = some (Value.bool false,
 [eqq (List.getD (playL s plan (endE true s c)) 0 default) 0 = false] ++ wShelters_p53 B s c plan t fr k dJ0) := by kernel_rfl
theorem wShelters_s55 (B : Lo) (s : WShore) (c : WStorm) (plan : List Int) (t : WTruth) (fr : Int) (k : Int) (dJ0 : Nat → Value) : endT (srunT Try.prog (okFn Try.prog) J0 B 14 1 (headC 9 249 (([4, 5, 11, 13, 14, 15, 19, 21] : List Nat).zip (wShelters_v1 s c plan t fr k)) dJ0 wShelters_t1) (headH (wShelters_o1 s c plan t fr k)) (2 + (wShelters_o1 s c plan t fr k).length)
 (wShelters_q52 s c plan t fr k dJ0 ++ [(20, hvF)]) 0 [] []) [] = some (Value.bool false,
 [eqq (List.getD (playL s plan t) 0 default) 0 = false] ++ wShelters_p52 B s c plan t fr k dJ0) := by kernel_rfl
theorem wShelters_s56 (B : Lo) (s : WShore) (c : WStorm) (plan : List Int) (t : WTruth) (fr : Int) (k : Int) (dJ0 : Nat → Value) : endT (srunT Try.prog (okFn Try.prog) J0 B 14 1 (headC 9 249 (([4, 5, 11, 13, 14, 15, 19, 21] : List Nat).zip (wShelters_v1 s c plan t fr k)) dJ0 wShelters_t1) (headH (wShelters_o1 s c plan t fr k)) (2 + (wShelters_o1 s c plan t fr k).length)
 (wShelters_q51 s c plan t fr k dJ0 ++ [(13, hvF)]) 0 [] []) [] = some (Value.bool false,
 [(!ltq 0 fr) = false] ++ wShelters_p51 B s c plan t fr k dJ0) := by kernel_rfl
theorem wShelters_s57 (B : Lo) (s : WShore) (c : WStorm) (plan : List Int) (t : WTruth) (fr : Int) (k : Int) (dJ0 : Nat → Value) : endT (srunT Try.prog (okFn Try.prog) J0 B 14 1 (headC 9 249 (([4, 5, 11, 13, 14, 15, 19, 21] : List Nat).zip (wShelters_v1 s c plan t fr k)) dJ0 wShelters_t1) (headH (wShelters_o1 s c plan t fr k)) (2 + (wShelters_o1 s c plan t fr k).length)
 (wShelters_q50 s c plan t fr k dJ0 ++ [(9, HintT.pure (Value.bool false) [])]) 0 [] []) [] = some (Value.bool false,
 [AllP [] ∧ PureC Try.prog J0 35 #[Value.agg (wShelters_z5 s), .int .i64 0] (Value.bool false)] ++ wShelters_p50 B s c plan t fr k dJ0) := by kernel_rfl
noncomputable def wShelters_p54 (B : Lo) (s : WShore) (c : WStorm) (plan : List Int) (t : WTruth) (fr : Int) : List Prop := [AllP [] ∧ PureC Try.prog J0 14 (wShelters_z4 s) (Value.bool true)] ++ ([] : List Prop)
noncomputable def wShelters_q54 (s : WShore) (c : WStorm) (plan : List Int) (t : WTruth) (fr : Int) : ScriptT := [(5, HintT.pure (Value.bool true) [])]
theorem wShelters_s58 (B : Lo) (s : WShore) (c : WStorm) (plan : List Int) (t : WTruth) (fr : Int) : endT (srunT Try.prog (okFn Try.prog) J0 B 10 1 (entryC Try.prog 9 249 (([.agg (encShore s).toArray, .agg (encStorm c).toArray, slI plan, .agg (encTruth t).toArray, .int .i64 fr]).map (pushT 0 4))) H00 1
 (wShelters_q54 s c plan t fr ++ [(10, hvT), (38, HintT.pure (Value.bool true) [])]) 0 [] []) [] = some (Value.bool true,
 [AllP [] ∧ PureC Try.prog J0 15 #[] (Value.bool true), ltq 12 (↑plan.length : Int) = true] ++ wShelters_p54 B s c plan t fr) := by kernel_rfl
noncomputable def wShelters_p55 (B : Lo) (s : WShore) (c : WStorm) (plan : List Int) (t : WTruth) (fr : Int) : List Prop := [ltq 12 (↑plan.length : Int) = false] ++ wShelters_p54 B s c plan t fr
noncomputable def wShelters_q55 (s : WShore) (c : WStorm) (plan : List Int) (t : WTruth) (fr : Int) : ScriptT := wShelters_q54 s c plan t fr ++ [(10, hvF)]
theorem wShelters_s59 (B : Lo) (s : WShore) (c : WStorm) (plan : List Int) (t : WTruth) (fr : Int) : endT (srunT Try.prog (okFn Try.prog) J0 B 10 1 (entryC Try.prog 9 249 (([.agg (encShore s).toArray, .agg (encStorm c).toArray, slI plan, .agg (encTruth t).toArray, .int .i64 fr]).map (pushT 0 4))) H00 1
 (wShelters_q55 s c plan t fr ++ [(16, hvT), (38, HintT.pure (Value.bool true) [])]) 0 [] []) [] = some (Value.bool true,
 [AllP [] ∧ PureC Try.prog J0 15 #[] (Value.bool true), ltq 12 (↑t.drags.length : Int) = true] ++ wShelters_p55 B s c plan t fr) := by kernel_rfl
noncomputable def wShelters_p56 (B : Lo) (s : WShore) (c : WStorm) (plan : List Int) (t : WTruth) (fr : Int) : List Prop := [ltq 12 (↑t.drags.length : Int) = false] ++ wShelters_p55 B s c plan t fr
noncomputable def wShelters_q56 (s : WShore) (c : WStorm) (plan : List Int) (t : WTruth) (fr : Int) : ScriptT := wShelters_q55 s c plan t fr ++ [(16, hvF)]
noncomputable def wShelters_p57 (B : Lo) (s : WShore) (c : WStorm) (plan : List Int) (t : WTruth) (fr : Int) : List Prop := [AllP [] ∧ PureC Try.prog J0 25 (wShelters_z1 s c plan) (Value.bool true)] ++ wShelters_p56 B s c plan t fr
noncomputable def wShelters_q57 (s : WShore) (c : WStorm) (plan : List Int) (t : WTruth) (fr : Int) : ScriptT := wShelters_q56 s c plan t fr ++ [(22, HintT.pure (Value.bool true) [])]
noncomputable def wShelters_p58 (B : Lo) (s : WShore) (c : WStorm) (plan : List Int) (t : WTruth) (fr : Int) : List Prop := [AllP [] ∧ PureC Try.prog J0 26 #[Value.agg (wShelters_z5 s), Value.agg (wShelters_z6 c), Value.agg (wShelters_z7 t)] (Value.bool true)] ++ wShelters_p57 B s c plan t fr
noncomputable def wShelters_q58 (s : WShore) (c : WStorm) (plan : List Int) (t : WTruth) (fr : Int) : ScriptT := wShelters_q57 s c plan t fr ++ [(29, HintT.pure (Value.bool true) [])]
noncomputable def wShelters_p59 (B : Lo) (s : WShore) (c : WStorm) (plan : List Int) (t : WTruth) (fr : Int) : List Prop := [AllP [] ∧ PureC Try.prog J0 32 (wShelters_z1 s c plan) (Value.tuple #[slT (List.length (dryL s (playL s plan (endE true s c)) 0)) (rowL encI (dryL s (playL s plan (endE true s c)) 0)), .int .i64 0]), AllP [] ∧ PureC Try.prog J0 35 #[Value.agg (wShelters_z5 s), .int .i64 fr] (Value.bool true)] ++ wShelters_p58 B s c plan t fr
noncomputable def wShelters_q59 (s : WShore) (c : WStorm) (plan : List Int) (t : WTruth) (fr : Int) : ScriptT := wShelters_q58 s c plan t fr ++ [(35, HintT.pure (Value.bool true) []), (41, HintT.pure (Value.tuple #[slT (List.length (dryL s (playL s plan (endE true s c)) 0)) (rowL encI (dryL s (playL s plan (endE true s c)) 0)), .int .i64 0]) [])]
noncomputable def wShelters_p60 (B : Lo) (s : WShore) (c : WStorm) (plan : List Int) (t : WTruth) (fr : Int) : List Prop := [AllP [] ∧ PureC Try.prog J0 18 #[Value.agg (wShelters_z5 s), Value.agg (wShelters_z6 c)] (wShelters_z2 s c), AllP [] ∧ PureC Try.prog J0 24 #[Value.agg (wShelters_z5 s), Value.agg (wShelters_z6 c), slT plan.length (rowL encI plan), Value.agg (wShelters_z7 t)] (wShelters_z10 s plan t), AllP [] ∧ PureC Try.prog J0 33 #[Value.agg (wShelters_z5 s), Value.agg (wShelters_z6 c), slT plan.length (rowL encI plan), .int .i64 fr] (Value.tuple #[.int .i64 (fr + inwI (List.drop fr.toNat (playL s plan (endE true s c))) 0), .int .i64 (if 0 ≤ inwI (List.drop fr.toNat (playL s plan (endE true s c))) 0 then 0 else 5)])] ++ wShelters_p59 B s c plan t fr
noncomputable def wShelters_q60 (s : WShore) (c : WStorm) (plan : List Int) (t : WTruth) (fr : Int) : ScriptT := wShelters_q59 s c plan t fr ++ [(51, HintT.pure (Value.tuple #[.int .i64 (fr + inwI (List.drop fr.toNat (playL s plan (endE true s c))) 0), .int .i64 (if 0 ≤ inwI (List.drop fr.toNat (playL s plan (endE true s c))) 0 then 0 else 5)]) []), (61, HintT.pure (wShelters_z10 s plan t) []), (69, HintT.pure (wShelters_z2 s c) [])]
theorem wShelters_s60 (B : Lo) (s : WShore) (c : WStorm) (plan : List Int) (t : WTruth) (fr : Int) : endT (srunT Try.prog (okFn Try.prog) J0 B 23 1 (entryC Try.prog 9 249 (([.agg (encShore s).toArray, .agg (encStorm c).toArray, slI plan, .agg (encTruth t).toArray, .int .i64 fr]).map (pushT 0 4))) H00 1
 (wShelters_q60 s c plan t fr ++ [(92, hvT)]) 0 [] []) [] = some (Value.bool false,
 [ltq (↑s.cells.length : Int) (↑(List.length (dryL s (playL s plan (endE true s c)) 0)) : Int) = true] ++ wShelters_p60 B s c plan t fr) := by kernel_rfl
noncomputable def wShelters_p61 (B : Lo) (s : WShore) (c : WStorm) (plan : List Int) (t : WTruth) (fr : Int) : List Prop := [ltq (↑s.cells.length : Int) (↑(List.length (dryL s (playL s plan (endE true s c)) 0)) : Int) = false] ++ wShelters_p60 B s c plan t fr
noncomputable def wShelters_q61 (s : WShore) (c : WStorm) (plan : List Int) (t : WTruth) (fr : Int) : ScriptT := wShelters_q60 s c plan t fr ++ [(92, hvF)]
theorem wShelters_s61 (B : Lo) (s : WShore) (c : WStorm) (plan : List Int) (t : WTruth) (fr : Int) : endT (srunT Try.prog (okFn Try.prog) J0 B 23 1 (entryC Try.prog 9 249 (([.agg (encShore s).toArray, .agg (encStorm c).toArray, slI plan, .agg (encTruth t).toArray, .int .i64 fr]).map (pushT 0 4))) H00 1
 (wShelters_q61 s c plan t fr ++ [(100, hvT)]) 0 [] []) [] = some (Value.bool false,
 [(!eqq (↑(List.length (playL s plan t)) : Int) (↑s.cells.length : Int)) = true] ++ wShelters_p61 B s c plan t fr) := by kernel_rfl
noncomputable def wShelters_p62 (B : Lo) (s : WShore) (c : WStorm) (plan : List Int) (t : WTruth) (fr : Int) : List Prop := [(!eqq (↑(List.length (playL s plan t)) : Int) (↑s.cells.length : Int)) = false] ++ wShelters_p61 B s c plan t fr
noncomputable def wShelters_q62 (s : WShore) (c : WStorm) (plan : List Int) (t : WTruth) (fr : Int) : ScriptT := wShelters_q61 s c plan t fr ++ [(100, hvF)]
theorem wShelters_s62 (B : Lo) (s : WShore) (c : WStorm) (plan : List Int) (t : WTruth) (fr : Int) : endT (srunT Try.prog (okFn Try.prog) J0 B 23 1 (entryC Try.prog 9 249 (([.agg (encShore s).toArray, .agg (encStorm c).toArray, slI plan, .agg (encTruth t).toArray, .int .i64 fr]).map (pushT 0 4))) H00 1
 (wShelters_q62 s c plan t fr ++ [(106, hvT)]) 0 [] []) [] = some (Value.bool false,
 [ltq 12 (↑(List.length (WTruth.drags (endE true s c))) : Int) = true] ++ wShelters_p62 B s c plan t fr) := by kernel_rfl
noncomputable def wShelters_p63 (B : Lo) (s : WShore) (c : WStorm) (plan : List Int) (t : WTruth) (fr : Int) : List Prop := [ltq 12 (↑(List.length (WTruth.drags (endE true s c))) : Int) = false] ++ wShelters_p62 B s c plan t fr
noncomputable def wShelters_q63 (s : WShore) (c : WStorm) (plan : List Int) (t : WTruth) (fr : Int) : ScriptT := wShelters_q62 s c plan t fr ++ [(106, hvF)]
noncomputable def wShelters_p64 (B : Lo) (s : WShore) (c : WStorm) (plan : List Int) (t : WTruth) (fr : Int) : List Prop := [AllP [] ∧ PureC Try.prog J0 24 #[Value.agg (wShelters_z5 s), Value.agg (wShelters_z6 c), slT plan.length (rowL encI plan), Value.agg #[.int .i64 (WTruth.wind (endE true s c)), .int .i64 (WTruth.fetch (endE true s c)), .int .i64 (WTruth.tide (endE true s c)), .int .i64 (WTruth.loss (endE true s c)), slT (List.length (WTruth.drags (endE true s c))) (rowL encI (WTruth.drags (endE true s c)))]] (wShelters_z9 s c plan), AllP [] ∧ PureC Try.prog J0 26 (wShelters_z0 s c) (Value.bool true)] ++ wShelters_p63 B s c plan t fr
noncomputable def wShelters_q64 (s : WShore) (c : WStorm) (plan : List Int) (t : WTruth) (fr : Int) : ScriptT := wShelters_q63 s c plan t fr ++ [(112, HintT.pure (Value.bool true) []), (119, HintT.pure (wShelters_z9 s c plan) [])]
theorem wShelters_s63 (B : Lo) (s : WShore) (c : WStorm) (plan : List Int) (t : WTruth) (fr : Int) : endT (srunT Try.prog (okFn Try.prog) J0 B 30 1 (entryC Try.prog 9 249 (([.agg (encShore s).toArray, .agg (encStorm c).toArray, slI plan, .agg (encTruth t).toArray, .int .i64 fr]).map (pushT 0 4))) H00 1
 (wShelters_q64 s c plan t fr ++ [(133, hvT)]) 0 [] []) [] = some (Value.bool false,
 [(!eqq (↑(List.length (playL s plan (endE true s c))) : Int) (↑s.cells.length : Int)) = true] ++ wShelters_p64 B s c plan t fr) := by kernel_rfl
theorem wShelters_s64 (B : Lo) (s : WShore) (c : WStorm) (plan : List Int) (t : WTruth) (fr : Int) : landM (srunT Try.prog (okFn Try.prog) J0 B 32 1 (entryC Try.prog 9 249 (([.agg (encShore s).toArray, .agg (encStorm c).toArray, slI plan, .agg (encTruth t).toArray, .int .i64 fr]).map (pushT 0 4))) H00 1
 (wShelters_q64 s c plan t fr ++ [(133, hvF)]) 0 [] []) [4, 5, 11, 13, 14, 15, 19, 21] [(1, KS.auto)] [] = some ⟨9, 249, wShelters_t0, [], .run, none, wShelters_v0 s c plan t fr (0), wShelters_o0 s c plan t fr (0),
 [(!eqq (↑(List.length (playL s plan (endE true s c))) : Int) (↑s.cells.length : Int)) = false] ++ wShelters_p64 B s c plan t fr⟩ := by kernel_rfl
theorem wShelters_s65 (B : Lo) (s : WShore) (c : WStorm) (plan : List Int) (t : WTruth) (fr : Int) : endT (srunT Try.prog (okFn Try.prog) J0 B 23 1 (entryC Try.prog 9 249 (([.agg (encShore s).toArray, .agg (encStorm c).toArray, slI plan, .agg (encTruth t).toArray, .int .i64 fr]).map (pushT 0 4))) H00 1
 (wShelters_q63 s c plan t fr ++ [(112, HintT.pure (Value.bool false) [])]) 0 [] []) [] = some (Value.bool false,
 [AllP [] ∧ PureC Try.prog J0 26 (wShelters_z0 s c) (Value.bool false)] ++ wShelters_p63 B s c plan t fr) := by kernel_rfl
noncomputable def wShelters_p65 (B : Lo) (s : WShore) (c : WStorm) (plan : List Int) (t : WTruth) (fr : Int) : List Prop := [AllP [] ∧ PureC Try.prog J0 18 #[Value.agg (wShelters_z5 s), Value.agg (wShelters_z6 c)] (wShelters_z2 s c), AllP [] ∧ PureC Try.prog J0 24 #[Value.agg (wShelters_z5 s), Value.agg (wShelters_z6 c), slT plan.length (rowL encI plan), Value.agg (wShelters_z7 t)] (wShelters_z10 s plan t), AllP [] ∧ PureC Try.prog J0 33 #[Value.agg (wShelters_z5 s), Value.agg (wShelters_z6 c), slT plan.length (rowL encI plan), .int .i64 fr] (Value.tuple #[.int .i64 0, .int .i64 (if 0 ≤ inwI (List.drop fr.toNat (playL s plan (endE true s c))) 0 then 0 else 5)])] ++ wShelters_p59 B s c plan t fr
noncomputable def wShelters_q65 (s : WShore) (c : WStorm) (plan : List Int) (t : WTruth) (fr : Int) : ScriptT := wShelters_q59 s c plan t fr ++ [(51, HintT.pure (Value.tuple #[.int .i64 0, .int .i64 (if 0 ≤ inwI (List.drop fr.toNat (playL s plan (endE true s c))) 0 then 0 else 5)]) []), (61, HintT.pure (wShelters_z10 s plan t) []), (69, HintT.pure (wShelters_z2 s c) [])]
theorem wShelters_s66 (B : Lo) (s : WShore) (c : WStorm) (plan : List Int) (t : WTruth) (fr : Int) : endT (srunT Try.prog (okFn Try.prog) J0 B 23 1 (entryC Try.prog 9 249 (([.agg (encShore s).toArray, .agg (encStorm c).toArray, slI plan, .agg (encTruth t).toArray, .int .i64 fr]).map (pushT 0 4))) H00 1
 (wShelters_q65 s c plan t fr ++ [(92, hvT)]) 0 [] []) [] = some (Value.bool false,
 [ltq (↑s.cells.length : Int) (↑(List.length (dryL s (playL s plan (endE true s c)) 0)) : Int) = true] ++ wShelters_p65 B s c plan t fr) := by kernel_rfl
noncomputable def wShelters_p66 (B : Lo) (s : WShore) (c : WStorm) (plan : List Int) (t : WTruth) (fr : Int) : List Prop := [ltq (↑s.cells.length : Int) (↑(List.length (dryL s (playL s plan (endE true s c)) 0)) : Int) = false] ++ wShelters_p65 B s c plan t fr
noncomputable def wShelters_q66 (s : WShore) (c : WStorm) (plan : List Int) (t : WTruth) (fr : Int) : ScriptT := wShelters_q65 s c plan t fr ++ [(92, hvF)]
theorem wShelters_s67 (B : Lo) (s : WShore) (c : WStorm) (plan : List Int) (t : WTruth) (fr : Int) : endT (srunT Try.prog (okFn Try.prog) J0 B 23 1 (entryC Try.prog 9 249 (([.agg (encShore s).toArray, .agg (encStorm c).toArray, slI plan, .agg (encTruth t).toArray, .int .i64 fr]).map (pushT 0 4))) H00 1
 (wShelters_q66 s c plan t fr ++ [(100, hvT)]) 0 [] []) [] = some (Value.bool false,
 [(!eqq (↑(List.length (playL s plan t)) : Int) (↑s.cells.length : Int)) = true] ++ wShelters_p66 B s c plan t fr) := by kernel_rfl
noncomputable def wShelters_p67 (B : Lo) (s : WShore) (c : WStorm) (plan : List Int) (t : WTruth) (fr : Int) : List Prop := [(!eqq (↑(List.length (playL s plan t)) : Int) (↑s.cells.length : Int)) = false] ++ wShelters_p66 B s c plan t fr
noncomputable def wShelters_q67 (s : WShore) (c : WStorm) (plan : List Int) (t : WTruth) (fr : Int) : ScriptT := wShelters_q66 s c plan t fr ++ [(100, hvF)]
theorem wShelters_s68 (B : Lo) (s : WShore) (c : WStorm) (plan : List Int) (t : WTruth) (fr : Int) : endT (srunT Try.prog (okFn Try.prog) J0 B 23 1 (entryC Try.prog 9 249 (([.agg (encShore s).toArray, .agg (encStorm c).toArray, slI plan, .agg (encTruth t).toArray, .int .i64 fr]).map (pushT 0 4))) H00 1
 (wShelters_q67 s c plan t fr ++ [(106, hvT)]) 0 [] []) [] = some (Value.bool false,
 [ltq 12 (↑(List.length (WTruth.drags (endE true s c))) : Int) = true] ++ wShelters_p67 B s c plan t fr) := by kernel_rfl
noncomputable def wShelters_p68 (B : Lo) (s : WShore) (c : WStorm) (plan : List Int) (t : WTruth) (fr : Int) : List Prop := [ltq 12 (↑(List.length (WTruth.drags (endE true s c))) : Int) = false] ++ wShelters_p67 B s c plan t fr
noncomputable def wShelters_q68 (s : WShore) (c : WStorm) (plan : List Int) (t : WTruth) (fr : Int) : ScriptT := wShelters_q67 s c plan t fr ++ [(106, hvF)]
noncomputable def wShelters_p69 (B : Lo) (s : WShore) (c : WStorm) (plan : List Int) (t : WTruth) (fr : Int) : List Prop := [AllP [] ∧ PureC Try.prog J0 24 #[Value.agg (wShelters_z5 s), Value.agg (wShelters_z6 c), slT plan.length (rowL encI plan), Value.agg #[.int .i64 (WTruth.wind (endE true s c)), .int .i64 (WTruth.fetch (endE true s c)), .int .i64 (WTruth.tide (endE true s c)), .int .i64 (WTruth.loss (endE true s c)), slT (List.length (WTruth.drags (endE true s c))) (rowL encI (WTruth.drags (endE true s c)))]] (wShelters_z9 s c plan), AllP [] ∧ PureC Try.prog J0 26 (wShelters_z0 s c) (Value.bool true)] ++ wShelters_p68 B s c plan t fr
noncomputable def wShelters_q69 (s : WShore) (c : WStorm) (plan : List Int) (t : WTruth) (fr : Int) : ScriptT := wShelters_q68 s c plan t fr ++ [(112, HintT.pure (Value.bool true) []), (119, HintT.pure (wShelters_z9 s c plan) [])]
theorem wShelters_s69 (B : Lo) (s : WShore) (c : WStorm) (plan : List Int) (t : WTruth) (fr : Int) : endT (srunT Try.prog (okFn Try.prog) J0 B 30 1 (entryC Try.prog 9 249 (([.agg (encShore s).toArray, .agg (encStorm c).toArray, slI plan, .agg (encTruth t).toArray, .int .i64 fr]).map (pushT 0 4))) H00 1
 (wShelters_q69 s c plan t fr ++ [(133, hvT)]) 0 [] []) [] = some (Value.bool false,
 [(!eqq (↑(List.length (playL s plan (endE true s c))) : Int) (↑s.cells.length : Int)) = true] ++ wShelters_p69 B s c plan t fr) := by kernel_rfl
theorem wShelters_s70 (B : Lo) (s : WShore) (c : WStorm) (plan : List Int) (t : WTruth) (fr : Int) : landM (srunT Try.prog (okFn Try.prog) J0 B 32 1 (entryC Try.prog 9 249 (([.agg (encShore s).toArray, .agg (encStorm c).toArray, slI plan, .agg (encTruth t).toArray, .int .i64 fr]).map (pushT 0 4))) H00 1
 (wShelters_q69 s c plan t fr ++ [(133, hvF)]) 0 [] []) [4, 5, 11, 13, 14, 15, 19, 21] [(1, KS.auto)] [] = some ⟨9, 249, wShelters_t1, [], .run, none, wShelters_v1 s c plan t fr (0), wShelters_o1 s c plan t fr (0),
 [(!eqq (↑(List.length (playL s plan (endE true s c))) : Int) (↑s.cells.length : Int)) = false] ++ wShelters_p69 B s c plan t fr⟩ := by kernel_rfl
theorem wShelters_s71 (B : Lo) (s : WShore) (c : WStorm) (plan : List Int) (t : WTruth) (fr : Int) : endT (srunT Try.prog (okFn Try.prog) J0 B 23 1 (entryC Try.prog 9 249 (([.agg (encShore s).toArray, .agg (encStorm c).toArray, slI plan, .agg (encTruth t).toArray, .int .i64 fr]).map (pushT 0 4))) H00 1
 (wShelters_q68 s c plan t fr ++ [(112, HintT.pure (Value.bool false) [])]) 0 [] []) [] = some (Value.bool false,
 [AllP [] ∧ PureC Try.prog J0 26 (wShelters_z0 s c) (Value.bool false)] ++ wShelters_p68 B s c plan t fr) := by kernel_rfl
theorem wShelters_s72 (B : Lo) (s : WShore) (c : WStorm) (plan : List Int) (t : WTruth) (fr : Int) : endT (srunT Try.prog (okFn Try.prog) J0 B 10 1 (entryC Try.prog 9 249 (([.agg (encShore s).toArray, .agg (encStorm c).toArray, slI plan, .agg (encTruth t).toArray, .int .i64 fr]).map (pushT 0 4))) H00 1
 (wShelters_q58 s c plan t fr ++ [(35, HintT.pure (Value.bool false) []), (38, HintT.pure (Value.bool true) [])]) 0 [] []) [] = some (Value.bool true,
 [AllP [] ∧ PureC Try.prog J0 15 #[] (Value.bool true), AllP [] ∧ PureC Try.prog J0 35 #[Value.agg (wShelters_z5 s), .int .i64 fr] (Value.bool false)] ++ wShelters_p58 B s c plan t fr) := by kernel_rfl
theorem wShelters_s73 (B : Lo) (s : WShore) (c : WStorm) (plan : List Int) (t : WTruth) (fr : Int) : endT (srunT Try.prog (okFn Try.prog) J0 B 10 1 (entryC Try.prog 9 249 (([.agg (encShore s).toArray, .agg (encStorm c).toArray, slI plan, .agg (encTruth t).toArray, .int .i64 fr]).map (pushT 0 4))) H00 1
 (wShelters_q57 s c plan t fr ++ [(29, HintT.pure (Value.bool false) []), (38, HintT.pure (Value.bool true) [])]) 0 [] []) [] = some (Value.bool true,
 [AllP [] ∧ PureC Try.prog J0 15 #[] (Value.bool true), AllP [] ∧ PureC Try.prog J0 26 #[Value.agg (wShelters_z5 s), Value.agg (wShelters_z6 c), Value.agg (wShelters_z7 t)] (Value.bool false)] ++ wShelters_p57 B s c plan t fr) := by kernel_rfl
theorem wShelters_s74 (B : Lo) (s : WShore) (c : WStorm) (plan : List Int) (t : WTruth) (fr : Int) : endT (srunT Try.prog (okFn Try.prog) J0 B 10 1 (entryC Try.prog 9 249 (([.agg (encShore s).toArray, .agg (encStorm c).toArray, slI plan, .agg (encTruth t).toArray, .int .i64 fr]).map (pushT 0 4))) H00 1
 (wShelters_q56 s c plan t fr ++ [(22, HintT.pure (Value.bool false) []), (38, HintT.pure (Value.bool true) [])]) 0 [] []) [] = some (Value.bool true,
 [AllP [] ∧ PureC Try.prog J0 15 #[] (Value.bool true), AllP [] ∧ PureC Try.prog J0 25 (wShelters_z1 s c plan) (Value.bool false)] ++ wShelters_p56 B s c plan t fr) := by kernel_rfl
theorem wShelters_s75 (B : Lo) (s : WShore) (c : WStorm) (plan : List Int) (t : WTruth) (fr : Int) : endT (srunT Try.prog (okFn Try.prog) J0 B 10 1 (entryC Try.prog 9 249 (([.agg (encShore s).toArray, .agg (encStorm c).toArray, slI plan, .agg (encTruth t).toArray, .int .i64 fr]).map (pushT 0 4))) H00 1
 (wShelters_q56 s c plan t fr ++ [(22, HintT.pure (Value.bool false) []), (38, HintT.pure (Value.bool true) [])]) 0 [] []) [] = some (Value.bool true,
 [AllP [] ∧ PureC Try.prog J0 15 #[] (Value.bool true), AllP [] ∧ PureC Try.prog J0 25 (wShelters_z1 s c plan) (Value.bool false)] ++ wShelters_p56 B s c plan t fr) := by kernel_rfl
theorem wShelters_s76 (B : Lo) (s : WShore) (c : WStorm) (plan : List Int) (t : WTruth) (fr : Int) : endT (srunT Try.prog (okFn Try.prog) J0 B 10 1 (entryC Try.prog 9 249 (([.agg (encShore s).toArray, .agg (encStorm c).toArray, slI plan, .agg (encTruth t).toArray, .int .i64 fr]).map (pushT 0 4))) H00 1
 (wShelters_q56 s c plan t fr ++ [(22, HintT.pure (Value.bool false) []), (38, HintT.pure (Value.bool true) [])]) 0 [] []) [] = some (Value.bool true,
 [AllP [] ∧ PureC Try.prog J0 15 #[] (Value.bool true), AllP [] ∧ PureC Try.prog J0 25 (wShelters_z1 s c plan) (Value.bool false)] ++ wShelters_p56 B s c plan t fr) := by kernel_rfl
theorem wShelters_s77 (B : Lo) (s : WShore) (c : WStorm) (plan : List Int) (t : WTruth) (fr : Int) : endT (srunT Try.prog (okFn Try.prog) J0 B 10 1 (entryC Try.prog 9 249 (([.agg (encShore s).toArray, .agg (encStorm c).toArray, slI plan, .agg (encTruth t).toArray, .int .i64 fr]).map (pushT 0 4))) H00 1
 [(5, HintT.pure (Value.bool false) []), (38, HintT.pure (Value.bool true) [])] 0 [] []) [] = some (Value.bool true,
 [AllP [] ∧ PureC Try.prog J0 15 #[] (Value.bool true), AllP [] ∧ PureC Try.prog J0 14 (wShelters_z4 s) (Value.bool false)]) := by kernel_rfl
theorem wShelters_s78 (B : Lo) (s : WShore) (c : WStorm) (plan : List Int) (t : WTruth) (fr : Int) : endT (srunT Try.prog (okFn Try.prog) J0 B 10 1 (entryC Try.prog 9 249 (([.agg (encShore s).toArray, .agg (encStorm c).toArray, slI plan, .agg (encTruth t).toArray, .int .i64 fr]).map (pushT 0 4))) H00 1
 [(5, HintT.pure (Value.bool false) []), (38, HintT.pure (Value.bool true) [])] 0 [] []) [] = some (Value.bool true,
 [AllP [] ∧ PureC Try.prog J0 15 #[] (Value.bool true), AllP [] ∧ PureC Try.prog J0 14 (wShelters_z4 s) (Value.bool false)]) := by kernel_rfl
set_option maxHeartbeats 4000000 in
theorem wShelters_ls (s : WShore) (c : WStorm) (plan : List Int) (t : WTruth) (fr : Int)  {B : Lo} (hJ : ∀ w, B.has w → J0 w) {c0 : CF} : ∀ m : Nat, (∀ (k : Int), s.cells.length - k.toNat = m → ∀ (k0 : 0 ≤ k) (hs : shoreB s = true) (hc : stormB c = true) (hp : planB s plan = true) (ht : truthB s c t = true) (hf : 0 ≤ fr ∧ fr < s.cells.length) (hi : 0 ≤ inwI ((playL s plan (endE true s c)).drop fr.toNat) 0), wShelters_h0 B c0 s c plan t fr k → EndsT Try.prog B c0 (.bool true)) ∧ (∀ (k : Int), s.cells.length - k.toNat = m → ∀ (k0 : 0 ≤ k) (hs : shoreB s = true) (hc : stormB c = true) (hp : planB s plan = true) (ht : truthB s c t = true) (hf : 0 ≤ fr ∧ fr < s.cells.length) (hi : ¬ 0 ≤ inwI ((playL s plan (endE true s c)).drop fr.toNat) 0), wShelters_h1 B c0 s c plan t fr k → EndsT Try.prog B c0 (.bool true)) := by
 intro m0
 induction m0 using Nat.strongRecOn with
 | _ m0 ih0 =>
   refine ⟨?_, ?_⟩
   ·intro k hm0 k0 hs hc hp ht hf hi ⟨dJ0, hdJ0, hg0⟩
    have hge := inwI_ge (l := (playL s plan (endE true s c)).drop fr.toNat) (i := 0)
    have hl1 := playL_len (s := s) (plan := plan) (t := t)
    have hl2 := playL_len (s := s) (plan := plan) (t := endE true s c)
    have hl4 : (endE true s c).drags.length = s.cells.length := by simp [endE]
    have hdl : ((playL s plan (endE true s c)).drop fr.toNat).length = s.cells.length - fr.toNat := by rw [List.length_drop, hl2]
    have hdy := dry_len (s := s) (l := playL s plan (endE true s c))
    have t1 := tOk_of hs hc ht
    have b1 := between_k hs hc hp ht k.toNat
    have p0 := play_bd' hs hp t1 k.toNat
    have hsf := shore_facts hs
    have b2 : fr ≤ k ∧ k < s.cells.length ∧ (inwI ((playL s plan (endE true s c)).drop fr.toNat) 0 = -1 ∨ k < fr + inwI ((playL s plan (endE true s c)).drop fr.toNat) 0) → (playL s plan (endE true s c)).getD k.toNat default ≠ 0 := fun h => inw_b hf.1 h.1 (by omega) h.2.2
    by_cases q0 : (k : Int) < ((↑s.cells.length : Int))
    ·
     have hp0 : AllP (wShelters_p0 B s c plan t fr k dJ0) := by
      have h1 := shore_facts ‹shoreB s = true›
      have h2 := end_truth (b := true) ‹shoreB s = true› ‹stormB c = true›
      have b3 := inw_a (l := playL s plan (endE true s c)) hf.1 hi
      have b4 := between_k hs hc hp ht (fr + inwI ((playL s plan (endE true s c)).drop fr.toNat) 0).toNat
      have b5 := play_bd' hs hp t1 (fr + inwI ((playL s plan (endE true s c)).drop fr.toNat) 0).toNat
      exact ⟨⟨by omega, by omega, (rowL_extract (z := 4) (fun _ => rfl) (by omega))⟩, ⟨(ltq_t q0), trivial⟩⟩
     cases q1 : List.any (dryL s (playL s plan (endE true s c)) 0) fun y => decide (y = k) with
     | true =>
       have hp1 : AllP (wShelters_p1 B s c plan t fr k dJ0) := by
        have h1 := shore_facts ‹shoreB s = true›
        have h2 := end_truth (b := true) ‹shoreB s = true› ‹stormB c = true›
        have w1 := dry_t k0 (by omega) (by assumption)
        have b3 := inw_a (l := playL s plan (endE true s c)) hf.1 hi
        have b4 := between_k hs hc hp ht (fr + inwI ((playL s plan (endE true s c)).drop fr.toNat) 0).toNat
        have b5 := play_bd' hs hp t1 (fr + inwI ((playL s plan (endE true s c)).drop fr.toNat) 0).toNat
        exact ⟨⟨trivial, (by have t_ := rHas (dryL s (playL s plan (endE true s c)) 0) (k); rw [q1] at t_; exact t_)⟩, hp0⟩
       by_cases q2 : (WCell.floor (List.getD s.cells k.toNat default) : Int) < (0)
       ·
        have h1 := shore_facts ‹shoreB s = true›
        have h2 := end_truth (b := true) ‹shoreB s = true› ‹stormB c = true›
        have w1 := dry_t k0 (by omega) (by assumption)
        have b3 := inw_a (l := playL s plan (endE true s c)) hf.1 hi
        have b4 := between_k hs hc hp ht (fr + inwI ((playL s plan (endE true s c)).drop fr.toNat) 0).toNat
        have b5 := play_bd' hs hp t1 (fr + inwI ((playL s plan (endE true s c)).drop fr.toNat) 0).toNat
        exact (GoE.endsT okF hJ mixed_ok hg0 (wShelters_s0 B s c plan t fr k dJ0)
         ⟨(ltq_t q2), hp1⟩).cast (by (exfalso; omega))
       ·
        have hp2 : AllP (wShelters_p2 B s c plan t fr k dJ0) := by
         have h1 := shore_facts ‹shoreB s = true›
         have h2 := end_truth (b := true) ‹shoreB s = true› ‹stormB c = true›
         have w1 := dry_t k0 (by omega) (by assumption)
         have b3 := inw_a (l := playL s plan (endE true s c)) hf.1 hi
         have b4 := between_k hs hc hp ht (fr + inwI ((playL s plan (endE true s c)).drop fr.toNat) 0).toNat
         have b5 := play_bd' hs hp t1 (fr + inwI ((playL s plan (endE true s c)).drop fr.toNat) 0).toNat
         exact ⟨⟨by omega, by omega, (rowL_extract (z := 1) (fun _ => rfl) (by omega))⟩, ⟨(ltq_f (Int.not_lt.1 q2)), hp1⟩⟩
        by_cases q3 : (WCell.floor (List.getD s.cells k.toNat default) : Int) < (List.getD (playL s plan t) k.toNat default)
        ·
         have h1 := shore_facts ‹shoreB s = true›
         have h2 := end_truth (b := true) ‹shoreB s = true› ‹stormB c = true›
         have w1 := dry_t k0 (by omega) (by assumption)
         have b3 := inw_a (l := playL s plan (endE true s c)) hf.1 hi
         have b4 := between_k hs hc hp ht (fr + inwI ((playL s plan (endE true s c)).drop fr.toNat) 0).toNat
         have b5 := play_bd' hs hp t1 (fr + inwI ((playL s plan (endE true s c)).drop fr.toNat) 0).toNat
         exact (GoE.endsT okF hJ mixed_ok hg0 (wShelters_s1 B s c plan t fr k dJ0)
          ⟨(ltq_t q3), hp2⟩).cast (by (exfalso; omega))
        ·
         have hp3 : AllP (wShelters_p3 B s c plan t fr k dJ0) := by
          have h1 := shore_facts ‹shoreB s = true›
          have h2 := end_truth (b := true) ‹shoreB s = true› ‹stormB c = true›
          have w1 := dry_t k0 (by omega) (by assumption)
          have b3 := inw_a (l := playL s plan (endE true s c)) hf.1 hi
          have b4 := between_k hs hc hp ht (fr + inwI ((playL s plan (endE true s c)).drop fr.toNat) 0).toNat
          have b5 := play_bd' hs hp t1 (fr + inwI ((playL s plan (endE true s c)).drop fr.toNat) 0).toNat
          exact ⟨⟨by omega, by omega, (rowL_extract (z := 1) (fun _ => rfl) (by omega))⟩, ⟨(ltq_f (Int.not_lt.1 q3)), hp2⟩⟩
         by_cases q4 : (WCell.floor (List.getD s.cells k.toNat default) : Int) < (List.getD (playL s plan (endE true s c)) k.toNat default)
         ·
          have h1 := shore_facts ‹shoreB s = true›
          have h2 := end_truth (b := true) ‹shoreB s = true› ‹stormB c = true›
          have w1 := dry_t k0 (by omega) (by assumption)
          have b3 := inw_a (l := playL s plan (endE true s c)) hf.1 hi
          have b4 := between_k hs hc hp ht (fr + inwI ((playL s plan (endE true s c)).drop fr.toNat) 0).toNat
          have b5 := play_bd' hs hp t1 (fr + inwI ((playL s plan (endE true s c)).drop fr.toNat) 0).toNat
          exact (GoE.endsT okF hJ mixed_ok hg0 (wShelters_s2 B s c plan t fr k dJ0)
           ⟨(ltq_t q4), hp3⟩).cast (by (exfalso; omega))
         ·
          have hp4 : AllP (wShelters_p4 B s c plan t fr k dJ0) := by
           exact ⟨(ltq_f (Int.not_lt.1 q4)), hp3⟩
          by_cases q5 : (fr : Int) ≤ (k)
          ·
           have hp5 : AllP (wShelters_p5 B s c plan t fr k dJ0) := by
            exact ⟨(nltq_t q5), hp4⟩
           by_cases q6 : (if 0 ≤ inwI (List.drop fr.toNat (playL s plan (endE true s c))) 0 then 0 else 5 : Int) ≠ (0)
           ·
            have hp6 : AllP (wShelters_p6 B s c plan t fr k dJ0) := by
             have h1 := shore_facts ‹shoreB s = true›
             have h2 := end_truth (b := true) ‹shoreB s = true› ‹stormB c = true›
             have w1 := dry_t k0 (by omega) (by assumption)
             have b3 := inw_a (l := playL s plan (endE true s c)) hf.1 hi
             have b4 := between_k hs hc hp ht (fr + inwI ((playL s plan (endE true s c)).drop fr.toNat) 0).toNat
             have b5 := play_bd' hs hp t1 (fr + inwI ((playL s plan (endE true s c)).drop fr.toNat) 0).toNat
             exact ⟨⟨by omega, by omega, (rowL_extract (z := 1) (fun _ => rfl) (by omega))⟩, ⟨(neqq_t q6), hp5⟩⟩
            by_cases q7 : (List.getD (playL s plan (endE true s c)) k.toNat default : Int) = (0)
            ·
             have h1 := shore_facts ‹shoreB s = true›
             have h2 := end_truth (b := true) ‹shoreB s = true› ‹stormB c = true›
             have w1 := dry_t k0 (by omega) (by assumption)
             have b3 := inw_a (l := playL s plan (endE true s c)) hf.1 hi
             have b4 := between_k hs hc hp ht (fr + inwI ((playL s plan (endE true s c)).drop fr.toNat) 0).toNat
             have b5 := play_bd' hs hp t1 (fr + inwI ((playL s plan (endE true s c)).drop fr.toNat) 0).toNat
             exact (GoE.endsT okF hJ mixed_ok hg0 (wShelters_s3 B s c plan t fr k dJ0)
              ⟨(eqq_t q7), hp6⟩).cast (by (exfalso; omega))
            ·
             have h1 := shore_facts ‹shoreB s = true›
             have h2 := end_truth (b := true) ‹shoreB s = true› ‹stormB c = true›
             have w1 := dry_t k0 (by omega) (by assumption)
             have b3 := inw_a (l := playL s plan (endE true s c)) hf.1 hi
             have b4 := between_k hs hc hp ht (fr + inwI ((playL s plan (endE true s c)).drop fr.toNat) 0).toNat
             have b5 := play_bd' hs hp t1 (fr + inwI ((playL s plan (endE true s c)).drop fr.toNat) 0).toNat
             exact ((ih0 _ (by omega)).1 (k + 1) rfl (by omega) (by with_reducible assumption) (by with_reducible assumption) (by with_reducible assumption) (by with_reducible assumption) (by with_reducible assumption) (by with_reducible assumption)
              (hg0.landM okF hJ mixed_ok (wShelters_s4 B s c plan t fr k dJ0)
              ⟨(wq_in (by omega) (by omega)), ⟨(eqq_f q7), hp6⟩⟩ (by kernel_rfl) (by kernel_rfl))).cast (by rfl)
           ·
            have hp7 : AllP (wShelters_p7 B s c plan t fr k dJ0) := by
             exact ⟨(neqq_f (Decidable.of_not_not q6)), hp5⟩
            by_cases q7 : (k : Int) < (fr + inwI (List.drop fr.toNat (playL s plan (endE true s c))) 0)
            ·
             have hp8 : AllP (wShelters_p8 B s c plan t fr k dJ0) := by
              have h1 := shore_facts ‹shoreB s = true›
              have h2 := end_truth (b := true) ‹shoreB s = true› ‹stormB c = true›
              have w1 := dry_t k0 (by omega) (by assumption)
              have b3 := inw_a (l := playL s plan (endE true s c)) hf.1 hi
              have b4 := between_k hs hc hp ht (fr + inwI ((playL s plan (endE true s c)).drop fr.toNat) 0).toNat
              have b5 := play_bd' hs hp t1 (fr + inwI ((playL s plan (endE true s c)).drop fr.toNat) 0).toNat
              exact ⟨⟨by omega, by omega, (rowL_extract (z := 1) (fun _ => rfl) (by omega))⟩, ⟨(ltq_t q7), hp7⟩⟩
             by_cases q8 : (List.getD (playL s plan (endE true s c)) k.toNat default : Int) = (0)
             ·
              have h1 := shore_facts ‹shoreB s = true›
              have h2 := end_truth (b := true) ‹shoreB s = true› ‹stormB c = true›
              have w1 := dry_t k0 (by omega) (by assumption)
              have b3 := inw_a (l := playL s plan (endE true s c)) hf.1 hi
              have b4 := between_k hs hc hp ht (fr + inwI ((playL s plan (endE true s c)).drop fr.toNat) 0).toNat
              have b5 := play_bd' hs hp t1 (fr + inwI ((playL s plan (endE true s c)).drop fr.toNat) 0).toNat
              exact (GoE.endsT okF hJ mixed_ok hg0 (wShelters_s5 B s c plan t fr k dJ0)
               ⟨(eqq_t q8), hp8⟩).cast (by (exfalso; omega))
             ·
              have h1 := shore_facts ‹shoreB s = true›
              have h2 := end_truth (b := true) ‹shoreB s = true› ‹stormB c = true›
              have w1 := dry_t k0 (by omega) (by assumption)
              have b3 := inw_a (l := playL s plan (endE true s c)) hf.1 hi
              have b4 := between_k hs hc hp ht (fr + inwI ((playL s plan (endE true s c)).drop fr.toNat) 0).toNat
              have b5 := play_bd' hs hp t1 (fr + inwI ((playL s plan (endE true s c)).drop fr.toNat) 0).toNat
              exact ((ih0 _ (by omega)).1 (k + 1) rfl (by omega) (by with_reducible assumption) (by with_reducible assumption) (by with_reducible assumption) (by with_reducible assumption) (by with_reducible assumption) (by with_reducible assumption)
               (hg0.landM okF hJ mixed_ok (wShelters_s6 B s c plan t fr k dJ0)
               ⟨(wq_in (by omega) (by omega)), ⟨(eqq_f q8), hp8⟩⟩ (by kernel_rfl) (by kernel_rfl))).cast (by rfl)
            ·
             have h1 := shore_facts ‹shoreB s = true›
             have h2 := end_truth (b := true) ‹shoreB s = true› ‹stormB c = true›
             have w1 := dry_t k0 (by omega) (by assumption)
             have b3 := inw_a (l := playL s plan (endE true s c)) hf.1 hi
             have b4 := between_k hs hc hp ht (fr + inwI ((playL s plan (endE true s c)).drop fr.toNat) 0).toNat
             have b5 := play_bd' hs hp t1 (fr + inwI ((playL s plan (endE true s c)).drop fr.toNat) 0).toNat
             exact ((ih0 _ (by omega)).1 (k + 1) rfl (by omega) (by with_reducible assumption) (by with_reducible assumption) (by with_reducible assumption) (by with_reducible assumption) (by with_reducible assumption) (by with_reducible assumption)
              (hg0.landM okF hJ mixed_ok (wShelters_s7 B s c plan t fr k dJ0)
              ⟨(wq_in (by omega) (by omega)), ⟨(ltq_f (Int.not_lt.1 q7)), hp7⟩⟩ (by kernel_rfl) (by kernel_rfl))).cast (by rfl)
          ·
           have h1 := shore_facts ‹shoreB s = true›
           have h2 := end_truth (b := true) ‹shoreB s = true› ‹stormB c = true›
           have w1 := dry_t k0 (by omega) (by assumption)
           have b3 := inw_a (l := playL s plan (endE true s c)) hf.1 hi
           have b4 := between_k hs hc hp ht (fr + inwI ((playL s plan (endE true s c)).drop fr.toNat) 0).toNat
           have b5 := play_bd' hs hp t1 (fr + inwI ((playL s plan (endE true s c)).drop fr.toNat) 0).toNat
           exact ((ih0 _ (by omega)).1 (k + 1) rfl (by omega) (by with_reducible assumption) (by with_reducible assumption) (by with_reducible assumption) (by with_reducible assumption) (by with_reducible assumption) (by with_reducible assumption)
            (hg0.landM okF hJ mixed_ok (wShelters_s8 B s c plan t fr k dJ0)
            ⟨(wq_in (by omega) (by omega)), ⟨(nltq_f (Int.not_le.1 q5)), hp4⟩⟩ (by kernel_rfl) (by kernel_rfl))).cast (by rfl)
     | false =>
       have hp9 : AllP (wShelters_p9 B s c plan t fr k dJ0) := by
        have h1 := shore_facts ‹shoreB s = true›
        have h2 := end_truth (b := true) ‹shoreB s = true› ‹stormB c = true›
        have w1 := dry_f k0 (by omega) (by assumption)
        have b3 := inw_a (l := playL s plan (endE true s c)) hf.1 hi
        have b4 := between_k hs hc hp ht (fr + inwI ((playL s plan (endE true s c)).drop fr.toNat) 0).toNat
        have b5 := play_bd' hs hp t1 (fr + inwI ((playL s plan (endE true s c)).drop fr.toNat) 0).toNat
        exact ⟨⟨trivial, (by have t_ := rHas (dryL s (playL s plan (endE true s c)) 0) (k); rw [q1] at t_; exact t_)⟩, hp0⟩
       by_cases q2 : (0 : Int) ≤ (WCell.floor (List.getD s.cells k.toNat default))
       ·
        have hp10 : AllP (wShelters_p10 B s c plan t fr k dJ0) := by
         have h1 := shore_facts ‹shoreB s = true›
         have h2 := end_truth (b := true) ‹shoreB s = true› ‹stormB c = true›
         have w1 := dry_f k0 (by omega) (by assumption)
         have b3 := inw_a (l := playL s plan (endE true s c)) hf.1 hi
         have b4 := between_k hs hc hp ht (fr + inwI ((playL s plan (endE true s c)).drop fr.toNat) 0).toNat
         have b5 := play_bd' hs hp t1 (fr + inwI ((playL s plan (endE true s c)).drop fr.toNat) 0).toNat
         exact ⟨⟨by omega, by omega, (rowL_extract (z := 1) (fun _ => rfl) (by omega))⟩, ⟨(nltq_t q2), hp9⟩⟩
        by_cases q3 : (List.getD (playL s plan (endE true s c)) k.toNat default : Int) ≤ (WCell.floor (List.getD s.cells k.toNat default))
        ·
         have h1 := shore_facts ‹shoreB s = true›
         have h2 := end_truth (b := true) ‹shoreB s = true› ‹stormB c = true›
         have w1 := dry_f k0 (by omega) (by assumption)
         have b3 := inw_a (l := playL s plan (endE true s c)) hf.1 hi
         have b4 := between_k hs hc hp ht (fr + inwI ((playL s plan (endE true s c)).drop fr.toNat) 0).toNat
         have b5 := play_bd' hs hp t1 (fr + inwI ((playL s plan (endE true s c)).drop fr.toNat) 0).toNat
         exact (GoE.endsT okF hJ mixed_ok hg0 (wShelters_s9 B s c plan t fr k dJ0)
          ⟨(nltq_t q3), hp10⟩).cast (by (exfalso; omega))
        ·
         have hp11 : AllP (wShelters_p11 B s c plan t fr k dJ0) := by
          exact ⟨(nltq_f (Int.not_le.1 q3)), hp10⟩
         by_cases q4 : (fr : Int) ≤ (k)
         ·
          have hp12 : AllP (wShelters_p12 B s c plan t fr k dJ0) := by
           exact ⟨(nltq_t q4), hp11⟩
          by_cases q5 : (if 0 ≤ inwI (List.drop fr.toNat (playL s plan (endE true s c))) 0 then 0 else 5 : Int) ≠ (0)
          ·
           have hp13 : AllP (wShelters_p13 B s c plan t fr k dJ0) := by
            have h1 := shore_facts ‹shoreB s = true›
            have h2 := end_truth (b := true) ‹shoreB s = true› ‹stormB c = true›
            have w1 := dry_f k0 (by omega) (by assumption)
            have b3 := inw_a (l := playL s plan (endE true s c)) hf.1 hi
            have b4 := between_k hs hc hp ht (fr + inwI ((playL s plan (endE true s c)).drop fr.toNat) 0).toNat
            have b5 := play_bd' hs hp t1 (fr + inwI ((playL s plan (endE true s c)).drop fr.toNat) 0).toNat
            exact ⟨⟨by omega, by omega, (rowL_extract (z := 1) (fun _ => rfl) (by omega))⟩, ⟨(neqq_t q5), hp12⟩⟩
           by_cases q6 : (List.getD (playL s plan (endE true s c)) k.toNat default : Int) = (0)
           ·
            have h1 := shore_facts ‹shoreB s = true›
            have h2 := end_truth (b := true) ‹shoreB s = true› ‹stormB c = true›
            have w1 := dry_f k0 (by omega) (by assumption)
            have b3 := inw_a (l := playL s plan (endE true s c)) hf.1 hi
            have b4 := between_k hs hc hp ht (fr + inwI ((playL s plan (endE true s c)).drop fr.toNat) 0).toNat
            have b5 := play_bd' hs hp t1 (fr + inwI ((playL s plan (endE true s c)).drop fr.toNat) 0).toNat
            exact (GoE.endsT okF hJ mixed_ok hg0 (wShelters_s10 B s c plan t fr k dJ0)
             ⟨(eqq_t q6), hp13⟩).cast (by (exfalso; omega))
           ·
            have h1 := shore_facts ‹shoreB s = true›
            have h2 := end_truth (b := true) ‹shoreB s = true› ‹stormB c = true›
            have w1 := dry_f k0 (by omega) (by assumption)
            have b3 := inw_a (l := playL s plan (endE true s c)) hf.1 hi
            have b4 := between_k hs hc hp ht (fr + inwI ((playL s plan (endE true s c)).drop fr.toNat) 0).toNat
            have b5 := play_bd' hs hp t1 (fr + inwI ((playL s plan (endE true s c)).drop fr.toNat) 0).toNat
            exact ((ih0 _ (by omega)).1 (k + 1) rfl (by omega) (by with_reducible assumption) (by with_reducible assumption) (by with_reducible assumption) (by with_reducible assumption) (by with_reducible assumption) (by with_reducible assumption)
             (hg0.landM okF hJ mixed_ok (wShelters_s11 B s c plan t fr k dJ0)
             ⟨(wq_in (by omega) (by omega)), ⟨(eqq_f q6), hp13⟩⟩ (by kernel_rfl) (by kernel_rfl))).cast (by rfl)
          ·
           have hp14 : AllP (wShelters_p14 B s c plan t fr k dJ0) := by
            exact ⟨(neqq_f (Decidable.of_not_not q5)), hp12⟩
           by_cases q6 : (k : Int) < (fr + inwI (List.drop fr.toNat (playL s plan (endE true s c))) 0)
           ·
            have hp15 : AllP (wShelters_p15 B s c plan t fr k dJ0) := by
             have h1 := shore_facts ‹shoreB s = true›
             have h2 := end_truth (b := true) ‹shoreB s = true› ‹stormB c = true›
             have w1 := dry_f k0 (by omega) (by assumption)
             have b3 := inw_a (l := playL s plan (endE true s c)) hf.1 hi
             have b4 := between_k hs hc hp ht (fr + inwI ((playL s plan (endE true s c)).drop fr.toNat) 0).toNat
             have b5 := play_bd' hs hp t1 (fr + inwI ((playL s plan (endE true s c)).drop fr.toNat) 0).toNat
             exact ⟨⟨by omega, by omega, (rowL_extract (z := 1) (fun _ => rfl) (by omega))⟩, ⟨(ltq_t q6), hp14⟩⟩
            by_cases q7 : (List.getD (playL s plan (endE true s c)) k.toNat default : Int) = (0)
            ·
             have h1 := shore_facts ‹shoreB s = true›
             have h2 := end_truth (b := true) ‹shoreB s = true› ‹stormB c = true›
             have w1 := dry_f k0 (by omega) (by assumption)
             have b3 := inw_a (l := playL s plan (endE true s c)) hf.1 hi
             have b4 := between_k hs hc hp ht (fr + inwI ((playL s plan (endE true s c)).drop fr.toNat) 0).toNat
             have b5 := play_bd' hs hp t1 (fr + inwI ((playL s plan (endE true s c)).drop fr.toNat) 0).toNat
             exact (GoE.endsT okF hJ mixed_ok hg0 (wShelters_s12 B s c plan t fr k dJ0)
              ⟨(eqq_t q7), hp15⟩).cast (by (exfalso; omega))
            ·
             have h1 := shore_facts ‹shoreB s = true›
             have h2 := end_truth (b := true) ‹shoreB s = true› ‹stormB c = true›
             have w1 := dry_f k0 (by omega) (by assumption)
             have b3 := inw_a (l := playL s plan (endE true s c)) hf.1 hi
             have b4 := between_k hs hc hp ht (fr + inwI ((playL s plan (endE true s c)).drop fr.toNat) 0).toNat
             have b5 := play_bd' hs hp t1 (fr + inwI ((playL s plan (endE true s c)).drop fr.toNat) 0).toNat
             exact ((ih0 _ (by omega)).1 (k + 1) rfl (by omega) (by with_reducible assumption) (by with_reducible assumption) (by with_reducible assumption) (by with_reducible assumption) (by with_reducible assumption) (by with_reducible assumption)
              (hg0.landM okF hJ mixed_ok (wShelters_s13 B s c plan t fr k dJ0)
              ⟨(wq_in (by omega) (by omega)), ⟨(eqq_f q7), hp15⟩⟩ (by kernel_rfl) (by kernel_rfl))).cast (by rfl)
           ·
            have h1 := shore_facts ‹shoreB s = true›
            have h2 := end_truth (b := true) ‹shoreB s = true› ‹stormB c = true›
            have w1 := dry_f k0 (by omega) (by assumption)
            have b3 := inw_a (l := playL s plan (endE true s c)) hf.1 hi
            have b4 := between_k hs hc hp ht (fr + inwI ((playL s plan (endE true s c)).drop fr.toNat) 0).toNat
            have b5 := play_bd' hs hp t1 (fr + inwI ((playL s plan (endE true s c)).drop fr.toNat) 0).toNat
            exact ((ih0 _ (by omega)).1 (k + 1) rfl (by omega) (by with_reducible assumption) (by with_reducible assumption) (by with_reducible assumption) (by with_reducible assumption) (by with_reducible assumption) (by with_reducible assumption)
             (hg0.landM okF hJ mixed_ok (wShelters_s14 B s c plan t fr k dJ0)
             ⟨(wq_in (by omega) (by omega)), ⟨(ltq_f (Int.not_lt.1 q6)), hp14⟩⟩ (by kernel_rfl) (by kernel_rfl))).cast (by rfl)
         ·
          have h1 := shore_facts ‹shoreB s = true›
          have h2 := end_truth (b := true) ‹shoreB s = true› ‹stormB c = true›
          have w1 := dry_f k0 (by omega) (by assumption)
          have b3 := inw_a (l := playL s plan (endE true s c)) hf.1 hi
          have b4 := between_k hs hc hp ht (fr + inwI ((playL s plan (endE true s c)).drop fr.toNat) 0).toNat
          have b5 := play_bd' hs hp t1 (fr + inwI ((playL s plan (endE true s c)).drop fr.toNat) 0).toNat
          exact ((ih0 _ (by omega)).1 (k + 1) rfl (by omega) (by with_reducible assumption) (by with_reducible assumption) (by with_reducible assumption) (by with_reducible assumption) (by with_reducible assumption) (by with_reducible assumption)
           (hg0.landM okF hJ mixed_ok (wShelters_s15 B s c plan t fr k dJ0)
           ⟨(wq_in (by omega) (by omega)), ⟨(nltq_f (Int.not_le.1 q4)), hp11⟩⟩ (by kernel_rfl) (by kernel_rfl))).cast (by rfl)
       ·
        have hp16 : AllP (wShelters_p16 B s c plan t fr k dJ0) := by
         exact ⟨(nltq_f (Int.not_le.1 q2)), hp9⟩
        by_cases q3 : (fr : Int) ≤ (k)
        ·
         have hp17 : AllP (wShelters_p17 B s c plan t fr k dJ0) := by
          exact ⟨(nltq_t q3), hp16⟩
         by_cases q4 : (if 0 ≤ inwI (List.drop fr.toNat (playL s plan (endE true s c))) 0 then 0 else 5 : Int) ≠ (0)
         ·
          have hp18 : AllP (wShelters_p18 B s c plan t fr k dJ0) := by
           have h1 := shore_facts ‹shoreB s = true›
           have h2 := end_truth (b := true) ‹shoreB s = true› ‹stormB c = true›
           have w1 := dry_f k0 (by omega) (by assumption)
           have b3 := inw_a (l := playL s plan (endE true s c)) hf.1 hi
           have b4 := between_k hs hc hp ht (fr + inwI ((playL s plan (endE true s c)).drop fr.toNat) 0).toNat
           have b5 := play_bd' hs hp t1 (fr + inwI ((playL s plan (endE true s c)).drop fr.toNat) 0).toNat
           exact ⟨⟨by omega, by omega, (rowL_extract (z := 1) (fun _ => rfl) (by omega))⟩, ⟨(neqq_t q4), hp17⟩⟩
          by_cases q5 : (List.getD (playL s plan (endE true s c)) k.toNat default : Int) = (0)
          ·
           have h1 := shore_facts ‹shoreB s = true›
           have h2 := end_truth (b := true) ‹shoreB s = true› ‹stormB c = true›
           have w1 := dry_f k0 (by omega) (by assumption)
           have b3 := inw_a (l := playL s plan (endE true s c)) hf.1 hi
           have b4 := between_k hs hc hp ht (fr + inwI ((playL s plan (endE true s c)).drop fr.toNat) 0).toNat
           have b5 := play_bd' hs hp t1 (fr + inwI ((playL s plan (endE true s c)).drop fr.toNat) 0).toNat
           exact (GoE.endsT okF hJ mixed_ok hg0 (wShelters_s16 B s c plan t fr k dJ0)
            ⟨(eqq_t q5), hp18⟩).cast (by (exfalso; omega))
          ·
           have h1 := shore_facts ‹shoreB s = true›
           have h2 := end_truth (b := true) ‹shoreB s = true› ‹stormB c = true›
           have w1 := dry_f k0 (by omega) (by assumption)
           have b3 := inw_a (l := playL s plan (endE true s c)) hf.1 hi
           have b4 := between_k hs hc hp ht (fr + inwI ((playL s plan (endE true s c)).drop fr.toNat) 0).toNat
           have b5 := play_bd' hs hp t1 (fr + inwI ((playL s plan (endE true s c)).drop fr.toNat) 0).toNat
           exact ((ih0 _ (by omega)).1 (k + 1) rfl (by omega) (by with_reducible assumption) (by with_reducible assumption) (by with_reducible assumption) (by with_reducible assumption) (by with_reducible assumption) (by with_reducible assumption)
            (hg0.landM okF hJ mixed_ok (wShelters_s17 B s c plan t fr k dJ0)
            ⟨(wq_in (by omega) (by omega)), ⟨(eqq_f q5), hp18⟩⟩ (by kernel_rfl) (by kernel_rfl))).cast (by rfl)
         ·
          have hp19 : AllP (wShelters_p19 B s c plan t fr k dJ0) := by
           exact ⟨(neqq_f (Decidable.of_not_not q4)), hp17⟩
          by_cases q5 : (k : Int) < (fr + inwI (List.drop fr.toNat (playL s plan (endE true s c))) 0)
          ·
           have hp20 : AllP (wShelters_p20 B s c plan t fr k dJ0) := by
            have h1 := shore_facts ‹shoreB s = true›
            have h2 := end_truth (b := true) ‹shoreB s = true› ‹stormB c = true›
            have w1 := dry_f k0 (by omega) (by assumption)
            have b3 := inw_a (l := playL s plan (endE true s c)) hf.1 hi
            have b4 := between_k hs hc hp ht (fr + inwI ((playL s plan (endE true s c)).drop fr.toNat) 0).toNat
            have b5 := play_bd' hs hp t1 (fr + inwI ((playL s plan (endE true s c)).drop fr.toNat) 0).toNat
            exact ⟨⟨by omega, by omega, (rowL_extract (z := 1) (fun _ => rfl) (by omega))⟩, ⟨(ltq_t q5), hp19⟩⟩
           by_cases q6 : (List.getD (playL s plan (endE true s c)) k.toNat default : Int) = (0)
           ·
            have h1 := shore_facts ‹shoreB s = true›
            have h2 := end_truth (b := true) ‹shoreB s = true› ‹stormB c = true›
            have w1 := dry_f k0 (by omega) (by assumption)
            have b3 := inw_a (l := playL s plan (endE true s c)) hf.1 hi
            have b4 := between_k hs hc hp ht (fr + inwI ((playL s plan (endE true s c)).drop fr.toNat) 0).toNat
            have b5 := play_bd' hs hp t1 (fr + inwI ((playL s plan (endE true s c)).drop fr.toNat) 0).toNat
            exact (GoE.endsT okF hJ mixed_ok hg0 (wShelters_s18 B s c plan t fr k dJ0)
             ⟨(eqq_t q6), hp20⟩).cast (by (exfalso; omega))
           ·
            have h1 := shore_facts ‹shoreB s = true›
            have h2 := end_truth (b := true) ‹shoreB s = true› ‹stormB c = true›
            have w1 := dry_f k0 (by omega) (by assumption)
            have b3 := inw_a (l := playL s plan (endE true s c)) hf.1 hi
            have b4 := between_k hs hc hp ht (fr + inwI ((playL s plan (endE true s c)).drop fr.toNat) 0).toNat
            have b5 := play_bd' hs hp t1 (fr + inwI ((playL s plan (endE true s c)).drop fr.toNat) 0).toNat
            exact ((ih0 _ (by omega)).1 (k + 1) rfl (by omega) (by with_reducible assumption) (by with_reducible assumption) (by with_reducible assumption) (by with_reducible assumption) (by with_reducible assumption) (by with_reducible assumption)
             (hg0.landM okF hJ mixed_ok (wShelters_s19 B s c plan t fr k dJ0)
             ⟨(wq_in (by omega) (by omega)), ⟨(eqq_f q6), hp20⟩⟩ (by kernel_rfl) (by kernel_rfl))).cast (by rfl)
          ·
           have h1 := shore_facts ‹shoreB s = true›
           have h2 := end_truth (b := true) ‹shoreB s = true› ‹stormB c = true›
           have w1 := dry_f k0 (by omega) (by assumption)
           have b3 := inw_a (l := playL s plan (endE true s c)) hf.1 hi
           have b4 := between_k hs hc hp ht (fr + inwI ((playL s plan (endE true s c)).drop fr.toNat) 0).toNat
           have b5 := play_bd' hs hp t1 (fr + inwI ((playL s plan (endE true s c)).drop fr.toNat) 0).toNat
           exact ((ih0 _ (by omega)).1 (k + 1) rfl (by omega) (by with_reducible assumption) (by with_reducible assumption) (by with_reducible assumption) (by with_reducible assumption) (by with_reducible assumption) (by with_reducible assumption)
            (hg0.landM okF hJ mixed_ok (wShelters_s20 B s c plan t fr k dJ0)
            ⟨(wq_in (by omega) (by omega)), ⟨(ltq_f (Int.not_lt.1 q5)), hp19⟩⟩ (by kernel_rfl) (by kernel_rfl))).cast (by rfl)
        ·
         have h1 := shore_facts ‹shoreB s = true›
         have h2 := end_truth (b := true) ‹shoreB s = true› ‹stormB c = true›
         have w1 := dry_f k0 (by omega) (by assumption)
         have b3 := inw_a (l := playL s plan (endE true s c)) hf.1 hi
         have b4 := between_k hs hc hp ht (fr + inwI ((playL s plan (endE true s c)).drop fr.toNat) 0).toNat
         have b5 := play_bd' hs hp t1 (fr + inwI ((playL s plan (endE true s c)).drop fr.toNat) 0).toNat
         exact ((ih0 _ (by omega)).1 (k + 1) rfl (by omega) (by with_reducible assumption) (by with_reducible assumption) (by with_reducible assumption) (by with_reducible assumption) (by with_reducible assumption) (by with_reducible assumption)
          (hg0.landM okF hJ mixed_ok (wShelters_s21 B s c plan t fr k dJ0)
          ⟨(wq_in (by omega) (by omega)), ⟨(nltq_f (Int.not_le.1 q3)), hp16⟩⟩ (by kernel_rfl) (by kernel_rfl))).cast (by rfl)
    ·
     have hp21 : AllP (wShelters_p21 B s c plan t fr k dJ0) := by
      exact ⟨(ltq_f (Int.not_lt.1 q0)), trivial⟩
     by_cases q1 : (if 0 ≤ inwI (List.drop fr.toNat (playL s plan (endE true s c))) 0 then 0 else 5 : Int) ≠ (0)
     ·
      have hp22 : AllP (wShelters_p22 B s c plan t fr k dJ0) := by
       exact ⟨(neqq_t q1), hp21⟩
      by_cases q2 : (if 0 ≤ inwI (List.drop fr.toNat (playL s plan (endE true s c))) 0 then 0 else 5 : Int) = (5)
      ·
       exact (GoE.endsT okF hJ mixed_ok hg0 (wShelters_s22 B s c plan t fr k dJ0)
        ⟨⟨trivial, known⟩, ⟨(eqq_t q2), hp22⟩⟩).cast rfl
      ·
       have h1 := shore_facts ‹shoreB s = true›
       have h2 := end_truth (b := true) ‹shoreB s = true› ‹stormB c = true›
       have b3 := inw_a (l := playL s plan (endE true s c)) hf.1 hi
       have b4 := between_k hs hc hp ht (fr + inwI ((playL s plan (endE true s c)).drop fr.toNat) 0).toNat
       have b5 := play_bd' hs hp t1 (fr + inwI ((playL s plan (endE true s c)).drop fr.toNat) 0).toNat
       exact (GoE.endsT okF hJ mixed_ok hg0 (wShelters_s23 B s c plan t fr k dJ0)
        ⟨(eqq_f q2), hp22⟩).cast (by (exfalso; omega))
     ·
      have hp23 : AllP (wShelters_p23 B s c plan t fr k dJ0) := by
       exact ⟨(neqq_f (Decidable.of_not_not q1)), hp21⟩
      cases q2 : inB (fr + inwI (List.drop fr.toNat (playL s plan (endE true s c))) 0) 0 ((↑s.cells.length : Int) - 1) with
      | true =>
        have hp24 : AllP (wShelters_p24 B s c plan t fr k dJ0) := by
         have h1 := shore_facts ‹shoreB s = true›
         have h2 := end_truth (b := true) ‹shoreB s = true› ‹stormB c = true›
         have b3 := inw_a (l := playL s plan (endE true s c)) hf.1 hi
         have b4 := between_k hs hc hp ht (fr + inwI ((playL s plan (endE true s c)).drop fr.toNat) 0).toNat
         have b5 := play_bd' hs hp t1 (fr + inwI ((playL s plan (endE true s c)).drop fr.toNat) 0).toNat
         exact ⟨⟨trivial, (by have t_ := rCell (s) (fr + inwI (List.drop fr.toNat (playL s plan (endE true s c))) 0); rw [q2] at t_; exact t_)⟩, hp23⟩
        by_cases q3 : (fr : Int) ≤ (fr + inwI (List.drop fr.toNat (playL s plan (endE true s c))) 0)
        ·
         have hp25 : AllP (wShelters_p25 B s c plan t fr k dJ0) := by
          have h1 := shore_facts ‹shoreB s = true›
          have h2 := end_truth (b := true) ‹shoreB s = true› ‹stormB c = true›
          have b3 := inw_a (l := playL s plan (endE true s c)) hf.1 hi
          have b4 := between_k hs hc hp ht (fr + inwI ((playL s plan (endE true s c)).drop fr.toNat) 0).toNat
          have b5 := play_bd' hs hp t1 (fr + inwI ((playL s plan (endE true s c)).drop fr.toNat) 0).toNat
          exact ⟨⟨by omega, by omega, (rowL_extract (z := 1) (fun _ => rfl) (by omega))⟩, ⟨(nltq_t q3), hp24⟩⟩
         by_cases q4 : (List.getD (playL s plan t) (Int.toNat (fr + inwI (List.drop fr.toNat (playL s plan (endE true s c))) 0)) default : Int) = (0)
         ·
          have hp26 : AllP (wShelters_p26 B s c plan t fr k dJ0) := by
           have h1 := shore_facts ‹shoreB s = true›
           have h2 := end_truth (b := true) ‹shoreB s = true› ‹stormB c = true›
           have b3 := inw_a (l := playL s plan (endE true s c)) hf.1 hi
           have b4 := between_k hs hc hp ht (fr + inwI ((playL s plan (endE true s c)).drop fr.toNat) 0).toNat
           have b5 := play_bd' hs hp t1 (fr + inwI ((playL s plan (endE true s c)).drop fr.toNat) 0).toNat
           exact ⟨⟨by omega, by omega, (rowL_extract (z := 1) (fun _ => rfl) (by omega))⟩, ⟨(eqq_t q4), hp25⟩⟩
          by_cases q5 : (List.getD (playL s plan (endE true s c)) (Int.toNat (fr + inwI (List.drop fr.toNat (playL s plan (endE true s c))) 0)) default : Int) = (0)
          ·
           exact (GoE.endsT okF hJ mixed_ok hg0 (wShelters_s24 B s c plan t fr k dJ0)
            ⟨⟨trivial, known⟩, ⟨(eqq_t q5), hp26⟩⟩).cast rfl
          ·
           have h1 := shore_facts ‹shoreB s = true›
           have h2 := end_truth (b := true) ‹shoreB s = true› ‹stormB c = true›
           have b3 := inw_a (l := playL s plan (endE true s c)) hf.1 hi
           have b4 := between_k hs hc hp ht (fr + inwI ((playL s plan (endE true s c)).drop fr.toNat) 0).toNat
           have b5 := play_bd' hs hp t1 (fr + inwI ((playL s plan (endE true s c)).drop fr.toNat) 0).toNat
           exact (GoE.endsT okF hJ mixed_ok hg0 (wShelters_s25 B s c plan t fr k dJ0)
            ⟨(eqq_f q5), hp26⟩).cast (by (exfalso; omega))
         ·
          have h1 := shore_facts ‹shoreB s = true›
          have h2 := end_truth (b := true) ‹shoreB s = true› ‹stormB c = true›
          have b3 := inw_a (l := playL s plan (endE true s c)) hf.1 hi
          have b4 := between_k hs hc hp ht (fr + inwI ((playL s plan (endE true s c)).drop fr.toNat) 0).toNat
          have b5 := play_bd' hs hp t1 (fr + inwI ((playL s plan (endE true s c)).drop fr.toNat) 0).toNat
          exact (GoE.endsT okF hJ mixed_ok hg0 (wShelters_s26 B s c plan t fr k dJ0)
           ⟨(eqq_f q4), hp25⟩).cast (by (exfalso; omega))
        ·
         have h1 := shore_facts ‹shoreB s = true›
         have h2 := end_truth (b := true) ‹shoreB s = true› ‹stormB c = true›
         have b3 := inw_a (l := playL s plan (endE true s c)) hf.1 hi
         have b4 := between_k hs hc hp ht (fr + inwI ((playL s plan (endE true s c)).drop fr.toNat) 0).toNat
         have b5 := play_bd' hs hp t1 (fr + inwI ((playL s plan (endE true s c)).drop fr.toNat) 0).toNat
         exact (GoE.endsT okF hJ mixed_ok hg0 (wShelters_s27 B s c plan t fr k dJ0)
          ⟨(nltq_f (Int.not_le.1 q3)), hp24⟩).cast (by (exfalso; omega))
      | false =>
        have h1 := shore_facts ‹shoreB s = true›
        have h2 := end_truth (b := true) ‹shoreB s = true› ‹stormB c = true›
        have b3 := inw_a (l := playL s plan (endE true s c)) hf.1 hi
        have b4 := between_k hs hc hp ht (fr + inwI ((playL s plan (endE true s c)).drop fr.toNat) 0).toNat
        have b5 := play_bd' hs hp t1 (fr + inwI ((playL s plan (endE true s c)).drop fr.toNat) 0).toNat
        have n1 := notIn ‹inB _ _ _ = false›
        exact (GoE.endsT okF hJ mixed_ok hg0 (wShelters_s28 B s c plan t fr k dJ0)
         ⟨⟨trivial, (by have t_ := rCell (s) (fr + inwI (List.drop fr.toNat (playL s plan (endE true s c))) 0); rw [q2] at t_; exact t_)⟩, hp23⟩).cast (by (exfalso; omega))
   ·intro k hm0 k0 hs hc hp ht hf hi ⟨dJ0, hdJ0, hg0⟩
    have hge := inwI_ge (l := (playL s plan (endE true s c)).drop fr.toNat) (i := 0)
    have hl1 := playL_len (s := s) (plan := plan) (t := t)
    have hl2 := playL_len (s := s) (plan := plan) (t := endE true s c)
    have hl4 : (endE true s c).drags.length = s.cells.length := by simp [endE]
    have hdl : ((playL s plan (endE true s c)).drop fr.toNat).length = s.cells.length - fr.toNat := by rw [List.length_drop, hl2]
    have hdy := dry_len (s := s) (l := playL s plan (endE true s c))
    have t1 := tOk_of hs hc ht
    have b1 := between_k hs hc hp ht k.toNat
    have p0 := play_bd' hs hp t1 k.toNat
    have hsf := shore_facts hs
    have b2 : fr ≤ k ∧ k < s.cells.length ∧ (inwI ((playL s plan (endE true s c)).drop fr.toNat) 0 = -1 ∨ k < fr + inwI ((playL s plan (endE true s c)).drop fr.toNat) 0) → (playL s plan (endE true s c)).getD k.toNat default ≠ 0 := fun h => inw_b hf.1 h.1 (by omega) h.2.2
    by_cases q0 : (k : Int) < ((↑s.cells.length : Int))
    ·
     have hp27 : AllP (wShelters_p27 B s c plan t fr k dJ0) := by
      have h1 := shore_facts ‹shoreB s = true›
      have h2 := end_truth (b := true) ‹shoreB s = true› ‹stormB c = true›
      have b4 := between_k hs hc hp ht (fr + inwI ((playL s plan (endE true s c)).drop fr.toNat) 0).toNat
      have b5 := play_bd' hs hp t1 (fr + inwI ((playL s plan (endE true s c)).drop fr.toNat) 0).toNat
      exact ⟨⟨by omega, by omega, (rowL_extract (z := 4) (fun _ => rfl) (by omega))⟩, ⟨(ltq_t q0), trivial⟩⟩
     cases q1 : List.any (dryL s (playL s plan (endE true s c)) 0) fun y => decide (y = k) with
     | true =>
       have hp28 : AllP (wShelters_p28 B s c plan t fr k dJ0) := by
        have h1 := shore_facts ‹shoreB s = true›
        have h2 := end_truth (b := true) ‹shoreB s = true› ‹stormB c = true›
        have w1 := dry_t k0 (by omega) (by assumption)
        have b4 := between_k hs hc hp ht (fr + inwI ((playL s plan (endE true s c)).drop fr.toNat) 0).toNat
        have b5 := play_bd' hs hp t1 (fr + inwI ((playL s plan (endE true s c)).drop fr.toNat) 0).toNat
        exact ⟨⟨trivial, (by have t_ := rHas (dryL s (playL s plan (endE true s c)) 0) (k); rw [q1] at t_; exact t_)⟩, hp27⟩
       by_cases q2 : (WCell.floor (List.getD s.cells k.toNat default) : Int) < (0)
       ·
        have h1 := shore_facts ‹shoreB s = true›
        have h2 := end_truth (b := true) ‹shoreB s = true› ‹stormB c = true›
        have w1 := dry_t k0 (by omega) (by assumption)
        have b4 := between_k hs hc hp ht (fr + inwI ((playL s plan (endE true s c)).drop fr.toNat) 0).toNat
        have b5 := play_bd' hs hp t1 (fr + inwI ((playL s plan (endE true s c)).drop fr.toNat) 0).toNat
        exact (GoE.endsT okF hJ mixed_ok hg0 (wShelters_s29 B s c plan t fr k dJ0)
         ⟨(ltq_t q2), hp28⟩).cast (by (exfalso; omega))
       ·
        have hp29 : AllP (wShelters_p29 B s c plan t fr k dJ0) := by
         have h1 := shore_facts ‹shoreB s = true›
         have h2 := end_truth (b := true) ‹shoreB s = true› ‹stormB c = true›
         have w1 := dry_t k0 (by omega) (by assumption)
         have b4 := between_k hs hc hp ht (fr + inwI ((playL s plan (endE true s c)).drop fr.toNat) 0).toNat
         have b5 := play_bd' hs hp t1 (fr + inwI ((playL s plan (endE true s c)).drop fr.toNat) 0).toNat
         exact ⟨⟨by omega, by omega, (rowL_extract (z := 1) (fun _ => rfl) (by omega))⟩, ⟨(ltq_f (Int.not_lt.1 q2)), hp28⟩⟩
        by_cases q3 : (WCell.floor (List.getD s.cells k.toNat default) : Int) < (List.getD (playL s plan t) k.toNat default)
        ·
         have h1 := shore_facts ‹shoreB s = true›
         have h2 := end_truth (b := true) ‹shoreB s = true› ‹stormB c = true›
         have w1 := dry_t k0 (by omega) (by assumption)
         have b4 := between_k hs hc hp ht (fr + inwI ((playL s plan (endE true s c)).drop fr.toNat) 0).toNat
         have b5 := play_bd' hs hp t1 (fr + inwI ((playL s plan (endE true s c)).drop fr.toNat) 0).toNat
         exact (GoE.endsT okF hJ mixed_ok hg0 (wShelters_s30 B s c plan t fr k dJ0)
          ⟨(ltq_t q3), hp29⟩).cast (by (exfalso; omega))
        ·
         have hp30 : AllP (wShelters_p30 B s c plan t fr k dJ0) := by
          have h1 := shore_facts ‹shoreB s = true›
          have h2 := end_truth (b := true) ‹shoreB s = true› ‹stormB c = true›
          have w1 := dry_t k0 (by omega) (by assumption)
          have b4 := between_k hs hc hp ht (fr + inwI ((playL s plan (endE true s c)).drop fr.toNat) 0).toNat
          have b5 := play_bd' hs hp t1 (fr + inwI ((playL s plan (endE true s c)).drop fr.toNat) 0).toNat
          exact ⟨⟨by omega, by omega, (rowL_extract (z := 1) (fun _ => rfl) (by omega))⟩, ⟨(ltq_f (Int.not_lt.1 q3)), hp29⟩⟩
         by_cases q4 : (WCell.floor (List.getD s.cells k.toNat default) : Int) < (List.getD (playL s plan (endE true s c)) k.toNat default)
         ·
          have h1 := shore_facts ‹shoreB s = true›
          have h2 := end_truth (b := true) ‹shoreB s = true› ‹stormB c = true›
          have w1 := dry_t k0 (by omega) (by assumption)
          have b4 := between_k hs hc hp ht (fr + inwI ((playL s plan (endE true s c)).drop fr.toNat) 0).toNat
          have b5 := play_bd' hs hp t1 (fr + inwI ((playL s plan (endE true s c)).drop fr.toNat) 0).toNat
          exact (GoE.endsT okF hJ mixed_ok hg0 (wShelters_s31 B s c plan t fr k dJ0)
           ⟨(ltq_t q4), hp30⟩).cast (by (exfalso; omega))
         ·
          have hp31 : AllP (wShelters_p31 B s c plan t fr k dJ0) := by
           exact ⟨(ltq_f (Int.not_lt.1 q4)), hp30⟩
          by_cases q5 : (fr : Int) ≤ (k)
          ·
           have hp32 : AllP (wShelters_p32 B s c plan t fr k dJ0) := by
            exact ⟨(nltq_t q5), hp31⟩
           by_cases q6 : (if 0 ≤ inwI (List.drop fr.toNat (playL s plan (endE true s c))) 0 then 0 else 5 : Int) ≠ (0)
           ·
            have hp33 : AllP (wShelters_p33 B s c plan t fr k dJ0) := by
             have h1 := shore_facts ‹shoreB s = true›
             have h2 := end_truth (b := true) ‹shoreB s = true› ‹stormB c = true›
             have w1 := dry_t k0 (by omega) (by assumption)
             have b4 := between_k hs hc hp ht (fr + inwI ((playL s plan (endE true s c)).drop fr.toNat) 0).toNat
             have b5 := play_bd' hs hp t1 (fr + inwI ((playL s plan (endE true s c)).drop fr.toNat) 0).toNat
             exact ⟨⟨by omega, by omega, (rowL_extract (z := 1) (fun _ => rfl) (by omega))⟩, ⟨(neqq_t q6), hp32⟩⟩
            by_cases q7 : (List.getD (playL s plan (endE true s c)) k.toNat default : Int) = (0)
            ·
             have h1 := shore_facts ‹shoreB s = true›
             have h2 := end_truth (b := true) ‹shoreB s = true› ‹stormB c = true›
             have w1 := dry_t k0 (by omega) (by assumption)
             have b4 := between_k hs hc hp ht (fr + inwI ((playL s plan (endE true s c)).drop fr.toNat) 0).toNat
             have b5 := play_bd' hs hp t1 (fr + inwI ((playL s plan (endE true s c)).drop fr.toNat) 0).toNat
             exact (GoE.endsT okF hJ mixed_ok hg0 (wShelters_s32 B s c plan t fr k dJ0)
              ⟨(eqq_t q7), hp33⟩).cast (by (exfalso; omega))
            ·
             have h1 := shore_facts ‹shoreB s = true›
             have h2 := end_truth (b := true) ‹shoreB s = true› ‹stormB c = true›
             have w1 := dry_t k0 (by omega) (by assumption)
             have b4 := between_k hs hc hp ht (fr + inwI ((playL s plan (endE true s c)).drop fr.toNat) 0).toNat
             have b5 := play_bd' hs hp t1 (fr + inwI ((playL s plan (endE true s c)).drop fr.toNat) 0).toNat
             exact ((ih0 _ (by omega)).2 (k + 1) rfl (by omega) (by with_reducible assumption) (by with_reducible assumption) (by with_reducible assumption) (by with_reducible assumption) (by with_reducible assumption) (by with_reducible assumption)
              (hg0.landM okF hJ mixed_ok (wShelters_s33 B s c plan t fr k dJ0)
              ⟨(wq_in (by omega) (by omega)), ⟨(eqq_f q7), hp33⟩⟩ (by kernel_rfl) (by kernel_rfl))).cast (by rfl)
           ·
            have hp34 : AllP (wShelters_p34 B s c plan t fr k dJ0) := by
             exact ⟨(neqq_f (Decidable.of_not_not q6)), hp32⟩
            by_cases q7 : (k : Int) < (0)
            ·
             have hp35 : AllP (wShelters_p35 B s c plan t fr k dJ0) := by
              have h1 := shore_facts ‹shoreB s = true›
              have h2 := end_truth (b := true) ‹shoreB s = true› ‹stormB c = true›
              have w1 := dry_t k0 (by omega) (by assumption)
              have b4 := between_k hs hc hp ht (fr + inwI ((playL s plan (endE true s c)).drop fr.toNat) 0).toNat
              have b5 := play_bd' hs hp t1 (fr + inwI ((playL s plan (endE true s c)).drop fr.toNat) 0).toNat
              exact ⟨⟨by omega, by omega, (rowL_extract (z := 1) (fun _ => rfl) (by omega))⟩, ⟨(ltq_t q7), hp34⟩⟩
             by_cases q8 : (List.getD (playL s plan (endE true s c)) k.toNat default : Int) = (0)
             ·
              have h1 := shore_facts ‹shoreB s = true›
              have h2 := end_truth (b := true) ‹shoreB s = true› ‹stormB c = true›
              have w1 := dry_t k0 (by omega) (by assumption)
              have b4 := between_k hs hc hp ht (fr + inwI ((playL s plan (endE true s c)).drop fr.toNat) 0).toNat
              have b5 := play_bd' hs hp t1 (fr + inwI ((playL s plan (endE true s c)).drop fr.toNat) 0).toNat
              exact (GoE.endsT okF hJ mixed_ok hg0 (wShelters_s34 B s c plan t fr k dJ0)
               ⟨(eqq_t q8), hp35⟩).cast (by (exfalso; omega))
             ·
              have h1 := shore_facts ‹shoreB s = true›
              have h2 := end_truth (b := true) ‹shoreB s = true› ‹stormB c = true›
              have w1 := dry_t k0 (by omega) (by assumption)
              have b4 := between_k hs hc hp ht (fr + inwI ((playL s plan (endE true s c)).drop fr.toNat) 0).toNat
              have b5 := play_bd' hs hp t1 (fr + inwI ((playL s plan (endE true s c)).drop fr.toNat) 0).toNat
              exact ((ih0 _ (by omega)).2 (k + 1) rfl (by omega) (by with_reducible assumption) (by with_reducible assumption) (by with_reducible assumption) (by with_reducible assumption) (by with_reducible assumption) (by with_reducible assumption)
               (hg0.landM okF hJ mixed_ok (wShelters_s35 B s c plan t fr k dJ0)
               ⟨(wq_in (by omega) (by omega)), ⟨(eqq_f q8), hp35⟩⟩ (by kernel_rfl) (by kernel_rfl))).cast (by rfl)
            ·
             have h1 := shore_facts ‹shoreB s = true›
             have h2 := end_truth (b := true) ‹shoreB s = true› ‹stormB c = true›
             have w1 := dry_t k0 (by omega) (by assumption)
             have b4 := between_k hs hc hp ht (fr + inwI ((playL s plan (endE true s c)).drop fr.toNat) 0).toNat
             have b5 := play_bd' hs hp t1 (fr + inwI ((playL s plan (endE true s c)).drop fr.toNat) 0).toNat
             exact ((ih0 _ (by omega)).2 (k + 1) rfl (by omega) (by with_reducible assumption) (by with_reducible assumption) (by with_reducible assumption) (by with_reducible assumption) (by with_reducible assumption) (by with_reducible assumption)
              (hg0.landM okF hJ mixed_ok (wShelters_s36 B s c plan t fr k dJ0)
              ⟨(wq_in (by omega) (by omega)), ⟨(ltq_f (Int.not_lt.1 q7)), hp34⟩⟩ (by kernel_rfl) (by kernel_rfl))).cast (by rfl)
          ·
           have h1 := shore_facts ‹shoreB s = true›
           have h2 := end_truth (b := true) ‹shoreB s = true› ‹stormB c = true›
           have w1 := dry_t k0 (by omega) (by assumption)
           have b4 := between_k hs hc hp ht (fr + inwI ((playL s plan (endE true s c)).drop fr.toNat) 0).toNat
           have b5 := play_bd' hs hp t1 (fr + inwI ((playL s plan (endE true s c)).drop fr.toNat) 0).toNat
           exact ((ih0 _ (by omega)).2 (k + 1) rfl (by omega) (by with_reducible assumption) (by with_reducible assumption) (by with_reducible assumption) (by with_reducible assumption) (by with_reducible assumption) (by with_reducible assumption)
            (hg0.landM okF hJ mixed_ok (wShelters_s37 B s c plan t fr k dJ0)
            ⟨(wq_in (by omega) (by omega)), ⟨(nltq_f (Int.not_le.1 q5)), hp31⟩⟩ (by kernel_rfl) (by kernel_rfl))).cast (by rfl)
     | false =>
       have hp36 : AllP (wShelters_p36 B s c plan t fr k dJ0) := by
        have h1 := shore_facts ‹shoreB s = true›
        have h2 := end_truth (b := true) ‹shoreB s = true› ‹stormB c = true›
        have w1 := dry_f k0 (by omega) (by assumption)
        have b4 := between_k hs hc hp ht (fr + inwI ((playL s plan (endE true s c)).drop fr.toNat) 0).toNat
        have b5 := play_bd' hs hp t1 (fr + inwI ((playL s plan (endE true s c)).drop fr.toNat) 0).toNat
        exact ⟨⟨trivial, (by have t_ := rHas (dryL s (playL s plan (endE true s c)) 0) (k); rw [q1] at t_; exact t_)⟩, hp27⟩
       by_cases q2 : (0 : Int) ≤ (WCell.floor (List.getD s.cells k.toNat default))
       ·
        have hp37 : AllP (wShelters_p37 B s c plan t fr k dJ0) := by
         have h1 := shore_facts ‹shoreB s = true›
         have h2 := end_truth (b := true) ‹shoreB s = true› ‹stormB c = true›
         have w1 := dry_f k0 (by omega) (by assumption)
         have b4 := between_k hs hc hp ht (fr + inwI ((playL s plan (endE true s c)).drop fr.toNat) 0).toNat
         have b5 := play_bd' hs hp t1 (fr + inwI ((playL s plan (endE true s c)).drop fr.toNat) 0).toNat
         exact ⟨⟨by omega, by omega, (rowL_extract (z := 1) (fun _ => rfl) (by omega))⟩, ⟨(nltq_t q2), hp36⟩⟩
        by_cases q3 : (List.getD (playL s plan (endE true s c)) k.toNat default : Int) ≤ (WCell.floor (List.getD s.cells k.toNat default))
        ·
         have h1 := shore_facts ‹shoreB s = true›
         have h2 := end_truth (b := true) ‹shoreB s = true› ‹stormB c = true›
         have w1 := dry_f k0 (by omega) (by assumption)
         have b4 := between_k hs hc hp ht (fr + inwI ((playL s plan (endE true s c)).drop fr.toNat) 0).toNat
         have b5 := play_bd' hs hp t1 (fr + inwI ((playL s plan (endE true s c)).drop fr.toNat) 0).toNat
         exact (GoE.endsT okF hJ mixed_ok hg0 (wShelters_s38 B s c plan t fr k dJ0)
          ⟨(nltq_t q3), hp37⟩).cast (by (exfalso; omega))
        ·
         have hp38 : AllP (wShelters_p38 B s c plan t fr k dJ0) := by
          exact ⟨(nltq_f (Int.not_le.1 q3)), hp37⟩
         by_cases q4 : (fr : Int) ≤ (k)
         ·
          have hp39 : AllP (wShelters_p39 B s c plan t fr k dJ0) := by
           exact ⟨(nltq_t q4), hp38⟩
          by_cases q5 : (if 0 ≤ inwI (List.drop fr.toNat (playL s plan (endE true s c))) 0 then 0 else 5 : Int) ≠ (0)
          ·
           have hp40 : AllP (wShelters_p40 B s c plan t fr k dJ0) := by
            have h1 := shore_facts ‹shoreB s = true›
            have h2 := end_truth (b := true) ‹shoreB s = true› ‹stormB c = true›
            have w1 := dry_f k0 (by omega) (by assumption)
            have b4 := between_k hs hc hp ht (fr + inwI ((playL s plan (endE true s c)).drop fr.toNat) 0).toNat
            have b5 := play_bd' hs hp t1 (fr + inwI ((playL s plan (endE true s c)).drop fr.toNat) 0).toNat
            exact ⟨⟨by omega, by omega, (rowL_extract (z := 1) (fun _ => rfl) (by omega))⟩, ⟨(neqq_t q5), hp39⟩⟩
           by_cases q6 : (List.getD (playL s plan (endE true s c)) k.toNat default : Int) = (0)
           ·
            have h1 := shore_facts ‹shoreB s = true›
            have h2 := end_truth (b := true) ‹shoreB s = true› ‹stormB c = true›
            have w1 := dry_f k0 (by omega) (by assumption)
            have b4 := between_k hs hc hp ht (fr + inwI ((playL s plan (endE true s c)).drop fr.toNat) 0).toNat
            have b5 := play_bd' hs hp t1 (fr + inwI ((playL s plan (endE true s c)).drop fr.toNat) 0).toNat
            exact (GoE.endsT okF hJ mixed_ok hg0 (wShelters_s39 B s c plan t fr k dJ0)
             ⟨(eqq_t q6), hp40⟩).cast (by (exfalso; omega))
           ·
            have h1 := shore_facts ‹shoreB s = true›
            have h2 := end_truth (b := true) ‹shoreB s = true› ‹stormB c = true›
            have w1 := dry_f k0 (by omega) (by assumption)
            have b4 := between_k hs hc hp ht (fr + inwI ((playL s plan (endE true s c)).drop fr.toNat) 0).toNat
            have b5 := play_bd' hs hp t1 (fr + inwI ((playL s plan (endE true s c)).drop fr.toNat) 0).toNat
            exact ((ih0 _ (by omega)).2 (k + 1) rfl (by omega) (by with_reducible assumption) (by with_reducible assumption) (by with_reducible assumption) (by with_reducible assumption) (by with_reducible assumption) (by with_reducible assumption)
             (hg0.landM okF hJ mixed_ok (wShelters_s40 B s c plan t fr k dJ0)
             ⟨(wq_in (by omega) (by omega)), ⟨(eqq_f q6), hp40⟩⟩ (by kernel_rfl) (by kernel_rfl))).cast (by rfl)
          ·
           have hp41 : AllP (wShelters_p41 B s c plan t fr k dJ0) := by
            exact ⟨(neqq_f (Decidable.of_not_not q5)), hp39⟩
           by_cases q6 : (k : Int) < (0)
           ·
            have hp42 : AllP (wShelters_p42 B s c plan t fr k dJ0) := by
             have h1 := shore_facts ‹shoreB s = true›
             have h2 := end_truth (b := true) ‹shoreB s = true› ‹stormB c = true›
             have w1 := dry_f k0 (by omega) (by assumption)
             have b4 := between_k hs hc hp ht (fr + inwI ((playL s plan (endE true s c)).drop fr.toNat) 0).toNat
             have b5 := play_bd' hs hp t1 (fr + inwI ((playL s plan (endE true s c)).drop fr.toNat) 0).toNat
             exact ⟨⟨by omega, by omega, (rowL_extract (z := 1) (fun _ => rfl) (by omega))⟩, ⟨(ltq_t q6), hp41⟩⟩
            by_cases q7 : (List.getD (playL s plan (endE true s c)) k.toNat default : Int) = (0)
            ·
             have h1 := shore_facts ‹shoreB s = true›
             have h2 := end_truth (b := true) ‹shoreB s = true› ‹stormB c = true›
             have w1 := dry_f k0 (by omega) (by assumption)
             have b4 := between_k hs hc hp ht (fr + inwI ((playL s plan (endE true s c)).drop fr.toNat) 0).toNat
             have b5 := play_bd' hs hp t1 (fr + inwI ((playL s plan (endE true s c)).drop fr.toNat) 0).toNat
             exact (GoE.endsT okF hJ mixed_ok hg0 (wShelters_s41 B s c plan t fr k dJ0)
              ⟨(eqq_t q7), hp42⟩).cast (by (exfalso; omega))
            ·
             have h1 := shore_facts ‹shoreB s = true›
             have h2 := end_truth (b := true) ‹shoreB s = true› ‹stormB c = true›
             have w1 := dry_f k0 (by omega) (by assumption)
             have b4 := between_k hs hc hp ht (fr + inwI ((playL s plan (endE true s c)).drop fr.toNat) 0).toNat
             have b5 := play_bd' hs hp t1 (fr + inwI ((playL s plan (endE true s c)).drop fr.toNat) 0).toNat
             exact ((ih0 _ (by omega)).2 (k + 1) rfl (by omega) (by with_reducible assumption) (by with_reducible assumption) (by with_reducible assumption) (by with_reducible assumption) (by with_reducible assumption) (by with_reducible assumption)
              (hg0.landM okF hJ mixed_ok (wShelters_s42 B s c plan t fr k dJ0)
              ⟨(wq_in (by omega) (by omega)), ⟨(eqq_f q7), hp42⟩⟩ (by kernel_rfl) (by kernel_rfl))).cast (by rfl)
           ·
            have h1 := shore_facts ‹shoreB s = true›
            have h2 := end_truth (b := true) ‹shoreB s = true› ‹stormB c = true›
            have w1 := dry_f k0 (by omega) (by assumption)
            have b4 := between_k hs hc hp ht (fr + inwI ((playL s plan (endE true s c)).drop fr.toNat) 0).toNat
            have b5 := play_bd' hs hp t1 (fr + inwI ((playL s plan (endE true s c)).drop fr.toNat) 0).toNat
            exact ((ih0 _ (by omega)).2 (k + 1) rfl (by omega) (by with_reducible assumption) (by with_reducible assumption) (by with_reducible assumption) (by with_reducible assumption) (by with_reducible assumption) (by with_reducible assumption)
             (hg0.landM okF hJ mixed_ok (wShelters_s43 B s c plan t fr k dJ0)
             ⟨(wq_in (by omega) (by omega)), ⟨(ltq_f (Int.not_lt.1 q6)), hp41⟩⟩ (by kernel_rfl) (by kernel_rfl))).cast (by rfl)
         ·
          have h1 := shore_facts ‹shoreB s = true›
          have h2 := end_truth (b := true) ‹shoreB s = true› ‹stormB c = true›
          have w1 := dry_f k0 (by omega) (by assumption)
          have b4 := between_k hs hc hp ht (fr + inwI ((playL s plan (endE true s c)).drop fr.toNat) 0).toNat
          have b5 := play_bd' hs hp t1 (fr + inwI ((playL s plan (endE true s c)).drop fr.toNat) 0).toNat
          exact ((ih0 _ (by omega)).2 (k + 1) rfl (by omega) (by with_reducible assumption) (by with_reducible assumption) (by with_reducible assumption) (by with_reducible assumption) (by with_reducible assumption) (by with_reducible assumption)
           (hg0.landM okF hJ mixed_ok (wShelters_s44 B s c plan t fr k dJ0)
           ⟨(wq_in (by omega) (by omega)), ⟨(nltq_f (Int.not_le.1 q4)), hp38⟩⟩ (by kernel_rfl) (by kernel_rfl))).cast (by rfl)
       ·
        have hp43 : AllP (wShelters_p43 B s c plan t fr k dJ0) := by
         exact ⟨(nltq_f (Int.not_le.1 q2)), hp36⟩
        by_cases q3 : (fr : Int) ≤ (k)
        ·
         have hp44 : AllP (wShelters_p44 B s c plan t fr k dJ0) := by
          exact ⟨(nltq_t q3), hp43⟩
         by_cases q4 : (if 0 ≤ inwI (List.drop fr.toNat (playL s plan (endE true s c))) 0 then 0 else 5 : Int) ≠ (0)
         ·
          have hp45 : AllP (wShelters_p45 B s c plan t fr k dJ0) := by
           have h1 := shore_facts ‹shoreB s = true›
           have h2 := end_truth (b := true) ‹shoreB s = true› ‹stormB c = true›
           have w1 := dry_f k0 (by omega) (by assumption)
           have b4 := between_k hs hc hp ht (fr + inwI ((playL s plan (endE true s c)).drop fr.toNat) 0).toNat
           have b5 := play_bd' hs hp t1 (fr + inwI ((playL s plan (endE true s c)).drop fr.toNat) 0).toNat
           exact ⟨⟨by omega, by omega, (rowL_extract (z := 1) (fun _ => rfl) (by omega))⟩, ⟨(neqq_t q4), hp44⟩⟩
          by_cases q5 : (List.getD (playL s plan (endE true s c)) k.toNat default : Int) = (0)
          ·
           have h1 := shore_facts ‹shoreB s = true›
           have h2 := end_truth (b := true) ‹shoreB s = true› ‹stormB c = true›
           have w1 := dry_f k0 (by omega) (by assumption)
           have b4 := between_k hs hc hp ht (fr + inwI ((playL s plan (endE true s c)).drop fr.toNat) 0).toNat
           have b5 := play_bd' hs hp t1 (fr + inwI ((playL s plan (endE true s c)).drop fr.toNat) 0).toNat
           exact (GoE.endsT okF hJ mixed_ok hg0 (wShelters_s45 B s c plan t fr k dJ0)
            ⟨(eqq_t q5), hp45⟩).cast (by (exfalso; omega))
          ·
           have h1 := shore_facts ‹shoreB s = true›
           have h2 := end_truth (b := true) ‹shoreB s = true› ‹stormB c = true›
           have w1 := dry_f k0 (by omega) (by assumption)
           have b4 := between_k hs hc hp ht (fr + inwI ((playL s plan (endE true s c)).drop fr.toNat) 0).toNat
           have b5 := play_bd' hs hp t1 (fr + inwI ((playL s plan (endE true s c)).drop fr.toNat) 0).toNat
           exact ((ih0 _ (by omega)).2 (k + 1) rfl (by omega) (by with_reducible assumption) (by with_reducible assumption) (by with_reducible assumption) (by with_reducible assumption) (by with_reducible assumption) (by with_reducible assumption)
            (hg0.landM okF hJ mixed_ok (wShelters_s46 B s c plan t fr k dJ0)
            ⟨(wq_in (by omega) (by omega)), ⟨(eqq_f q5), hp45⟩⟩ (by kernel_rfl) (by kernel_rfl))).cast (by rfl)
         ·
          have hp46 : AllP (wShelters_p46 B s c plan t fr k dJ0) := by
           exact ⟨(neqq_f (Decidable.of_not_not q4)), hp44⟩
          by_cases q5 : (k : Int) < (0)
          ·
           have hp47 : AllP (wShelters_p47 B s c plan t fr k dJ0) := by
            have h1 := shore_facts ‹shoreB s = true›
            have h2 := end_truth (b := true) ‹shoreB s = true› ‹stormB c = true›
            have w1 := dry_f k0 (by omega) (by assumption)
            have b4 := between_k hs hc hp ht (fr + inwI ((playL s plan (endE true s c)).drop fr.toNat) 0).toNat
            have b5 := play_bd' hs hp t1 (fr + inwI ((playL s plan (endE true s c)).drop fr.toNat) 0).toNat
            exact ⟨⟨by omega, by omega, (rowL_extract (z := 1) (fun _ => rfl) (by omega))⟩, ⟨(ltq_t q5), hp46⟩⟩
           by_cases q6 : (List.getD (playL s plan (endE true s c)) k.toNat default : Int) = (0)
           ·
            have h1 := shore_facts ‹shoreB s = true›
            have h2 := end_truth (b := true) ‹shoreB s = true› ‹stormB c = true›
            have w1 := dry_f k0 (by omega) (by assumption)
            have b4 := between_k hs hc hp ht (fr + inwI ((playL s plan (endE true s c)).drop fr.toNat) 0).toNat
            have b5 := play_bd' hs hp t1 (fr + inwI ((playL s plan (endE true s c)).drop fr.toNat) 0).toNat
            exact (GoE.endsT okF hJ mixed_ok hg0 (wShelters_s47 B s c plan t fr k dJ0)
             ⟨(eqq_t q6), hp47⟩).cast (by (exfalso; omega))
           ·
            have h1 := shore_facts ‹shoreB s = true›
            have h2 := end_truth (b := true) ‹shoreB s = true› ‹stormB c = true›
            have w1 := dry_f k0 (by omega) (by assumption)
            have b4 := between_k hs hc hp ht (fr + inwI ((playL s plan (endE true s c)).drop fr.toNat) 0).toNat
            have b5 := play_bd' hs hp t1 (fr + inwI ((playL s plan (endE true s c)).drop fr.toNat) 0).toNat
            exact ((ih0 _ (by omega)).2 (k + 1) rfl (by omega) (by with_reducible assumption) (by with_reducible assumption) (by with_reducible assumption) (by with_reducible assumption) (by with_reducible assumption) (by with_reducible assumption)
             (hg0.landM okF hJ mixed_ok (wShelters_s48 B s c plan t fr k dJ0)
             ⟨(wq_in (by omega) (by omega)), ⟨(eqq_f q6), hp47⟩⟩ (by kernel_rfl) (by kernel_rfl))).cast (by rfl)
          ·
           have h1 := shore_facts ‹shoreB s = true›
           have h2 := end_truth (b := true) ‹shoreB s = true› ‹stormB c = true›
           have w1 := dry_f k0 (by omega) (by assumption)
           have b4 := between_k hs hc hp ht (fr + inwI ((playL s plan (endE true s c)).drop fr.toNat) 0).toNat
           have b5 := play_bd' hs hp t1 (fr + inwI ((playL s plan (endE true s c)).drop fr.toNat) 0).toNat
           exact ((ih0 _ (by omega)).2 (k + 1) rfl (by omega) (by with_reducible assumption) (by with_reducible assumption) (by with_reducible assumption) (by with_reducible assumption) (by with_reducible assumption) (by with_reducible assumption)
            (hg0.landM okF hJ mixed_ok (wShelters_s49 B s c plan t fr k dJ0)
            ⟨(wq_in (by omega) (by omega)), ⟨(ltq_f (Int.not_lt.1 q5)), hp46⟩⟩ (by kernel_rfl) (by kernel_rfl))).cast (by rfl)
        ·
         have h1 := shore_facts ‹shoreB s = true›
         have h2 := end_truth (b := true) ‹shoreB s = true› ‹stormB c = true›
         have w1 := dry_f k0 (by omega) (by assumption)
         have b4 := between_k hs hc hp ht (fr + inwI ((playL s plan (endE true s c)).drop fr.toNat) 0).toNat
         have b5 := play_bd' hs hp t1 (fr + inwI ((playL s plan (endE true s c)).drop fr.toNat) 0).toNat
         exact ((ih0 _ (by omega)).2 (k + 1) rfl (by omega) (by with_reducible assumption) (by with_reducible assumption) (by with_reducible assumption) (by with_reducible assumption) (by with_reducible assumption) (by with_reducible assumption)
          (hg0.landM okF hJ mixed_ok (wShelters_s50 B s c plan t fr k dJ0)
          ⟨(wq_in (by omega) (by omega)), ⟨(nltq_f (Int.not_le.1 q3)), hp43⟩⟩ (by kernel_rfl) (by kernel_rfl))).cast (by rfl)
    ·
     have hp48 : AllP (wShelters_p48 B s c plan t fr k dJ0) := by
      exact ⟨(ltq_f (Int.not_lt.1 q0)), trivial⟩
     by_cases q1 : (if 0 ≤ inwI (List.drop fr.toNat (playL s plan (endE true s c))) 0 then 0 else 5 : Int) ≠ (0)
     ·
      have hp49 : AllP (wShelters_p49 B s c plan t fr k dJ0) := by
       exact ⟨(neqq_t q1), hp48⟩
      by_cases q2 : (if 0 ≤ inwI (List.drop fr.toNat (playL s plan (endE true s c))) 0 then 0 else 5 : Int) = (5)
      ·
       exact (GoE.endsT okF hJ mixed_ok hg0 (wShelters_s51 B s c plan t fr k dJ0)
        ⟨⟨trivial, known⟩, ⟨(eqq_t q2), hp49⟩⟩).cast rfl
      ·
       have h1 := shore_facts ‹shoreB s = true›
       have h2 := end_truth (b := true) ‹shoreB s = true› ‹stormB c = true›
       have b4 := between_k hs hc hp ht (fr + inwI ((playL s plan (endE true s c)).drop fr.toNat) 0).toNat
       have b5 := play_bd' hs hp t1 (fr + inwI ((playL s plan (endE true s c)).drop fr.toNat) 0).toNat
       exact (GoE.endsT okF hJ mixed_ok hg0 (wShelters_s52 B s c plan t fr k dJ0)
        ⟨(eqq_f q2), hp49⟩).cast (by (exfalso; omega))
     ·
      have hp50 : AllP (wShelters_p50 B s c plan t fr k dJ0) := by
       exact ⟨(neqq_f (Decidable.of_not_not q1)), hp48⟩
      cases q2 : inB 0 0 ((↑s.cells.length : Int) - 1) with
      | true =>
        have hp51 : AllP (wShelters_p51 B s c plan t fr k dJ0) := by
         have h1 := shore_facts ‹shoreB s = true›
         have h2 := end_truth (b := true) ‹shoreB s = true› ‹stormB c = true›
         have b4 := between_k hs hc hp ht (fr + inwI ((playL s plan (endE true s c)).drop fr.toNat) 0).toNat
         have b5 := play_bd' hs hp t1 (fr + inwI ((playL s plan (endE true s c)).drop fr.toNat) 0).toNat
         exact ⟨⟨trivial, (by have t_ := rCell (s) (0); rw [q2] at t_; exact t_)⟩, hp50⟩
        by_cases q3 : (fr : Int) ≤ (0)
        ·
         have hp52 : AllP (wShelters_p52 B s c plan t fr k dJ0) := by
          have h1 := shore_facts ‹shoreB s = true›
          have h2 := end_truth (b := true) ‹shoreB s = true› ‹stormB c = true›
          have b4 := between_k hs hc hp ht (fr + inwI ((playL s plan (endE true s c)).drop fr.toNat) 0).toNat
          have b5 := play_bd' hs hp t1 (fr + inwI ((playL s plan (endE true s c)).drop fr.toNat) 0).toNat
          exact ⟨⟨by omega, by omega, (rowL_extract (z := 1) (fun _ => rfl) (by omega))⟩, ⟨(nltq_t q3), hp51⟩⟩
         by_cases q4 : (List.getD (playL s plan t) 0 default : Int) = (0)
         ·
          have hp53 : AllP (wShelters_p53 B s c plan t fr k dJ0) := by
           have h1 := shore_facts ‹shoreB s = true›
           have h2 := end_truth (b := true) ‹shoreB s = true› ‹stormB c = true›
           have b4 := between_k hs hc hp ht (fr + inwI ((playL s plan (endE true s c)).drop fr.toNat) 0).toNat
           have b5 := play_bd' hs hp t1 (fr + inwI ((playL s plan (endE true s c)).drop fr.toNat) 0).toNat
           exact ⟨⟨by omega, by omega, (rowL_extract (z := 1) (fun _ => rfl) (by omega))⟩, ⟨(eqq_t q4), hp52⟩⟩
          by_cases q5 : (List.getD (playL s plan (endE true s c)) 0 default : Int) = (0)
          ·
           exact (GoE.endsT okF hJ mixed_ok hg0 (wShelters_s53 B s c plan t fr k dJ0)
            ⟨⟨trivial, known⟩, ⟨(eqq_t q5), hp53⟩⟩).cast rfl
          ·
           have h1 := shore_facts ‹shoreB s = true›
           have h2 := end_truth (b := true) ‹shoreB s = true› ‹stormB c = true›
           have b4 := between_k hs hc hp ht (fr + inwI ((playL s plan (endE true s c)).drop fr.toNat) 0).toNat
           have b5 := play_bd' hs hp t1 (fr + inwI ((playL s plan (endE true s c)).drop fr.toNat) 0).toNat
           exact (GoE.endsT okF hJ mixed_ok hg0 (wShelters_s54 B s c plan t fr k dJ0)
            ⟨(eqq_f q5), hp53⟩).cast (by (exfalso; omega))
         ·
          have h1 := shore_facts ‹shoreB s = true›
          have h2 := end_truth (b := true) ‹shoreB s = true› ‹stormB c = true›
          have b4 := between_k hs hc hp ht (fr + inwI ((playL s plan (endE true s c)).drop fr.toNat) 0).toNat
          have b5 := play_bd' hs hp t1 (fr + inwI ((playL s plan (endE true s c)).drop fr.toNat) 0).toNat
          exact (GoE.endsT okF hJ mixed_ok hg0 (wShelters_s55 B s c plan t fr k dJ0)
           ⟨(eqq_f q4), hp52⟩).cast (by (exfalso; omega))
        ·
         have h1 := shore_facts ‹shoreB s = true›
         have h2 := end_truth (b := true) ‹shoreB s = true› ‹stormB c = true›
         have b4 := between_k hs hc hp ht (fr + inwI ((playL s plan (endE true s c)).drop fr.toNat) 0).toNat
         have b5 := play_bd' hs hp t1 (fr + inwI ((playL s plan (endE true s c)).drop fr.toNat) 0).toNat
         exact (GoE.endsT okF hJ mixed_ok hg0 (wShelters_s56 B s c plan t fr k dJ0)
          ⟨(nltq_f (Int.not_le.1 q3)), hp51⟩).cast (by (exfalso; omega))
      | false =>
        have h1 := shore_facts ‹shoreB s = true›
        have h2 := end_truth (b := true) ‹shoreB s = true› ‹stormB c = true›
        have b4 := between_k hs hc hp ht (fr + inwI ((playL s plan (endE true s c)).drop fr.toNat) 0).toNat
        have b5 := play_bd' hs hp t1 (fr + inwI ((playL s plan (endE true s c)).drop fr.toNat) 0).toNat
        have n1 := notIn ‹inB _ _ _ = false›
        exact (GoE.endsT okF hJ mixed_ok hg0 (wShelters_s57 B s c plan t fr k dJ0)
         ⟨⟨trivial, (by have t_ := rCell (s) (0); rw [q2] at t_; exact t_)⟩, hp50⟩).cast (by (exfalso; omega))
set_option maxHeartbeats 4000000 in
theorem wShelters_e (s : WShore) (c : WStorm) (plan : List Int) (t : WTruth) (fr : Int)  {B : Lo} (hJ : ∀ w, B.has w → J0 w) : EndsT Try.prog B (entryC Try.prog 9 249 (([.agg (encShore s).toArray, .agg (encStorm c).toArray, slI plan, .agg (encTruth t).toArray, .int .i64 fr]).map (pushT 0 4))) (.bool true) := by
 have hge := inwI_ge (l := (playL s plan (endE true s c)).drop fr.toNat) (i := 0)
 have hl1 := playL_len (s := s) (plan := plan) (t := t)
 have hl2 := playL_len (s := s) (plan := plan) (t := endE true s c)
 have hl4 : (endE true s c).drags.length = s.cells.length := by simp [endE]
 have hdl : ((playL s plan (endE true s c)).drop fr.toNat).length = s.cells.length - fr.toNat := by rw [List.length_drop, hl2]
 have hdy := dry_len (s := s) (l := playL s plan (endE true s c))
 cases q0 : decide (List.length s.cells ≤ 12) with
 | true =>
   cases q1 : decide (List.length s.works ≤ 8) with
   | true =>
     have hp54 : AllP (wShelters_p54 B s c plan t fr) := by
      exact ⟨⟨trivial, (by have t_ := lshort (s); rw [q0, q1] at t_; exact t_)⟩, trivial⟩
     by_cases q2 : (12 : Int) < ((↑plan.length : Int))
     ·
      exact (GoE.endsT okF hJ mixed_ok GoE.start (wShelters_s58 B s c plan t fr)
       ⟨⟨trivial, known⟩, ⟨(ltq_t q2), hp54⟩⟩).cast rfl
     ·
      have hp55 : AllP (wShelters_p55 B s c plan t fr) := by
       exact ⟨(ltq_f (Int.not_lt.1 q2)), hp54⟩
      by_cases q3 : (12 : Int) < ((↑t.drags.length : Int))
      ·
       exact (GoE.endsT okF hJ mixed_ok GoE.start (wShelters_s59 B s c plan t fr)
        ⟨⟨trivial, known⟩, ⟨(ltq_t q3), hp55⟩⟩).cast rfl
      ·
       have hp56 : AllP (wShelters_p56 B s c plan t fr) := by
        exact ⟨(ltq_f (Int.not_lt.1 q3)), hp55⟩
       cases q4 : shoreB s with
       | true =>
         cases q5 : stormB c with
         | true =>
           cases q6 : planB s plan with
           | true =>
             have hp57 : AllP (wShelters_p57 B s c plan t fr) := by
              have h1 := shore_facts ‹shoreB s = true›
              have h2 := end_truth (b := true) ‹shoreB s = true› ‹stormB c = true›
              exact ⟨⟨trivial, (by have t_ := lbuilt (s) (c) (plan); rw [q4, q5, q6] at t_; exact t_)⟩, hp56⟩
             cases q7 : truthB s c t with
             | true =>
               have hp58 : AllP (wShelters_p58 B s c plan t fr) := by
                have h1 := shore_facts ‹shoreB s = true›
                have h2 := end_truth (b := true) ‹shoreB s = true› ‹stormB c = true›
                exact ⟨⟨trivial, (by have t_ := rTruth (s) (c) (t); rw [q7] at t_; exact t_)⟩, hp57⟩
               cases q8 : inB fr 0 ((↑s.cells.length : Int) - 1) with
               | true =>
                 have hp59 : AllP (wShelters_p59 B s c plan t fr) := by
                  have g1 := inB_iff.1 ‹inB fr 0 _ = true›
                  have h1 := shore_facts ‹shoreB s = true›
                  have h2 := end_truth (b := true) ‹shoreB s = true› ‹stormB c = true›
                  exact ⟨⟨trivial, (by have t_ := pDry (s) (c) (plan); rw [q4, q5, q6] at t_; exact t_)⟩, ⟨⟨trivial, (by have t_ := rCell (s) (fr); rw [q8] at t_; exact t_)⟩, hp58⟩⟩
                 cases q9 : decide (0 ≤ inwI (List.drop fr.toNat (playL s plan (endE true s c))) 0) with
                 | true =>
                   have hp60 : AllP (wShelters_p60 B s c plan t fr) := by
                    have g1 := inB_iff.1 ‹inB fr 0 _ = true›
                    have h1 := shore_facts ‹shoreB s = true›
                    have h2 := end_truth (b := true) ‹shoreB s = true› ‹stormB c = true›
                    exact ⟨⟨trivial, (by have t_ := pWorst (s) (c); rw [q4, q5] at t_; exact t_)⟩, ⟨⟨trivial, (by have t_ := pPlay (s) (c) (plan) (t); rw [q4, q5, q6, q7] at t_; exact t_)⟩, ⟨⟨trivial, (by have t_ := pInward (s) (c) (plan) (fr); rw [q4, q5, q6, q8, q9] at t_; exact t_)⟩, hp59⟩⟩⟩
                   by_cases q10 : ((↑s.cells.length : Int) : Int) < ((↑(List.length (dryL s (playL s plan (endE true s c)) 0)) : Int))
                   ·
                    have g1 := inB_iff.1 ‹inB fr 0 _ = true›
                    have h1 := shore_facts ‹shoreB s = true›
                    have h2 := end_truth (b := true) ‹shoreB s = true› ‹stormB c = true›
                    exact (GoE.endsT okF hJ mixed_ok GoE.start (wShelters_s60 B s c plan t fr)
                     ⟨(ltq_t q10), hp60⟩).cast (by (exfalso; omega))
                   ·
                    have hp61 : AllP (wShelters_p61 B s c plan t fr) := by
                     exact ⟨(ltq_f (Int.not_lt.1 q10)), hp60⟩
                    by_cases q11 : ((↑(List.length (playL s plan t)) : Int) : Int) ≠ ((↑s.cells.length : Int))
                    ·
                     have g1 := inB_iff.1 ‹inB fr 0 _ = true›
                     have h1 := shore_facts ‹shoreB s = true›
                     have h2 := end_truth (b := true) ‹shoreB s = true› ‹stormB c = true›
                     exact (GoE.endsT okF hJ mixed_ok GoE.start (wShelters_s61 B s c plan t fr)
                      ⟨(neqq_t q11), hp61⟩).cast (by (exfalso; omega))
                    ·
                     have hp62 : AllP (wShelters_p62 B s c plan t fr) := by
                      exact ⟨(neqq_f (Decidable.of_not_not q11)), hp61⟩
                     by_cases q12 : (12 : Int) < ((↑(List.length (WTruth.drags (endE true s c))) : Int))
                     ·
                      have g1 := inB_iff.1 ‹inB fr 0 _ = true›
                      have h1 := shore_facts ‹shoreB s = true›
                      have h2 := end_truth (b := true) ‹shoreB s = true› ‹stormB c = true›
                      exact (GoE.endsT okF hJ mixed_ok GoE.start (wShelters_s62 B s c plan t fr)
                       ⟨(ltq_t q12), hp62⟩).cast (by (exfalso; omega))
                     ·
                      have hp63 : AllP (wShelters_p63 B s c plan t fr) := by
                       exact ⟨(ltq_f (Int.not_lt.1 q12)), hp62⟩
                      cases q13 : truthB s c (endE true s c) with
                      | true =>
                        have hp64 : AllP (wShelters_p64 B s c plan t fr) := by
                         have g1 := inB_iff.1 ‹inB fr 0 _ = true›
                         have h1 := shore_facts ‹shoreB s = true›
                         have h2 := end_truth (b := true) ‹shoreB s = true› ‹stormB c = true›
                         exact ⟨⟨trivial, (by have t_ := pPlay (s) (c) (plan) (endE true s c); rw [q4, q5, q6, q13] at t_; exact t_)⟩, ⟨⟨trivial, (by have t_ := rTruth (s) (c) (endE true s c); rw [q13] at t_; exact t_)⟩, hp63⟩⟩
                        by_cases q14 : ((↑(List.length (playL s plan (endE true s c))) : Int) : Int) ≠ ((↑s.cells.length : Int))
                        ·
                         have g1 := inB_iff.1 ‹inB fr 0 _ = true›
                         have h1 := shore_facts ‹shoreB s = true›
                         have h2 := end_truth (b := true) ‹shoreB s = true› ‹stormB c = true›
                         exact (GoE.endsT okF hJ mixed_ok GoE.start (wShelters_s63 B s c plan t fr)
                          ⟨(neqq_t q14), hp64⟩).cast (by (exfalso; omega))
                        ·
                         have g1 := inB_iff.1 ‹inB fr 0 _ = true›
                         have h1 := shore_facts ‹shoreB s = true›
                         have h2 := end_truth (b := true) ‹shoreB s = true› ‹stormB c = true›
                         exact ((wShelters_ls s c plan t fr  hJ _).1 (0) rfl (by omega) (by with_reducible assumption) (by with_reducible assumption) (by with_reducible assumption) (by with_reducible assumption) (by omega) (by (simp_all; done))
                          (GoE.start.landM okF hJ mixed_ok (wShelters_s64 B s c plan t fr)
                          ⟨(neqq_f (Decidable.of_not_not q14)), hp64⟩ (by kernel_rfl) (by kernel_rfl))).cast (by rfl)
                      | false =>
                        have g1 := inB_iff.1 ‹inB fr 0 _ = true›
                        have h1 := shore_facts ‹shoreB s = true›
                        have h2 := end_truth (b := true) ‹shoreB s = true› ‹stormB c = true›
                        exact (GoE.endsT okF hJ mixed_ok GoE.start (wShelters_s65 B s c plan t fr)
                         ⟨⟨trivial, (by have t_ := rTruth (s) (c) (endE true s c); rw [q13] at t_; exact t_)⟩, hp63⟩).cast (by (exfalso; simp_all; done))
                 | false =>
                   have hp65 : AllP (wShelters_p65 B s c plan t fr) := by
                    have g1 := inB_iff.1 ‹inB fr 0 _ = true›
                    have h1 := shore_facts ‹shoreB s = true›
                    have h2 := end_truth (b := true) ‹shoreB s = true› ‹stormB c = true›
                    exact ⟨⟨trivial, (by have t_ := pWorst (s) (c); rw [q4, q5] at t_; exact t_)⟩, ⟨⟨trivial, (by have t_ := pPlay (s) (c) (plan) (t); rw [q4, q5, q6, q7] at t_; exact t_)⟩, ⟨⟨trivial, (by have t_ := pInward (s) (c) (plan) (fr); rw [q4, q5, q6, q8, q9] at t_; exact t_)⟩, hp59⟩⟩⟩
                   by_cases q10 : ((↑s.cells.length : Int) : Int) < ((↑(List.length (dryL s (playL s plan (endE true s c)) 0)) : Int))
                   ·
                    have g1 := inB_iff.1 ‹inB fr 0 _ = true›
                    have h1 := shore_facts ‹shoreB s = true›
                    have h2 := end_truth (b := true) ‹shoreB s = true› ‹stormB c = true›
                    exact (GoE.endsT okF hJ mixed_ok GoE.start (wShelters_s66 B s c plan t fr)
                     ⟨(ltq_t q10), hp65⟩).cast (by (exfalso; omega))
                   ·
                    have hp66 : AllP (wShelters_p66 B s c plan t fr) := by
                     exact ⟨(ltq_f (Int.not_lt.1 q10)), hp65⟩
                    by_cases q11 : ((↑(List.length (playL s plan t)) : Int) : Int) ≠ ((↑s.cells.length : Int))
                    ·
                     have g1 := inB_iff.1 ‹inB fr 0 _ = true›
                     have h1 := shore_facts ‹shoreB s = true›
                     have h2 := end_truth (b := true) ‹shoreB s = true› ‹stormB c = true›
                     exact (GoE.endsT okF hJ mixed_ok GoE.start (wShelters_s67 B s c plan t fr)
                      ⟨(neqq_t q11), hp66⟩).cast (by (exfalso; omega))
                    ·
                     have hp67 : AllP (wShelters_p67 B s c plan t fr) := by
                      exact ⟨(neqq_f (Decidable.of_not_not q11)), hp66⟩
                     by_cases q12 : (12 : Int) < ((↑(List.length (WTruth.drags (endE true s c))) : Int))
                     ·
                      have g1 := inB_iff.1 ‹inB fr 0 _ = true›
                      have h1 := shore_facts ‹shoreB s = true›
                      have h2 := end_truth (b := true) ‹shoreB s = true› ‹stormB c = true›
                      exact (GoE.endsT okF hJ mixed_ok GoE.start (wShelters_s68 B s c plan t fr)
                       ⟨(ltq_t q12), hp67⟩).cast (by (exfalso; omega))
                     ·
                      have hp68 : AllP (wShelters_p68 B s c plan t fr) := by
                       exact ⟨(ltq_f (Int.not_lt.1 q12)), hp67⟩
                      cases q13 : truthB s c (endE true s c) with
                      | true =>
                        have hp69 : AllP (wShelters_p69 B s c plan t fr) := by
                         have g1 := inB_iff.1 ‹inB fr 0 _ = true›
                         have h1 := shore_facts ‹shoreB s = true›
                         have h2 := end_truth (b := true) ‹shoreB s = true› ‹stormB c = true›
                         exact ⟨⟨trivial, (by have t_ := pPlay (s) (c) (plan) (endE true s c); rw [q4, q5, q6, q13] at t_; exact t_)⟩, ⟨⟨trivial, (by have t_ := rTruth (s) (c) (endE true s c); rw [q13] at t_; exact t_)⟩, hp68⟩⟩
                        by_cases q14 : ((↑(List.length (playL s plan (endE true s c))) : Int) : Int) ≠ ((↑s.cells.length : Int))
                        ·
                         have g1 := inB_iff.1 ‹inB fr 0 _ = true›
                         have h1 := shore_facts ‹shoreB s = true›
                         have h2 := end_truth (b := true) ‹shoreB s = true› ‹stormB c = true›
                         exact (GoE.endsT okF hJ mixed_ok GoE.start (wShelters_s69 B s c plan t fr)
                          ⟨(neqq_t q14), hp69⟩).cast (by (exfalso; omega))
                        ·
                         have g1 := inB_iff.1 ‹inB fr 0 _ = true›
                         have h1 := shore_facts ‹shoreB s = true›
                         have h2 := end_truth (b := true) ‹shoreB s = true› ‹stormB c = true›
                         exact ((wShelters_ls s c plan t fr  hJ _).2 (0) rfl (by omega) (by with_reducible assumption) (by with_reducible assumption) (by with_reducible assumption) (by with_reducible assumption) (by omega) (by (simp_all; done))
                          (GoE.start.landM okF hJ mixed_ok (wShelters_s70 B s c plan t fr)
                          ⟨(neqq_f (Decidable.of_not_not q14)), hp69⟩ (by kernel_rfl) (by kernel_rfl))).cast (by rfl)
                      | false =>
                        have g1 := inB_iff.1 ‹inB fr 0 _ = true›
                        have h1 := shore_facts ‹shoreB s = true›
                        have h2 := end_truth (b := true) ‹shoreB s = true› ‹stormB c = true›
                        exact (GoE.endsT okF hJ mixed_ok GoE.start (wShelters_s71 B s c plan t fr)
                         ⟨⟨trivial, (by have t_ := rTruth (s) (c) (endE true s c); rw [q13] at t_; exact t_)⟩, hp68⟩).cast (by (exfalso; simp_all; done))
               | false =>
                 have h1 := shore_facts ‹shoreB s = true›
                 have h2 := end_truth (b := true) ‹shoreB s = true› ‹stormB c = true›
                 exact (GoE.endsT okF hJ mixed_ok GoE.start (wShelters_s72 B s c plan t fr)
                  ⟨⟨trivial, known⟩, ⟨⟨trivial, (by have t_ := rCell (s) (fr); rw [q8] at t_; exact t_)⟩, hp58⟩⟩).cast rfl
             | false =>
               have h1 := shore_facts ‹shoreB s = true›
               have h2 := end_truth (b := true) ‹shoreB s = true› ‹stormB c = true›
               exact (GoE.endsT okF hJ mixed_ok GoE.start (wShelters_s73 B s c plan t fr)
                ⟨⟨trivial, known⟩, ⟨⟨trivial, (by have t_ := rTruth (s) (c) (t); rw [q7] at t_; exact t_)⟩, hp57⟩⟩).cast rfl
           | false =>
             have h1 := shore_facts ‹shoreB s = true›
             have h2 := end_truth (b := true) ‹shoreB s = true› ‹stormB c = true›
             exact (GoE.endsT okF hJ mixed_ok GoE.start (wShelters_s74 B s c plan t fr)
              ⟨⟨trivial, known⟩, ⟨⟨trivial, (by have t_ := lbuilt (s) (c) (plan); rw [q4, q5, q6] at t_; exact t_)⟩, hp56⟩⟩).cast rfl
         | false =>
           have h1 := shore_facts ‹shoreB s = true›
           exact (GoE.endsT okF hJ mixed_ok GoE.start (wShelters_s75 B s c plan t fr)
            ⟨⟨trivial, known⟩, ⟨⟨trivial, (by have t_ := lbuilt (s) (c) (plan); rw [q4, q5] at t_; exact t_)⟩, hp56⟩⟩).cast rfl
       | false =>
         exact (GoE.endsT okF hJ mixed_ok GoE.start (wShelters_s76 B s c plan t fr)
          ⟨⟨trivial, known⟩, ⟨⟨trivial, (by have t_ := lbuilt (s) (c) (plan); rw [q4] at t_; exact t_)⟩, hp56⟩⟩).cast rfl
   | false =>
     exact (GoE.endsT okF hJ mixed_ok GoE.start (wShelters_s77 B s c plan t fr)
      ⟨⟨trivial, known⟩, ⟨⟨trivial, (by have t_ := lshort (s); rw [q0, q1] at t_; exact t_)⟩, trivial⟩⟩).cast rfl
 | false =>
   exact (GoE.endsT okF hJ mixed_ok GoE.start (wShelters_s78 B s c plan t fr)
    ⟨⟨trivial, known⟩, ⟨⟨trivial, (by have t_ := lshort (s); rw [q0] at t_; exact t_)⟩, trivial⟩⟩).cast rfl
theorem wShelters (s : WShore) (c : WStorm) (plan : List Int) (t : WTruth) (fr : Int)  : PureC Try.prog J0 9 #[.agg (encShore s).toArray, .agg (encStorm c).toArray, slI plan, .agg (encTruth t).toArray, .int .i64 fr] (.bool true) :=
 pureC_of (ts := [.agg (encShore s).toArray, .agg (encStorm c).toArray, slI plan, .agg (encTruth t).toArray, .int .i64 fr]) J0_st (c0 := entryC Try.prog 9 249 (([.agg (encShore s).toArray, .agg (encStorm c).toArray, slI plan, .agg (encTruth t).toArray, .int .i64 fr]).map (pushT 0 4))) (by kernel_rfl) (by kernel_rfl) fun B hJ => wShelters_e s c plan t fr  hJ
end Go.Proofs.Ytiigkdhaofaijaa

