/- Wall: houses that stay dry; cells inward. -/
import Derived.Test.YtiigkdhaofaijaaZWI13
set_option linter.all false
namespace Go.Proofs.Ytiigkdhaofaijaa
open Go Go.CE Go.RowKit
set_option maxRecDepth 100000
def dryB (s : WShore) (l : List Int) (i : Int) : Bool := decide (0 ≤ (s.cells.getD i.toNat default).floor) && decide (l.getD i.toNat default ≤ (s.cells.getD i.toNat default).floor)
def dryL (s : WShore) (l : List Int) (i : Int) : List Int := (upI i s.cells.length).filter (dryB s l)
theorem dryL_in {s : WShore} {l : List Int} {i : Int} (h : i < s.cells.length) (hb : 0 ≤ (s.cells.getD i.toNat default).floor) (hc : l.getD i.toNat default ≤ (s.cells.getD i.toNat default).floor) : dryL s l i = i :: dryL s l (i + 1) := by
 unfold dryL; rw [upI_cons h, List.filter_cons_of_pos (by unfold dryB; rw [decide_eq_true hb, decide_eq_true hc]; rfl)]
theorem dryL_out {s : WShore} {l : List Int} {i : Int} (h : i < s.cells.length) (hb : ¬ (0 ≤ (s.cells.getD i.toNat default).floor ∧ l.getD i.toNat default ≤ (s.cells.getD i.toNat default).floor)) : dryL s l i = dryL s l (i + 1) := by
 unfold dryL; rw [upI_cons h, List.filter_cons_of_neg (by unfold dryB; simp only [Bool.and_eq_true, decide_eq_true_iff]; exact hb)]
theorem dryL_nil {s : WShore} {l : List Int} {i : Int} (h : s.cells.length ≤ i) : dryL s l i = [] := by
 unfold dryL; rw [upI_nil h]; rfl
def inwI : List Int → Int → Int
 | [], _ => -1
 | x :: l, i => if x = 0 then i else inwI l (i + 1)
theorem inwI_cons {l : List Int} {i k : Int} (h0 : 0 ≤ i) (h : i < l.length) : inwI (l.drop i.toNat) k = if l.getD i.toNat default = 0 then k else inwI (l.drop (i + 1).toNat) (k + 1) := by
 rw [drop_cons h0 h]; rfl
theorem inwI_nil {l : List Int} {i k : Int} (h : l.length ≤ i) : inwI (l.drop i.toNat) k = -1 := by
 rw [drop_end h]; rfl
theorem inwI_ge {l : List Int} : ∀ {i : Int}, inwI l i = -1 ∨ (i ≤ inwI l i ∧ inwI l i < i + l.length) := by
 induction l with
 | nil => intro i; exact Or.inl rfl
 | cons x l ih =>
   intro i
   unfold inwI
   by_cases h : x = 0
   ·rw [if_pos h]; right; simp; omega
   ·rw [if_neg h]; rcases ih (i := i + 1) with h1 | h1
    ·exact Or.inl h1
    ·right; simp; omega
noncomputable def pisSpared_p0 (B : Lo) (g a b f d : Int) : List Prop := [(!eqq f (-1)) = true] ++ ([] : List Prop)
noncomputable def pisSpared_q0 (g a b f d : Int) : ScriptT := [(4, hvT)]
theorem pisSpared_s0 (B : Lo) (g a b f d : Int) : endT (srunT Try.prog (okFn Try.prog) J0 B 6 1 (entryC Try.prog 85 14 (([.agg #[.int .i64 g, .int .i64 a, .int .i64 b, .int .i64 f], .int .i64 d]).map (pushT 0 4))) H00 1
 (pisSpared_q0 g a b f d ++ [(9, hvT)]) 0 [] []) [] = some (Value.bool true,
 [(!ltq f d) = true] ++ pisSpared_p0 B g a b f d) := by kernel_rfl
theorem pisSpared_s1 (B : Lo) (g a b f d : Int) : endT (srunT Try.prog (okFn Try.prog) J0 B 6 1 (entryC Try.prog 85 14 (([.agg #[.int .i64 g, .int .i64 a, .int .i64 b, .int .i64 f], .int .i64 d]).map (pushT 0 4))) H00 1
 (pisSpared_q0 g a b f d ++ [(9, hvF)]) 0 [] []) [] = some (Value.bool false,
 [(!ltq f d) = false] ++ pisSpared_p0 B g a b f d) := by kernel_rfl
theorem pisSpared_s2 (B : Lo) (g a b f d : Int) : endT (srunT Try.prog (okFn Try.prog) J0 B 6 1 (entryC Try.prog 85 14 (([.agg #[.int .i64 g, .int .i64 a, .int .i64 b, .int .i64 f], .int .i64 d]).map (pushT 0 4))) H00 1
 [(4, hvF)] 0 [] []) [] = some (Value.bool false,
 [(!eqq f (-1)) = false]) := by kernel_rfl
set_option maxHeartbeats 4000000 in
theorem pisSpared_e (g a b f d : Int)  {B : Lo} (hJ : ∀ w, B.has w → J0 w) : EndsT Try.prog B (entryC Try.prog 85 14 (([.agg #[.int .i64 g, .int .i64 a, .int .i64 b, .int .i64 f], .int .i64 d]).map (pushT 0 4))) (.bool (!decide (f = -1) && decide (d ≤ f))) := by
 by_cases q0 : (f : Int) ≠ (-1)
 ·
  have hp0 : AllP (pisSpared_p0 B g a b f d) := by
   exact ⟨(neqq_t q0), trivial⟩
  by_cases q1 : (d : Int) ≤ (f)
  ·
   exact (GoE.endsT okF hJ mixed_ok GoE.start (pisSpared_s0 B g a b f d)
    ⟨(nltq_t q1), hp0⟩).cast (by (simp [*]; done))
  ·
   exact (GoE.endsT okF hJ mixed_ok GoE.start (pisSpared_s1 B g a b f d)
    ⟨(nltq_f (Int.not_le.1 q1)), hp0⟩).cast (by (simp [*]; done))
 ·
  exact (GoE.endsT okF hJ mixed_ok GoE.start (pisSpared_s2 B g a b f d)
   ⟨(neqq_f (Decidable.of_not_not q0)), trivial⟩).cast (by (simp [*]; done))
theorem pisSpared (g a b f d : Int)  : PureC Try.prog J0 85 #[.agg #[.int .i64 g, .int .i64 a, .int .i64 b, .int .i64 f], .int .i64 d] (.bool (!decide (f = -1) && decide (d ≤ f))) :=
 pureC_of (ts := [.agg #[.int .i64 g, .int .i64 a, .int .i64 b, .int .i64 f], .int .i64 d]) J0_st (c0 := entryC Try.prog 85 14 (([.agg #[.int .i64 g, .int .i64 a, .int .i64 b, .int .i64 f], .int .i64 d]).map (pushT 0 4))) (by kernel_rfl) (by kernel_rfl) fun B hJ => pisSpared_e g a b f d  hJ
def pspared_v0 (s : WShore) (c : WStorm) (plan : List Int) (i : Int) : List Value := [pA 2 0, .slice none 0 0, topV 1 (slT (List.length (playL s plan (endE true s c))) (rowL encI (playL s plan (endE true s c)))), .int .i64 (↑(List.length (playL s plan (endE true s c))) : Int), .int .i64 i]
def pspared_o0 (s : WShore) (c : WStorm) (plan : List Int) (i : Int) : List Obj := [Obj.cells #[topV 1 (slT s.cells.length (rowL encWCell s.cells)), topV 1 (slT s.works.length (rowL encWWork s.works)), .int .i64 s.reef, .int .i64 s.llo, .int .i64 s.lhi, .int .i64 c.wlo, .int .i64 c.whi, .int .i64 c.flo, .int .i64 c.fhi, .int .i64 c.tlo, .int .i64 c.thi, topV 1 (slT plan.length (rowL encI plan))] 99]
noncomputable def pspared_t0 : List Item := ([.code [1, 1, 0, 1, 0, 0], .inLoop [1, 1, 0, 1, 0, 0], .inBlock 0, .code [1, 1, 1]]).map (it (bodyOf Try.prog 63))
def pspared_h0 (B : Lo) (c0 : CF) (s : WShore) (c : WStorm) (plan : List Int) (i : Int) : Prop := ∃ dJ : Nat → Value, (∀ t, Loose (dJ t)) ∧ GoE Try.prog B c0 H00 1 (headC 63 32 (([1, 3, 10, 11, 12] : List Nat).zip (pspared_v0 s c plan i)) dJ pspared_t0) (headH (pspared_o0 s c plan i)) (2 + (pspared_o0 s c plan i).length) []
def pspared_v1 (s : WShore) (c : WStorm) (plan : List Int) (i : Int) (out : List Int) (out_n : Nat) : List Value := [pA 2 0, .slice (some ⟨3, 0, none⟩) out_n 1, topV 1 (slT (List.length (playL s plan (endE true s c))) (rowL encI (playL s plan (endE true s c)))), .int .i64 (↑(List.length (playL s plan (endE true s c))) : Int), .int .i64 i]
def pspared_o1 (s : WShore) (c : WStorm) (plan : List Int) (i : Int) (out : List Int) (out_n : Nat) : List Obj := [Obj.cells #[topV 1 (slT s.cells.length (rowL encWCell s.cells)), topV 1 (slT s.works.length (rowL encWWork s.works)), .int .i64 s.reef, .int .i64 s.llo, .int .i64 s.lhi, .int .i64 c.wlo, .int .i64 c.whi, .int .i64 c.flo, .int .i64 c.fhi, .int .i64 c.tlo, .int .i64 c.thi, topV 1 (slT plan.length (rowL encI plan))] 99, Obj.cells (rowL encI out) 3 (0, 0)]
noncomputable def pspared_t1 : List Item := ([.code [1, 1, 0, 1, 0, 0], .inLoop [1, 1, 0, 1, 0, 0], .inBlock 0, .code [1, 1, 1]]).map (it (bodyOf Try.prog 63))
def pspared_h1 (B : Lo) (c0 : CF) (s : WShore) (c : WStorm) (plan : List Int) (i : Int) (out : List Int) (out_n : Nat) : Prop := ∃ dJ : Nat → Value, (∀ t, Loose (dJ t)) ∧ GoE Try.prog B c0 H00 1 (headC 63 32 (([1, 3, 10, 11, 12] : List Nat).zip (pspared_v1 s c plan i out out_n)) dJ pspared_t1) (headH (pspared_o1 s c plan i out out_n)) (2 + (pspared_o1 s c plan i out out_n).length) []
noncomputable def pspared_z0 (s : WShore) (c : WStorm) (plan : List Int) (i : Int) : Array Value := #[Value.agg #[.int .i64 (WCell.ground (List.getD s.cells i.toNat default)), .int .i64 (WCell.dlo (List.getD s.cells i.toNat default)), .int .i64 (WCell.dhi (List.getD s.cells i.toNat default)), .int .i64 (WCell.floor (List.getD s.cells i.toNat default))], .int .i64 (List.getD (playL s plan (endE true s c)) i.toNat default)]
noncomputable def pspared_z1 (s : WShore) (i : Int) : Array Value := #[.int .i64 (WCell.ground (List.getD s.cells i.toNat default)), .int .i64 (WCell.dlo (List.getD s.cells i.toNat default)), .int .i64 (WCell.dhi (List.getD s.cells i.toNat default)), .int .i64 (WCell.floor (List.getD s.cells i.toNat default))]
noncomputable def pspared_z2 (s : WShore) (c : WStorm) : Array Value := #[.int .i64 (WTruth.wind (endE true s c)), .int .i64 (WTruth.fetch (endE true s c)), .int .i64 (WTruth.tide (endE true s c)), .int .i64 (WTruth.loss (endE true s c)), slT (List.length (WTruth.drags (endE true s c))) (rowL encI (WTruth.drags (endE true s c)))]
noncomputable def pspared_z3 (s : WShore) (c : WStorm) (plan : List Int) (i : Int) : Array Value := #[.int .i64 (List.getD (playL s plan (endE true s c)) i.toNat default)]
noncomputable def pspared_p0 (B : Lo) (s : WShore) (c : WStorm) (plan : List Int) (i : Int) (dJ0 : Nat → Value) : List Prop := [i = (↑i.toNat : Int) ∧ Int.toNat i < List.length s.cells ∧ Array.extract (rowL encWCell s.cells) (Int.toNat i * TypeInfo.size Try.t59) (Int.toNat i * TypeInfo.size Try.t59 + TypeInfo.size Try.t59) = (pspared_z1 s i), i = (↑i.toNat : Int) ∧ Int.toNat i < List.length (playL s plan (endE true s c)) ∧ Array.extract (rowL encI (playL s plan (endE true s c))) (Int.toNat i * TypeInfo.size Try.t3) (Int.toNat i * TypeInfo.size Try.t3 + TypeInfo.size Try.t3) = (pspared_z3 s c plan i), ltq i (↑(List.length (playL s plan (endE true s c))) : Int) = true] ++ ([] : List Prop)
noncomputable def pspared_q0 (s : WShore) (c : WStorm) (plan : List Int) (i : Int) (dJ0 : Nat → Value) : ScriptT := [(0, hvT), (2, HintT.tidx i.toNat (pspared_z3 s c plan i)), (11, HintT.tidx i.toNat (pspared_z1 s i))]
theorem pspared_s0 (B : Lo) (s : WShore) (c : WStorm) (plan : List Int) (i : Int) (dJ0 : Nat → Value) : landM (srunT Try.prog (okFn Try.prog) J0 B 16 1 (headC 63 32 (([1, 3, 10, 11, 12] : List Nat).zip (pspared_v0 s c plan i)) dJ0 pspared_t0) (headH (pspared_o0 s c plan i)) (2 + (pspared_o0 s c plan i).length)
 (pspared_q0 s c plan i dJ0 ++ [(14, HintT.pure (Value.bool false) []), (15, hvI (i + 1))]) 0 [] []) [1, 3, 10, 11, 12] [(2, KS.auto)] [] = some ⟨63, 32, pspared_t0, [], .run, none, pspared_v0 s c plan (i + 1), pspared_o0 s c plan (i + 1),
 [wq (i + 1) = i + 1, AllP [] ∧ PureC Try.prog J0 85 (pspared_z0 s c plan i) (Value.bool false)] ++ pspared_p0 B s c plan i dJ0⟩ := by kernel_rfl
theorem pspared_s1 (B : Lo) (s : WShore) (c : WStorm) (plan : List Int) (i : Int) (dJ0 : Nat → Value) : landM (srunT Try.prog (okFn Try.prog) J0 B 16 1 (headC 63 32 (([1, 3, 10, 11, 12] : List Nat).zip (pspared_v0 s c plan i)) dJ0 pspared_t0) (headH (pspared_o0 s c plan i)) (2 + (pspared_o0 s c plan i).length)
 (pspared_q0 s c plan i dJ0 ++ [(14, HintT.pure (Value.bool true) []), (20, hvI (i + 1))]) 0 [] []) [1, 3, 10, 11, 12] [(2, KS.auto), (4, KS.cells [] (rowL encI [i]))] [] = some ⟨63, 32, pspared_t1, [], .run, none, pspared_v1 s c plan (i + 1) ([i]) (1), pspared_o1 s c plan (i + 1) ([i]) (1),
 [CellsM 1 [] (#[.int .i64 i]) (rowL encI [i]), wq (i + 1) = i + 1, AllP [] ∧ PureC Try.prog J0 85 (pspared_z0 s c plan i) (Value.bool true)] ++ pspared_p0 B s c plan i dJ0⟩ := by kernel_rfl
theorem pspared_s2 (B : Lo) (s : WShore) (c : WStorm) (plan : List Int) (i : Int) (dJ0 : Nat → Value) : landM (srunT Try.prog (okFn Try.prog) J0 B 16 1 (headC 63 32 (([1, 3, 10, 11, 12] : List Nat).zip (pspared_v0 s c plan i)) dJ0 pspared_t0) (headH (pspared_o0 s c plan i)) (2 + (pspared_o0 s c plan i).length)
 (pspared_q0 s c plan i dJ0 ++ [(14, HintT.pure (Value.bool false) []), (15, hvI (i + 1))]) 0 [] []) [1, 3, 10, 11, 12] [(2, KS.auto)] [] = some ⟨63, 32, pspared_t0, [], .run, none, pspared_v0 s c plan (i + 1), pspared_o0 s c plan (i + 1),
 [wq (i + 1) = i + 1, AllP [] ∧ PureC Try.prog J0 85 (pspared_z0 s c plan i) (Value.bool false)] ++ pspared_p0 B s c plan i dJ0⟩ := by kernel_rfl
theorem pspared_s3 (B : Lo) (s : WShore) (c : WStorm) (plan : List Int) (i : Int) (dJ0 : Nat → Value) : endT (srunT Try.prog (okFn Try.prog) J0 B 9 1 (headC 63 32 (([1, 3, 10, 11, 12] : List Nat).zip (pspared_v0 s c plan i)) dJ0 pspared_t0) (headH (pspared_o0 s c plan i)) (2 + (pspared_o0 s c plan i).length)
 [(0, hvF)] 0 [] []) [] = some (slT 0 #[],
 [ltq i (↑(List.length (playL s plan (endE true s c))) : Int) = false]) := by kernel_rfl
noncomputable def pspared_p1 (B : Lo) (s : WShore) (c : WStorm) (plan : List Int) (i : Int) (out : List Int) (out_n : Nat) (dJ0 : Nat → Value) : List Prop := [i = (↑i.toNat : Int) ∧ Int.toNat i < List.length s.cells ∧ Array.extract (rowL encWCell s.cells) (Int.toNat i * TypeInfo.size Try.t59) (Int.toNat i * TypeInfo.size Try.t59 + TypeInfo.size Try.t59) = (pspared_z1 s i), i = (↑i.toNat : Int) ∧ Int.toNat i < List.length (playL s plan (endE true s c)) ∧ Array.extract (rowL encI (playL s plan (endE true s c))) (Int.toNat i * TypeInfo.size Try.t3) (Int.toNat i * TypeInfo.size Try.t3 + TypeInfo.size Try.t3) = (pspared_z3 s c plan i), ltq i (↑(List.length (playL s plan (endE true s c))) : Int) = true] ++ ([] : List Prop)
noncomputable def pspared_q1 (s : WShore) (c : WStorm) (plan : List Int) (i : Int) (out : List Int) (out_n : Nat) (dJ0 : Nat → Value) : ScriptT := [(0, hvT), (2, HintT.tidx i.toNat (pspared_z3 s c plan i)), (11, HintT.tidx i.toNat (pspared_z1 s i))]
theorem pspared_s4 (B : Lo) (s : WShore) (c : WStorm) (plan : List Int) (i : Int) (out : List Int) (out_n : Nat) (dJ0 : Nat → Value) : landM (srunT Try.prog (okFn Try.prog) J0 B 16 1 (headC 63 32 (([1, 3, 10, 11, 12] : List Nat).zip (pspared_v1 s c plan i out out_n)) dJ0 pspared_t1) (headH (pspared_o1 s c plan i out out_n)) (2 + (pspared_o1 s c plan i out out_n).length)
 (pspared_q1 s c plan i out out_n dJ0 ++ [(14, HintT.pure (Value.bool false) []), (15, hvI (i + 1))]) 0 [] []) [1, 3, 10, 11, 12] [(2, KS.auto), (3, KS.cells [] (rowL encI out))] [] = some ⟨63, 32, pspared_t1, [], .run, none, pspared_v1 s c plan (i + 1) (out) (out_n), pspared_o1 s c plan (i + 1) (out) (out_n),
 [CellsM 1 [] (rowL encI out) (rowL encI out), wq (i + 1) = i + 1, AllP [] ∧ PureC Try.prog J0 85 (pspared_z0 s c plan i) (Value.bool false)] ++ pspared_p1 B s c plan i out out_n dJ0⟩ := by kernel_rfl
theorem pspared_s5 (B : Lo) (s : WShore) (c : WStorm) (plan : List Int) (i : Int) (out : List Int) (out_n : Nat) (dJ0 : Nat → Value) : landM (srunT Try.prog (okFn Try.prog) J0 B 16 1 (headC 63 32 (([1, 3, 10, 11, 12] : List Nat).zip (pspared_v1 s c plan i out out_n)) dJ0 pspared_t1) (headH (pspared_o1 s c plan i out out_n)) (2 + (pspared_o1 s c plan i out out_n).length)
 (pspared_q1 s c plan i out out_n dJ0 ++ [(14, HintT.pure (Value.bool true) []), (18, HintT.old (Hint.app (rowL encI (out ++ [i])))), (20, hvI (i + 1))]) 0 [] []) [1, 3, 10, 11, 12] [(2, KS.auto), (5, KS.cells [] (rowL encI (out ++ [i])))] [] = some ⟨63, 32, pspared_t1, [], .run, none, pspared_v1 s c plan (i + 1) (out ++ [i]) (out_n + 1), pspared_o1 s c plan (i + 1) (out ++ [i]) (out_n + 1),
 [CellsM 1 [] (rowL encI (out ++ [i])) (rowL encI (out ++ [i])), wq (i + 1) = i + 1, Array.size (rowL encI out) = out_n * (0 + 1) ∧ out_n + 1 ≤ maxLen ∧ (out_n + 1) * 8 ≤ 140737488355328 ∧ rowL encI out ++ #[.int .i64 i] = rowL encI (out ++ [i]), AllP [] ∧ PureC Try.prog J0 85 (pspared_z0 s c plan i) (Value.bool true)] ++ pspared_p1 B s c plan i out out_n dJ0⟩ := by kernel_rfl
theorem pspared_s6 (B : Lo) (s : WShore) (c : WStorm) (plan : List Int) (i : Int) (out : List Int) (out_n : Nat) (dJ0 : Nat → Value) : landM (srunT Try.prog (okFn Try.prog) J0 B 16 1 (headC 63 32 (([1, 3, 10, 11, 12] : List Nat).zip (pspared_v1 s c plan i out out_n)) dJ0 pspared_t1) (headH (pspared_o1 s c plan i out out_n)) (2 + (pspared_o1 s c plan i out out_n).length)
 (pspared_q1 s c plan i out out_n dJ0 ++ [(14, HintT.pure (Value.bool false) []), (15, hvI (i + 1))]) 0 [] []) [1, 3, 10, 11, 12] [(2, KS.auto), (3, KS.cells [] (rowL encI out))] [] = some ⟨63, 32, pspared_t1, [], .run, none, pspared_v1 s c plan (i + 1) (out) (out_n), pspared_o1 s c plan (i + 1) (out) (out_n),
 [CellsM 1 [] (rowL encI out) (rowL encI out), wq (i + 1) = i + 1, AllP [] ∧ PureC Try.prog J0 85 (pspared_z0 s c plan i) (Value.bool false)] ++ pspared_p1 B s c plan i out out_n dJ0⟩ := by kernel_rfl
theorem pspared_s7 (B : Lo) (s : WShore) (c : WStorm) (plan : List Int) (i : Int) (out : List Int) (out_n : Nat) (dJ0 : Nat → Value) : endT (srunT Try.prog (okFn Try.prog) J0 B 9 1 (headC 63 32 (([1, 3, 10, 11, 12] : List Nat).zip (pspared_v1 s c plan i out out_n)) dJ0 pspared_t1) (headH (pspared_o1 s c plan i out out_n)) (2 + (pspared_o1 s c plan i out out_n).length)
 [(0, hvF)] 0 [] []) [{ k := 3, rs := [], cs := rowL encI out }] = some (slT out_n (Fz.cs { k := 3, rs := [], cs := rowL encI out }),
 [CellsT (Fz.rs { k := 3, rs := [], cs := rowL encI out }) (rowL encI out) (Fz.cs { k := 3, rs := [], cs := rowL encI out }), ltq i (↑(List.length (playL s plan (endE true s c))) : Int) = false]) := by kernel_rfl
theorem pspared_s8 (B : Lo) (s : WShore) (c : WStorm) (plan : List Int) : landM (srunT Try.prog (okFn Try.prog) J0 B 9 1 (entryC Try.prog 63 32 (([.agg (encBuilt s c plan).toArray]).map (pushT 0 4))) H00 1
 [(6, HintT.pure (Value.agg (pspared_z2 s c)) []), (7, HintT.pure (slT (List.length (playL s plan (endE true s c))) (rowL encI (playL s plan (endE true s c)))) [])] 0 [] []) [1, 3, 10, 11, 12] [(1, KS.auto)] [] = some ⟨63, 32, pspared_t0, [], .run, none, pspared_v0 s c plan (0), pspared_o0 s c plan (0),
 [AllP [] ∧ PureC Try.prog J0 61 #[Value.agg #[slT s.cells.length (rowL encWCell s.cells), slT s.works.length (rowL encWWork s.works), .int .i64 s.reef, .int .i64 s.llo, .int .i64 s.lhi, .int .i64 c.wlo, .int .i64 c.whi, .int .i64 c.flo, .int .i64 c.fhi, .int .i64 c.tlo, .int .i64 c.thi, slT plan.length (rowL encI plan)], Value.agg (pspared_z2 s c)] (slT (List.length (playL s plan (endE true s c))) (rowL encI (playL s plan (endE true s c)))), AllP [] ∧ PureC Try.prog J0 55 #[Value.agg #[slT s.cells.length (rowL encWCell s.cells), slT s.works.length (rowL encWWork s.works), .int .i64 s.reef, .int .i64 s.llo, .int .i64 s.lhi, .int .i64 c.wlo, .int .i64 c.whi, .int .i64 c.flo, .int .i64 c.fhi, .int .i64 c.tlo, .int .i64 c.thi]] (Value.agg (pspared_z2 s c))]⟩ := by kernel_rfl
set_option maxHeartbeats 4000000 in
theorem pspared_ls (s : WShore) (c : WStorm) (plan : List Int) (hs : shoreB s = true) (hc : stormB c = true) (hp : planB s plan = true) {B : Lo} (hJ : ∀ w, B.has w → J0 w) {c0 : CF} : ∀ m : Nat, (∀ (i : Int), s.cells.length - i.toNat = m → ∀ (h0 : 0 ≤ i), pspared_h0 B c0 s c plan i → EndsT Try.prog B c0 (slI (([] : List Int) ++ dryL s (playL s plan (endE true s c)) i))) ∧ (∀ (i : Int) (out : List Int) (out_n : Nat), s.cells.length - i.toNat = m → ∀ (h0 : 0 ≤ i) (hout : out_n = out.length) (houtb : (out_n : Int) ≤ i), pspared_h1 B c0 s c plan i out out_n → EndsT Try.prog B c0 (slI (out ++ dryL s (playL s plan (endE true s c)) i))) := by
 intro m0
 induction m0 using Nat.strongRecOn with
 | _ m0 ih0 =>
   refine ⟨?_, ?_⟩
   ·intro i hm0 h0 ⟨dJ0, hdJ0, hg0⟩
    have hsf := shore_facts hs
    have hb2 := tOk_end (b := true) hs hc
    have hl2 := playL_len (s := s) (plan := plan) (t := endE true s c)
    have hsf := shore_facts hs
    have hl2 := playL_len (s := s) (plan := plan) (t := endE true s c)
    by_cases q0 : (i : Int) < ((↑(List.length (playL s plan (endE true s c))) : Int))
    ·
     have hp0 : AllP (pspared_p0 B s c plan i dJ0) := by
      have hcf := cell_facts (hsf.2.2.2.2.1 _ (getD_mem (l := s.cells) (i := i) h0 (by omega)))
      exact ⟨⟨by omega, by omega, (rowL_extract (z := 4) (fun _ => rfl) (by omega))⟩, ⟨⟨by omega, by omega, (rowL_extract (z := 1) (fun _ => rfl) (by omega))⟩, ⟨(ltq_t q0), trivial⟩⟩⟩
     cases q1 : decide (WCell.floor (List.getD s.cells i.toNat default) = -1) with
     | true =>
       have hcf := cell_facts (hsf.2.2.2.2.1 _ (getD_mem (l := s.cells) (i := i) h0 (by omega)))
       have w1 := of_decide_eq_true q1
       have s2 := dryL_out (s := s) (l := playL s plan (endE true s c)) (i := i) (by omega) (by omega)
       exact ((ih0 _ (by omega)).1 (i + 1) rfl (by omega)
        (hg0.landM okF hJ mixed_ok (pspared_s0 B s c plan i dJ0)
        ⟨(wq_in (by omega) (by omega)), ⟨⟨trivial, (by have t_ := pisSpared (WCell.ground (List.getD s.cells i.toNat default)) (WCell.dlo (List.getD s.cells i.toNat default)) (WCell.dhi (List.getD s.cells i.toNat default)) (WCell.floor (List.getD s.cells i.toNat default)) (List.getD (playL s plan (endE true s c)) i.toNat default); rw [q1] at t_; exact t_)⟩, hp0⟩⟩ (by kernel_rfl) (by kernel_rfl))).cast (by (rw [s2]; done))
     | false =>
       cases q2 : decide (List.getD (playL s plan (endE true s c)) i.toNat default ≤ WCell.floor (List.getD s.cells i.toNat default)) with
       | true =>
         have hcf := cell_facts (hsf.2.2.2.2.1 _ (getD_mem (l := s.cells) (i := i) h0 (by omega)))
         have w1 := of_decide_eq_false q1
         have w2 := of_decide_eq_true q2
         have s2 := dryL_in (s := s) (l := playL s plan (endE true s c)) (i := i) (by omega) (by omega) (by omega)
         exact ((ih0 _ (by omega)).2 (i + 1) ([i]) (1) rfl (by omega) (by (simp_all; done)) (by omega)
          (hg0.landM okF hJ mixed_ok (pspared_s1 B s c plan i dJ0)
          ⟨(cellsM_lit (by kernel_rfl)), ⟨(wq_in (by omega) (by omega)), ⟨⟨trivial, (by have t_ := pisSpared (WCell.ground (List.getD s.cells i.toNat default)) (WCell.dlo (List.getD s.cells i.toNat default)) (WCell.dhi (List.getD s.cells i.toNat default)) (WCell.floor (List.getD s.cells i.toNat default)) (List.getD (playL s plan (endE true s c)) i.toNat default); rw [q1, q2] at t_; exact t_)⟩, hp0⟩⟩⟩ (by kernel_rfl) (by kernel_rfl))).cast (by (rw [s2]; simp; done))
       | false =>
         have hcf := cell_facts (hsf.2.2.2.2.1 _ (getD_mem (l := s.cells) (i := i) h0 (by omega)))
         have w1 := of_decide_eq_false q1
         have w2 := of_decide_eq_false q2
         have s2 := dryL_out (s := s) (l := playL s plan (endE true s c)) (i := i) (by omega) (by omega)
         exact ((ih0 _ (by omega)).1 (i + 1) rfl (by omega)
          (hg0.landM okF hJ mixed_ok (pspared_s2 B s c plan i dJ0)
          ⟨(wq_in (by omega) (by omega)), ⟨⟨trivial, (by have t_ := pisSpared (WCell.ground (List.getD s.cells i.toNat default)) (WCell.dlo (List.getD s.cells i.toNat default)) (WCell.dhi (List.getD s.cells i.toNat default)) (WCell.floor (List.getD s.cells i.toNat default)) (List.getD (playL s plan (endE true s c)) i.toNat default); rw [q1, q2] at t_; exact t_)⟩, hp0⟩⟩ (by kernel_rfl) (by kernel_rfl))).cast (by (rw [s2]; done))
    ·
     have s2 := dryL_nil (s := s) (l := playL s plan (endE true s c)) (i := i) (by omega)
     exact (GoE.endsT okF hJ mixed_ok hg0 (pspared_s3 B s c plan i dJ0)
      ⟨(ltq_f (Int.not_lt.1 q0)), trivial⟩).cast (by (rw [s2]; rfl))
   ·intro i out out_n hm0 h0 hout houtb ⟨dJ0, hdJ0, hg0⟩
    have hsf := shore_facts hs
    have hb2 := tOk_end (b := true) hs hc
    have hl2 := playL_len (s := s) (plan := plan) (t := endE true s c)
    have hsf := shore_facts hs
    have hl2 := playL_len (s := s) (plan := plan) (t := endE true s c)
    by_cases q0 : (i : Int) < ((↑(List.length (playL s plan (endE true s c))) : Int))
    ·
     have hp1 : AllP (pspared_p1 B s c plan i out out_n dJ0) := by
      have hcf := cell_facts (hsf.2.2.2.2.1 _ (getD_mem (l := s.cells) (i := i) h0 (by omega)))
      exact ⟨⟨by omega, by omega, (rowL_extract (z := 4) (fun _ => rfl) (by omega))⟩, ⟨⟨by omega, by omega, (rowL_extract (z := 1) (fun _ => rfl) (by omega))⟩, ⟨(ltq_t q0), trivial⟩⟩⟩
     cases q1 : decide (WCell.floor (List.getD s.cells i.toNat default) = -1) with
     | true =>
       have hcf := cell_facts (hsf.2.2.2.2.1 _ (getD_mem (l := s.cells) (i := i) h0 (by omega)))
       have w1 := of_decide_eq_true q1
       have s2 := dryL_out (s := s) (l := playL s plan (endE true s c)) (i := i) (by omega) (by omega)
       exact ((ih0 _ (by omega)).2 (i + 1) (out) (out_n) rfl (by omega) (by with_reducible assumption) (by omega)
        (hg0.landM okF hJ mixed_ok (pspared_s4 B s c plan i out out_n dJ0)
        ⟨(cellsM_simple (rowL_simple (fun x => List.all_eq_true.1 (by rfl)))), ⟨(wq_in (by omega) (by omega)), ⟨⟨trivial, (by have t_ := pisSpared (WCell.ground (List.getD s.cells i.toNat default)) (WCell.dlo (List.getD s.cells i.toNat default)) (WCell.dhi (List.getD s.cells i.toNat default)) (WCell.floor (List.getD s.cells i.toNat default)) (List.getD (playL s plan (endE true s c)) i.toNat default); rw [q1] at t_; exact t_)⟩, hp1⟩⟩⟩ (by kernel_rfl) (by kernel_rfl))).cast (by (rw [s2]; done))
     | false =>
       cases q2 : decide (List.getD (playL s plan (endE true s c)) i.toNat default ≤ WCell.floor (List.getD s.cells i.toNat default)) with
       | true =>
         have hcf := cell_facts (hsf.2.2.2.2.1 _ (getD_mem (l := s.cells) (i := i) h0 (by omega)))
         have w1 := of_decide_eq_false q1
         have w2 := of_decide_eq_true q2
         have s2 := dryL_in (s := s) (l := playL s plan (endE true s c)) (i := i) (by omega) (by omega) (by omega)
         exact ((ih0 _ (by omega)).2 (i + 1) (out ++ [i]) (out_n + 1) rfl (by omega) (by (simp_all; done)) (by omega)
          (hg0.landM okF hJ mixed_ok (pspared_s5 B s c plan i out out_n dJ0)
          ⟨(cellsM_simple (rowL_simple (fun x => List.all_eq_true.1 (by rfl)))), ⟨(wq_in (by omega) (by omega)), ⟨⟨(by (rw [rowL_size (z := 1) (fun _ => rfl)]; first | omega | (simp; omega) | (simp_all; done))), (by unfold maxLen; omega), by omega, by first | exact rowL_push | exact rowL_pushC rfl⟩, ⟨⟨trivial, (by have t_ := pisSpared (WCell.ground (List.getD s.cells i.toNat default)) (WCell.dlo (List.getD s.cells i.toNat default)) (WCell.dhi (List.getD s.cells i.toNat default)) (WCell.floor (List.getD s.cells i.toNat default)) (List.getD (playL s plan (endE true s c)) i.toNat default); rw [q1, q2] at t_; exact t_)⟩, hp1⟩⟩⟩⟩ (by kernel_rfl) (by kernel_rfl))).cast (by (rw [s2]; simp; done))
       | false =>
         have hcf := cell_facts (hsf.2.2.2.2.1 _ (getD_mem (l := s.cells) (i := i) h0 (by omega)))
         have w1 := of_decide_eq_false q1
         have w2 := of_decide_eq_false q2
         have s2 := dryL_out (s := s) (l := playL s plan (endE true s c)) (i := i) (by omega) (by omega)
         exact ((ih0 _ (by omega)).2 (i + 1) (out) (out_n) rfl (by omega) (by with_reducible assumption) (by omega)
          (hg0.landM okF hJ mixed_ok (pspared_s6 B s c plan i out out_n dJ0)
          ⟨(cellsM_simple (rowL_simple (fun x => List.all_eq_true.1 (by rfl)))), ⟨(wq_in (by omega) (by omega)), ⟨⟨trivial, (by have t_ := pisSpared (WCell.ground (List.getD s.cells i.toNat default)) (WCell.dlo (List.getD s.cells i.toNat default)) (WCell.dhi (List.getD s.cells i.toNat default)) (WCell.floor (List.getD s.cells i.toNat default)) (List.getD (playL s plan (endE true s c)) i.toNat default); rw [q1, q2] at t_; exact t_)⟩, hp1⟩⟩⟩ (by kernel_rfl) (by kernel_rfl))).cast (by (rw [s2]; done))
    ·
     have s2 := dryL_nil (s := s) (l := playL s plan (endE true s c)) (i := i) (by omega)
     exact (GoE.endsT okF hJ mixed_ok hg0 (pspared_s7 B s c plan i out out_n dJ0)
      ⟨(rowL_cellsT (fun x => List.all_eq_true.1 (by rfl))), ⟨(ltq_f (Int.not_lt.1 q0)), trivial⟩⟩).cast (by (rw [s2, List.append_nil, hout]; done))
set_option maxHeartbeats 4000000 in
theorem pspared_e (s : WShore) (c : WStorm) (plan : List Int) (hs : shoreB s = true) (hc : stormB c = true) (hp : planB s plan = true) {B : Lo} (hJ : ∀ w, B.has w → J0 w) : EndsT Try.prog B (entryC Try.prog 63 32 (([.agg (encBuilt s c plan).toArray]).map (pushT 0 4))) (slI (dryL s (playL s plan (endE true s c)) 0)) := by
 have hsf := shore_facts hs
 have hb2 := tOk_end (b := true) hs hc
 have hl2 := playL_len (s := s) (plan := plan) (t := endE true s c)
 exact ((pspared_ls s c plan hs hc hp hJ _).1 (0) rfl (by omega)
  (GoE.start.landM okF hJ mixed_ok (pspared_s8 B s c plan)
  ⟨⟨trivial, pdepths (s) (c) (plan) (endE true s c) (by with_reducible assumption) (by with_reducible assumption) (by with_reducible assumption)⟩, ⟨⟨trivial, pworst (s) (c) (by omega)⟩, trivial⟩⟩ (by kernel_rfl) (by kernel_rfl))).cast (by rfl)
theorem pspared (s : WShore) (c : WStorm) (plan : List Int) (hs : shoreB s = true) (hc : stormB c = true) (hp : planB s plan = true) : PureC Try.prog J0 63 #[.agg (encBuilt s c plan).toArray] (slI (dryL s (playL s plan (endE true s c)) 0)) :=
 pureC_of (ts := [.agg (encBuilt s c plan).toArray]) J0_st (c0 := entryC Try.prog 63 32 (([.agg (encBuilt s c plan).toArray]).map (pushT 0 4))) (by kernel_rfl) (by kernel_rfl) fun B hJ => pspared_e s c plan hs hc hp hJ
noncomputable def pDry_z0 (s : WShore) (c : WStorm) (plan : List Int) : Array Value := #[Value.agg #[slT s.cells.length (rowL encWCell s.cells), slT s.works.length (rowL encWWork s.works), .int .i64 s.reef, .int .i64 s.llo, .int .i64 s.lhi, .int .i64 c.wlo, .int .i64 c.whi, .int .i64 c.flo, .int .i64 c.fhi, .int .i64 c.tlo, .int .i64 c.thi, slT plan.length (rowL encI plan)]]
noncomputable def pDry_z1 (s : WShore) (c : WStorm) : Array Value := #[slT s.cells.length (rowL encWCell s.cells), slT s.works.length (rowL encWWork s.works), .int .i64 s.reef, .int .i64 s.llo, .int .i64 s.lhi, .int .i64 c.wlo, .int .i64 c.whi, .int .i64 c.flo, .int .i64 c.fhi, .int .i64 c.tlo, .int .i64 c.thi]
noncomputable def pDry_p0 (B : Lo) (s : WShore) (c : WStorm) (plan : List Int) : List Prop := [AllP [] ∧ PureC Try.prog J0 58 #[Value.agg (pDry_z1 s c), slT plan.length (rowL encI plan)] (Value.agg #[slT s.cells.length (rowL encWCell s.cells), slT s.works.length (rowL encWWork s.works), .int .i64 s.reef, .int .i64 s.llo, .int .i64 s.lhi, .int .i64 c.wlo, .int .i64 c.whi, .int .i64 c.flo, .int .i64 c.fhi, .int .i64 c.tlo, .int .i64 c.thi, slT plan.length (rowL encI plan)]), AllP [] ∧ PureC Try.prog J0 53 #[Value.agg #[slT s.cells.length (rowL encWCell s.cells), slT s.works.length (rowL encWWork s.works), .int .i64 s.reef, .int .i64 s.llo, .int .i64 s.lhi], Value.agg #[.int .i64 c.wlo, .int .i64 c.whi, .int .i64 c.flo, .int .i64 c.fhi, .int .i64 c.tlo, .int .i64 c.thi]] (Value.agg (pDry_z1 s c))] ++ ([] : List Prop)
noncomputable def pDry_q0 (s : WShore) (c : WStorm) (plan : List Int) : ScriptT := [(6, HintT.pure (Value.agg (pDry_z1 s c)) []), (8, HintT.pure (Value.agg #[slT s.cells.length (rowL encWCell s.cells), slT s.works.length (rowL encWWork s.works), .int .i64 s.reef, .int .i64 s.llo, .int .i64 s.lhi, .int .i64 c.wlo, .int .i64 c.whi, .int .i64 c.flo, .int .i64 c.fhi, .int .i64 c.tlo, .int .i64 c.thi, slT plan.length (rowL encI plan)]) [])]
theorem pDry_s0 (B : Lo) (s : WShore) (c : WStorm) (plan : List Int) : endT (srunT Try.prog (okFn Try.prog) J0 B 13 1 (entryC Try.prog 32 19 (([.agg (encShore s).toArray, .agg (encStorm c).toArray, slI plan]).map (pushT 0 4))) H00 1
 (pDry_q0 s c plan ++ [(12, HintT.pure (Value.bool true) []), (15, HintT.pure (slT (List.length (dryL s (playL s plan (endE true s c)) 0)) (rowL encI (dryL s (playL s plan (endE true s c)) 0))) [])]) 0 [] []) [] = some (Value.tuple #[slT (List.length (dryL s (playL s plan (endE true s c)) 0)) (rowL encI (dryL s (playL s plan (endE true s c)) 0)), .int .i64 0],
 [AllP [] ∧ PureC Try.prog J0 63 (pDry_z0 s c plan) (slT (List.length (dryL s (playL s plan (endE true s c)) 0)) (rowL encI (dryL s (playL s plan (endE true s c)) 0))), AllP [] ∧ PureC Try.prog J0 59 (pDry_z0 s c plan) (Value.bool true)] ++ pDry_p0 B s c plan) := by kernel_rfl
theorem pDry_s1 (B : Lo) (s : WShore) (c : WStorm) (plan : List Int) : endT (srunT Try.prog (okFn Try.prog) J0 B 12 1 (entryC Try.prog 32 19 (([.agg (encShore s).toArray, .agg (encStorm c).toArray, slI plan]).map (pushT 0 4))) H00 1
 (pDry_q0 s c plan ++ [(12, HintT.pure (Value.bool false) [])]) 0 [] []) [] = some (Value.tuple #[slT 0 #[], .int .i64 2],
 [AllP [] ∧ PureC Try.prog J0 59 (pDry_z0 s c plan) (Value.bool false)] ++ pDry_p0 B s c plan) := by kernel_rfl
theorem pDry_s2 (B : Lo) (s : WShore) (c : WStorm) (plan : List Int) : endT (srunT Try.prog (okFn Try.prog) J0 B 12 1 (entryC Try.prog 32 19 (([.agg (encShore s).toArray, .agg (encStorm c).toArray, slI plan]).map (pushT 0 4))) H00 1
 (pDry_q0 s c plan ++ [(12, HintT.pure (Value.bool false) [])]) 0 [] []) [] = some (Value.tuple #[slT 0 #[], .int .i64 2],
 [AllP [] ∧ PureC Try.prog J0 59 (pDry_z0 s c plan) (Value.bool false)] ++ pDry_p0 B s c plan) := by kernel_rfl
theorem pDry_s3 (B : Lo) (s : WShore) (c : WStorm) (plan : List Int) : endT (srunT Try.prog (okFn Try.prog) J0 B 12 1 (entryC Try.prog 32 19 (([.agg (encShore s).toArray, .agg (encStorm c).toArray, slI plan]).map (pushT 0 4))) H00 1
 (pDry_q0 s c plan ++ [(12, HintT.pure (Value.bool false) [])]) 0 [] []) [] = some (Value.tuple #[slT 0 #[], .int .i64 2],
 [AllP [] ∧ PureC Try.prog J0 59 (pDry_z0 s c plan) (Value.bool false)] ++ pDry_p0 B s c plan) := by kernel_rfl
set_option maxHeartbeats 4000000 in
theorem pDry_e (s : WShore) (c : WStorm) (plan : List Int)  {B : Lo} (hJ : ∀ w, B.has w → J0 w) : EndsT Try.prog B (entryC Try.prog 32 19 (([.agg (encShore s).toArray, .agg (encStorm c).toArray, slI plan]).map (pushT 0 4))) (.tuple #[if (shoreB s && stormB c) && planB s plan then slI (dryL s (playL s plan (endE true s c)) 0) else slI [], .int .i64 (if (shoreB s && stormB c) && planB s plan then 0 else 2)]) := by
 have hp0 : AllP (pDry_p0 B s c plan) := by
  exact ⟨⟨trivial, pwithPlan (s) (c) (plan)⟩, ⟨⟨trivial, pinStorm (s) (c)⟩, trivial⟩⟩
 cases q0 : shoreB s with
 | true =>
   cases q1 : stormB c with
   | true =>
     cases q2 : planB s plan with
     | true =>
       exact (GoE.endsT okF hJ mixed_ok GoE.start (pDry_s0 B s c plan)
        ⟨⟨trivial, pspared (s) (c) (plan) (by with_reducible assumption) (by with_reducible assumption) (by with_reducible assumption)⟩, ⟨⟨trivial, (by have t_ := pisBuilt (s) (c) (plan); rw [q0, q1, q2] at t_; exact t_)⟩, hp0⟩⟩).cast (by rfl)
     | false =>
       exact (GoE.endsT okF hJ mixed_ok GoE.start (pDry_s1 B s c plan)
        ⟨⟨trivial, (by have t_ := pisBuilt (s) (c) (plan); rw [q0, q1, q2] at t_; exact t_)⟩, hp0⟩).cast (by rfl)
   | false =>
     exact (GoE.endsT okF hJ mixed_ok GoE.start (pDry_s2 B s c plan)
      ⟨⟨trivial, (by have t_ := pisBuilt (s) (c) (plan); rw [q0, q1] at t_; exact t_)⟩, hp0⟩).cast (by rfl)
 | false =>
   exact (GoE.endsT okF hJ mixed_ok GoE.start (pDry_s3 B s c plan)
    ⟨⟨trivial, (by have t_ := pisBuilt (s) (c) (plan); rw [q0] at t_; exact t_)⟩, hp0⟩).cast (by rfl)
theorem pDry (s : WShore) (c : WStorm) (plan : List Int)  : PureC Try.prog J0 32 #[.agg (encShore s).toArray, .agg (encStorm c).toArray, slI plan] (.tuple #[if (shoreB s && stormB c) && planB s plan then slI (dryL s (playL s plan (endE true s c)) 0) else slI [], .int .i64 (if (shoreB s && stormB c) && planB s plan then 0 else 2)]) :=
 pureC_of (ts := [.agg (encShore s).toArray, .agg (encStorm c).toArray, slI plan]) J0_st (c0 := entryC Try.prog 32 19 (([.agg (encShore s).toArray, .agg (encStorm c).toArray, slI plan]).map (pushT 0 4))) (by kernel_rfl) (by kernel_rfl) fun B hJ => pDry_e s c plan  hJ
end Go.Proofs.Ytiigkdhaofaijaa

namespace Go.Proofs.Ytiigkdhaofaijaa
open Go Go.CE Go.RowKit
set_option maxRecDepth 100000
def pIndex_v0 (xs : List Int) (i : Int) : List Value := [topV 1 (slT xs.length (rowL encI xs)), .int .i64 0, .int .i64 (↑xs.length : Int), .int .i64 i]
def pIndex_o0 (xs : List Int) (i : Int) : List Obj := []
noncomputable def pIndex_t0 : List Item := ([.code [1, 0, 1, 0, 0], .inLoop [1, 0, 1, 0, 0], .inBlock 0, .code [1, 1]]).map (it (bodyOf Try.prog 87))
def pIndex_h0 (B : Lo) (c0 : CF) (xs : List Int) (i : Int) : Prop := ∃ dJ : Nat → Value, (∀ t, Loose (dJ t)) ∧ GoE Try.prog B c0 H00 1 (headC 87 19 (([0, 1, 7, 8] : List Nat).zip (pIndex_v0 xs i)) dJ pIndex_t0) (headH (pIndex_o0 xs i)) (2 + (pIndex_o0 xs i).length) []
noncomputable def pIndex_p0 (B : Lo) (xs : List Int) (i : Int) (dJ0 : Nat → Value) : List Prop := [i = (↑i.toNat : Int) ∧ Int.toNat i < List.length xs ∧ Array.extract (rowL encI xs) (Int.toNat i * TypeInfo.size Try.t3) (Int.toNat i * TypeInfo.size Try.t3 + TypeInfo.size Try.t3) = #[.int .i64 (List.getD xs i.toNat default)], ltq i (↑xs.length : Int) = true] ++ ([] : List Prop)
noncomputable def pIndex_q0 (xs : List Int) (i : Int) (dJ0 : Nat → Value) : ScriptT := [(0, hvT), (6, HintT.tidx i.toNat #[.int .i64 (List.getD xs i.toNat default)])]
theorem pIndex_s0 (B : Lo) (xs : List Int) (i : Int) (dJ0 : Nat → Value) : endT (srunT Try.prog (okFn Try.prog) J0 B 16 1 (headC 87 19 (([0, 1, 7, 8] : List Nat).zip (pIndex_v0 xs i)) dJ0 pIndex_t0) (headH (pIndex_o0 xs i)) (2 + (pIndex_o0 xs i).length)
 (pIndex_q0 xs i dJ0 ++ [(8, hvT)]) 0 [] []) [] = some (.int .i64 i,
 [eqq 0 (List.getD xs i.toNat default) = true] ++ pIndex_p0 B xs i dJ0) := by kernel_rfl
theorem pIndex_s1 (B : Lo) (xs : List Int) (i : Int) (dJ0 : Nat → Value) : landM (srunT Try.prog (okFn Try.prog) J0 B 16 1 (headC 87 19 (([0, 1, 7, 8] : List Nat).zip (pIndex_v0 xs i)) dJ0 pIndex_t0) (headH (pIndex_o0 xs i)) (2 + (pIndex_o0 xs i).length)
 (pIndex_q0 xs i dJ0 ++ [(8, hvF), (9, hvI (i + 1))]) 0 [] []) [0, 1, 7, 8] [] [] = some ⟨87, 19, pIndex_t0, [], .run, none, pIndex_v0 xs (i + 1), pIndex_o0 xs (i + 1),
 [wq (i + 1) = i + 1, eqq 0 (List.getD xs i.toNat default) = false] ++ pIndex_p0 B xs i dJ0⟩ := by kernel_rfl
theorem pIndex_s2 (B : Lo) (xs : List Int) (i : Int) (dJ0 : Nat → Value) : endT (srunT Try.prog (okFn Try.prog) J0 B 9 1 (headC 87 19 (([0, 1, 7, 8] : List Nat).zip (pIndex_v0 xs i)) dJ0 pIndex_t0) (headH (pIndex_o0 xs i)) (2 + (pIndex_o0 xs i).length)
 [(0, hvF)] 0 [] []) [] = some (.int .i64 (-1),
 [ltq i (↑xs.length : Int) = false]) := by kernel_rfl
theorem pIndex_s3 (B : Lo) (xs : List Int) : landM (srunT Try.prog (okFn Try.prog) J0 B 7 1 (entryC Try.prog 87 19 (([slI xs, .int .i64 0]).map (pushT 0 4))) H00 1
 [] 0 [] []) [0, 1, 7, 8] [] [] = some ⟨87, 19, pIndex_t0, [], .run, none, pIndex_v0 xs (0), pIndex_o0 xs (0),
 []⟩ := by kernel_rfl
set_option maxHeartbeats 4000000 in
theorem pIndex_ls (xs : List Int)  (hfacts : xs.length ≤ 9223372036854775807) {B : Lo} (hJ : ∀ w, B.has w → J0 w) {c0 : CF} : ∀ m : Nat, (∀ (i : Int), xs.length - i.toNat = m → ∀ (h0 : 0 ≤ i), pIndex_h0 B c0 xs i → EndsT Try.prog B c0 (.int .i64 (inwI (xs.drop i.toNat) i))) := by
 intro m0
 induction m0 using Nat.strongRecOn with
 | _ m0 ih0 =>
   intro i hm0 h0 ⟨dJ0, hdJ0, hg0⟩
   by_cases q0 : (i : Int) < ((↑xs.length : Int))
   ·
    have hp0 : AllP (pIndex_p0 B xs i dJ0) := by
     have s2 := inwI_cons (l := xs) (i := i) (k := i) h0 (by omega)
     exact ⟨⟨by omega, by omega, (rowL_extract (z := 1) (fun _ => rfl) (by omega))⟩, ⟨(ltq_t q0), trivial⟩⟩
    by_cases q1 : (0 : Int) = (List.getD xs i.toNat default)
    ·
     have s2 := inwI_cons (l := xs) (i := i) (k := i) h0 (by omega)
     exact (GoE.endsT okF hJ mixed_ok hg0 (pIndex_s0 B xs i dJ0)
      ⟨(eqq_t q1), hp0⟩).cast (by (rw [s2, if_pos (by omega)]; done))
    ·
     have s2 := inwI_cons (l := xs) (i := i) (k := i) h0 (by omega)
     exact ((ih0 _ (by omega)) (i + 1) rfl (by omega)
      (hg0.landM okF hJ mixed_ok (pIndex_s1 B xs i dJ0)
      ⟨(wq_in (by omega) (by omega)), ⟨(eqq_f q1), hp0⟩⟩ (by kernel_rfl) (by kernel_rfl))).cast (by (rw [s2, if_neg (by omega)]; done))
   ·
    have s2 := inwI_nil (l := xs) (i := i) (k := i) (by omega)
    exact (GoE.endsT okF hJ mixed_ok hg0 (pIndex_s2 B xs i dJ0)
     ⟨(ltq_f (Int.not_lt.1 q0)), trivial⟩).cast (by (rw [s2]; done))
set_option maxHeartbeats 4000000 in
theorem pIndex_e (xs : List Int)  (hfacts : xs.length ≤ 9223372036854775807) {B : Lo} (hJ : ∀ w, B.has w → J0 w) : EndsT Try.prog B (entryC Try.prog 87 19 (([slI xs, .int .i64 0]).map (pushT 0 4))) (.int .i64 (inwI xs 0)) := by
 exact ((pIndex_ls xs hfacts hJ _) (0) rfl (by omega)
  (GoE.start.landM okF hJ mixed_ok (pIndex_s3 B xs)
  trivial (by kernel_rfl) (by kernel_rfl))).cast (by rfl)
theorem pIndex (xs : List Int)  : PureC Try.prog J0 87 #[slI xs, .int .i64 0] (.int .i64 (inwI xs 0)) :=
 pureC_ofF (ts := [slI xs, .int .i64 0]) (xs.length ≤ 9223372036854775807) (fun _ _ ht => ht.ln (i := 0) rfl) J0_st (c0 := entryC Try.prog 87 19 (([slI xs, .int .i64 0]).map (pushT 0 4))) (by kernel_rfl) (by kernel_rfl) fun hfacts B hJ => pIndex_e xs  hfacts hJ
noncomputable def pinward_z0 (s : WShore) (c : WStorm) : Array Value := #[.int .i64 (WTruth.wind (endE true s c)), .int .i64 (WTruth.fetch (endE true s c)), .int .i64 (WTruth.tide (endE true s c)), .int .i64 (WTruth.loss (endE true s c)), slT (List.length (WTruth.drags (endE true s c))) (rowL encI (WTruth.drags (endE true s c)))]
noncomputable def pinward_p0 (B : Lo) (s : WShore) (c : WStorm) (plan : List Int) (k : Int) : List Prop := [wq (k + inwI (List.drop k.toNat (playL s plan (endE true s c))) 0) = k + inwI (List.drop k.toNat (playL s plan (endE true s c))) 0, AllP [] ∧ PureC Try.prog J0 87 #[slT (List.length (List.drop k.toNat (playL s plan (endE true s c)))) (rowL encI (List.drop k.toNat (playL s plan (endE true s c)))), .int .i64 0] (.int .i64 (inwI (List.drop k.toNat (playL s plan (endE true s c))) 0)), k = (↑k.toNat : Int) ∧ Int.toNat k < List.length (playL s plan (endE true s c)) ∧ List.length (List.drop k.toNat (playL s plan (endE true s c))) = List.length (playL s plan (endE true s c)) - Int.toNat k ∧ Array.extract (rowL encI (playL s plan (endE true s c))) (Int.toNat k * TypeInfo.size Try.t3) = rowL encI (List.drop k.toNat (playL s plan (endE true s c))), AllP [] ∧ PureC Try.prog J0 61 #[Value.agg #[slT s.cells.length (rowL encWCell s.cells), slT s.works.length (rowL encWWork s.works), .int .i64 s.reef, .int .i64 s.llo, .int .i64 s.lhi, .int .i64 c.wlo, .int .i64 c.whi, .int .i64 c.flo, .int .i64 c.fhi, .int .i64 c.tlo, .int .i64 c.thi, slT plan.length (rowL encI plan)], Value.agg (pinward_z0 s c)] (slT (List.length (playL s plan (endE true s c))) (rowL encI (playL s plan (endE true s c)))), AllP [] ∧ PureC Try.prog J0 55 #[Value.agg #[slT s.cells.length (rowL encWCell s.cells), slT s.works.length (rowL encWWork s.works), .int .i64 s.reef, .int .i64 s.llo, .int .i64 s.lhi, .int .i64 c.wlo, .int .i64 c.whi, .int .i64 c.flo, .int .i64 c.fhi, .int .i64 c.tlo, .int .i64 c.thi]] (Value.agg (pinward_z0 s c))] ++ ([] : List Prop)
noncomputable def pinward_q0 (s : WShore) (c : WStorm) (plan : List Int) (k : Int) : ScriptT := [(6, HintT.pure (Value.agg (pinward_z0 s c)) []), (7, HintT.pure (slT (List.length (playL s plan (endE true s c))) (rowL encI (playL s plan (endE true s c)))) []), (9, HintT.tslc k.toNat (List.length (List.drop k.toNat (playL s plan (endE true s c)))) (rowL encI (List.drop k.toNat (playL s plan (endE true s c))))), (10, HintT.pure (.int .i64 (inwI (List.drop k.toNat (playL s plan (endE true s c))) 0)) []), (14, hvI (k + inwI (List.drop k.toNat (playL s plan (endE true s c))) 0))]
theorem pinward_s0 (B : Lo) (s : WShore) (c : WStorm) (plan : List Int) (k : Int) : endT (srunT Try.prog (okFn Try.prog) J0 B 8 1 (entryC Try.prog 65 20 (([.agg (encBuilt s c plan).toArray, .int .i64 k]).map (pushT 0 4))) H00 1
 (pinward_q0 s c plan k ++ [(16, hvT)]) 0 [] []) [] = some (Value.tuple #[.int .i64 (k + inwI (List.drop k.toNat (playL s plan (endE true s c))) 0), Value.bool true],
 [(!ltq (inwI (List.drop k.toNat (playL s plan (endE true s c))) 0) 0) = true] ++ pinward_p0 B s c plan k) := by kernel_rfl
theorem pinward_s1 (B : Lo) (s : WShore) (c : WStorm) (plan : List Int) (k : Int) : endT (srunT Try.prog (okFn Try.prog) J0 B 8 1 (entryC Try.prog 65 20 (([.agg (encBuilt s c plan).toArray, .int .i64 k]).map (pushT 0 4))) H00 1
 (pinward_q0 s c plan k ++ [(16, hvF)]) 0 [] []) [] = some (Value.tuple #[.int .i64 (k + inwI (List.drop k.toNat (playL s plan (endE true s c))) 0), Value.bool false],
 [(!ltq (inwI (List.drop k.toNat (playL s plan (endE true s c))) 0) 0) = false] ++ pinward_p0 B s c plan k) := by kernel_rfl
set_option maxHeartbeats 4000000 in
theorem pinward_e (s : WShore) (c : WStorm) (plan : List Int) (k : Int) (hs : shoreB s = true) (hc : stormB c = true) (hp : planB s plan = true) (hk : 0 ≤ k ∧ k < s.cells.length) {B : Lo} (hJ : ∀ w, B.has w → J0 w) : EndsT Try.prog B (entryC Try.prog 65 20 (([.agg (encBuilt s c plan).toArray, .int .i64 k]).map (pushT 0 4))) (.tuple #[.int .i64 (k + inwI ((playL s plan (endE true s c)).drop k.toNat) 0), .bool (decide (0 ≤ inwI ((playL s plan (endE true s c)).drop k.toNat) 0))]) := by
 have hsf := shore_facts hs
 have hb2 := tOk_end (b := true) hs hc
 have hl2 := playL_len (s := s) (plan := plan) (t := endE true s c)
 have hge := inwI_ge (l := (playL s plan (endE true s c)).drop k.toNat) (i := 0)
 have hdl : ((playL s plan (endE true s c)).drop k.toNat).length ≤ 7 := by rw [List.length_drop]; omega
 have hp0 : AllP (pinward_p0 B s c plan k) := by
  exact ⟨(wq_in (by omega) (by omega)), ⟨⟨trivial, pIndex (List.drop k.toNat (playL s plan (endE true s c)))⟩, ⟨(by exact ⟨by omega, by omega, List.length_drop, rowL_dropE (fun _ => rfl)⟩), ⟨⟨trivial, pdepths (s) (c) (plan) (endE true s c) (by with_reducible assumption) (by with_reducible assumption) (by with_reducible assumption)⟩, ⟨⟨trivial, pworst (s) (c) (by omega)⟩, trivial⟩⟩⟩⟩⟩
 by_cases q0 : (0 : Int) ≤ (inwI (List.drop k.toNat (playL s plan (endE true s c))) 0)
 ·
  exact (GoE.endsT okF hJ mixed_ok GoE.start (pinward_s0 B s c plan k)
   ⟨(nltq_t q0), hp0⟩).cast (by (rw [decide_eq_true (by omega)]; done))
 ·
  exact (GoE.endsT okF hJ mixed_ok GoE.start (pinward_s1 B s c plan k)
   ⟨(nltq_f (Int.not_le.1 q0)), hp0⟩).cast (by (rw [decide_eq_false (by omega)]; done))
theorem pinward (s : WShore) (c : WStorm) (plan : List Int) (k : Int) (hs : shoreB s = true) (hc : stormB c = true) (hp : planB s plan = true) (hk : 0 ≤ k ∧ k < s.cells.length) : PureC Try.prog J0 65 #[.agg (encBuilt s c plan).toArray, .int .i64 k] (.tuple #[.int .i64 (k + inwI ((playL s plan (endE true s c)).drop k.toNat) 0), .bool (decide (0 ≤ inwI ((playL s plan (endE true s c)).drop k.toNat) 0))]) :=
 pureC_of (ts := [.agg (encBuilt s c plan).toArray, .int .i64 k]) J0_st (c0 := entryC Try.prog 65 20 (([.agg (encBuilt s c plan).toArray, .int .i64 k]).map (pushT 0 4))) (by kernel_rfl) (by kernel_rfl) fun B hJ => pinward_e s c plan k hs hc hp hk hJ
noncomputable def pInward_z0 (s : WShore) (c : WStorm) (plan : List Int) : Array Value := #[Value.agg #[slT s.cells.length (rowL encWCell s.cells), slT s.works.length (rowL encWWork s.works), .int .i64 s.reef, .int .i64 s.llo, .int .i64 s.lhi, .int .i64 c.wlo, .int .i64 c.whi, .int .i64 c.flo, .int .i64 c.fhi, .int .i64 c.tlo, .int .i64 c.thi, slT plan.length (rowL encI plan)]]
noncomputable def pInward_z1 (s : WShore) (c : WStorm) (plan : List Int) : Array Value := #[slT s.cells.length (rowL encWCell s.cells), slT s.works.length (rowL encWWork s.works), .int .i64 s.reef, .int .i64 s.llo, .int .i64 s.lhi, .int .i64 c.wlo, .int .i64 c.whi, .int .i64 c.flo, .int .i64 c.fhi, .int .i64 c.tlo, .int .i64 c.thi, slT plan.length (rowL encI plan)]
noncomputable def pInward_z2 (s : WShore) (c : WStorm) : Array Value := #[slT s.cells.length (rowL encWCell s.cells), slT s.works.length (rowL encWWork s.works), .int .i64 s.reef, .int .i64 s.llo, .int .i64 s.lhi, .int .i64 c.wlo, .int .i64 c.whi, .int .i64 c.flo, .int .i64 c.fhi, .int .i64 c.tlo, .int .i64 c.thi]
noncomputable def pInward_z3 (s : WShore) : Array Value := #[slT s.cells.length (rowL encWCell s.cells), slT s.works.length (rowL encWWork s.works), .int .i64 s.reef, .int .i64 s.llo, .int .i64 s.lhi]
noncomputable def pInward_p0 (B : Lo) (s : WShore) (c : WStorm) (plan : List Int) (k : Int) : List Prop := [AllP [] ∧ PureC Try.prog J0 58 #[Value.agg (pInward_z2 s c), slT plan.length (rowL encI plan)] (Value.agg (pInward_z1 s c plan)), AllP [] ∧ PureC Try.prog J0 53 #[Value.agg (pInward_z3 s), Value.agg #[.int .i64 c.wlo, .int .i64 c.whi, .int .i64 c.flo, .int .i64 c.fhi, .int .i64 c.tlo, .int .i64 c.thi]] (Value.agg (pInward_z2 s c))] ++ ([] : List Prop)
noncomputable def pInward_q0 (s : WShore) (c : WStorm) (plan : List Int) (k : Int) : ScriptT := [(6, HintT.pure (Value.agg (pInward_z2 s c)) []), (8, HintT.pure (Value.agg (pInward_z1 s c plan)) [])]
noncomputable def pInward_p1 (B : Lo) (s : WShore) (c : WStorm) (plan : List Int) (k : Int) : List Prop := [AllP [] ∧ PureC Try.prog J0 59 (pInward_z0 s c plan) (Value.bool true)] ++ pInward_p0 B s c plan k
noncomputable def pInward_q1 (s : WShore) (c : WStorm) (plan : List Int) (k : Int) : ScriptT := pInward_q0 s c plan k ++ [(12, HintT.pure (Value.bool true) [])]
noncomputable def pInward_p2 (B : Lo) (s : WShore) (c : WStorm) (plan : List Int) (k : Int) : List Prop := [AllP [] ∧ PureC Try.prog J0 64 #[Value.agg (pInward_z3 s), .int .i64 k] (Value.bool true)] ++ pInward_p1 B s c plan k
noncomputable def pInward_q2 (s : WShore) (c : WStorm) (plan : List Int) (k : Int) : ScriptT := pInward_q1 s c plan k ++ [(17, HintT.pure (Value.bool true) [])]
theorem pInward_s0 (B : Lo) (s : WShore) (c : WStorm) (plan : List Int) (k : Int) : endT (srunT Try.prog (okFn Try.prog) J0 B 20 1 (entryC Try.prog 33 36 (([.agg (encShore s).toArray, .agg (encStorm c).toArray, slI plan, .int .i64 k]).map (pushT 0 4))) H00 1
 (pInward_q2 s c plan k ++ [(22, HintT.pure (Value.tuple #[.int .i64 (k + inwI (List.drop k.toNat (playL s plan (endE true s c))) 0), Value.bool true]) [])]) 0 [] []) [] = some (Value.tuple #[.int .i64 (k + inwI (List.drop k.toNat (playL s plan (endE true s c))) 0), .int .i64 0],
 [AllP [] ∧ PureC Try.prog J0 65 #[Value.agg (pInward_z1 s c plan), .int .i64 k] (Value.tuple #[.int .i64 (k + inwI (List.drop k.toNat (playL s plan (endE true s c))) 0), Value.bool true])] ++ pInward_p2 B s c plan k) := by kernel_rfl
theorem pInward_s1 (B : Lo) (s : WShore) (c : WStorm) (plan : List Int) (k : Int) : endT (srunT Try.prog (okFn Try.prog) J0 B 19 1 (entryC Try.prog 33 36 (([.agg (encShore s).toArray, .agg (encStorm c).toArray, slI plan, .int .i64 k]).map (pushT 0 4))) H00 1
 (pInward_q2 s c plan k ++ [(22, HintT.pure (Value.tuple #[.int .i64 (k + inwI (List.drop k.toNat (playL s plan (endE true s c))) 0), Value.bool false]) [])]) 0 [] []) [] = some (Value.tuple #[.int .i64 0, .int .i64 5],
 [AllP [] ∧ PureC Try.prog J0 65 #[Value.agg (pInward_z1 s c plan), .int .i64 k] (Value.tuple #[.int .i64 (k + inwI (List.drop k.toNat (playL s plan (endE true s c))) 0), Value.bool false])] ++ pInward_p2 B s c plan k) := by kernel_rfl
theorem pInward_s2 (B : Lo) (s : WShore) (c : WStorm) (plan : List Int) (k : Int) : endT (srunT Try.prog (okFn Try.prog) J0 B 12 1 (entryC Try.prog 33 36 (([.agg (encShore s).toArray, .agg (encStorm c).toArray, slI plan, .int .i64 k]).map (pushT 0 4))) H00 1
 (pInward_q1 s c plan k ++ [(17, HintT.pure (Value.bool false) [])]) 0 [] []) [] = some (Value.tuple #[.int .i64 0, .int .i64 2],
 [AllP [] ∧ PureC Try.prog J0 64 #[Value.agg (pInward_z3 s), .int .i64 k] (Value.bool false)] ++ pInward_p1 B s c plan k) := by kernel_rfl
theorem pInward_s3 (B : Lo) (s : WShore) (c : WStorm) (plan : List Int) (k : Int) : endT (srunT Try.prog (okFn Try.prog) J0 B 12 1 (entryC Try.prog 33 36 (([.agg (encShore s).toArray, .agg (encStorm c).toArray, slI plan, .int .i64 k]).map (pushT 0 4))) H00 1
 (pInward_q0 s c plan k ++ [(12, HintT.pure (Value.bool false) [])]) 0 [] []) [] = some (Value.tuple #[.int .i64 0, .int .i64 2],
 [AllP [] ∧ PureC Try.prog J0 59 (pInward_z0 s c plan) (Value.bool false)] ++ pInward_p0 B s c plan k) := by kernel_rfl
theorem pInward_s4 (B : Lo) (s : WShore) (c : WStorm) (plan : List Int) (k : Int) : endT (srunT Try.prog (okFn Try.prog) J0 B 12 1 (entryC Try.prog 33 36 (([.agg (encShore s).toArray, .agg (encStorm c).toArray, slI plan, .int .i64 k]).map (pushT 0 4))) H00 1
 (pInward_q0 s c plan k ++ [(12, HintT.pure (Value.bool false) [])]) 0 [] []) [] = some (Value.tuple #[.int .i64 0, .int .i64 2],
 [AllP [] ∧ PureC Try.prog J0 59 (pInward_z0 s c plan) (Value.bool false)] ++ pInward_p0 B s c plan k) := by kernel_rfl
theorem pInward_s5 (B : Lo) (s : WShore) (c : WStorm) (plan : List Int) (k : Int) : endT (srunT Try.prog (okFn Try.prog) J0 B 12 1 (entryC Try.prog 33 36 (([.agg (encShore s).toArray, .agg (encStorm c).toArray, slI plan, .int .i64 k]).map (pushT 0 4))) H00 1
 (pInward_q0 s c plan k ++ [(12, HintT.pure (Value.bool false) [])]) 0 [] []) [] = some (Value.tuple #[.int .i64 0, .int .i64 2],
 [AllP [] ∧ PureC Try.prog J0 59 (pInward_z0 s c plan) (Value.bool false)] ++ pInward_p0 B s c plan k) := by kernel_rfl
set_option maxHeartbeats 4000000 in
theorem pInward_e (s : WShore) (c : WStorm) (plan : List Int) (k : Int)  {B : Lo} (hJ : ∀ w, B.has w → J0 w) : EndsT Try.prog B (entryC Try.prog 33 36 (([.agg (encShore s).toArray, .agg (encStorm c).toArray, slI plan, .int .i64 k]).map (pushT 0 4))) (.tuple #[.int .i64 (if (shoreB s && stormB c) && planB s plan && inB k 0 (s.cells.length - 1) && decide (0 ≤ inwI ((playL s plan (endE true s c)).drop k.toNat) 0) then k + inwI ((playL s plan (endE true s c)).drop k.toNat) 0 else 0), .int .i64 (if (shoreB s && stormB c) && planB s plan && inB k 0 (s.cells.length - 1) then (if 0 ≤ inwI ((playL s plan (endE true s c)).drop k.toNat) 0 then 0 else 5) else 2)]) := by
 have hp0 : AllP (pInward_p0 B s c plan k) := by
  exact ⟨⟨trivial, pwithPlan (s) (c) (plan)⟩, ⟨⟨trivial, pinStorm (s) (c)⟩, trivial⟩⟩
 cases q0 : shoreB s with
 | true =>
   cases q1 : stormB c with
   | true =>
     cases q2 : planB s plan with
     | true =>
       have hp1 : AllP (pInward_p1 B s c plan k) := by
        exact ⟨⟨trivial, (by have t_ := pisBuilt (s) (c) (plan); rw [q0, q1, q2] at t_; exact t_)⟩, hp0⟩
       cases q3 : inB k 0 ((↑s.cells.length : Int) - 1) with
       | true =>
         have hp2 : AllP (pInward_p2 B s c plan k) := by
          have g1 := inB_iff.1 ‹inB k 0 _ = true›
          exact ⟨⟨trivial, (by have t_ := pisCell (s) (k); rw [q3] at t_; exact t_)⟩, hp1⟩
         cases q4 : decide (0 ≤ inwI (List.drop k.toNat (playL s plan (endE true s c))) 0) with
         | true =>
           have g1 := inB_iff.1 ‹inB k 0 _ = true›
           exact (GoE.endsT okF hJ mixed_ok GoE.start (pInward_s0 B s c plan k)
            ⟨⟨trivial, (by have t_ := pinward (s) (c) (plan) (k) (by with_reducible assumption) (by with_reducible assumption) (by with_reducible assumption) (by omega); rw [q4] at t_; exact t_)⟩, hp2⟩).cast (by (simp_all []; done))
         | false =>
           have g1 := inB_iff.1 ‹inB k 0 _ = true›
           exact (GoE.endsT okF hJ mixed_ok GoE.start (pInward_s1 B s c plan k)
            ⟨⟨trivial, (by have t_ := pinward (s) (c) (plan) (k) (by with_reducible assumption) (by with_reducible assumption) (by with_reducible assumption) (by omega); rw [q4] at t_; exact t_)⟩, hp2⟩).cast (by (simp_all []; done))
       | false =>
         exact (GoE.endsT okF hJ mixed_ok GoE.start (pInward_s2 B s c plan k)
          ⟨⟨trivial, (by have t_ := pisCell (s) (k); rw [q3] at t_; exact t_)⟩, hp1⟩).cast (by rfl)
     | false =>
       exact (GoE.endsT okF hJ mixed_ok GoE.start (pInward_s3 B s c plan k)
        ⟨⟨trivial, (by have t_ := pisBuilt (s) (c) (plan); rw [q0, q1, q2] at t_; exact t_)⟩, hp0⟩).cast (by rfl)
   | false =>
     exact (GoE.endsT okF hJ mixed_ok GoE.start (pInward_s4 B s c plan k)
      ⟨⟨trivial, (by have t_ := pisBuilt (s) (c) (plan); rw [q0, q1] at t_; exact t_)⟩, hp0⟩).cast (by rfl)
 | false =>
   exact (GoE.endsT okF hJ mixed_ok GoE.start (pInward_s5 B s c plan k)
    ⟨⟨trivial, (by have t_ := pisBuilt (s) (c) (plan); rw [q0] at t_; exact t_)⟩, hp0⟩).cast (by rfl)
theorem pInward (s : WShore) (c : WStorm) (plan : List Int) (k : Int)  : PureC Try.prog J0 33 #[.agg (encShore s).toArray, .agg (encStorm c).toArray, slI plan, .int .i64 k] (.tuple #[.int .i64 (if (shoreB s && stormB c) && planB s plan && inB k 0 (s.cells.length - 1) && decide (0 ≤ inwI ((playL s plan (endE true s c)).drop k.toNat) 0) then k + inwI ((playL s plan (endE true s c)).drop k.toNat) 0 else 0), .int .i64 (if (shoreB s && stormB c) && planB s plan && inB k 0 (s.cells.length - 1) then (if 0 ≤ inwI ((playL s plan (endE true s c)).drop k.toNat) 0 then 0 else 5) else 2)]) :=
 pureC_of (ts := [.agg (encShore s).toArray, .agg (encStorm c).toArray, slI plan, .int .i64 k]) J0_st (c0 := entryC Try.prog 33 36 (([.agg (encShore s).toArray, .agg (encStorm c).toArray, slI plan, .int .i64 k]).map (pushT 0 4))) (by kernel_rfl) (by kernel_rfl) fun B hJ => pInward_e s c plan k  hJ
end Go.Proofs.Ytiigkdhaofaijaa

namespace Go.Proofs.Ytiigkdhaofaijaa
open Go Go.CE Go.RowKit
set_option maxRecDepth 100000
end Go.Proofs.Ytiigkdhaofaijaa

