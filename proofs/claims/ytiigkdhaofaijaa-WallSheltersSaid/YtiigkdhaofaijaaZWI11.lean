/- Wall: the reference: what is as defined; ends; levels. -/
import Derived.Test.YtiigkdhaofaijaaZWI10
set_option linter.all false
namespace Go.Proofs.Ytiigkdhaofaijaa
open Go Go.CE Go.RowKit
set_option maxRecDepth 100000
def shoreT (s : WShore) : Bool := inB s.cells.length 1 7 && (decide (s.works.length ≤ 3) && (inB s.reef 0 20 && spanB s.llo s.lhi 0 1000))
theorem shoreR_eq {s : WShore} : (s.cells.all cellB && (s.works.all workB && shoreT s)) = shoreB s := by
 unfold shoreB shoreT cellsB worksB
 cases inB s.cells.length 1 7 <;> cases s.cells.all cellB <;> cases decide (s.works.length ≤ 3) <;> cases s.works.all workB <;> simp
def rShore0_v0 (s : WShore) (i : Int) : List Value := [pA 2 0, .int .i64 i]
def rShore0_o0 (s : WShore) (i : Int) : List Obj := [Obj.cells #[topV 1 (slT s.cells.length (rowL encWCell s.cells)), topV 1 (slT s.works.length (rowL encWWork s.works)), .int .i64 s.reef, .int .i64 s.llo, .int .i64 s.lhi] 27]
noncomputable def rShore0_t0 : List Item := ([.code [1, 0, 1, 0, 0], .inLoop [1, 0, 1, 0, 0], .inBlock 0, .code [1, 1]]).map (it (bodyOf Try.prog 19))
def rShore0_h0 (B : Lo) (c0 : CF) (s : WShore) (i : Int) : Prop := ∃ dJ : Nat → Value, (∀ t, Loose (dJ t)) ∧ GoE Try.prog B c0 H00 1 (headC 19 83 (([1, 3] : List Nat).zip (rShore0_v0 s i)) dJ rShore0_t0) (headH (rShore0_o0 s i)) (2 + (rShore0_o0 s i).length) []
def rShore0_v1 (s : WShore) (i : Int) : List Value := [pA 2 0, .int .i64 i]
def rShore0_o1 (s : WShore) (i : Int) : List Obj := [Obj.cells #[topV 1 (slT s.cells.length (rowL encWCell s.cells)), topV 1 (slT s.works.length (rowL encWWork s.works)), .int .i64 s.reef, .int .i64 s.llo, .int .i64 s.lhi] 27]
noncomputable def rShore0_t1 : List Item := ([.code [1, 1, 0, 1, 0, 0], .inLoop [1, 1, 0, 1, 0, 0], .inBlock 2, .code [1, 1, 1]]).map (it (bodyOf Try.prog 19))
def rShore0_h1 (B : Lo) (c0 : CF) (s : WShore) (i : Int) : Prop := ∃ dJ : Nat → Value, (∀ t, Loose (dJ t)) ∧ GoE Try.prog B c0 H00 1 (headC 19 83 (([1, 5] : List Nat).zip (rShore0_v1 s i)) dJ rShore0_t1) (headH (rShore0_o1 s i)) (2 + (rShore0_o1 s i).length) []
noncomputable def rShore0_p0 (B : Lo) (s : WShore) (i : Int) (dJ0 : Nat → Value) : List Prop := [i = (↑i.toNat : Int) ∧ Int.toNat i < List.length s.cells ∧ Array.extract (rowL encWCell s.cells) (Int.toNat i * TypeInfo.size Try.t59) (Int.toNat i * TypeInfo.size Try.t59 + TypeInfo.size Try.t59) = #[.int .i64 (WCell.ground (List.getD s.cells i.toNat default)), .int .i64 (WCell.dlo (List.getD s.cells i.toNat default)), .int .i64 (WCell.dhi (List.getD s.cells i.toNat default)), .int .i64 (WCell.floor (List.getD s.cells i.toNat default))], ltq i (↑s.cells.length : Int) = true] ++ ([] : List Prop)
noncomputable def rShore0_q0 (s : WShore) (i : Int) (dJ0 : Nat → Value) : ScriptT := [(4, hvT), (8, HintT.tidx i.toNat #[.int .i64 (WCell.ground (List.getD s.cells i.toNat default)), .int .i64 (WCell.dlo (List.getD s.cells i.toNat default)), .int .i64 (WCell.dhi (List.getD s.cells i.toNat default)), .int .i64 (WCell.floor (List.getD s.cells i.toNat default))])]
noncomputable def rShore0_p1 (B : Lo) (s : WShore) (i : Int) (dJ0 : Nat → Value) : List Prop := [AllP [] ∧ PureC Try.prog J0 56 #[.int .i64 (WCell.ground (List.getD s.cells i.toNat default)), .int .i64 (-5000), .int .i64 5000] (Value.bool true)] ++ rShore0_p0 B s i dJ0
noncomputable def rShore0_q1 (s : WShore) (i : Int) (dJ0 : Nat → Value) : ScriptT := rShore0_q0 s i dJ0 ++ [(14, HintT.pure (Value.bool true) [])]
noncomputable def rShore0_p2 (B : Lo) (s : WShore) (i : Int) (dJ0 : Nat → Value) : List Prop := [AllP [] ∧ PureC Try.prog J0 57 #[Value.agg #[.int .i64 (WCell.dlo (List.getD s.cells i.toNat default)), .int .i64 (WCell.dhi (List.getD s.cells i.toNat default))], .int .i64 0, .int .i64 5000] (Value.bool true)] ++ rShore0_p1 B s i dJ0
noncomputable def rShore0_q2 (s : WShore) (i : Int) (dJ0 : Nat → Value) : ScriptT := rShore0_q1 s i dJ0 ++ [(19, HintT.pure (Value.bool true) [])]
theorem rShore0_s0 (B : Lo) (s : WShore) (i : Int) (dJ0 : Nat → Value) : landM (srunT Try.prog (okFn Try.prog) J0 B 16 1 (headC 19 83 (([1, 3] : List Nat).zip (rShore0_v0 s i)) dJ0 rShore0_t0) (headH (rShore0_o0 s i)) (2 + (rShore0_o0 s i).length)
 (rShore0_q2 s i dJ0 ++ [(25, HintT.pure (Value.bool true) []), (29, hvI (i + 1))]) 0 [] []) [1, 3] [(2, KS.auto)] [] = some ⟨19, 83, rShore0_t0, [], .run, none, rShore0_v0 s (i + 1), rShore0_o0 s (i + 1),
 [wq (i + 1) = i + 1, AllP [] ∧ PureC Try.prog J0 56 #[.int .i64 (WCell.floor (List.getD s.cells i.toNat default)), .int .i64 (-1), .int .i64 5000] (Value.bool true)] ++ rShore0_p2 B s i dJ0⟩ := by kernel_rfl
theorem rShore0_s1 (B : Lo) (s : WShore) (i : Int) (dJ0 : Nat → Value) : endT (srunT Try.prog (okFn Try.prog) J0 B 16 1 (headC 19 83 (([1, 3] : List Nat).zip (rShore0_v0 s i)) dJ0 rShore0_t0) (headH (rShore0_o0 s i)) (2 + (rShore0_o0 s i).length)
 (rShore0_q2 s i dJ0 ++ [(25, HintT.pure (Value.bool false) [])]) 0 [] []) [] = some (Value.bool false,
 [AllP [] ∧ PureC Try.prog J0 56 #[.int .i64 (WCell.floor (List.getD s.cells i.toNat default)), .int .i64 (-1), .int .i64 5000] (Value.bool false)] ++ rShore0_p2 B s i dJ0) := by kernel_rfl
theorem rShore0_s2 (B : Lo) (s : WShore) (i : Int) (dJ0 : Nat → Value) : endT (srunT Try.prog (okFn Try.prog) J0 B 16 1 (headC 19 83 (([1, 3] : List Nat).zip (rShore0_v0 s i)) dJ0 rShore0_t0) (headH (rShore0_o0 s i)) (2 + (rShore0_o0 s i).length)
 (rShore0_q1 s i dJ0 ++ [(19, HintT.pure (Value.bool false) [])]) 0 [] []) [] = some (Value.bool false,
 [AllP [] ∧ PureC Try.prog J0 57 #[Value.agg #[.int .i64 (WCell.dlo (List.getD s.cells i.toNat default)), .int .i64 (WCell.dhi (List.getD s.cells i.toNat default))], .int .i64 0, .int .i64 5000] (Value.bool false)] ++ rShore0_p1 B s i dJ0) := by kernel_rfl
theorem rShore0_s3 (B : Lo) (s : WShore) (i : Int) (dJ0 : Nat → Value) : endT (srunT Try.prog (okFn Try.prog) J0 B 16 1 (headC 19 83 (([1, 3] : List Nat).zip (rShore0_v0 s i)) dJ0 rShore0_t0) (headH (rShore0_o0 s i)) (2 + (rShore0_o0 s i).length)
 (rShore0_q0 s i dJ0 ++ [(14, HintT.pure (Value.bool false) [])]) 0 [] []) [] = some (Value.bool false,
 [AllP [] ∧ PureC Try.prog J0 56 #[.int .i64 (WCell.ground (List.getD s.cells i.toNat default)), .int .i64 (-5000), .int .i64 5000] (Value.bool false)] ++ rShore0_p0 B s i dJ0) := by kernel_rfl
theorem rShore0_s4 (B : Lo) (s : WShore) (i : Int) (dJ0 : Nat → Value) : landM (srunT Try.prog (okFn Try.prog) J0 B 10 1 (headC 19 83 (([1, 3] : List Nat).zip (rShore0_v0 s i)) dJ0 rShore0_t0) (headH (rShore0_o0 s i)) (2 + (rShore0_o0 s i).length)
 [(4, hvF)] 0 [] []) [1, 5] [(2, KS.auto)] [] = some ⟨19, 83, rShore0_t1, [], .run, none, rShore0_v1 s (0), rShore0_o1 s (0),
 [ltq i (↑s.cells.length : Int) = false]⟩ := by kernel_rfl
noncomputable def rShore0_p3 (B : Lo) (s : WShore) (i : Int) (dJ0 : Nat → Value) : List Prop := [i = (↑i.toNat : Int) ∧ Int.toNat i < List.length s.works ∧ Array.extract (rowL encWWork s.works) (Int.toNat i * TypeInfo.size Try.t85) (Int.toNat i * TypeInfo.size Try.t85 + TypeInfo.size Try.t85) = #[.int .i64 (WWork.rise (List.getD s.works i.toNat default)), .int .i64 (WWork.calm (List.getD s.works i.toNat default)), .int .i64 (WWork.cost (List.getD s.works i.toNat default))], ltq i (↑s.works.length : Int) = true] ++ ([] : List Prop)
noncomputable def rShore0_q3 (s : WShore) (i : Int) (dJ0 : Nat → Value) : ScriptT := [(4, hvT), (8, HintT.tidx i.toNat #[.int .i64 (WWork.rise (List.getD s.works i.toNat default)), .int .i64 (WWork.calm (List.getD s.works i.toNat default)), .int .i64 (WWork.cost (List.getD s.works i.toNat default))])]
noncomputable def rShore0_p4 (B : Lo) (s : WShore) (i : Int) (dJ0 : Nat → Value) : List Prop := [AllP [] ∧ PureC Try.prog J0 56 #[.int .i64 (WWork.rise (List.getD s.works i.toNat default)), .int .i64 0, .int .i64 5000] (Value.bool true)] ++ rShore0_p3 B s i dJ0
noncomputable def rShore0_q4 (s : WShore) (i : Int) (dJ0 : Nat → Value) : ScriptT := rShore0_q3 s i dJ0 ++ [(14, HintT.pure (Value.bool true) [])]
noncomputable def rShore0_p5 (B : Lo) (s : WShore) (i : Int) (dJ0 : Nat → Value) : List Prop := [AllP [] ∧ PureC Try.prog J0 56 #[.int .i64 (WWork.calm (List.getD s.works i.toNat default)), .int .i64 0, .int .i64 5000] (Value.bool true)] ++ rShore0_p4 B s i dJ0
noncomputable def rShore0_q5 (s : WShore) (i : Int) (dJ0 : Nat → Value) : ScriptT := rShore0_q4 s i dJ0 ++ [(19, HintT.pure (Value.bool true) [])]
theorem rShore0_s5 (B : Lo) (s : WShore) (i : Int) (dJ0 : Nat → Value) : landM (srunT Try.prog (okFn Try.prog) J0 B 16 1 (headC 19 83 (([1, 5] : List Nat).zip (rShore0_v1 s i)) dJ0 rShore0_t1) (headH (rShore0_o1 s i)) (2 + (rShore0_o1 s i).length)
 (rShore0_q5 s i dJ0 ++ [(25, HintT.pure (Value.bool true) []), (29, hvI (i + 1))]) 0 [] []) [1, 5] [(2, KS.auto)] [] = some ⟨19, 83, rShore0_t1, [], .run, none, rShore0_v1 s (i + 1), rShore0_o1 s (i + 1),
 [wq (i + 1) = i + 1, AllP [] ∧ PureC Try.prog J0 56 #[.int .i64 (WWork.cost (List.getD s.works i.toNat default)), .int .i64 0, .int .i64 1000000] (Value.bool true)] ++ rShore0_p5 B s i dJ0⟩ := by kernel_rfl
theorem rShore0_s6 (B : Lo) (s : WShore) (i : Int) (dJ0 : Nat → Value) : endT (srunT Try.prog (okFn Try.prog) J0 B 16 1 (headC 19 83 (([1, 5] : List Nat).zip (rShore0_v1 s i)) dJ0 rShore0_t1) (headH (rShore0_o1 s i)) (2 + (rShore0_o1 s i).length)
 (rShore0_q5 s i dJ0 ++ [(25, HintT.pure (Value.bool false) [])]) 0 [] []) [] = some (Value.bool false,
 [AllP [] ∧ PureC Try.prog J0 56 #[.int .i64 (WWork.cost (List.getD s.works i.toNat default)), .int .i64 0, .int .i64 1000000] (Value.bool false)] ++ rShore0_p5 B s i dJ0) := by kernel_rfl
theorem rShore0_s7 (B : Lo) (s : WShore) (i : Int) (dJ0 : Nat → Value) : endT (srunT Try.prog (okFn Try.prog) J0 B 16 1 (headC 19 83 (([1, 5] : List Nat).zip (rShore0_v1 s i)) dJ0 rShore0_t1) (headH (rShore0_o1 s i)) (2 + (rShore0_o1 s i).length)
 (rShore0_q4 s i dJ0 ++ [(19, HintT.pure (Value.bool false) [])]) 0 [] []) [] = some (Value.bool false,
 [AllP [] ∧ PureC Try.prog J0 56 #[.int .i64 (WWork.calm (List.getD s.works i.toNat default)), .int .i64 0, .int .i64 5000] (Value.bool false)] ++ rShore0_p4 B s i dJ0) := by kernel_rfl
theorem rShore0_s8 (B : Lo) (s : WShore) (i : Int) (dJ0 : Nat → Value) : endT (srunT Try.prog (okFn Try.prog) J0 B 16 1 (headC 19 83 (([1, 5] : List Nat).zip (rShore0_v1 s i)) dJ0 rShore0_t1) (headH (rShore0_o1 s i)) (2 + (rShore0_o1 s i).length)
 (rShore0_q3 s i dJ0 ++ [(14, HintT.pure (Value.bool false) [])]) 0 [] []) [] = some (Value.bool false,
 [AllP [] ∧ PureC Try.prog J0 56 #[.int .i64 (WWork.rise (List.getD s.works i.toNat default)), .int .i64 0, .int .i64 5000] (Value.bool false)] ++ rShore0_p3 B s i dJ0) := by kernel_rfl
noncomputable def rShore0_p6 (B : Lo) (s : WShore) (i : Int) (dJ0 : Nat → Value) : List Prop := [ltq i (↑s.works.length : Int) = false] ++ ([] : List Prop)
noncomputable def rShore0_q6 (s : WShore) (i : Int) (dJ0 : Nat → Value) : ScriptT := [(4, hvF)]
noncomputable def rShore0_p7 (B : Lo) (s : WShore) (i : Int) (dJ0 : Nat → Value) : List Prop := [AllP [] ∧ PureC Try.prog J0 56 #[.int .i64 (↑s.cells.length : Int), .int .i64 1, .int .i64 7] (Value.bool true)] ++ rShore0_p6 B s i dJ0
noncomputable def rShore0_q7 (s : WShore) (i : Int) (dJ0 : Nat → Value) : ScriptT := rShore0_q6 s i dJ0 ++ [(8, HintT.pure (Value.bool true) [])]
noncomputable def rShore0_p8 (B : Lo) (s : WShore) (i : Int) (dJ0 : Nat → Value) : List Prop := [(!ltq 3 (↑s.works.length : Int)) = true] ++ rShore0_p7 B s i dJ0
noncomputable def rShore0_q8 (s : WShore) (i : Int) (dJ0 : Nat → Value) : ScriptT := rShore0_q7 s i dJ0 ++ [(13, hvT)]
noncomputable def rShore0_p9 (B : Lo) (s : WShore) (i : Int) (dJ0 : Nat → Value) : List Prop := [AllP [] ∧ PureC Try.prog J0 56 #[.int .i64 s.reef, .int .i64 0, .int .i64 20] (Value.bool true)] ++ rShore0_p8 B s i dJ0
noncomputable def rShore0_q9 (s : WShore) (i : Int) (dJ0 : Nat → Value) : ScriptT := rShore0_q8 s i dJ0 ++ [(18, HintT.pure (Value.bool true) [])]
theorem rShore0_s9 (B : Lo) (s : WShore) (i : Int) (dJ0 : Nat → Value) : endT (srunT Try.prog (okFn Try.prog) J0 B 9 1 (headC 19 83 (([1, 5] : List Nat).zip (rShore0_v1 s i)) dJ0 rShore0_t1) (headH (rShore0_o1 s i)) (2 + (rShore0_o1 s i).length)
 (rShore0_q9 s i dJ0 ++ [(23, HintT.pure (Value.bool true) [])]) 0 [] []) [] = some (Value.bool true,
 [AllP [] ∧ PureC Try.prog J0 57 #[Value.agg #[.int .i64 s.llo, .int .i64 s.lhi], .int .i64 0, .int .i64 1000] (Value.bool true)] ++ rShore0_p9 B s i dJ0) := by kernel_rfl
theorem rShore0_s10 (B : Lo) (s : WShore) (i : Int) (dJ0 : Nat → Value) : endT (srunT Try.prog (okFn Try.prog) J0 B 9 1 (headC 19 83 (([1, 5] : List Nat).zip (rShore0_v1 s i)) dJ0 rShore0_t1) (headH (rShore0_o1 s i)) (2 + (rShore0_o1 s i).length)
 (rShore0_q9 s i dJ0 ++ [(23, HintT.pure (Value.bool false) [])]) 0 [] []) [] = some (Value.bool false,
 [AllP [] ∧ PureC Try.prog J0 57 #[Value.agg #[.int .i64 s.llo, .int .i64 s.lhi], .int .i64 0, .int .i64 1000] (Value.bool false)] ++ rShore0_p9 B s i dJ0) := by kernel_rfl
theorem rShore0_s11 (B : Lo) (s : WShore) (i : Int) (dJ0 : Nat → Value) : endT (srunT Try.prog (okFn Try.prog) J0 B 9 1 (headC 19 83 (([1, 5] : List Nat).zip (rShore0_v1 s i)) dJ0 rShore0_t1) (headH (rShore0_o1 s i)) (2 + (rShore0_o1 s i).length)
 (rShore0_q8 s i dJ0 ++ [(18, HintT.pure (Value.bool false) [])]) 0 [] []) [] = some (Value.bool false,
 [AllP [] ∧ PureC Try.prog J0 56 #[.int .i64 s.reef, .int .i64 0, .int .i64 20] (Value.bool false)] ++ rShore0_p8 B s i dJ0) := by kernel_rfl
theorem rShore0_s12 (B : Lo) (s : WShore) (i : Int) (dJ0 : Nat → Value) : endT (srunT Try.prog (okFn Try.prog) J0 B 9 1 (headC 19 83 (([1, 5] : List Nat).zip (rShore0_v1 s i)) dJ0 rShore0_t1) (headH (rShore0_o1 s i)) (2 + (rShore0_o1 s i).length)
 (rShore0_q7 s i dJ0 ++ [(13, hvF)]) 0 [] []) [] = some (Value.bool false,
 [(!ltq 3 (↑s.works.length : Int)) = false] ++ rShore0_p7 B s i dJ0) := by kernel_rfl
theorem rShore0_s13 (B : Lo) (s : WShore) (i : Int) (dJ0 : Nat → Value) : endT (srunT Try.prog (okFn Try.prog) J0 B 9 1 (headC 19 83 (([1, 5] : List Nat).zip (rShore0_v1 s i)) dJ0 rShore0_t1) (headH (rShore0_o1 s i)) (2 + (rShore0_o1 s i).length)
 (rShore0_q6 s i dJ0 ++ [(8, HintT.pure (Value.bool false) [])]) 0 [] []) [] = some (Value.bool false,
 [AllP [] ∧ PureC Try.prog J0 56 #[.int .i64 (↑s.cells.length : Int), .int .i64 1, .int .i64 7] (Value.bool false)] ++ rShore0_p6 B s i dJ0) := by kernel_rfl
theorem rShore0_s14 (B : Lo) (s : WShore) : landM (srunT Try.prog (okFn Try.prog) J0 B 7 1 (entryC Try.prog 19 83 (([.agg (encShore s).toArray]).map (pushT 0 4))) H00 1
 [] 0 [] []) [1, 3] [(1, KS.auto)] [] = some ⟨19, 83, rShore0_t0, [], .run, none, rShore0_v0 s (0), rShore0_o0 s (0),
 []⟩ := by kernel_rfl
set_option maxHeartbeats 4000000 in
theorem rShore0_ls (s : WShore)  (hfacts : s.cells.length ≤ 9223372036854775807 ∧ s.works.length ≤ 9223372036854775807) {B : Lo} (hJ : ∀ w, B.has w → J0 w) {c0 : CF} : ∀ m : Nat, (∀ (i : Int), (s.cells.length - i.toNat) + s.works.length + 9 = m → ∀ (h0 : 0 ≤ i), rShore0_h0 B c0 s i → EndsT Try.prog B c0 (.bool ((s.cells.drop i.toNat).all cellB && (s.works.all workB && shoreT s)))) ∧ (∀ (i : Int), (s.works.length - i.toNat) + 1 = m → ∀ (h0 : 0 ≤ i), rShore0_h1 B c0 s i → EndsT Try.prog B c0 (.bool ((s.works.drop i.toNat).all workB && shoreT s))) := by
 intro m0
 induction m0 using Nat.strongRecOn with
 | _ m0 ih0 =>
   refine ⟨?_, ?_⟩
   ·intro i hm0 h0 ⟨dJ0, hdJ0, hg0⟩
    by_cases q0 : (i : Int) < ((↑s.cells.length : Int))
    ·
     have hp0 : AllP (rShore0_p0 B s i dJ0) := by
      have s2 := drop_all2 (l := s.cells) (p := cellB) h0 q0
      exact ⟨⟨by omega, by omega, (rowL_extract (z := 4) (fun _ => rfl) (by omega))⟩, ⟨(ltq_t q0), trivial⟩⟩
     cases q1 : inB (WCell.ground (List.getD s.cells i.toNat default)) (-5000) 5000 with
     | true =>
       have hp1 : AllP (rShore0_p1 B s i dJ0) := by
        have s2 := drop_all2 (l := s.cells) (p := cellB) h0 q0
        exact ⟨⟨trivial, (by have t_ := rin (WCell.ground (List.getD s.cells i.toNat default)) (-5000) (5000); rw [q1] at t_; exact t_)⟩, hp0⟩
       cases q2 : spanB (WCell.dlo (List.getD s.cells i.toNat default)) (WCell.dhi (List.getD s.cells i.toNat default)) 0 5000 with
       | true =>
         have hp2 : AllP (rShore0_p2 B s i dJ0) := by
          have s2 := drop_all2 (l := s.cells) (p := cellB) h0 q0
          exact ⟨⟨trivial, (by have t_ := rSpan (WCell.dlo (List.getD s.cells i.toNat default)) (WCell.dhi (List.getD s.cells i.toNat default)) (0) (5000); rw [q2] at t_; exact t_)⟩, hp1⟩
         cases q3 : inB (WCell.floor (List.getD s.cells i.toNat default)) (-1) 5000 with
         | true =>
           have s2 := drop_all2 (l := s.cells) (p := cellB) h0 q0
           exact ((ih0 _ (by omega)).1 (i + 1) rfl (by omega)
            (hg0.landM okF hJ mixed_ok (rShore0_s0 B s i dJ0)
            ⟨(wq_in (by omega) (by omega)), ⟨⟨trivial, (by have t_ := rin (WCell.floor (List.getD s.cells i.toNat default)) (-1) (5000); rw [q3] at t_; exact t_)⟩, hp2⟩⟩ (by kernel_rfl) (by kernel_rfl))).cast (by (rw [s2]; simp_all [cellB]; done))
         | false =>
           have s2 := drop_all2 (l := s.cells) (p := cellB) h0 q0
           exact (GoE.endsT okF hJ mixed_ok hg0 (rShore0_s1 B s i dJ0)
            ⟨⟨trivial, (by have t_ := rin (WCell.floor (List.getD s.cells i.toNat default)) (-1) (5000); rw [q3] at t_; exact t_)⟩, hp2⟩).cast (by (rw [s2]; simp_all [cellB]; done))
       | false =>
         have s2 := drop_all2 (l := s.cells) (p := cellB) h0 q0
         exact (GoE.endsT okF hJ mixed_ok hg0 (rShore0_s2 B s i dJ0)
          ⟨⟨trivial, (by have t_ := rSpan (WCell.dlo (List.getD s.cells i.toNat default)) (WCell.dhi (List.getD s.cells i.toNat default)) (0) (5000); rw [q2] at t_; exact t_)⟩, hp1⟩).cast (by (rw [s2]; simp_all [cellB]; done))
     | false =>
       have s2 := drop_all2 (l := s.cells) (p := cellB) h0 q0
       exact (GoE.endsT okF hJ mixed_ok hg0 (rShore0_s3 B s i dJ0)
        ⟨⟨trivial, (by have t_ := rin (WCell.ground (List.getD s.cells i.toNat default)) (-5000) (5000); rw [q1] at t_; exact t_)⟩, hp0⟩).cast (by (rw [s2]; simp_all [cellB]; done))
    ·
     have s2 := drop_nil2 (l := s.cells) (p := cellB) (i := i) (by omega)
     exact ((ih0 _ (by omega)).2 (0) rfl (by omega)
      (hg0.landM okF hJ mixed_ok (rShore0_s4 B s i dJ0)
      ⟨(ltq_f (Int.not_lt.1 q0)), trivial⟩ (by kernel_rfl) (by kernel_rfl))).cast (by (rw [s2]; simp [cellB, *]; done))
   ·intro i hm0 h0 ⟨dJ0, hdJ0, hg0⟩
    by_cases q0 : (i : Int) < ((↑s.works.length : Int))
    ·
     have hp3 : AllP (rShore0_p3 B s i dJ0) := by
      have s2 := drop_all2 (l := s.works) (p := workB) h0 q0
      exact ⟨⟨by omega, by omega, (rowL_extract (z := 3) (fun _ => rfl) (by omega))⟩, ⟨(ltq_t q0), trivial⟩⟩
     cases q1 : inB (WWork.rise (List.getD s.works i.toNat default)) 0 5000 with
     | true =>
       have hp4 : AllP (rShore0_p4 B s i dJ0) := by
        have s2 := drop_all2 (l := s.works) (p := workB) h0 q0
        exact ⟨⟨trivial, (by have t_ := rin (WWork.rise (List.getD s.works i.toNat default)) (0) (5000); rw [q1] at t_; exact t_)⟩, hp3⟩
       cases q2 : inB (WWork.calm (List.getD s.works i.toNat default)) 0 5000 with
       | true =>
         have hp5 : AllP (rShore0_p5 B s i dJ0) := by
          have s2 := drop_all2 (l := s.works) (p := workB) h0 q0
          exact ⟨⟨trivial, (by have t_ := rin (WWork.calm (List.getD s.works i.toNat default)) (0) (5000); rw [q2] at t_; exact t_)⟩, hp4⟩
         cases q3 : inB (WWork.cost (List.getD s.works i.toNat default)) 0 1000000 with
         | true =>
           have s2 := drop_all2 (l := s.works) (p := workB) h0 q0
           exact ((ih0 _ (by omega)).2 (i + 1) rfl (by omega)
            (hg0.landM okF hJ mixed_ok (rShore0_s5 B s i dJ0)
            ⟨(wq_in (by omega) (by omega)), ⟨⟨trivial, (by have t_ := rin (WWork.cost (List.getD s.works i.toNat default)) (0) (1000000); rw [q3] at t_; exact t_)⟩, hp5⟩⟩ (by kernel_rfl) (by kernel_rfl))).cast (by (rw [s2]; simp_all [workB]; done))
         | false =>
           have s2 := drop_all2 (l := s.works) (p := workB) h0 q0
           exact (GoE.endsT okF hJ mixed_ok hg0 (rShore0_s6 B s i dJ0)
            ⟨⟨trivial, (by have t_ := rin (WWork.cost (List.getD s.works i.toNat default)) (0) (1000000); rw [q3] at t_; exact t_)⟩, hp5⟩).cast (by (rw [s2]; simp_all [workB]; done))
       | false =>
         have s2 := drop_all2 (l := s.works) (p := workB) h0 q0
         exact (GoE.endsT okF hJ mixed_ok hg0 (rShore0_s7 B s i dJ0)
          ⟨⟨trivial, (by have t_ := rin (WWork.calm (List.getD s.works i.toNat default)) (0) (5000); rw [q2] at t_; exact t_)⟩, hp4⟩).cast (by (rw [s2]; simp_all [workB]; done))
     | false =>
       have s2 := drop_all2 (l := s.works) (p := workB) h0 q0
       exact (GoE.endsT okF hJ mixed_ok hg0 (rShore0_s8 B s i dJ0)
        ⟨⟨trivial, (by have t_ := rin (WWork.rise (List.getD s.works i.toNat default)) (0) (5000); rw [q1] at t_; exact t_)⟩, hp3⟩).cast (by (rw [s2]; simp_all [workB]; done))
    ·
     have hp6 : AllP (rShore0_p6 B s i dJ0) := by
      exact ⟨(ltq_f (Int.not_lt.1 q0)), trivial⟩
     cases q1 : inB (↑s.cells.length : Int) 1 7 with
     | true =>
       have hp7 : AllP (rShore0_p7 B s i dJ0) := by
        have s2 := drop_nil2 (l := s.works) (p := workB) (i := i) (by omega)
        exact ⟨⟨trivial, (by have t_ := rin ((↑s.cells.length : Int)) (1) (7); rw [q1] at t_; exact t_)⟩, hp6⟩
       by_cases q2 : ((↑s.works.length : Int) : Int) ≤ (3)
       ·
        have hp8 : AllP (rShore0_p8 B s i dJ0) := by
         exact ⟨(nltq_t q2), hp7⟩
        cases q3 : inB s.reef 0 20 with
        | true =>
          have hp9 : AllP (rShore0_p9 B s i dJ0) := by
           have s2 := drop_nil2 (l := s.works) (p := workB) (i := i) (by omega)
           exact ⟨⟨trivial, (by have t_ := rin s.reef (0) (20); rw [q3] at t_; exact t_)⟩, hp8⟩
          cases q4 : spanB s.llo s.lhi 0 1000 with
          | true =>
            have s2 := drop_nil2 (l := s.works) (p := workB) (i := i) (by omega)
            exact (GoE.endsT okF hJ mixed_ok hg0 (rShore0_s9 B s i dJ0)
             ⟨⟨trivial, (by have t_ := rSpan s.llo s.lhi (0) (1000); rw [q4] at t_; exact t_)⟩, hp9⟩).cast (by (rw [s2]; simp_all [shoreT]; omega))
          | false =>
            have s2 := drop_nil2 (l := s.works) (p := workB) (i := i) (by omega)
            exact (GoE.endsT okF hJ mixed_ok hg0 (rShore0_s10 B s i dJ0)
             ⟨⟨trivial, (by have t_ := rSpan s.llo s.lhi (0) (1000); rw [q4] at t_; exact t_)⟩, hp9⟩).cast (by (rw [s2]; simp [shoreT, *]; done))
        | false =>
          have s2 := drop_nil2 (l := s.works) (p := workB) (i := i) (by omega)
          exact (GoE.endsT okF hJ mixed_ok hg0 (rShore0_s11 B s i dJ0)
           ⟨⟨trivial, (by have t_ := rin s.reef (0) (20); rw [q3] at t_; exact t_)⟩, hp8⟩).cast (by (rw [s2]; simp [shoreT, *]; done))
       ·
        have s2 := drop_nil2 (l := s.works) (p := workB) (i := i) (by omega)
        exact (GoE.endsT okF hJ mixed_ok hg0 (rShore0_s12 B s i dJ0)
         ⟨(nltq_f (Int.not_le.1 q2)), hp7⟩).cast (by (rw [s2]; simp_all [shoreT]; omega))
     | false =>
       have s2 := drop_nil2 (l := s.works) (p := workB) (i := i) (by omega)
       exact (GoE.endsT okF hJ mixed_ok hg0 (rShore0_s13 B s i dJ0)
        ⟨⟨trivial, (by have t_ := rin ((↑s.cells.length : Int)) (1) (7); rw [q1] at t_; exact t_)⟩, hp6⟩).cast (by (rw [s2]; simp [shoreT, *]; done))
set_option maxHeartbeats 4000000 in
theorem rShore0_e (s : WShore)  (hfacts : s.cells.length ≤ 9223372036854775807 ∧ s.works.length ≤ 9223372036854775807) {B : Lo} (hJ : ∀ w, B.has w → J0 w) : EndsT Try.prog B (entryC Try.prog 19 83 (([.agg (encShore s).toArray]).map (pushT 0 4))) (.bool (s.cells.all cellB && (s.works.all workB && shoreT s))) := by
 exact ((rShore0_ls s hfacts hJ _).1 (0) rfl (by omega)
  (GoE.start.landM okF hJ mixed_ok (rShore0_s14 B s)
  trivial (by kernel_rfl) (by kernel_rfl))).cast (by rfl)
theorem rShore0 (s : WShore)  : PureC Try.prog J0 19 #[.agg (encShore s).toArray] (.bool (s.cells.all cellB && (s.works.all workB && shoreT s))) :=
 pureC_ofF (ts := [.agg (encShore s).toArray]) (s.cells.length ≤ 9223372036854775807 ∧ s.works.length ≤ 9223372036854775807) (fun _ _ ht => ⟨ht.ln2 (i := 0) (j := 0) rfl rfl, ht.ln2 (i := 0) (j := 1) rfl rfl⟩) J0_st (c0 := entryC Try.prog 19 83 (([.agg (encShore s).toArray]).map (pushT 0 4))) (by kernel_rfl) (by kernel_rfl) fun hfacts B hJ => rShore0_e s  hfacts hJ
theorem rShore (s : WShore) : PureC Try.prog J0 19 #[.agg (encShore s).toArray] (.bool (shoreB s)) := by
 have h := rShore0 s; rw [shoreR_eq] at h; exact h
noncomputable def rStorm_p0 (B : Lo) (c : WStorm) : List Prop := [AllP [] ∧ PureC Try.prog J0 57 #[Value.agg #[.int .i64 c.wlo, .int .i64 c.whi], .int .i64 0, .int .i64 1000] (Value.bool true)] ++ ([] : List Prop)
noncomputable def rStorm_q0 (c : WStorm) : ScriptT := [(4, HintT.pure (Value.bool true) [])]
noncomputable def rStorm_p1 (B : Lo) (c : WStorm) : List Prop := [AllP [] ∧ PureC Try.prog J0 57 #[Value.agg #[.int .i64 c.flo, .int .i64 c.fhi], .int .i64 0, .int .i64 10000] (Value.bool true)] ++ rStorm_p0 B c
noncomputable def rStorm_q1 (c : WStorm) : ScriptT := rStorm_q0 c ++ [(8, HintT.pure (Value.bool true) [])]
theorem rStorm_s0 (B : Lo) (c : WStorm) : endT (srunT Try.prog (okFn Try.prog) J0 B 6 1 (entryC Try.prog 20 16 (([.agg (encStorm c).toArray]).map (pushT 0 4))) H00 1
 (rStorm_q1 c ++ [(13, HintT.pure (Value.bool true) [])]) 0 [] []) [] = some (Value.bool true,
 [AllP [] ∧ PureC Try.prog J0 57 #[Value.agg #[.int .i64 c.tlo, .int .i64 c.thi], .int .i64 (-5000), .int .i64 5000] (Value.bool true)] ++ rStorm_p1 B c) := by kernel_rfl
theorem rStorm_s1 (B : Lo) (c : WStorm) : endT (srunT Try.prog (okFn Try.prog) J0 B 6 1 (entryC Try.prog 20 16 (([.agg (encStorm c).toArray]).map (pushT 0 4))) H00 1
 (rStorm_q1 c ++ [(13, HintT.pure (Value.bool false) [])]) 0 [] []) [] = some (Value.bool false,
 [AllP [] ∧ PureC Try.prog J0 57 #[Value.agg #[.int .i64 c.tlo, .int .i64 c.thi], .int .i64 (-5000), .int .i64 5000] (Value.bool false)] ++ rStorm_p1 B c) := by kernel_rfl
theorem rStorm_s2 (B : Lo) (c : WStorm) : endT (srunT Try.prog (okFn Try.prog) J0 B 6 1 (entryC Try.prog 20 16 (([.agg (encStorm c).toArray]).map (pushT 0 4))) H00 1
 (rStorm_q0 c ++ [(8, HintT.pure (Value.bool false) [])]) 0 [] []) [] = some (Value.bool false,
 [AllP [] ∧ PureC Try.prog J0 57 #[Value.agg #[.int .i64 c.flo, .int .i64 c.fhi], .int .i64 0, .int .i64 10000] (Value.bool false)] ++ rStorm_p0 B c) := by kernel_rfl
theorem rStorm_s3 (B : Lo) (c : WStorm) : endT (srunT Try.prog (okFn Try.prog) J0 B 6 1 (entryC Try.prog 20 16 (([.agg (encStorm c).toArray]).map (pushT 0 4))) H00 1
 [(4, HintT.pure (Value.bool false) [])] 0 [] []) [] = some (Value.bool false,
 [AllP [] ∧ PureC Try.prog J0 57 #[Value.agg #[.int .i64 c.wlo, .int .i64 c.whi], .int .i64 0, .int .i64 1000] (Value.bool false)]) := by kernel_rfl
set_option maxHeartbeats 4000000 in
theorem rStorm_e (c : WStorm)  {B : Lo} (hJ : ∀ w, B.has w → J0 w) : EndsT Try.prog B (entryC Try.prog 20 16 (([.agg (encStorm c).toArray]).map (pushT 0 4))) (.bool (stormB c)) := by
 cases q0 : spanB c.wlo c.whi 0 1000 with
 | true =>
   have hp0 : AllP (rStorm_p0 B c) := by
    exact ⟨⟨trivial, (by have t_ := rSpan c.wlo c.whi (0) (1000); rw [q0] at t_; exact t_)⟩, trivial⟩
   cases q1 : spanB c.flo c.fhi 0 10000 with
   | true =>
     have hp1 : AllP (rStorm_p1 B c) := by
      exact ⟨⟨trivial, (by have t_ := rSpan c.flo c.fhi (0) (10000); rw [q1] at t_; exact t_)⟩, hp0⟩
     cases q2 : spanB c.tlo c.thi (-5000) 5000 with
     | true =>
       exact (GoE.endsT okF hJ mixed_ok GoE.start (rStorm_s0 B c)
        ⟨⟨trivial, (by have t_ := rSpan c.tlo c.thi (-5000) (5000); rw [q2] at t_; exact t_)⟩, hp1⟩).cast (by (simp [stormB, *]; done))
     | false =>
       exact (GoE.endsT okF hJ mixed_ok GoE.start (rStorm_s1 B c)
        ⟨⟨trivial, (by have t_ := rSpan c.tlo c.thi (-5000) (5000); rw [q2] at t_; exact t_)⟩, hp1⟩).cast (by (simp [stormB, *]; done))
   | false =>
     exact (GoE.endsT okF hJ mixed_ok GoE.start (rStorm_s2 B c)
      ⟨⟨trivial, (by have t_ := rSpan c.flo c.fhi (0) (10000); rw [q1] at t_; exact t_)⟩, hp0⟩).cast (by (simp [stormB, *]; done))
 | false =>
   exact (GoE.endsT okF hJ mixed_ok GoE.start (rStorm_s3 B c)
    ⟨⟨trivial, (by have t_ := rSpan c.wlo c.whi (0) (1000); rw [q0] at t_; exact t_)⟩, trivial⟩).cast (by (simp [stormB, *]; done))
theorem rStorm (c : WStorm)  : PureC Try.prog J0 20 #[.agg (encStorm c).toArray] (.bool (stormB c)) :=
 pureC_of (ts := [.agg (encStorm c).toArray]) J0_st (c0 := entryC Try.prog 20 16 (([.agg (encStorm c).toArray]).map (pushT 0 4))) (by kernel_rfl) (by kernel_rfl) fun B hJ => rStorm_e c  hJ
def rPlan0_v0 (s : WShore) (plan : List Int) (i : Int) : List Value := [topV 1 (slT plan.length (rowL encI plan)), pA 2 0, .int .i64 i]
def rPlan0_o0 (s : WShore) (plan : List Int) (i : Int) : List Obj := [Obj.cells #[topV 1 (slT s.cells.length (rowL encWCell s.cells)), topV 1 (slT s.works.length (rowL encWWork s.works)), .int .i64 s.reef, .int .i64 s.llo, .int .i64 s.lhi] 27]
noncomputable def rPlan0_t0 : List Item := ([.code [1, 0, 1, 0, 0], .inLoop [1, 0, 1, 0, 0], .inBlock 0, .code [1, 1]]).map (it (bodyOf Try.prog 46))
def rPlan0_h0 (B : Lo) (c0 : CF) (s : WShore) (plan : List Int) (i : Int) : Prop := ∃ dJ : Nat → Value, (∀ t, Loose (dJ t)) ∧ GoE Try.prog B c0 H00 1 (headC 46 28 (([1, 2, 5] : List Nat).zip (rPlan0_v0 s plan i)) dJ rPlan0_t0) (headH (rPlan0_o0 s plan i)) (2 + (rPlan0_o0 s plan i).length) []
noncomputable def rPlan0_p0 (B : Lo) (s : WShore) (plan : List Int) (i : Int) (dJ0 : Nat → Value) : List Prop := [wq ((↑s.works.length : Int) - 1) = (↑s.works.length : Int) - 1, i = (↑i.toNat : Int) ∧ Int.toNat i < List.length plan ∧ Array.extract (rowL encI plan) (Int.toNat i * TypeInfo.size Try.t3) (Int.toNat i * TypeInfo.size Try.t3 + TypeInfo.size Try.t3) = #[.int .i64 (List.getD plan i.toNat default)], ltq i (↑plan.length : Int) = true] ++ ([] : List Prop)
noncomputable def rPlan0_q0 (s : WShore) (plan : List Int) (i : Int) (dJ0 : Nat → Value) : ScriptT := [(3, hvT), (6, HintT.tidx i.toNat #[.int .i64 (List.getD plan i.toNat default)]), (11, hvI ((↑s.works.length : Int) - 1))]
theorem rPlan0_s0 (B : Lo) (s : WShore) (plan : List Int) (i : Int) (dJ0 : Nat → Value) : landM (srunT Try.prog (okFn Try.prog) J0 B 14 1 (headC 46 28 (([1, 2, 5] : List Nat).zip (rPlan0_v0 s plan i)) dJ0 rPlan0_t0) (headH (rPlan0_o0 s plan i)) (2 + (rPlan0_o0 s plan i).length)
 (rPlan0_q0 s plan i dJ0 ++ [(12, HintT.pure (Value.bool true) []), (15, hvI (i + 1))]) 0 [] []) [1, 2, 5] [(2, KS.auto)] [] = some ⟨46, 28, rPlan0_t0, [], .run, none, rPlan0_v0 s plan (i + 1), rPlan0_o0 s plan (i + 1),
 [wq (i + 1) = i + 1, AllP [] ∧ PureC Try.prog J0 56 #[.int .i64 (List.getD plan i.toNat default), .int .i64 (-1), .int .i64 ((↑s.works.length : Int) - 1)] (Value.bool true)] ++ rPlan0_p0 B s plan i dJ0⟩ := by kernel_rfl
theorem rPlan0_s1 (B : Lo) (s : WShore) (plan : List Int) (i : Int) (dJ0 : Nat → Value) : endT (srunT Try.prog (okFn Try.prog) J0 B 14 1 (headC 46 28 (([1, 2, 5] : List Nat).zip (rPlan0_v0 s plan i)) dJ0 rPlan0_t0) (headH (rPlan0_o0 s plan i)) (2 + (rPlan0_o0 s plan i).length)
 (rPlan0_q0 s plan i dJ0 ++ [(12, HintT.pure (Value.bool false) [])]) 0 [] []) [] = some (Value.bool false,
 [AllP [] ∧ PureC Try.prog J0 56 #[.int .i64 (List.getD plan i.toNat default), .int .i64 (-1), .int .i64 ((↑s.works.length : Int) - 1)] (Value.bool false)] ++ rPlan0_p0 B s plan i dJ0) := by kernel_rfl
noncomputable def rPlan0_p1 (B : Lo) (s : WShore) (plan : List Int) (i : Int) (dJ0 : Nat → Value) : List Prop := [ltq i (↑plan.length : Int) = false] ++ ([] : List Prop)
noncomputable def rPlan0_q1 (s : WShore) (plan : List Int) (i : Int) (dJ0 : Nat → Value) : ScriptT := [(3, hvF)]
theorem rPlan0_s2 (B : Lo) (s : WShore) (plan : List Int) (i : Int) (dJ0 : Nat → Value) : endT (srunT Try.prog (okFn Try.prog) J0 B 9 1 (headC 46 28 (([1, 2, 5] : List Nat).zip (rPlan0_v0 s plan i)) dJ0 rPlan0_t0) (headH (rPlan0_o0 s plan i)) (2 + (rPlan0_o0 s plan i).length)
 (rPlan0_q1 s plan i dJ0 ++ [(9, hvT)]) 0 [] []) [] = some (Value.bool true,
 [eqq (↑plan.length : Int) (↑s.cells.length : Int) = true] ++ rPlan0_p1 B s plan i dJ0) := by kernel_rfl
theorem rPlan0_s3 (B : Lo) (s : WShore) (plan : List Int) (i : Int) (dJ0 : Nat → Value) : endT (srunT Try.prog (okFn Try.prog) J0 B 9 1 (headC 46 28 (([1, 2, 5] : List Nat).zip (rPlan0_v0 s plan i)) dJ0 rPlan0_t0) (headH (rPlan0_o0 s plan i)) (2 + (rPlan0_o0 s plan i).length)
 (rPlan0_q1 s plan i dJ0 ++ [(9, hvF)]) 0 [] []) [] = some (Value.bool false,
 [eqq (↑plan.length : Int) (↑s.cells.length : Int) = false] ++ rPlan0_p1 B s plan i dJ0) := by kernel_rfl
theorem rPlan0_s4 (B : Lo) (s : WShore) (plan : List Int) : landM (srunT Try.prog (okFn Try.prog) J0 B 7 1 (entryC Try.prog 46 28 (([.agg (encShore s).toArray, slI plan]).map (pushT 0 4))) H00 1
 [] 0 [] []) [1, 2, 5] [(1, KS.auto)] [] = some ⟨46, 28, rPlan0_t0, [], .run, none, rPlan0_v0 s plan (0), rPlan0_o0 s plan (0),
 []⟩ := by kernel_rfl
set_option maxHeartbeats 4000000 in
theorem rPlan0_ls (s : WShore) (plan : List Int)  (hfacts : s.cells.length ≤ 9223372036854775807 ∧ s.works.length ≤ 9223372036854775807 ∧ plan.length ≤ 9223372036854775807) {B : Lo} (hJ : ∀ w, B.has w → J0 w) {c0 : CF} : ∀ m : Nat, (∀ (i : Int), (plan.length - i.toNat) = m → ∀ (h0 : 0 ≤ i), rPlan0_h0 B c0 s plan i → EndsT Try.prog B c0 (.bool ((plan.drop i.toNat).all (fun x => inB x (-1) (s.works.length - 1)) && decide (plan.length = s.cells.length)))) := by
 intro m0
 induction m0 using Nat.strongRecOn with
 | _ m0 ih0 =>
   intro i hm0 h0 ⟨dJ0, hdJ0, hg0⟩
   by_cases q0 : (i : Int) < ((↑plan.length : Int))
   ·
    have hp0 : AllP (rPlan0_p0 B s plan i dJ0) := by
     have s2 := drop_all2 (l := plan) (p := fun x => inB x (-1) (s.works.length - 1)) h0 q0
     exact ⟨(wq_in (by omega) (by omega)), ⟨⟨by omega, by omega, (rowL_extract (z := 1) (fun _ => rfl) (by omega))⟩, ⟨(ltq_t q0), trivial⟩⟩⟩
    cases q1 : inB (List.getD plan i.toNat default) (-1) ((↑s.works.length : Int) - 1) with
    | true =>
      have s2 := drop_all2 (l := plan) (p := fun x => inB x (-1) (s.works.length - 1)) h0 q0
      exact ((ih0 _ (by omega)) (i + 1) rfl (by omega)
       (hg0.landM okF hJ mixed_ok (rPlan0_s0 B s plan i dJ0)
       ⟨(wq_in (by omega) (by omega)), ⟨⟨trivial, (by have t_ := rin (List.getD plan i.toNat default) (-1) ((↑s.works.length : Int) - 1); rw [q1] at t_; exact t_)⟩, hp0⟩⟩ (by kernel_rfl) (by kernel_rfl))).cast (by (rw [s2]; simp_all; done))
    | false =>
      have s2 := drop_all2 (l := plan) (p := fun x => inB x (-1) (s.works.length - 1)) h0 q0
      exact (GoE.endsT okF hJ mixed_ok hg0 (rPlan0_s1 B s plan i dJ0)
       ⟨⟨trivial, (by have t_ := rin (List.getD plan i.toNat default) (-1) ((↑s.works.length : Int) - 1); rw [q1] at t_; exact t_)⟩, hp0⟩).cast (by (rw [s2]; simp_all; done))
   ·
    have hp1 : AllP (rPlan0_p1 B s plan i dJ0) := by
     exact ⟨(ltq_f (Int.not_lt.1 q0)), trivial⟩
    by_cases q1 : ((↑plan.length : Int) : Int) = ((↑s.cells.length : Int))
    ·
     have s2 := drop_nil2 (l := plan) (p := fun x => inB x (-1) (s.works.length - 1)) (i := i) (by omega)
     exact (GoE.endsT okF hJ mixed_ok hg0 (rPlan0_s2 B s plan i dJ0)
      ⟨(eqq_t q1), hp1⟩).cast (by (rw [s2]; simp_all; omega))
    ·
     have s2 := drop_nil2 (l := plan) (p := fun x => inB x (-1) (s.works.length - 1)) (i := i) (by omega)
     exact (GoE.endsT okF hJ mixed_ok hg0 (rPlan0_s3 B s plan i dJ0)
      ⟨(eqq_f q1), hp1⟩).cast (by (rw [s2]; simp_all; omega))
set_option maxHeartbeats 4000000 in
theorem rPlan0_e (s : WShore) (plan : List Int)  (hfacts : s.cells.length ≤ 9223372036854775807 ∧ s.works.length ≤ 9223372036854775807 ∧ plan.length ≤ 9223372036854775807) {B : Lo} (hJ : ∀ w, B.has w → J0 w) : EndsT Try.prog B (entryC Try.prog 46 28 (([.agg (encShore s).toArray, slI plan]).map (pushT 0 4))) (.bool (plan.all (fun x => inB x (-1) (s.works.length - 1)) && decide (plan.length = s.cells.length))) := by
 exact ((rPlan0_ls s plan hfacts hJ _) (0) rfl (by omega)
  (GoE.start.landM okF hJ mixed_ok (rPlan0_s4 B s plan)
  trivial (by kernel_rfl) (by kernel_rfl))).cast (by rfl)
theorem rPlan0 (s : WShore) (plan : List Int)  : PureC Try.prog J0 46 #[.agg (encShore s).toArray, slI plan] (.bool (plan.all (fun x => inB x (-1) (s.works.length - 1)) && decide (plan.length = s.cells.length))) :=
 pureC_ofF (ts := [.agg (encShore s).toArray, slI plan]) (s.cells.length ≤ 9223372036854775807 ∧ s.works.length ≤ 9223372036854775807 ∧ plan.length ≤ 9223372036854775807) (fun _ _ ht => ⟨ht.ln2 (i := 0) (j := 0) rfl rfl, ht.ln2 (i := 0) (j := 1) rfl rfl, ht.ln (i := 1) rfl⟩) J0_st (c0 := entryC Try.prog 46 28 (([.agg (encShore s).toArray, slI plan]).map (pushT 0 4))) (by kernel_rfl) (by kernel_rfl) fun hfacts B hJ => rPlan0_e s plan  hfacts hJ
theorem rPlan (s : WShore) (plan : List Int) : PureC Try.prog J0 46 #[.agg (encShore s).toArray, slI plan] (.bool (planB s plan)) := by
 have h := rPlan0 s plan; rw [Bool.and_comm] at h; exact h
def dragU (ns : List Int) (cs : List WCell) (i : Int) : Bool := (upI i ns.length).all fun k => inB (ns.getD k.toNat default) (cs.getD k.toNat default).dlo (cs.getD k.toNat default).dhi
theorem dragU_cons {ns : List Int} {cs : List WCell} {i : Int} (h : i < ns.length) : dragU ns cs i = (inB (ns.getD i.toNat default) (cs.getD i.toNat default).dlo (cs.getD i.toNat default).dhi && dragU ns cs (i + 1)) := by
 unfold dragU; rw [upI_cons h, List.all_cons]
theorem dragU_nil {ns : List Int} {cs : List WCell} {i : Int} (h : ns.length ≤ i) : dragU ns cs i = true := by
 unfold dragU; rw [upI_nil h]; rfl
def truthT (s : WShore) (c : WStorm) (t : WTruth) : Bool := inB t.wind c.wlo c.whi && (inB t.fetch c.flo c.fhi && (inB t.tide c.tlo c.thi && inB t.loss s.llo s.lhi))
theorem truthR_eq {s : WShore} {c : WStorm} {t : WTruth} : (decide (t.drags.length = s.cells.length) && (dragU t.drags s.cells 0 && truthT s c t)) = truthB s c t := by
 unfold truthB truthT dragsB
 show (_ && (dragU t.drags s.cells 0 && _)) = (_ && (_ && (_ && (_ && (_ && dragU t.drags s.cells 0)))))
 cases decide (t.drags.length = s.cells.length) <;> cases dragU t.drags s.cells 0 <;> simp
def rTruth0_v0 (s : WShore) (c : WStorm) (t : WTruth) (i : Int) : List Value := [pA 2 0, pA 3 0, pA 4 0, .int .i64 i]
def rTruth0_o0 (s : WShore) (c : WStorm) (t : WTruth) (i : Int) : List Obj := [Obj.cells #[topV 1 (slT s.cells.length (rowL encWCell s.cells)), topV 1 (slT s.works.length (rowL encWWork s.works)), .int .i64 s.reef, .int .i64 s.llo, .int .i64 s.lhi] 27, Obj.cells #[.int .i64 c.wlo, .int .i64 c.whi, .int .i64 c.flo, .int .i64 c.fhi, .int .i64 c.tlo, .int .i64 c.thi] 29, Obj.cells #[.int .i64 t.wind, .int .i64 t.fetch, .int .i64 t.tide, .int .i64 t.loss, topV 1 (slT t.drags.length (rowL encI t.drags))] 38]
noncomputable def rTruth0_t0 : List Item := ([.code [1, 1, 0, 1, 0, 0], .inLoop [1, 1, 0, 1, 0, 0], .inBlock 0, .code [1, 1, 1]]).map (it (bodyOf Try.prog 26))
def rTruth0_h0 (B : Lo) (c0 : CF) (s : WShore) (c : WStorm) (t : WTruth) (i : Int) : Prop := ∃ dJ : Nat → Value, (∀ t, Loose (dJ t)) ∧ GoE Try.prog B c0 H00 1 (headC 26 85 (([3, 4, 5, 7] : List Nat).zip (rTruth0_v0 s c t i)) dJ rTruth0_t0) (headH (rTruth0_o0 s c t i)) (2 + (rTruth0_o0 s c t i).length) []
noncomputable def rTruth0_z0 (s : WShore) (i : Int) : Array Value := #[.int .i64 (WCell.ground (List.getD s.cells i.toNat default)), .int .i64 (WCell.dlo (List.getD s.cells i.toNat default)), .int .i64 (WCell.dhi (List.getD s.cells i.toNat default)), .int .i64 (WCell.floor (List.getD s.cells i.toNat default))]
noncomputable def rTruth0_p0 (B : Lo) (s : WShore) (c : WStorm) (t : WTruth) (i : Int) (dJ0 : Nat → Value) : List Prop := [i = (↑i.toNat : Int) ∧ Int.toNat i < List.length s.cells ∧ Array.extract (rowL encWCell s.cells) (Int.toNat i * TypeInfo.size Try.t59) (Int.toNat i * TypeInfo.size Try.t59 + TypeInfo.size Try.t59) = (rTruth0_z0 s i), i = (↑i.toNat : Int) ∧ Int.toNat i < List.length s.cells ∧ Array.extract (rowL encWCell s.cells) (Int.toNat i * TypeInfo.size Try.t59) (Int.toNat i * TypeInfo.size Try.t59 + TypeInfo.size Try.t59) = (rTruth0_z0 s i), i = (↑i.toNat : Int) ∧ Int.toNat i < List.length t.drags ∧ Array.extract (rowL encI t.drags) (Int.toNat i * TypeInfo.size Try.t3) (Int.toNat i * TypeInfo.size Try.t3 + TypeInfo.size Try.t3) = #[.int .i64 (List.getD t.drags i.toNat default)], ltq i (↑t.drags.length : Int) = true] ++ ([] : List Prop)
noncomputable def rTruth0_q0 (s : WShore) (c : WStorm) (t : WTruth) (i : Int) (dJ0 : Nat → Value) : ScriptT := [(4, hvT), (8, HintT.tidx i.toNat #[.int .i64 (List.getD t.drags i.toNat default)]), (13, HintT.tidx i.toNat (rTruth0_z0 s i)), (20, HintT.tidx i.toNat (rTruth0_z0 s i))]
theorem rTruth0_s0 (B : Lo) (s : WShore) (c : WStorm) (t : WTruth) (i : Int) (dJ0 : Nat → Value) : landM (srunT Try.prog (okFn Try.prog) J0 B 14 1 (headC 26 85 (([3, 4, 5, 7] : List Nat).zip (rTruth0_v0 s c t i)) dJ0 rTruth0_t0) (headH (rTruth0_o0 s c t i)) (2 + (rTruth0_o0 s c t i).length)
 (rTruth0_q0 s c t i dJ0 ++ [(24, HintT.pure (Value.bool true) []), (27, hvI (i + 1))]) 0 [] []) [3, 4, 5, 7] [(2, KS.auto), (3, KS.auto), (4, KS.auto)] [] = some ⟨26, 85, rTruth0_t0, [], .run, none, rTruth0_v0 s c t (i + 1), rTruth0_o0 s c t (i + 1),
 [wq (i + 1) = i + 1, AllP [] ∧ PureC Try.prog J0 56 #[.int .i64 (List.getD t.drags i.toNat default), .int .i64 (WCell.dlo (List.getD s.cells i.toNat default)), .int .i64 (WCell.dhi (List.getD s.cells i.toNat default))] (Value.bool true)] ++ rTruth0_p0 B s c t i dJ0⟩ := by kernel_rfl
theorem rTruth0_s1 (B : Lo) (s : WShore) (c : WStorm) (t : WTruth) (i : Int) (dJ0 : Nat → Value) : endT (srunT Try.prog (okFn Try.prog) J0 B 14 1 (headC 26 85 (([3, 4, 5, 7] : List Nat).zip (rTruth0_v0 s c t i)) dJ0 rTruth0_t0) (headH (rTruth0_o0 s c t i)) (2 + (rTruth0_o0 s c t i).length)
 (rTruth0_q0 s c t i dJ0 ++ [(24, HintT.pure (Value.bool false) [])]) 0 [] []) [] = some (Value.bool false,
 [AllP [] ∧ PureC Try.prog J0 56 #[.int .i64 (List.getD t.drags i.toNat default), .int .i64 (WCell.dlo (List.getD s.cells i.toNat default)), .int .i64 (WCell.dhi (List.getD s.cells i.toNat default))] (Value.bool false)] ++ rTruth0_p0 B s c t i dJ0) := by kernel_rfl
noncomputable def rTruth0_p1 (B : Lo) (s : WShore) (c : WStorm) (t : WTruth) (i : Int) (dJ0 : Nat → Value) : List Prop := [ltq i (↑t.drags.length : Int) = false] ++ ([] : List Prop)
noncomputable def rTruth0_q1 (s : WShore) (c : WStorm) (t : WTruth) (i : Int) (dJ0 : Nat → Value) : ScriptT := [(4, hvF)]
noncomputable def rTruth0_p2 (B : Lo) (s : WShore) (c : WStorm) (t : WTruth) (i : Int) (dJ0 : Nat → Value) : List Prop := [AllP [] ∧ PureC Try.prog J0 56 #[.int .i64 t.wind, .int .i64 c.wlo, .int .i64 c.whi] (Value.bool true)] ++ rTruth0_p1 B s c t i dJ0
noncomputable def rTruth0_q2 (s : WShore) (c : WStorm) (t : WTruth) (i : Int) (dJ0 : Nat → Value) : ScriptT := rTruth0_q1 s c t i dJ0 ++ [(13, HintT.pure (Value.bool true) [])]
noncomputable def rTruth0_p3 (B : Lo) (s : WShore) (c : WStorm) (t : WTruth) (i : Int) (dJ0 : Nat → Value) : List Prop := [AllP [] ∧ PureC Try.prog J0 56 #[.int .i64 t.fetch, .int .i64 c.flo, .int .i64 c.fhi] (Value.bool true)] ++ rTruth0_p2 B s c t i dJ0
noncomputable def rTruth0_q3 (s : WShore) (c : WStorm) (t : WTruth) (i : Int) (dJ0 : Nat → Value) : ScriptT := rTruth0_q2 s c t i dJ0 ++ [(23, HintT.pure (Value.bool true) [])]
noncomputable def rTruth0_p4 (B : Lo) (s : WShore) (c : WStorm) (t : WTruth) (i : Int) (dJ0 : Nat → Value) : List Prop := [AllP [] ∧ PureC Try.prog J0 56 #[.int .i64 t.tide, .int .i64 c.tlo, .int .i64 c.thi] (Value.bool true)] ++ rTruth0_p3 B s c t i dJ0
noncomputable def rTruth0_q4 (s : WShore) (c : WStorm) (t : WTruth) (i : Int) (dJ0 : Nat → Value) : ScriptT := rTruth0_q3 s c t i dJ0 ++ [(34, HintT.pure (Value.bool true) [])]
theorem rTruth0_s2 (B : Lo) (s : WShore) (c : WStorm) (t : WTruth) (i : Int) (dJ0 : Nat → Value) : endT (srunT Try.prog (okFn Try.prog) J0 B 9 1 (headC 26 85 (([3, 4, 5, 7] : List Nat).zip (rTruth0_v0 s c t i)) dJ0 rTruth0_t0) (headH (rTruth0_o0 s c t i)) (2 + (rTruth0_o0 s c t i).length)
 (rTruth0_q4 s c t i dJ0 ++ [(45, HintT.pure (Value.bool true) [])]) 0 [] []) [] = some (Value.bool true,
 [AllP [] ∧ PureC Try.prog J0 56 #[.int .i64 t.loss, .int .i64 s.llo, .int .i64 s.lhi] (Value.bool true)] ++ rTruth0_p4 B s c t i dJ0) := by kernel_rfl
theorem rTruth0_s3 (B : Lo) (s : WShore) (c : WStorm) (t : WTruth) (i : Int) (dJ0 : Nat → Value) : endT (srunT Try.prog (okFn Try.prog) J0 B 9 1 (headC 26 85 (([3, 4, 5, 7] : List Nat).zip (rTruth0_v0 s c t i)) dJ0 rTruth0_t0) (headH (rTruth0_o0 s c t i)) (2 + (rTruth0_o0 s c t i).length)
 (rTruth0_q4 s c t i dJ0 ++ [(45, HintT.pure (Value.bool false) [])]) 0 [] []) [] = some (Value.bool false,
 [AllP [] ∧ PureC Try.prog J0 56 #[.int .i64 t.loss, .int .i64 s.llo, .int .i64 s.lhi] (Value.bool false)] ++ rTruth0_p4 B s c t i dJ0) := by kernel_rfl
theorem rTruth0_s4 (B : Lo) (s : WShore) (c : WStorm) (t : WTruth) (i : Int) (dJ0 : Nat → Value) : endT (srunT Try.prog (okFn Try.prog) J0 B 9 1 (headC 26 85 (([3, 4, 5, 7] : List Nat).zip (rTruth0_v0 s c t i)) dJ0 rTruth0_t0) (headH (rTruth0_o0 s c t i)) (2 + (rTruth0_o0 s c t i).length)
 (rTruth0_q3 s c t i dJ0 ++ [(34, HintT.pure (Value.bool false) [])]) 0 [] []) [] = some (Value.bool false,
 [AllP [] ∧ PureC Try.prog J0 56 #[.int .i64 t.tide, .int .i64 c.tlo, .int .i64 c.thi] (Value.bool false)] ++ rTruth0_p3 B s c t i dJ0) := by kernel_rfl
theorem rTruth0_s5 (B : Lo) (s : WShore) (c : WStorm) (t : WTruth) (i : Int) (dJ0 : Nat → Value) : endT (srunT Try.prog (okFn Try.prog) J0 B 9 1 (headC 26 85 (([3, 4, 5, 7] : List Nat).zip (rTruth0_v0 s c t i)) dJ0 rTruth0_t0) (headH (rTruth0_o0 s c t i)) (2 + (rTruth0_o0 s c t i).length)
 (rTruth0_q2 s c t i dJ0 ++ [(23, HintT.pure (Value.bool false) [])]) 0 [] []) [] = some (Value.bool false,
 [AllP [] ∧ PureC Try.prog J0 56 #[.int .i64 t.fetch, .int .i64 c.flo, .int .i64 c.fhi] (Value.bool false)] ++ rTruth0_p2 B s c t i dJ0) := by kernel_rfl
theorem rTruth0_s6 (B : Lo) (s : WShore) (c : WStorm) (t : WTruth) (i : Int) (dJ0 : Nat → Value) : endT (srunT Try.prog (okFn Try.prog) J0 B 9 1 (headC 26 85 (([3, 4, 5, 7] : List Nat).zip (rTruth0_v0 s c t i)) dJ0 rTruth0_t0) (headH (rTruth0_o0 s c t i)) (2 + (rTruth0_o0 s c t i).length)
 (rTruth0_q1 s c t i dJ0 ++ [(13, HintT.pure (Value.bool false) [])]) 0 [] []) [] = some (Value.bool false,
 [AllP [] ∧ PureC Try.prog J0 56 #[.int .i64 t.wind, .int .i64 c.wlo, .int .i64 c.whi] (Value.bool false)] ++ rTruth0_p1 B s c t i dJ0) := by kernel_rfl
theorem rTruth0_s7 (B : Lo) (s : WShore) (c : WStorm) (t : WTruth) : endT (srunT Try.prog (okFn Try.prog) J0 B 10 1 (entryC Try.prog 26 85 (([.agg (encShore s).toArray, .agg (encStorm c).toArray, .agg (encTruth t).toArray]).map (pushT 0 4))) H00 1
 [(10, hvT)] 0 [] []) [] = some (Value.bool false,
 [(!eqq (↑t.drags.length : Int) (↑s.cells.length : Int)) = true]) := by kernel_rfl
theorem rTruth0_s8 (B : Lo) (s : WShore) (c : WStorm) (t : WTruth) : landM (srunT Try.prog (okFn Try.prog) J0 B 12 1 (entryC Try.prog 26 85 (([.agg (encShore s).toArray, .agg (encStorm c).toArray, .agg (encTruth t).toArray]).map (pushT 0 4))) H00 1
 [(10, hvF)] 0 [] []) [3, 4, 5, 7] [(1, KS.auto), (2, KS.auto), (3, KS.auto)] [] = some ⟨26, 85, rTruth0_t0, [], .run, none, rTruth0_v0 s c t (0), rTruth0_o0 s c t (0),
 [(!eqq (↑t.drags.length : Int) (↑s.cells.length : Int)) = false]⟩ := by kernel_rfl
set_option maxHeartbeats 4000000 in
theorem rTruth0_ls (s : WShore) (c : WStorm) (t : WTruth)  (hfacts : s.cells.length ≤ 9223372036854775807 ∧ t.drags.length ≤ 9223372036854775807) {B : Lo} (hJ : ∀ w, B.has w → J0 w) {c0 : CF} : ∀ m : Nat, (∀ (i : Int), (t.drags.length - i.toNat) = m → ∀ (h0 : 0 ≤ i) (hl : t.drags.length = s.cells.length), rTruth0_h0 B c0 s c t i → EndsT Try.prog B c0 (.bool (dragU t.drags s.cells i && truthT s c t))) := by
 intro m0
 induction m0 using Nat.strongRecOn with
 | _ m0 ih0 =>
   intro i hm0 h0 hl ⟨dJ0, hdJ0, hg0⟩
   by_cases q0 : (i : Int) < ((↑t.drags.length : Int))
   ·
    have hp0 : AllP (rTruth0_p0 B s c t i dJ0) := by
     have s2 := dragU_cons (ns := t.drags) (cs := s.cells) q0
     exact ⟨⟨by omega, by omega, (rowL_extract (z := 4) (fun _ => rfl) (by omega))⟩, ⟨⟨by omega, by omega, (rowL_extract (z := 4) (fun _ => rfl) (by omega))⟩, ⟨⟨by omega, by omega, (rowL_extract (z := 1) (fun _ => rfl) (by omega))⟩, ⟨(ltq_t q0), trivial⟩⟩⟩⟩
    cases q1 : inB (List.getD t.drags i.toNat default) (WCell.dlo (List.getD s.cells i.toNat default)) (WCell.dhi (List.getD s.cells i.toNat default)) with
    | true =>
      have s2 := dragU_cons (ns := t.drags) (cs := s.cells) q0
      exact ((ih0 _ (by omega)) (i + 1) rfl (by omega) (by with_reducible assumption)
       (hg0.landM okF hJ mixed_ok (rTruth0_s0 B s c t i dJ0)
       ⟨(wq_in (by omega) (by omega)), ⟨⟨trivial, (by have t_ := rin (List.getD t.drags i.toNat default) (WCell.dlo (List.getD s.cells i.toNat default)) (WCell.dhi (List.getD s.cells i.toNat default)); rw [q1] at t_; exact t_)⟩, hp0⟩⟩ (by kernel_rfl) (by kernel_rfl))).cast (by (rw [s2]; simp_all; done))
    | false =>
      have s2 := dragU_cons (ns := t.drags) (cs := s.cells) q0
      exact (GoE.endsT okF hJ mixed_ok hg0 (rTruth0_s1 B s c t i dJ0)
       ⟨⟨trivial, (by have t_ := rin (List.getD t.drags i.toNat default) (WCell.dlo (List.getD s.cells i.toNat default)) (WCell.dhi (List.getD s.cells i.toNat default)); rw [q1] at t_; exact t_)⟩, hp0⟩).cast (by (rw [s2]; simp_all; done))
   ·
    have hp1 : AllP (rTruth0_p1 B s c t i dJ0) := by
     exact ⟨(ltq_f (Int.not_lt.1 q0)), trivial⟩
    cases q1 : inB t.wind c.wlo c.whi with
    | true =>
      have hp2 : AllP (rTruth0_p2 B s c t i dJ0) := by
       have s2 := dragU_nil (ns := t.drags) (cs := s.cells) (i := i) (by omega)
       exact ⟨⟨trivial, (by have t_ := rin t.wind c.wlo c.whi; rw [q1] at t_; exact t_)⟩, hp1⟩
      cases q2 : inB t.fetch c.flo c.fhi with
      | true =>
        have hp3 : AllP (rTruth0_p3 B s c t i dJ0) := by
         have s2 := dragU_nil (ns := t.drags) (cs := s.cells) (i := i) (by omega)
         exact ⟨⟨trivial, (by have t_ := rin t.fetch c.flo c.fhi; rw [q2] at t_; exact t_)⟩, hp2⟩
        cases q3 : inB t.tide c.tlo c.thi with
        | true =>
          have hp4 : AllP (rTruth0_p4 B s c t i dJ0) := by
           have s2 := dragU_nil (ns := t.drags) (cs := s.cells) (i := i) (by omega)
           exact ⟨⟨trivial, (by have t_ := rin t.tide c.tlo c.thi; rw [q3] at t_; exact t_)⟩, hp3⟩
          cases q4 : inB t.loss s.llo s.lhi with
          | true =>
            have s2 := dragU_nil (ns := t.drags) (cs := s.cells) (i := i) (by omega)
            exact (GoE.endsT okF hJ mixed_ok hg0 (rTruth0_s2 B s c t i dJ0)
             ⟨⟨trivial, (by have t_ := rin t.loss s.llo s.lhi; rw [q4] at t_; exact t_)⟩, hp4⟩).cast (by (rw [s2]; simp [truthT, *]; done))
          | false =>
            have s2 := dragU_nil (ns := t.drags) (cs := s.cells) (i := i) (by omega)
            exact (GoE.endsT okF hJ mixed_ok hg0 (rTruth0_s3 B s c t i dJ0)
             ⟨⟨trivial, (by have t_ := rin t.loss s.llo s.lhi; rw [q4] at t_; exact t_)⟩, hp4⟩).cast (by (rw [s2]; simp [truthT, *]; done))
        | false =>
          have s2 := dragU_nil (ns := t.drags) (cs := s.cells) (i := i) (by omega)
          exact (GoE.endsT okF hJ mixed_ok hg0 (rTruth0_s4 B s c t i dJ0)
           ⟨⟨trivial, (by have t_ := rin t.tide c.tlo c.thi; rw [q3] at t_; exact t_)⟩, hp3⟩).cast (by (rw [s2]; simp [truthT, *]; done))
      | false =>
        have s2 := dragU_nil (ns := t.drags) (cs := s.cells) (i := i) (by omega)
        exact (GoE.endsT okF hJ mixed_ok hg0 (rTruth0_s5 B s c t i dJ0)
         ⟨⟨trivial, (by have t_ := rin t.fetch c.flo c.fhi; rw [q2] at t_; exact t_)⟩, hp2⟩).cast (by (rw [s2]; simp [truthT, *]; done))
    | false =>
      have s2 := dragU_nil (ns := t.drags) (cs := s.cells) (i := i) (by omega)
      exact (GoE.endsT okF hJ mixed_ok hg0 (rTruth0_s6 B s c t i dJ0)
       ⟨⟨trivial, (by have t_ := rin t.wind c.wlo c.whi; rw [q1] at t_; exact t_)⟩, hp1⟩).cast (by (rw [s2]; simp [truthT, *]; done))
set_option maxHeartbeats 4000000 in
theorem rTruth0_e (s : WShore) (c : WStorm) (t : WTruth)  (hfacts : s.cells.length ≤ 9223372036854775807 ∧ t.drags.length ≤ 9223372036854775807) {B : Lo} (hJ : ∀ w, B.has w → J0 w) : EndsT Try.prog B (entryC Try.prog 26 85 (([.agg (encShore s).toArray, .agg (encStorm c).toArray, .agg (encTruth t).toArray]).map (pushT 0 4))) (.bool (decide (t.drags.length = s.cells.length) && (dragU t.drags s.cells 0 && truthT s c t))) := by
 by_cases q0 : ((↑t.drags.length : Int) : Int) ≠ ((↑s.cells.length : Int))
 ·
  exact (GoE.endsT okF hJ mixed_ok GoE.start (rTruth0_s7 B s c t)
   ⟨(neqq_t q0), trivial⟩).cast (by (rw [decide_eq_false (by omega)]; simp; done))
 ·
  exact ((rTruth0_ls s c t hfacts hJ _) (0) rfl (by omega) (by omega)
   (GoE.start.landM okF hJ mixed_ok (rTruth0_s8 B s c t)
   ⟨(neqq_f (Decidable.of_not_not q0)), trivial⟩ (by kernel_rfl) (by kernel_rfl))).cast (by (rw [decide_eq_true (by omega)]; simp; done))
theorem rTruth0 (s : WShore) (c : WStorm) (t : WTruth)  : PureC Try.prog J0 26 #[.agg (encShore s).toArray, .agg (encStorm c).toArray, .agg (encTruth t).toArray] (.bool (decide (t.drags.length = s.cells.length) && (dragU t.drags s.cells 0 && truthT s c t))) :=
 pureC_ofF (ts := [.agg (encShore s).toArray, .agg (encStorm c).toArray, .agg (encTruth t).toArray]) (s.cells.length ≤ 9223372036854775807 ∧ t.drags.length ≤ 9223372036854775807) (fun _ _ ht => ⟨ht.ln2 (i := 0) (j := 0) rfl rfl, ht.ln2 (i := 2) (j := 4) rfl rfl⟩) J0_st (c0 := entryC Try.prog 26 85 (([.agg (encShore s).toArray, .agg (encStorm c).toArray, .agg (encTruth t).toArray]).map (pushT 0 4))) (by kernel_rfl) (by kernel_rfl) fun hfacts B hJ => rTruth0_e s c t  hfacts hJ
theorem rTruth (s : WShore) (c : WStorm) (t : WTruth) : PureC Try.prog J0 26 #[.agg (encShore s).toArray, .agg (encStorm c).toArray, .agg (encTruth t).toArray] (.bool (truthB s c t)) := by
 have h := rTruth0 s c t; rw [truthR_eq] at h; exact h
noncomputable def rCell_p0 (B : Lo) (s : WShore) (k : Int) : List Prop := [wq ((↑s.cells.length : Int) - 1) = (↑s.cells.length : Int) - 1] ++ ([] : List Prop)
noncomputable def rCell_q0 (s : WShore) (k : Int) : ScriptT := [(6, hvI ((↑s.cells.length : Int) - 1))]
theorem rCell_s0 (B : Lo) (s : WShore) (k : Int) : endT (srunT Try.prog (okFn Try.prog) J0 B 6 1 (entryC Try.prog 35 11 (([.agg (encShore s).toArray, .int .i64 k]).map (pushT 0 4))) H00 1
 (rCell_q0 s k ++ [(7, HintT.pure (Value.bool true) [])]) 0 [] []) [] = some (Value.bool true,
 [AllP [] ∧ PureC Try.prog J0 56 #[.int .i64 k, .int .i64 0, .int .i64 ((↑s.cells.length : Int) - 1)] (Value.bool true)] ++ rCell_p0 B s k) := by kernel_rfl
theorem rCell_s1 (B : Lo) (s : WShore) (k : Int) : endT (srunT Try.prog (okFn Try.prog) J0 B 6 1 (entryC Try.prog 35 11 (([.agg (encShore s).toArray, .int .i64 k]).map (pushT 0 4))) H00 1
 (rCell_q0 s k ++ [(7, HintT.pure (Value.bool false) [])]) 0 [] []) [] = some (Value.bool false,
 [AllP [] ∧ PureC Try.prog J0 56 #[.int .i64 k, .int .i64 0, .int .i64 ((↑s.cells.length : Int) - 1)] (Value.bool false)] ++ rCell_p0 B s k) := by kernel_rfl
set_option maxHeartbeats 4000000 in
theorem rCell_e (s : WShore) (k : Int)  (hfacts : s.cells.length ≤ 9223372036854775807) {B : Lo} (hJ : ∀ w, B.has w → J0 w) : EndsT Try.prog B (entryC Try.prog 35 11 (([.agg (encShore s).toArray, .int .i64 k]).map (pushT 0 4))) (.bool (inB k 0 (s.cells.length - 1))) := by
 have hp0 : AllP (rCell_p0 B s k) := by
  exact ⟨(wq_in (by omega) (by omega)), trivial⟩
 cases q0 : inB k 0 ((↑s.cells.length : Int) - 1) with
 | true =>
   exact (GoE.endsT okF hJ mixed_ok GoE.start (rCell_s0 B s k)
    ⟨⟨trivial, (by have t_ := rin (k) (0) ((↑s.cells.length : Int) - 1); rw [q0] at t_; exact t_)⟩, hp0⟩).cast (by rfl)
 | false =>
   exact (GoE.endsT okF hJ mixed_ok GoE.start (rCell_s1 B s k)
    ⟨⟨trivial, (by have t_ := rin (k) (0) ((↑s.cells.length : Int) - 1); rw [q0] at t_; exact t_)⟩, hp0⟩).cast (by rfl)
theorem rCell (s : WShore) (k : Int)  : PureC Try.prog J0 35 #[.agg (encShore s).toArray, .int .i64 k] (.bool (inB k 0 (s.cells.length - 1))) :=
 pureC_ofF (ts := [.agg (encShore s).toArray, .int .i64 k]) (s.cells.length ≤ 9223372036854775807) (fun _ _ ht => ht.ln2 (i := 0) (j := 0) rfl rfl) J0_st (c0 := entryC Try.prog 35 11 (([.agg (encShore s).toArray, .int .i64 k]).map (pushT 0 4))) (by kernel_rfl) (by kernel_rfl) fun hfacts B hJ => rCell_e s k  hfacts hJ
def rHas_v0 (xs : List Int) (x : Int) (i : Int) : List Value := [topV 1 (slT xs.length (rowL encI xs)), .int .i64 x, .int .i64 i]
def rHas_o0 (xs : List Int) (x : Int) (i : Int) : List Obj := []
noncomputable def rHas_t0 : List Item := ([.code [1, 0, 1, 0, 0], .inLoop [1, 0, 1, 0, 0], .inBlock 0, .code [1, 1]]).map (it (bodyOf Try.prog 37))
def rHas_h0 (B : Lo) (c0 : CF) (xs : List Int) (x : Int) (i : Int) : Prop := ∃ dJ : Nat → Value, (∀ t, Loose (dJ t)) ∧ GoE Try.prog B c0 H00 1 (headC 37 18 (([0, 1, 5] : List Nat).zip (rHas_v0 xs x i)) dJ rHas_t0) (headH (rHas_o0 xs x i)) (2 + (rHas_o0 xs x i).length) []
noncomputable def rHas_p0 (B : Lo) (xs : List Int) (x : Int) (i : Int) (dJ0 : Nat → Value) : List Prop := [i = (↑i.toNat : Int) ∧ Int.toNat i < List.length xs ∧ Array.extract (rowL encI xs) (Int.toNat i * TypeInfo.size Try.t3) (Int.toNat i * TypeInfo.size Try.t3 + TypeInfo.size Try.t3) = #[.int .i64 (List.getD xs i.toNat default)], ltq i (↑xs.length : Int) = true] ++ ([] : List Prop)
noncomputable def rHas_q0 (xs : List Int) (x : Int) (i : Int) (dJ0 : Nat → Value) : ScriptT := [(3, hvT), (6, HintT.tidx i.toNat #[.int .i64 (List.getD xs i.toNat default)])]
theorem rHas_s0 (B : Lo) (xs : List Int) (x : Int) (i : Int) (dJ0 : Nat → Value) : endT (srunT Try.prog (okFn Try.prog) J0 B 14 1 (headC 37 18 (([0, 1, 5] : List Nat).zip (rHas_v0 xs x i)) dJ0 rHas_t0) (headH (rHas_o0 xs x i)) (2 + (rHas_o0 xs x i).length)
 (rHas_q0 xs x i dJ0 ++ [(9, hvT)]) 0 [] []) [] = some (Value.bool true,
 [eqq (List.getD xs i.toNat default) x = true] ++ rHas_p0 B xs x i dJ0) := by kernel_rfl
theorem rHas_s1 (B : Lo) (xs : List Int) (x : Int) (i : Int) (dJ0 : Nat → Value) : landM (srunT Try.prog (okFn Try.prog) J0 B 14 1 (headC 37 18 (([0, 1, 5] : List Nat).zip (rHas_v0 xs x i)) dJ0 rHas_t0) (headH (rHas_o0 xs x i)) (2 + (rHas_o0 xs x i).length)
 (rHas_q0 xs x i dJ0 ++ [(9, hvF), (11, hvI (i + 1))]) 0 [] []) [0, 1, 5] [] [] = some ⟨37, 18, rHas_t0, [], .run, none, rHas_v0 xs x (i + 1), rHas_o0 xs x (i + 1),
 [wq (i + 1) = i + 1, eqq (List.getD xs i.toNat default) x = false] ++ rHas_p0 B xs x i dJ0⟩ := by kernel_rfl
theorem rHas_s2 (B : Lo) (xs : List Int) (x : Int) (i : Int) (dJ0 : Nat → Value) : endT (srunT Try.prog (okFn Try.prog) J0 B 9 1 (headC 37 18 (([0, 1, 5] : List Nat).zip (rHas_v0 xs x i)) dJ0 rHas_t0) (headH (rHas_o0 xs x i)) (2 + (rHas_o0 xs x i).length)
 [(3, hvF)] 0 [] []) [] = some (Value.bool false,
 [ltq i (↑xs.length : Int) = false]) := by kernel_rfl
theorem rHas_s3 (B : Lo) (xs : List Int) (x : Int) : landM (srunT Try.prog (okFn Try.prog) J0 B 7 1 (entryC Try.prog 37 18 (([slI xs, .int .i64 x]).map (pushT 0 4))) H00 1
 [] 0 [] []) [0, 1, 5] [] [] = some ⟨37, 18, rHas_t0, [], .run, none, rHas_v0 xs x (0), rHas_o0 xs x (0),
 []⟩ := by kernel_rfl
set_option maxHeartbeats 4000000 in
theorem rHas_ls (xs : List Int) (x : Int)  (hfacts : xs.length ≤ 9223372036854775807) {B : Lo} (hJ : ∀ w, B.has w → J0 w) {c0 : CF} : ∀ m : Nat, (∀ (i : Int), xs.length - i.toNat = m → ∀ (h0 : 0 ≤ i), rHas_h0 B c0 xs x i → EndsT Try.prog B c0 (.bool ((xs.drop i.toNat).any (fun y => decide (y = x))))) := by
 intro m0
 induction m0 using Nat.strongRecOn with
 | _ m0 ih0 =>
   intro i hm0 h0 ⟨dJ0, hdJ0, hg0⟩
   by_cases q0 : (i : Int) < ((↑xs.length : Int))
   ·
    have hp0 : AllP (rHas_p0 B xs x i dJ0) := by
     exact ⟨⟨by omega, by omega, (rowL_extract (z := 1) (fun _ => rfl) (by omega))⟩, ⟨(ltq_t q0), trivial⟩⟩
    by_cases q1 : (List.getD xs i.toNat default : Int) = (x)
    ·
     exact (GoE.endsT okF hJ mixed_ok hg0 (rHas_s0 B xs x i dJ0)
      ⟨(eqq_t q1), hp0⟩).cast (by (rw [drop_any (i := i) (by omega) (by omega)]; simp_all; done))
    ·
     exact ((ih0 _ (by omega)) (i + 1) rfl (by omega)
      (hg0.landM okF hJ mixed_ok (rHas_s1 B xs x i dJ0)
      ⟨(wq_in (by omega) (by omega)), ⟨(eqq_f q1), hp0⟩⟩ (by kernel_rfl) (by kernel_rfl))).cast (by (rw [drop_any (i := i) (by omega) (by omega)]; simp_all; done))
   ·
    exact (GoE.endsT okF hJ mixed_ok hg0 (rHas_s2 B xs x i dJ0)
     ⟨(ltq_f (Int.not_lt.1 q0)), trivial⟩).cast (by (rw [drop_end (i := i) (by omega)]; simp; done))
set_option maxHeartbeats 4000000 in
theorem rHas_e (xs : List Int) (x : Int)  (hfacts : xs.length ≤ 9223372036854775807) {B : Lo} (hJ : ∀ w, B.has w → J0 w) : EndsT Try.prog B (entryC Try.prog 37 18 (([slI xs, .int .i64 x]).map (pushT 0 4))) (.bool (xs.any (fun y => decide (y = x)))) := by
 exact ((rHas_ls xs x hfacts hJ _) (0) rfl (by omega)
  (GoE.start.landM okF hJ mixed_ok (rHas_s3 B xs x)
  trivial (by kernel_rfl) (by kernel_rfl))).cast (by rfl)
theorem rHas (xs : List Int) (x : Int)  : PureC Try.prog J0 37 #[slI xs, .int .i64 x] (.bool (xs.any (fun y => decide (y = x)))) :=
 pureC_ofF (ts := [slI xs, .int .i64 x]) (xs.length ≤ 9223372036854775807) (fun _ _ ht => ht.ln (i := 0) rfl) J0_st (c0 := entryC Try.prog 37 18 (([slI xs, .int .i64 x]).map (pushT 0 4))) (by kernel_rfl) (by kernel_rfl) fun hfacts B hJ => rHas_e xs x  hfacts hJ
theorem span_eq {a b : Span} : a = b ↔ a.lo = b.lo ∧ a.hi = b.hi := by
 cases a; cases b; simp
instance : DecidableEq Span := fun a b => decidable_of_iff _ span_eq.symm
def endE (b : Bool) (s : WShore) (c : WStorm) : WTruth := ⟨bif b then c.whi else c.wlo, bif b then c.fhi else c.flo, bif b then c.thi else c.tlo, bif b then s.llo else s.lhi, s.cells.map fun x => bif b then x.dlo else x.dhi⟩
end Go.Proofs.Ytiigkdhaofaijaa

namespace Go.Proofs.Ytiigkdhaofaijaa
open Go Go.CE Go.RowKit
set_option maxRecDepth 100000
def waveN (loss : Int) : Nat → Int → Int
 | 0, w => w
 | n + 1, w => waveN loss n (w - (w * loss).tdiv 1000)
def levelF (s : WShore) (t : WTruth) : Int := t.tide + waveN t.loss s.reef.toNat ((t.fetch * t.wind).tdiv 1000)
def tOk (s : WShore) (t : WTruth) : Prop := (0 ≤ t.wind ∧ t.wind ≤ 1000) ∧ (0 ≤ t.fetch ∧ t.fetch ≤ 10000) ∧ (-5000 ≤ t.tide ∧ t.tide ≤ 5000) ∧ (0 ≤ t.loss ∧ t.loss ≤ 1000) ∧ t.drags.length = s.cells.length ∧ ∀ x ∈ t.drags, 0 ≤ x ∧ x ≤ 5000
theorem tOk_of {s : WShore} {c : WStorm} {t : WTruth} (hs : shoreB s = true) (hc : stormB c = true) (ht : truthB s c t = true) : tOk s t := by
 have h1 := shore_facts hs
 have h2 := storm_facts hc
 have h3 := truth_facts ht
 have h4 := drags_facts h3.2.2.2.2
 refine ⟨by omega, by omega, by omega, by omega, h4.1, fun x hx => ?_⟩
 obtain ⟨i, i0, i1, rfl⟩ := mem_getD hx
 have h5 := h4.2 i i0 i1
 have h6 := cell_facts (h1.2.2.2.2.1 _ (getD_mem (l := s.cells) (i := i) i0 (by omega)))
 omega
theorem tOk_end {b : Bool} {s : WShore} {c : WStorm} (hs : shoreB s = true) (hc : stormB c = true) : tOk s (endE b s c) := by
 have h1 := shore_facts hs
 have h2 := storm_facts hc
 cases b <;> refine ⟨by simp only [endE, cond_true, cond_false]; omega, by simp only [endE, cond_true, cond_false]; omega, by simp only [endE, cond_true, cond_false]; omega, by simp only [endE, cond_true, cond_false]; omega, by simp [endE], fun x hx => ?_⟩ <;>
 ·obtain ⟨k, hk, rfl⟩ := List.mem_map.1 hx
  have := cell_facts (h1.2.2.2.2.1 k hk)
  simp only [cond_true, cond_false]; omega
theorem wave_q {w l : Int} (hw : 0 ≤ w ∧ w ≤ 10000) (hl : 0 ≤ l ∧ l ≤ 1000) : 0 ≤ w * l ∧ w * l ≤ 10000000 ∧ (w * l).tdiv 1000 = (w * l) / 1000 ∧ 0 ≤ (w * l) / 1000 ∧ (w * l) / 1000 ≤ w := by
 have e0 : 0 ≤ w * l := Int.mul_nonneg hw.1 hl.1
 have e1 : w * l ≤ w * 1000 := Int.mul_le_mul_of_nonneg_left hl.2 hw.1
 refine ⟨e0, by omega, Int.tdiv_eq_ediv_of_nonneg e0, by omega, by omega⟩
theorem wave_0 {s : WShore} {t : WTruth} (ht : tOk s t) : 0 ≤ t.fetch * t.wind ∧ t.fetch * t.wind ≤ 10000000 ∧ (t.fetch * t.wind).tdiv 1000 = (t.fetch * t.wind) / 1000 ∧ 0 ≤ (t.fetch * t.wind) / 1000 ∧ (t.fetch * t.wind) / 1000 ≤ 10000 := by
 have h := wave_q (w := t.fetch) (l := t.wind) ht.2.1 ht.1
 refine ⟨h.1, h.2.1, h.2.2.1, h.2.2.2.1, by omega⟩
theorem waveN_in {l : Int} (hl : 0 ≤ l ∧ l ≤ 1000) : ∀ (n : Nat) (w : Int), 0 ≤ w ∧ w ≤ 10000 → 0 ≤ waveN l n w ∧ waveN l n w ≤ 10000
 | 0, w, hw => hw
 | n + 1, w, hw => by
   have h := wave_q hw hl
   exact waveN_in hl n _ (by omega)
theorem waveN_cons {l w r i : Int} (h : i < r) : waveN l (r - i).toNat w = waveN l (r - (i + 1)).toNat (w - (w * l).tdiv 1000) := by
 rw [show (r - i).toNat = (r - (i + 1)).toNat + 1 by omega]; rfl
theorem waveN_nil {l w r i : Int} (h : r ≤ i) : waveN l (r - i).toNat w = w := by
 rw [show (r - i).toNat = 0 by omega]; rfl
theorem level_in {s : WShore} {t : WTruth} (ht : tOk s t) : -5000 ≤ levelF s t ∧ levelF s t ≤ 15000 := by
 have h0 := wave_0 ht
 have h1 := waveN_in ht.2.2.2.1 s.reef.toNat ((t.fetch * t.wind).tdiv 1000) (by omega)
 have h2 := ht.2.2.1
 unfold levelF; omega
def workOf (s : WShore) (k : Int) : WWork := if 0 ≤ k then s.works.getD k.toNat default else ⟨0, 0, 0⟩
def wk (s : WShore) (plan : List Int) (i : Int) : WWork := workOf s (plan.getD i.toNat default)
def gr (s : WShore) (i : Int) : Int := (s.cells.getD i.toNat default).ground
def playI (s : WShore) (plan : List Int) (t : WTruth) : List Int → Int → Bool → List Int
 | [], _, _ => []
 | i :: l, lv, r => (bif r && decide (gr s i + (wk s plan i).rise < lv - t.drags.getD i.toNat default - (wk s plan i).calm) then lv - t.drags.getD i.toNat default - (wk s plan i).calm - gr s i else 0) :: playI s plan t l (lv - t.drags.getD i.toNat default - (wk s plan i).calm) (r && decide (gr s i + (wk s plan i).rise < lv - t.drags.getD i.toNat default - (wk s plan i).calm))
def playL (s : WShore) (plan : List Int) (t : WTruth) : List Int := playI s plan t (upI 0 s.cells.length) (levelF s t) true
theorem workOf_in {s : WShore} {k : Int} (hs : shoreB s = true) (hk : k < s.works.length) : (0 ≤ (workOf s k).rise ∧ (workOf s k).rise ≤ 5000) ∧ (0 ≤ (workOf s k).calm ∧ (workOf s k).calm ≤ 5000) := by
 unfold workOf
 split
 ·have := work_facts ((shore_facts hs).2.2.2.2.2 _ (getD_mem (l := s.works) (i := k) (by omega) hk)); omega
 ·simp
theorem wk_in {s : WShore} {plan : List Int} {i : Int} (hs : shoreB s = true) (hp : planB s plan = true) (h0 : 0 ≤ i) (h1 : i < s.cells.length) : (0 ≤ (wk s plan i).rise ∧ (wk s plan i).rise ≤ 5000) ∧ (0 ≤ (wk s plan i).calm ∧ (wk s plan i).calm ≤ 5000) := by
 have h2 := plan_facts hp
 have h3 := h2.2 _ (getD_mem (l := plan) (i := i) h0 (by omega))
 exact workOf_in hs h3.2
theorem gr_in {s : WShore} {i : Int} (hs : shoreB s = true) (h0 : 0 ≤ i) (h1 : i < s.cells.length) : -5000 ≤ gr s i ∧ gr s i ≤ 5000 := by
 have := cell_facts ((shore_facts hs).2.2.2.2.1 _ (getD_mem (l := s.cells) (i := i) h0 h1)); unfold gr; omega
theorem drag_in {s : WShore} {t : WTruth} {i : Int} (ht : tOk s t) (h0 : 0 ≤ i) (h1 : i < s.cells.length) : 0 ≤ t.drags.getD i.toNat default ∧ t.drags.getD i.toNat default ≤ 5000 :=
 ht.2.2.2.2.2 _ (getD_mem (l := t.drags) (i := i) h0 (by have := ht.2.2.2.2.1; omega))
theorem playI_cons {s : WShore} {plan : List Int} {t : WTruth} {i lv : Int} {r : Bool} (h : i < s.cells.length) : playI s plan t (upI i s.cells.length) lv r = (bif r && decide (gr s i + (wk s plan i).rise < lv - t.drags.getD i.toNat default - (wk s plan i).calm) then lv - t.drags.getD i.toNat default - (wk s plan i).calm - gr s i else 0) :: playI s plan t (upI (i + 1) s.cells.length) (lv - t.drags.getD i.toNat default - (wk s plan i).calm) (r && decide (gr s i + (wk s plan i).rise < lv - t.drags.getD i.toNat default - (wk s plan i).calm)) := by
 rw [upI_cons h]; rfl
end Go.Proofs.Ytiigkdhaofaijaa

namespace Go.Proofs.Ytiigkdhaofaijaa
open Go Go.CE Go.RowKit
set_option maxRecDepth 100000
def plevel_v0 (s : WShore) (c : WStorm) (t : WTruth) (w i : Int) : List Value := [pA 2 0, .int .i64 w, .int .i64 s.reef, .int .i64 i]
def plevel_o0 (s : WShore) (c : WStorm) (t : WTruth) (w i : Int) : List Obj := [Obj.cells #[.int .i64 t.wind, .int .i64 t.fetch, .int .i64 t.tide, .int .i64 t.loss, topV 1 (slT t.drags.length (rowL encI t.drags))] 38]
noncomputable def plevel_t0 : List Item := ([.code [1, 1, 0, 1, 0, 0], .inLoop [1, 1, 0, 1, 0, 0], .inBlock 0, .code [1, 1, 1]]).map (it (bodyOf Try.prog 75))
def plevel_h0 (B : Lo) (c0 : CF) (s : WShore) (c : WStorm) (t : WTruth) (w i : Int) : Prop := ∃ dJ : Nat → Value, (∀ t, Loose (dJ t)) ∧ GoE Try.prog B c0 H00 1 (headC 75 28 (([3, 5, 13, 14] : List Nat).zip (plevel_v0 s c t w i)) dJ plevel_t0) (headH (plevel_o0 s c t w i)) (2 + (plevel_o0 s c t w i).length) []
theorem plevel_s0 (B : Lo) (s : WShore) (c : WStorm) (t : WTruth) (w i : Int) (dJ0 : Nat → Value) : landM (srunT Try.prog (okFn Try.prog) J0 B 11 1 (headC 75 28 (([3, 5, 13, 14] : List Nat).zip (plevel_v0 s c t w i)) dJ0 plevel_t0) (headH (plevel_o0 s c t w i)) (2 + (plevel_o0 s c t w i).length)
 [(0, hvT), (5, HintT.pure (.int .i64 (Int.tdiv (w * t.loss) 1000)) []), (6, hvI (w - Int.tdiv (w * t.loss) 1000)), (8, hvI (i + 1))] 0 [] []) [3, 5, 13, 14] [(2, KS.auto)] [] = some ⟨75, 28, plevel_t0, [], .run, none, plevel_v0 s c t (w - Int.tdiv (w * t.loss) 1000) (i + 1), plevel_o0 s c t (w - Int.tdiv (w * t.loss) 1000) (i + 1),
 [wq (i + 1) = i + 1, wq (w - Int.tdiv (w * t.loss) 1000) = w - Int.tdiv (w * t.loss) 1000, AllP [] ∧ PureC Try.prog J0 97 #[.int .i64 w, .int .i64 t.loss] (.int .i64 (Int.tdiv (w * t.loss) 1000)), ltq i s.reef = true]⟩ := by kernel_rfl
noncomputable def plevel_H0 (s : WShore) (c : WStorm) (t : WTruth) (w i : Int) (dJ0 : Nat → Value) : Heap := [(3, Obj.cells #[.int .i64 t.tide, .int .i64 w] 3), (0, Obj.coro none), (1, Obj.coro none), (2, Obj.cells #[.int .i64 t.wind, .int .i64 t.fetch, .int .i64 t.tide, .int .i64 t.loss, topV 1 (slT t.drags.length (rowL encI t.drags))] 38)]
noncomputable def plevel_c0 (s : WShore) (c : WStorm) (t : WTruth) (w i : Int) (dJ0 : Nat → Value) : CF := ⟨98, ofList 17 [Value.slice (some { block := 3, off := 0 }) 2 1], [Item.code (bodyOf Try.prog 98)], [], .run, none⟩
theorem plevel_s1 (B : Lo) (s : WShore) (c : WStorm) (t : WTruth) (w i : Int) (dJ0 : Nat → Value) : CE.finK 4 (srunT Try.prog (okFn Try.prog) J0 B 44 4 (plevel_c0 s c t w i dJ0) (plevel_H0 s c t w i dJ0) 4
 [(11, hvI (0 + t.tide)), (21, hvI (0 + t.tide + w))] 0 [] []) [] [] [] = some (OO.ret (.int .i64 (0 + t.tide + w)), [], [],
 [wq (0 + t.tide + w) = 0 + t.tide + w, wq (0 + t.tide) = 0 + t.tide]) := by kernel_rfl
theorem plevel_s2 (B : Lo) (s : WShore) (c : WStorm) (t : WTruth) (w i : Int) (dJ0 : Nat → Value) : endT (srunT Try.prog (okFn Try.prog) J0 B 9 1 (headC 75 28 (([3, 5, 13, 14] : List Nat).zip (plevel_v0 s c t w i)) dJ0 plevel_t0) (headH (plevel_o0 s c t w i)) (2 + (plevel_o0 s c t w i).length)
 [(0, hvF), (5, HintT.call (List.range 4) (OO.ret (.int .i64 (0 + t.tide + w))) ([] ++ (4, regO) :: heapL 5 []) 5 [])] 0 [] []) [] = some (.int .i64 (0 + t.tide + w),
 [FJ Try.prog B (plevel_c0 s c t w i dJ0) (plevel_H0 s c t w i dJ0) 4 (OO.ret (.int .i64 (0 + t.tide + w))) (([] ++ ((4, regO) :: heapL (4 + 1) [])) ++ plevel_H0 s c t w i dJ0) 5 (List.range 4) [], ltq i s.reef = false]) := by kernel_rfl
theorem plevel_s3 (B : Lo) (s : WShore) (c : WStorm) (t : WTruth) : landM (srunT Try.prog (okFn Try.prog) J0 B 9 1 (entryC Try.prog 75 28 (([.agg (encStormy s c).toArray, .agg (encTruth t).toArray]).map (pushT 0 4))) H00 1
 [(7, HintT.pure (.int .i64 (Int.tdiv (t.fetch * t.wind) 1000)) [])] 0 [] []) [3, 5, 13, 14] [(2, KS.auto)] [] = some ⟨75, 28, plevel_t0, [], .run, none, plevel_v0 s c t (Int.tdiv (t.fetch * t.wind) 1000) (0), plevel_o0 s c t (Int.tdiv (t.fetch * t.wind) 1000) (0),
 [AllP [] ∧ PureC Try.prog J0 97 #[.int .i64 t.fetch, .int .i64 t.wind] (.int .i64 (Int.tdiv (t.fetch * t.wind) 1000))]⟩ := by kernel_rfl
set_option maxHeartbeats 4000000 in
theorem plevel_ls (s : WShore) (c : WStorm) (t : WTruth) (hr : 0 ≤ s.reef ∧ s.reef ≤ 20) (ht : tOk s t) {B : Lo} (hJ : ∀ w, B.has w → J0 w) {c0 : CF} : ∀ m : Nat, (∀ (w i : Int), (s.reef - i).toNat = m → ∀ (h0 : 0 ≤ i) (hw : 0 ≤ w ∧ w ≤ 10000), plevel_h0 B c0 s c t w i → EndsT Try.prog B c0 (.int .i64 (t.tide + waveN t.loss (s.reef - i).toNat w))) := by
 intro m0
 induction m0 using Nat.strongRecOn with
 | _ m0 ih0 =>
   intro w i hm0 h0 hw ⟨dJ0, hdJ0, hg0⟩
   have h0 := wave_0 ht
   have hlt := ht.2.2.1
   have hll := ht.2.2.2.1
   have hwi := ht.1
   have hfe := ht.2.1
   have hq := wave_q hw ht.2.2.2.1
   have hlt := ht.2.2.1
   have hll := ht.2.2.2.1
   by_cases q0 : (i : Int) < s.reef
   ·
    have s2 := waveN_cons (l := t.loss) (w := w) q0
    exact ((ih0 _ (by omega)) (w - Int.tdiv (w * t.loss) 1000) (i + 1) rfl (by omega) (by omega)
     (hg0.landM okF hJ mixed_ok (plevel_s0 B s c t w i dJ0)
     ⟨(wq_in (by omega) (by omega)), ⟨(wq_in (by omega) (by omega)), ⟨⟨trivial, pPart (w) t.loss (by omega) (by omega)⟩, ⟨(ltq_t q0), trivial⟩⟩⟩⟩ (by kernel_rfl) (by kernel_rfl))).cast (by (rw [s2]; done))
   ·
    have rj0 : FJ Try.prog B (plevel_c0 s c t w i dJ0) (plevel_H0 s c t w i dJ0) 4 (OO.ret (.int .i64 (0 + t.tide + w))) (([] ++ ((4, regO) :: heapL (4 + 1) [])) ++ plevel_H0 s c t w i dJ0) 5 (List.range 4) [] := by
     have s2 := waveN_nil (l := t.loss) (w := w) (r := s.reef) (i := i) (by omega)
     exact FinK.fjB (GoE.finK okF hJ mixed_ok (under_all (by kernel_rfl)) (writable_of (by kernel_rfl)) ((GoE.refl (P := Try.prog) (B := B) (c0 := plevel_c0 s c t w i dJ0) (under_all (by kernel_rfl))).widen (Wf := ((([]) : List (Nat × KS)).map (·.1))) (by simp) (writable_of (by kernel_rfl))) (plevel_s1 B s c t w i dJ0)
      ⟨(wq_in (by omega) (by omega)), ⟨(wq_in (by omega) (by omega)), trivial⟩⟩) (ex := []) (by kernel_rfl) (lowX_nil _)
    have s2 := waveN_nil (l := t.loss) (w := w) (r := s.reef) (i := i) (by omega)
    exact (GoE.endsT okF hJ mixed_ok hg0 (plevel_s2 B s c t w i dJ0)
     ⟨rj0, ⟨(ltq_f (Int.not_lt.1 q0)), trivial⟩⟩).cast (by (rw [s2]; simp [sumL]; done))
set_option maxHeartbeats 4000000 in
theorem plevel_e (s : WShore) (c : WStorm) (t : WTruth) (hr : 0 ≤ s.reef ∧ s.reef ≤ 20) (ht : tOk s t) {B : Lo} (hJ : ∀ w, B.has w → J0 w) : EndsT Try.prog B (entryC Try.prog 75 28 (([.agg (encStormy s c).toArray, .agg (encTruth t).toArray]).map (pushT 0 4))) (.int .i64 (levelF s t)) := by
 have h0 := wave_0 ht
 have hlt := ht.2.2.1
 have hll := ht.2.2.2.1
 have hwi := ht.1
 have hfe := ht.2.1
 exact ((plevel_ls s c t hr ht hJ _) (Int.tdiv (t.fetch * t.wind) 1000) (0) rfl (by omega) (by omega)
  (GoE.start.landM okF hJ mixed_ok (plevel_s3 B s c t)
  ⟨⟨trivial, pPart t.fetch t.wind (by omega) (by omega)⟩, trivial⟩ (by kernel_rfl) (by kernel_rfl))).cast (by (rw [Int.sub_zero]; rfl))
theorem plevel (s : WShore) (c : WStorm) (t : WTruth) (hr : 0 ≤ s.reef ∧ s.reef ≤ 20) (ht : tOk s t) : PureC Try.prog J0 75 #[.agg (encStormy s c).toArray, .agg (encTruth t).toArray] (.int .i64 (levelF s t)) :=
 pureC_of (ts := [.agg (encStormy s c).toArray, .agg (encTruth t).toArray]) J0_st (c0 := entryC Try.prog 75 28 (([.agg (encStormy s c).toArray, .agg (encTruth t).toArray]).map (pushT 0 4))) (by kernel_rfl) (by kernel_rfl) fun B hJ => plevel_e s c t hr ht hJ
def pEachSH_v0 (xs : List Span) (i : Int) (ys : List Int) : List Value := [Value.func (Fn.func 77) #[] #[], Value.slice (some { block := 2, off := 0 }) xs.length 1, topV 1 (slT xs.length (rowL encSp xs)), .int .i64 (↑xs.length : Int), .int .i64 i]
def pEachSH_o0 (xs : List Span) (i : Int) (ys : List Int) : List Obj := [.cells (rowL encI ys) 3 (0, 0)]
noncomputable def pEachSH_t0 : List Item := ([.code [1, 1, 0, 1, 0, 0], .inLoop [1, 1, 0, 1, 0, 0], .inBlock 0, .code [1, 1, 1]]).map (it (bodyOf Try.prog 99))
def pEachSH_h0 (B : Lo) (c0 : CF) (xs : List Span) (i : Int) (ys : List Int) : Prop := ∃ dJ : Nat → Value, (∀ t, Loose (dJ t)) ∧ GoE Try.prog B c0 H00 1 (headC 99 26 (([1, 5, 11, 12, 13] : List Nat).zip (pEachSH_v0 xs i ys)) dJ pEachSH_t0) (headH (pEachSH_o0 xs i ys)) (2 + (pEachSH_o0 xs i ys).length) []
noncomputable def pEachSH_z0 (xs : List Span) (i : Int) : Array Value := #[.int .i64 (Span.lo (List.getD xs i.toNat default)), .int .i64 (Span.hi (List.getD xs i.toNat default))]
theorem pEachSH_s0 (B : Lo) (xs : List Span) (i : Int) (ys : List Int) (dJ0 : Nat → Value) : landM (srunT Try.prog (okFn Try.prog) J0 B 13 1 (headC 99 26 (([1, 5, 11, 12, 13] : List Nat).zip (pEachSH_v0 xs i ys)) dJ0 pEachSH_t0) (headH (pEachSH_o0 xs i ys)) (2 + (pEachSH_o0 xs i ys).length)
 [(0, hvT), (2, HintT.tidx i.toNat (pEachSH_z0 xs i)), (11, HintT.pure (.int .i64 (Span.hi (List.getD xs i.toNat default))) []), (12, HintT.old (Hint.idx i.toNat)), (13, HintT.old (Hint.st (rowL encI (List.set ys i.toNat (Span.hi (List.getD xs i.toNat default)))))), (14, hvI (i + 1))] 0 [] []) [1, 5, 11, 12, 13] [(2, KS.cells [] (rowL encI (List.set ys i.toNat (Span.hi (List.getD xs i.toNat default)))))] [] = some ⟨99, 26, pEachSH_t0, [], .run, none, pEachSH_v0 xs (i + 1) (List.set ys i.toNat (Span.hi (List.getD xs i.toNat default))), pEachSH_o0 xs (i + 1) (List.set ys i.toNat (Span.hi (List.getD xs i.toNat default))),
 [CellsM 1 [] (rowL encI (List.set ys i.toNat (Span.hi (List.getD xs i.toNat default)))) (rowL encI (List.set ys i.toNat (Span.hi (List.getD xs i.toNat default)))), wq (i + 1) = i + 1, 0 + Int.toNat i * 1 + TypeInfo.size Try.t3 ≤ Array.size (rowL encI ys) ∧ splice (rowL encI ys) (0 + Int.toNat i * 1) (Value.cells (tget { len := 16000, tr := Tri.set 14 (Tri.set 14 Tri.lf 22 (.int .i64 (Span.hi (List.getD xs i.toNat default)))) 23 (Value.pointer (some { block := 2, off := 0 + Int.toNat i * 1 })) } 22)) = rowL encI (List.set ys i.toNat (Span.hi (List.getD xs i.toNat default))), i = (↑i.toNat : Int) ∧ Int.toNat i < List.length xs, AllP [] ∧ PureC Try.prog J0 77 #[Value.agg (pEachSH_z0 xs i)] (.int .i64 (Span.hi (List.getD xs i.toNat default))), i = (↑i.toNat : Int) ∧ Int.toNat i < List.length xs ∧ Array.extract (rowL encSp xs) (Int.toNat i * TypeInfo.size Try.t25) (Int.toNat i * TypeInfo.size Try.t25 + TypeInfo.size Try.t25) = (pEachSH_z0 xs i), ltq i (↑xs.length : Int) = true]⟩ := by kernel_rfl
theorem pEachSH_s1 (B : Lo) (xs : List Span) (i : Int) (ys : List Int) (dJ0 : Nat → Value) : endT (srunT Try.prog (okFn Try.prog) J0 B 9 1 (headC 99 26 (([1, 5, 11, 12, 13] : List Nat).zip (pEachSH_v0 xs i ys)) dJ0 pEachSH_t0) (headH (pEachSH_o0 xs i ys)) (2 + (pEachSH_o0 xs i ys).length)
 [(0, hvF)] 0 [] []) [{ k := 2, rs := [], cs := rowL encI ys }] = some (slT xs.length (Fz.cs { k := 2, rs := [], cs := rowL encI ys }),
 [CellsT (Fz.rs { k := 2, rs := [], cs := rowL encI ys }) (rowL encI ys) (Fz.cs { k := 2, rs := [], cs := rowL encI ys }), ltq i (↑xs.length : Int) = false]) := by kernel_rfl
theorem pEachSH_s2 (B : Lo) (xs : List Span) : landM (srunT Try.prog (okFn Try.prog) J0 B 9 1 (entryC Try.prog 99 26 (([slSp xs, .func (.func 77) #[] #[]]).map (pushT 0 4))) H00 1
 [(3, HintT.old (Hint.mk xs.length (rowL (zeroE [.int .i64 0]) (List.replicate xs.length ()))))] 0 [] []) [1, 5, 11, 12, 13] [(1, KS.rows [] [] (rowL encI (List.replicate xs.length 0)))] [] = some ⟨99, 26, pEachSH_t0, [], .run, none, pEachSH_v0 xs (0) (List.replicate xs.length 0), pEachSH_o0 xs (0) (List.replicate xs.length 0),
 [CellsX 1 [] [] (rowL (zeroE [.int .i64 0]) (List.replicate xs.length ())) (rowL encI (List.replicate xs.length 0)), cMake Try.prog 36 (tget { len := 16000, tr := Tri.set 14 Tri.lf 9 (.int .i64 (↑xs.length : Int)) } 9) (tget { len := 16000, tr := Tri.set 14 Tri.lf 9 (.int .i64 (↑xs.length : Int)) } 9) = some (3, rowL (zeroE [.int .i64 0]) (List.replicate xs.length ()), List.length xs, TypeInfo.size Try.t3)]⟩ := by kernel_rfl
set_option maxHeartbeats 4000000 in
theorem pEachSH_ls (xs : List Span) (hn : xs.length ≤ 1000000) {B : Lo} (hJ : ∀ w, B.has w → J0 w) {c0 : CF} : ∀ m : Nat, (∀ (i : Int) (ys : List Int), (xs.length - i.toNat) = m → ∀ (h0 : 0 ≤ i) (hy : ys = doneL Span.hi 0 xs i), pEachSH_h0 B c0 xs i ys → EndsT Try.prog B c0 (slI (xs.map Span.hi))) := by
 intro m0
 induction m0 using Nat.strongRecOn with
 | _ m0 ih0 =>
   intro i ys hm0 h0 hy ⟨dJ0, hdJ0, hg0⟩
   have hyl : ys.length = xs.length := by rw [hy]; exact doneL_len
   by_cases q0 : (i : Int) < ((↑xs.length : Int))
   ·
    exact ((ih0 _ (by omega)) (i + 1) (List.set ys i.toNat (Span.hi (List.getD xs i.toNat default))) rfl (by omega) (by (subst hy; exact doneL_set (f := Span.hi) h0 q0))
     (hg0.landM okF hJ mixed_ok (pEachSH_s0 B xs i ys dJ0)
     ⟨(cellsM_simple (rowL_simple (fun x => List.all_eq_true.1 (by rfl)))), ⟨(wq_in (by omega) (by omega)), ⟨(by exact rowL_st0 (z := 1) (fun _ => rfl) (by omega) rfl rfl), ⟨⟨by omega, by omega⟩, ⟨⟨trivial, pHigh (Span.lo (List.getD xs i.toNat default)) (Span.hi (List.getD xs i.toNat default))⟩, ⟨⟨by omega, by omega, (rowL_extract (z := 2) (fun _ => rfl) (by omega))⟩, ⟨(ltq_t q0), trivial⟩⟩⟩⟩⟩⟩⟩ (by kernel_rfl) (by kernel_rfl))).cast (by rfl)
   ·
    exact (GoE.endsT okF hJ mixed_ok hg0 (pEachSH_s1 B xs i ys dJ0)
     ⟨(rowL_cellsT (fun x => List.all_eq_true.1 (by rfl))), ⟨(ltq_f (Int.not_lt.1 q0)), trivial⟩⟩).cast (by exact row_len (hy.trans (doneL_end (by omega))) (by simp))
set_option maxHeartbeats 4000000 in
theorem pEachSH_e (xs : List Span) (hn : xs.length ≤ 1000000) {B : Lo} (hJ : ∀ w, B.has w → J0 w) : EndsT Try.prog B (entryC Try.prog 99 26 (([slSp xs, .func (.func 77) #[] #[]]).map (pushT 0 4))) (slI (xs.map Span.hi)) := by
 exact ((pEachSH_ls xs hn hJ _) (0) (List.replicate xs.length 0) rfl (by omega) (by exact doneL_0)
  (GoE.start.landM okF hJ mixed_ok (pEachSH_s2 B xs)
  ⟨(by exact (cellsX_zero (by exact ⟨(.simple rfl), trivial⟩) _)), ⟨(cMakeL (bytes := 8) (by kernel_rfl) (by omega) (by omega) (by omega)), trivial⟩⟩ (by kernel_rfl) (by kernel_rfl))).cast (by rfl)
def pEachSL_v0 (xs : List Span) (i : Int) (ys : List Int) : List Value := [Value.func (Fn.func 78) #[] #[], Value.slice (some { block := 2, off := 0 }) xs.length 1, topV 1 (slT xs.length (rowL encSp xs)), .int .i64 (↑xs.length : Int), .int .i64 i]
def pEachSL_o0 (xs : List Span) (i : Int) (ys : List Int) : List Obj := [.cells (rowL encI ys) 3 (0, 0)]
noncomputable def pEachSL_t0 : List Item := ([.code [1, 1, 0, 1, 0, 0], .inLoop [1, 1, 0, 1, 0, 0], .inBlock 0, .code [1, 1, 1]]).map (it (bodyOf Try.prog 99))
def pEachSL_h0 (B : Lo) (c0 : CF) (xs : List Span) (i : Int) (ys : List Int) : Prop := ∃ dJ : Nat → Value, (∀ t, Loose (dJ t)) ∧ GoE Try.prog B c0 H00 1 (headC 99 26 (([1, 5, 11, 12, 13] : List Nat).zip (pEachSL_v0 xs i ys)) dJ pEachSL_t0) (headH (pEachSL_o0 xs i ys)) (2 + (pEachSL_o0 xs i ys).length) []
noncomputable def pEachSL_z0 (xs : List Span) (i : Int) : Array Value := #[.int .i64 (Span.lo (List.getD xs i.toNat default)), .int .i64 (Span.hi (List.getD xs i.toNat default))]
theorem pEachSL_s0 (B : Lo) (xs : List Span) (i : Int) (ys : List Int) (dJ0 : Nat → Value) : landM (srunT Try.prog (okFn Try.prog) J0 B 13 1 (headC 99 26 (([1, 5, 11, 12, 13] : List Nat).zip (pEachSL_v0 xs i ys)) dJ0 pEachSL_t0) (headH (pEachSL_o0 xs i ys)) (2 + (pEachSL_o0 xs i ys).length)
 [(0, hvT), (2, HintT.tidx i.toNat (pEachSL_z0 xs i)), (11, HintT.pure (.int .i64 (Span.lo (List.getD xs i.toNat default))) []), (12, HintT.old (Hint.idx i.toNat)), (13, HintT.old (Hint.st (rowL encI (List.set ys i.toNat (Span.lo (List.getD xs i.toNat default)))))), (14, hvI (i + 1))] 0 [] []) [1, 5, 11, 12, 13] [(2, KS.cells [] (rowL encI (List.set ys i.toNat (Span.lo (List.getD xs i.toNat default)))))] [] = some ⟨99, 26, pEachSL_t0, [], .run, none, pEachSL_v0 xs (i + 1) (List.set ys i.toNat (Span.lo (List.getD xs i.toNat default))), pEachSL_o0 xs (i + 1) (List.set ys i.toNat (Span.lo (List.getD xs i.toNat default))),
 [CellsM 1 [] (rowL encI (List.set ys i.toNat (Span.lo (List.getD xs i.toNat default)))) (rowL encI (List.set ys i.toNat (Span.lo (List.getD xs i.toNat default)))), wq (i + 1) = i + 1, 0 + Int.toNat i * 1 + TypeInfo.size Try.t3 ≤ Array.size (rowL encI ys) ∧ splice (rowL encI ys) (0 + Int.toNat i * 1) (Value.cells (tget { len := 16000, tr := Tri.set 14 (Tri.set 14 Tri.lf 22 (.int .i64 (Span.lo (List.getD xs i.toNat default)))) 23 (Value.pointer (some { block := 2, off := 0 + Int.toNat i * 1 })) } 22)) = rowL encI (List.set ys i.toNat (Span.lo (List.getD xs i.toNat default))), i = (↑i.toNat : Int) ∧ Int.toNat i < List.length xs, AllP [] ∧ PureC Try.prog J0 78 #[Value.agg (pEachSL_z0 xs i)] (.int .i64 (Span.lo (List.getD xs i.toNat default))), i = (↑i.toNat : Int) ∧ Int.toNat i < List.length xs ∧ Array.extract (rowL encSp xs) (Int.toNat i * TypeInfo.size Try.t25) (Int.toNat i * TypeInfo.size Try.t25 + TypeInfo.size Try.t25) = (pEachSL_z0 xs i), ltq i (↑xs.length : Int) = true]⟩ := by kernel_rfl
theorem pEachSL_s1 (B : Lo) (xs : List Span) (i : Int) (ys : List Int) (dJ0 : Nat → Value) : endT (srunT Try.prog (okFn Try.prog) J0 B 9 1 (headC 99 26 (([1, 5, 11, 12, 13] : List Nat).zip (pEachSL_v0 xs i ys)) dJ0 pEachSL_t0) (headH (pEachSL_o0 xs i ys)) (2 + (pEachSL_o0 xs i ys).length)
 [(0, hvF)] 0 [] []) [{ k := 2, rs := [], cs := rowL encI ys }] = some (slT xs.length (Fz.cs { k := 2, rs := [], cs := rowL encI ys }),
 [CellsT (Fz.rs { k := 2, rs := [], cs := rowL encI ys }) (rowL encI ys) (Fz.cs { k := 2, rs := [], cs := rowL encI ys }), ltq i (↑xs.length : Int) = false]) := by kernel_rfl
theorem pEachSL_s2 (B : Lo) (xs : List Span) : landM (srunT Try.prog (okFn Try.prog) J0 B 9 1 (entryC Try.prog 99 26 (([slSp xs, .func (.func 78) #[] #[]]).map (pushT 0 4))) H00 1
 [(3, HintT.old (Hint.mk xs.length (rowL (zeroE [.int .i64 0]) (List.replicate xs.length ()))))] 0 [] []) [1, 5, 11, 12, 13] [(1, KS.rows [] [] (rowL encI (List.replicate xs.length 0)))] [] = some ⟨99, 26, pEachSL_t0, [], .run, none, pEachSL_v0 xs (0) (List.replicate xs.length 0), pEachSL_o0 xs (0) (List.replicate xs.length 0),
 [CellsX 1 [] [] (rowL (zeroE [.int .i64 0]) (List.replicate xs.length ())) (rowL encI (List.replicate xs.length 0)), cMake Try.prog 36 (tget { len := 16000, tr := Tri.set 14 Tri.lf 9 (.int .i64 (↑xs.length : Int)) } 9) (tget { len := 16000, tr := Tri.set 14 Tri.lf 9 (.int .i64 (↑xs.length : Int)) } 9) = some (3, rowL (zeroE [.int .i64 0]) (List.replicate xs.length ()), List.length xs, TypeInfo.size Try.t3)]⟩ := by kernel_rfl
set_option maxHeartbeats 4000000 in
theorem pEachSL_ls (xs : List Span) (hn : xs.length ≤ 1000000) {B : Lo} (hJ : ∀ w, B.has w → J0 w) {c0 : CF} : ∀ m : Nat, (∀ (i : Int) (ys : List Int), (xs.length - i.toNat) = m → ∀ (h0 : 0 ≤ i) (hy : ys = doneL Span.lo 0 xs i), pEachSL_h0 B c0 xs i ys → EndsT Try.prog B c0 (slI (xs.map Span.lo))) := by
 intro m0
 induction m0 using Nat.strongRecOn with
 | _ m0 ih0 =>
   intro i ys hm0 h0 hy ⟨dJ0, hdJ0, hg0⟩
   have hyl : ys.length = xs.length := by rw [hy]; exact doneL_len
   by_cases q0 : (i : Int) < ((↑xs.length : Int))
   ·
    exact ((ih0 _ (by omega)) (i + 1) (List.set ys i.toNat (Span.lo (List.getD xs i.toNat default))) rfl (by omega) (by (subst hy; exact doneL_set (f := Span.lo) h0 q0))
     (hg0.landM okF hJ mixed_ok (pEachSL_s0 B xs i ys dJ0)
     ⟨(cellsM_simple (rowL_simple (fun x => List.all_eq_true.1 (by rfl)))), ⟨(wq_in (by omega) (by omega)), ⟨(by exact rowL_st0 (z := 1) (fun _ => rfl) (by omega) rfl rfl), ⟨⟨by omega, by omega⟩, ⟨⟨trivial, pLow (Span.lo (List.getD xs i.toNat default)) (Span.hi (List.getD xs i.toNat default))⟩, ⟨⟨by omega, by omega, (rowL_extract (z := 2) (fun _ => rfl) (by omega))⟩, ⟨(ltq_t q0), trivial⟩⟩⟩⟩⟩⟩⟩ (by kernel_rfl) (by kernel_rfl))).cast (by rfl)
   ·
    exact (GoE.endsT okF hJ mixed_ok hg0 (pEachSL_s1 B xs i ys dJ0)
     ⟨(rowL_cellsT (fun x => List.all_eq_true.1 (by rfl))), ⟨(ltq_f (Int.not_lt.1 q0)), trivial⟩⟩).cast (by exact row_len (hy.trans (doneL_end (by omega))) (by simp))
set_option maxHeartbeats 4000000 in
theorem pEachSL_e (xs : List Span) (hn : xs.length ≤ 1000000) {B : Lo} (hJ : ∀ w, B.has w → J0 w) : EndsT Try.prog B (entryC Try.prog 99 26 (([slSp xs, .func (.func 78) #[] #[]]).map (pushT 0 4))) (slI (xs.map Span.lo)) := by
 exact ((pEachSL_ls xs hn hJ _) (0) (List.replicate xs.length 0) rfl (by omega) (by exact doneL_0)
  (GoE.start.landM okF hJ mixed_ok (pEachSL_s2 B xs)
  ⟨(by exact (cellsX_zero (by exact ⟨(.simple rfl), trivial⟩) _)), ⟨(cMakeL (bytes := 8) (by kernel_rfl) (by omega) (by omega) (by omega)), trivial⟩⟩ (by kernel_rfl) (by kernel_rfl))).cast (by rfl)
theorem pEachSL (xs : List Span) (hn : xs.length ≤ 1000000) : PureC Try.prog J0 99 #[slSp xs, .func (.func 78) #[] #[]] (slI (xs.map Span.lo)) :=
 pureC_of (ts := [slSp xs, .func (.func 78) #[] #[]]) J0_st (c0 := entryC Try.prog 99 26 (([slSp xs, .func (.func 78) #[] #[]]).map (pushT 0 4))) (by kernel_rfl) (by kernel_rfl) fun B hJ => pEachSL_e xs hn hJ
noncomputable def pworst_H0 (s : WShore) (c : WStorm) : Heap := [(2, Obj.cells #[.int .i64 0, .int .i64 0, .int .i64 0, .int .i64 0, Value.slice none 0 0] 38), (1, Obj.cells #[topV 0 (slT s.cells.length (rowL encWCell s.cells)), topV 0 (slT s.works.length (rowL encWWork s.works)), .int .i64 s.reef, .int .i64 s.llo, .int .i64 s.lhi, .int .i64 c.wlo, .int .i64 c.whi, .int .i64 c.flo, .int .i64 c.fhi, .int .i64 c.tlo, .int .i64 c.thi] 92), (0, Obj.coro none)]
noncomputable def pworst_c0 (s : WShore) (c : WStorm) : CF := ⟨76, ofList 32 [Value.agg #[topV 0 (slT s.cells.length (rowL encWCell s.cells)), topV 0 (slT s.works.length (rowL encWWork s.works)), .int .i64 s.reef, .int .i64 s.llo, .int .i64 s.lhi, .int .i64 c.wlo, .int .i64 c.whi, .int .i64 c.flo, .int .i64 c.fhi, .int .i64 c.tlo, .int .i64 c.thi], Value.func (Fn.func 77) #[] #[], Value.func (Fn.func 78) #[] #[]], [Item.code (bodyOf Try.prog 76)], [], .run, none⟩
noncomputable def pworst_z0 (s : WShore) : Value := (slT (List.length (List.map Span.lo (List.map spanOf s.cells))) (rowL encI (List.map Span.lo (List.map spanOf s.cells))))
theorem pworst_s0 (B : Lo) (s : WShore) (c : WStorm) : CE.finK 3 (srunT Try.prog (okFn Try.prog) J0 B 6 3 (pworst_c0 s c) (pworst_H0 s c) 3
 [(6, HintT.pure (.int .i64 c.whi) []), (11, HintT.pure (.int .i64 c.fhi) []), (16, HintT.pure (.int .i64 c.thi) []), (21, HintT.pure (.int .i64 s.llo) []), (23, HintT.pure (slT (List.length (List.map spanOf s.cells)) (rowL encSp (List.map spanOf s.cells))) []), (25, HintT.pure (pworst_z0 s) [])] 0 [] []) [] [] [] = some (OO.ret (Value.agg #[.int .i64 c.whi, .int .i64 c.fhi, .int .i64 c.thi, .int .i64 s.llo, topV 3 (slT (List.length (List.map Span.lo (List.map spanOf s.cells))) (rowL encI (List.map Span.lo (List.map spanOf s.cells))))]), [], [],
 [AllP [] ∧ PureC Try.prog J0 99 #[slT (List.length (List.map spanOf s.cells)) (rowL encSp (List.map spanOf s.cells)), Value.func (Fn.func 78) #[] #[]] (pworst_z0 s), AllP [] ∧ PureC Try.prog J0 82 #[Value.agg #[slT s.cells.length (rowL encWCell s.cells), slT s.works.length (rowL encWWork s.works), .int .i64 s.reef, .int .i64 s.llo, .int .i64 s.lhi, .int .i64 c.wlo, .int .i64 c.whi, .int .i64 c.flo, .int .i64 c.fhi, .int .i64 c.tlo, .int .i64 c.thi]] (slT (List.length (List.map spanOf s.cells)) (rowL encSp (List.map spanOf s.cells))), AllP [] ∧ PureC Try.prog J0 78 #[Value.agg #[.int .i64 s.llo, .int .i64 s.lhi]] (.int .i64 s.llo), AllP [] ∧ PureC Try.prog J0 77 #[Value.agg #[.int .i64 c.tlo, .int .i64 c.thi]] (.int .i64 c.thi), AllP [] ∧ PureC Try.prog J0 77 #[Value.agg #[.int .i64 c.flo, .int .i64 c.fhi]] (.int .i64 c.fhi), AllP [] ∧ PureC Try.prog J0 77 #[Value.agg #[.int .i64 c.wlo, .int .i64 c.whi]] (.int .i64 c.whi)]) := by kernel_rfl
theorem pworst_s1 (B : Lo) (s : WShore) (c : WStorm) : endT (srunT Try.prog (okFn Try.prog) J0 B 6 1 (entryC Try.prog 55 5 (([.agg (encStormy s c).toArray]).map (pushT 0 4))) H00 1
 [(3, HintT.call (List.range 3) (OO.ret (Value.agg #[.int .i64 c.whi, .int .i64 c.fhi, .int .i64 c.thi, .int .i64 s.llo, topV 3 (pworst_z0 s)])) ([] ++ (3, regO) :: heapL 4 []) 4 [])] 0 [] []) [] = some (Value.agg #[.int .i64 c.whi, .int .i64 c.fhi, .int .i64 c.thi, .int .i64 s.llo, slT (List.length (List.map Span.lo (List.map spanOf s.cells))) (rowL encI (List.map Span.lo (List.map spanOf s.cells)))],
 [FJ Try.prog B (pworst_c0 s c) (pworst_H0 s c) 3 (OO.ret (Value.agg #[.int .i64 c.whi, .int .i64 c.fhi, .int .i64 c.thi, .int .i64 s.llo, topV 3 (pworst_z0 s)])) (([] ++ ((3, regO) :: heapL (3 + 1) [])) ++ pworst_H0 s c) 4 (List.range 3) []]) := by kernel_rfl
set_option maxHeartbeats 4000000 in
theorem pworst_e (s : WShore) (c : WStorm) (hn : s.cells.length ≤ 1000000) {B : Lo} (hJ : ∀ w, B.has w → J0 w) : EndsT Try.prog B (entryC Try.prog 55 5 (([.agg (encStormy s c).toArray]).map (pushT 0 4))) (.agg (encTruth (endE true s c)).toArray) := by
 have hm : (s.cells.map spanOf).length ≤ 1000000 := by rw [List.length_map]; exact hn
 have rj0 : FJ Try.prog B (pworst_c0 s c) (pworst_H0 s c) 3 (OO.ret (Value.agg #[.int .i64 c.whi, .int .i64 c.fhi, .int .i64 c.thi, .int .i64 s.llo, topV 3 (slT (List.length (List.map Span.lo (List.map spanOf s.cells))) (rowL encI (List.map Span.lo (List.map spanOf s.cells))))])) (([] ++ ((3, regO) :: heapL (3 + 1) [])) ++ pworst_H0 s c) 4 (List.range 3) [] := by
  exact FinK.fjB (GoE.finK okF hJ mixed_ok (under_all (by kernel_rfl)) (writable_of (by kernel_rfl)) ((GoE.refl (P := Try.prog) (B := B) (c0 := pworst_c0 s c) (under_all (by kernel_rfl))).widen (Wf := ((([]) : List (Nat × KS)).map (·.1))) (by simp) (writable_of (by kernel_rfl))) (pworst_s0 B s c)
   ⟨⟨trivial, pEachSL (List.map spanOf s.cells) (by with_reducible assumption)⟩, ⟨⟨trivial, pdrags (s) (c) (by with_reducible assumption)⟩, ⟨⟨trivial, pLow s.llo s.lhi⟩, ⟨⟨trivial, pHigh c.tlo c.thi⟩, ⟨⟨trivial, pHigh c.flo c.fhi⟩, ⟨⟨trivial, pHigh c.wlo c.whi⟩, trivial⟩⟩⟩⟩⟩⟩) (ex := []) (by kernel_rfl) (lowX_nil _)
 exact (GoE.endsT okF hJ mixed_ok GoE.start (pworst_s1 B s c)
  ⟨rj0, trivial⟩).cast (by (rw [List.map_map]; rfl))
theorem pworst (s : WShore) (c : WStorm) (hn : s.cells.length ≤ 1000000) : PureC Try.prog J0 55 #[.agg (encStormy s c).toArray] (.agg (encTruth (endE true s c)).toArray) :=
 pureC_of (ts := [.agg (encStormy s c).toArray]) J0_st (c0 := entryC Try.prog 55 5 (([.agg (encStormy s c).toArray]).map (pushT 0 4))) (by kernel_rfl) (by kernel_rfl) fun B hJ => pworst_e s c hn hJ
noncomputable def pWorst_z0 (s : WShore) (c : WStorm) : Array Value := #[Value.agg #[slT s.cells.length (rowL encWCell s.cells), slT s.works.length (rowL encWWork s.works), .int .i64 s.reef, .int .i64 s.llo, .int .i64 s.lhi, .int .i64 c.wlo, .int .i64 c.whi, .int .i64 c.flo, .int .i64 c.fhi, .int .i64 c.tlo, .int .i64 c.thi]]
noncomputable def pWorst_p0 (B : Lo) (s : WShore) (c : WStorm) : List Prop := [AllP [] ∧ PureC Try.prog J0 53 #[Value.agg #[slT s.cells.length (rowL encWCell s.cells), slT s.works.length (rowL encWWork s.works), .int .i64 s.reef, .int .i64 s.llo, .int .i64 s.lhi], Value.agg #[.int .i64 c.wlo, .int .i64 c.whi, .int .i64 c.flo, .int .i64 c.fhi, .int .i64 c.tlo, .int .i64 c.thi]] (Value.agg #[slT s.cells.length (rowL encWCell s.cells), slT s.works.length (rowL encWWork s.works), .int .i64 s.reef, .int .i64 s.llo, .int .i64 s.lhi, .int .i64 c.wlo, .int .i64 c.whi, .int .i64 c.flo, .int .i64 c.fhi, .int .i64 c.tlo, .int .i64 c.thi])] ++ ([] : List Prop)
noncomputable def pWorst_q0 (s : WShore) (c : WStorm) : ScriptT := [(6, HintT.pure (Value.agg #[slT s.cells.length (rowL encWCell s.cells), slT s.works.length (rowL encWWork s.works), .int .i64 s.reef, .int .i64 s.llo, .int .i64 s.lhi, .int .i64 c.wlo, .int .i64 c.whi, .int .i64 c.flo, .int .i64 c.fhi, .int .i64 c.tlo, .int .i64 c.thi]) [])]
theorem pWorst_s0 (B : Lo) (s : WShore) (c : WStorm) : endT (srunT Try.prog (okFn Try.prog) J0 B 13 1 (entryC Try.prog 18 16 (([.agg (encShore s).toArray, .agg (encStorm c).toArray]).map (pushT 0 4))) H00 1
 (pWorst_q0 s c ++ [(10, HintT.pure (Value.bool true) []), (13, HintT.pure (Value.agg #[.int .i64 (WTruth.wind (endE true s c)), .int .i64 (WTruth.fetch (endE true s c)), .int .i64 (WTruth.tide (endE true s c)), .int .i64 (WTruth.loss (endE true s c)), slT (List.length (WTruth.drags (endE true s c))) (rowL encI (WTruth.drags (endE true s c)))]) [])]) 0 [] []) [] = some (Value.tuple #[Value.agg #[.int .i64 (WTruth.wind (endE true s c)), .int .i64 (WTruth.fetch (endE true s c)), .int .i64 (WTruth.tide (endE true s c)), .int .i64 (WTruth.loss (endE true s c)), slT (List.length (WTruth.drags (endE true s c))) (rowL encI (WTruth.drags (endE true s c)))], .int .i64 0],
 [AllP [] ∧ PureC Try.prog J0 55 (pWorst_z0 s c) (Value.agg #[.int .i64 (WTruth.wind (endE true s c)), .int .i64 (WTruth.fetch (endE true s c)), .int .i64 (WTruth.tide (endE true s c)), .int .i64 (WTruth.loss (endE true s c)), slT (List.length (WTruth.drags (endE true s c))) (rowL encI (WTruth.drags (endE true s c)))]), AllP [] ∧ PureC Try.prog J0 52 (pWorst_z0 s c) (Value.bool true)] ++ pWorst_p0 B s c) := by kernel_rfl
theorem pWorst_s1 (B : Lo) (s : WShore) (c : WStorm) : endT (srunT Try.prog (okFn Try.prog) J0 B 12 1 (entryC Try.prog 18 16 (([.agg (encShore s).toArray, .agg (encStorm c).toArray]).map (pushT 0 4))) H00 1
 (pWorst_q0 s c ++ [(10, HintT.pure (Value.bool false) [])]) 0 [] []) [] = some (Value.tuple #[Value.agg #[.int .i64 0, .int .i64 0, .int .i64 0, .int .i64 0, slT 0 #[]], .int .i64 2],
 [AllP [] ∧ PureC Try.prog J0 52 (pWorst_z0 s c) (Value.bool false)] ++ pWorst_p0 B s c) := by kernel_rfl
theorem pWorst_s2 (B : Lo) (s : WShore) (c : WStorm) : endT (srunT Try.prog (okFn Try.prog) J0 B 12 1 (entryC Try.prog 18 16 (([.agg (encShore s).toArray, .agg (encStorm c).toArray]).map (pushT 0 4))) H00 1
 (pWorst_q0 s c ++ [(10, HintT.pure (Value.bool false) [])]) 0 [] []) [] = some (Value.tuple #[Value.agg #[.int .i64 0, .int .i64 0, .int .i64 0, .int .i64 0, slT 0 #[]], .int .i64 2],
 [AllP [] ∧ PureC Try.prog J0 52 (pWorst_z0 s c) (Value.bool false)] ++ pWorst_p0 B s c) := by kernel_rfl
set_option maxHeartbeats 4000000 in
theorem pWorst_e (s : WShore) (c : WStorm)  {B : Lo} (hJ : ∀ w, B.has w → J0 w) : EndsT Try.prog B (entryC Try.prog 18 16 (([.agg (encShore s).toArray, .agg (encStorm c).toArray]).map (pushT 0 4))) (.tuple #[if shoreB s && stormB c then .agg (encTruth (endE true s c)).toArray else .agg (encTruth ⟨0, 0, 0, 0, []⟩).toArray, .int .i64 (if shoreB s && stormB c then 0 else 2)]) := by
 have hp0 : AllP (pWorst_p0 B s c) := by
  exact ⟨⟨trivial, pinStorm (s) (c)⟩, trivial⟩
 cases q0 : shoreB s with
 | true =>
   cases q1 : stormB c with
   | true =>
     have h1 := shore_facts ‹shoreB s = true›
     exact (GoE.endsT okF hJ mixed_ok GoE.start (pWorst_s0 B s c)
      ⟨⟨trivial, pworst (s) (c) (by omega)⟩, ⟨⟨trivial, (by have t_ := pisStormy (s) (c); rw [q0, q1] at t_; exact t_)⟩, hp0⟩⟩).cast (by rfl)
   | false =>
     have h1 := shore_facts ‹shoreB s = true›
     exact (GoE.endsT okF hJ mixed_ok GoE.start (pWorst_s1 B s c)
      ⟨⟨trivial, (by have t_ := pisStormy (s) (c); rw [q0, q1] at t_; exact t_)⟩, hp0⟩).cast (by rfl)
 | false =>
   exact (GoE.endsT okF hJ mixed_ok GoE.start (pWorst_s2 B s c)
    ⟨⟨trivial, (by have t_ := pisStormy (s) (c); rw [q0] at t_; exact t_)⟩, hp0⟩).cast (by rfl)
theorem pWorst (s : WShore) (c : WStorm)  : PureC Try.prog J0 18 #[.agg (encShore s).toArray, .agg (encStorm c).toArray] (.tuple #[if shoreB s && stormB c then .agg (encTruth (endE true s c)).toArray else .agg (encTruth ⟨0, 0, 0, 0, []⟩).toArray, .int .i64 (if shoreB s && stormB c then 0 else 2)]) :=
 pureC_of (ts := [.agg (encShore s).toArray, .agg (encStorm c).toArray]) J0_st (c0 := entryC Try.prog 18 16 (([.agg (encShore s).toArray, .agg (encStorm c).toArray]).map (pushT 0 4))) (by kernel_rfl) (by kernel_rfl) fun B hJ => pWorst_e s c  hJ
end Go.Proofs.Ytiigkdhaofaijaa

