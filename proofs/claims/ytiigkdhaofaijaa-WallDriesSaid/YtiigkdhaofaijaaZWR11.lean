/- Wall: the reference: what is as defined; ends; levels. -/
import Derived.Test.YtiigkdhaofaijaaZWR10
set_option linter.all false
namespace Go.Proofs.Ytiigkdhaofaijaa
open Go Go.CE Go.RowKit
set_option maxRecDepth 100000
def shoreT (s : WShore) : Bool := inB s.cells.length 1 7 && (decide (s.works.length ≤ 3) && (inB s.reef 0 20 && spanB s.llo s.lhi 0 1000))
theorem shoreR_eq {s : WShore} : (s.cells.all cellB && (s.works.all workB && shoreT s)) = shoreB s := by
 unfold shoreB shoreT cellsB worksB
 cases inB s.cells.length 1 7 <;> cases s.cells.all cellB <;> cases decide (s.works.length ≤ 3) <;> cases s.works.all workB <;> simp
def rShore0_v0 (s : WShore) (i : Int) : List Value := [pA 2 0, .int .i64 i]
def rShore0_o0 (s : WShore) (i : Int) : List Obj := [Obj.cells #[topV 1 (slT (List.length (WShore.cells s)) (rowL encWCell (WShore.cells s))), topV 1 (slT (List.length (WShore.works s)) (rowL encWWork (WShore.works s))), Value.int IntKind.i64 (WShore.reef s), Value.int IntKind.i64 (WShore.llo s), Value.int IntKind.i64 (WShore.lhi s)] 27]
noncomputable def rShore0_t0 : List Item := ([.code [1, 0, 1, 0, 0], .inLoop [1, 0, 1, 0, 0], .inBlock 0, .code [1, 1]]).map (it (bodyOf Try.prog 19))
def rShore0_h0 (B : Lo) (c0 : CF) (s : WShore) (i : Int) : Prop := ∃ dJ : Nat → Value, (∀ t, Loose (dJ t)) ∧ GoE Try.prog B c0 H00 1 (headC 19 83 (([1, 3] : List Nat).zip (rShore0_v0 s i)) dJ rShore0_t0) (headH (rShore0_o0 s i)) (2 + (rShore0_o0 s i).length) []
def rShore0_v1 (s : WShore) (i : Int) : List Value := [pA 2 0, .int .i64 i]
def rShore0_o1 (s : WShore) (i : Int) : List Obj := [Obj.cells #[topV 1 (slT (List.length (WShore.cells s)) (rowL encWCell (WShore.cells s))), topV 1 (slT (List.length (WShore.works s)) (rowL encWWork (WShore.works s))), Value.int IntKind.i64 (WShore.reef s), Value.int IntKind.i64 (WShore.llo s), Value.int IntKind.i64 (WShore.lhi s)] 27]
noncomputable def rShore0_t1 : List Item := ([.code [1, 1, 0, 1, 0, 0], .inLoop [1, 1, 0, 1, 0, 0], .inBlock 2, .code [1, 1, 1]]).map (it (bodyOf Try.prog 19))
def rShore0_h1 (B : Lo) (c0 : CF) (s : WShore) (i : Int) : Prop := ∃ dJ : Nat → Value, (∀ t, Loose (dJ t)) ∧ GoE Try.prog B c0 H00 1 (headC 19 83 (([1, 5] : List Nat).zip (rShore0_v1 s i)) dJ rShore0_t1) (headH (rShore0_o1 s i)) (2 + (rShore0_o1 s i).length) []
noncomputable def rShore0_p0 (B : Lo) (s : WShore) (i : Int) (dJ0 : Nat → Value) : List Prop := [i = (↑(Int.toNat i) : Int) ∧ Int.toNat i < List.length (WShore.cells s) ∧ Array.extract (rowL encWCell (WShore.cells s)) (Int.toNat i * TypeInfo.size Try.t59) (Int.toNat i * TypeInfo.size Try.t59 + TypeInfo.size Try.t59) = #[Value.int IntKind.i64 (WCell.ground (List.getD (WShore.cells s) (Int.toNat i) default)), Value.int IntKind.i64 (WCell.dlo (List.getD (WShore.cells s) (Int.toNat i) default)), Value.int IntKind.i64 (WCell.dhi (List.getD (WShore.cells s) (Int.toNat i) default)), Value.int IntKind.i64 (WCell.floor (List.getD (WShore.cells s) (Int.toNat i) default))], ltq i (↑(List.length (WShore.cells s)) : Int) = true] ++ ([] : List Prop)
noncomputable def rShore0_q0 (s : WShore) (i : Int) (dJ0 : Nat → Value) : ScriptT := [(4, hvT), (8, HintT.tidx (Int.toNat i) #[Value.int IntKind.i64 (WCell.ground (List.getD (WShore.cells s) (Int.toNat i) default)), Value.int IntKind.i64 (WCell.dlo (List.getD (WShore.cells s) (Int.toNat i) default)), Value.int IntKind.i64 (WCell.dhi (List.getD (WShore.cells s) (Int.toNat i) default)), Value.int IntKind.i64 (WCell.floor (List.getD (WShore.cells s) (Int.toNat i) default))])]
noncomputable def rShore0_p1 (B : Lo) (s : WShore) (i : Int) (dJ0 : Nat → Value) : List Prop := [AllP [] ∧ PureC Try.prog J0 56 #[Value.int IntKind.i64 (WCell.ground (List.getD (WShore.cells s) (Int.toNat i) default)), Value.int IntKind.i64 (-5000), Value.int IntKind.i64 5000] (Value.bool true)] ++ rShore0_p0 B s i dJ0
noncomputable def rShore0_q1 (s : WShore) (i : Int) (dJ0 : Nat → Value) : ScriptT := rShore0_q0 s i dJ0 ++ [(14, HintT.pure (Value.bool true) [])]
noncomputable def rShore0_p2 (B : Lo) (s : WShore) (i : Int) (dJ0 : Nat → Value) : List Prop := [AllP [] ∧ PureC Try.prog J0 57 #[Value.agg #[Value.int IntKind.i64 (WCell.dlo (List.getD (WShore.cells s) (Int.toNat i) default)), Value.int IntKind.i64 (WCell.dhi (List.getD (WShore.cells s) (Int.toNat i) default))], Value.int IntKind.i64 0, Value.int IntKind.i64 5000] (Value.bool true)] ++ rShore0_p1 B s i dJ0
noncomputable def rShore0_q2 (s : WShore) (i : Int) (dJ0 : Nat → Value) : ScriptT := rShore0_q1 s i dJ0 ++ [(19, HintT.pure (Value.bool true) [])]
theorem rShore0_s0 (B : Lo) (s : WShore) (i : Int) (dJ0 : Nat → Value) : landM (srunT Try.prog (okFn Try.prog) J0 B 16 1 (headC 19 83 (([1, 3] : List Nat).zip (rShore0_v0 s i)) dJ0 rShore0_t0) (headH (rShore0_o0 s i)) (2 + (rShore0_o0 s i).length)
 (rShore0_q2 s i dJ0 ++ [(25, HintT.pure (Value.bool true) []), (29, hvI (i + 1))]) 0 [] []) [1, 3] [(2, KS.auto)] [] = some ⟨19, 83, rShore0_t0, [], .run, none, rShore0_v0 s (i + 1), rShore0_o0 s (i + 1),
 [wq (i + 1) = i + 1, AllP [] ∧ PureC Try.prog J0 56 #[Value.int IntKind.i64 (WCell.floor (List.getD (WShore.cells s) (Int.toNat i) default)), Value.int IntKind.i64 (-1), Value.int IntKind.i64 5000] (Value.bool true)] ++ rShore0_p2 B s i dJ0⟩ := by kernel_rfl
theorem rShore0_s1 (B : Lo) (s : WShore) (i : Int) (dJ0 : Nat → Value) : endT (srunT Try.prog (okFn Try.prog) J0 B 16 1 (headC 19 83 (([1, 3] : List Nat).zip (rShore0_v0 s i)) dJ0 rShore0_t0) (headH (rShore0_o0 s i)) (2 + (rShore0_o0 s i).length)
 (rShore0_q2 s i dJ0 ++ [(25, HintT.pure (Value.bool false) [])]) 0 [] []) [] = some (Value.bool false,
 [AllP [] ∧ PureC Try.prog J0 56 #[Value.int IntKind.i64 (WCell.floor (List.getD (WShore.cells s) (Int.toNat i) default)), Value.int IntKind.i64 (-1), Value.int IntKind.i64 5000] (Value.bool false)] ++ rShore0_p2 B s i dJ0) := by kernel_rfl
theorem rShore0_s2 (B : Lo) (s : WShore) (i : Int) (dJ0 : Nat → Value) : endT (srunT Try.prog (okFn Try.prog) J0 B 16 1 (headC 19 83 (([1, 3] : List Nat).zip (rShore0_v0 s i)) dJ0 rShore0_t0) (headH (rShore0_o0 s i)) (2 + (rShore0_o0 s i).length)
 (rShore0_q1 s i dJ0 ++ [(19, HintT.pure (Value.bool false) [])]) 0 [] []) [] = some (Value.bool false,
 [AllP [] ∧ PureC Try.prog J0 57 #[Value.agg #[Value.int IntKind.i64 (WCell.dlo (List.getD (WShore.cells s) (Int.toNat i) default)), Value.int IntKind.i64 (WCell.dhi (List.getD (WShore.cells s) (Int.toNat i) default))], Value.int IntKind.i64 0, Value.int IntKind.i64 5000] (Value.bool false)] ++ rShore0_p1 B s i dJ0) := by kernel_rfl
theorem rShore0_s3 (B : Lo) (s : WShore) (i : Int) (dJ0 : Nat → Value) : endT (srunT Try.prog (okFn Try.prog) J0 B 16 1 (headC 19 83 (([1, 3] : List Nat).zip (rShore0_v0 s i)) dJ0 rShore0_t0) (headH (rShore0_o0 s i)) (2 + (rShore0_o0 s i).length)
 (rShore0_q0 s i dJ0 ++ [(14, HintT.pure (Value.bool false) [])]) 0 [] []) [] = some (Value.bool false,
 [AllP [] ∧ PureC Try.prog J0 56 #[Value.int IntKind.i64 (WCell.ground (List.getD (WShore.cells s) (Int.toNat i) default)), Value.int IntKind.i64 (-5000), Value.int IntKind.i64 5000] (Value.bool false)] ++ rShore0_p0 B s i dJ0) := by kernel_rfl
theorem rShore0_s4 (B : Lo) (s : WShore) (i : Int) (dJ0 : Nat → Value) : landM (srunT Try.prog (okFn Try.prog) J0 B 10 1 (headC 19 83 (([1, 3] : List Nat).zip (rShore0_v0 s i)) dJ0 rShore0_t0) (headH (rShore0_o0 s i)) (2 + (rShore0_o0 s i).length)
 [(4, hvF)] 0 [] []) [1, 5] [(2, KS.auto)] [] = some ⟨19, 83, rShore0_t1, [], .run, none, rShore0_v1 s (0), rShore0_o1 s (0),
 [ltq i (↑(List.length (WShore.cells s)) : Int) = false]⟩ := by kernel_rfl
noncomputable def rShore0_p3 (B : Lo) (s : WShore) (i : Int) (dJ0 : Nat → Value) : List Prop := [i = (↑(Int.toNat i) : Int) ∧ Int.toNat i < List.length (WShore.works s) ∧ Array.extract (rowL encWWork (WShore.works s)) (Int.toNat i * TypeInfo.size Try.t85) (Int.toNat i * TypeInfo.size Try.t85 + TypeInfo.size Try.t85) = #[Value.int IntKind.i64 (WWork.rise (List.getD (WShore.works s) (Int.toNat i) default)), Value.int IntKind.i64 (WWork.calm (List.getD (WShore.works s) (Int.toNat i) default)), Value.int IntKind.i64 (WWork.cost (List.getD (WShore.works s) (Int.toNat i) default))], ltq i (↑(List.length (WShore.works s)) : Int) = true] ++ ([] : List Prop)
noncomputable def rShore0_q3 (s : WShore) (i : Int) (dJ0 : Nat → Value) : ScriptT := [(4, hvT), (8, HintT.tidx (Int.toNat i) #[Value.int IntKind.i64 (WWork.rise (List.getD (WShore.works s) (Int.toNat i) default)), Value.int IntKind.i64 (WWork.calm (List.getD (WShore.works s) (Int.toNat i) default)), Value.int IntKind.i64 (WWork.cost (List.getD (WShore.works s) (Int.toNat i) default))])]
noncomputable def rShore0_p4 (B : Lo) (s : WShore) (i : Int) (dJ0 : Nat → Value) : List Prop := [AllP [] ∧ PureC Try.prog J0 56 #[Value.int IntKind.i64 (WWork.rise (List.getD (WShore.works s) (Int.toNat i) default)), Value.int IntKind.i64 0, Value.int IntKind.i64 5000] (Value.bool true)] ++ rShore0_p3 B s i dJ0
noncomputable def rShore0_q4 (s : WShore) (i : Int) (dJ0 : Nat → Value) : ScriptT := rShore0_q3 s i dJ0 ++ [(14, HintT.pure (Value.bool true) [])]
noncomputable def rShore0_p5 (B : Lo) (s : WShore) (i : Int) (dJ0 : Nat → Value) : List Prop := [AllP [] ∧ PureC Try.prog J0 56 #[Value.int IntKind.i64 (WWork.calm (List.getD (WShore.works s) (Int.toNat i) default)), Value.int IntKind.i64 0, Value.int IntKind.i64 5000] (Value.bool true)] ++ rShore0_p4 B s i dJ0
noncomputable def rShore0_q5 (s : WShore) (i : Int) (dJ0 : Nat → Value) : ScriptT := rShore0_q4 s i dJ0 ++ [(19, HintT.pure (Value.bool true) [])]
theorem rShore0_s5 (B : Lo) (s : WShore) (i : Int) (dJ0 : Nat → Value) : landM (srunT Try.prog (okFn Try.prog) J0 B 16 1 (headC 19 83 (([1, 5] : List Nat).zip (rShore0_v1 s i)) dJ0 rShore0_t1) (headH (rShore0_o1 s i)) (2 + (rShore0_o1 s i).length)
 (rShore0_q5 s i dJ0 ++ [(25, HintT.pure (Value.bool true) []), (29, hvI (i + 1))]) 0 [] []) [1, 5] [(2, KS.auto)] [] = some ⟨19, 83, rShore0_t1, [], .run, none, rShore0_v1 s (i + 1), rShore0_o1 s (i + 1),
 [wq (i + 1) = i + 1, AllP [] ∧ PureC Try.prog J0 56 #[Value.int IntKind.i64 (WWork.cost (List.getD (WShore.works s) (Int.toNat i) default)), Value.int IntKind.i64 0, Value.int IntKind.i64 1000000] (Value.bool true)] ++ rShore0_p5 B s i dJ0⟩ := by kernel_rfl
theorem rShore0_s6 (B : Lo) (s : WShore) (i : Int) (dJ0 : Nat → Value) : endT (srunT Try.prog (okFn Try.prog) J0 B 16 1 (headC 19 83 (([1, 5] : List Nat).zip (rShore0_v1 s i)) dJ0 rShore0_t1) (headH (rShore0_o1 s i)) (2 + (rShore0_o1 s i).length)
 (rShore0_q5 s i dJ0 ++ [(25, HintT.pure (Value.bool false) [])]) 0 [] []) [] = some (Value.bool false,
 [AllP [] ∧ PureC Try.prog J0 56 #[Value.int IntKind.i64 (WWork.cost (List.getD (WShore.works s) (Int.toNat i) default)), Value.int IntKind.i64 0, Value.int IntKind.i64 1000000] (Value.bool false)] ++ rShore0_p5 B s i dJ0) := by kernel_rfl
theorem rShore0_s7 (B : Lo) (s : WShore) (i : Int) (dJ0 : Nat → Value) : endT (srunT Try.prog (okFn Try.prog) J0 B 16 1 (headC 19 83 (([1, 5] : List Nat).zip (rShore0_v1 s i)) dJ0 rShore0_t1) (headH (rShore0_o1 s i)) (2 + (rShore0_o1 s i).length)
 (rShore0_q4 s i dJ0 ++ [(19, HintT.pure (Value.bool false) [])]) 0 [] []) [] = some (Value.bool false,
 [AllP [] ∧ PureC Try.prog J0 56 #[Value.int IntKind.i64 (WWork.calm (List.getD (WShore.works s) (Int.toNat i) default)), Value.int IntKind.i64 0, Value.int IntKind.i64 5000] (Value.bool false)] ++ rShore0_p4 B s i dJ0) := by kernel_rfl
theorem rShore0_s8 (B : Lo) (s : WShore) (i : Int) (dJ0 : Nat → Value) : endT (srunT Try.prog (okFn Try.prog) J0 B 16 1 (headC 19 83 (([1, 5] : List Nat).zip (rShore0_v1 s i)) dJ0 rShore0_t1) (headH (rShore0_o1 s i)) (2 + (rShore0_o1 s i).length)
 (rShore0_q3 s i dJ0 ++ [(14, HintT.pure (Value.bool false) [])]) 0 [] []) [] = some (Value.bool false,
 [AllP [] ∧ PureC Try.prog J0 56 #[Value.int IntKind.i64 (WWork.rise (List.getD (WShore.works s) (Int.toNat i) default)), Value.int IntKind.i64 0, Value.int IntKind.i64 5000] (Value.bool false)] ++ rShore0_p3 B s i dJ0) := by kernel_rfl
noncomputable def rShore0_p6 (B : Lo) (s : WShore) (i : Int) (dJ0 : Nat → Value) : List Prop := [ltq i (↑(List.length (WShore.works s)) : Int) = false] ++ ([] : List Prop)
noncomputable def rShore0_q6 (s : WShore) (i : Int) (dJ0 : Nat → Value) : ScriptT := [(4, hvF)]
noncomputable def rShore0_p7 (B : Lo) (s : WShore) (i : Int) (dJ0 : Nat → Value) : List Prop := [AllP [] ∧ PureC Try.prog J0 56 #[Value.int IntKind.i64 (↑(List.length (WShore.cells s)) : Int), Value.int IntKind.i64 1, Value.int IntKind.i64 7] (Value.bool true)] ++ rShore0_p6 B s i dJ0
noncomputable def rShore0_q7 (s : WShore) (i : Int) (dJ0 : Nat → Value) : ScriptT := rShore0_q6 s i dJ0 ++ [(8, HintT.pure (Value.bool true) [])]
noncomputable def rShore0_p8 (B : Lo) (s : WShore) (i : Int) (dJ0 : Nat → Value) : List Prop := [(!ltq 3 (↑(List.length (WShore.works s)) : Int)) = true] ++ rShore0_p7 B s i dJ0
noncomputable def rShore0_q8 (s : WShore) (i : Int) (dJ0 : Nat → Value) : ScriptT := rShore0_q7 s i dJ0 ++ [(13, hvT)]
noncomputable def rShore0_p9 (B : Lo) (s : WShore) (i : Int) (dJ0 : Nat → Value) : List Prop := [AllP [] ∧ PureC Try.prog J0 56 #[Value.int IntKind.i64 (WShore.reef s), Value.int IntKind.i64 0, Value.int IntKind.i64 20] (Value.bool true)] ++ rShore0_p8 B s i dJ0
noncomputable def rShore0_q9 (s : WShore) (i : Int) (dJ0 : Nat → Value) : ScriptT := rShore0_q8 s i dJ0 ++ [(18, HintT.pure (Value.bool true) [])]
theorem rShore0_s9 (B : Lo) (s : WShore) (i : Int) (dJ0 : Nat → Value) : endT (srunT Try.prog (okFn Try.prog) J0 B 9 1 (headC 19 83 (([1, 5] : List Nat).zip (rShore0_v1 s i)) dJ0 rShore0_t1) (headH (rShore0_o1 s i)) (2 + (rShore0_o1 s i).length)
 (rShore0_q9 s i dJ0 ++ [(23, HintT.pure (Value.bool true) [])]) 0 [] []) [] = some (Value.bool true,
 [AllP [] ∧ PureC Try.prog J0 57 #[Value.agg #[Value.int IntKind.i64 (WShore.llo s), Value.int IntKind.i64 (WShore.lhi s)], Value.int IntKind.i64 0, Value.int IntKind.i64 1000] (Value.bool true)] ++ rShore0_p9 B s i dJ0) := by kernel_rfl
theorem rShore0_s10 (B : Lo) (s : WShore) (i : Int) (dJ0 : Nat → Value) : endT (srunT Try.prog (okFn Try.prog) J0 B 9 1 (headC 19 83 (([1, 5] : List Nat).zip (rShore0_v1 s i)) dJ0 rShore0_t1) (headH (rShore0_o1 s i)) (2 + (rShore0_o1 s i).length)
 (rShore0_q9 s i dJ0 ++ [(23, HintT.pure (Value.bool false) [])]) 0 [] []) [] = some (Value.bool false,
 [AllP [] ∧ PureC Try.prog J0 57 #[Value.agg #[Value.int IntKind.i64 (WShore.llo s), Value.int IntKind.i64 (WShore.lhi s)], Value.int IntKind.i64 0, Value.int IntKind.i64 1000] (Value.bool false)] ++ rShore0_p9 B s i dJ0) := by kernel_rfl
theorem rShore0_s11 (B : Lo) (s : WShore) (i : Int) (dJ0 : Nat → Value) : endT (srunT Try.prog (okFn Try.prog) J0 B 9 1 (headC 19 83 (([1, 5] : List Nat).zip (rShore0_v1 s i)) dJ0 rShore0_t1) (headH (rShore0_o1 s i)) (2 + (rShore0_o1 s i).length)
 (rShore0_q8 s i dJ0 ++ [(18, HintT.pure (Value.bool false) [])]) 0 [] []) [] = some (Value.bool false,
 [AllP [] ∧ PureC Try.prog J0 56 #[Value.int IntKind.i64 (WShore.reef s), Value.int IntKind.i64 0, Value.int IntKind.i64 20] (Value.bool false)] ++ rShore0_p8 B s i dJ0) := by kernel_rfl
theorem rShore0_s12 (B : Lo) (s : WShore) (i : Int) (dJ0 : Nat → Value) : endT (srunT Try.prog (okFn Try.prog) J0 B 9 1 (headC 19 83 (([1, 5] : List Nat).zip (rShore0_v1 s i)) dJ0 rShore0_t1) (headH (rShore0_o1 s i)) (2 + (rShore0_o1 s i).length)
 (rShore0_q7 s i dJ0 ++ [(13, hvF)]) 0 [] []) [] = some (Value.bool false,
 [(!ltq 3 (↑(List.length (WShore.works s)) : Int)) = false] ++ rShore0_p7 B s i dJ0) := by kernel_rfl
theorem rShore0_s13 (B : Lo) (s : WShore) (i : Int) (dJ0 : Nat → Value) : endT (srunT Try.prog (okFn Try.prog) J0 B 9 1 (headC 19 83 (([1, 5] : List Nat).zip (rShore0_v1 s i)) dJ0 rShore0_t1) (headH (rShore0_o1 s i)) (2 + (rShore0_o1 s i).length)
 (rShore0_q6 s i dJ0 ++ [(8, HintT.pure (Value.bool false) [])]) 0 [] []) [] = some (Value.bool false,
 [AllP [] ∧ PureC Try.prog J0 56 #[Value.int IntKind.i64 (↑(List.length (WShore.cells s)) : Int), Value.int IntKind.i64 1, Value.int IntKind.i64 7] (Value.bool false)] ++ rShore0_p6 B s i dJ0) := by kernel_rfl
theorem rShore0_s14 (B : Lo) (s : WShore) : landM (srunT Try.prog (okFn Try.prog) J0 B 7 1 (entryC Try.prog 19 83 (([.agg (encShore s).toArray]).map (pushT 0 4))) H00 1
 [] 0 [] []) [1, 3] [(1, KS.auto)] [] = some ⟨19, 83, rShore0_t0, [], .run, none, rShore0_v0 s (0), rShore0_o0 s (0),
 []⟩ := by kernel_rfl
set_option maxHeartbeats 4000000 in
theorem rShore0_ls (s : WShore)  (hfacts : s.cells.length ≤ 9223372036854775807 ∧ s.works.length ≤ 9223372036854775807) {B : Lo} (hJ : ∀ w, B.has w → J0 w) {c0 : CF} : ∀ m : Nat, (∀ (i : Int), (s.cells.length - i.toNat) + s.works.length + 9 = m → ∀ (h0 : 0 ≤ i), rShore0_h0 B c0 s i → EndsT Try.prog B c0 (.bool ((s.cells.drop i.toNat).all cellB && (s.works.all workB && shoreT s)))) ∧ (∀ (i : Int), (s.works.length - i.toNat) + 1 = m → ∀ (h0 : 0 ≤ i), rShore0_h1 B c0 s i → EndsT Try.prog B c0 (.bool ((s.works.drop i.toNat).all workB && shoreT s))) := by
 intro m0
 induction m0 using Nat.strongRecOn with
 | _ m0 ih0 =>
   refine ⟨?_, ?_⟩
   ·intro i hm0 h0 ⟨dJ0, hdJ0, hg0⟩
    by_cases q0 : (i : Int) < ((↑(List.length (WShore.cells s)) : Int))
    ·
     have hp0 : AllP (rShore0_p0 B s i dJ0) := by
      have s2 := drop_all2 (l := s.cells) (p := cellB) h0 q0
      exact ⟨⟨by omega, by omega, (rowL_extract (z := 4) (fun _ => rfl) (by omega))⟩, ⟨(ltq_t q0), trivial⟩⟩
     cases q1 : inB (WCell.ground (List.getD (WShore.cells s) (Int.toNat i) default)) (-5000) 5000 with
     | true =>
       have hp1 : AllP (rShore0_p1 B s i dJ0) := by
        have s2 := drop_all2 (l := s.cells) (p := cellB) h0 q0
        exact ⟨⟨trivial, (by have t_ := rin (WCell.ground (List.getD (WShore.cells s) (Int.toNat i) default)) (-5000) (5000); rw [q1] at t_; exact t_)⟩, hp0⟩
       cases q2 : spanB (WCell.dlo (List.getD (WShore.cells s) (Int.toNat i) default)) (WCell.dhi (List.getD (WShore.cells s) (Int.toNat i) default)) 0 5000 with
       | true =>
         have hp2 : AllP (rShore0_p2 B s i dJ0) := by
          have s2 := drop_all2 (l := s.cells) (p := cellB) h0 q0
          exact ⟨⟨trivial, (by have t_ := rSpan (WCell.dlo (List.getD (WShore.cells s) (Int.toNat i) default)) (WCell.dhi (List.getD (WShore.cells s) (Int.toNat i) default)) (0) (5000); rw [q2] at t_; exact t_)⟩, hp1⟩
         cases q3 : inB (WCell.floor (List.getD (WShore.cells s) (Int.toNat i) default)) (-1) 5000 with
         | true =>
           have s2 := drop_all2 (l := s.cells) (p := cellB) h0 q0
           exact ((ih0 _ (by omega)).1 (i + 1) rfl (by omega)
            (hg0.landM okF hJ mixed_ok (rShore0_s0 B s i dJ0)
            ⟨(wq_in (by omega) (by omega)), ⟨⟨trivial, (by have t_ := rin (WCell.floor (List.getD (WShore.cells s) (Int.toNat i) default)) (-1) (5000); rw [q3] at t_; exact t_)⟩, hp2⟩⟩ (by kernel_rfl) (by kernel_rfl))).cast (by (rw [s2]; simp_all [cellB]; done))
         | false =>
           have s2 := drop_all2 (l := s.cells) (p := cellB) h0 q0
           exact (GoE.endsT okF hJ mixed_ok hg0 (rShore0_s1 B s i dJ0)
            ⟨⟨trivial, (by have t_ := rin (WCell.floor (List.getD (WShore.cells s) (Int.toNat i) default)) (-1) (5000); rw [q3] at t_; exact t_)⟩, hp2⟩).cast (by (rw [s2]; simp_all [cellB]; done))
       | false =>
         have s2 := drop_all2 (l := s.cells) (p := cellB) h0 q0
         exact (GoE.endsT okF hJ mixed_ok hg0 (rShore0_s2 B s i dJ0)
          ⟨⟨trivial, (by have t_ := rSpan (WCell.dlo (List.getD (WShore.cells s) (Int.toNat i) default)) (WCell.dhi (List.getD (WShore.cells s) (Int.toNat i) default)) (0) (5000); rw [q2] at t_; exact t_)⟩, hp1⟩).cast (by (rw [s2]; simp_all [cellB]; done))
     | false =>
       have s2 := drop_all2 (l := s.cells) (p := cellB) h0 q0
       exact (GoE.endsT okF hJ mixed_ok hg0 (rShore0_s3 B s i dJ0)
        ⟨⟨trivial, (by have t_ := rin (WCell.ground (List.getD (WShore.cells s) (Int.toNat i) default)) (-5000) (5000); rw [q1] at t_; exact t_)⟩, hp0⟩).cast (by (rw [s2]; simp_all [cellB]; done))
    ·
     have s2 := drop_nil2 (l := s.cells) (p := cellB) (i := i) (by omega)
     exact ((ih0 _ (by omega)).2 (0) rfl (by omega)
      (hg0.landM okF hJ mixed_ok (rShore0_s4 B s i dJ0)
      ⟨(ltq_f (Int.not_lt.1 q0)), trivial⟩ (by kernel_rfl) (by kernel_rfl))).cast (by (rw [s2]; simp [cellB, *]; done))
   ·intro i hm0 h0 ⟨dJ0, hdJ0, hg0⟩
    by_cases q0 : (i : Int) < ((↑(List.length (WShore.works s)) : Int))
    ·
     have hp3 : AllP (rShore0_p3 B s i dJ0) := by
      have s2 := drop_all2 (l := s.works) (p := workB) h0 q0
      exact ⟨⟨by omega, by omega, (rowL_extract (z := 3) (fun _ => rfl) (by omega))⟩, ⟨(ltq_t q0), trivial⟩⟩
     cases q1 : inB (WWork.rise (List.getD (WShore.works s) (Int.toNat i) default)) 0 5000 with
     | true =>
       have hp4 : AllP (rShore0_p4 B s i dJ0) := by
        have s2 := drop_all2 (l := s.works) (p := workB) h0 q0
        exact ⟨⟨trivial, (by have t_ := rin (WWork.rise (List.getD (WShore.works s) (Int.toNat i) default)) (0) (5000); rw [q1] at t_; exact t_)⟩, hp3⟩
       cases q2 : inB (WWork.calm (List.getD (WShore.works s) (Int.toNat i) default)) 0 5000 with
       | true =>
         have hp5 : AllP (rShore0_p5 B s i dJ0) := by
          have s2 := drop_all2 (l := s.works) (p := workB) h0 q0
          exact ⟨⟨trivial, (by have t_ := rin (WWork.calm (List.getD (WShore.works s) (Int.toNat i) default)) (0) (5000); rw [q2] at t_; exact t_)⟩, hp4⟩
         cases q3 : inB (WWork.cost (List.getD (WShore.works s) (Int.toNat i) default)) 0 1000000 with
         | true =>
           have s2 := drop_all2 (l := s.works) (p := workB) h0 q0
           exact ((ih0 _ (by omega)).2 (i + 1) rfl (by omega)
            (hg0.landM okF hJ mixed_ok (rShore0_s5 B s i dJ0)
            ⟨(wq_in (by omega) (by omega)), ⟨⟨trivial, (by have t_ := rin (WWork.cost (List.getD (WShore.works s) (Int.toNat i) default)) (0) (1000000); rw [q3] at t_; exact t_)⟩, hp5⟩⟩ (by kernel_rfl) (by kernel_rfl))).cast (by (rw [s2]; simp_all [workB]; done))
         | false =>
           have s2 := drop_all2 (l := s.works) (p := workB) h0 q0
           exact (GoE.endsT okF hJ mixed_ok hg0 (rShore0_s6 B s i dJ0)
            ⟨⟨trivial, (by have t_ := rin (WWork.cost (List.getD (WShore.works s) (Int.toNat i) default)) (0) (1000000); rw [q3] at t_; exact t_)⟩, hp5⟩).cast (by (rw [s2]; simp_all [workB]; done))
       | false =>
         have s2 := drop_all2 (l := s.works) (p := workB) h0 q0
         exact (GoE.endsT okF hJ mixed_ok hg0 (rShore0_s7 B s i dJ0)
          ⟨⟨trivial, (by have t_ := rin (WWork.calm (List.getD (WShore.works s) (Int.toNat i) default)) (0) (5000); rw [q2] at t_; exact t_)⟩, hp4⟩).cast (by (rw [s2]; simp_all [workB]; done))
     | false =>
       have s2 := drop_all2 (l := s.works) (p := workB) h0 q0
       exact (GoE.endsT okF hJ mixed_ok hg0 (rShore0_s8 B s i dJ0)
        ⟨⟨trivial, (by have t_ := rin (WWork.rise (List.getD (WShore.works s) (Int.toNat i) default)) (0) (5000); rw [q1] at t_; exact t_)⟩, hp3⟩).cast (by (rw [s2]; simp_all [workB]; done))
    ·
     have hp6 : AllP (rShore0_p6 B s i dJ0) := by
      exact ⟨(ltq_f (Int.not_lt.1 q0)), trivial⟩
     cases q1 : inB (↑(List.length (WShore.cells s)) : Int) 1 7 with
     | true =>
       have hp7 : AllP (rShore0_p7 B s i dJ0) := by
        have s2 := drop_nil2 (l := s.works) (p := workB) (i := i) (by omega)
        exact ⟨⟨trivial, (by have t_ := rin ((↑(List.length (WShore.cells s)) : Int)) (1) (7); rw [q1] at t_; exact t_)⟩, hp6⟩
       by_cases q2 : ((↑(List.length (WShore.works s)) : Int) : Int) ≤ (3)
       ·
        have hp8 : AllP (rShore0_p8 B s i dJ0) := by
         exact ⟨(nltq_t q2), hp7⟩
        cases q3 : inB (WShore.reef s) 0 20 with
        | true =>
          have hp9 : AllP (rShore0_p9 B s i dJ0) := by
           have s2 := drop_nil2 (l := s.works) (p := workB) (i := i) (by omega)
           exact ⟨⟨trivial, (by have t_ := rin (WShore.reef s) (0) (20); rw [q3] at t_; exact t_)⟩, hp8⟩
          cases q4 : spanB (WShore.llo s) (WShore.lhi s) 0 1000 with
          | true =>
            have s2 := drop_nil2 (l := s.works) (p := workB) (i := i) (by omega)
            exact (GoE.endsT okF hJ mixed_ok hg0 (rShore0_s9 B s i dJ0)
             ⟨⟨trivial, (by have t_ := rSpan (WShore.llo s) (WShore.lhi s) (0) (1000); rw [q4] at t_; exact t_)⟩, hp9⟩).cast (by (rw [s2]; simp_all [shoreT]; omega))
          | false =>
            have s2 := drop_nil2 (l := s.works) (p := workB) (i := i) (by omega)
            exact (GoE.endsT okF hJ mixed_ok hg0 (rShore0_s10 B s i dJ0)
             ⟨⟨trivial, (by have t_ := rSpan (WShore.llo s) (WShore.lhi s) (0) (1000); rw [q4] at t_; exact t_)⟩, hp9⟩).cast (by (rw [s2]; simp [shoreT, *]; done))
        | false =>
          have s2 := drop_nil2 (l := s.works) (p := workB) (i := i) (by omega)
          exact (GoE.endsT okF hJ mixed_ok hg0 (rShore0_s11 B s i dJ0)
           ⟨⟨trivial, (by have t_ := rin (WShore.reef s) (0) (20); rw [q3] at t_; exact t_)⟩, hp8⟩).cast (by (rw [s2]; simp [shoreT, *]; done))
       ·
        have s2 := drop_nil2 (l := s.works) (p := workB) (i := i) (by omega)
        exact (GoE.endsT okF hJ mixed_ok hg0 (rShore0_s12 B s i dJ0)
         ⟨(nltq_f (Int.not_le.1 q2)), hp7⟩).cast (by (rw [s2]; simp_all [shoreT]; omega))
     | false =>
       have s2 := drop_nil2 (l := s.works) (p := workB) (i := i) (by omega)
       exact (GoE.endsT okF hJ mixed_ok hg0 (rShore0_s13 B s i dJ0)
        ⟨⟨trivial, (by have t_ := rin ((↑(List.length (WShore.cells s)) : Int)) (1) (7); rw [q1] at t_; exact t_)⟩, hp6⟩).cast (by (rw [s2]; simp [shoreT, *]; done))
set_option maxHeartbeats 4000000 in
theorem rShore0_e (s : WShore)  (hfacts : s.cells.length ≤ 9223372036854775807 ∧ s.works.length ≤ 9223372036854775807) {B : Lo} (hJ : ∀ w, B.has w → J0 w) : EndsT Try.prog B (entryC Try.prog 19 83 (([.agg (encShore s).toArray]).map (pushT 0 4))) (.bool (s.cells.all cellB && (s.works.all workB && shoreT s))) := by
 exact ((rShore0_ls s hfacts hJ _).1 (0) rfl (by omega)
  (GoE.start.landM okF hJ mixed_ok (rShore0_s14 B s)
  trivial (by kernel_rfl) (by kernel_rfl))).cast (by rfl)
theorem rShore0 (s : WShore)  : PureC Try.prog J0 19 #[.agg (encShore s).toArray] (.bool (s.cells.all cellB && (s.works.all workB && shoreT s))) :=
 pureC_ofF (ts := [.agg (encShore s).toArray]) (s.cells.length ≤ 9223372036854775807 ∧ s.works.length ≤ 9223372036854775807) (fun _ _ ht => ⟨ht.ln2 (i := 0) (j := 0) rfl rfl, ht.ln2 (i := 0) (j := 1) rfl rfl⟩) J0_st (c0 := entryC Try.prog 19 83 (([.agg (encShore s).toArray]).map (pushT 0 4))) (by kernel_rfl) (by kernel_rfl) fun hfacts B hJ => rShore0_e s  hfacts hJ
theorem rShore (s : WShore) : PureC Try.prog J0 19 #[.agg (encShore s).toArray] (.bool (shoreB s)) := by
 have h := rShore0 s; rw [shoreR_eq] at h; exact h
noncomputable def rStorm_p0 (B : Lo) (c : WStorm) : List Prop := [AllP [] ∧ PureC Try.prog J0 57 #[Value.agg #[Value.int IntKind.i64 (WStorm.wlo c), Value.int IntKind.i64 (WStorm.whi c)], Value.int IntKind.i64 0, Value.int IntKind.i64 1000] (Value.bool true)] ++ ([] : List Prop)
noncomputable def rStorm_q0 (c : WStorm) : ScriptT := [(4, HintT.pure (Value.bool true) [])]
noncomputable def rStorm_p1 (B : Lo) (c : WStorm) : List Prop := [AllP [] ∧ PureC Try.prog J0 57 #[Value.agg #[Value.int IntKind.i64 (WStorm.flo c), Value.int IntKind.i64 (WStorm.fhi c)], Value.int IntKind.i64 0, Value.int IntKind.i64 10000] (Value.bool true)] ++ rStorm_p0 B c
noncomputable def rStorm_q1 (c : WStorm) : ScriptT := rStorm_q0 c ++ [(8, HintT.pure (Value.bool true) [])]
theorem rStorm_s0 (B : Lo) (c : WStorm) : endT (srunT Try.prog (okFn Try.prog) J0 B 6 1 (entryC Try.prog 20 16 (([.agg (encStorm c).toArray]).map (pushT 0 4))) H00 1
 (rStorm_q1 c ++ [(13, HintT.pure (Value.bool true) [])]) 0 [] []) [] = some (Value.bool true,
 [AllP [] ∧ PureC Try.prog J0 57 #[Value.agg #[Value.int IntKind.i64 (WStorm.tlo c), Value.int IntKind.i64 (WStorm.thi c)], Value.int IntKind.i64 (-5000), Value.int IntKind.i64 5000] (Value.bool true)] ++ rStorm_p1 B c) := by kernel_rfl
theorem rStorm_s1 (B : Lo) (c : WStorm) : endT (srunT Try.prog (okFn Try.prog) J0 B 6 1 (entryC Try.prog 20 16 (([.agg (encStorm c).toArray]).map (pushT 0 4))) H00 1
 (rStorm_q1 c ++ [(13, HintT.pure (Value.bool false) [])]) 0 [] []) [] = some (Value.bool false,
 [AllP [] ∧ PureC Try.prog J0 57 #[Value.agg #[Value.int IntKind.i64 (WStorm.tlo c), Value.int IntKind.i64 (WStorm.thi c)], Value.int IntKind.i64 (-5000), Value.int IntKind.i64 5000] (Value.bool false)] ++ rStorm_p1 B c) := by kernel_rfl
theorem rStorm_s2 (B : Lo) (c : WStorm) : endT (srunT Try.prog (okFn Try.prog) J0 B 6 1 (entryC Try.prog 20 16 (([.agg (encStorm c).toArray]).map (pushT 0 4))) H00 1
 (rStorm_q0 c ++ [(8, HintT.pure (Value.bool false) [])]) 0 [] []) [] = some (Value.bool false,
 [AllP [] ∧ PureC Try.prog J0 57 #[Value.agg #[Value.int IntKind.i64 (WStorm.flo c), Value.int IntKind.i64 (WStorm.fhi c)], Value.int IntKind.i64 0, Value.int IntKind.i64 10000] (Value.bool false)] ++ rStorm_p0 B c) := by kernel_rfl
theorem rStorm_s3 (B : Lo) (c : WStorm) : endT (srunT Try.prog (okFn Try.prog) J0 B 6 1 (entryC Try.prog 20 16 (([.agg (encStorm c).toArray]).map (pushT 0 4))) H00 1
 [(4, HintT.pure (Value.bool false) [])] 0 [] []) [] = some (Value.bool false,
 [AllP [] ∧ PureC Try.prog J0 57 #[Value.agg #[Value.int IntKind.i64 (WStorm.wlo c), Value.int IntKind.i64 (WStorm.whi c)], Value.int IntKind.i64 0, Value.int IntKind.i64 1000] (Value.bool false)]) := by kernel_rfl
set_option maxHeartbeats 4000000 in
theorem rStorm_e (c : WStorm)  {B : Lo} (hJ : ∀ w, B.has w → J0 w) : EndsT Try.prog B (entryC Try.prog 20 16 (([.agg (encStorm c).toArray]).map (pushT 0 4))) (.bool (stormB c)) := by
 cases q0 : spanB (WStorm.wlo c) (WStorm.whi c) 0 1000 with
 | true =>
   have hp0 : AllP (rStorm_p0 B c) := by
    exact ⟨⟨trivial, (by have t_ := rSpan (WStorm.wlo c) (WStorm.whi c) (0) (1000); rw [q0] at t_; exact t_)⟩, trivial⟩
   cases q1 : spanB (WStorm.flo c) (WStorm.fhi c) 0 10000 with
   | true =>
     have hp1 : AllP (rStorm_p1 B c) := by
      exact ⟨⟨trivial, (by have t_ := rSpan (WStorm.flo c) (WStorm.fhi c) (0) (10000); rw [q1] at t_; exact t_)⟩, hp0⟩
     cases q2 : spanB (WStorm.tlo c) (WStorm.thi c) (-5000) 5000 with
     | true =>
       exact (GoE.endsT okF hJ mixed_ok GoE.start (rStorm_s0 B c)
        ⟨⟨trivial, (by have t_ := rSpan (WStorm.tlo c) (WStorm.thi c) (-5000) (5000); rw [q2] at t_; exact t_)⟩, hp1⟩).cast (by (simp [stormB, *]; done))
     | false =>
       exact (GoE.endsT okF hJ mixed_ok GoE.start (rStorm_s1 B c)
        ⟨⟨trivial, (by have t_ := rSpan (WStorm.tlo c) (WStorm.thi c) (-5000) (5000); rw [q2] at t_; exact t_)⟩, hp1⟩).cast (by (simp [stormB, *]; done))
   | false =>
     exact (GoE.endsT okF hJ mixed_ok GoE.start (rStorm_s2 B c)
      ⟨⟨trivial, (by have t_ := rSpan (WStorm.flo c) (WStorm.fhi c) (0) (10000); rw [q1] at t_; exact t_)⟩, hp0⟩).cast (by (simp [stormB, *]; done))
 | false =>
   exact (GoE.endsT okF hJ mixed_ok GoE.start (rStorm_s3 B c)
    ⟨⟨trivial, (by have t_ := rSpan (WStorm.wlo c) (WStorm.whi c) (0) (1000); rw [q0] at t_; exact t_)⟩, trivial⟩).cast (by (simp [stormB, *]; done))
theorem rStorm (c : WStorm)  : PureC Try.prog J0 20 #[.agg (encStorm c).toArray] (.bool (stormB c)) :=
 pureC_of (ts := [.agg (encStorm c).toArray]) J0_st (c0 := entryC Try.prog 20 16 (([.agg (encStorm c).toArray]).map (pushT 0 4))) (by kernel_rfl) (by kernel_rfl) fun B hJ => rStorm_e c  hJ
def rPlan0_v0 (s : WShore) (plan : List Int) (i : Int) : List Value := [topV 1 (slT (List.length plan) (rowL encI plan)), pA 2 0, .int .i64 i]
def rPlan0_o0 (s : WShore) (plan : List Int) (i : Int) : List Obj := [Obj.cells #[topV 1 (slT (List.length (WShore.cells s)) (rowL encWCell (WShore.cells s))), topV 1 (slT (List.length (WShore.works s)) (rowL encWWork (WShore.works s))), Value.int IntKind.i64 (WShore.reef s), Value.int IntKind.i64 (WShore.llo s), Value.int IntKind.i64 (WShore.lhi s)] 27]
noncomputable def rPlan0_t0 : List Item := ([.code [1, 0, 1, 0, 0], .inLoop [1, 0, 1, 0, 0], .inBlock 0, .code [1, 1]]).map (it (bodyOf Try.prog 46))
def rPlan0_h0 (B : Lo) (c0 : CF) (s : WShore) (plan : List Int) (i : Int) : Prop := ∃ dJ : Nat → Value, (∀ t, Loose (dJ t)) ∧ GoE Try.prog B c0 H00 1 (headC 46 28 (([1, 2, 5] : List Nat).zip (rPlan0_v0 s plan i)) dJ rPlan0_t0) (headH (rPlan0_o0 s plan i)) (2 + (rPlan0_o0 s plan i).length) []
noncomputable def rPlan0_p0 (B : Lo) (s : WShore) (plan : List Int) (i : Int) (dJ0 : Nat → Value) : List Prop := [wq ((↑(List.length (WShore.works s)) : Int) - 1) = (↑(List.length (WShore.works s)) : Int) - 1, i = (↑(Int.toNat i) : Int) ∧ Int.toNat i < List.length plan ∧ Array.extract (rowL encI plan) (Int.toNat i * TypeInfo.size Try.t3) (Int.toNat i * TypeInfo.size Try.t3 + TypeInfo.size Try.t3) = #[Value.int IntKind.i64 (List.getD plan (Int.toNat i) default)], ltq i (↑(List.length plan) : Int) = true] ++ ([] : List Prop)
noncomputable def rPlan0_q0 (s : WShore) (plan : List Int) (i : Int) (dJ0 : Nat → Value) : ScriptT := [(3, hvT), (6, HintT.tidx (Int.toNat i) #[Value.int IntKind.i64 (List.getD plan (Int.toNat i) default)]), (11, hvI ((↑(List.length (WShore.works s)) : Int) - 1))]
theorem rPlan0_s0 (B : Lo) (s : WShore) (plan : List Int) (i : Int) (dJ0 : Nat → Value) : landM (srunT Try.prog (okFn Try.prog) J0 B 14 1 (headC 46 28 (([1, 2, 5] : List Nat).zip (rPlan0_v0 s plan i)) dJ0 rPlan0_t0) (headH (rPlan0_o0 s plan i)) (2 + (rPlan0_o0 s plan i).length)
 (rPlan0_q0 s plan i dJ0 ++ [(12, HintT.pure (Value.bool true) []), (15, hvI (i + 1))]) 0 [] []) [1, 2, 5] [(2, KS.auto)] [] = some ⟨46, 28, rPlan0_t0, [], .run, none, rPlan0_v0 s plan (i + 1), rPlan0_o0 s plan (i + 1),
 [wq (i + 1) = i + 1, AllP [] ∧ PureC Try.prog J0 56 #[Value.int IntKind.i64 (List.getD plan (Int.toNat i) default), Value.int IntKind.i64 (-1), Value.int IntKind.i64 ((↑(List.length (WShore.works s)) : Int) - 1)] (Value.bool true)] ++ rPlan0_p0 B s plan i dJ0⟩ := by kernel_rfl
theorem rPlan0_s1 (B : Lo) (s : WShore) (plan : List Int) (i : Int) (dJ0 : Nat → Value) : endT (srunT Try.prog (okFn Try.prog) J0 B 14 1 (headC 46 28 (([1, 2, 5] : List Nat).zip (rPlan0_v0 s plan i)) dJ0 rPlan0_t0) (headH (rPlan0_o0 s plan i)) (2 + (rPlan0_o0 s plan i).length)
 (rPlan0_q0 s plan i dJ0 ++ [(12, HintT.pure (Value.bool false) [])]) 0 [] []) [] = some (Value.bool false,
 [AllP [] ∧ PureC Try.prog J0 56 #[Value.int IntKind.i64 (List.getD plan (Int.toNat i) default), Value.int IntKind.i64 (-1), Value.int IntKind.i64 ((↑(List.length (WShore.works s)) : Int) - 1)] (Value.bool false)] ++ rPlan0_p0 B s plan i dJ0) := by kernel_rfl
noncomputable def rPlan0_p1 (B : Lo) (s : WShore) (plan : List Int) (i : Int) (dJ0 : Nat → Value) : List Prop := [ltq i (↑(List.length plan) : Int) = false] ++ ([] : List Prop)
noncomputable def rPlan0_q1 (s : WShore) (plan : List Int) (i : Int) (dJ0 : Nat → Value) : ScriptT := [(3, hvF)]
theorem rPlan0_s2 (B : Lo) (s : WShore) (plan : List Int) (i : Int) (dJ0 : Nat → Value) : endT (srunT Try.prog (okFn Try.prog) J0 B 9 1 (headC 46 28 (([1, 2, 5] : List Nat).zip (rPlan0_v0 s plan i)) dJ0 rPlan0_t0) (headH (rPlan0_o0 s plan i)) (2 + (rPlan0_o0 s plan i).length)
 (rPlan0_q1 s plan i dJ0 ++ [(9, hvT)]) 0 [] []) [] = some (Value.bool true,
 [eqq (↑(List.length plan) : Int) (↑(List.length (WShore.cells s)) : Int) = true] ++ rPlan0_p1 B s plan i dJ0) := by kernel_rfl
theorem rPlan0_s3 (B : Lo) (s : WShore) (plan : List Int) (i : Int) (dJ0 : Nat → Value) : endT (srunT Try.prog (okFn Try.prog) J0 B 9 1 (headC 46 28 (([1, 2, 5] : List Nat).zip (rPlan0_v0 s plan i)) dJ0 rPlan0_t0) (headH (rPlan0_o0 s plan i)) (2 + (rPlan0_o0 s plan i).length)
 (rPlan0_q1 s plan i dJ0 ++ [(9, hvF)]) 0 [] []) [] = some (Value.bool false,
 [eqq (↑(List.length plan) : Int) (↑(List.length (WShore.cells s)) : Int) = false] ++ rPlan0_p1 B s plan i dJ0) := by kernel_rfl
theorem rPlan0_s4 (B : Lo) (s : WShore) (plan : List Int) : landM (srunT Try.prog (okFn Try.prog) J0 B 7 1 (entryC Try.prog 46 28 (([.agg (encShore s).toArray, slI plan]).map (pushT 0 4))) H00 1
 [] 0 [] []) [1, 2, 5] [(1, KS.auto)] [] = some ⟨46, 28, rPlan0_t0, [], .run, none, rPlan0_v0 s plan (0), rPlan0_o0 s plan (0),
 []⟩ := by kernel_rfl
set_option maxHeartbeats 4000000 in
theorem rPlan0_ls (s : WShore) (plan : List Int)  (hfacts : s.cells.length ≤ 9223372036854775807 ∧ s.works.length ≤ 9223372036854775807 ∧ plan.length ≤ 9223372036854775807) {B : Lo} (hJ : ∀ w, B.has w → J0 w) {c0 : CF} : ∀ m : Nat, (∀ (i : Int), (plan.length - i.toNat) = m → ∀ (h0 : 0 ≤ i), rPlan0_h0 B c0 s plan i → EndsT Try.prog B c0 (.bool ((plan.drop i.toNat).all (fun x => inB x (-1) (s.works.length - 1)) && decide (plan.length = s.cells.length)))) := by
 intro m0
 induction m0 using Nat.strongRecOn with
 | _ m0 ih0 =>
   intro i hm0 h0 ⟨dJ0, hdJ0, hg0⟩
   by_cases q0 : (i : Int) < ((↑(List.length plan) : Int))
   ·
    have hp0 : AllP (rPlan0_p0 B s plan i dJ0) := by
     have s2 := drop_all2 (l := plan) (p := fun x => inB x (-1) (s.works.length - 1)) h0 q0
     exact ⟨(wq_in (by omega) (by omega)), ⟨⟨by omega, by omega, (rowL_extract (z := 1) (fun _ => rfl) (by omega))⟩, ⟨(ltq_t q0), trivial⟩⟩⟩
    cases q1 : inB (List.getD plan (Int.toNat i) default) (-1) ((↑(List.length (WShore.works s)) : Int) - 1) with
    | true =>
      have s2 := drop_all2 (l := plan) (p := fun x => inB x (-1) (s.works.length - 1)) h0 q0
      exact ((ih0 _ (by omega)) (i + 1) rfl (by omega)
       (hg0.landM okF hJ mixed_ok (rPlan0_s0 B s plan i dJ0)
       ⟨(wq_in (by omega) (by omega)), ⟨⟨trivial, (by have t_ := rin (List.getD plan (Int.toNat i) default) (-1) ((↑(List.length (WShore.works s)) : Int) - 1); rw [q1] at t_; exact t_)⟩, hp0⟩⟩ (by kernel_rfl) (by kernel_rfl))).cast (by (rw [s2]; simp_all; done))
    | false =>
      have s2 := drop_all2 (l := plan) (p := fun x => inB x (-1) (s.works.length - 1)) h0 q0
      exact (GoE.endsT okF hJ mixed_ok hg0 (rPlan0_s1 B s plan i dJ0)
       ⟨⟨trivial, (by have t_ := rin (List.getD plan (Int.toNat i) default) (-1) ((↑(List.length (WShore.works s)) : Int) - 1); rw [q1] at t_; exact t_)⟩, hp0⟩).cast (by (rw [s2]; simp_all; done))
   ·
    have hp1 : AllP (rPlan0_p1 B s plan i dJ0) := by
     exact ⟨(ltq_f (Int.not_lt.1 q0)), trivial⟩
    by_cases q1 : ((↑(List.length plan) : Int) : Int) = ((↑(List.length (WShore.cells s)) : Int))
    ·
     have s2 := drop_nil2 (l := plan) (p := fun x => inB x (-1) (s.works.length - 1)) (i := i) (by omega)
     exact (GoE.endsT okF hJ mixed_ok hg0 (rPlan0_s2 B s plan i dJ0)
      ⟨(eqq_t q1), hp1⟩).cast (by (rw [s2]; simp_all; omega))
    ·
     have s2 := drop_nil2 (l := plan) (p := fun x => inB x (-1) (s.works.length - 1)) (i := i) (by omega)
     exact (GoE.endsT okF hJ mixed_ok hg0 (rPlan0_s3 B s plan i dJ0)
      ⟨(eqq_f q1), hp1⟩).cast (by (rw [s2]; simp_all; omega))
set_option maxHeartbeats 4000000 in
theorem rPlan0_e (s : WShore) (plan : List Int)  (hfacts : s.cells.length ≤ 9223372036854775807 ∧ s.works.length ≤ 9223372036854775807 ∧ plan.length ≤ 9223372036854775807) {B : Lo} (hJ : ∀ w, B.has w → J0 w) : EndsT Try.prog B (entryC Try.prog 46 28 (([.agg (encShore s).toArray, slI plan]).map (pushT 0 4))) (.bool (plan.all (fun x => inB x (-1) (s.works.length - 1)) && decide (plan.length = s.cells.length))) := by
 exact ((rPlan0_ls s plan hfacts hJ _) (0) rfl (by omega)
  (GoE.start.landM okF hJ mixed_ok (rPlan0_s4 B s plan)
  trivial (by kernel_rfl) (by kernel_rfl))).cast (by rfl)
theorem rPlan0 (s : WShore) (plan : List Int)  : PureC Try.prog J0 46 #[.agg (encShore s).toArray, slI plan] (.bool (plan.all (fun x => inB x (-1) (s.works.length - 1)) && decide (plan.length = s.cells.length))) :=
 pureC_ofF (ts := [.agg (encShore s).toArray, slI plan]) (s.cells.length ≤ 9223372036854775807 ∧ s.works.length ≤ 9223372036854775807 ∧ plan.length ≤ 9223372036854775807) (fun _ _ ht => ⟨ht.ln2 (i := 0) (j := 0) rfl rfl, ht.ln2 (i := 0) (j := 1) rfl rfl, ht.ln (i := 1) rfl⟩) J0_st (c0 := entryC Try.prog 46 28 (([.agg (encShore s).toArray, slI plan]).map (pushT 0 4))) (by kernel_rfl) (by kernel_rfl) fun hfacts B hJ => rPlan0_e s plan  hfacts hJ
theorem rPlan (s : WShore) (plan : List Int) : PureC Try.prog J0 46 #[.agg (encShore s).toArray, slI plan] (.bool (planB s plan)) := by
 have h := rPlan0 s plan; rw [Bool.and_comm] at h; exact h
noncomputable def rCell_p0 (B : Lo) (s : WShore) (k : Int) : List Prop := [wq ((↑(List.length (WShore.cells s)) : Int) - 1) = (↑(List.length (WShore.cells s)) : Int) - 1] ++ ([] : List Prop)
noncomputable def rCell_q0 (s : WShore) (k : Int) : ScriptT := [(6, hvI ((↑(List.length (WShore.cells s)) : Int) - 1))]
theorem rCell_s0 (B : Lo) (s : WShore) (k : Int) : endT (srunT Try.prog (okFn Try.prog) J0 B 6 1 (entryC Try.prog 35 11 (([.agg (encShore s).toArray, .int .i64 k]).map (pushT 0 4))) H00 1
 (rCell_q0 s k ++ [(7, HintT.pure (Value.bool true) [])]) 0 [] []) [] = some (Value.bool true,
 [AllP [] ∧ PureC Try.prog J0 56 #[Value.int IntKind.i64 k, Value.int IntKind.i64 0, Value.int IntKind.i64 ((↑(List.length (WShore.cells s)) : Int) - 1)] (Value.bool true)] ++ rCell_p0 B s k) := by kernel_rfl
theorem rCell_s1 (B : Lo) (s : WShore) (k : Int) : endT (srunT Try.prog (okFn Try.prog) J0 B 6 1 (entryC Try.prog 35 11 (([.agg (encShore s).toArray, .int .i64 k]).map (pushT 0 4))) H00 1
 (rCell_q0 s k ++ [(7, HintT.pure (Value.bool false) [])]) 0 [] []) [] = some (Value.bool false,
 [AllP [] ∧ PureC Try.prog J0 56 #[Value.int IntKind.i64 k, Value.int IntKind.i64 0, Value.int IntKind.i64 ((↑(List.length (WShore.cells s)) : Int) - 1)] (Value.bool false)] ++ rCell_p0 B s k) := by kernel_rfl
set_option maxHeartbeats 4000000 in
theorem rCell_e (s : WShore) (k : Int)  (hfacts : s.cells.length ≤ 9223372036854775807) {B : Lo} (hJ : ∀ w, B.has w → J0 w) : EndsT Try.prog B (entryC Try.prog 35 11 (([.agg (encShore s).toArray, .int .i64 k]).map (pushT 0 4))) (.bool (inB k 0 (s.cells.length - 1))) := by
 have hp0 : AllP (rCell_p0 B s k) := by
  exact ⟨(wq_in (by omega) (by omega)), trivial⟩
 cases q0 : inB k 0 ((↑(List.length (WShore.cells s)) : Int) - 1) with
 | true =>
   exact (GoE.endsT okF hJ mixed_ok GoE.start (rCell_s0 B s k)
    ⟨⟨trivial, (by have t_ := rin (k) (0) ((↑(List.length (WShore.cells s)) : Int) - 1); rw [q0] at t_; exact t_)⟩, hp0⟩).cast (by rfl)
 | false =>
   exact (GoE.endsT okF hJ mixed_ok GoE.start (rCell_s1 B s k)
    ⟨⟨trivial, (by have t_ := rin (k) (0) ((↑(List.length (WShore.cells s)) : Int) - 1); rw [q0] at t_; exact t_)⟩, hp0⟩).cast (by rfl)
theorem rCell (s : WShore) (k : Int)  : PureC Try.prog J0 35 #[.agg (encShore s).toArray, .int .i64 k] (.bool (inB k 0 (s.cells.length - 1))) :=
 pureC_ofF (ts := [.agg (encShore s).toArray, .int .i64 k]) (s.cells.length ≤ 9223372036854775807) (fun _ _ ht => ht.ln2 (i := 0) (j := 0) rfl rfl) J0_st (c0 := entryC Try.prog 35 11 (([.agg (encShore s).toArray, .int .i64 k]).map (pushT 0 4))) (by kernel_rfl) (by kernel_rfl) fun hfacts B hJ => rCell_e s k  hfacts hJ
def rSame_v0 (xs ys : List Int) (i : Int) : List Value := [topV 1 (slT (List.length xs) (rowL encI xs)), topV 1 (slT (List.length ys) (rowL encI ys)), .int .i64 i]
def rSame_o0 (xs ys : List Int) (i : Int) : List Obj := []
noncomputable def rSame_t0 : List Item := ([.code [1, 1, 0, 1, 0, 0], .inLoop [1, 1, 0, 1, 0, 0], .inBlock 0, .code [1, 1, 1]]).map (it (bodyOf Try.prog 27))
def rSame_h0 (B : Lo) (c0 : CF) (xs ys : List Int) (i : Int) : Prop := ∃ dJ : Nat → Value, (∀ t, Loose (dJ t)) ∧ GoE Try.prog B c0 H00 1 (headC 27 26 (([0, 1, 5] : List Nat).zip (rSame_v0 xs ys i)) dJ rSame_t0) (headH (rSame_o0 xs ys i)) (2 + (rSame_o0 xs ys i).length) []
noncomputable def rSame_p0 (B : Lo) (xs ys : List Int) (i : Int) (dJ0 : Nat → Value) : List Prop := [i = (↑(Int.toNat i) : Int) ∧ Int.toNat i < List.length ys ∧ Array.extract (rowL encI ys) (Int.toNat i * TypeInfo.size Try.t3) (Int.toNat i * TypeInfo.size Try.t3 + TypeInfo.size Try.t3) = #[Value.int IntKind.i64 (List.getD ys (Int.toNat i) default)], i = (↑(Int.toNat i) : Int) ∧ Int.toNat i < List.length xs ∧ Array.extract (rowL encI xs) (Int.toNat i * TypeInfo.size Try.t3) (Int.toNat i * TypeInfo.size Try.t3 + TypeInfo.size Try.t3) = #[Value.int IntKind.i64 (List.getD xs (Int.toNat i) default)], ltq i (↑(List.length xs) : Int) = true] ++ ([] : List Prop)
noncomputable def rSame_q0 (xs ys : List Int) (i : Int) (dJ0 : Nat → Value) : ScriptT := [(3, hvT), (6, HintT.tidx (Int.toNat i) #[Value.int IntKind.i64 (List.getD xs (Int.toNat i) default)]), (10, HintT.tidx (Int.toNat i) #[Value.int IntKind.i64 (List.getD ys (Int.toNat i) default)])]
theorem rSame_s0 (B : Lo) (xs ys : List Int) (i : Int) (dJ0 : Nat → Value) : endT (srunT Try.prog (okFn Try.prog) J0 B 14 1 (headC 27 26 (([0, 1, 5] : List Nat).zip (rSame_v0 xs ys i)) dJ0 rSame_t0) (headH (rSame_o0 xs ys i)) (2 + (rSame_o0 xs ys i).length)
 (rSame_q0 xs ys i dJ0 ++ [(12, hvT)]) 0 [] []) [] = some (Value.bool false,
 [(!eqq (List.getD xs (Int.toNat i) default) (List.getD ys (Int.toNat i) default)) = true] ++ rSame_p0 B xs ys i dJ0) := by kernel_rfl
theorem rSame_s1 (B : Lo) (xs ys : List Int) (i : Int) (dJ0 : Nat → Value) : landM (srunT Try.prog (okFn Try.prog) J0 B 14 1 (headC 27 26 (([0, 1, 5] : List Nat).zip (rSame_v0 xs ys i)) dJ0 rSame_t0) (headH (rSame_o0 xs ys i)) (2 + (rSame_o0 xs ys i).length)
 (rSame_q0 xs ys i dJ0 ++ [(12, hvF), (14, hvI (i + 1))]) 0 [] []) [0, 1, 5] [] [] = some ⟨27, 26, rSame_t0, [], .run, none, rSame_v0 xs ys (i + 1), rSame_o0 xs ys (i + 1),
 [wq (i + 1) = i + 1, (!eqq (List.getD xs (Int.toNat i) default) (List.getD ys (Int.toNat i) default)) = false] ++ rSame_p0 B xs ys i dJ0⟩ := by kernel_rfl
theorem rSame_s2 (B : Lo) (xs ys : List Int) (i : Int) (dJ0 : Nat → Value) : endT (srunT Try.prog (okFn Try.prog) J0 B 9 1 (headC 27 26 (([0, 1, 5] : List Nat).zip (rSame_v0 xs ys i)) dJ0 rSame_t0) (headH (rSame_o0 xs ys i)) (2 + (rSame_o0 xs ys i).length)
 [(3, hvF)] 0 [] []) [] = some (Value.bool true,
 [ltq i (↑(List.length xs) : Int) = false]) := by kernel_rfl
theorem rSame_s3 (B : Lo) (xs ys : List Int) : endT (srunT Try.prog (okFn Try.prog) J0 B 10 1 (entryC Try.prog 27 26 (([slI xs, slI ys]).map (pushT 0 4))) H00 1
 [(5, hvT)] 0 [] []) [] = some (Value.bool false,
 [(!eqq (↑(List.length xs) : Int) (↑(List.length ys) : Int)) = true]) := by kernel_rfl
theorem rSame_s4 (B : Lo) (xs ys : List Int) : landM (srunT Try.prog (okFn Try.prog) J0 B 12 1 (entryC Try.prog 27 26 (([slI xs, slI ys]).map (pushT 0 4))) H00 1
 [(5, hvF)] 0 [] []) [0, 1, 5] [] [] = some ⟨27, 26, rSame_t0, [], .run, none, rSame_v0 xs ys (0), rSame_o0 xs ys (0),
 [(!eqq (↑(List.length xs) : Int) (↑(List.length ys) : Int)) = false]⟩ := by kernel_rfl
set_option maxHeartbeats 4000000 in
theorem rSame_ls (xs ys : List Int)  (hfacts : xs.length ≤ 9223372036854775807 ∧ ys.length ≤ 9223372036854775807) {B : Lo} (hJ : ∀ w, B.has w → J0 w) {c0 : CF} : ∀ m : Nat, (∀ (i : Int), xs.length - i.toNat = m → ∀ (h0 : 0 ≤ i) (hl : xs.length = ys.length), rSame_h0 B c0 xs ys i → EndsT Try.prog B c0 (.bool (decide (xs.drop i.toNat = ys.drop i.toNat)))) := by
 intro m0
 induction m0 using Nat.strongRecOn with
 | _ m0 ih0 =>
   intro i hm0 h0 hl ⟨dJ0, hdJ0, hg0⟩
   by_cases q0 : (i : Int) < ((↑(List.length xs) : Int))
   ·
    have hp0 : AllP (rSame_p0 B xs ys i dJ0) := by
     exact ⟨⟨by omega, by omega, (rowL_extract (z := 1) (fun _ => rfl) (by omega))⟩, ⟨⟨by omega, by omega, (rowL_extract (z := 1) (fun _ => rfl) (by omega))⟩, ⟨(ltq_t q0), trivial⟩⟩⟩
    by_cases q1 : (List.getD xs (Int.toNat i) default : Int) ≠ (List.getD ys (Int.toNat i) default)
    ·
     exact (GoE.endsT okF hJ mixed_ok hg0 (rSame_s0 B xs ys i dJ0)
      ⟨(neqq_t q1), hp0⟩).cast (by (rw [drop_cons (i := i) (xs := xs) (by omega) (by omega), drop_cons (i := i) (xs := ys) (by omega) (by omega)]; simp_all; done))
    ·
     exact ((ih0 _ (by omega)) (i + 1) rfl (by omega) (by with_reducible assumption)
      (hg0.landM okF hJ mixed_ok (rSame_s1 B xs ys i dJ0)
      ⟨(wq_in (by omega) (by omega)), ⟨(neqq_f (Decidable.of_not_not q1)), hp0⟩⟩ (by kernel_rfl) (by kernel_rfl))).cast (by (rw [drop_cons (i := i) (xs := xs) (by omega) (by omega), drop_cons (i := i) (xs := ys) (by omega) (by omega)]; simp_all; done))
   ·
    exact (GoE.endsT okF hJ mixed_ok hg0 (rSame_s2 B xs ys i dJ0)
     ⟨(ltq_f (Int.not_lt.1 q0)), trivial⟩).cast (by (rw [drop_end (i := i) (xs := xs) (by omega), drop_end (i := i) (xs := ys) (by omega)]; simp; done))
set_option maxHeartbeats 4000000 in
theorem rSame_e (xs ys : List Int)  (hfacts : xs.length ≤ 9223372036854775807 ∧ ys.length ≤ 9223372036854775807) {B : Lo} (hJ : ∀ w, B.has w → J0 w) : EndsT Try.prog B (entryC Try.prog 27 26 (([slI xs, slI ys]).map (pushT 0 4))) (.bool (decide (xs = ys))) := by
 by_cases q0 : ((↑(List.length xs) : Int) : Int) ≠ ((↑(List.length ys) : Int))
 ·
  exact (GoE.endsT okF hJ mixed_ok GoE.start (rSame_s3 B xs ys)
   ⟨(neqq_t q0), trivial⟩).cast (by (simp; intro h; subst h; omega))
 ·
  exact ((rSame_ls xs ys hfacts hJ _) (0) rfl (by omega) (by omega)
   (GoE.start.landM okF hJ mixed_ok (rSame_s4 B xs ys)
   ⟨(neqq_f (Decidable.of_not_not q0)), trivial⟩ (by kernel_rfl) (by kernel_rfl))).cast (by rfl)
theorem rSame (xs ys : List Int)  : PureC Try.prog J0 27 #[slI xs, slI ys] (.bool (decide (xs = ys))) :=
 pureC_ofF (ts := [slI xs, slI ys]) (xs.length ≤ 9223372036854775807 ∧ ys.length ≤ 9223372036854775807) (fun _ _ ht => ⟨ht.ln (i := 0) rfl, ht.ln (i := 1) rfl⟩) J0_st (c0 := entryC Try.prog 27 26 (([slI xs, slI ys]).map (pushT 0 4))) (by kernel_rfl) (by kernel_rfl) fun hfacts B hJ => rSame_e xs ys  hfacts hJ
theorem span_eq {a b : Span} : a = b ↔ a.lo = b.lo ∧ a.hi = b.hi := by
 cases a; cases b; simp
instance : DecidableEq Span := fun a b => decidable_of_iff _ span_eq.symm
def endE (b : Bool) (s : WShore) (c : WStorm) : WTruth := ⟨bif b then c.whi else c.wlo, bif b then c.fhi else c.flo, bif b then c.thi else c.tlo, bif b then s.llo else s.lhi, s.cells.map fun x => bif b then x.dlo else x.dhi⟩
theorem map_cons {α β : Type} [Inhabited α] {f : α → β} {l : List α} {i : Int} (h0 : 0 ≤ i) (h : i < l.length) : (l.drop i.toNat).map f = f (l.getD i.toNat default) :: (l.drop (i + 1).toNat).map f := by
 rw [drop_cons h0 h]; rfl
theorem map_nil {α β : Type} {f : α → β} {l : List α} {i : Int} (h : l.length ≤ i) : (l.drop i.toNat).map f = [] := by
 rw [drop_end h]; rfl
def rEndT_v0 (s : WShore) (c : WStorm) (i : Int) : List Value := [Value.bool true, pA 2 0, pA 3 0, pA 4 0, .int .i64 i]
def rEndT_o0 (s : WShore) (c : WStorm) (i : Int) : List Obj := [Obj.cells #[topV 1 (slT (List.length (WShore.cells s)) (rowL encWCell (WShore.cells s))), topV 1 (slT (List.length (WShore.works s)) (rowL encWWork (WShore.works s))), Value.int IntKind.i64 (WShore.reef s), Value.int IntKind.i64 (WShore.llo s), Value.int IntKind.i64 (WShore.lhi s)] 27, Obj.cells #[Value.int IntKind.i64 0, Value.int IntKind.i64 0, Value.int IntKind.i64 0, Value.int IntKind.i64 0, Value.slice none 0 0] 38, Obj.cells #[Value.int IntKind.i64 (WStorm.whi c), Value.int IntKind.i64 (WStorm.fhi c), Value.int IntKind.i64 (WStorm.thi c), Value.int IntKind.i64 (WShore.llo s), Value.slice none 0 0] 38]
noncomputable def rEndT_t0 : List Item := ([.code [1, 1, 1, 0, 1, 0, 0], .inLoop [1, 1, 1, 0, 1, 0, 0], .inBlock 0, .code [1, 1, 1, 1]]).map (it (bodyOf Try.prog 23))
def rEndT_h0 (B : Lo) (c0 : CF) (s : WShore) (c : WStorm) (i : Int) : Prop := ∃ dJ : Nat → Value, (∀ t, Loose (dJ t)) ∧ GoE Try.prog B c0 H00 1 (headC 23 66 (([2, 3, 6, 7, 8] : List Nat).zip (rEndT_v0 s c i)) dJ rEndT_t0) (headH (rEndT_o0 s c i)) (2 + (rEndT_o0 s c i).length) []
def rEndT_v1 (s : WShore) (c : WStorm) (i : Int) (out : List Int) (n : Nat) : List Value := [Value.bool true, pA 2 0, pA 3 0, pA 4 0, .int .i64 i]
def rEndT_o1 (s : WShore) (c : WStorm) (i : Int) (out : List Int) (n : Nat) : List Obj := [Obj.cells #[topV 1 (slT (List.length (WShore.cells s)) (rowL encWCell (WShore.cells s))), topV 1 (slT (List.length (WShore.works s)) (rowL encWWork (WShore.works s))), Value.int IntKind.i64 (WShore.reef s), Value.int IntKind.i64 (WShore.llo s), Value.int IntKind.i64 (WShore.lhi s)] 27, Obj.cells #[Value.int IntKind.i64 0, Value.int IntKind.i64 0, Value.int IntKind.i64 0, Value.int IntKind.i64 0, Value.slice none 0 0] 38, .cells #[.int .i64 c.whi, .int .i64 c.fhi, .int .i64 c.thi, .int .i64 s.llo, .slice (some ⟨5, 0, none⟩) n 1] 38 (0, 0), .cells (rowL encI out) 3 (0, 0)]
noncomputable def rEndT_t1 : List Item := ([.code [1, 1, 1, 0, 1, 0, 0], .inLoop [1, 1, 1, 0, 1, 0, 0], .inBlock 0, .code [1, 1, 1, 1]]).map (it (bodyOf Try.prog 23))
def rEndT_h1 (B : Lo) (c0 : CF) (s : WShore) (c : WStorm) (i : Int) (out : List Int) (n : Nat) : Prop := ∃ dJ : Nat → Value, (∀ t, Loose (dJ t)) ∧ GoE Try.prog B c0 H00 1 (headC 23 66 (([2, 3, 6, 7, 8] : List Nat).zip (rEndT_v1 s c i out n)) dJ rEndT_t1) (headH (rEndT_o1 s c i out n)) (2 + (rEndT_o1 s c i out n).length) []
noncomputable def rEndT_z0 (s : WShore) (i : Int) : Array Value := #[Value.int IntKind.i64 (WCell.ground (List.getD (WShore.cells s) (Int.toNat i) default)), Value.int IntKind.i64 (WCell.dlo (List.getD (WShore.cells s) (Int.toNat i) default)), Value.int IntKind.i64 (WCell.dhi (List.getD (WShore.cells s) (Int.toNat i) default)), Value.int IntKind.i64 (WCell.floor (List.getD (WShore.cells s) (Int.toNat i) default))]
theorem rEndT_s0 (B : Lo) (s : WShore) (c : WStorm) (i : Int) (dJ0 : Nat → Value) : landM (srunT Try.prog (okFn Try.prog) J0 B 18 1 (headC 23 66 (([2, 3, 6, 7, 8] : List Nat).zip (rEndT_v0 s c i)) dJ0 rEndT_t0) (headH (rEndT_o0 s c i)) (2 + (rEndT_o0 s c i).length)
 [(4, hvT), (8, HintT.tidx (Int.toNat i) (rEndT_z0 s i)), (17, HintT.tidx (Int.toNat i) (rEndT_z0 s i)), (30, hvI (i + 1))] 0 [] []) [2, 3, 6, 7, 8] [(2, KS.auto), (3, KS.auto), (4, KS.auto), (6, KS.cells [] (rowL encI [WCell.dlo (List.getD (WShore.cells s) (Int.toNat i) default)]))] [] = some ⟨23, 66, rEndT_t1, [], .run, none, rEndT_v1 s c (i + 1) ([WCell.dlo (List.getD (WShore.cells s) (Int.toNat i) default)]) (1), rEndT_o1 s c (i + 1) ([WCell.dlo (List.getD (WShore.cells s) (Int.toNat i) default)]) (1),
 [CellsM 1 [] (#[Value.int IntKind.i64 (WCell.dlo (List.getD (WShore.cells s) (Int.toNat i) default))]) (rowL encI [WCell.dlo (List.getD (WShore.cells s) (Int.toNat i) default)]), wq (i + 1) = i + 1, i = (↑(Int.toNat i) : Int) ∧ Int.toNat i < List.length (WShore.cells s) ∧ Array.extract (rowL encWCell (WShore.cells s)) (Int.toNat i * TypeInfo.size Try.t59) (Int.toNat i * TypeInfo.size Try.t59 + TypeInfo.size Try.t59) = (rEndT_z0 s i), i = (↑(Int.toNat i) : Int) ∧ Int.toNat i < List.length (WShore.cells s) ∧ Array.extract (rowL encWCell (WShore.cells s)) (Int.toNat i * TypeInfo.size Try.t59) (Int.toNat i * TypeInfo.size Try.t59 + TypeInfo.size Try.t59) = (rEndT_z0 s i), ltq i (↑(List.length (WShore.cells s)) : Int) = true]⟩ := by kernel_rfl
theorem rEndT_s1 (B : Lo) (s : WShore) (c : WStorm) (i : Int) (dJ0 : Nat → Value) : endT (srunT Try.prog (okFn Try.prog) J0 B 9 1 (headC 23 66 (([2, 3, 6, 7, 8] : List Nat).zip (rEndT_v0 s c i)) dJ0 rEndT_t0) (headH (rEndT_o0 s c i)) (2 + (rEndT_o0 s c i).length)
 [(4, hvF)] 0 [] []) [] = some (Value.agg #[Value.int IntKind.i64 (WStorm.whi c), Value.int IntKind.i64 (WStorm.fhi c), Value.int IntKind.i64 (WStorm.thi c), Value.int IntKind.i64 (WShore.llo s), slT 0 #[]],
 [ltq i (↑(List.length (WShore.cells s)) : Int) = false]) := by kernel_rfl
theorem rEndT_s2 (B : Lo) (s : WShore) (c : WStorm) (i : Int) (out : List Int) (n : Nat) (dJ0 : Nat → Value) : landM (srunT Try.prog (okFn Try.prog) J0 B 18 1 (headC 23 66 (([2, 3, 6, 7, 8] : List Nat).zip (rEndT_v1 s c i out n)) dJ0 rEndT_t1) (headH (rEndT_o1 s c i out n)) (2 + (rEndT_o1 s c i out n).length)
 [(4, hvT), (8, HintT.tidx (Int.toNat i) (rEndT_z0 s i)), (17, HintT.tidx (Int.toNat i) (rEndT_z0 s i)), (26, HintT.old (Hint.app (rowL encI (out ++ [WCell.dlo (List.getD (WShore.cells s) (Int.toNat i) default)])))), (30, hvI (i + 1))] 0 [] []) [2, 3, 6, 7, 8] [(2, KS.auto), (3, KS.auto), (4, KS.auto), (7, KS.cells [] (rowL encI (out ++ [WCell.dlo (List.getD (WShore.cells s) (Int.toNat i) default)])))] [] = some ⟨23, 66, rEndT_t1, [], .run, none, rEndT_v1 s c (i + 1) (out ++ [WCell.dlo (List.getD (WShore.cells s) (Int.toNat i) default)]) (n + 1), rEndT_o1 s c (i + 1) (out ++ [WCell.dlo (List.getD (WShore.cells s) (Int.toNat i) default)]) (n + 1),
 [CellsM 1 [] (rowL encI (out ++ [WCell.dlo (List.getD (WShore.cells s) (Int.toNat i) default)])) (rowL encI (out ++ [WCell.dlo (List.getD (WShore.cells s) (Int.toNat i) default)])), wq (i + 1) = i + 1, Array.size (rowL encI out) = n * (0 + 1) ∧ n + 1 ≤ maxLen ∧ (n + 1) * 8 ≤ 140737488355328 ∧ rowL encI out ++ #[Value.int IntKind.i64 (WCell.dlo (List.getD (WShore.cells s) (Int.toNat i) default))] = rowL encI (out ++ [WCell.dlo (List.getD (WShore.cells s) (Int.toNat i) default)]), i = (↑(Int.toNat i) : Int) ∧ Int.toNat i < List.length (WShore.cells s) ∧ Array.extract (rowL encWCell (WShore.cells s)) (Int.toNat i * TypeInfo.size Try.t59) (Int.toNat i * TypeInfo.size Try.t59 + TypeInfo.size Try.t59) = (rEndT_z0 s i), i = (↑(Int.toNat i) : Int) ∧ Int.toNat i < List.length (WShore.cells s) ∧ Array.extract (rowL encWCell (WShore.cells s)) (Int.toNat i * TypeInfo.size Try.t59) (Int.toNat i * TypeInfo.size Try.t59 + TypeInfo.size Try.t59) = (rEndT_z0 s i), ltq i (↑(List.length (WShore.cells s)) : Int) = true]⟩ := by kernel_rfl
theorem rEndT_s3 (B : Lo) (s : WShore) (c : WStorm) (i : Int) (out : List Int) (n : Nat) (dJ0 : Nat → Value) : endT (srunT Try.prog (okFn Try.prog) J0 B 9 1 (headC 23 66 (([2, 3, 6, 7, 8] : List Nat).zip (rEndT_v1 s c i out n)) dJ0 rEndT_t1) (headH (rEndT_o1 s c i out n)) (2 + (rEndT_o1 s c i out n).length)
 [(4, hvF)] 0 [] []) [{ k := 5, rs := [], cs := rowL encI out }] = some (Value.agg #[Value.int IntKind.i64 (WStorm.whi c), Value.int IntKind.i64 (WStorm.fhi c), Value.int IntKind.i64 (WStorm.thi c), Value.int IntKind.i64 (WShore.llo s), slT n (Fz.cs { k := 5, rs := [], cs := rowL encI out })],
 [CellsT (Fz.rs { k := 5, rs := [], cs := rowL encI out }) (rowL encI out) (Fz.cs { k := 5, rs := [], cs := rowL encI out }), ltq i (↑(List.length (WShore.cells s)) : Int) = false]) := by kernel_rfl
theorem rEndT_s4 (B : Lo) (s : WShore) (c : WStorm) : landM (srunT Try.prog (okFn Try.prog) J0 B 14 1 (entryC Try.prog 23 66 (([.agg (encShore s).toArray, .agg (encStorm c).toArray, .bool true]).map (pushT 0 4))) H00 1
 [] 0 [] []) [2, 3, 6, 7, 8] [(1, KS.auto), (3, KS.auto), (4, KS.auto)] [] = some ⟨23, 66, rEndT_t0, [], .run, none, rEndT_v0 s c (0), rEndT_o0 s c (0),
 []⟩ := by kernel_rfl
set_option maxHeartbeats 4000000 in
theorem rEndT_ls (s : WShore) (c : WStorm) (hn : s.cells.length ≤ 1000000) {B : Lo} (hJ : ∀ w, B.has w → J0 w) {c0 : CF} : ∀ m : Nat, (∀ (i : Int), s.cells.length - i.toNat = m → ∀ (h0 : 0 ≤ i), rEndT_h0 B c0 s c i → EndsT Try.prog B c0 (.agg #[.int .i64 c.whi, .int .i64 c.fhi, .int .i64 c.thi, .int .i64 s.llo, slI ((s.cells.drop i.toNat).map WCell.dlo)])) ∧ (∀ (i : Int) (out : List Int) (n : Nat), s.cells.length - i.toNat = m → ∀ (h0 : 0 ≤ i) (hm : n = out.length) (hx : (n : Int) ≤ i), rEndT_h1 B c0 s c i out n → EndsT Try.prog B c0 (.agg #[.int .i64 c.whi, .int .i64 c.fhi, .int .i64 c.thi, .int .i64 s.llo, slI (out ++ (s.cells.drop i.toNat).map WCell.dlo)])) := by
 intro m0
 induction m0 using Nat.strongRecOn with
 | _ m0 ih0 =>
   refine ⟨?_, ?_⟩
   ·intro i hm0 h0 ⟨dJ0, hdJ0, hg0⟩
    by_cases q0 : (i : Int) < ((↑(List.length (WShore.cells s)) : Int))
    ·
     have s2 := map_cons (f := WCell.dlo) (l := s.cells) h0 q0
     exact ((ih0 _ (by omega)).2 (i + 1) ([WCell.dlo (List.getD (WShore.cells s) (Int.toNat i) default)]) (1) rfl (by omega) (by (simp_all; done)) (by omega)
      (hg0.landM okF hJ mixed_ok (rEndT_s0 B s c i dJ0)
      ⟨(cellsM_lit (by kernel_rfl)), ⟨(wq_in (by omega) (by omega)), ⟨⟨by omega, by omega, (rowL_extract (z := 4) (fun _ => rfl) (by omega))⟩, ⟨⟨by omega, by omega, (rowL_extract (z := 4) (fun _ => rfl) (by omega))⟩, ⟨(ltq_t q0), trivial⟩⟩⟩⟩⟩ (by kernel_rfl) (by kernel_rfl))).cast (by (rw [s2]; rfl))
    ·
     have s2 := map_nil (f := WCell.dlo) (l := s.cells) (i := i) (by omega)
     exact (GoE.endsT okF hJ mixed_ok hg0 (rEndT_s1 B s c i dJ0)
      ⟨(ltq_f (Int.not_lt.1 q0)), trivial⟩).cast (by (rw [s2]; rfl))
   ·intro i out n hm0 h0 hm hx ⟨dJ0, hdJ0, hg0⟩
    by_cases q0 : (i : Int) < ((↑(List.length (WShore.cells s)) : Int))
    ·
     have s2 := map_cons (f := WCell.dlo) (l := s.cells) h0 q0
     exact ((ih0 _ (by omega)).2 (i + 1) (out ++ [WCell.dlo (List.getD (WShore.cells s) (Int.toNat i) default)]) (n + 1) rfl (by omega) (by (simp_all; done)) (by omega)
      (hg0.landM okF hJ mixed_ok (rEndT_s2 B s c i out n dJ0)
      ⟨(cellsM_simple (rowL_simple (fun x => List.all_eq_true.1 (by rfl)))), ⟨(wq_in (by omega) (by omega)), ⟨⟨(by (rw [rowL_size (z := 1) (fun _ => rfl)]; first | omega | (simp; omega) | (simp_all; done))), (by unfold maxLen; omega), by omega, by first | exact rowL_push | exact rowL_pushC rfl⟩, ⟨⟨by omega, by omega, (rowL_extract (z := 4) (fun _ => rfl) (by omega))⟩, ⟨⟨by omega, by omega, (rowL_extract (z := 4) (fun _ => rfl) (by omega))⟩, ⟨(ltq_t q0), trivial⟩⟩⟩⟩⟩⟩ (by kernel_rfl) (by kernel_rfl))).cast (by (rw [s2]; simp; done))
    ·
     have s2 := map_nil (f := WCell.dlo) (l := s.cells) (i := i) (by omega)
     exact (GoE.endsT okF hJ mixed_ok hg0 (rEndT_s3 B s c i out n dJ0)
      ⟨(rowL_cellsT (fun x => List.all_eq_true.1 (by rfl))), ⟨(ltq_f (Int.not_lt.1 q0)), trivial⟩⟩).cast (by (rw [s2, List.append_nil, hm]; done))
set_option maxHeartbeats 4000000 in
theorem rEndT_e (s : WShore) (c : WStorm) (hn : s.cells.length ≤ 1000000) {B : Lo} (hJ : ∀ w, B.has w → J0 w) : EndsT Try.prog B (entryC Try.prog 23 66 (([.agg (encShore s).toArray, .agg (encStorm c).toArray, .bool true]).map (pushT 0 4))) (.agg (encTruth (endE true s c)).toArray) := by
 exact ((rEndT_ls s c hn hJ _).1 (0) rfl (by omega)
  (GoE.start.landM okF hJ mixed_ok (rEndT_s4 B s c)
  trivial (by kernel_rfl) (by kernel_rfl))).cast (by rfl)
theorem rEndT (s : WShore) (c : WStorm) (hn : s.cells.length ≤ 1000000) : PureC Try.prog J0 23 #[.agg (encShore s).toArray, .agg (encStorm c).toArray, .bool true] (.agg (encTruth (endE true s c)).toArray) :=
 pureC_of (ts := [.agg (encShore s).toArray, .agg (encStorm c).toArray, .bool true]) J0_st (c0 := entryC Try.prog 23 66 (([.agg (encShore s).toArray, .agg (encStorm c).toArray, .bool true]).map (pushT 0 4))) (by kernel_rfl) (by kernel_rfl) fun B hJ => rEndT_e s c hn hJ
end Go.Proofs.Ytiigkdhaofaijaa

