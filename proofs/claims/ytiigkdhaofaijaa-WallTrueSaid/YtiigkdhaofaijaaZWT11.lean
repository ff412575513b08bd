/- Wall: the reference: what is as defined; ends; levels. -/
import Derived.Test.YtiigkdhaofaijaaZWT10
set_option linter.all false
namespace Go.Proofs.Ytiigkdhaofaijaa
open Go Go.CE Go.RowKit
def shoreT (s : WShore) : Bool := inB s.cells.length 1 7 && (decide (s.works.length ≤ 3) && (inB s.reef 0 20 && spanB s.llo s.lhi 0 1000))
theorem shoreR_eq {s : WShore} : (s.cells.all cellB && (s.works.all workB && shoreT s)) = shoreB s := by
 unfold shoreB shoreT cellsB worksB
 cases inB s.cells.length 1 7 <;> cases s.cells.all cellB <;> cases decide (s.works.length ≤ 3) <;> cases s.works.all workB <;> simp
def rShore0_v0 (s : WShore) (i : Int) : List Value := [pA 2 0, .int .i64 i]
def rShore0_o0 (s : WShore) (i : Int) : List Obj := [Obj.cells #[topV 1 (slT (List.length (WShore.cells s)) (rowL encWCell (WShore.cells s))), topV 1 (slT (List.length (WShore.works s)) (rowL encWWork (WShore.works s))), Value.int IntKind.i64 (WShore.reef s), Value.int IntKind.i64 (WShore.llo s), Value.int IntKind.i64 (WShore.lhi s)] 27]
noncomputable def rShore0_t0 : List Item := ([.code [1, 0, 1, 0, 0], .inLoop [1, 0, 1, 0, 0], .inBlock 0, .code [1, 1]]).map (it (bodyOf Try.prog 19))
def rShore0_h0 (B : Lo) (c0 : CF) (s : WShore) (i : Int) : Prop := ∃ dJ : Nat → Value, (∀ t, Loose (dJ t)) ∧ GoE Try.prog B c0 H00 1 (headC 19 83 (([1, 3] : List Nat).zip (rShore0_v0 s i)) dJ rShore0_t0) (headH (rShore0_o0 s i)) (2 + (rShore0_o0 s i).length) []
def rShore0_v1 (s : WShore) (i : Int) : List Value := [pA 2 0, .int .i64 i]
def rShore0_o1 (s : WShore) (i : Int) : List Obj := [Obj.cells #[topV 1 (slT (List.length (WShore.cells s)) (rowL encWCell (WShore.cells s))), topV 1 (slT (List.length (WShore.works s)) (rowL encWWork (WShore.works s))), Value.int IntKind.i64 (WShore.reef s), Value.int IntKind.i64 (WShore.llo s), Value.int IntKind.i64 (WShore.lhi s)] 27]
noncomputable def rShore0_t1 : List Item := ([.code [1, 1, 0, 1, 0, 0], .inLoop [1, 1, 0, 1, 0, 0], .inBlock 2, .code [1, 1, 1]]).map (it (bodyOf Try.prog 19))
def rShore0_h1 (B : Lo) (c0 : CF) (s : WShore) (i : Int) : Prop := ∃ dJ : Nat → Value, (∀ t, Loose (dJ t)) ∧ GoE Try.prog B c0 H00 1 (headC 19 83 (([1, 5] : List Nat).zip (rShore0_v1 s i)) dJ rShore0_t1) (headH (rShore0_o1 s i)) (2 + (rShore0_o1 s i).length) []
noncomputable def rShore0_p0 (B : Lo) (s : WShore) (i : Int) (dJ0 : Nat → Value) : List Prop := [i = (↑(Int.toNat i) : Int) ∧ Int.toNat i < List.length (WShore.cells s) ∧ Array.extract (rowL encWCell (WShore.cells s)) (Int.toNat i * TypeInfo.size Try.t59) (Int.toNat i * TypeInfo.size Try.t59 + TypeInfo.size Try.t59) = #[Value.int IntKind.i64 (WCell.ground (List.getD (WShore.cells s) (Int.toNat i) default)), Value.int IntKind.i64 (WCell.dlo (List.getD (WShore.cells s) (Int.toNat i) default)), Value.int IntKind.i64 (WCell.dhi (List.getD (WShore.cells s) (Int.toNat i) default)), Value.int IntKind.i64 (WCell.floor (List.getD (WShore.cells s) (Int.toNat i) default))], ltq i (↑(List.length (WShore.cells s)) : Int) = true] ++ ([] : List Prop)
noncomputable def rShore0_q0 (s : WShore) (i : Int) (dJ0 : Nat → Value) : ScriptT := [(4, hvT), (8, HintT.tidx (Int.toNat i) #[Value.int IntKind.i64 (WCell.ground (List.getD (WShore.cells s) (Int.toNat i) default)), Value.int IntKind.i64 (WCell.dlo (List.getD (WShore.cells s) (Int.toNat i) default)), Value.int IntKind.i64 (WCell.dhi (List.getD (WShore.cells s) (Int.toNat i) default)), Value.int IntKind.i64 (WCell.floor (List.getD (WShore.cells s) (Int.toNat i) default))])]
noncomputable def rShore0_p1 (B : Lo) (s : WShore) (i : Int) (dJ0 : Nat → Value) : List Prop := [AllP [] ∧ PureC Try.prog J0 56 #[Value.int IntKind.i64 (WCell.ground (List.getD (WShore.cells s) (Int.toNat i) default)), Value.int IntKind.i64 (-5000), Value.int IntKind.i64 5000] (Value.bool true)] ++ rShore0_p0 B s i dJ0
noncomputable def rShore0_q1 (s : WShore) (i : Int) (dJ0 : Nat → Value) : ScriptT := rShore0_q0 s i dJ0 ++ [(14, HintT.pure (Value.bool true) [])]
noncomputable def rShore0_p2 (B : Lo) (s : WShore) (i : Int) (dJ0 : Nat → Value) : List Prop := [AllP [] ∧ PureC Try.prog J0 57 #[Value.agg #[Value.int IntKind.i64 (WCell.dlo (List.getD (WShore.cells s) (Int.toNat i) default)), Value.int IntKind.i64 (WCell.dhi (List.getD (WShore.cells s) (Int.toNat i) default))], Value.int IntKind.i64 0, Value.int IntKind.i64 5000] (Value.bool true)] ++ rShore0_p1 B s i dJ0
noncomputable def rShore0_q2 (s : WShore) (i : Int) (dJ0 : Nat → Value) : ScriptT := rShore0_q1 s i dJ0 ++ [(19, HintT.pure (Value.bool true) [])]
set_option maxRecDepth 100000 in
theorem rShore0_s0 (B : Lo) (s : WShore) (i : Int) (dJ0 : Nat → Value) : landM (srunT Try.prog (okFn Try.prog) J0 B 16 1 (headC 19 83 (([1, 3] : List Nat).zip (rShore0_v0 s i)) dJ0 rShore0_t0) (headH (rShore0_o0 s i)) (2 + (rShore0_o0 s i).length)
 (rShore0_q2 s i dJ0 ++ [(25, HintT.pure (Value.bool true) []), (29, hvI (i + 1))]) 0 [] []) [1, 3] [(2, KS.auto)] [] = some ⟨19, 83, rShore0_t0, [], .run, none, rShore0_v0 s (i + 1), rShore0_o0 s (i + 1),
 [wq (i + 1) = i + 1, AllP [] ∧ PureC Try.prog J0 56 #[Value.int IntKind.i64 (WCell.floor (List.getD (WShore.cells s) (Int.toNat i) default)), Value.int IntKind.i64 (-1), Value.int IntKind.i64 5000] (Value.bool true)] ++ rShore0_p2 B s i dJ0⟩ := by kernel_rfl
set_option maxRecDepth 100000 in
theorem rShore0_s1 (B : Lo) (s : WShore) (i : Int) (dJ0 : Nat → Value) : endT (srunT Try.prog (okFn Try.prog) J0 B 16 1 (headC 19 83 (([1, 3] : List Nat).zip (rShore0_v0 s i)) dJ0 rShore0_t0) (headH (rShore0_o0 s i)) (2 + (rShore0_o0 s i).length)
 (rShore0_q2 s i dJ0 ++ [(25, HintT.pure (Value.bool false) [])]) 0 [] []) [] = some (Value.bool false,
 [AllP [] ∧ PureC Try.prog J0 56 #[Value.int IntKind.i64 (WCell.floor (List.getD (WShore.cells s) (Int.toNat i) default)), Value.int IntKind.i64 (-1), Value.int IntKind.i64 5000] (Value.bool false)] ++ rShore0_p2 B s i dJ0) := by kernel_rfl
set_option maxRecDepth 100000 in
theorem rShore0_s2 (B : Lo) (s : WShore) (i : Int) (dJ0 : Nat → Value) : endT (srunT Try.prog (okFn Try.prog) J0 B 16 1 (headC 19 83 (([1, 3] : List Nat).zip (rShore0_v0 s i)) dJ0 rShore0_t0) (headH (rShore0_o0 s i)) (2 + (rShore0_o0 s i).length)
 (rShore0_q1 s i dJ0 ++ [(19, HintT.pure (Value.bool false) [])]) 0 [] []) [] = some (Value.bool false,
 [AllP [] ∧ PureC Try.prog J0 57 #[Value.agg #[Value.int IntKind.i64 (WCell.dlo (List.getD (WShore.cells s) (Int.toNat i) default)), Value.int IntKind.i64 (WCell.dhi (List.getD (WShore.cells s) (Int.toNat i) default))], Value.int IntKind.i64 0, Value.int IntKind.i64 5000] (Value.bool false)] ++ rShore0_p1 B s i dJ0) := by kernel_rfl
set_option maxRecDepth 100000 in
theorem rShore0_s3 (B : Lo) (s : WShore) (i : Int) (dJ0 : Nat → Value) : endT (srunT Try.prog (okFn Try.prog) J0 B 16 1 (headC 19 83 (([1, 3] : List Nat).zip (rShore0_v0 s i)) dJ0 rShore0_t0) (headH (rShore0_o0 s i)) (2 + (rShore0_o0 s i).length)
 (rShore0_q0 s i dJ0 ++ [(14, HintT.pure (Value.bool false) [])]) 0 [] []) [] = some (Value.bool false,
 [AllP [] ∧ PureC Try.prog J0 56 #[Value.int IntKind.i64 (WCell.ground (List.getD (WShore.cells s) (Int.toNat i) default)), Value.int IntKind.i64 (-5000), Value.int IntKind.i64 5000] (Value.bool false)] ++ rShore0_p0 B s i dJ0) := by kernel_rfl
set_option maxRecDepth 100000 in
theorem rShore0_s4 (B : Lo) (s : WShore) (i : Int) (dJ0 : Nat → Value) : landM (srunT Try.prog (okFn Try.prog) J0 B 10 1 (headC 19 83 (([1, 3] : List Nat).zip (rShore0_v0 s i)) dJ0 rShore0_t0) (headH (rShore0_o0 s i)) (2 + (rShore0_o0 s i).length)
 [(4, hvF)] 0 [] []) [1, 5] [(2, KS.auto)] [] = some ⟨19, 83, rShore0_t1, [], .run, none, rShore0_v1 s (0), rShore0_o1 s (0),
 [ltq i (↑(List.length (WShore.cells s)) : Int) = false]⟩ := by kernel_rfl
noncomputable def rShore0_p3 (B : Lo) (s : WShore) (i : Int) (dJ0 : Nat → Value) : List Prop := [i = (↑(Int.toNat i) : Int) ∧ Int.toNat i < List.length (WShore.works s) ∧ Array.extract (rowL encWWork (WShore.works s)) (Int.toNat i * TypeInfo.size Try.t85) (Int.toNat i * TypeInfo.size Try.t85 + TypeInfo.size Try.t85) = #[Value.int IntKind.i64 (WWork.rise (List.getD (WShore.works s) (Int.toNat i) default)), Value.int IntKind.i64 (WWork.calm (List.getD (WShore.works s) (Int.toNat i) default)), Value.int IntKind.i64 (WWork.cost (List.getD (WShore.works s) (Int.toNat i) default))], ltq i (↑(List.length (WShore.works s)) : Int) = true] ++ ([] : List Prop)
noncomputable def rShore0_q3 (s : WShore) (i : Int) (dJ0 : Nat → Value) : ScriptT := [(4, hvT), (8, HintT.tidx (Int.toNat i) #[Value.int IntKind.i64 (WWork.rise (List.getD (WShore.works s) (Int.toNat i) default)), Value.int IntKind.i64 (WWork.calm (List.getD (WShore.works s) (Int.toNat i) default)), Value.int IntKind.i64 (WWork.cost (List.getD (WShore.works s) (Int.toNat i) default))])]
noncomputable def rShore0_p4 (B : Lo) (s : WShore) (i : Int) (dJ0 : Nat → Value) : List Prop := [AllP [] ∧ PureC Try.prog J0 56 #[Value.int IntKind.i64 (WWork.rise (List.getD (WShore.works s) (Int.toNat i) default)), Value.int IntKind.i64 0, Value.int IntKind.i64 5000] (Value.bool true)] ++ rShore0_p3 B s i dJ0
noncomputable def rShore0_q4 (s : WShore) (i : Int) (dJ0 : Nat → Value) : ScriptT := rShore0_q3 s i dJ0 ++ [(14, HintT.pure (Value.bool true) [])]
noncomputable def rShore0_p5 (B : Lo) (s : WShore) (i : Int) (dJ0 : Nat → Value) : List Prop := [AllP [] ∧ PureC Try.prog J0 56 #[Value.int IntKind.i64 (WWork.calm (List.getD (WShore.works s) (Int.toNat i) default)), Value.int IntKind.i64 0, Value.int IntKind.i64 5000] (Value.bool true)] ++ rShore0_p4 B s i dJ0
noncomputable def rShore0_q5 (s : WShore) (i : Int) (dJ0 : Nat → Value) : ScriptT := rShore0_q4 s i dJ0 ++ [(19, HintT.pure (Value.bool true) [])]
set_option maxRecDepth 100000 in
theorem rShore0_s5 (B : Lo) (s : WShore) (i : Int) (dJ0 : Nat → Value) : landM (srunT Try.prog (okFn Try.prog) J0 B 16 1 (headC 19 83 (([1, 5] : List Nat).zip (rShore0_v1 s i)) dJ0 rShore0_t1) (headH (rShore0_o1 s i)) (2 + (rShore0_o1 s i).length)
 (rShore0_q5 s i dJ0 ++ [(25, HintT.pure (Value.bool true) []), (29, hvI (i + 1))]) 0 [] []) [1, 5] [(2, KS.auto)] [] = some ⟨19, 83, rShore0_t1, [], .run, none, rShore0_v1 s (i + 1), rShore0_o1 s (i + 1),
 [wq (i + 1) = i + 1, AllP [] ∧ PureC Try.prog J0 56 #[Value.int IntKind.i64 (WWork.cost (List.getD (WShore.works s) (Int.toNat i) default)), Value.int IntKind.i64 0, Value.int IntKind.i64 1000000] (Value.bool true)] ++ rShore0_p5 B s i dJ0⟩ := by kernel_rfl
set_option maxRecDepth 100000 in
theorem rShore0_s6 (B : Lo) (s : WShore) (i : Int) (dJ0 : Nat → Value) : endT (srunT Try.prog (okFn Try.prog) J0 B 16 1 (headC 19 83 (([1, 5] : List Nat).zip (rShore0_v1 s i)) dJ0 rShore0_t1) (headH (rShore0_o1 s i)) (2 + (rShore0_o1 s i).length)
 (rShore0_q5 s i dJ0 ++ [(25, HintT.pure (Value.bool false) [])]) 0 [] []) [] = some (Value.bool false,
 [AllP [] ∧ PureC Try.prog J0 56 #[Value.int IntKind.i64 (WWork.cost (List.getD (WShore.works s) (Int.toNat i) default)), Value.int IntKind.i64 0, Value.int IntKind.i64 1000000] (Value.bool false)] ++ rShore0_p5 B s i dJ0) := by kernel_rfl
set_option maxRecDepth 100000 in
theorem rShore0_s7 (B : Lo) (s : WShore) (i : Int) (dJ0 : Nat → Value) : endT (srunT Try.prog (okFn Try.prog) J0 B 16 1 (headC 19 83 (([1, 5] : List Nat).zip (rShore0_v1 s i)) dJ0 rShore0_t1) (headH (rShore0_o1 s i)) (2 + (rShore0_o1 s i).length)
 (rShore0_q4 s i dJ0 ++ [(19, HintT.pure (Value.bool false) [])]) 0 [] []) [] = some (Value.bool false,
 [AllP [] ∧ PureC Try.prog J0 56 #[Value.int IntKind.i64 (WWork.calm (List.getD (WShore.works s) (Int.toNat i) default)), Value.int IntKind.i64 0, Value.int IntKind.i64 5000] (Value.bool false)] ++ rShore0_p4 B s i dJ0) := by kernel_rfl
set_option maxRecDepth 100000 in
theorem rShore0_s8 (B : Lo) (s : WShore) (i : Int) (dJ0 : Nat → Value) : endT (srunT Try.prog (okFn Try.prog) J0 B 16 1 (headC 19 83 (([1, 5] : List Nat).zip (rShore0_v1 s i)) dJ0 rShore0_t1) (headH (rShore0_o1 s i)) (2 + (rShore0_o1 s i).length)
 (rShore0_q3 s i dJ0 ++ [(14, HintT.pure (Value.bool false) [])]) 0 [] []) [] = some (Value.bool false,
 [AllP [] ∧ PureC Try.prog J0 56 #[Value.int IntKind.i64 (WWork.rise (List.getD (WShore.works s) (Int.toNat i) default)), Value.int IntKind.i64 0, Value.int IntKind.i64 5000] (Value.bool false)] ++ rShore0_p3 B s i dJ0) := by kernel_rfl
noncomputable def rShore0_p6 (B : Lo) (s : WShore) (i : Int) (dJ0 : Nat → Value) : List Prop := [ltq i (↑(List.length (WShore.works s)) : Int) = false] ++ ([] : List Prop)
noncomputable def rShore0_q6 (s : WShore) (i : Int) (dJ0 : Nat → Value) : ScriptT := [(4, hvF)]
noncomputable def rShore0_p7 (B : Lo) (s : WShore) (i : Int) (dJ0 : Nat → Value) : List Prop := [AllP [] ∧ PureC Try.prog J0 56 #[Value.int IntKind.i64 (↑(List.length (WShore.cells s)) : Int), Value.int IntKind.i64 1, Value.int IntKind.i64 7] (Value.bool true)] ++ rShore0_p6 B s i dJ0
noncomputable def rShore0_q7 (s : WShore) (i : Int) (dJ0 : Nat → Value) : ScriptT := rShore0_q6 s i dJ0 ++ [(8, HintT.pure (Value.bool true) [])]
noncomputable def rShore0_p8 (B : Lo) (s : WShore) (i : Int) (dJ0 : Nat → Value) : List Prop := [(!ltq 3 (↑(List.length (WShore.works s)) : Int)) = true] ++ rShore0_p7 B s i dJ0
noncomputable def rShore0_q8 (s : WShore) (i : Int) (dJ0 : Nat → Value) : ScriptT := rShore0_q7 s i dJ0 ++ [(13, hvT)]
noncomputable def rShore0_p9 (B : Lo) (s : WShore) (i : Int) (dJ0 : Nat → Value) : List Prop := [AllP [] ∧ PureC Try.prog J0 56 #[Value.int IntKind.i64 (WShore.reef s), Value.int IntKind.i64 0, Value.int IntKind.i64 20] (Value.bool true)] ++ rShore0_p8 B s i dJ0
noncomputable def rShore0_q9 (s : WShore) (i : Int) (dJ0 : Nat → Value) : ScriptT := rShore0_q8 s i dJ0 ++ [(18, HintT.pure (Value.bool true) [])]
set_option maxRecDepth 100000 in
theorem rShore0_s9 (B : Lo) (s : WShore) (i : Int) (dJ0 : Nat → Value) : endT (srunT Try.prog (okFn Try.prog) J0 B 9 1 (headC 19 83 (([1, 5] : List Nat).zip (rShore0_v1 s i)) dJ0 rShore0_t1) (headH (rShore0_o1 s i)) (2 + (rShore0_o1 s i).length)
 (rShore0_q9 s i dJ0 ++ [(23, HintT.pure (Value.bool true) [])]) 0 [] []) [] = some (Value.bool true,
 [AllP [] ∧ PureC Try.prog J0 57 #[Value.agg #[Value.int IntKind.i64 (WShore.llo s), Value.int IntKind.i64 (WShore.lhi s)], Value.int IntKind.i64 0, Value.int IntKind.i64 1000] (Value.bool true)] ++ rShore0_p9 B s i dJ0) := by kernel_rfl
set_option maxRecDepth 100000 in
theorem rShore0_s10 (B : Lo) (s : WShore) (i : Int) (dJ0 : Nat → Value) : endT (srunT Try.prog (okFn Try.prog) J0 B 9 1 (headC 19 83 (([1, 5] : List Nat).zip (rShore0_v1 s i)) dJ0 rShore0_t1) (headH (rShore0_o1 s i)) (2 + (rShore0_o1 s i).length)
 (rShore0_q9 s i dJ0 ++ [(23, HintT.pure (Value.bool false) [])]) 0 [] []) [] = some (Value.bool false,
 [AllP [] ∧ PureC Try.prog J0 57 #[Value.agg #[Value.int IntKind.i64 (WShore.llo s), Value.int IntKind.i64 (WShore.lhi s)], Value.int IntKind.i64 0, Value.int IntKind.i64 1000] (Value.bool false)] ++ rShore0_p9 B s i dJ0) := by kernel_rfl
set_option maxRecDepth 100000 in
theorem rShore0_s11 (B : Lo) (s : WShore) (i : Int) (dJ0 : Nat → Value) : endT (srunT Try.prog (okFn Try.prog) J0 B 9 1 (headC 19 83 (([1, 5] : List Nat).zip (rShore0_v1 s i)) dJ0 rShore0_t1) (headH (rShore0_o1 s i)) (2 + (rShore0_o1 s i).length)
 (rShore0_q8 s i dJ0 ++ [(18, HintT.pure (Value.bool false) [])]) 0 [] []) [] = some (Value.bool false,
 [AllP [] ∧ PureC Try.prog J0 56 #[Value.int IntKind.i64 (WShore.reef s), Value.int IntKind.i64 0, Value.int IntKind.i64 20] (Value.bool false)] ++ rShore0_p8 B s i dJ0) := by kernel_rfl
set_option maxRecDepth 100000 in
theorem rShore0_s12 (B : Lo) (s : WShore) (i : Int) (dJ0 : Nat → Value) : endT (srunT Try.prog (okFn Try.prog) J0 B 9 1 (headC 19 83 (([1, 5] : List Nat).zip (rShore0_v1 s i)) dJ0 rShore0_t1) (headH (rShore0_o1 s i)) (2 + (rShore0_o1 s i).length)
 (rShore0_q7 s i dJ0 ++ [(13, hvF)]) 0 [] []) [] = some (Value.bool false,
 [(!ltq 3 (↑(List.length (WShore.works s)) : Int)) = false] ++ rShore0_p7 B s i dJ0) := by kernel_rfl
set_option maxRecDepth 100000 in
theorem rShore0_s13 (B : Lo) (s : WShore) (i : Int) (dJ0 : Nat → Value) : endT (srunT Try.prog (okFn Try.prog) J0 B 9 1 (headC 19 83 (([1, 5] : List Nat).zip (rShore0_v1 s i)) dJ0 rShore0_t1) (headH (rShore0_o1 s i)) (2 + (rShore0_o1 s i).length)
 (rShore0_q6 s i dJ0 ++ [(8, HintT.pure (Value.bool false) [])]) 0 [] []) [] = some (Value.bool false,
 [AllP [] ∧ PureC Try.prog J0 56 #[Value.int IntKind.i64 (↑(List.length (WShore.cells s)) : Int), Value.int IntKind.i64 1, Value.int IntKind.i64 7] (Value.bool false)] ++ rShore0_p6 B s i dJ0) := by kernel_rfl
set_option maxRecDepth 100000 in
theorem rShore0_s14 (B : Lo) (s : WShore) : landM (srunT Try.prog (okFn Try.prog) J0 B 7 1 (entryC Try.prog 19 83 (([.agg (encShore s).toArray]).map (pushT 0 4))) H00 1
 [] 0 [] []) [1, 3] [(1, KS.auto)] [] = some ⟨19, 83, rShore0_t0, [], .run, none, rShore0_v0 s (0), rShore0_o0 s (0),
 []⟩ := by kernel_rfl
set_option maxHeartbeats 4000000 in
theorem rShore0_ls (s : WShore)  (hfacts : s.cells.length ≤ 9223372036854775807 ∧ s.works.length ≤ 9223372036854775807) {B : Lo} (hJ : ∀ w, B.has w → J0 w) {c0 : CF} : ∀ m : Nat, (∀ (i : Int), (s.cells.length - i.toNat) + s.works.length + 9 = m → ∀ (h0 : 0 ≤ i), rShore0_h0 B c0 s i → EndsT Try.prog B c0 (.bool ((s.cells.drop i.toNat).all cellB && (s.works.all workB && shoreT s)))) ∧ (∀ (i : Int), (s.works.length - i.toNat) + 1 = m → ∀ (h0 : 0 ≤ i), rShore0_h1 B c0 s i → EndsT Try.prog B c0 (.bool ((s.works.drop i.toNat).all workB && shoreT s))) := by
 intro m0
 induction m0 using Nat.strongRecOn with
 | _ m0 ih0 =>
   refine ⟨?_, ?_⟩
   ·intro i hm0 h0 ⟨dJ0, hdJ0, hg0⟩
    by_cases q0 : (i : Int) < ((↑(List.length (WShore.cells s)) : Int))
    ·
     have hp0 : AllP (rShore0_p0 B s i dJ0) := by
      try have s2 := drop_all2 (l := s.cells) (p := cellB) h0 q0
      try have s2 := drop_nil2 (l := s.cells) (p := cellB) (i := i) (by omega)
      exact ⟨⟨by omega, by omega, (rowL_extract (z := 4) (fun _ => rfl) (by omega))⟩, ⟨(ltq_t q0), trivial⟩⟩
     cases q1 : inB (WCell.ground (List.getD (WShore.cells s) (Int.toNat i) default)) (-5000) 5000 with
     | true =>
       have hp1 : AllP (rShore0_p1 B s i dJ0) := by
        try have s2 := drop_all2 (l := s.cells) (p := cellB) h0 q0
        try have s2 := drop_nil2 (l := s.cells) (p := cellB) (i := i) (by omega)
        exact ⟨⟨trivial, (by have t_ := rin (WCell.ground (List.getD (WShore.cells s) (Int.toNat i) default)) (-5000) (5000); rw [q1] at t_; exact t_)⟩, hp0⟩
       cases q2 : spanB (WCell.dlo (List.getD (WShore.cells s) (Int.toNat i) default)) (WCell.dhi (List.getD (WShore.cells s) (Int.toNat i) default)) 0 5000 with
       | true =>
         have hp2 : AllP (rShore0_p2 B s i dJ0) := by
          try have s2 := drop_all2 (l := s.cells) (p := cellB) h0 q0
          try have s2 := drop_nil2 (l := s.cells) (p := cellB) (i := i) (by omega)
          exact ⟨⟨trivial, (by have t_ := rSpan (WCell.dlo (List.getD (WShore.cells s) (Int.toNat i) default)) (WCell.dhi (List.getD (WShore.cells s) (Int.toNat i) default)) (0) (5000); rw [q2] at t_; exact t_)⟩, hp1⟩
         cases q3 : inB (WCell.floor (List.getD (WShore.cells s) (Int.toNat i) default)) (-1) 5000 with
         | true =>
           try have s2 := drop_all2 (l := s.cells) (p := cellB) h0 q0
           try have s2 := drop_nil2 (l := s.cells) (p := cellB) (i := i) (by omega)
           exact ((ih0 _ (by omega)).1 (i + 1) rfl (by first | with_reducible assumption | omega | (simp_all; done))
            (hg0.landM okF hJ mixed_ok (rShore0_s0 B s i dJ0)
            ⟨(wq_in (by omega) (by omega)), ⟨⟨trivial, (by have t_ := rin (WCell.floor (List.getD (WShore.cells s) (Int.toNat i) default)) (-1) (5000); rw [q3] at t_; exact t_)⟩, hp2⟩⟩ (by kernel_rfl) (by kernel_rfl))).cast (by first | (rw [s2]; simp [cellB, *]; done) | (rw [s2]; simp_all [cellB]; done) | (rw [s2]; done))
         | false =>
           try have s2 := drop_all2 (l := s.cells) (p := cellB) h0 q0
           try have s2 := drop_nil2 (l := s.cells) (p := cellB) (i := i) (by omega)
           exact (GoE.endsT okF hJ mixed_ok hg0 (rShore0_s1 B s i dJ0)
            ⟨⟨trivial, (by have t_ := rin (WCell.floor (List.getD (WShore.cells s) (Int.toNat i) default)) (-1) (5000); rw [q3] at t_; exact t_)⟩, hp2⟩).cast (by first | (rw [s2]; simp [cellB, *]; done) | (rw [s2]; simp_all [cellB]; done) | (rw [s2]; done))
       | false =>
         try have s2 := drop_all2 (l := s.cells) (p := cellB) h0 q0
         try have s2 := drop_nil2 (l := s.cells) (p := cellB) (i := i) (by omega)
         exact (GoE.endsT okF hJ mixed_ok hg0 (rShore0_s2 B s i dJ0)
          ⟨⟨trivial, (by have t_ := rSpan (WCell.dlo (List.getD (WShore.cells s) (Int.toNat i) default)) (WCell.dhi (List.getD (WShore.cells s) (Int.toNat i) default)) (0) (5000); rw [q2] at t_; exact t_)⟩, hp1⟩).cast (by first | (rw [s2]; simp [cellB, *]; done) | (rw [s2]; simp_all [cellB]; done) | (rw [s2]; done))
     | false =>
       try have s2 := drop_all2 (l := s.cells) (p := cellB) h0 q0
       try have s2 := drop_nil2 (l := s.cells) (p := cellB) (i := i) (by omega)
       exact (GoE.endsT okF hJ mixed_ok hg0 (rShore0_s3 B s i dJ0)
        ⟨⟨trivial, (by have t_ := rin (WCell.ground (List.getD (WShore.cells s) (Int.toNat i) default)) (-5000) (5000); rw [q1] at t_; exact t_)⟩, hp0⟩).cast (by first | (rw [s2]; simp [cellB, *]; done) | (rw [s2]; simp_all [cellB]; done) | (rw [s2]; done))
    ·
     try have s2 := drop_all2 (l := s.cells) (p := cellB) h0 q0
     try have s2 := drop_nil2 (l := s.cells) (p := cellB) (i := i) (by omega)
     exact ((ih0 _ (by omega)).2 (0) rfl (by first | with_reducible assumption | omega | (simp_all; done))
      (hg0.landM okF hJ mixed_ok (rShore0_s4 B s i dJ0)
      ⟨(ltq_f (Int.not_lt.1 q0)), trivial⟩ (by kernel_rfl) (by kernel_rfl))).cast (by first | (rw [s2]; simp [cellB, *]; done) | (rw [s2]; simp_all [cellB]; done) | (rw [s2]; done))
   ·intro i hm0 h0 ⟨dJ0, hdJ0, hg0⟩
    by_cases q0 : (i : Int) < ((↑(List.length (WShore.works s)) : Int))
    ·
     have hp3 : AllP (rShore0_p3 B s i dJ0) := by
      try have s2 := drop_all2 (l := s.works) (p := workB) h0 q0
      try have s2 := drop_nil2 (l := s.works) (p := workB) (i := i) (by omega)
      exact ⟨⟨by omega, by omega, (rowL_extract (z := 3) (fun _ => rfl) (by omega))⟩, ⟨(ltq_t q0), trivial⟩⟩
     cases q1 : inB (WWork.rise (List.getD (WShore.works s) (Int.toNat i) default)) 0 5000 with
     | true =>
       have hp4 : AllP (rShore0_p4 B s i dJ0) := by
        try have s2 := drop_all2 (l := s.works) (p := workB) h0 q0
        try have s2 := drop_nil2 (l := s.works) (p := workB) (i := i) (by omega)
        exact ⟨⟨trivial, (by have t_ := rin (WWork.rise (List.getD (WShore.works s) (Int.toNat i) default)) (0) (5000); rw [q1] at t_; exact t_)⟩, hp3⟩
       cases q2 : inB (WWork.calm (List.getD (WShore.works s) (Int.toNat i) default)) 0 5000 with
       | true =>
         have hp5 : AllP (rShore0_p5 B s i dJ0) := by
          try have s2 := drop_all2 (l := s.works) (p := workB) h0 q0
          try have s2 := drop_nil2 (l := s.works) (p := workB) (i := i) (by omega)
          exact ⟨⟨trivial, (by have t_ := rin (WWork.calm (List.getD (WShore.works s) (Int.toNat i) default)) (0) (5000); rw [q2] at t_; exact t_)⟩, hp4⟩
         cases q3 : inB (WWork.cost (List.getD (WShore.works s) (Int.toNat i) default)) 0 1000000 with
         | true =>
           try have s2 := drop_all2 (l := s.works) (p := workB) h0 q0
           try have s2 := drop_nil2 (l := s.works) (p := workB) (i := i) (by omega)
           exact ((ih0 _ (by omega)).2 (i + 1) rfl (by first | with_reducible assumption | omega | (simp_all; done))
            (hg0.landM okF hJ mixed_ok (rShore0_s5 B s i dJ0)
            ⟨(wq_in (by omega) (by omega)), ⟨⟨trivial, (by have t_ := rin (WWork.cost (List.getD (WShore.works s) (Int.toNat i) default)) (0) (1000000); rw [q3] at t_; exact t_)⟩, hp5⟩⟩ (by kernel_rfl) (by kernel_rfl))).cast (by first | (rw [s2]; simp [workB, *]; done) | (rw [s2]; simp_all [workB]; done) | (rw [s2]; simp [shoreT, *]; done) | (rw [s2]; simp_all [shoreT]; done) | (rw [s2]; simp_all [shoreT]; omega))
         | false =>
           try have s2 := drop_all2 (l := s.works) (p := workB) h0 q0
           try have s2 := drop_nil2 (l := s.works) (p := workB) (i := i) (by omega)
           exact (GoE.endsT okF hJ mixed_ok hg0 (rShore0_s6 B s i dJ0)
            ⟨⟨trivial, (by have t_ := rin (WWork.cost (List.getD (WShore.works s) (Int.toNat i) default)) (0) (1000000); rw [q3] at t_; exact t_)⟩, hp5⟩).cast (by first | (rw [s2]; simp [workB, *]; done) | (rw [s2]; simp_all [workB]; done) | (rw [s2]; simp [shoreT, *]; done) | (rw [s2]; simp_all [shoreT]; done) | (rw [s2]; simp_all [shoreT]; omega))
       | false =>
         try have s2 := drop_all2 (l := s.works) (p := workB) h0 q0
         try have s2 := drop_nil2 (l := s.works) (p := workB) (i := i) (by omega)
         exact (GoE.endsT okF hJ mixed_ok hg0 (rShore0_s7 B s i dJ0)
          ⟨⟨trivial, (by have t_ := rin (WWork.calm (List.getD (WShore.works s) (Int.toNat i) default)) (0) (5000); rw [q2] at t_; exact t_)⟩, hp4⟩).cast (by first | (rw [s2]; simp [workB, *]; done) | (rw [s2]; simp_all [workB]; done) | (rw [s2]; simp [shoreT, *]; done) | (rw [s2]; simp_all [shoreT]; done) | (rw [s2]; simp_all [shoreT]; omega))
     | false =>
       try have s2 := drop_all2 (l := s.works) (p := workB) h0 q0
       try have s2 := drop_nil2 (l := s.works) (p := workB) (i := i) (by omega)
       exact (GoE.endsT okF hJ mixed_ok hg0 (rShore0_s8 B s i dJ0)
        ⟨⟨trivial, (by have t_ := rin (WWork.rise (List.getD (WShore.works s) (Int.toNat i) default)) (0) (5000); rw [q1] at t_; exact t_)⟩, hp3⟩).cast (by first | (rw [s2]; simp [workB, *]; done) | (rw [s2]; simp_all [workB]; done) | (rw [s2]; simp [shoreT, *]; done) | (rw [s2]; simp_all [shoreT]; done) | (rw [s2]; simp_all [shoreT]; omega))
    ·
     have hp6 : AllP (rShore0_p6 B s i dJ0) := by
      exact ⟨(ltq_f (Int.not_lt.1 q0)), trivial⟩
     cases q1 : inB (↑(List.length (WShore.cells s)) : Int) 1 7 with
     | true =>
       have hp7 : AllP (rShore0_p7 B s i dJ0) := by
        try have s2 := drop_all2 (l := s.works) (p := workB) h0 q0
        try have s2 := drop_nil2 (l := s.works) (p := workB) (i := i) (by omega)
        exact ⟨⟨trivial, (by have t_ := rin ((↑(List.length (WShore.cells s)) : Int)) (1) (7); rw [q1] at t_; exact t_)⟩, hp6⟩
       by_cases q2 : ((↑(List.length (WShore.works s)) : Int) : Int) ≤ (3)
       ·
        have hp8 : AllP (rShore0_p8 B s i dJ0) := by
         exact ⟨(nltq_t q2), hp7⟩
        cases q3 : inB (WShore.reef s) 0 20 with
        | true =>
          have hp9 : AllP (rShore0_p9 B s i dJ0) := by
           try have s2 := drop_all2 (l := s.works) (p := workB) h0 q0
           try have s2 := drop_nil2 (l := s.works) (p := workB) (i := i) (by omega)
           exact ⟨⟨trivial, (by have t_ := rin (WShore.reef s) (0) (20); rw [q3] at t_; exact t_)⟩, hp8⟩
          cases q4 : spanB (WShore.llo s) (WShore.lhi s) 0 1000 with
          | true =>
            try have s2 := drop_all2 (l := s.works) (p := workB) h0 q0
            try have s2 := drop_nil2 (l := s.works) (p := workB) (i := i) (by omega)
            exact (GoE.endsT okF hJ mixed_ok hg0 (rShore0_s9 B s i dJ0)
             ⟨⟨trivial, (by have t_ := rSpan (WShore.llo s) (WShore.lhi s) (0) (1000); rw [q4] at t_; exact t_)⟩, hp9⟩).cast (by first | (rw [s2]; simp [workB, *]; done) | (rw [s2]; simp_all [workB]; done) | (rw [s2]; simp [shoreT, *]; done) | (rw [s2]; simp_all [shoreT]; done) | (rw [s2]; simp_all [shoreT]; omega))
          | false =>
            try have s2 := drop_all2 (l := s.works) (p := workB) h0 q0
            try have s2 := drop_nil2 (l := s.works) (p := workB) (i := i) (by omega)
            exact (GoE.endsT okF hJ mixed_ok hg0 (rShore0_s10 B s i dJ0)
             ⟨⟨trivial, (by have t_ := rSpan (WShore.llo s) (WShore.lhi s) (0) (1000); rw [q4] at t_; exact t_)⟩, hp9⟩).cast (by first | (rw [s2]; simp [workB, *]; done) | (rw [s2]; simp_all [workB]; done) | (rw [s2]; simp [shoreT, *]; done) | (rw [s2]; simp_all [shoreT]; done) | (rw [s2]; simp_all [shoreT]; omega))
        | false =>
          try have s2 := drop_all2 (l := s.works) (p := workB) h0 q0
          try have s2 := drop_nil2 (l := s.works) (p := workB) (i := i) (by omega)
          exact (GoE.endsT okF hJ mixed_ok hg0 (rShore0_s11 B s i dJ0)
           ⟨⟨trivial, (by have t_ := rin (WShore.reef s) (0) (20); rw [q3] at t_; exact t_)⟩, hp8⟩).cast (by first | (rw [s2]; simp [workB, *]; done) | (rw [s2]; simp_all [workB]; done) | (rw [s2]; simp [shoreT, *]; done) | (rw [s2]; simp_all [shoreT]; done) | (rw [s2]; simp_all [shoreT]; omega))
       ·
        try have s2 := drop_all2 (l := s.works) (p := workB) h0 q0
        try have s2 := drop_nil2 (l := s.works) (p := workB) (i := i) (by omega)
        exact (GoE.endsT okF hJ mixed_ok hg0 (rShore0_s12 B s i dJ0)
         ⟨(nltq_f (Int.not_le.1 q2)), hp7⟩).cast (by first | (rw [s2]; simp [workB, *]; done) | (rw [s2]; simp_all [workB]; done) | (rw [s2]; simp [shoreT, *]; done) | (rw [s2]; simp_all [shoreT]; done) | (rw [s2]; simp_all [shoreT]; omega))
     | false =>
       try have s2 := drop_all2 (l := s.works) (p := workB) h0 q0
       try have s2 := drop_nil2 (l := s.works) (p := workB) (i := i) (by omega)
       exact (GoE.endsT okF hJ mixed_ok hg0 (rShore0_s13 B s i dJ0)
        ⟨⟨trivial, (by have t_ := rin ((↑(List.length (WShore.cells s)) : Int)) (1) (7); rw [q1] at t_; exact t_)⟩, hp6⟩).cast (by first | (rw [s2]; simp [workB, *]; done) | (rw [s2]; simp_all [workB]; done) | (rw [s2]; simp [shoreT, *]; done) | (rw [s2]; simp_all [shoreT]; done) | (rw [s2]; simp_all [shoreT]; omega))
set_option maxHeartbeats 4000000 in
theorem rShore0_e (s : WShore)  (hfacts : s.cells.length ≤ 9223372036854775807 ∧ s.works.length ≤ 9223372036854775807) {B : Lo} (hJ : ∀ w, B.has w → J0 w) : EndsT Try.prog B (entryC Try.prog 19 83 (([.agg (encShore s).toArray]).map (pushT 0 4))) (.bool (s.cells.all cellB && (s.works.all workB && shoreT s))) := by
 exact ((rShore0_ls s hfacts hJ _).1 (0) rfl (by first | with_reducible assumption | omega | (simp_all; done))
  (GoE.start.landM okF hJ mixed_ok (rShore0_s14 B s)
  trivial (by kernel_rfl) (by kernel_rfl))).cast (by first | rfl | (simp [*]; done) | (simp_all []; done) | (simp_all []; omega))
theorem rShore0 (s : WShore)  : PureC Try.prog J0 19 #[.agg (encShore s).toArray] (.bool (s.cells.all cellB && (s.works.all workB && shoreT s))) :=
 pureC_ofF (ts := [.agg (encShore s).toArray]) (s.cells.length ≤ 9223372036854775807 ∧ s.works.length ≤ 9223372036854775807) (fun _ _ ht => ⟨ht.ln2 (i := 0) (j := 0) rfl rfl, ht.ln2 (i := 0) (j := 1) rfl rfl⟩) J0_st (c0 := entryC Try.prog 19 83 (([.agg (encShore s).toArray]).map (pushT 0 4))) (by kernel_rfl) (by kernel_rfl) fun hfacts B hJ => rShore0_e s  hfacts hJ
theorem rShore (s : WShore) : PureC Try.prog J0 19 #[.agg (encShore s).toArray] (.bool (shoreB s)) := by
 have h := rShore0 s; rw [shoreR_eq] at h; exact h
noncomputable def rStorm_p0 (B : Lo) (c : WStorm) : List Prop := [AllP [] ∧ PureC Try.prog J0 57 #[Value.agg #[Value.int IntKind.i64 (WStorm.wlo c), Value.int IntKind.i64 (WStorm.whi c)], Value.int IntKind.i64 0, Value.int IntKind.i64 1000] (Value.bool true)] ++ ([] : List Prop)
noncomputable def rStorm_q0 (c : WStorm) : ScriptT := [(4, HintT.pure (Value.bool true) [])]
noncomputable def rStorm_p1 (B : Lo) (c : WStorm) : List Prop := [AllP [] ∧ PureC Try.prog J0 57 #[Value.agg #[Value.int IntKind.i64 (WStorm.flo c), Value.int IntKind.i64 (WStorm.fhi c)], Value.int IntKind.i64 0, Value.int IntKind.i64 10000] (Value.bool true)] ++ rStorm_p0 B c
noncomputable def rStorm_q1 (c : WStorm) : ScriptT := rStorm_q0 c ++ [(8, HintT.pure (Value.bool true) [])]
set_option maxRecDepth 100000 in
theorem rStorm_s0 (B : Lo) (c : WStorm) : endT (srunT Try.prog (okFn Try.prog) J0 B 6 1 (entryC Try.prog 20 16 (([.agg (encStorm c).toArray]).map (pushT 0 4))) H00 1
 (rStorm_q1 c ++ [(13, HintT.pure (Value.bool true) [])]) 0 [] []) [] = some (Value.bool true,
 [AllP [] ∧ PureC Try.prog J0 57 #[Value.agg #[Value.int IntKind.i64 (WStorm.tlo c), Value.int IntKind.i64 (WStorm.thi c)], Value.int IntKind.i64 (-5000), Value.int IntKind.i64 5000] (Value.bool true)] ++ rStorm_p1 B c) := by kernel_rfl
set_option maxRecDepth 100000 in
theorem rStorm_s1 (B : Lo) (c : WStorm) : endT (srunT Try.prog (okFn Try.prog) J0 B 6 1 (entryC Try.prog 20 16 (([.agg (encStorm c).toArray]).map (pushT 0 4))) H00 1
 (rStorm_q1 c ++ [(13, HintT.pure (Value.bool false) [])]) 0 [] []) [] = some (Value.bool false,
 [AllP [] ∧ PureC Try.prog J0 57 #[Value.agg #[Value.int IntKind.i64 (WStorm.tlo c), Value.int IntKind.i64 (WStorm.thi c)], Value.int IntKind.i64 (-5000), Value.int IntKind.i64 5000] (Value.bool false)] ++ rStorm_p1 B c) := by kernel_rfl
set_option maxRecDepth 100000 in
theorem rStorm_s2 (B : Lo) (c : WStorm) : endT (srunT Try.prog (okFn Try.prog) J0 B 6 1 (entryC Try.prog 20 16 (([.agg (encStorm c).toArray]).map (pushT 0 4))) H00 1
 (rStorm_q0 c ++ [(8, HintT.pure (Value.bool false) [])]) 0 [] []) [] = some (Value.bool false,
 [AllP [] ∧ PureC Try.prog J0 57 #[Value.agg #[Value.int IntKind.i64 (WStorm.flo c), Value.int IntKind.i64 (WStorm.fhi c)], Value.int IntKind.i64 0, Value.int IntKind.i64 10000] (Value.bool false)] ++ rStorm_p0 B c) := by kernel_rfl
set_option maxRecDepth 100000 in
theorem rStorm_s3 (B : Lo) (c : WStorm) : endT (srunT Try.prog (okFn Try.prog) J0 B 6 1 (entryC Try.prog 20 16 (([.agg (encStorm c).toArray]).map (pushT 0 4))) H00 1
 [(4, HintT.pure (Value.bool false) [])] 0 [] []) [] = some (Value.bool false,
 [AllP [] ∧ PureC Try.prog J0 57 #[Value.agg #[Value.int IntKind.i64 (WStorm.wlo c), Value.int IntKind.i64 (WStorm.whi c)], Value.int IntKind.i64 0, Value.int IntKind.i64 1000] (Value.bool false)]) := by kernel_rfl
set_option maxHeartbeats 4000000 in
theorem rStorm_e (c : WStorm)  {B : Lo} (hJ : ∀ w, B.has w → J0 w) : EndsT Try.prog B (entryC Try.prog 20 16 (([.agg (encStorm c).toArray]).map (pushT 0 4))) (.bool (stormB c)) := by
 cases q0 : spanB (WStorm.wlo c) (WStorm.whi c) 0 1000 with
 | true =>
   have hp0 : AllP (rStorm_p0 B c) := by
    exact ⟨⟨trivial, (by have t_ := rSpan (WStorm.wlo c) (WStorm.whi c) (0) (1000); rw [q0] at t_; exact t_)⟩, trivial⟩
   cases q1 : spanB (WStorm.flo c) (WStorm.fhi c) 0 10000 with
   | true =>
     have hp1 : AllP (rStorm_p1 B c) := by
      exact ⟨⟨trivial, (by have t_ := rSpan (WStorm.flo c) (WStorm.fhi c) (0) (10000); rw [q1] at t_; exact t_)⟩, hp0⟩
     cases q2 : spanB (WStorm.tlo c) (WStorm.thi c) (-5000) 5000 with
     | true =>
       exact (GoE.endsT okF hJ mixed_ok GoE.start (rStorm_s0 B c)
        ⟨⟨trivial, (by have t_ := rSpan (WStorm.tlo c) (WStorm.thi c) (-5000) (5000); rw [q2] at t_; exact t_)⟩, hp1⟩).cast (by first | rfl | (simp [stormB, *]; done) | (simp_all [stormB]; done) | (simp_all [stormB]; omega))
     | false =>
       exact (GoE.endsT okF hJ mixed_ok GoE.start (rStorm_s1 B c)
        ⟨⟨trivial, (by have t_ := rSpan (WStorm.tlo c) (WStorm.thi c) (-5000) (5000); rw [q2] at t_; exact t_)⟩, hp1⟩).cast (by first | rfl | (simp [stormB, *]; done) | (simp_all [stormB]; done) | (simp_all [stormB]; omega))
   | false =>
     exact (GoE.endsT okF hJ mixed_ok GoE.start (rStorm_s2 B c)
      ⟨⟨trivial, (by have t_ := rSpan (WStorm.flo c) (WStorm.fhi c) (0) (10000); rw [q1] at t_; exact t_)⟩, hp0⟩).cast (by first | rfl | (simp [stormB, *]; done) | (simp_all [stormB]; done) | (simp_all [stormB]; omega))
 | false =>
   exact (GoE.endsT okF hJ mixed_ok GoE.start (rStorm_s3 B c)
    ⟨⟨trivial, (by have t_ := rSpan (WStorm.wlo c) (WStorm.whi c) (0) (1000); rw [q0] at t_; exact t_)⟩, trivial⟩).cast (by first | rfl | (simp [stormB, *]; done) | (simp_all [stormB]; done) | (simp_all [stormB]; omega))
theorem rStorm (c : WStorm)  : PureC Try.prog J0 20 #[.agg (encStorm c).toArray] (.bool (stormB c)) :=
 pureC_of (ts := [.agg (encStorm c).toArray]) J0_st (c0 := entryC Try.prog 20 16 (([.agg (encStorm c).toArray]).map (pushT 0 4))) (by kernel_rfl) (by kernel_rfl) fun B hJ => rStorm_e c  hJ
def rPlan0_v0 (s : WShore) (plan : List Int) (i : Int) : List Value := [topV 1 (slT (List.length plan) (rowL encI plan)), pA 2 0, .int .i64 i]
def rPlan0_o0 (s : WShore) (plan : List Int) (i : Int) : List Obj := [Obj.cells #[topV 1 (slT (List.length (WShore.cells s)) (rowL encWCell (WShore.cells s))), topV 1 (slT (List.length (WShore.works s)) (rowL encWWork (WShore.works s))), Value.int IntKind.i64 (WShore.reef s), Value.int IntKind.i64 (WShore.llo s), Value.int IntKind.i64 (WShore.lhi s)] 27]
noncomputable def rPlan0_t0 : List Item := ([.code [1, 0, 1, 0, 0], .inLoop [1, 0, 1, 0, 0], .inBlock 0, .code [1, 1]]).map (it (bodyOf Try.prog 46))
def rPlan0_h0 (B : Lo) (c0 : CF) (s : WShore) (plan : List Int) (i : Int) : Prop := ∃ dJ : Nat → Value, (∀ t, Loose (dJ t)) ∧ GoE Try.prog B c0 H00 1 (headC 46 28 (([1, 2, 5] : List Nat).zip (rPlan0_v0 s plan i)) dJ rPlan0_t0) (headH (rPlan0_o0 s plan i)) (2 + (rPlan0_o0 s plan i).length) []
noncomputable def rPlan0_p0 (B : Lo) (s : WShore) (plan : List Int) (i : Int) (dJ0 : Nat → Value) : List Prop := [wq ((↑(List.length (WShore.works s)) : Int) - 1) = (↑(List.length (WShore.works s)) : Int) - 1, i = (↑(Int.toNat i) : Int) ∧ Int.toNat i < List.length plan ∧ Array.extract (rowL encI plan) (Int.toNat i * TypeInfo.size Try.t3) (Int.toNat i * TypeInfo.size Try.t3 + TypeInfo.size Try.t3) = #[Value.int IntKind.i64 (List.getD plan (Int.toNat i) default)], ltq i (↑(List.length plan) : Int) = true] ++ ([] : List Prop)
noncomputable def rPlan0_q0 (s : WShore) (plan : List Int) (i : Int) (dJ0 : Nat → Value) : ScriptT := [(3, hvT), (6, HintT.tidx (Int.toNat i) #[Value.int IntKind.i64 (List.getD plan (Int.toNat i) default)]), (11, hvI ((↑(List.length (WShore.works s)) : Int) - 1))]
set_option maxRecDepth 100000 in
theorem rPlan0_s0 (B : Lo) (s : WShore) (plan : List Int) (i : Int) (dJ0 : Nat → Value) : landM (srunT Try.prog (okFn Try.prog) J0 B 14 1 (headC 46 28 (([1, 2, 5] : List Nat).zip (rPlan0_v0 s plan i)) dJ0 rPlan0_t0) (headH (rPlan0_o0 s plan i)) (2 + (rPlan0_o0 s plan i).length)
 (rPlan0_q0 s plan i dJ0 ++ [(12, HintT.pure (Value.bool true) []), (15, hvI (i + 1))]) 0 [] []) [1, 2, 5] [(2, KS.auto)] [] = some ⟨46, 28, rPlan0_t0, [], .run, none, rPlan0_v0 s plan (i + 1), rPlan0_o0 s plan (i + 1),
 [wq (i + 1) = i + 1, AllP [] ∧ PureC Try.prog J0 56 #[Value.int IntKind.i64 (List.getD plan (Int.toNat i) default), Value.int IntKind.i64 (-1), Value.int IntKind.i64 ((↑(List.length (WShore.works s)) : Int) - 1)] (Value.bool true)] ++ rPlan0_p0 B s plan i dJ0⟩ := by kernel_rfl
set_option maxRecDepth 100000 in
theorem rPlan0_s1 (B : Lo) (s : WShore) (plan : List Int) (i : Int) (dJ0 : Nat → Value) : endT (srunT Try.prog (okFn Try.prog) J0 B 14 1 (headC 46 28 (([1, 2, 5] : List Nat).zip (rPlan0_v0 s plan i)) dJ0 rPlan0_t0) (headH (rPlan0_o0 s plan i)) (2 + (rPlan0_o0 s plan i).length)
 (rPlan0_q0 s plan i dJ0 ++ [(12, HintT.pure (Value.bool false) [])]) 0 [] []) [] = some (Value.bool false,
 [AllP [] ∧ PureC Try.prog J0 56 #[Value.int IntKind.i64 (List.getD plan (Int.toNat i) default), Value.int IntKind.i64 (-1), Value.int IntKind.i64 ((↑(List.length (WShore.works s)) : Int) - 1)] (Value.bool false)] ++ rPlan0_p0 B s plan i dJ0) := by kernel_rfl
noncomputable def rPlan0_p1 (B : Lo) (s : WShore) (plan : List Int) (i : Int) (dJ0 : Nat → Value) : List Prop := [ltq i (↑(List.length plan) : Int) = false] ++ ([] : List Prop)
noncomputable def rPlan0_q1 (s : WShore) (plan : List Int) (i : Int) (dJ0 : Nat → Value) : ScriptT := [(3, hvF)]
set_option maxRecDepth 100000 in
theorem rPlan0_s2 (B : Lo) (s : WShore) (plan : List Int) (i : Int) (dJ0 : Nat → Value) : endT (srunT Try.prog (okFn Try.prog) J0 B 9 1 (headC 46 28 (([1, 2, 5] : List Nat).zip (rPlan0_v0 s plan i)) dJ0 rPlan0_t0) (headH (rPlan0_o0 s plan i)) (2 + (rPlan0_o0 s plan i).length)
 (rPlan0_q1 s plan i dJ0 ++ [(9, hvT)]) 0 [] []) [] = some (Value.bool true,
 [eqq (↑(List.length plan) : Int) (↑(List.length (WShore.cells s)) : Int) = true] ++ rPlan0_p1 B s plan i dJ0) := by kernel_rfl
set_option maxRecDepth 100000 in
theorem rPlan0_s3 (B : Lo) (s : WShore) (plan : List Int) (i : Int) (dJ0 : Nat → Value) : endT (srunT Try.prog (okFn Try.prog) J0 B 9 1 (headC 46 28 (([1, 2, 5] : List Nat).zip (rPlan0_v0 s plan i)) dJ0 rPlan0_t0) (headH (rPlan0_o0 s plan i)) (2 + (rPlan0_o0 s plan i).length)
 (rPlan0_q1 s plan i dJ0 ++ [(9, hvF)]) 0 [] []) [] = some (Value.bool false,
 [eqq (↑(List.length plan) : Int) (↑(List.length (WShore.cells s)) : Int) = false] ++ rPlan0_p1 B s plan i dJ0) := by kernel_rfl
set_option maxRecDepth 100000 in
theorem rPlan0_s4 (B : Lo) (s : WShore) (plan : List Int) : landM (srunT Try.prog (okFn Try.prog) J0 B 7 1 (entryC Try.prog 46 28 (([.agg (encShore s).toArray, slI plan]).map (pushT 0 4))) H00 1
 [] 0 [] []) [1, 2, 5] [(1, KS.auto)] [] = some ⟨46, 28, rPlan0_t0, [], .run, none, rPlan0_v0 s plan (0), rPlan0_o0 s plan (0),
 []⟩ := by kernel_rfl
set_option maxHeartbeats 4000000 in
theorem rPlan0_ls (s : WShore) (plan : List Int)  (hfacts : s.cells.length ≤ 9223372036854775807 ∧ s.works.length ≤ 9223372036854775807 ∧ plan.length ≤ 9223372036854775807) {B : Lo} (hJ : ∀ w, B.has w → J0 w) {c0 : CF} : ∀ m : Nat, (∀ (i : Int), (plan.length - i.toNat) = m → ∀ (h0 : 0 ≤ i), rPlan0_h0 B c0 s plan i → EndsT Try.prog B c0 (.bool ((plan.drop i.toNat).all (fun x => inB x (-1) (s.works.length - 1)) && decide (plan.length = s.cells.length)))) := by
 intro m0
 induction m0 using Nat.strongRecOn with
 | _ m0 ih0 =>
   intro i hm0 h0 ⟨dJ0, hdJ0, hg0⟩
   by_cases q0 : (i : Int) < ((↑(List.length plan) : Int))
   ·
    have hp0 : AllP (rPlan0_p0 B s plan i dJ0) := by
     try have s2 := drop_all2 (l := plan) (p := fun x => inB x (-1) (s.works.length - 1)) h0 q0
     try have s2 := drop_nil2 (l := plan) (p := fun x => inB x (-1) (s.works.length - 1)) (i := i) (by omega)
     exact ⟨(wq_in (by omega) (by omega)), ⟨⟨by omega, by omega, (rowL_extract (z := 1) (fun _ => rfl) (by omega))⟩, ⟨(ltq_t q0), trivial⟩⟩⟩
    cases q1 : inB (List.getD plan (Int.toNat i) default) (-1) ((↑(List.length (WShore.works s)) : Int) - 1) with
    | true =>
      try have s2 := drop_all2 (l := plan) (p := fun x => inB x (-1) (s.works.length - 1)) h0 q0
      try have s2 := drop_nil2 (l := plan) (p := fun x => inB x (-1) (s.works.length - 1)) (i := i) (by omega)
      exact ((ih0 _ (by omega)) (i + 1) rfl (by first | with_reducible assumption | omega | (simp_all; done))
       (hg0.landM okF hJ mixed_ok (rPlan0_s0 B s plan i dJ0)
       ⟨(wq_in (by omega) (by omega)), ⟨⟨trivial, (by have t_ := rin (List.getD plan (Int.toNat i) default) (-1) ((↑(List.length (WShore.works s)) : Int) - 1); rw [q1] at t_; exact t_)⟩, hp0⟩⟩ (by kernel_rfl) (by kernel_rfl))).cast (by first | (rw [s2]; simp [*]; done) | (rw [s2]; simp_all; done) | (rw [s2]; simp_all; omega))
    | false =>
      try have s2 := drop_all2 (l := plan) (p := fun x => inB x (-1) (s.works.length - 1)) h0 q0
      try have s2 := drop_nil2 (l := plan) (p := fun x => inB x (-1) (s.works.length - 1)) (i := i) (by omega)
      exact (GoE.endsT okF hJ mixed_ok hg0 (rPlan0_s1 B s plan i dJ0)
       ⟨⟨trivial, (by have t_ := rin (List.getD plan (Int.toNat i) default) (-1) ((↑(List.length (WShore.works s)) : Int) - 1); rw [q1] at t_; exact t_)⟩, hp0⟩).cast (by first | (rw [s2]; simp [*]; done) | (rw [s2]; simp_all; done) | (rw [s2]; simp_all; omega))
   ·
    have hp1 : AllP (rPlan0_p1 B s plan i dJ0) := by
     exact ⟨(ltq_f (Int.not_lt.1 q0)), trivial⟩
    by_cases q1 : ((↑(List.length plan) : Int) : Int) = ((↑(List.length (WShore.cells s)) : Int))
    ·
     try have s2 := drop_all2 (l := plan) (p := fun x => inB x (-1) (s.works.length - 1)) h0 q0
     try have s2 := drop_nil2 (l := plan) (p := fun x => inB x (-1) (s.works.length - 1)) (i := i) (by omega)
     exact (GoE.endsT okF hJ mixed_ok hg0 (rPlan0_s2 B s plan i dJ0)
      ⟨(eqq_t q1), hp1⟩).cast (by first | (rw [s2]; simp [*]; done) | (rw [s2]; simp_all; done) | (rw [s2]; simp_all; omega))
    ·
     try have s2 := drop_all2 (l := plan) (p := fun x => inB x (-1) (s.works.length - 1)) h0 q0
     try have s2 := drop_nil2 (l := plan) (p := fun x => inB x (-1) (s.works.length - 1)) (i := i) (by omega)
     exact (GoE.endsT okF hJ mixed_ok hg0 (rPlan0_s3 B s plan i dJ0)
      ⟨(eqq_f q1), hp1⟩).cast (by first | (rw [s2]; simp [*]; done) | (rw [s2]; simp_all; done) | (rw [s2]; simp_all; omega))
set_option maxHeartbeats 4000000 in
theorem rPlan0_e (s : WShore) (plan : List Int)  (hfacts : s.cells.length ≤ 9223372036854775807 ∧ s.works.length ≤ 9223372036854775807 ∧ plan.length ≤ 9223372036854775807) {B : Lo} (hJ : ∀ w, B.has w → J0 w) : EndsT Try.prog B (entryC Try.prog 46 28 (([.agg (encShore s).toArray, slI plan]).map (pushT 0 4))) (.bool (plan.all (fun x => inB x (-1) (s.works.length - 1)) && decide (plan.length = s.cells.length))) := by
 exact ((rPlan0_ls s plan hfacts hJ _) (0) rfl (by first | with_reducible assumption | omega | (simp_all; done))
  (GoE.start.landM okF hJ mixed_ok (rPlan0_s4 B s plan)
  trivial (by kernel_rfl) (by kernel_rfl))).cast (by first | rfl | (simp [*]; done) | (simp_all []; done) | (simp_all []; omega))
theorem rPlan0 (s : WShore) (plan : List Int)  : PureC Try.prog J0 46 #[.agg (encShore s).toArray, slI plan] (.bool (plan.all (fun x => inB x (-1) (s.works.length - 1)) && decide (plan.length = s.cells.length))) :=
 pureC_ofF (ts := [.agg (encShore s).toArray, slI plan]) (s.cells.length ≤ 9223372036854775807 ∧ s.works.length ≤ 9223372036854775807 ∧ plan.length ≤ 9223372036854775807) (fun _ _ ht => ⟨ht.ln2 (i := 0) (j := 0) rfl rfl, ht.ln2 (i := 0) (j := 1) rfl rfl, ht.ln (i := 1) rfl⟩) J0_st (c0 := entryC Try.prog 46 28 (([.agg (encShore s).toArray, slI plan]).map (pushT 0 4))) (by kernel_rfl) (by kernel_rfl) fun hfacts B hJ => rPlan0_e s plan  hfacts hJ
theorem rPlan (s : WShore) (plan : List Int) : PureC Try.prog J0 46 #[.agg (encShore s).toArray, slI plan] (.bool (planB s plan)) := by
 have h := rPlan0 s plan; rw [Bool.and_comm] at h; exact h
def dragU (ns : List Int) (cs : List WCell) (i : Int) : Bool := (upI i ns.length).all fun k => inB (ns.getD k.toNat default) (cs.getD k.toNat default).dlo (cs.getD k.toNat default).dhi
theorem dragU_cons {ns : List Int} {cs : List WCell} {i : Int} (h : i < ns.length) : dragU ns cs i = (inB (ns.getD i.toNat default) (cs.getD i.toNat default).dlo (cs.getD i.toNat default).dhi && dragU ns cs (i + 1)) := by
 unfold dragU; rw [upI_cons h, List.all_cons]
theorem dragU_nil {ns : List Int} {cs : List WCell} {i : Int} (h : ns.length ≤ i) : dragU ns cs i = true := by
 unfold dragU; rw [upI_nil h]; rfl
def truthT (s : WShore) (c : WStorm) (t : WTruth) : Bool := inB t.wind c.wlo c.whi && (inB t.fetch c.flo c.fhi && (inB t.tide c.tlo c.thi && inB t.loss s.llo s.lhi))
theorem truthR_eq {s : WShore} {c : WStorm} {t : WTruth} : (decide (t.drags.length = s.cells.length) && (dragU t.drags s.cells 0 && truthT s c t)) = truthB s c t := by
 unfold truthB truthT dragsB
 show (_ && (dragU t.drags s.cells 0 && _)) = (_ && (_ && (_ && (_ && (_ && dragU t.drags s.cells 0)))))
 cases decide (t.drags.length = s.cells.length) <;> cases dragU t.drags s.cells 0 <;> simp
def rTruth0_v0 (s : WShore) (c : WStorm) (t : WTruth) (i : Int) : List Value := [pA 2 0, pA 3 0, pA 4 0, .int .i64 i]
def rTruth0_o0 (s : WShore) (c : WStorm) (t : WTruth) (i : Int) : List Obj := [Obj.cells #[topV 1 (slT (List.length (WShore.cells s)) (rowL encWCell (WShore.cells s))), topV 1 (slT (List.length (WShore.works s)) (rowL encWWork (WShore.works s))), Value.int IntKind.i64 (WShore.reef s), Value.int IntKind.i64 (WShore.llo s), Value.int IntKind.i64 (WShore.lhi s)] 27, Obj.cells #[Value.int IntKind.i64 (WStorm.wlo c), Value.int IntKind.i64 (WStorm.whi c), Value.int IntKind.i64 (WStorm.flo c), Value.int IntKind.i64 (WStorm.fhi c), Value.int IntKind.i64 (WStorm.tlo c), Value.int IntKind.i64 (WStorm.thi c)] 29, Obj.cells #[Value.int IntKind.i64 (WTruth.wind t), Value.int IntKind.i64 (WTruth.fetch t), Value.int IntKind.i64 (WTruth.tide t), Value.int IntKind.i64 (WTruth.loss t), topV 1 (slT (List.length (WTruth.drags t)) (rowL encI (WTruth.drags t)))] 38]
noncomputable def rTruth0_t0 : List Item := ([.code [1, 1, 0, 1, 0, 0], .inLoop [1, 1, 0, 1, 0, 0], .inBlock 0, .code [1, 1, 1]]).map (it (bodyOf Try.prog 26))
def rTruth0_h0 (B : Lo) (c0 : CF) (s : WShore) (c : WStorm) (t : WTruth) (i : Int) : Prop := ∃ dJ : Nat → Value, (∀ t, Loose (dJ t)) ∧ GoE Try.prog B c0 H00 1 (headC 26 85 (([3, 4, 5, 7] : List Nat).zip (rTruth0_v0 s c t i)) dJ rTruth0_t0) (headH (rTruth0_o0 s c t i)) (2 + (rTruth0_o0 s c t i).length) []
noncomputable def rTruth0_z0 (s : WShore) (i : Int) : Array Value := #[Value.int IntKind.i64 (WCell.ground (List.getD (WShore.cells s) (Int.toNat i) default)), Value.int IntKind.i64 (WCell.dlo (List.getD (WShore.cells s) (Int.toNat i) default)), Value.int IntKind.i64 (WCell.dhi (List.getD (WShore.cells s) (Int.toNat i) default)), Value.int IntKind.i64 (WCell.floor (List.getD (WShore.cells s) (Int.toNat i) default))]
noncomputable def rTruth0_p0 (B : Lo) (s : WShore) (c : WStorm) (t : WTruth) (i : Int) (dJ0 : Nat → Value) : List Prop := [i = (↑(Int.toNat i) : Int) ∧ Int.toNat i < List.length (WShore.cells s) ∧ Array.extract (rowL encWCell (WShore.cells s)) (Int.toNat i * TypeInfo.size Try.t59) (Int.toNat i * TypeInfo.size Try.t59 + TypeInfo.size Try.t59) = (rTruth0_z0 s i), i = (↑(Int.toNat i) : Int) ∧ Int.toNat i < List.length (WShore.cells s) ∧ Array.extract (rowL encWCell (WShore.cells s)) (Int.toNat i * TypeInfo.size Try.t59) (Int.toNat i * TypeInfo.size Try.t59 + TypeInfo.size Try.t59) = (rTruth0_z0 s i), i = (↑(Int.toNat i) : Int) ∧ Int.toNat i < List.length (WTruth.drags t) ∧ Array.extract (rowL encI (WTruth.drags t)) (Int.toNat i * TypeInfo.size Try.t3) (Int.toNat i * TypeInfo.size Try.t3 + TypeInfo.size Try.t3) = #[Value.int IntKind.i64 (List.getD (WTruth.drags t) (Int.toNat i) default)], ltq i (↑(List.length (WTruth.drags t)) : Int) = true] ++ ([] : List Prop)
noncomputable def rTruth0_q0 (s : WShore) (c : WStorm) (t : WTruth) (i : Int) (dJ0 : Nat → Value) : ScriptT := [(4, hvT), (8, HintT.tidx (Int.toNat i) #[Value.int IntKind.i64 (List.getD (WTruth.drags t) (Int.toNat i) default)]), (13, HintT.tidx (Int.toNat i) (rTruth0_z0 s i)), (20, HintT.tidx (Int.toNat i) (rTruth0_z0 s i))]
set_option maxRecDepth 100000 in
theorem rTruth0_s0 (B : Lo) (s : WShore) (c : WStorm) (t : WTruth) (i : Int) (dJ0 : Nat → Value) : landM (srunT Try.prog (okFn Try.prog) J0 B 14 1 (headC 26 85 (([3, 4, 5, 7] : List Nat).zip (rTruth0_v0 s c t i)) dJ0 rTruth0_t0) (headH (rTruth0_o0 s c t i)) (2 + (rTruth0_o0 s c t i).length)
 (rTruth0_q0 s c t i dJ0 ++ [(24, HintT.pure (Value.bool true) []), (27, hvI (i + 1))]) 0 [] []) [3, 4, 5, 7] [(2, KS.auto), (3, KS.auto), (4, KS.auto)] [] = some ⟨26, 85, rTruth0_t0, [], .run, none, rTruth0_v0 s c t (i + 1), rTruth0_o0 s c t (i + 1),
 [wq (i + 1) = i + 1, AllP [] ∧ PureC Try.prog J0 56 #[Value.int IntKind.i64 (List.getD (WTruth.drags t) (Int.toNat i) default), Value.int IntKind.i64 (WCell.dlo (List.getD (WShore.cells s) (Int.toNat i) default)), Value.int IntKind.i64 (WCell.dhi (List.getD (WShore.cells s) (Int.toNat i) default))] (Value.bool true)] ++ rTruth0_p0 B s c t i dJ0⟩ := by kernel_rfl
set_option maxRecDepth 100000 in
theorem rTruth0_s1 (B : Lo) (s : WShore) (c : WStorm) (t : WTruth) (i : Int) (dJ0 : Nat → Value) : endT (srunT Try.prog (okFn Try.prog) J0 B 14 1 (headC 26 85 (([3, 4, 5, 7] : List Nat).zip (rTruth0_v0 s c t i)) dJ0 rTruth0_t0) (headH (rTruth0_o0 s c t i)) (2 + (rTruth0_o0 s c t i).length)
 (rTruth0_q0 s c t i dJ0 ++ [(24, HintT.pure (Value.bool false) [])]) 0 [] []) [] = some (Value.bool false,
 [AllP [] ∧ PureC Try.prog J0 56 #[Value.int IntKind.i64 (List.getD (WTruth.drags t) (Int.toNat i) default), Value.int IntKind.i64 (WCell.dlo (List.getD (WShore.cells s) (Int.toNat i) default)), Value.int IntKind.i64 (WCell.dhi (List.getD (WShore.cells s) (Int.toNat i) default))] (Value.bool false)] ++ rTruth0_p0 B s c t i dJ0) := by kernel_rfl
noncomputable def rTruth0_p1 (B : Lo) (s : WShore) (c : WStorm) (t : WTruth) (i : Int) (dJ0 : Nat → Value) : List Prop := [ltq i (↑(List.length (WTruth.drags t)) : Int) = false] ++ ([] : List Prop)
noncomputable def rTruth0_q1 (s : WShore) (c : WStorm) (t : WTruth) (i : Int) (dJ0 : Nat → Value) : ScriptT := [(4, hvF)]
noncomputable def rTruth0_p2 (B : Lo) (s : WShore) (c : WStorm) (t : WTruth) (i : Int) (dJ0 : Nat → Value) : List Prop := [AllP [] ∧ PureC Try.prog J0 56 #[Value.int IntKind.i64 (WTruth.wind t), Value.int IntKind.i64 (WStorm.wlo c), Value.int IntKind.i64 (WStorm.whi c)] (Value.bool true)] ++ rTruth0_p1 B s c t i dJ0
noncomputable def rTruth0_q2 (s : WShore) (c : WStorm) (t : WTruth) (i : Int) (dJ0 : Nat → Value) : ScriptT := rTruth0_q1 s c t i dJ0 ++ [(13, HintT.pure (Value.bool true) [])]
noncomputable def rTruth0_p3 (B : Lo) (s : WShore) (c : WStorm) (t : WTruth) (i : Int) (dJ0 : Nat → Value) : List Prop := [AllP [] ∧ PureC Try.prog J0 56 #[Value.int IntKind.i64 (WTruth.fetch t), Value.int IntKind.i64 (WStorm.flo c), Value.int IntKind.i64 (WStorm.fhi c)] (Value.bool true)] ++ rTruth0_p2 B s c t i dJ0
noncomputable def rTruth0_q3 (s : WShore) (c : WStorm) (t : WTruth) (i : Int) (dJ0 : Nat → Value) : ScriptT := rTruth0_q2 s c t i dJ0 ++ [(23, HintT.pure (Value.bool true) [])]
noncomputable def rTruth0_p4 (B : Lo) (s : WShore) (c : WStorm) (t : WTruth) (i : Int) (dJ0 : Nat → Value) : List Prop := [AllP [] ∧ PureC Try.prog J0 56 #[Value.int IntKind.i64 (WTruth.tide t), Value.int IntKind.i64 (WStorm.tlo c), Value.int IntKind.i64 (WStorm.thi c)] (Value.bool true)] ++ rTruth0_p3 B s c t i dJ0
noncomputable def rTruth0_q4 (s : WShore) (c : WStorm) (t : WTruth) (i : Int) (dJ0 : Nat → Value) : ScriptT := rTruth0_q3 s c t i dJ0 ++ [(34, HintT.pure (Value.bool true) [])]
set_option maxRecDepth 100000 in
theorem rTruth0_s2 (B : Lo) (s : WShore) (c : WStorm) (t : WTruth) (i : Int) (dJ0 : Nat → Value) : endT (srunT Try.prog (okFn Try.prog) J0 B 9 1 (headC 26 85 (([3, 4, 5, 7] : List Nat).zip (rTruth0_v0 s c t i)) dJ0 rTruth0_t0) (headH (rTruth0_o0 s c t i)) (2 + (rTruth0_o0 s c t i).length)
 (rTruth0_q4 s c t i dJ0 ++ [(45, HintT.pure (Value.bool true) [])]) 0 [] []) [] = some (Value.bool true,
 [AllP [] ∧ PureC Try.prog J0 56 #[Value.int IntKind.i64 (WTruth.loss t), Value.int IntKind.i64 (WShore.llo s), Value.int IntKind.i64 (WShore.lhi s)] (Value.bool true)] ++ rTruth0_p4 B s c t i dJ0) := by kernel_rfl
set_option maxRecDepth 100000 in
theorem rTruth0_s3 (B : Lo) (s : WShore) (c : WStorm) (t : WTruth) (i : Int) (dJ0 : Nat → Value) : endT (srunT Try.prog (okFn Try.prog) J0 B 9 1 (headC 26 85 (([3, 4, 5, 7] : List Nat).zip (rTruth0_v0 s c t i)) dJ0 rTruth0_t0) (headH (rTruth0_o0 s c t i)) (2 + (rTruth0_o0 s c t i).length)
 (rTruth0_q4 s c t i dJ0 ++ [(45, HintT.pure (Value.bool false) [])]) 0 [] []) [] = some (Value.bool false,
 [AllP [] ∧ PureC Try.prog J0 56 #[Value.int IntKind.i64 (WTruth.loss t), Value.int IntKind.i64 (WShore.llo s), Value.int IntKind.i64 (WShore.lhi s)] (Value.bool false)] ++ rTruth0_p4 B s c t i dJ0) := by kernel_rfl
set_option maxRecDepth 100000 in
theorem rTruth0_s4 (B : Lo) (s : WShore) (c : WStorm) (t : WTruth) (i : Int) (dJ0 : Nat → Value) : endT (srunT Try.prog (okFn Try.prog) J0 B 9 1 (headC 26 85 (([3, 4, 5, 7] : List Nat).zip (rTruth0_v0 s c t i)) dJ0 rTruth0_t0) (headH (rTruth0_o0 s c t i)) (2 + (rTruth0_o0 s c t i).length)
 (rTruth0_q3 s c t i dJ0 ++ [(34, HintT.pure (Value.bool false) [])]) 0 [] []) [] = some (Value.bool false,
 [AllP [] ∧ PureC Try.prog J0 56 #[Value.int IntKind.i64 (WTruth.tide t), Value.int IntKind.i64 (WStorm.tlo c), Value.int IntKind.i64 (WStorm.thi c)] (Value.bool false)] ++ rTruth0_p3 B s c t i dJ0) := by kernel_rfl
set_option maxRecDepth 100000 in
theorem rTruth0_s5 (B : Lo) (s : WShore) (c : WStorm) (t : WTruth) (i : Int) (dJ0 : Nat → Value) : endT (srunT Try.prog (okFn Try.prog) J0 B 9 1 (headC 26 85 (([3, 4, 5, 7] : List Nat).zip (rTruth0_v0 s c t i)) dJ0 rTruth0_t0) (headH (rTruth0_o0 s c t i)) (2 + (rTruth0_o0 s c t i).length)
 (rTruth0_q2 s c t i dJ0 ++ [(23, HintT.pure (Value.bool false) [])]) 0 [] []) [] = some (Value.bool false,
 [AllP [] ∧ PureC Try.prog J0 56 #[Value.int IntKind.i64 (WTruth.fetch t), Value.int IntKind.i64 (WStorm.flo c), Value.int IntKind.i64 (WStorm.fhi c)] (Value.bool false)] ++ rTruth0_p2 B s c t i dJ0) := by kernel_rfl
set_option maxRecDepth 100000 in
theorem rTruth0_s6 (B : Lo) (s : WShore) (c : WStorm) (t : WTruth) (i : Int) (dJ0 : Nat → Value) : endT (srunT Try.prog (okFn Try.prog) J0 B 9 1 (headC 26 85 (([3, 4, 5, 7] : List Nat).zip (rTruth0_v0 s c t i)) dJ0 rTruth0_t0) (headH (rTruth0_o0 s c t i)) (2 + (rTruth0_o0 s c t i).length)
 (rTruth0_q1 s c t i dJ0 ++ [(13, HintT.pure (Value.bool false) [])]) 0 [] []) [] = some (Value.bool false,
 [AllP [] ∧ PureC Try.prog J0 56 #[Value.int IntKind.i64 (WTruth.wind t), Value.int IntKind.i64 (WStorm.wlo c), Value.int IntKind.i64 (WStorm.whi c)] (Value.bool false)] ++ rTruth0_p1 B s c t i dJ0) := by kernel_rfl
set_option maxRecDepth 100000 in
theorem rTruth0_s7 (B : Lo) (s : WShore) (c : WStorm) (t : WTruth) : endT (srunT Try.prog (okFn Try.prog) J0 B 10 1 (entryC Try.prog 26 85 (([.agg (encShore s).toArray, .agg (encStorm c).toArray, .agg (encTruth t).toArray]).map (pushT 0 4))) H00 1
 [(10, hvT)] 0 [] []) [] = some (Value.bool false,
 [(!eqq (↑(List.length (WTruth.drags t)) : Int) (↑(List.length (WShore.cells s)) : Int)) = true]) := by kernel_rfl
set_option maxRecDepth 100000 in
theorem rTruth0_s8 (B : Lo) (s : WShore) (c : WStorm) (t : WTruth) : landM (srunT Try.prog (okFn Try.prog) J0 B 12 1 (entryC Try.prog 26 85 (([.agg (encShore s).toArray, .agg (encStorm c).toArray, .agg (encTruth t).toArray]).map (pushT 0 4))) H00 1
 [(10, hvF)] 0 [] []) [3, 4, 5, 7] [(1, KS.auto), (2, KS.auto), (3, KS.auto)] [] = some ⟨26, 85, rTruth0_t0, [], .run, none, rTruth0_v0 s c t (0), rTruth0_o0 s c t (0),
 [(!eqq (↑(List.length (WTruth.drags t)) : Int) (↑(List.length (WShore.cells s)) : Int)) = false]⟩ := by kernel_rfl
set_option maxHeartbeats 4000000 in
theorem rTruth0_ls (s : WShore) (c : WStorm) (t : WTruth)  (hfacts : s.cells.length ≤ 9223372036854775807 ∧ t.drags.length ≤ 9223372036854775807) {B : Lo} (hJ : ∀ w, B.has w → J0 w) {c0 : CF} : ∀ m : Nat, (∀ (i : Int), (t.drags.length - i.toNat) = m → ∀ (h0 : 0 ≤ i) (hl : t.drags.length = s.cells.length), rTruth0_h0 B c0 s c t i → EndsT Try.prog B c0 (.bool (dragU t.drags s.cells i && truthT s c t))) := by
 intro m0
 induction m0 using Nat.strongRecOn with
 | _ m0 ih0 =>
   intro i hm0 h0 hl ⟨dJ0, hdJ0, hg0⟩
   by_cases q0 : (i : Int) < ((↑(List.length (WTruth.drags t)) : Int))
   ·
    have hp0 : AllP (rTruth0_p0 B s c t i dJ0) := by
     try have s2 := dragU_cons (ns := t.drags) (cs := s.cells) q0
     try have s2 := dragU_nil (ns := t.drags) (cs := s.cells) (i := i) (by omega)
     exact ⟨⟨by omega, by omega, (rowL_extract (z := 4) (fun _ => rfl) (by omega))⟩, ⟨⟨by omega, by omega, (rowL_extract (z := 4) (fun _ => rfl) (by omega))⟩, ⟨⟨by omega, by omega, (rowL_extract (z := 1) (fun _ => rfl) (by omega))⟩, ⟨(ltq_t q0), trivial⟩⟩⟩⟩
    cases q1 : inB (List.getD (WTruth.drags t) (Int.toNat i) default) (WCell.dlo (List.getD (WShore.cells s) (Int.toNat i) default)) (WCell.dhi (List.getD (WShore.cells s) (Int.toNat i) default)) with
    | true =>
      try have s2 := dragU_cons (ns := t.drags) (cs := s.cells) q0
      try have s2 := dragU_nil (ns := t.drags) (cs := s.cells) (i := i) (by omega)
      exact ((ih0 _ (by omega)) (i + 1) rfl (by first | with_reducible assumption | omega | (simp_all; done)) (by first | with_reducible assumption | omega | (simp_all; done))
       (hg0.landM okF hJ mixed_ok (rTruth0_s0 B s c t i dJ0)
       ⟨(wq_in (by omega) (by omega)), ⟨⟨trivial, (by have t_ := rin (List.getD (WTruth.drags t) (Int.toNat i) default) (WCell.dlo (List.getD (WShore.cells s) (Int.toNat i) default)) (WCell.dhi (List.getD (WShore.cells s) (Int.toNat i) default)); rw [q1] at t_; exact t_)⟩, hp0⟩⟩ (by kernel_rfl) (by kernel_rfl))).cast (by first | (rw [s2]; simp [*]; done) | (rw [s2]; simp_all; done) | (rw [s2]; simp [truthT, *]; done) | (rw [s2]; simp_all [truthT]; done) | (rw [s2]; simp_all [truthT]; omega))
    | false =>
      try have s2 := dragU_cons (ns := t.drags) (cs := s.cells) q0
      try have s2 := dragU_nil (ns := t.drags) (cs := s.cells) (i := i) (by omega)
      exact (GoE.endsT okF hJ mixed_ok hg0 (rTruth0_s1 B s c t i dJ0)
       ⟨⟨trivial, (by have t_ := rin (List.getD (WTruth.drags t) (Int.toNat i) default) (WCell.dlo (List.getD (WShore.cells s) (Int.toNat i) default)) (WCell.dhi (List.getD (WShore.cells s) (Int.toNat i) default)); rw [q1] at t_; exact t_)⟩, hp0⟩).cast (by first | (rw [s2]; simp [*]; done) | (rw [s2]; simp_all; done) | (rw [s2]; simp [truthT, *]; done) | (rw [s2]; simp_all [truthT]; done) | (rw [s2]; simp_all [truthT]; omega))
   ·
    have hp1 : AllP (rTruth0_p1 B s c t i dJ0) := by
     exact ⟨(ltq_f (Int.not_lt.1 q0)), trivial⟩
    cases q1 : inB (WTruth.wind t) (WStorm.wlo c) (WStorm.whi c) with
    | true =>
      have hp2 : AllP (rTruth0_p2 B s c t i dJ0) := by
       try have s2 := dragU_cons (ns := t.drags) (cs := s.cells) q0
       try have s2 := dragU_nil (ns := t.drags) (cs := s.cells) (i := i) (by omega)
       exact ⟨⟨trivial, (by have t_ := rin (WTruth.wind t) (WStorm.wlo c) (WStorm.whi c); rw [q1] at t_; exact t_)⟩, hp1⟩
      cases q2 : inB (WTruth.fetch t) (WStorm.flo c) (WStorm.fhi c) with
      | true =>
        have hp3 : AllP (rTruth0_p3 B s c t i dJ0) := by
         try have s2 := dragU_cons (ns := t.drags) (cs := s.cells) q0
         try have s2 := dragU_nil (ns := t.drags) (cs := s.cells) (i := i) (by omega)
         exact ⟨⟨trivial, (by have t_ := rin (WTruth.fetch t) (WStorm.flo c) (WStorm.fhi c); rw [q2] at t_; exact t_)⟩, hp2⟩
        cases q3 : inB (WTruth.tide t) (WStorm.tlo c) (WStorm.thi c) with
        | true =>
          have hp4 : AllP (rTruth0_p4 B s c t i dJ0) := by
           try have s2 := dragU_cons (ns := t.drags) (cs := s.cells) q0
           try have s2 := dragU_nil (ns := t.drags) (cs := s.cells) (i := i) (by omega)
           exact ⟨⟨trivial, (by have t_ := rin (WTruth.tide t) (WStorm.tlo c) (WStorm.thi c); rw [q3] at t_; exact t_)⟩, hp3⟩
          cases q4 : inB (WTruth.loss t) (WShore.llo s) (WShore.lhi s) with
          | true =>
            try have s2 := dragU_cons (ns := t.drags) (cs := s.cells) q0
            try have s2 := dragU_nil (ns := t.drags) (cs := s.cells) (i := i) (by omega)
            exact (GoE.endsT okF hJ mixed_ok hg0 (rTruth0_s2 B s c t i dJ0)
             ⟨⟨trivial, (by have t_ := rin (WTruth.loss t) (WShore.llo s) (WShore.lhi s); rw [q4] at t_; exact t_)⟩, hp4⟩).cast (by first | (rw [s2]; simp [*]; done) | (rw [s2]; simp_all; done) | (rw [s2]; simp [truthT, *]; done) | (rw [s2]; simp_all [truthT]; done) | (rw [s2]; simp_all [truthT]; omega))
          | false =>
            try have s2 := dragU_cons (ns := t.drags) (cs := s.cells) q0
            try have s2 := dragU_nil (ns := t.drags) (cs := s.cells) (i := i) (by omega)
            exact (GoE.endsT okF hJ mixed_ok hg0 (rTruth0_s3 B s c t i dJ0)
             ⟨⟨trivial, (by have t_ := rin (WTruth.loss t) (WShore.llo s) (WShore.lhi s); rw [q4] at t_; exact t_)⟩, hp4⟩).cast (by first | (rw [s2]; simp [*]; done) | (rw [s2]; simp_all; done) | (rw [s2]; simp [truthT, *]; done) | (rw [s2]; simp_all [truthT]; done) | (rw [s2]; simp_all [truthT]; omega))
        | false =>
          try have s2 := dragU_cons (ns := t.drags) (cs := s.cells) q0
          try have s2 := dragU_nil (ns := t.drags) (cs := s.cells) (i := i) (by omega)
          exact (GoE.endsT okF hJ mixed_ok hg0 (rTruth0_s4 B s c t i dJ0)
           ⟨⟨trivial, (by have t_ := rin (WTruth.tide t) (WStorm.tlo c) (WStorm.thi c); rw [q3] at t_; exact t_)⟩, hp3⟩).cast (by first | (rw [s2]; simp [*]; done) | (rw [s2]; simp_all; done) | (rw [s2]; simp [truthT, *]; done) | (rw [s2]; simp_all [truthT]; done) | (rw [s2]; simp_all [truthT]; omega))
      | false =>
        try have s2 := dragU_cons (ns := t.drags) (cs := s.cells) q0
        try have s2 := dragU_nil (ns := t.drags) (cs := s.cells) (i := i) (by omega)
        exact (GoE.endsT okF hJ mixed_ok hg0 (rTruth0_s5 B s c t i dJ0)
         ⟨⟨trivial, (by have t_ := rin (WTruth.fetch t) (WStorm.flo c) (WStorm.fhi c); rw [q2] at t_; exact t_)⟩, hp2⟩).cast (by first | (rw [s2]; simp [*]; done) | (rw [s2]; simp_all; done) | (rw [s2]; simp [truthT, *]; done) | (rw [s2]; simp_all [truthT]; done) | (rw [s2]; simp_all [truthT]; omega))
    | false =>
      try have s2 := dragU_cons (ns := t.drags) (cs := s.cells) q0
      try have s2 := dragU_nil (ns := t.drags) (cs := s.cells) (i := i) (by omega)
      exact (GoE.endsT okF hJ mixed_ok hg0 (rTruth0_s6 B s c t i dJ0)
       ⟨⟨trivial, (by have t_ := rin (WTruth.wind t) (WStorm.wlo c) (WStorm.whi c); rw [q1] at t_; exact t_)⟩, hp1⟩).cast (by first | (rw [s2]; simp [*]; done) | (rw [s2]; simp_all; done) | (rw [s2]; simp [truthT, *]; done) | (rw [s2]; simp_all [truthT]; done) | (rw [s2]; simp_all [truthT]; omega))
set_option maxHeartbeats 4000000 in
theorem rTruth0_e (s : WShore) (c : WStorm) (t : WTruth)  (hfacts : s.cells.length ≤ 9223372036854775807 ∧ t.drags.length ≤ 9223372036854775807) {B : Lo} (hJ : ∀ w, B.has w → J0 w) : EndsT Try.prog B (entryC Try.prog 26 85 (([.agg (encShore s).toArray, .agg (encStorm c).toArray, .agg (encTruth t).toArray]).map (pushT 0 4))) (.bool (decide (t.drags.length = s.cells.length) && (dragU t.drags s.cells 0 && truthT s c t))) := by
 by_cases q0 : ((↑(List.length (WTruth.drags t)) : Int) : Int) ≠ ((↑(List.length (WShore.cells s)) : Int))
 ·
  exact (GoE.endsT okF hJ mixed_ok GoE.start (rTruth0_s7 B s c t)
   ⟨(neqq_t q0), trivial⟩).cast (by first | rfl | (rw [decide_eq_true (by omega)]; simp; done) | (rw [decide_eq_false (by omega)]; simp; done))
 ·
  exact ((rTruth0_ls s c t hfacts hJ _) (0) rfl (by first | with_reducible assumption | omega | (simp_all; done)) (by first | with_reducible assumption | omega | (simp_all; done))
   (GoE.start.landM okF hJ mixed_ok (rTruth0_s8 B s c t)
   ⟨(neqq_f (Decidable.of_not_not q0)), trivial⟩ (by kernel_rfl) (by kernel_rfl))).cast (by first | rfl | (rw [decide_eq_true (by omega)]; simp; done) | (rw [decide_eq_false (by omega)]; simp; done))
theorem rTruth0 (s : WShore) (c : WStorm) (t : WTruth)  : PureC Try.prog J0 26 #[.agg (encShore s).toArray, .agg (encStorm c).toArray, .agg (encTruth t).toArray] (.bool (decide (t.drags.length = s.cells.length) && (dragU t.drags s.cells 0 && truthT s c t))) :=
 pureC_ofF (ts := [.agg (encShore s).toArray, .agg (encStorm c).toArray, .agg (encTruth t).toArray]) (s.cells.length ≤ 9223372036854775807 ∧ t.drags.length ≤ 9223372036854775807) (fun _ _ ht => ⟨ht.ln2 (i := 0) (j := 0) rfl rfl, ht.ln2 (i := 2) (j := 4) rfl rfl⟩) J0_st (c0 := entryC Try.prog 26 85 (([.agg (encShore s).toArray, .agg (encStorm c).toArray, .agg (encTruth t).toArray]).map (pushT 0 4))) (by kernel_rfl) (by kernel_rfl) fun hfacts B hJ => rTruth0_e s c t  hfacts hJ
theorem rTruth (s : WShore) (c : WStorm) (t : WTruth) : PureC Try.prog J0 26 #[.agg (encShore s).toArray, .agg (encStorm c).toArray, .agg (encTruth t).toArray] (.bool (truthB s c t)) := by
 have h := rTruth0 s c t; rw [truthR_eq] at h; exact h
theorem span_eq {a b : Span} : a = b ↔ a.lo = b.lo ∧ a.hi = b.hi := by
 cases a; cases b; simp
instance : DecidableEq Span := fun a b => decidable_of_iff _ span_eq.symm
def endE (b : Bool) (s : WShore) (c : WStorm) : WTruth := ⟨bif b then c.whi else c.wlo, bif b then c.fhi else c.flo, bif b then c.thi else c.tlo, bif b then s.llo else s.lhi, s.cells.map fun x => bif b then x.dlo else x.dhi⟩
end Go.Proofs.Ytiigkdhaofaijaa

namespace Go.Proofs.Ytiigkdhaofaijaa
open Go Go.CE Go.RowKit
def waveN (loss : Int) : Nat → Int → Int
 | 0, w => w
 | n + 1, w => waveN loss n (w - (w * loss).tdiv 1000)
def levelF (s : WShore) (t : WTruth) : Int := t.tide + waveN t.loss s.reef.toNat ((t.fetch * t.wind).tdiv 1000)
def tOk (s : WShore) (t : WTruth) : Prop := (0 ≤ t.wind ∧ t.wind ≤ 1000) ∧ (0 ≤ t.fetch ∧ t.fetch ≤ 10000) ∧ (-5000 ≤ t.tide ∧ t.tide ≤ 5000) ∧ (0 ≤ t.loss ∧ t.loss ≤ 1000) ∧ t.drags.length = s.cells.length ∧ ∀ x ∈ t.drags, 0 ≤ x ∧ x ≤ 5000
theorem tOk_of {s : WShore} {c : WStorm} {t : WTruth} (hs : shoreB s = true) (hc : stormB c = true) (ht : truthB s c t = true) : tOk s t := by
 have h1 := shore_facts hs
 have h2 := storm_facts hc
 have h3 := truth_facts ht
 have h4 := drags_facts h3.2.2.2.2
 refine ⟨by omega, by omega, by omega, by omega, h4.1, fun x hx => ?_⟩
 obtain ⟨i, i0, i1, rfl⟩ := mem_getD hx
 have h5 := h4.2 i i0 i1
 have h6 := cell_facts (h1.2.2.2.2.1 _ (getD_mem (l := s.cells) (i := i) i0 (by omega)))
 omega
theorem tOk_end {b : Bool} {s : WShore} {c : WStorm} (hs : shoreB s = true) (hc : stormB c = true) : tOk s (endE b s c) := by
 have h1 := shore_facts hs
 have h2 := storm_facts hc
 cases b <;> refine ⟨by simp only [endE, cond_true, cond_false]; omega, by simp only [endE, cond_true, cond_false]; omega, by simp only [endE, cond_true, cond_false]; omega, by simp only [endE, cond_true, cond_false]; omega, by simp [endE], fun x hx => ?_⟩ <;>
 ·obtain ⟨k, hk, rfl⟩ := List.mem_map.1 hx
  have := cell_facts (h1.2.2.2.2.1 k hk)
  simp only [cond_true, cond_false]; omega
theorem wave_q {w l : Int} (hw : 0 ≤ w ∧ w ≤ 10000) (hl : 0 ≤ l ∧ l ≤ 1000) : 0 ≤ w * l ∧ w * l ≤ 10000000 ∧ (w * l).tdiv 1000 = (w * l) / 1000 ∧ 0 ≤ (w * l) / 1000 ∧ (w * l) / 1000 ≤ w := by
 have e0 : 0 ≤ w * l := Int.mul_nonneg hw.1 hl.1
 have e1 : w * l ≤ w * 1000 := Int.mul_le_mul_of_nonneg_left hl.2 hw.1
 refine ⟨e0, by omega, Int.tdiv_eq_ediv_of_nonneg e0, by omega, by omega⟩
theorem wave_0 {s : WShore} {t : WTruth} (ht : tOk s t) : 0 ≤ t.fetch * t.wind ∧ t.fetch * t.wind ≤ 10000000 ∧ (t.fetch * t.wind).tdiv 1000 = (t.fetch * t.wind) / 1000 ∧ 0 ≤ (t.fetch * t.wind) / 1000 ∧ (t.fetch * t.wind) / 1000 ≤ 10000 := by
 have h := wave_q (w := t.fetch) (l := t.wind) ht.2.1 ht.1
 refine ⟨h.1, h.2.1, h.2.2.1, h.2.2.2.1, by omega⟩
theorem waveN_in {l : Int} (hl : 0 ≤ l ∧ l ≤ 1000) : ∀ (n : Nat) (w : Int), 0 ≤ w ∧ w ≤ 10000 → 0 ≤ waveN l n w ∧ waveN l n w ≤ 10000
 | 0, w, hw => hw
 | n + 1, w, hw => by
   have h := wave_q hw hl
   exact waveN_in hl n _ (by omega)
theorem waveN_cons {l w r i : Int} (h : i < r) : waveN l (r - i).toNat w = waveN l (r - (i + 1)).toNat (w - (w * l).tdiv 1000) := by
 rw [show (r - i).toNat = (r - (i + 1)).toNat + 1 by omega]; rfl
theorem waveN_nil {l w r i : Int} (h : r ≤ i) : waveN l (r - i).toNat w = w := by
 rw [show (r - i).toNat = 0 by omega]; rfl
theorem level_in {s : WShore} {t : WTruth} (ht : tOk s t) : -5000 ≤ levelF s t ∧ levelF s t ≤ 15000 := by
 have h0 := wave_0 ht
 have h1 := waveN_in ht.2.2.2.1 s.reef.toNat ((t.fetch * t.wind).tdiv 1000) (by omega)
 have h2 := ht.2.2.1
 unfold levelF; omega
def workOf (s : WShore) (k : Int) : WWork := if 0 ≤ k then s.works.getD k.toNat default else ⟨0, 0, 0⟩
def wk (s : WShore) (plan : List Int) (i : Int) : WWork := workOf s (plan.getD i.toNat default)
def gr (s : WShore) (i : Int) : Int := (s.cells.getD i.toNat default).ground
def playI (s : WShore) (plan : List Int) (t : WTruth) : List Int → Int → Bool → List Int
 | [], _, _ => []
 | i :: l, lv, r => (bif r && decide (gr s i + (wk s plan i).rise < lv - t.drags.getD i.toNat default - (wk s plan i).calm) then lv - t.drags.getD i.toNat default - (wk s plan i).calm - gr s i else 0) :: playI s plan t l (lv - t.drags.getD i.toNat default - (wk s plan i).calm) (r && decide (gr s i + (wk s plan i).rise < lv - t.drags.getD i.toNat default - (wk s plan i).calm))
def playL (s : WShore) (plan : List Int) (t : WTruth) : List Int := playI s plan t (upI 0 s.cells.length) (levelF s t) true
theorem workOf_in {s : WShore} {k : Int} (hs : shoreB s = true) (hk : k < s.works.length) : (0 ≤ (workOf s k).rise ∧ (workOf s k).rise ≤ 5000) ∧ (0 ≤ (workOf s k).calm ∧ (workOf s k).calm ≤ 5000) := by
 unfold workOf
 split
 ·have := work_facts ((shore_facts hs).2.2.2.2.2 _ (getD_mem (l := s.works) (i := k) (by omega) hk)); omega
 ·simp
theorem wk_in {s : WShore} {plan : List Int} {i : Int} (hs : shoreB s = true) (hp : planB s plan = true) (h0 : 0 ≤ i) (h1 : i < s.cells.length) : (0 ≤ (wk s plan i).rise ∧ (wk s plan i).rise ≤ 5000) ∧ (0 ≤ (wk s plan i).calm ∧ (wk s plan i).calm ≤ 5000) := by
 have h2 := plan_facts hp
 have h3 := h2.2 _ (getD_mem (l := plan) (i := i) h0 (by omega))
 exact workOf_in hs h3.2
theorem gr_in {s : WShore} {i : Int} (hs : shoreB s = true) (h0 : 0 ≤ i) (h1 : i < s.cells.length) : -5000 ≤ gr s i ∧ gr s i ≤ 5000 := by
 have := cell_facts ((shore_facts hs).2.2.2.2.1 _ (getD_mem (l := s.cells) (i := i) h0 h1)); unfold gr; omega
theorem drag_in {s : WShore} {t : WTruth} {i : Int} (ht : tOk s t) (h0 : 0 ≤ i) (h1 : i < s.cells.length) : 0 ≤ t.drags.getD i.toNat default ∧ t.drags.getD i.toNat default ≤ 5000 :=
 ht.2.2.2.2.2 _ (getD_mem (l := t.drags) (i := i) h0 (by have := ht.2.2.2.2.1; omega))
theorem playI_cons {s : WShore} {plan : List Int} {t : WTruth} {i lv : Int} {r : Bool} (h : i < s.cells.length) : playI s plan t (upI i s.cells.length) lv r = (bif r && decide (gr s i + (wk s plan i).rise < lv - t.drags.getD i.toNat default - (wk s plan i).calm) then lv - t.drags.getD i.toNat default - (wk s plan i).calm - gr s i else 0) :: playI s plan t (upI (i + 1) s.cells.length) (lv - t.drags.getD i.toNat default - (wk s plan i).calm) (r && decide (gr s i + (wk s plan i).rise < lv - t.drags.getD i.toNat default - (wk s plan i).calm)) := by
 rw [upI_cons h]; rfl
end Go.Proofs.Ytiigkdhaofaijaa

