/- Wall: the reference: what is as defined; ends; levels. -/
import Derived.Test.YtiigkdhaofaijaaZWL11
set_option linter.all false
namespace Go.Proofs.Ytiigkdhaofaijaa
open Go Go.CE Go.RowKit
def shoreT (s : WShore) : Bool := inB s.cells.length 1 7 && (decide (s.works.length ≤ 3) && (inB s.reef 0 20 && spanB s.llo s.lhi 0 1000))
theorem shoreR_eq {s : WShore} : (s.cells.all cellB && (s.works.all workB && shoreT s)) = shoreB s := by
  unfold shoreB shoreT cellsB worksB
  cases inB s.cells.length 1 7 <;> cases s.cells.all cellB <;> cases decide (s.works.length ≤ 3) <;> cases s.works.all workB <;> simp
def rShore0_v0 (s : WShore) (i : Int) : List Value := [pA 2 0, .int .i64 i]
def rShore0_o0 (s : WShore) (i : Int) : List Obj := [Obj.cells #[topV 1 (slT (List.length (WShore.cells s)) (rowL encWCell (WShore.cells s))), topV 1 (slT (List.length (WShore.works s)) (rowL encWWork (WShore.works s))), Value.int IntKind.i64 (WShore.reef s), Value.int IntKind.i64 (WShore.llo s), Value.int IntKind.i64 (WShore.lhi s)] 27]
noncomputable def rShore0_t0 : List Item := ([.code [1, 0, 1, 0, 0], .inLoop [1, 0, 1, 0, 0], .inBlock 0, .code [1, 1]]).map (it (bodyOf Try.prog 19))
def rShore0_h0 (B : Lo) (c0 : CF) (s : WShore) (i : Int) : Prop := ∃ dJ : Nat → Value, (∀ t, Loose (dJ t)) ∧ GoE Try.prog B c0 H00 1 (headC 19 83 (([1, 3] : List Nat).zip (rShore0_v0 s i)) dJ rShore0_t0) (headH (rShore0_o0 s i)) (2 + (rShore0_o0 s i).length) []
def rShore0_v1 (s : WShore) (i : Int) : List Value := [pA 2 0, .int .i64 i]
def rShore0_o1 (s : WShore) (i : Int) : List Obj := [Obj.cells #[topV 1 (slT (List.length (WShore.cells s)) (rowL encWCell (WShore.cells s))), topV 1 (slT (List.length (WShore.works s)) (rowL encWWork (WShore.works s))), Value.int IntKind.i64 (WShore.reef s), Value.int IntKind.i64 (WShore.llo s), Value.int IntKind.i64 (WShore.lhi s)] 27]
noncomputable def rShore0_t1 : List Item := ([.code [1, 1, 0, 1, 0, 0], .inLoop [1, 1, 0, 1, 0, 0], .inBlock 2, .code [1, 1, 1]]).map (it (bodyOf Try.prog 19))
def rShore0_h1 (B : Lo) (c0 : CF) (s : WShore) (i : Int) : Prop := ∃ dJ : Nat → Value, (∀ t, Loose (dJ t)) ∧ GoE Try.prog B c0 H00 1 (headC 19 83 (([1, 5] : List Nat).zip (rShore0_v1 s i)) dJ rShore0_t1) (headH (rShore0_o1 s i)) (2 + (rShore0_o1 s i).length) []
noncomputable def rShore0_p0 (B : Lo) (s : WShore) (i : Int) (dJ0 : Nat → Value) : List Prop := [i = (↑(Int.toNat i) : Int) ∧ Int.toNat i < List.length (WShore.cells s) ∧ Array.extract (rowL encWCell (WShore.cells s)) (Int.toNat i * TypeInfo.size Try.t59) (Int.toNat i * TypeInfo.size Try.t59 + TypeInfo.size Try.t59) = #[Value.int IntKind.i64 (WCell.ground (List.getD (WShore.cells s) (Int.toNat i) default)), Value.int IntKind.i64 (WCell.dlo (List.getD (WShore.cells s) (Int.toNat i) default)), Value.int IntKind.i64 (WCell.dhi (List.getD (WShore.cells s) (Int.toNat i) default)), Value.int IntKind.i64 (WCell.floor (List.getD (WShore.cells s) (Int.toNat i) default))], ltq i (↑(List.length (WShore.cells s)) : Int) = true] ++ ([] : List Prop)
noncomputable def rShore0_q0 (s : WShore) (i : Int) (dJ0 : Nat → Value) : ScriptT := [(4, hvT), (8, HintT.tidx (Int.toNat i) #[Value.int IntKind.i64 (WCell.ground (List.getD (WShore.cells s) (Int.toNat i) default)), Value.int IntKind.i64 (WCell.dlo (List.getD (WShore.cells s) (Int.toNat i) default)), Value.int IntKind.i64 (WCell.dhi (List.getD (WShore.cells s) (Int.toNat i) default)), Value.int IntKind.i64 (WCell.floor (List.getD (WShore.cells s) (Int.toNat i) default))])]
noncomputable def rShore0_p1 (B : Lo) (s : WShore) (i : Int) (dJ0 : Nat → Value) : List Prop := [AllP [] ∧ PureC Try.prog J0 56 #[Value.int IntKind.i64 (WCell.ground (List.getD (WShore.cells s) (Int.toNat i) default)), Value.int IntKind.i64 (-5000), Value.int IntKind.i64 5000] (Value.bool true)] ++ rShore0_p0 B s i dJ0
noncomputable def rShore0_q1 (s : WShore) (i : Int) (dJ0 : Nat → Value) : ScriptT := rShore0_q0 s i dJ0 ++ [(14, HintT.pure (Value.bool true) [])]
noncomputable def rShore0_p2 (B : Lo) (s : WShore) (i : Int) (dJ0 : Nat → Value) : List Prop := [AllP [] ∧ PureC Try.prog J0 57 #[Value.agg #[Value.int IntKind.i64 (WCell.dlo (List.getD (WShore.cells s) (Int.toNat i) default)), Value.int IntKind.i64 (WCell.dhi (List.getD (WShore.cells s) (Int.toNat i) default))], Value.int IntKind.i64 0, Value.int IntKind.i64 5000] (Value.bool true)] ++ rShore0_p1 B s i dJ0
noncomputable def rShore0_q2 (s : WShore) (i : Int) (dJ0 : Nat → Value) : ScriptT := rShore0_q1 s i dJ0 ++ [(19, HintT.pure (Value.bool true) [])]
set_option maxRecDepth 100000 in
theorem rShore0_s0 (B : Lo) (s : WShore) (i : Int) (dJ0 : Nat → Value) : landM (srunT Try.prog (okFn Try.prog) J0 B 16 1 (headC 19 83 (([1, 3] : List Nat).zip (rShore0_v0 s i)) dJ0 rShore0_t0) (headH (rShore0_o0 s i)) (2 + (rShore0_o0 s i).length)
    (rShore0_q2 s i dJ0 ++ [(25, HintT.pure (Value.bool true) []), (29, hvI (i + 1))]) 0 [] []) [1, 3] [(2, KS.auto)] [] = some ⟨19, 83, rShore0_t0, [], .run, none, rShore0_v0 s (i + 1), rShore0_o0 s (i + 1),
    [wq (i + 1) = i + 1, AllP [] ∧ PureC Try.prog J0 56 #[Value.int IntKind.i64 (WCell.floor (List.getD (WShore.cells s) (Int.toNat i) default)), Value.int IntKind.i64 (-1), Value.int IntKind.i64 5000] (Value.bool true)] ++ rShore0_p2 B s i dJ0⟩ := by kernel_rfl
set_option maxRecDepth 100000 in
theorem rShore0_s1 (B : Lo) (s : WShore) (i : Int) (dJ0 : Nat → Value) : endT (srunT Try.prog (okFn Try.prog) J0 B 16 1 (headC 19 83 (([1, 3] : List Nat).zip (rShore0_v0 s i)) dJ0 rShore0_t0) (headH (rShore0_o0 s i)) (2 + (rShore0_o0 s i).length)
    (rShore0_q2 s i dJ0 ++ [(25, HintT.pure (Value.bool false) [])]) 0 [] []) [] = some (Value.bool false,
    [AllP [] ∧ PureC Try.prog J0 56 #[Value.int IntKind.i64 (WCell.floor (List.getD (WShore.cells s) (Int.toNat i) default)), Value.int IntKind.i64 (-1), Value.int IntKind.i64 5000] (Value.bool false)] ++ rShore0_p2 B s i dJ0) := by kernel_rfl
set_option maxRecDepth 100000 in
theorem rShore0_s2 (B : Lo) (s : WShore) (i : Int) (dJ0 : Nat → Value) : endT (srunT Try.prog (okFn Try.prog) J0 B 16 1 (headC 19 83 (([1, 3] : List Nat).zip (rShore0_v0 s i)) dJ0 rShore0_t0) (headH (rShore0_o0 s i)) (2 + (rShore0_o0 s i).length)
    (rShore0_q1 s i dJ0 ++ [(19, HintT.pure (Value.bool false) [])]) 0 [] []) [] = some (Value.bool false,
    [AllP [] ∧ PureC Try.prog J0 57 #[Value.agg #[Value.int IntKind.i64 (WCell.dlo (List.getD (WShore.cells s) (Int.toNat i) default)), Value.int IntKind.i64 (WCell.dhi (List.getD (WShore.cells s) (Int.toNat i) default))], Value.int IntKind.i64 0, Value.int IntKind.i64 5000] (Value.bool false)] ++ rShore0_p1 B s i dJ0) := by kernel_rfl
set_option maxRecDepth 100000 in
theorem rShore0_s3 (B : Lo) (s : WShore) (i : Int) (dJ0 : Nat → Value) : endT (srunT Try.prog (okFn Try.prog) J0 B 16 1 (headC 19 83 (([1, 3] : List Nat).zip (rShore0_v0 s i)) dJ0 rShore0_t0) (headH (rShore0_o0 s i)) (2 + (rShore0_o0 s i).length)
    (rShore0_q0 s i dJ0 ++ [(14, HintT.pure (Value.bool false) [])]) 0 [] []) [] = some (Value.bool false,
    [AllP [] ∧ PureC Try.prog J0 56 #[Value.int IntKind.i64 (WCell.ground (List.getD (WShore.cells s) (Int.toNat i) default)), Value.int IntKind.i64 (-5000), Value.int IntKind.i64 5000] (Value.bool false)] ++ rShore0_p0 B s i dJ0) := by kernel_rfl
set_option maxRecDepth 100000 in
theorem rShore0_s4 (B : Lo) (s : WShore) (i : Int) (dJ0 : Nat → Value) : landM (srunT Try.prog (okFn Try.prog) J0 B 10 1 (headC 19 83 (([1, 3] : List Nat).zip (rShore0_v0 s i)) dJ0 rShore0_t0) (headH (rShore0_o0 s i)) (2 + (rShore0_o0 s i).length)
    [(4, hvF)] 0 [] []) [1, 5] [(2, KS.auto)] [] = some ⟨19, 83, rShore0_t1, [], .run, none, rShore0_v1 s (0), rShore0_o1 s (0),
    [ltq i (↑(List.length (WShore.cells s)) : Int) = false]⟩ := by kernel_rfl
noncomputable def rShore0_p3 (B : Lo) (s : WShore) (i : Int) (dJ0 : Nat → Value) : List Prop := [i = (↑(Int.toNat i) : Int) ∧ Int.toNat i < List.length (WShore.works s) ∧ Array.extract (rowL encWWork (WShore.works s)) (Int.toNat i * TypeInfo.size Try.t85) (Int.toNat i * TypeInfo.size Try.t85 + TypeInfo.size Try.t85) = #[Value.int IntKind.i64 (WWork.rise (List.getD (WShore.works s) (Int.toNat i) default)), Value.int IntKind.i64 (WWork.calm (List.getD (WShore.works s) (Int.toNat i) default)), Value.int IntKind.i64 (WWork.cost (List.getD (WShore.works s) (Int.toNat i) default))], ltq i (↑(List.length (WShore.works s)) : Int) = true] ++ ([] : List Prop)
noncomputable def rShore0_q3 (s : WShore) (i : Int) (dJ0 : Nat → Value) : ScriptT := [(4, hvT), (8, HintT.tidx (Int.toNat i) #[Value.int IntKind.i64 (WWork.rise (List.getD (WShore.works s) (Int.toNat i) default)), Value.int IntKind.i64 (WWork.calm (List.getD (WShore.works s) (Int.toNat i) default)), Value.int IntKind.i64 (WWork.cost (List.getD (WShore.works s) (Int.toNat i) default))])]
noncomputable def rShore0_p4 (B : Lo) (s : WShore) (i : Int) (dJ0 : Nat → Value) : List Prop := [AllP [] ∧ PureC Try.prog J0 56 #[Value.int IntKind.i64 (WWork.rise (List.getD (WShore.works s) (Int.toNat i) default)), Value.int IntKind.i64 0, Value.int IntKind.i64 5000] (Value.bool true)] ++ rShore0_p3 B s i dJ0
noncomputable def rShore0_q4 (s : WShore) (i : Int) (dJ0 : Nat → Value) : ScriptT := rShore0_q3 s i dJ0 ++ [(14, HintT.pure (Value.bool true) [])]
noncomputable def rShore0_p5 (B : Lo) (s : WShore) (i : Int) (dJ0 : Nat → Value) : List Prop := [AllP [] ∧ PureC Try.prog J0 56 #[Value.int IntKind.i64 (WWork.calm (List.getD (WShore.works s) (Int.toNat i) default)), Value.int IntKind.i64 0, Value.int IntKind.i64 5000] (Value.bool true)] ++ rShore0_p4 B s i dJ0
noncomputable def rShore0_q5 (s : WShore) (i : Int) (dJ0 : Nat → Value) : ScriptT := rShore0_q4 s i dJ0 ++ [(19, HintT.pure (Value.bool true) [])]
set_option maxRecDepth 100000 in
theorem rShore0_s5 (B : Lo) (s : WShore) (i : Int) (dJ0 : Nat → Value) : landM (srunT Try.prog (okFn Try.prog) J0 B 16 1 (headC 19 83 (([1, 5] : List Nat).zip (rShore0_v1 s i)) dJ0 rShore0_t1) (headH (rShore0_o1 s i)) (2 + (rShore0_o1 s i).length)
    (rShore0_q5 s i dJ0 ++ [(25, HintT.pure (Value.bool true) []), (29, hvI (i + 1))]) 0 [] []) [1, 5] [(2, KS.auto)] [] = some ⟨19, 83, rShore0_t1, [], .run, none, rShore0_v1 s (i + 1), rShore0_o1 s (i + 1),
    [wq (i + 1) = i + 1, AllP [] ∧ PureC Try.prog J0 56 #[Value.int IntKind.i64 (WWork.cost (List.getD (WShore.works s) (Int.toNat i) default)), Value.int IntKind.i64 0, Value.int IntKind.i64 1000000] (Value.bool true)] ++ rShore0_p5 B s i dJ0⟩ := by kernel_rfl
set_option maxRecDepth 100000 in
theorem rShore0_s6 (B : Lo) (s : WShore) (i : Int) (dJ0 : Nat → Value) : endT (srunT Try.prog (okFn Try.prog) J0 B 16 1 (headC 19 83 (([1, 5] : List Nat).zip (rShore0_v1 s i)) dJ0 rShore0_t1) (headH (rShore0_o1 s i)) (2 + (rShore0_o1 s i).length)
    (rShore0_q5 s i dJ0 ++ [(25, HintT.pure (Value.bool false) [])]) 0 [] []) [] = some (Value.bool false,
    [AllP [] ∧ PureC Try.prog J0 56 #[Value.int IntKind.i64 (WWork.cost (List.getD (WShore.works s) (Int.toNat i) default)), Value.int IntKind.i64 0, Value.int IntKind.i64 1000000] (Value.bool false)] ++ rShore0_p5 B s i dJ0) := by kernel_rfl
set_option maxRecDepth 100000 in
theorem rShore0_s7 (B : Lo) (s : WShore) (i : Int) (dJ0 : Nat → Value) : endT (srunT Try.prog (okFn Try.prog) J0 B 16 1 (headC 19 83 (([1, 5] : List Nat).zip (rShore0_v1 s i)) dJ0 rShore0_t1) (headH (rShore0_o1 s i)) (2 + (rShore0_o1 s i).length)
    (rShore0_q4 s i dJ0 ++ [(19, HintT.pure (Value.bool false) [])]) 0 [] []) [] = some (Value.bool false,
    [AllP [] ∧ PureC Try.prog J0 56 #[Value.int IntKind.i64 (WWork.calm (List.getD (WShore.works s) (Int.toNat i) default)), Value.int IntKind.i64 0, Value.int IntKind.i64 5000] (Value.bool false)] ++ rShore0_p4 B s i dJ0) := by kernel_rfl
set_option maxRecDepth 100000 in
theorem rShore0_s8 (B : Lo) (s : WShore) (i : Int) (dJ0 : Nat → Value) : endT (srunT Try.prog (okFn Try.prog) J0 B 16 1 (headC 19 83 (([1, 5] : List Nat).zip (rShore0_v1 s i)) dJ0 rShore0_t1) (headH (rShore0_o1 s i)) (2 + (rShore0_o1 s i).length)
    (rShore0_q3 s i dJ0 ++ [(14, HintT.pure (Value.bool false) [])]) 0 [] []) [] = some (Value.bool false,
    [AllP [] ∧ PureC Try.prog J0 56 #[Value.int IntKind.i64 (WWork.rise (List.getD (WShore.works s) (Int.toNat i) default)), Value.int IntKind.i64 0, Value.int IntKind.i64 5000] (Value.bool false)] ++ rShore0_p3 B s i dJ0) := by kernel_rfl
noncomputable def rShore0_p6 (B : Lo) (s : WShore) (i : Int) (dJ0 : Nat → Value) : List Prop := [ltq i (↑(List.length (WShore.works s)) : Int) = false] ++ ([] : List Prop)
noncomputable def rShore0_q6 (s : WShore) (i : Int) (dJ0 : Nat → Value) : ScriptT := [(4, hvF)]
noncomputable def rShore0_p7 (B : Lo) (s : WShore) (i : Int) (dJ0 : Nat → Value) : List Prop := [AllP [] ∧ PureC Try.prog J0 56 #[Value.int IntKind.i64 (↑(List.length (WShore.cells s)) : Int), Value.int IntKind.i64 1, Value.int IntKind.i64 7] (Value.bool true)] ++ rShore0_p6 B s i dJ0
noncomputable def rShore0_q7 (s : WShore) (i : Int) (dJ0 : Nat → Value) : ScriptT := rShore0_q6 s i dJ0 ++ [(8, HintT.pure (Value.bool true) [])]
noncomputable def rShore0_p8 (B : Lo) (s : WShore) (i : Int) (dJ0 : Nat → Value) : List Prop := [(!ltq 3 (↑(List.length (WShore.works s)) : Int)) = true] ++ rShore0_p7 B s i dJ0
noncomputable def rShore0_q8 (s : WShore) (i : Int) (dJ0 : Nat → Value) : ScriptT := rShore0_q7 s i dJ0 ++ [(13, hvT)]
noncomputable def rShore0_p9 (B : Lo) (s : WShore) (i : Int) (dJ0 : Nat → Value) : List Prop := [AllP [] ∧ PureC Try.prog J0 56 #[Value.int IntKind.i64 (WShore.reef s), Value.int IntKind.i64 0, Value.int IntKind.i64 20] (Value.bool true)] ++ rShore0_p8 B s i dJ0
noncomputable def rShore0_q9 (s : WShore) (i : Int) (dJ0 : Nat → Value) : ScriptT := rShore0_q8 s i dJ0 ++ [(18, HintT.pure (Value.bool true) [])]
set_option maxRecDepth 100000 in
theorem rShore0_s9 (B : Lo) (s : WShore) (i : Int) (dJ0 : Nat → Value) : endT (srunT Try.prog (okFn Try.prog) J0 B 9 1 (headC 19 83 (([1, 5] : List Nat).zip (rShore0_v1 s i)) dJ0 rShore0_t1) (headH (rShore0_o1 s i)) (2 + (rShore0_o1 s i).length)
    (rShore0_q9 s i dJ0 ++ [(23, HintT.pure (Value.bool true) [])]) 0 [] []) [] = some (Value.bool true,
    [AllP [] ∧ PureC Try.prog J0 57 #[Value.agg #[Value.int IntKind.i64 (WShore.llo s), Value.int IntKind.i64 (WShore.lhi s)], Value.int IntKind.i64 0, Value.int IntKind.i64 1000] (Value.bool true)] ++ rShore0_p9 B s i dJ0) := by kernel_rfl
set_option maxRecDepth 100000 in
theorem rShore0_s10 (B : Lo) (s : WShore) (i : Int) (dJ0 : Nat → Value) : endT (srunT Try.prog (okFn Try.prog) J0 B 9 1 (headC 19 83 (([1, 5] : List Nat).zip (rShore0_v1 s i)) dJ0 rShore0_t1) (headH (rShore0_o1 s i)) (2 + (rShore0_o1 s i).length)
    (rShore0_q9 s i dJ0 ++ [(23, HintT.pure (Value.bool false) [])]) 0 [] []) [] = some (Value.bool false,
    [AllP [] ∧ PureC Try.prog J0 57 #[Value.agg #[Value.int IntKind.i64 (WShore.llo s), Value.int IntKind.i64 (WShore.lhi s)], Value.int IntKind.i64 0, Value.int IntKind.i64 1000] (Value.bool false)] ++ rShore0_p9 B s i dJ0) := by kernel_rfl
set_option maxRecDepth 100000 in
theorem rShore0_s11 (B : Lo) (s : WShore) (i : Int) (dJ0 : Nat → Value) : endT (srunT Try.prog (okFn Try.prog) J0 B 9 1 (headC 19 83 (([1, 5] : List Nat).zip (rShore0_v1 s i)) dJ0 rShore0_t1) (headH (rShore0_o1 s i)) (2 + (rShore0_o1 s i).length)
    (rShore0_q8 s i dJ0 ++ [(18, HintT.pure (Value.bool false) [])]) 0 [] []) [] = some (Value.bool false,
    [AllP [] ∧ PureC Try.prog J0 56 #[Value.int IntKind.i64 (WShore.reef s), Value.int IntKind.i64 0, Value.int IntKind.i64 20] (Value.bool false)] ++ rShore0_p8 B s i dJ0) := by kernel_rfl
set_option maxRecDepth 100000 in
theorem rShore0_s12 (B : Lo) (s : WShore) (i : Int) (dJ0 : Nat → Value) : endT (srunT Try.prog (okFn Try.prog) J0 B 9 1 (headC 19 83 (([1, 5] : List Nat).zip (rShore0_v1 s i)) dJ0 rShore0_t1) (headH (rShore0_o1 s i)) (2 + (rShore0_o1 s i).length)
    (rShore0_q7 s i dJ0 ++ [(13, hvF)]) 0 [] []) [] = some (Value.bool false,
    [(!ltq 3 (↑(List.length (WShore.works s)) : Int)) = false] ++ rShore0_p7 B s i dJ0) := by kernel_rfl
set_option maxRecDepth 100000 in
theorem rShore0_s13 (B : Lo) (s : WShore) (i : Int) (dJ0 : Nat → Value) : endT (srunT Try.prog (okFn Try.prog) J0 B 9 1 (headC 19 83 (([1, 5] : List Nat).zip (rShore0_v1 s i)) dJ0 rShore0_t1) (headH (rShore0_o1 s i)) (2 + (rShore0_o1 s i).length)
    (rShore0_q6 s i dJ0 ++ [(8, HintT.pure (Value.bool false) [])]) 0 [] []) [] = some (Value.bool false,
    [AllP [] ∧ PureC Try.prog J0 56 #[Value.int IntKind.i64 (↑(List.length (WShore.cells s)) : Int), Value.int IntKind.i64 1, Value.int IntKind.i64 7] (Value.bool false)] ++ rShore0_p6 B s i dJ0) := by kernel_rfl
set_option maxRecDepth 100000 in
theorem rShore0_s14 (B : Lo) (s : WShore) : landM (srunT Try.prog (okFn Try.prog) J0 B 7 1 (entryC Try.prog 19 83 (([.agg (encShore s).toArray]).map (pushT 0 4))) H00 1
    [] 0 [] []) [1, 3] [(1, KS.auto)] [] = some ⟨19, 83, rShore0_t0, [], .run, none, rShore0_v0 s (0), rShore0_o0 s (0),
    []⟩ := by kernel_rfl
set_option maxHeartbeats 4000000 in
theorem rShore0_ls (s : WShore)  (hfacts : s.cells.length ≤ 9223372036854775807 ∧ s.works.length ≤ 9223372036854775807) {B : Lo} (hJ : ∀ w, B.has w → J0 w) {c0 : CF} : ∀ m : Nat, (∀ (i : Int), (s.cells.length - i.toNat) + s.works.length + 9 = m → ∀ (h0 : 0 ≤ i), rShore0_h0 B c0 s i → EndsT Try.prog B c0 (.bool ((s.cells.drop i.toNat).all cellB && (s.works.all workB && shoreT s)))) ∧ (∀ (i : Int), (s.works.length - i.toNat) + 1 = m → ∀ (h0 : 0 ≤ i), rShore0_h1 B c0 s i → EndsT Try.prog B c0 (.bool ((s.works.drop i.toNat).all workB && shoreT s))) := by
  intro m0
  induction m0 using Nat.strongRecOn with
  | _ m0 ih0 =>
    refine ⟨?_, ?_⟩
    · intro i hm0 h0 ⟨dJ0, hdJ0, hg0⟩
      by_cases q0 : (i : Int) < ((↑(List.length (WShore.cells s)) : Int))
      ·
        have hp0 : AllP (rShore0_p0 B s i dJ0) := by
          try have s2 := drop_all2 (l := s.cells) (p := cellB) h0 q0
          try have s2 := drop_nil2 (l := s.cells) (p := cellB) (i := i) (by omega)
          exact ⟨⟨by omega, by omega, (rowL_extract (z := 4) (fun _ => rfl) (by omega))⟩, ⟨(ltq_t q0), trivial⟩⟩
        cases q1 : inB (WCell.ground (List.getD (WShore.cells s) (Int.toNat i) default)) (-5000) 5000 with
        | true =>
          have hp1 : AllP (rShore0_p1 B s i dJ0) := by
            try have s2 := drop_all2 (l := s.cells) (p := cellB) h0 q0
            try have s2 := drop_nil2 (l := s.cells) (p := cellB) (i := i) (by omega)
            exact ⟨⟨trivial, (by have t_ := rin (WCell.ground (List.getD (WShore.cells s) (Int.toNat i) default)) (-5000) (5000); rw [q1] at t_; exact t_)⟩, hp0⟩
          cases q2 : spanB (WCell.dlo (List.getD (WShore.cells s) (Int.toNat i) default)) (WCell.dhi (List.getD (WShore.cells s) (Int.toNat i) default)) 0 5000 with
          | true =>
            have hp2 : AllP (rShore0_p2 B s i dJ0) := by
              try have s2 := drop_all2 (l := s.cells) (p := cellB) h0 q0
              try have s2 := drop_nil2 (l := s.cells) (p := cellB) (i := i) (by omega)
              exact ⟨⟨trivial, (by have t_ := rSpan (WCell.dlo (List.getD (WShore.cells s) (Int.toNat i) default)) (WCell.dhi (List.getD (WShore.cells s) (Int.toNat i) default)) (0) (5000); rw [q2] at t_; exact t_)⟩, hp1⟩
            cases q3 : inB (WCell.floor (List.getD (WShore.cells s) (Int.toNat i) default)) (-1) 5000 with
            | true =>
              try have s2 := drop_all2 (l := s.cells) (p := cellB) h0 q0
              try have s2 := drop_nil2 (l := s.cells) (p := cellB) (i := i) (by omega)
              exact ((ih0 _ (by omega)).1 (i + 1) rfl (by first | with_reducible assumption | omega | (simp_all; done))
                (hg0.landM okF hJ mixed_ok (rShore0_s0 B s i dJ0)
                ⟨(wq_in (by omega) (by omega)), ⟨⟨trivial, (by have t_ := rin (WCell.floor (List.getD (WShore.cells s) (Int.toNat i) default)) (-1) (5000); rw [q3] at t_; exact t_)⟩, hp2⟩⟩ (by kernel_rfl) (by kernel_rfl))).cast (by first | (rw [s2]; simp [cellB, *]; done) | (rw [s2]; simp_all [cellB]; done) | (rw [s2]; done))
            | false =>
              try have s2 := drop_all2 (l := s.cells) (p := cellB) h0 q0
              try have s2 := drop_nil2 (l := s.cells) (p := cellB) (i := i) (by omega)
              exact (GoE.endsT okF hJ mixed_ok hg0 (rShore0_s1 B s i dJ0)
                ⟨⟨trivial, (by have t_ := rin (WCell.floor (List.getD (WShore.cells s) (Int.toNat i) default)) (-1) (5000); rw [q3] at t_; exact t_)⟩, hp2⟩).cast (by first | (rw [s2]; simp [cellB, *]; done) | (rw [s2]; simp_all [cellB]; done) | (rw [s2]; done))
          | false =>
            try have s2 := drop_all2 (l := s.cells) (p := cellB) h0 q0
            try have s2 := drop_nil2 (l := s.cells) (p := cellB) (i := i) (by omega)
            exact (GoE.endsT okF hJ mixed_ok hg0 (rShore0_s2 B s i dJ0)
              ⟨⟨trivial, (by have t_ := rSpan (WCell.dlo (List.getD (WShore.cells s) (Int.toNat i) default)) (WCell.dhi (List.getD (WShore.cells s) (Int.toNat i) default)) (0) (5000); rw [q2] at t_; exact t_)⟩, hp1⟩).cast (by first | (rw [s2]; simp [cellB, *]; done) | (rw [s2]; simp_all [cellB]; done) | (rw [s2]; done))
        | false =>
          try have s2 := drop_all2 (l := s.cells) (p := cellB) h0 q0
          try have s2 := drop_nil2 (l := s.cells) (p := cellB) (i := i) (by omega)
          exact (GoE.endsT okF hJ mixed_ok hg0 (rShore0_s3 B s i dJ0)
            ⟨⟨trivial, (by have t_ := rin (WCell.ground (List.getD (WShore.cells s) (Int.toNat i) default)) (-5000) (5000); rw [q1] at t_; exact t_)⟩, hp0⟩).cast (by first | (rw [s2]; simp [cellB, *]; done) | (rw [s2]; simp_all [cellB]; done) | (rw [s2]; done))
      ·
        try have s2 := drop_all2 (l := s.cells) (p := cellB) h0 q0
        try have s2 := drop_nil2 (l := s.cells) (p := cellB) (i := i) (by omega)
        exact ((ih0 _ (by omega)).2 (0) rfl (by first | with_reducible assumption | omega | (simp_all; done))
          (hg0.landM okF hJ mixed_ok (rShore0_s4 B s i dJ0)
          ⟨(ltq_f (Int.not_lt.1 q0)), trivial⟩ (by kernel_rfl) (by kernel_rfl))).cast (by first | (rw [s2]; simp [cellB, *]; done) | (rw [s2]; simp_all [cellB]; done) | (rw [s2]; done))
    · intro i hm0 h0 ⟨dJ0, hdJ0, hg0⟩
      by_cases q0 : (i : Int) < ((↑(List.length (WShore.works s)) : Int))
      ·
        have hp3 : AllP (rShore0_p3 B s i dJ0) := by
          try have s2 := drop_all2 (l := s.works) (p := workB) h0 q0
          try have s2 := drop_nil2 (l := s.works) (p := workB) (i := i) (by omega)
          exact ⟨⟨by omega, by omega, (rowL_extract (z := 3) (fun _ => rfl) (by omega))⟩, ⟨(ltq_t q0), trivial⟩⟩
        cases q1 : inB (WWork.rise (List.getD (WShore.works s) (Int.toNat i) default)) 0 5000 with
        | true =>
          have hp4 : AllP (rShore0_p4 B s i dJ0) := by
            try have s2 := drop_all2 (l := s.works) (p := workB) h0 q0
            try have s2 := drop_nil2 (l := s.works) (p := workB) (i := i) (by omega)
            exact ⟨⟨trivial, (by have t_ := rin (WWork.rise (List.getD (WShore.works s) (Int.toNat i) default)) (0) (5000); rw [q1] at t_; exact t_)⟩, hp3⟩
          cases q2 : inB (WWork.calm (List.getD (WShore.works s) (Int.toNat i) default)) 0 5000 with
          | true =>
            have hp5 : AllP (rShore0_p5 B s i dJ0) := by
              try have s2 := drop_all2 (l := s.works) (p := workB) h0 q0
              try have s2 := drop_nil2 (l := s.works) (p := workB) (i := i) (by omega)
              exact ⟨⟨trivial, (by have t_ := rin (WWork.calm (List.getD (WShore.works s) (Int.toNat i) default)) (0) (5000); rw [q2] at t_; exact t_)⟩, hp4⟩
            cases q3 : inB (WWork.cost (List.getD (WShore.works s) (Int.toNat i) default)) 0 1000000 with
            | true =>
              try have s2 := drop_all2 (l := s.works) (p := workB) h0 q0
              try have s2 := drop_nil2 (l := s.works) (p := workB) (i := i) (by omega)
              exact ((ih0 _ (by omega)).2 (i + 1) rfl (by first | with_reducible assumption | omega | (simp_all; done))
                (hg0.landM okF hJ mixed_ok (rShore0_s5 B s i dJ0)
                ⟨(wq_in (by omega) (by omega)), ⟨⟨trivial, (by have t_ := rin (WWork.cost (List.getD (WShore.works s) (Int.toNat i) default)) (0) (1000000); rw [q3] at t_; exact t_)⟩, hp5⟩⟩ (by kernel_rfl) (by kernel_rfl))).cast (by first | (rw [s2]; simp [workB, *]; done) | (rw [s2]; simp_all [workB]; done) | (rw [s2]; simp [shoreT, *]; done) | (rw [s2]; simp_all [shoreT]; done) | (rw [s2]; simp_all [shoreT]; omega))
            | false =>
              try have s2 := drop_all2 (l := s.works) (p := workB) h0 q0
              try have s2 := drop_nil2 (l := s.works) (p := workB) (i := i) (by omega)
              exact (GoE.endsT okF hJ mixed_ok hg0 (rShore0_s6 B s i dJ0)
                ⟨⟨trivial, (by have t_ := rin (WWork.cost (List.getD (WShore.works s) (Int.toNat i) default)) (0) (1000000); rw [q3] at t_; exact t_)⟩, hp5⟩).cast (by first | (rw [s2]; simp [workB, *]; done) | (rw [s2]; simp_all [workB]; done) | (rw [s2]; simp [shoreT, *]; done) | (rw [s2]; simp_all [shoreT]; done) | (rw [s2]; simp_all [shoreT]; omega))
          | false =>
            try have s2 := drop_all2 (l := s.works) (p := workB) h0 q0
            try have s2 := drop_nil2 (l := s.works) (p := workB) (i := i) (by omega)
            exact (GoE.endsT okF hJ mixed_ok hg0 (rShore0_s7 B s i dJ0)
              ⟨⟨trivial, (by have t_ := rin (WWork.calm (List.getD (WShore.works s) (Int.toNat i) default)) (0) (5000); rw [q2] at t_; exact t_)⟩, hp4⟩).cast (by first | (rw [s2]; simp [workB, *]; done) | (rw [s2]; simp_all [workB]; done) | (rw [s2]; simp [shoreT, *]; done) | (rw [s2]; simp_all [shoreT]; done) | (rw [s2]; simp_all [shoreT]; omega))
        | false =>
          try have s2 := drop_all2 (l := s.works) (p := workB) h0 q0
          try have s2 := drop_nil2 (l := s.works) (p := workB) (i := i) (by omega)
          exact (GoE.endsT okF hJ mixed_ok hg0 (rShore0_s8 B s i dJ0)
            ⟨⟨trivial, (by have t_ := rin (WWork.rise (List.getD (WShore.works s) (Int.toNat i) default)) (0) (5000); rw [q1] at t_; exact t_)⟩, hp3⟩).cast (by first | (rw [s2]; simp [workB, *]; done) | (rw [s2]; simp_all [workB]; done) | (rw [s2]; simp [shoreT, *]; done) | (rw [s2]; simp_all [shoreT]; done) | (rw [s2]; simp_all [shoreT]; omega))
      ·
        have hp6 : AllP (rShore0_p6 B s i dJ0) := by
          exact ⟨(ltq_f (Int.not_lt.1 q0)), trivial⟩
        cases q1 : inB (↑(List.length (WShore.cells s)) : Int) 1 7 with
        | true =>
          have hp7 : AllP (rShore0_p7 B s i dJ0) := by
            try have s2 := drop_all2 (l := s.works) (p := workB) h0 q0
            try have s2 := drop_nil2 (l := s.works) (p := workB) (i := i) (by omega)
            exact ⟨⟨trivial, (by have t_ := rin ((↑(List.length (WShore.cells s)) : Int)) (1) (7); rw [q1] at t_; exact t_)⟩, hp6⟩
          by_cases q2 : ((↑(List.length (WShore.works s)) : Int) : Int) ≤ (3)
          ·
            have hp8 : AllP (rShore0_p8 B s i dJ0) := by
              exact ⟨(nltq_t q2), hp7⟩
            cases q3 : inB (WShore.reef s) 0 20 with
            | true =>
              have hp9 : AllP (rShore0_p9 B s i dJ0) := by
                try have s2 := drop_all2 (l := s.works) (p := workB) h0 q0
                try have s2 := drop_nil2 (l := s.works) (p := workB) (i := i) (by omega)
                exact ⟨⟨trivial, (by have t_ := rin (WShore.reef s) (0) (20); rw [q3] at t_; exact t_)⟩, hp8⟩
              cases q4 : spanB (WShore.llo s) (WShore.lhi s) 0 1000 with
              | true =>
                try have s2 := drop_all2 (l := s.works) (p := workB) h0 q0
                try have s2 := drop_nil2 (l := s.works) (p := workB) (i := i) (by omega)
                exact (GoE.endsT okF hJ mixed_ok hg0 (rShore0_s9 B s i dJ0)
                  ⟨⟨trivial, (by have t_ := rSpan (WShore.llo s) (WShore.lhi s) (0) (1000); rw [q4] at t_; exact t_)⟩, hp9⟩).cast (by first | (rw [s2]; simp [workB, *]; done) | (rw [s2]; simp_all [workB]; done) | (rw [s2]; simp [shoreT, *]; done) | (rw [s2]; simp_all [shoreT]; done) | (rw [s2]; simp_all [shoreT]; omega))
              | false =>
                try have s2 := drop_all2 (l := s.works) (p := workB) h0 q0
                try have s2 := drop_nil2 (l := s.works) (p := workB) (i := i) (by omega)
                exact (GoE.endsT okF hJ mixed_ok hg0 (rShore0_s10 B s i dJ0)
                  ⟨⟨trivial, (by have t_ := rSpan (WShore.llo s) (WShore.lhi s) (0) (1000); rw [q4] at t_; exact t_)⟩, hp9⟩).cast (by first | (rw [s2]; simp [workB, *]; done) | (rw [s2]; simp_all [workB]; done) | (rw [s2]; simp [shoreT, *]; done) | (rw [s2]; simp_all [shoreT]; done) | (rw [s2]; simp_all [shoreT]; omega))
            | false =>
              try have s2 := drop_all2 (l := s.works) (p := workB) h0 q0
              try have s2 := drop_nil2 (l := s.works) (p := workB) (i := i) (by omega)
              exact (GoE.endsT okF hJ mixed_ok hg0 (rShore0_s11 B s i dJ0)
                ⟨⟨trivial, (by have t_ := rin (WShore.reef s) (0) (20); rw [q3] at t_; exact t_)⟩, hp8⟩).cast (by first | (rw [s2]; simp [workB, *]; done) | (rw [s2]; simp_all [workB]; done) | (rw [s2]; simp [shoreT, *]; done) | (rw [s2]; simp_all [shoreT]; done) | (rw [s2]; simp_all [shoreT]; omega))
          ·
            try have s2 := drop_all2 (l := s.works) (p := workB) h0 q0
            try have s2 := drop_nil2 (l := s.works) (p := workB) (i := i) (by omega)
            exact (GoE.endsT okF hJ mixed_ok hg0 (rShore0_s12 B s i dJ0)
              ⟨(nltq_f (Int.not_le.1 q2)), hp7⟩).cast (by first | (rw [s2]; simp [workB, *]; done) | (rw [s2]; simp_all [workB]; done) | (rw [s2]; simp [shoreT, *]; done) | (rw [s2]; simp_all [shoreT]; done) | (rw [s2]; simp_all [shoreT]; omega))
        | false =>
          try have s2 := drop_all2 (l := s.works) (p := workB) h0 q0
          try have s2 := drop_nil2 (l := s.works) (p := workB) (i := i) (by omega)
          exact (GoE.endsT okF hJ mixed_ok hg0 (rShore0_s13 B s i dJ0)
            ⟨⟨trivial, (by have t_ := rin ((↑(List.length (WShore.cells s)) : Int)) (1) (7); rw [q1] at t_; exact t_)⟩, hp6⟩).cast (by first | (rw [s2]; simp [workB, *]; done) | (rw [s2]; simp_all [workB]; done) | (rw [s2]; simp [shoreT, *]; done) | (rw [s2]; simp_all [shoreT]; done) | (rw [s2]; simp_all [shoreT]; omega))
set_option maxHeartbeats 4000000 in
theorem rShore0_e (s : WShore)  (hfacts : s.cells.length ≤ 9223372036854775807 ∧ s.works.length ≤ 9223372036854775807) {B : Lo} (hJ : ∀ w, B.has w → J0 w) : EndsT Try.prog B (entryC Try.prog 19 83 (([.agg (encShore s).toArray]).map (pushT 0 4))) (.bool (s.cells.all cellB && (s.works.all workB && shoreT s))) := by
  exact ((rShore0_ls s hfacts hJ _).1 (0) rfl (by first | with_reducible assumption | omega | (simp_all; done))
    (GoE.start.landM okF hJ mixed_ok (rShore0_s14 B s)
    trivial (by kernel_rfl) (by kernel_rfl))).cast (by first | rfl | (simp [*]; done) | (simp_all []; done) | (simp_all []; omega))
theorem rShore0 (s : WShore)  : PureC Try.prog J0 19 #[.agg (encShore s).toArray] (.bool (s.cells.all cellB && (s.works.all workB && shoreT s))) :=
  pureC_ofF (ts := [.agg (encShore s).toArray]) (s.cells.length ≤ 9223372036854775807 ∧ s.works.length ≤ 9223372036854775807) (fun _ _ ht => ⟨ht.ln2 (i := 0) (j := 0) rfl rfl, ht.ln2 (i := 0) (j := 1) rfl rfl⟩) J0_st (c0 := entryC Try.prog 19 83 (([.agg (encShore s).toArray]).map (pushT 0 4))) (by kernel_rfl) (by kernel_rfl) fun hfacts B hJ => rShore0_e s  hfacts hJ
theorem rShore (s : WShore) : PureC Try.prog J0 19 #[.agg (encShore s).toArray] (.bool (shoreB s)) := by
  have h := rShore0 s; rw [shoreR_eq] at h; exact h
noncomputable def rStorm_p0 (B : Lo) (c : WStorm) : List Prop := [AllP [] ∧ PureC Try.prog J0 57 #[Value.agg #[Value.int IntKind.i64 (WStorm.wlo c), Value.int IntKind.i64 (WStorm.whi c)], Value.int IntKind.i64 0, Value.int IntKind.i64 1000] (Value.bool true)] ++ ([] : List Prop)
noncomputable def rStorm_q0 (c : WStorm) : ScriptT := [(4, HintT.pure (Value.bool true) [])]
noncomputable def rStorm_p1 (B : Lo) (c : WStorm) : List Prop := [AllP [] ∧ PureC Try.prog J0 57 #[Value.agg #[Value.int IntKind.i64 (WStorm.flo c), Value.int IntKind.i64 (WStorm.fhi c)], Value.int IntKind.i64 0, Value.int IntKind.i64 10000] (Value.bool true)] ++ rStorm_p0 B c
noncomputable def rStorm_q1 (c : WStorm) : ScriptT := rStorm_q0 c ++ [(8, HintT.pure (Value.bool true) [])]
set_option maxRecDepth 100000 in
theorem rStorm_s0 (B : Lo) (c : WStorm) : endT (srunT Try.prog (okFn Try.prog) J0 B 6 1 (entryC Try.prog 20 16 (([.agg (encStorm c).toArray]).map (pushT 0 4))) H00 1
    (rStorm_q1 c ++ [(13, HintT.pure (Value.bool true) [])]) 0 [] []) [] = some (Value.bool true,
    [AllP [] ∧ PureC Try.prog J0 57 #[Value.agg #[Value.int IntKind.i64 (WStorm.tlo c), Value.int IntKind.i64 (WStorm.thi c)], Value.int IntKind.i64 (-5000), Value.int IntKind.i64 5000] (Value.bool true)] ++ rStorm_p1 B c) := by kernel_rfl
set_option maxRecDepth 100000 in
theorem rStorm_s1 (B : Lo) (c : WStorm) : endT (srunT Try.prog (okFn Try.prog) J0 B 6 1 (entryC Try.prog 20 16 (([.agg (encStorm c).toArray]).map (pushT 0 4))) H00 1
    (rStorm_q1 c ++ [(13, HintT.pure (Value.bool false) [])]) 0 [] []) [] = some (Value.bool false,
    [AllP [] ∧ PureC Try.prog J0 57 #[Value.agg #[Value.int IntKind.i64 (WStorm.tlo c), Value.int IntKind.i64 (WStorm.thi c)], Value.int IntKind.i64 (-5000), Value.int IntKind.i64 5000] (Value.bool false)] ++ rStorm_p1 B c) := by kernel_rfl
set_option maxRecDepth 100000 in
theorem rStorm_s2 (B : Lo) (c : WStorm) : endT (srunT Try.prog (okFn Try.prog) J0 B 6 1 (entryC Try.prog 20 16 (([.agg (encStorm c).toArray]).map (pushT 0 4))) H00 1
    (rStorm_q0 c ++ [(8, HintT.pure (Value.bool false) [])]) 0 [] []) [] = some (Value.bool false,
    [AllP [] ∧ PureC Try.prog J0 57 #[Value.agg #[Value.int IntKind.i64 (WStorm.flo c), Value.int IntKind.i64 (WStorm.fhi c)], Value.int IntKind.i64 0, Value.int IntKind.i64 10000] (Value.bool false)] ++ rStorm_p0 B c) := by kernel_rfl
set_option maxRecDepth 100000 in
theorem rStorm_s3 (B : Lo) (c : WStorm) : endT (srunT Try.prog (okFn Try.prog) J0 B 6 1 (entryC Try.prog 20 16 (([.agg (encStorm c).toArray]).map (pushT 0 4))) H00 1
    [(4, HintT.pure (Value.bool false) [])] 0 [] []) [] = some (Value.bool false,
    [AllP [] ∧ PureC Try.prog J0 57 #[Value.agg #[Value.int IntKind.i64 (WStorm.wlo c), Value.int IntKind.i64 (WStorm.whi c)], Value.int IntKind.i64 0, Value.int IntKind.i64 1000] (Value.bool false)]) := by kernel_rfl
set_option maxHeartbeats 4000000 in
theorem rStorm_e (c : WStorm)  {B : Lo} (hJ : ∀ w, B.has w → J0 w) : EndsT Try.prog B (entryC Try.prog 20 16 (([.agg (encStorm c).toArray]).map (pushT 0 4))) (.bool (stormB c)) := by
  cases q0 : spanB (WStorm.wlo c) (WStorm.whi c) 0 1000 with
  | true =>
    have hp0 : AllP (rStorm_p0 B c) := by
      exact ⟨⟨trivial, (by have t_ := rSpan (WStorm.wlo c) (WStorm.whi c) (0) (1000); rw [q0] at t_; exact t_)⟩, trivial⟩
    cases q1 : spanB (WStorm.flo c) (WStorm.fhi c) 0 10000 with
    | true =>
      have hp1 : AllP (rStorm_p1 B c) := by
        exact ⟨⟨trivial, (by have t_ := rSpan (WStorm.flo c) (WStorm.fhi c) (0) (10000); rw [q1] at t_; exact t_)⟩, hp0⟩
      cases q2 : spanB (WStorm.tlo c) (WStorm.thi c) (-5000) 5000 with
      | true =>
        exact (GoE.endsT okF hJ mixed_ok GoE.start (rStorm_s0 B c)
          ⟨⟨trivial, (by have t_ := rSpan (WStorm.tlo c) (WStorm.thi c) (-5000) (5000); rw [q2] at t_; exact t_)⟩, hp1⟩).cast (by first | rfl | (simp [stormB, *]; done) | (simp_all [stormB]; done) | (simp_all [stormB]; omega))
      | false =>
        exact (GoE.endsT okF hJ mixed_ok GoE.start (rStorm_s1 B c)
          ⟨⟨trivial, (by have t_ := rSpan (WStorm.tlo c) (WStorm.thi c) (-5000) (5000); rw [q2] at t_; exact t_)⟩, hp1⟩).cast (by first | rfl | (simp [stormB, *]; done) | (simp_all [stormB]; done) | (simp_all [stormB]; omega))
    | false =>
      exact (GoE.endsT okF hJ mixed_ok GoE.start (rStorm_s2 B c)
        ⟨⟨trivial, (by have t_ := rSpan (WStorm.flo c) (WStorm.fhi c) (0) (10000); rw [q1] at t_; exact t_)⟩, hp0⟩).cast (by first | rfl | (simp [stormB, *]; done) | (simp_all [stormB]; done) | (simp_all [stormB]; omega))
  | false =>
    exact (GoE.endsT okF hJ mixed_ok GoE.start (rStorm_s3 B c)
      ⟨⟨trivial, (by have t_ := rSpan (WStorm.wlo c) (WStorm.whi c) (0) (1000); rw [q0] at t_; exact t_)⟩, trivial⟩).cast (by first | rfl | (simp [stormB, *]; done) | (simp_all [stormB]; done) | (simp_all [stormB]; omega))
theorem rStorm (c : WStorm)  : PureC Try.prog J0 20 #[.agg (encStorm c).toArray] (.bool (stormB c)) :=
  pureC_of (ts := [.agg (encStorm c).toArray]) J0_st (c0 := entryC Try.prog 20 16 (([.agg (encStorm c).toArray]).map (pushT 0 4))) (by kernel_rfl) (by kernel_rfl) fun B hJ => rStorm_e c  hJ
def rSame_v0 (xs ys : List Int) (i : Int) : List Value := [topV 1 (slT (List.length xs) (rowL encI xs)), topV 1 (slT (List.length ys) (rowL encI ys)), .int .i64 i]
def rSame_o0 (xs ys : List Int) (i : Int) : List Obj := []
noncomputable def rSame_t0 : List Item := ([.code [1, 1, 0, 1, 0, 0], .inLoop [1, 1, 0, 1, 0, 0], .inBlock 0, .code [1, 1, 1]]).map (it (bodyOf Try.prog 27))
def rSame_h0 (B : Lo) (c0 : CF) (xs ys : List Int) (i : Int) : Prop := ∃ dJ : Nat → Value, (∀ t, Loose (dJ t)) ∧ GoE Try.prog B c0 H00 1 (headC 27 26 (([0, 1, 5] : List Nat).zip (rSame_v0 xs ys i)) dJ rSame_t0) (headH (rSame_o0 xs ys i)) (2 + (rSame_o0 xs ys i).length) []
noncomputable def rSame_p0 (B : Lo) (xs ys : List Int) (i : Int) (dJ0 : Nat → Value) : List Prop := [i = (↑(Int.toNat i) : Int) ∧ Int.toNat i < List.length ys ∧ Array.extract (rowL encI ys) (Int.toNat i * TypeInfo.size Try.t3) (Int.toNat i * TypeInfo.size Try.t3 + TypeInfo.size Try.t3) = #[Value.int IntKind.i64 (List.getD ys (Int.toNat i) default)], i = (↑(Int.toNat i) : Int) ∧ Int.toNat i < List.length xs ∧ Array.extract (rowL encI xs) (Int.toNat i * TypeInfo.size Try.t3) (Int.toNat i * TypeInfo.size Try.t3 + TypeInfo.size Try.t3) = #[Value.int IntKind.i64 (List.getD xs (Int.toNat i) default)], ltq i (↑(List.length xs) : Int) = true] ++ ([] : List Prop)
noncomputable def rSame_q0 (xs ys : List Int) (i : Int) (dJ0 : Nat → Value) : ScriptT := [(3, hvT), (6, HintT.tidx (Int.toNat i) #[Value.int IntKind.i64 (List.getD xs (Int.toNat i) default)]), (10, HintT.tidx (Int.toNat i) #[Value.int IntKind.i64 (List.getD ys (Int.toNat i) default)])]
set_option maxRecDepth 100000 in
theorem rSame_s0 (B : Lo) (xs ys : List Int) (i : Int) (dJ0 : Nat → Value) : endT (srunT Try.prog (okFn Try.prog) J0 B 14 1 (headC 27 26 (([0, 1, 5] : List Nat).zip (rSame_v0 xs ys i)) dJ0 rSame_t0) (headH (rSame_o0 xs ys i)) (2 + (rSame_o0 xs ys i).length)
    (rSame_q0 xs ys i dJ0 ++ [(12, hvT)]) 0 [] []) [] = some (Value.bool false,
    [(!eqq (List.getD xs (Int.toNat i) default) (List.getD ys (Int.toNat i) default)) = true] ++ rSame_p0 B xs ys i dJ0) := by kernel_rfl
set_option maxRecDepth 100000 in
theorem rSame_s1 (B : Lo) (xs ys : List Int) (i : Int) (dJ0 : Nat → Value) : landM (srunT Try.prog (okFn Try.prog) J0 B 14 1 (headC 27 26 (([0, 1, 5] : List Nat).zip (rSame_v0 xs ys i)) dJ0 rSame_t0) (headH (rSame_o0 xs ys i)) (2 + (rSame_o0 xs ys i).length)
    (rSame_q0 xs ys i dJ0 ++ [(12, hvF), (14, hvI (i + 1))]) 0 [] []) [0, 1, 5] [] [] = some ⟨27, 26, rSame_t0, [], .run, none, rSame_v0 xs ys (i + 1), rSame_o0 xs ys (i + 1),
    [wq (i + 1) = i + 1, (!eqq (List.getD xs (Int.toNat i) default) (List.getD ys (Int.toNat i) default)) = false] ++ rSame_p0 B xs ys i dJ0⟩ := by kernel_rfl
set_option maxRecDepth 100000 in
theorem rSame_s2 (B : Lo) (xs ys : List Int) (i : Int) (dJ0 : Nat → Value) : endT (srunT Try.prog (okFn Try.prog) J0 B 9 1 (headC 27 26 (([0, 1, 5] : List Nat).zip (rSame_v0 xs ys i)) dJ0 rSame_t0) (headH (rSame_o0 xs ys i)) (2 + (rSame_o0 xs ys i).length)
    [(3, hvF)] 0 [] []) [] = some (Value.bool true,
    [ltq i (↑(List.length xs) : Int) = false]) := by kernel_rfl
set_option maxRecDepth 100000 in
theorem rSame_s3 (B : Lo) (xs ys : List Int) : endT (srunT Try.prog (okFn Try.prog) J0 B 10 1 (entryC Try.prog 27 26 (([slI xs, slI ys]).map (pushT 0 4))) H00 1
    [(5, hvT)] 0 [] []) [] = some (Value.bool false,
    [(!eqq (↑(List.length xs) : Int) (↑(List.length ys) : Int)) = true]) := by kernel_rfl
set_option maxRecDepth 100000 in
theorem rSame_s4 (B : Lo) (xs ys : List Int) : landM (srunT Try.prog (okFn Try.prog) J0 B 12 1 (entryC Try.prog 27 26 (([slI xs, slI ys]).map (pushT 0 4))) H00 1
    [(5, hvF)] 0 [] []) [0, 1, 5] [] [] = some ⟨27, 26, rSame_t0, [], .run, none, rSame_v0 xs ys (0), rSame_o0 xs ys (0),
    [(!eqq (↑(List.length xs) : Int) (↑(List.length ys) : Int)) = false]⟩ := by kernel_rfl
set_option maxHeartbeats 4000000 in
theorem rSame_ls (xs ys : List Int)  (hfacts : xs.length ≤ 9223372036854775807 ∧ ys.length ≤ 9223372036854775807) {B : Lo} (hJ : ∀ w, B.has w → J0 w) {c0 : CF} : ∀ m : Nat, (∀ (i : Int), xs.length - i.toNat = m → ∀ (h0 : 0 ≤ i) (hl : xs.length = ys.length), rSame_h0 B c0 xs ys i → EndsT Try.prog B c0 (.bool (decide (xs.drop i.toNat = ys.drop i.toNat)))) := by
  intro m0
  induction m0 using Nat.strongRecOn with
  | _ m0 ih0 =>
    intro i hm0 h0 hl ⟨dJ0, hdJ0, hg0⟩
    by_cases q0 : (i : Int) < ((↑(List.length xs) : Int))
    ·
      have hp0 : AllP (rSame_p0 B xs ys i dJ0) := by
        exact ⟨⟨by omega, by omega, (rowL_extract (z := 1) (fun _ => rfl) (by omega))⟩, ⟨⟨by omega, by omega, (rowL_extract (z := 1) (fun _ => rfl) (by omega))⟩, ⟨(ltq_t q0), trivial⟩⟩⟩
      by_cases q1 : (List.getD xs (Int.toNat i) default : Int) ≠ (List.getD ys (Int.toNat i) default)
      ·
        exact (GoE.endsT okF hJ mixed_ok hg0 (rSame_s0 B xs ys i dJ0)
          ⟨(neqq_t q1), hp0⟩).cast (by first | (rw [drop_cons (i := i) (xs := xs) (by omega) (by omega), drop_cons (i := i) (xs := ys) (by omega) (by omega)]; simp_all; done) | (rw [drop_end (i := i) (xs := xs) (by omega), drop_end (i := i) (xs := ys) (by omega)]; simp; done))
      ·
        exact ((ih0 _ (by omega)) (i + 1) rfl (by first | with_reducible assumption | omega | (simp_all; done)) (by first | with_reducible assumption | omega | (simp_all; done))
          (hg0.landM okF hJ mixed_ok (rSame_s1 B xs ys i dJ0)
          ⟨(wq_in (by omega) (by omega)), ⟨(neqq_f (Decidable.of_not_not q1)), hp0⟩⟩ (by kernel_rfl) (by kernel_rfl))).cast (by first | (rw [drop_cons (i := i) (xs := xs) (by omega) (by omega), drop_cons (i := i) (xs := ys) (by omega) (by omega)]; simp_all; done) | (rw [drop_end (i := i) (xs := xs) (by omega), drop_end (i := i) (xs := ys) (by omega)]; simp; done))
    ·
      exact (GoE.endsT okF hJ mixed_ok hg0 (rSame_s2 B xs ys i dJ0)
        ⟨(ltq_f (Int.not_lt.1 q0)), trivial⟩).cast (by first | (rw [drop_cons (i := i) (xs := xs) (by omega) (by omega), drop_cons (i := i) (xs := ys) (by omega) (by omega)]; simp_all; done) | (rw [drop_end (i := i) (xs := xs) (by omega), drop_end (i := i) (xs := ys) (by omega)]; simp; done))
set_option maxHeartbeats 4000000 in
theorem rSame_e (xs ys : List Int)  (hfacts : xs.length ≤ 9223372036854775807 ∧ ys.length ≤ 9223372036854775807) {B : Lo} (hJ : ∀ w, B.has w → J0 w) : EndsT Try.prog B (entryC Try.prog 27 26 (([slI xs, slI ys]).map (pushT 0 4))) (.bool (decide (xs = ys))) := by
  by_cases q0 : ((↑(List.length xs) : Int) : Int) ≠ ((↑(List.length ys) : Int))
  ·
    exact (GoE.endsT okF hJ mixed_ok GoE.start (rSame_s3 B xs ys)
      ⟨(neqq_t q0), trivial⟩).cast (by first | rfl | (simp; done) | (simp; intro h; subst h; omega))
  ·
    exact ((rSame_ls xs ys hfacts hJ _) (0) rfl (by first | with_reducible assumption | omega | (simp_all; done)) (by first | with_reducible assumption | omega | (simp_all; done))
      (GoE.start.landM okF hJ mixed_ok (rSame_s4 B xs ys)
      ⟨(neqq_f (Decidable.of_not_not q0)), trivial⟩ (by kernel_rfl) (by kernel_rfl))).cast (by first | rfl | (simp; done) | (simp; intro h; subst h; omega))
theorem rSame (xs ys : List Int)  : PureC Try.prog J0 27 #[slI xs, slI ys] (.bool (decide (xs = ys))) :=
  pureC_ofF (ts := [slI xs, slI ys]) (xs.length ≤ 9223372036854775807 ∧ ys.length ≤ 9223372036854775807) (fun _ _ ht => ⟨ht.ln (i := 0) rfl, ht.ln (i := 1) rfl⟩) J0_st (c0 := entryC Try.prog 27 26 (([slI xs, slI ys]).map (pushT 0 4))) (by kernel_rfl) (by kernel_rfl) fun hfacts B hJ => rSame_e xs ys  hfacts hJ
theorem span_eq {a b : Span} : a = b ↔ a.lo = b.lo ∧ a.hi = b.hi := by
  cases a; cases b; simp
instance : DecidableEq Span := fun a b => decidable_of_iff _ span_eq.symm
def endE (b : Bool) (s : WShore) (c : WStorm) : WTruth := ⟨bif b then c.whi else c.wlo, bif b then c.fhi else c.flo, bif b then c.thi else c.tlo, bif b then s.llo else s.lhi, s.cells.map fun x => bif b then x.dlo else x.dhi⟩
theorem map_cons {α β : Type} [Inhabited α] {f : α → β} {l : List α} {i : Int} (h0 : 0 ≤ i) (h : i < l.length) : (l.drop i.toNat).map f = f (l.getD i.toNat default) :: (l.drop (i + 1).toNat).map f := by
  rw [drop_cons h0 h]; rfl
theorem map_nil {α β : Type} {f : α → β} {l : List α} {i : Int} (h : l.length ≤ i) : (l.drop i.toNat).map f = [] := by
  rw [drop_end h]; rfl
def rEndT_v0 (s : WShore) (c : WStorm) (i : Int) : List Value := [Value.bool true, pA 2 0, pA 3 0, pA 4 0, .int .i64 i]
def rEndT_o0 (s : WShore) (c : WStorm) (i : Int) : List Obj := [Obj.cells #[topV 1 (slT (List.length (WShore.cells s)) (rowL encWCell (WShore.cells s))), topV 1 (slT (List.length (WShore.works s)) (rowL encWWork (WShore.works s))), Value.int IntKind.i64 (WShore.reef s), Value.int IntKind.i64 (WShore.llo s), Value.int IntKind.i64 (WShore.lhi s)] 27, Obj.cells #[Value.int IntKind.i64 0, Value.int IntKind.i64 0, Value.int IntKind.i64 0, Value.int IntKind.i64 0, Value.slice none 0 0] 38, Obj.cells #[Value.int IntKind.i64 (WStorm.whi c), Value.int IntKind.i64 (WStorm.fhi c), Value.int IntKind.i64 (WStorm.thi c), Value.int IntKind.i64 (WShore.llo s), Value.slice none 0 0] 38]
noncomputable def rEndT_t0 : List Item := ([.code [1, 1, 1, 0, 1, 0, 0], .inLoop [1, 1, 1, 0, 1, 0, 0], .inBlock 0, .code [1, 1, 1, 1]]).map (it (bodyOf Try.prog 23))
def rEndT_h0 (B : Lo) (c0 : CF) (s : WShore) (c : WStorm) (i : Int) : Prop := ∃ dJ : Nat → Value, (∀ t, Loose (dJ t)) ∧ GoE Try.prog B c0 H00 1 (headC 23 66 (([2, 3, 6, 7, 8] : List Nat).zip (rEndT_v0 s c i)) dJ rEndT_t0) (headH (rEndT_o0 s c i)) (2 + (rEndT_o0 s c i).length) []
def rEndT_v1 (s : WShore) (c : WStorm) (i : Int) (out : List Int) (n : Nat) : List Value := [Value.bool true, pA 2 0, pA 3 0, pA 4 0, .int .i64 i]
def rEndT_o1 (s : WShore) (c : WStorm) (i : Int) (out : List Int) (n : Nat) : List Obj := [Obj.cells #[topV 1 (slT (List.length (WShore.cells s)) (rowL encWCell (WShore.cells s))), topV 1 (slT (List.length (WShore.works s)) (rowL encWWork (WShore.works s))), Value.int IntKind.i64 (WShore.reef s), Value.int IntKind.i64 (WShore.llo s), Value.int IntKind.i64 (WShore.lhi s)] 27, Obj.cells #[Value.int IntKind.i64 0, Value.int IntKind.i64 0, Value.int IntKind.i64 0, Value.int IntKind.i64 0, Value.slice none 0 0] 38, .cells #[.int .i64 c.whi, .int .i64 c.fhi, .int .i64 c.thi, .int .i64 s.llo, .slice (some ⟨5, 0, none⟩) n 1] 38 (0, 0), .cells (rowL encI out) 3 (0, 0)]
noncomputable def rEndT_t1 : List Item := ([.code [1, 1, 1, 0, 1, 0, 0], .inLoop [1, 1, 1, 0, 1, 0, 0], .inBlock 0, .code [1, 1, 1, 1]]).map (it (bodyOf Try.prog 23))
def rEndT_h1 (B : Lo) (c0 : CF) (s : WShore) (c : WStorm) (i : Int) (out : List Int) (n : Nat) : Prop := ∃ dJ : Nat → Value, (∀ t, Loose (dJ t)) ∧ GoE Try.prog B c0 H00 1 (headC 23 66 (([2, 3, 6, 7, 8] : List Nat).zip (rEndT_v1 s c i out n)) dJ rEndT_t1) (headH (rEndT_o1 s c i out n)) (2 + (rEndT_o1 s c i out n).length) []
noncomputable def rEndT_z0 (s : WShore) (i : Int) : Array Value := #[Value.int IntKind.i64 (WCell.ground (List.getD (WShore.cells s) (Int.toNat i) default)), Value.int IntKind.i64 (WCell.dlo (List.getD (WShore.cells s) (Int.toNat i) default)), Value.int IntKind.i64 (WCell.dhi (List.getD (WShore.cells s) (Int.toNat i) default)), Value.int IntKind.i64 (WCell.floor (List.getD (WShore.cells s) (Int.toNat i) default))]
set_option maxRecDepth 100000 in
theorem rEndT_s0 (B : Lo) (s : WShore) (c : WStorm) (i : Int) (dJ0 : Nat → Value) : landM (srunT Try.prog (okFn Try.prog) J0 B 18 1 (headC 23 66 (([2, 3, 6, 7, 8] : List Nat).zip (rEndT_v0 s c i)) dJ0 rEndT_t0) (headH (rEndT_o0 s c i)) (2 + (rEndT_o0 s c i).length)
    [(4, hvT), (8, HintT.tidx (Int.toNat i) (rEndT_z0 s i)), (17, HintT.tidx (Int.toNat i) (rEndT_z0 s i)), (30, hvI (i + 1))] 0 [] []) [2, 3, 6, 7, 8] [(2, KS.auto), (3, KS.auto), (4, KS.auto), (6, KS.cells [] (rowL encI [WCell.dlo (List.getD (WShore.cells s) (Int.toNat i) default)]))] [] = some ⟨23, 66, rEndT_t1, [], .run, none, rEndT_v1 s c (i + 1) ([WCell.dlo (List.getD (WShore.cells s) (Int.toNat i) default)]) (1), rEndT_o1 s c (i + 1) ([WCell.dlo (List.getD (WShore.cells s) (Int.toNat i) default)]) (1),
    [CellsM 1 [] (#[Value.int IntKind.i64 (WCell.dlo (List.getD (WShore.cells s) (Int.toNat i) default))]) (rowL encI [WCell.dlo (List.getD (WShore.cells s) (Int.toNat i) default)]), wq (i + 1) = i + 1, i = (↑(Int.toNat i) : Int) ∧ Int.toNat i < List.length (WShore.cells s) ∧ Array.extract (rowL encWCell (WShore.cells s)) (Int.toNat i * TypeInfo.size Try.t59) (Int.toNat i * TypeInfo.size Try.t59 + TypeInfo.size Try.t59) = (rEndT_z0 s i), i = (↑(Int.toNat i) : Int) ∧ Int.toNat i < List.length (WShore.cells s) ∧ Array.extract (rowL encWCell (WShore.cells s)) (Int.toNat i * TypeInfo.size Try.t59) (Int.toNat i * TypeInfo.size Try.t59 + TypeInfo.size Try.t59) = (rEndT_z0 s i), ltq i (↑(List.length (WShore.cells s)) : Int) = true]⟩ := by kernel_rfl
set_option maxRecDepth 100000 in
theorem rEndT_s1 (B : Lo) (s : WShore) (c : WStorm) (i : Int) (dJ0 : Nat → Value) : endT (srunT Try.prog (okFn Try.prog) J0 B 9 1 (headC 23 66 (([2, 3, 6, 7, 8] : List Nat).zip (rEndT_v0 s c i)) dJ0 rEndT_t0) (headH (rEndT_o0 s c i)) (2 + (rEndT_o0 s c i).length)
    [(4, hvF)] 0 [] []) [] = some (Value.agg #[Value.int IntKind.i64 (WStorm.whi c), Value.int IntKind.i64 (WStorm.fhi c), Value.int IntKind.i64 (WStorm.thi c), Value.int IntKind.i64 (WShore.llo s), slT 0 #[]],
    [ltq i (↑(List.length (WShore.cells s)) : Int) = false]) := by kernel_rfl
set_option maxRecDepth 100000 in
theorem rEndT_s2 (B : Lo) (s : WShore) (c : WStorm) (i : Int) (out : List Int) (n : Nat) (dJ0 : Nat → Value) : landM (srunT Try.prog (okFn Try.prog) J0 B 18 1 (headC 23 66 (([2, 3, 6, 7, 8] : List Nat).zip (rEndT_v1 s c i out n)) dJ0 rEndT_t1) (headH (rEndT_o1 s c i out n)) (2 + (rEndT_o1 s c i out n).length)
    [(4, hvT), (8, HintT.tidx (Int.toNat i) (rEndT_z0 s i)), (17, HintT.tidx (Int.toNat i) (rEndT_z0 s i)), (26, HintT.old (Hint.app (rowL encI (out ++ [WCell.dlo (List.getD (WShore.cells s) (Int.toNat i) default)])))), (30, hvI (i + 1))] 0 [] []) [2, 3, 6, 7, 8] [(2, KS.auto), (3, KS.auto), (4, KS.auto), (7, KS.cells [] (rowL encI (out ++ [WCell.dlo (List.getD (WShore.cells s) (Int.toNat i) default)])))] [] = some ⟨23, 66, rEndT_t1, [], .run, none, rEndT_v1 s c (i + 1) (out ++ [WCell.dlo (List.getD (WShore.cells s) (Int.toNat i) default)]) (n + 1), rEndT_o1 s c (i + 1) (out ++ [WCell.dlo (List.getD (WShore.cells s) (Int.toNat i) default)]) (n + 1),
    [CellsM 1 [] (rowL encI (out ++ [WCell.dlo (List.getD (WShore.cells s) (Int.toNat i) default)])) (rowL encI (out ++ [WCell.dlo (List.getD (WShore.cells s) (Int.toNat i) default)])), wq (i + 1) = i + 1, Array.size (rowL encI out) = n * (0 + 1) ∧ n + 1 ≤ maxLen ∧ (n + 1) * 8 ≤ 140737488355328 ∧ rowL encI out ++ #[Value.int IntKind.i64 (WCell.dlo (List.getD (WShore.cells s) (Int.toNat i) default))] = rowL encI (out ++ [WCell.dlo (List.getD (WShore.cells s) (Int.toNat i) default)]), i = (↑(Int.toNat i) : Int) ∧ Int.toNat i < List.length (WShore.cells s) ∧ Array.extract (rowL encWCell (WShore.cells s)) (Int.toNat i * TypeInfo.size Try.t59) (Int.toNat i * TypeInfo.size Try.t59 + TypeInfo.size Try.t59) = (rEndT_z0 s i), i = (↑(Int.toNat i) : Int) ∧ Int.toNat i < List.length (WShore.cells s) ∧ Array.extract (rowL encWCell (WShore.cells s)) (Int.toNat i * TypeInfo.size Try.t59) (Int.toNat i * TypeInfo.size Try.t59 + TypeInfo.size Try.t59) = (rEndT_z0 s i), ltq i (↑(List.length (WShore.cells s)) : Int) = true]⟩ := by kernel_rfl
set_option maxRecDepth 100000 in
theorem rEndT_s3 (B : Lo) (s : WShore) (c : WStorm) (i : Int) (out : List Int) (n : Nat) (dJ0 : Nat → Value) : endT (srunT Try.prog (okFn Try.prog) J0 B 9 1 (headC 23 66 (([2, 3, 6, 7, 8] : List Nat).zip (rEndT_v1 s c i out n)) dJ0 rEndT_t1) (headH (rEndT_o1 s c i out n)) (2 + (rEndT_o1 s c i out n).length)
    [(4, hvF)] 0 [] []) [{ k := 5, rs := [], cs := rowL encI out }] = some (Value.agg #[Value.int IntKind.i64 (WStorm.whi c), Value.int IntKind.i64 (WStorm.fhi c), Value.int IntKind.i64 (WStorm.thi c), Value.int IntKind.i64 (WShore.llo s), slT n (Fz.cs { k := 5, rs := [], cs := rowL encI out })],
    [CellsT (Fz.rs { k := 5, rs := [], cs := rowL encI out }) (rowL encI out) (Fz.cs { k := 5, rs := [], cs := rowL encI out }), ltq i (↑(List.length (WShore.cells s)) : Int) = false]) := by kernel_rfl
set_option maxRecDepth 100000 in
theorem rEndT_s4 (B : Lo) (s : WShore) (c : WStorm) : landM (srunT Try.prog (okFn Try.prog) J0 B 14 1 (entryC Try.prog 23 66 (([.agg (encShore s).toArray, .agg (encStorm c).toArray, .bool true]).map (pushT 0 4))) H00 1
    [] 0 [] []) [2, 3, 6, 7, 8] [(1, KS.auto), (3, KS.auto), (4, KS.auto)] [] = some ⟨23, 66, rEndT_t0, [], .run, none, rEndT_v0 s c (0), rEndT_o0 s c (0),
    []⟩ := by kernel_rfl
set_option maxHeartbeats 4000000 in
theorem rEndT_ls (s : WShore) (c : WStorm) (hn : s.cells.length ≤ 1000000) {B : Lo} (hJ : ∀ w, B.has w → J0 w) {c0 : CF} : ∀ m : Nat, (∀ (i : Int), s.cells.length - i.toNat = m → ∀ (h0 : 0 ≤ i), rEndT_h0 B c0 s c i → EndsT Try.prog B c0 (.agg #[.int .i64 c.whi, .int .i64 c.fhi, .int .i64 c.thi, .int .i64 s.llo, slI ((s.cells.drop i.toNat).map WCell.dlo)])) ∧ (∀ (i : Int) (out : List Int) (n : Nat), s.cells.length - i.toNat = m → ∀ (h0 : 0 ≤ i) (hm : n = out.length) (hx : (n : Int) ≤ i), rEndT_h1 B c0 s c i out n → EndsT Try.prog B c0 (.agg #[.int .i64 c.whi, .int .i64 c.fhi, .int .i64 c.thi, .int .i64 s.llo, slI (out ++ (s.cells.drop i.toNat).map WCell.dlo)])) := by
  intro m0
  induction m0 using Nat.strongRecOn with
  | _ m0 ih0 =>
    refine ⟨?_, ?_⟩
    · intro i hm0 h0 ⟨dJ0, hdJ0, hg0⟩
      by_cases q0 : (i : Int) < ((↑(List.length (WShore.cells s)) : Int))
      ·
        try have s2 := map_cons (f := WCell.dlo) (l := s.cells) h0 q0
        try have s2 := map_nil (f := WCell.dlo) (l := s.cells) (i := i) (by omega)
        exact ((ih0 _ (by omega)).2 (i + 1) ([WCell.dlo (List.getD (WShore.cells s) (Int.toNat i) default)]) (1) rfl (by first | with_reducible assumption | omega | (simp_all; done)) (by first | with_reducible assumption | omega | (simp_all; done)) (by first | with_reducible assumption | omega | (simp_all; done))
          (hg0.landM okF hJ mixed_ok (rEndT_s0 B s c i dJ0)
          ⟨(cellsM_lit (by kernel_rfl)), ⟨(wq_in (by omega) (by omega)), ⟨⟨by omega, by omega, (rowL_extract (z := 4) (fun _ => rfl) (by omega))⟩, ⟨⟨by omega, by omega, (rowL_extract (z := 4) (fun _ => rfl) (by omega))⟩, ⟨(ltq_t q0), trivial⟩⟩⟩⟩⟩ (by kernel_rfl) (by kernel_rfl))).cast (by first | rfl | (rw [s2]; rfl))
      ·
        try have s2 := map_cons (f := WCell.dlo) (l := s.cells) h0 q0
        try have s2 := map_nil (f := WCell.dlo) (l := s.cells) (i := i) (by omega)
        exact (GoE.endsT okF hJ mixed_ok hg0 (rEndT_s1 B s c i dJ0)
          ⟨(ltq_f (Int.not_lt.1 q0)), trivial⟩).cast (by first | rfl | (rw [s2]; rfl))
    · intro i out n hm0 h0 hm hx ⟨dJ0, hdJ0, hg0⟩
      by_cases q0 : (i : Int) < ((↑(List.length (WShore.cells s)) : Int))
      ·
        try have s2 := map_cons (f := WCell.dlo) (l := s.cells) h0 q0
        try have s2 := map_nil (f := WCell.dlo) (l := s.cells) (i := i) (by omega)
        exact ((ih0 _ (by omega)).2 (i + 1) (out ++ [WCell.dlo (List.getD (WShore.cells s) (Int.toNat i) default)]) (n + 1) rfl (by first | with_reducible assumption | omega | (simp_all; done)) (by first | with_reducible assumption | omega | (simp_all; done)) (by first | with_reducible assumption | omega | (simp_all; done))
          (hg0.landM okF hJ mixed_ok (rEndT_s2 B s c i out n dJ0)
          ⟨(cellsM_simple (rowL_simple (fun x => List.all_eq_true.1 (by first | rfl | (cases x <;> rfl))))), ⟨(wq_in (by omega) (by omega)), ⟨⟨(by first | rfl | exact rowL_size (z := 1) (fun _ => rfl) | (rw [rowL_size (z := 1) (fun _ => rfl)]; first | omega | (simp; omega) | (simp_all; done))), (by unfold maxLen; omega), by omega, by first | exact rowL_push | exact rowL_pushC rfl⟩, ⟨⟨by omega, by omega, (rowL_extract (z := 4) (fun _ => rfl) (by omega))⟩, ⟨⟨by omega, by omega, (rowL_extract (z := 4) (fun _ => rfl) (by omega))⟩, ⟨(ltq_t q0), trivial⟩⟩⟩⟩⟩⟩ (by kernel_rfl) (by kernel_rfl))).cast (by first | rfl | (rw [s2, List.append_nil, hm]; done) | (rw [s2]; simp; done))
      ·
        try have s2 := map_cons (f := WCell.dlo) (l := s.cells) h0 q0
        try have s2 := map_nil (f := WCell.dlo) (l := s.cells) (i := i) (by omega)
        exact (GoE.endsT okF hJ mixed_ok hg0 (rEndT_s3 B s c i out n dJ0)
          ⟨(rowL_cellsT (fun x => List.all_eq_true.1 (by first | rfl | (cases x <;> rfl)))), ⟨(ltq_f (Int.not_lt.1 q0)), trivial⟩⟩).cast (by first | rfl | (rw [s2, List.append_nil, hm]; done) | (rw [s2]; simp; done))
set_option maxHeartbeats 4000000 in
theorem rEndT_e (s : WShore) (c : WStorm) (hn : s.cells.length ≤ 1000000) {B : Lo} (hJ : ∀ w, B.has w → J0 w) : EndsT Try.prog B (entryC Try.prog 23 66 (([.agg (encShore s).toArray, .agg (encStorm c).toArray, .bool true]).map (pushT 0 4))) (.agg (encTruth (endE true s c)).toArray) := by
  exact ((rEndT_ls s c hn hJ _).1 (0) rfl (by first | with_reducible assumption | omega | (simp_all; done))
    (GoE.start.landM okF hJ mixed_ok (rEndT_s4 B s c)
    trivial (by kernel_rfl) (by kernel_rfl))).cast (by first | rfl | (simp [*]; done) | (simp_all []; done) | (simp_all []; omega))
theorem rEndT (s : WShore) (c : WStorm) (hn : s.cells.length ≤ 1000000) : PureC Try.prog J0 23 #[.agg (encShore s).toArray, .agg (encStorm c).toArray, .bool true] (.agg (encTruth (endE true s c)).toArray) :=
  pureC_of (ts := [.agg (encShore s).toArray, .agg (encStorm c).toArray, .bool true]) J0_st (c0 := entryC Try.prog 23 66 (([.agg (encShore s).toArray, .agg (encStorm c).toArray, .bool true]).map (pushT 0 4))) (by kernel_rfl) (by kernel_rfl) fun B hJ => rEndT_e s c hn hJ
def rEndF_v0 (s : WShore) (c : WStorm) (i : Int) : List Value := [Value.bool false, pA 2 0, pA 3 0, pA 4 0, .int .i64 i]
def rEndF_o0 (s : WShore) (c : WStorm) (i : Int) : List Obj := [Obj.cells #[topV 1 (slT (List.length (WShore.cells s)) (rowL encWCell (WShore.cells s))), topV 1 (slT (List.length (WShore.works s)) (rowL encWWork (WShore.works s))), Value.int IntKind.i64 (WShore.reef s), Value.int IntKind.i64 (WShore.llo s), Value.int IntKind.i64 (WShore.lhi s)] 27, Obj.cells #[Value.int IntKind.i64 0, Value.int IntKind.i64 0, Value.int IntKind.i64 0, Value.int IntKind.i64 0, Value.slice none 0 0] 38, Obj.cells #[Value.int IntKind.i64 (WStorm.wlo c), Value.int IntKind.i64 (WStorm.flo c), Value.int IntKind.i64 (WStorm.tlo c), Value.int IntKind.i64 (WShore.lhi s), Value.slice none 0 0] 38]
noncomputable def rEndF_t0 : List Item := ([.code [1, 1, 1, 0, 1, 0, 0], .inLoop [1, 1, 1, 0, 1, 0, 0], .inBlock 0, .code [1, 1, 1, 1]]).map (it (bodyOf Try.prog 23))
def rEndF_h0 (B : Lo) (c0 : CF) (s : WShore) (c : WStorm) (i : Int) : Prop := ∃ dJ : Nat → Value, (∀ t, Loose (dJ t)) ∧ GoE Try.prog B c0 H00 1 (headC 23 66 (([2, 3, 6, 7, 8] : List Nat).zip (rEndF_v0 s c i)) dJ rEndF_t0) (headH (rEndF_o0 s c i)) (2 + (rEndF_o0 s c i).length) []
def rEndF_v1 (s : WShore) (c : WStorm) (i : Int) (out : List Int) (n : Nat) : List Value := [Value.bool false, pA 2 0, pA 3 0, pA 4 0, .int .i64 i]
def rEndF_o1 (s : WShore) (c : WStorm) (i : Int) (out : List Int) (n : Nat) : List Obj := [Obj.cells #[topV 1 (slT (List.length (WShore.cells s)) (rowL encWCell (WShore.cells s))), topV 1 (slT (List.length (WShore.works s)) (rowL encWWork (WShore.works s))), Value.int IntKind.i64 (WShore.reef s), Value.int IntKind.i64 (WShore.llo s), Value.int IntKind.i64 (WShore.lhi s)] 27, Obj.cells #[Value.int IntKind.i64 0, Value.int IntKind.i64 0, Value.int IntKind.i64 0, Value.int IntKind.i64 0, Value.slice none 0 0] 38, .cells #[.int .i64 c.wlo, .int .i64 c.flo, .int .i64 c.tlo, .int .i64 s.lhi, .slice (some ⟨5, 0, none⟩) n 1] 38 (0, 0), .cells (rowL encI out) 3 (0, 0)]
noncomputable def rEndF_t1 : List Item := ([.code [1, 1, 1, 0, 1, 0, 0], .inLoop [1, 1, 1, 0, 1, 0, 0], .inBlock 0, .code [1, 1, 1, 1]]).map (it (bodyOf Try.prog 23))
def rEndF_h1 (B : Lo) (c0 : CF) (s : WShore) (c : WStorm) (i : Int) (out : List Int) (n : Nat) : Prop := ∃ dJ : Nat → Value, (∀ t, Loose (dJ t)) ∧ GoE Try.prog B c0 H00 1 (headC 23 66 (([2, 3, 6, 7, 8] : List Nat).zip (rEndF_v1 s c i out n)) dJ rEndF_t1) (headH (rEndF_o1 s c i out n)) (2 + (rEndF_o1 s c i out n).length) []
noncomputable def rEndF_z0 (s : WShore) (i : Int) : Array Value := #[Value.int IntKind.i64 (WCell.ground (List.getD (WShore.cells s) (Int.toNat i) default)), Value.int IntKind.i64 (WCell.dlo (List.getD (WShore.cells s) (Int.toNat i) default)), Value.int IntKind.i64 (WCell.dhi (List.getD (WShore.cells s) (Int.toNat i) default)), Value.int IntKind.i64 (WCell.floor (List.getD (WShore.cells s) (Int.toNat i) default))]
set_option maxRecDepth 100000 in
theorem rEndF_s0 (B : Lo) (s : WShore) (c : WStorm) (i : Int) (dJ0 : Nat → Value) : landM (srunT Try.prog (okFn Try.prog) J0 B 18 1 (headC 23 66 (([2, 3, 6, 7, 8] : List Nat).zip (rEndF_v0 s c i)) dJ0 rEndF_t0) (headH (rEndF_o0 s c i)) (2 + (rEndF_o0 s c i).length)
    [(4, hvT), (8, HintT.tidx (Int.toNat i) (rEndF_z0 s i)), (22, hvI (i + 1))] 0 [] []) [2, 3, 6, 7, 8] [(2, KS.auto), (3, KS.auto), (4, KS.auto), (6, KS.cells [] (rowL encI [WCell.dhi (List.getD (WShore.cells s) (Int.toNat i) default)]))] [] = some ⟨23, 66, rEndF_t1, [], .run, none, rEndF_v1 s c (i + 1) ([WCell.dhi (List.getD (WShore.cells s) (Int.toNat i) default)]) (1), rEndF_o1 s c (i + 1) ([WCell.dhi (List.getD (WShore.cells s) (Int.toNat i) default)]) (1),
    [CellsM 1 [] (#[Value.int IntKind.i64 (WCell.dhi (List.getD (WShore.cells s) (Int.toNat i) default))]) (rowL encI [WCell.dhi (List.getD (WShore.cells s) (Int.toNat i) default)]), wq (i + 1) = i + 1, i = (↑(Int.toNat i) : Int) ∧ Int.toNat i < List.length (WShore.cells s) ∧ Array.extract (rowL encWCell (WShore.cells s)) (Int.toNat i * TypeInfo.size Try.t59) (Int.toNat i * TypeInfo.size Try.t59 + TypeInfo.size Try.t59) = (rEndF_z0 s i), ltq i (↑(List.length (WShore.cells s)) : Int) = true]⟩ := by kernel_rfl
set_option maxRecDepth 100000 in
theorem rEndF_s1 (B : Lo) (s : WShore) (c : WStorm) (i : Int) (dJ0 : Nat → Value) : endT (srunT Try.prog (okFn Try.prog) J0 B 9 1 (headC 23 66 (([2, 3, 6, 7, 8] : List Nat).zip (rEndF_v0 s c i)) dJ0 rEndF_t0) (headH (rEndF_o0 s c i)) (2 + (rEndF_o0 s c i).length)
    [(4, hvF)] 0 [] []) [] = some (Value.agg #[Value.int IntKind.i64 (WStorm.wlo c), Value.int IntKind.i64 (WStorm.flo c), Value.int IntKind.i64 (WStorm.tlo c), Value.int IntKind.i64 (WShore.lhi s), slT 0 #[]],
    [ltq i (↑(List.length (WShore.cells s)) : Int) = false]) := by kernel_rfl
set_option maxRecDepth 100000 in
theorem rEndF_s2 (B : Lo) (s : WShore) (c : WStorm) (i : Int) (out : List Int) (n : Nat) (dJ0 : Nat → Value) : landM (srunT Try.prog (okFn Try.prog) J0 B 18 1 (headC 23 66 (([2, 3, 6, 7, 8] : List Nat).zip (rEndF_v1 s c i out n)) dJ0 rEndF_t1) (headH (rEndF_o1 s c i out n)) (2 + (rEndF_o1 s c i out n).length)
    [(4, hvT), (8, HintT.tidx (Int.toNat i) (rEndF_z0 s i)), (18, HintT.old (Hint.app (rowL encI (out ++ [WCell.dhi (List.getD (WShore.cells s) (Int.toNat i) default)])))), (22, hvI (i + 1))] 0 [] []) [2, 3, 6, 7, 8] [(2, KS.auto), (3, KS.auto), (4, KS.auto), (7, KS.cells [] (rowL encI (out ++ [WCell.dhi (List.getD (WShore.cells s) (Int.toNat i) default)])))] [] = some ⟨23, 66, rEndF_t1, [], .run, none, rEndF_v1 s c (i + 1) (out ++ [WCell.dhi (List.getD (WShore.cells s) (Int.toNat i) default)]) (n + 1), rEndF_o1 s c (i + 1) (out ++ [WCell.dhi (List.getD (WShore.cells s) (Int.toNat i) default)]) (n + 1),
    [CellsM 1 [] (rowL encI (out ++ [WCell.dhi (List.getD (WShore.cells s) (Int.toNat i) default)])) (rowL encI (out ++ [WCell.dhi (List.getD (WShore.cells s) (Int.toNat i) default)])), wq (i + 1) = i + 1, Array.size (rowL encI out) = n * (0 + 1) ∧ n + 1 ≤ maxLen ∧ (n + 1) * 8 ≤ 140737488355328 ∧ rowL encI out ++ #[Value.int IntKind.i64 (WCell.dhi (List.getD (WShore.cells s) (Int.toNat i) default))] = rowL encI (out ++ [WCell.dhi (List.getD (WShore.cells s) (Int.toNat i) default)]), i = (↑(Int.toNat i) : Int) ∧ Int.toNat i < List.length (WShore.cells s) ∧ Array.extract (rowL encWCell (WShore.cells s)) (Int.toNat i * TypeInfo.size Try.t59) (Int.toNat i * TypeInfo.size Try.t59 + TypeInfo.size Try.t59) = (rEndF_z0 s i), ltq i (↑(List.length (WShore.cells s)) : Int) = true]⟩ := by kernel_rfl
set_option maxRecDepth 100000 in
theorem rEndF_s3 (B : Lo) (s : WShore) (c : WStorm) (i : Int) (out : List Int) (n : Nat) (dJ0 : Nat → Value) : endT (srunT Try.prog (okFn Try.prog) J0 B 9 1 (headC 23 66 (([2, 3, 6, 7, 8] : List Nat).zip (rEndF_v1 s c i out n)) dJ0 rEndF_t1) (headH (rEndF_o1 s c i out n)) (2 + (rEndF_o1 s c i out n).length)
    [(4, hvF)] 0 [] []) [{ k := 5, rs := [], cs := rowL encI out }] = some (Value.agg #[Value.int IntKind.i64 (WStorm.wlo c), Value.int IntKind.i64 (WStorm.flo c), Value.int IntKind.i64 (WStorm.tlo c), Value.int IntKind.i64 (WShore.lhi s), slT n (Fz.cs { k := 5, rs := [], cs := rowL encI out })],
    [CellsT (Fz.rs { k := 5, rs := [], cs := rowL encI out }) (rowL encI out) (Fz.cs { k := 5, rs := [], cs := rowL encI out }), ltq i (↑(List.length (WShore.cells s)) : Int) = false]) := by kernel_rfl
set_option maxRecDepth 100000 in
theorem rEndF_s4 (B : Lo) (s : WShore) (c : WStorm) : landM (srunT Try.prog (okFn Try.prog) J0 B 14 1 (entryC Try.prog 23 66 (([.agg (encShore s).toArray, .agg (encStorm c).toArray, .bool false]).map (pushT 0 4))) H00 1
    [] 0 [] []) [2, 3, 6, 7, 8] [(1, KS.auto), (3, KS.auto), (4, KS.auto)] [] = some ⟨23, 66, rEndF_t0, [], .run, none, rEndF_v0 s c (0), rEndF_o0 s c (0),
    []⟩ := by kernel_rfl
set_option maxHeartbeats 4000000 in
theorem rEndF_ls (s : WShore) (c : WStorm) (hn : s.cells.length ≤ 1000000) {B : Lo} (hJ : ∀ w, B.has w → J0 w) {c0 : CF} : ∀ m : Nat, (∀ (i : Int), s.cells.length - i.toNat = m → ∀ (h0 : 0 ≤ i), rEndF_h0 B c0 s c i → EndsT Try.prog B c0 (.agg #[.int .i64 c.wlo, .int .i64 c.flo, .int .i64 c.tlo, .int .i64 s.lhi, slI ((s.cells.drop i.toNat).map WCell.dhi)])) ∧ (∀ (i : Int) (out : List Int) (n : Nat), s.cells.length - i.toNat = m → ∀ (h0 : 0 ≤ i) (hm : n = out.length) (hx : (n : Int) ≤ i), rEndF_h1 B c0 s c i out n → EndsT Try.prog B c0 (.agg #[.int .i64 c.wlo, .int .i64 c.flo, .int .i64 c.tlo, .int .i64 s.lhi, slI (out ++ (s.cells.drop i.toNat).map WCell.dhi)])) := by
  intro m0
  induction m0 using Nat.strongRecOn with
  | _ m0 ih0 =>
    refine ⟨?_, ?_⟩
    · intro i hm0 h0 ⟨dJ0, hdJ0, hg0⟩
      by_cases q0 : (i : Int) < ((↑(List.length (WShore.cells s)) : Int))
      ·
        try have s2 := map_cons (f := WCell.dhi) (l := s.cells) h0 q0
        try have s2 := map_nil (f := WCell.dhi) (l := s.cells) (i := i) (by omega)
        exact ((ih0 _ (by omega)).2 (i + 1) ([WCell.dhi (List.getD (WShore.cells s) (Int.toNat i) default)]) (1) rfl (by first | with_reducible assumption | omega | (simp_all; done)) (by first | with_reducible assumption | omega | (simp_all; done)) (by first | with_reducible assumption | omega | (simp_all; done))
          (hg0.landM okF hJ mixed_ok (rEndF_s0 B s c i dJ0)
          ⟨(cellsM_lit (by kernel_rfl)), ⟨(wq_in (by omega) (by omega)), ⟨⟨by omega, by omega, (rowL_extract (z := 4) (fun _ => rfl) (by omega))⟩, ⟨(ltq_t q0), trivial⟩⟩⟩⟩ (by kernel_rfl) (by kernel_rfl))).cast (by first | rfl | (rw [s2]; rfl))
      ·
        try have s2 := map_cons (f := WCell.dhi) (l := s.cells) h0 q0
        try have s2 := map_nil (f := WCell.dhi) (l := s.cells) (i := i) (by omega)
        exact (GoE.endsT okF hJ mixed_ok hg0 (rEndF_s1 B s c i dJ0)
          ⟨(ltq_f (Int.not_lt.1 q0)), trivial⟩).cast (by first | rfl | (rw [s2]; rfl))
    · intro i out n hm0 h0 hm hx ⟨dJ0, hdJ0, hg0⟩
      by_cases q0 : (i : Int) < ((↑(List.length (WShore.cells s)) : Int))
      ·
        try have s2 := map_cons (f := WCell.dhi) (l := s.cells) h0 q0
        try have s2 := map_nil (f := WCell.dhi) (l := s.cells) (i := i) (by omega)
        exact ((ih0 _ (by omega)).2 (i + 1) (out ++ [WCell.dhi (List.getD (WShore.cells s) (Int.toNat i) default)]) (n + 1) rfl (by first | with_reducible assumption | omega | (simp_all; done)) (by first | with_reducible assumption | omega | (simp_all; done)) (by first | with_reducible assumption | omega | (simp_all; done))
          (hg0.landM okF hJ mixed_ok (rEndF_s2 B s c i out n dJ0)
          ⟨(cellsM_simple (rowL_simple (fun x => List.all_eq_true.1 (by first | rfl | (cases x <;> rfl))))), ⟨(wq_in (by omega) (by omega)), ⟨⟨(by first | rfl | exact rowL_size (z := 1) (fun _ => rfl) | (rw [rowL_size (z := 1) (fun _ => rfl)]; first | omega | (simp; omega) | (simp_all; done))), (by unfold maxLen; omega), by omega, by first | exact rowL_push | exact rowL_pushC rfl⟩, ⟨⟨by omega, by omega, (rowL_extract (z := 4) (fun _ => rfl) (by omega))⟩, ⟨(ltq_t q0), trivial⟩⟩⟩⟩⟩ (by kernel_rfl) (by kernel_rfl))).cast (by first | rfl | (rw [s2, List.append_nil, hm]; done) | (rw [s2]; simp; done))
      ·
        try have s2 := map_cons (f := WCell.dhi) (l := s.cells) h0 q0
        try have s2 := map_nil (f := WCell.dhi) (l := s.cells) (i := i) (by omega)
        exact (GoE.endsT okF hJ mixed_ok hg0 (rEndF_s3 B s c i out n dJ0)
          ⟨(rowL_cellsT (fun x => List.all_eq_true.1 (by first | rfl | (cases x <;> rfl)))), ⟨(ltq_f (Int.not_lt.1 q0)), trivial⟩⟩).cast (by first | rfl | (rw [s2, List.append_nil, hm]; done) | (rw [s2]; simp; done))
set_option maxHeartbeats 4000000 in
theorem rEndF_e (s : WShore) (c : WStorm) (hn : s.cells.length ≤ 1000000) {B : Lo} (hJ : ∀ w, B.has w → J0 w) : EndsT Try.prog B (entryC Try.prog 23 66 (([.agg (encShore s).toArray, .agg (encStorm c).toArray, .bool false]).map (pushT 0 4))) (.agg (encTruth (endE false s c)).toArray) := by
  exact ((rEndF_ls s c hn hJ _).1 (0) rfl (by first | with_reducible assumption | omega | (simp_all; done))
    (GoE.start.landM okF hJ mixed_ok (rEndF_s4 B s c)
    trivial (by kernel_rfl) (by kernel_rfl))).cast (by first | rfl | (simp [*]; done) | (simp_all []; done) | (simp_all []; omega))
theorem rEndF (s : WShore) (c : WStorm) (hn : s.cells.length ≤ 1000000) : PureC Try.prog J0 23 #[.agg (encShore s).toArray, .agg (encStorm c).toArray, .bool false] (.agg (encTruth (endE false s c)).toArray) :=
  pureC_of (ts := [.agg (encShore s).toArray, .agg (encStorm c).toArray, .bool false]) J0_st (c0 := entryC Try.prog 23 66 (([.agg (encShore s).toArray, .agg (encStorm c).toArray, .bool false]).map (pushT 0 4))) (by kernel_rfl) (by kernel_rfl) fun B hJ => rEndF_e s c hn hJ
end Go.Proofs.Ytiigkdhaofaijaa

namespace Go.Proofs.Ytiigkdhaofaijaa
open Go Go.CE Go.RowKit
def waveN (loss : Int) : Nat → Int → Int
  | 0, w => w
  | n + 1, w => waveN loss n (w - (w * loss).tdiv 1000)
def levelF (s : WShore) (t : WTruth) : Int := t.tide + waveN t.loss s.reef.toNat ((t.fetch * t.wind).tdiv 1000)
def tOk (s : WShore) (t : WTruth) : Prop := (0 ≤ t.wind ∧ t.wind ≤ 1000) ∧ (0 ≤ t.fetch ∧ t.fetch ≤ 10000) ∧ (-5000 ≤ t.tide ∧ t.tide ≤ 5000) ∧ (0 ≤ t.loss ∧ t.loss ≤ 1000) ∧ t.drags.length = s.cells.length ∧ ∀ x ∈ t.drags, 0 ≤ x ∧ x ≤ 5000
theorem tOk_end {b : Bool} {s : WShore} {c : WStorm} (hs : shoreB s = true) (hc : stormB c = true) : tOk s (endE b s c) := by
  have h1 := shore_facts hs
  have h2 := storm_facts hc
  cases b <;> refine ⟨by simp only [endE, cond_true, cond_false]; omega, by simp only [endE, cond_true, cond_false]; omega, by simp only [endE, cond_true, cond_false]; omega, by simp only [endE, cond_true, cond_false]; omega, by simp [endE], fun x hx => ?_⟩ <;>
  · obtain ⟨k, hk, rfl⟩ := List.mem_map.1 hx
    have := cell_facts (h1.2.2.2.2.1 k hk)
    simp only [cond_true, cond_false]; omega
theorem wave_q {w l : Int} (hw : 0 ≤ w ∧ w ≤ 10000) (hl : 0 ≤ l ∧ l ≤ 1000) : 0 ≤ w * l ∧ w * l ≤ 10000000 ∧ (w * l).tdiv 1000 = (w * l) / 1000 ∧ 0 ≤ (w * l) / 1000 ∧ (w * l) / 1000 ≤ w := by
  have e0 : 0 ≤ w * l := Int.mul_nonneg hw.1 hl.1
  have e1 : w * l ≤ w * 1000 := Int.mul_le_mul_of_nonneg_left hl.2 hw.1
  refine ⟨e0, by omega, Int.tdiv_eq_ediv_of_nonneg e0, by omega, by omega⟩
theorem wave_0 {s : WShore} {t : WTruth} (ht : tOk s t) : 0 ≤ t.fetch * t.wind ∧ t.fetch * t.wind ≤ 10000000 ∧ (t.fetch * t.wind).tdiv 1000 = (t.fetch * t.wind) / 1000 ∧ 0 ≤ (t.fetch * t.wind) / 1000 ∧ (t.fetch * t.wind) / 1000 ≤ 10000 := by
  have h := wave_q (w := t.fetch) (l := t.wind) ht.2.1 ht.1
  refine ⟨h.1, h.2.1, h.2.2.1, h.2.2.2.1, by omega⟩
theorem waveN_in {l : Int} (hl : 0 ≤ l ∧ l ≤ 1000) : ∀ (n : Nat) (w : Int), 0 ≤ w ∧ w ≤ 10000 → 0 ≤ waveN l n w ∧ waveN l n w ≤ 10000
  | 0, w, hw => hw
  | n + 1, w, hw => by
    have h := wave_q hw hl
    exact waveN_in hl n _ (by omega)
theorem waveN_cons {l w r i : Int} (h : i < r) : waveN l (r - i).toNat w = waveN l (r - (i + 1)).toNat (w - (w * l).tdiv 1000) := by
  rw [show (r - i).toNat = (r - (i + 1)).toNat + 1 by omega]; rfl
theorem waveN_nil {l w r i : Int} (h : r ≤ i) : waveN l (r - i).toNat w = w := by
  rw [show (r - i).toNat = 0 by omega]; rfl
theorem level_in {s : WShore} {t : WTruth} (ht : tOk s t) : -5000 ≤ levelF s t ∧ levelF s t ≤ 15000 := by
  have h0 := wave_0 ht
  have h1 := waveN_in ht.2.2.2.1 s.reef.toNat ((t.fetch * t.wind).tdiv 1000) (by omega)
  have h2 := ht.2.2.1
  unfold levelF; omega
def rLevel_v0 (s : WShore) (t : WTruth) (w i : Int) : List Value := [pA 2 0, pA 3 0, .int .i64 w, .int .i64 i]
def rLevel_o0 (s : WShore) (t : WTruth) (w i : Int) : List Obj := [Obj.cells #[topV 1 (slT (List.length (WShore.cells s)) (rowL encWCell (WShore.cells s))), topV 1 (slT (List.length (WShore.works s)) (rowL encWWork (WShore.works s))), Value.int IntKind.i64 (WShore.reef s), Value.int IntKind.i64 (WShore.llo s), Value.int IntKind.i64 (WShore.lhi s)] 27, Obj.cells #[Value.int IntKind.i64 (WTruth.wind t), Value.int IntKind.i64 (WTruth.fetch t), Value.int IntKind.i64 (WTruth.tide t), Value.int IntKind.i64 (WTruth.loss t), topV 1 (slT (List.length (WTruth.drags t)) (rowL encI (WTruth.drags t)))] 38]
noncomputable def rLevel_t0 : List Item := ([.code [1, 1, 0, 1, 0, 0], .inLoop [1, 1, 0, 1, 0, 0], .inBlock 0, .code [1, 1, 1]]).map (it (bodyOf Try.prog 22))
def rLevel_h0 (B : Lo) (c0 : CF) (s : WShore) (t : WTruth) (w i : Int) : Prop := ∃ dJ : Nat → Value, (∀ t, Loose (dJ t)) ∧ GoE Try.prog B c0 H00 1 (headC 22 30 (([2, 3, 5, 6] : List Nat).zip (rLevel_v0 s t w i)) dJ rLevel_t0) (headH (rLevel_o0 s t w i)) (2 + (rLevel_o0 s t w i).length) []
set_option maxRecDepth 100000 in
theorem rLevel_s0 (B : Lo) (s : WShore) (t : WTruth) (w i : Int) (dJ0 : Nat → Value) : landM (srunT Try.prog (okFn Try.prog) J0 B 11 1 (headC 22 30 (([2, 3, 5, 6] : List Nat).zip (rLevel_v0 s t w i)) dJ0 rLevel_t0) (headH (rLevel_o0 s t w i)) (2 + (rLevel_o0 s t w i).length)
    [(3, hvT), (8, hvI (w * WTruth.loss t)), (9, hvI (Int.tdiv (w * WTruth.loss t) 1000)), (10, hvI (w - Int.tdiv (w * WTruth.loss t) 1000)), (13, hvI (i + 1))] 0 [] []) [2, 3, 5, 6] [(2, KS.auto), (3, KS.auto)] [] = some ⟨22, 30, rLevel_t0, [], .run, none, rLevel_v0 s t (w - Int.tdiv (w * WTruth.loss t) 1000) (i + 1), rLevel_o0 s t (w - Int.tdiv (w * WTruth.loss t) 1000) (i + 1),
    [wq (i + 1) = i + 1, wq (w - Int.tdiv (w * WTruth.loss t) 1000) = w - Int.tdiv (w * WTruth.loss t) 1000, IntKind.wrap IntKind.i64 (Int.tdiv (w * WTruth.loss t) 1000) = Int.tdiv (w * WTruth.loss t) 1000, wq (w * WTruth.loss t) = w * WTruth.loss t, ltq i (WShore.reef s) = true]⟩ := by kernel_rfl
set_option maxRecDepth 100000 in
theorem rLevel_s1 (B : Lo) (s : WShore) (t : WTruth) (w i : Int) (dJ0 : Nat → Value) : endT (srunT Try.prog (okFn Try.prog) J0 B 9 1 (headC 22 30 (([2, 3, 5, 6] : List Nat).zip (rLevel_v0 s t w i)) dJ0 rLevel_t0) (headH (rLevel_o0 s t w i)) (2 + (rLevel_o0 s t w i).length)
    [(3, hvF), (7, hvI (WTruth.tide t + w))] 0 [] []) [] = some (Value.int IntKind.i64 (WTruth.tide t + w),
    [wq (WTruth.tide t + w) = WTruth.tide t + w, ltq i (WShore.reef s) = false]) := by kernel_rfl
set_option maxRecDepth 100000 in
theorem rLevel_s2 (B : Lo) (s : WShore) (t : WTruth) : landM (srunT Try.prog (okFn Try.prog) J0 B 9 1 (entryC Try.prog 22 30 (([.agg (encShore s).toArray, .agg (encTruth t).toArray]).map (pushT 0 4))) H00 1
    [(7, hvI (WTruth.wind t * WTruth.fetch t)), (8, hvI (Int.tdiv (WTruth.wind t * WTruth.fetch t) 1000))] 0 [] []) [2, 3, 5, 6] [(1, KS.auto), (2, KS.auto)] [] = some ⟨22, 30, rLevel_t0, [], .run, none, rLevel_v0 s t (Int.tdiv (WTruth.wind t * WTruth.fetch t) 1000) (0), rLevel_o0 s t (Int.tdiv (WTruth.wind t * WTruth.fetch t) 1000) (0),
    [IntKind.wrap IntKind.i64 (Int.tdiv (WTruth.wind t * WTruth.fetch t) 1000) = Int.tdiv (WTruth.wind t * WTruth.fetch t) 1000, wq (WTruth.wind t * WTruth.fetch t) = WTruth.wind t * WTruth.fetch t]⟩ := by kernel_rfl
set_option maxHeartbeats 4000000 in
theorem rLevel_ls (s : WShore) (t : WTruth) (hr : 0 ≤ s.reef ∧ s.reef ≤ 20) (ht : tOk s t) {B : Lo} (hJ : ∀ w, B.has w → J0 w) {c0 : CF} : ∀ m : Nat, (∀ (w i : Int), (s.reef - i).toNat = m → ∀ (h0 : 0 ≤ i) (hw : 0 ≤ w ∧ w ≤ 10000), rLevel_h0 B c0 s t w i → EndsT Try.prog B c0 (.int .i64 (t.tide + waveN t.loss (s.reef - i).toNat w))) := by
  intro m0
  induction m0 using Nat.strongRecOn with
  | _ m0 ih0 =>
    intro w i hm0 h0 hw ⟨dJ0, hdJ0, hg0⟩
    have h0 := wave_0 ht
    have hm : t.wind * t.fetch = t.fetch * t.wind := Int.mul_comm _ _
    have hlt := ht.2.2.1
    have hll := ht.2.2.2.1
    have hq := wave_q hw ht.2.2.2.1
    have hlt := ht.2.2.1
    by_cases q0 : (i : Int) < (WShore.reef s)
    ·
      try have s2 := waveN_cons (l := t.loss) (w := w) q0
      try have s2 := waveN_nil (l := t.loss) (w := w) (r := s.reef) (i := i) (by omega)
      exact ((ih0 _ (by omega)) (w - Int.tdiv (w * WTruth.loss t) 1000) (i + 1) rfl (by first | with_reducible assumption | omega | (simp_all; done)) (by first | with_reducible assumption | omega | (simp_all; done))
        (hg0.landM okF hJ mixed_ok (rLevel_s0 B s t w i dJ0)
        ⟨(wq_in (by first | omega | (rw [hm]; omega)) (by first | omega | (rw [hm]; omega))), ⟨(wq_in (by first | omega | (rw [hm]; omega)) (by first | omega | (rw [hm]; omega))), ⟨(wrap_in (by first | omega | (rw [hm]; omega)) (by first | omega | (rw [hm]; omega))), ⟨(wq_in (by first | omega | (rw [hm]; omega)) (by first | omega | (rw [hm]; omega))), ⟨(ltq_t q0), trivial⟩⟩⟩⟩⟩ (by kernel_rfl) (by kernel_rfl))).cast (by first | rfl | (rw [s2]; done) | (rw [s2]; rfl))
    ·
      try have s2 := waveN_cons (l := t.loss) (w := w) q0
      try have s2 := waveN_nil (l := t.loss) (w := w) (r := s.reef) (i := i) (by omega)
      exact (GoE.endsT okF hJ mixed_ok hg0 (rLevel_s1 B s t w i dJ0)
        ⟨(wq_in (by first | omega | (rw [hm]; omega)) (by first | omega | (rw [hm]; omega))), ⟨(ltq_f (Int.not_lt.1 q0)), trivial⟩⟩).cast (by first | rfl | (rw [s2]; done) | (rw [s2]; rfl))
set_option maxHeartbeats 4000000 in
theorem rLevel_e (s : WShore) (t : WTruth) (hr : 0 ≤ s.reef ∧ s.reef ≤ 20) (ht : tOk s t) {B : Lo} (hJ : ∀ w, B.has w → J0 w) : EndsT Try.prog B (entryC Try.prog 22 30 (([.agg (encShore s).toArray, .agg (encTruth t).toArray]).map (pushT 0 4))) (.int .i64 (levelF s t)) := by
  have h0 := wave_0 ht
  have hm : t.wind * t.fetch = t.fetch * t.wind := Int.mul_comm _ _
  have hlt := ht.2.2.1
  have hll := ht.2.2.2.1
  exact ((rLevel_ls s t hr ht hJ _) (Int.tdiv (WTruth.wind t * WTruth.fetch t) 1000) (0) rfl (by first | with_reducible assumption | omega | (simp_all; done)) (by first | with_reducible assumption | omega | (simp_all; done))
    (GoE.start.landM okF hJ mixed_ok (rLevel_s2 B s t)
    ⟨(wrap_in (by first | omega | (rw [hm]; omega)) (by first | omega | (rw [hm]; omega))), ⟨(wq_in (by first | omega | (rw [hm]; omega)) (by first | omega | (rw [hm]; omega))), trivial⟩⟩ (by kernel_rfl) (by kernel_rfl))).cast (by first | rfl | (rw [hm]; rfl) | (rw [hm, Int.sub_zero]; rfl))
theorem rLevel (s : WShore) (t : WTruth) (hr : 0 ≤ s.reef ∧ s.reef ≤ 20) (ht : tOk s t) : PureC Try.prog J0 22 #[.agg (encShore s).toArray, .agg (encTruth t).toArray] (.int .i64 (levelF s t)) :=
  pureC_of (ts := [.agg (encShore s).toArray, .agg (encTruth t).toArray]) J0_st (c0 := entryC Try.prog 22 30 (([.agg (encShore s).toArray, .agg (encTruth t).toArray]).map (pushT 0 4))) (by kernel_rfl) (by kernel_rfl) fun B hJ => rLevel_e s t hr ht hJ
end Go.Proofs.Ytiigkdhaofaijaa

