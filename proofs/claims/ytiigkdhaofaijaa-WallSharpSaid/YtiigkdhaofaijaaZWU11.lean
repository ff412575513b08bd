/- Wall: the reference: what is as defined; ends; levels. -/
import Derived.Test.YtiigkdhaofaijaaZWU10
set_option linter.all false
namespace Go.Proofs.Ytiigkdhaofaijaa
open Go Go.CE Go.RowKit
set_option maxRecDepth 100000
def shoreT (s : WShore) : Bool := inB s.cells.length 1 7 && (decide (s.works.length ≤ 3) && (inB s.reef 0 20 && spanB s.llo s.lhi 0 1000))
theorem shoreR_eq {s : WShore} : (s.cells.all cellB && (s.works.all workB && shoreT s)) = shoreB s := by
 unfold shoreB shoreT cellsB worksB
 cases inB s.cells.length 1 7 <;> cases s.cells.all cellB <;> cases decide (s.works.length ≤ 3) <;> cases s.works.all workB <;> simp
def rShore0_v0 (s : WShore) (i : Int) : List Value := [pA 2 0, .int .i64 i]
def rShore0_o0 (s : WShore) (i : Int) : List Obj := [Obj.cells #[topV 1 (slT s.cells.length (rowL encWCell s.cells)), topV 1 (slT s.works.length (rowL encWWork s.works)), Value.int IntKind.i64 s.reef, Value.int IntKind.i64 s.llo, Value.int IntKind.i64 s.lhi] 27]
noncomputable def rShore0_t0 : List Item := ([.code [1, 0, 1, 0, 0], .inLoop [1, 0, 1, 0, 0], .inBlock 0, .code [1, 1]]).map (it (bodyOf Try.prog 19))
def rShore0_h0 (B : Lo) (c0 : CF) (s : WShore) (i : Int) : Prop := ∃ dJ : Nat → Value, (∀ t, Loose (dJ t)) ∧ GoE Try.prog B c0 H00 1 (headC 19 83 (([1, 3] : List Nat).zip (rShore0_v0 s i)) dJ rShore0_t0) (headH (rShore0_o0 s i)) (2 + (rShore0_o0 s i).length) []
def rShore0_v1 (s : WShore) (i : Int) : List Value := [pA 2 0, .int .i64 i]
def rShore0_o1 (s : WShore) (i : Int) : List Obj := [Obj.cells #[topV 1 (slT s.cells.length (rowL encWCell s.cells)), topV 1 (slT s.works.length (rowL encWWork s.works)), Value.int IntKind.i64 s.reef, Value.int IntKind.i64 s.llo, Value.int IntKind.i64 s.lhi] 27]
noncomputable def rShore0_t1 : List Item := ([.code [1, 1, 0, 1, 0, 0], .inLoop [1, 1, 0, 1, 0, 0], .inBlock 2, .code [1, 1, 1]]).map (it (bodyOf Try.prog 19))
def rShore0_h1 (B : Lo) (c0 : CF) (s : WShore) (i : Int) : Prop := ∃ dJ : Nat → Value, (∀ t, Loose (dJ t)) ∧ GoE Try.prog B c0 H00 1 (headC 19 83 (([1, 5] : List Nat).zip (rShore0_v1 s i)) dJ rShore0_t1) (headH (rShore0_o1 s i)) (2 + (rShore0_o1 s i).length) []
noncomputable def rShore0_p0 (B : Lo) (s : WShore) (i : Int) (dJ0 : Nat → Value) : List Prop := [i = (↑i.toNat : Int) ∧ Int.toNat i < List.length s.cells ∧ Array.extract (rowL encWCell s.cells) (Int.toNat i * TypeInfo.size Try.t59) (Int.toNat i * TypeInfo.size Try.t59 + TypeInfo.size Try.t59) = #[Value.int IntKind.i64 (WCell.ground (List.getD s.cells i.toNat default)), Value.int IntKind.i64 (WCell.dlo (List.getD s.cells i.toNat default)), Value.int IntKind.i64 (WCell.dhi (List.getD s.cells i.toNat default)), Value.int IntKind.i64 (WCell.floor (List.getD s.cells i.toNat default))], ltq i (↑s.cells.length : Int) = true] ++ ([] : List Prop)
noncomputable def rShore0_q0 (s : WShore) (i : Int) (dJ0 : Nat → Value) : ScriptT := [(4, hvT), (8, HintT.tidx i.toNat #[Value.int IntKind.i64 (WCell.ground (List.getD s.cells i.toNat default)), Value.int IntKind.i64 (WCell.dlo (List.getD s.cells i.toNat default)), Value.int IntKind.i64 (WCell.dhi (List.getD s.cells i.toNat default)), Value.int IntKind.i64 (WCell.floor (List.getD s.cells i.toNat default))])]
noncomputable def rShore0_p1 (B : Lo) (s : WShore) (i : Int) (dJ0 : Nat → Value) : List Prop := [AllP [] ∧ PureC Try.prog J0 56 #[Value.int IntKind.i64 (WCell.ground (List.getD s.cells i.toNat default)), Value.int IntKind.i64 (-5000), Value.int IntKind.i64 5000] (Value.bool true)] ++ rShore0_p0 B s i dJ0
noncomputable def rShore0_q1 (s : WShore) (i : Int) (dJ0 : Nat → Value) : ScriptT := rShore0_q0 s i dJ0 ++ [(14, HintT.pure (Value.bool true) [])]
noncomputable def rShore0_p2 (B : Lo) (s : WShore) (i : Int) (dJ0 : Nat → Value) : List Prop := [AllP [] ∧ PureC Try.prog J0 57 #[Value.agg #[Value.int IntKind.i64 (WCell.dlo (List.getD s.cells i.toNat default)), Value.int IntKind.i64 (WCell.dhi (List.getD s.cells i.toNat default))], Value.int IntKind.i64 0, Value.int IntKind.i64 5000] (Value.bool true)] ++ rShore0_p1 B s i dJ0
noncomputable def rShore0_q2 (s : WShore) (i : Int) (dJ0 : Nat → Value) : ScriptT := rShore0_q1 s i dJ0 ++ [(19, HintT.pure (Value.bool true) [])]
theorem rShore0_s0 (B : Lo) (s : WShore) (i : Int) (dJ0 : Nat → Value) : landM (srunT Try.prog (okFn Try.prog) J0 B 16 1 (headC 19 83 (([1, 3] : List Nat).zip (rShore0_v0 s i)) dJ0 rShore0_t0) (headH (rShore0_o0 s i)) (2 + (rShore0_o0 s i).length)
 (rShore0_q2 s i dJ0 ++ [(25, HintT.pure (Value.bool true) []), (29, hvI (i + 1))]) 0 [] []) [1, 3] [(2, KS.auto)] [] = some ⟨19, 83, rShore0_t0, [], .run, none, rShore0_v0 s (i + 1), rShore0_o0 s (i + 1),
 [wq (i + 1) = i + 1, AllP [] ∧ PureC Try.prog J0 56 #[Value.int IntKind.i64 (WCell.floor (List.getD s.cells i.toNat default)), Value.int IntKind.i64 (-1), Value.int IntKind.i64 5000] (Value.bool true)] ++ rShore0_p2 B s i dJ0⟩ := by kernel_rfl
theorem rShore0_s1 (B : Lo) (s : WShore) (i : Int) (dJ0 : Nat → Value) : endT (srunT Try.prog (okFn Try.prog) J0 B 16 1 (headC 19 83 (([1, 3] : List Nat).zip (rShore0_v0 s i)) dJ0 rShore0_t0) (headH (rShore0_o0 s i)) (2 + (rShore0_o0 s i).length)
 (rShore0_q2 s i dJ0 ++ [(25, HintT.pure (Value.bool false) [])]) 0 [] []) [] = some (Value.bool false,
 [AllP [] ∧ PureC Try.prog J0 56 #[Value.int IntKind.i64 (WCell.floor (List.getD s.cells i.toNat default)), Value.int IntKind.i64 (-1), Value.int IntKind.i64 5000] (Value.bool false)] ++ rShore0_p2 B s i dJ0) := by kernel_rfl
theorem rShore0_s2 (B : Lo) (s : WShore) (i : Int) (dJ0 : Nat → Value) : endT (srunT Try.prog (okFn Try.prog) J0 B 16 1 (headC 19 83 (([1, 3] : List Nat).zip (rShore0_v0 s i)) dJ0 rShore0_t0) (headH (rShore0_o0 s i)) (2 + (rShore0_o0 s i).length)
 (rShore0_q1 s i dJ0 ++ [(19, HintT.pure (Value.bool false) [])]) 0 [] []) [] = some (Value.bool false,
 [AllP [] ∧ PureC Try.prog J0 57 #[Value.agg #[Value.int IntKind.i64 (WCell.dlo (List.getD s.cells i.toNat default)), Value.int IntKind.i64 (WCell.dhi (List.getD s.cells i.toNat default))], Value.int IntKind.i64 0, Value.int IntKind.i64 5000] (Value.bool false)] ++ rShore0_p1 B s i dJ0) := by kernel_rfl
theorem rShore0_s3 (B : Lo) (s : WShore) (i : Int) (dJ0 : Nat → Value) : endT (srunT Try.prog (okFn Try.prog) J0 B 16 1 (headC 19 83 (([1, 3] : List Nat).zip (rShore0_v0 s i)) dJ0 rShore0_t0) (headH (rShore0_o0 s i)) (2 + (rShore0_o0 s i).length)
 (rShore0_q0 s i dJ0 ++ [(14, HintT.pure (Value.bool false) [])]) 0 [] []) [] = some (Value.bool false,
 [AllP [] ∧ PureC Try.prog J0 56 #[Value.int IntKind.i64 (WCell.ground (List.getD s.cells i.toNat default)), Value.int IntKind.i64 (-5000), Value.int IntKind.i64 5000] (Value.bool false)] ++ rShore0_p0 B s i dJ0) := by kernel_rfl
theorem rShore0_s4 (B : Lo) (s : WShore) (i : Int) (dJ0 : Nat → Value) : landM (srunT Try.prog (okFn Try.prog) J0 B 10 1 (headC 19 83 (([1, 3] : List Nat).zip (rShore0_v0 s i)) dJ0 rShore0_t0) (headH (rShore0_o0 s i)) (2 + (rShore0_o0 s i).length)
 [(4, hvF)] 0 [] []) [1, 5] [(2, KS.auto)] [] = some ⟨19, 83, rShore0_t1, [], .run, none, rShore0_v1 s (0), rShore0_o1 s (0),
 [ltq i (↑s.cells.length : Int) = false]⟩ := by kernel_rfl
noncomputable def rShore0_p3 (B : Lo) (s : WShore) (i : Int) (dJ0 : Nat → Value) : List Prop := [i = (↑i.toNat : Int) ∧ Int.toNat i < List.length s.works ∧ Array.extract (rowL encWWork s.works) (Int.toNat i * TypeInfo.size Try.t85) (Int.toNat i * TypeInfo.size Try.t85 + TypeInfo.size Try.t85) = #[Value.int IntKind.i64 (WWork.rise (List.getD s.works i.toNat default)), Value.int IntKind.i64 (WWork.calm (List.getD s.works i.toNat default)), Value.int IntKind.i64 (WWork.cost (List.getD s.works i.toNat default))], ltq i (↑s.works.length : Int) = true] ++ ([] : List Prop)
noncomputable def rShore0_q3 (s : WShore) (i : Int) (dJ0 : Nat → Value) : ScriptT := [(4, hvT), (8, HintT.tidx i.toNat #[Value.int IntKind.i64 (WWork.rise (List.getD s.works i.toNat default)), Value.int IntKind.i64 (WWork.calm (List.getD s.works i.toNat default)), Value.int IntKind.i64 (WWork.cost (List.getD s.works i.toNat default))])]
noncomputable def rShore0_p4 (B : Lo) (s : WShore) (i : Int) (dJ0 : Nat → Value) : List Prop := [AllP [] ∧ PureC Try.prog J0 56 #[Value.int IntKind.i64 (WWork.rise (List.getD s.works i.toNat default)), Value.int IntKind.i64 0, Value.int IntKind.i64 5000] (Value.bool true)] ++ rShore0_p3 B s i dJ0
noncomputable def rShore0_q4 (s : WShore) (i : Int) (dJ0 : Nat → Value) : ScriptT := rShore0_q3 s i dJ0 ++ [(14, HintT.pure (Value.bool true) [])]
noncomputable def rShore0_p5 (B : Lo) (s : WShore) (i : Int) (dJ0 : Nat → Value) : List Prop := [AllP [] ∧ PureC Try.prog J0 56 #[Value.int IntKind.i64 (WWork.calm (List.getD s.works i.toNat default)), Value.int IntKind.i64 0, Value.int IntKind.i64 5000] (Value.bool true)] ++ rShore0_p4 B s i dJ0
noncomputable def rShore0_q5 (s : WShore) (i : Int) (dJ0 : Nat → Value) : ScriptT := rShore0_q4 s i dJ0 ++ [(19, HintT.pure (Value.bool true) [])]
theorem rShore0_s5 (B : Lo) (s : WShore) (i : Int) (dJ0 : Nat → Value) : landM (srunT Try.prog (okFn Try.prog) J0 B 16 1 (headC 19 83 (([1, 5] : List Nat).zip (rShore0_v1 s i)) dJ0 rShore0_t1) (headH (rShore0_o1 s i)) (2 + (rShore0_o1 s i).length)
 (rShore0_q5 s i dJ0 ++ [(25, HintT.pure (Value.bool true) []), (29, hvI (i + 1))]) 0 [] []) [1, 5] [(2, KS.auto)] [] = some ⟨19, 83, rShore0_t1, [], .run, none, rShore0_v1 s (i + 1), rShore0_o1 s (i + 1),
 [wq (i + 1) = i + 1, AllP [] ∧ PureC Try.prog J0 56 #[Value.int IntKind.i64 (WWork.cost (List.getD s.works i.toNat default)), Value.int IntKind.i64 0, Value.int IntKind.i64 1000000] (Value.bool true)] ++ rShore0_p5 B s i dJ0⟩ := by kernel_rfl
theorem rShore0_s6 (B : Lo) (s : WShore) (i : Int) (dJ0 : Nat → Value) : endT (srunT Try.prog (okFn Try.prog) J0 B 16 1 (headC 19 83 (([1, 5] : List Nat).zip (rShore0_v1 s i)) dJ0 rShore0_t1) (headH (rShore0_o1 s i)) (2 + (rShore0_o1 s i).length)
 (rShore0_q5 s i dJ0 ++ [(25, HintT.pure (Value.bool false) [])]) 0 [] []) [] = some (Value.bool false,
 [AllP [] ∧ PureC Try.prog J0 56 #[Value.int IntKind.i64 (WWork.cost (List.getD s.works i.toNat default)), Value.int IntKind.i64 0, Value.int IntKind.i64 1000000] (Value.bool false)] ++ rShore0_p5 B s i dJ0) := by kernel_rfl
theorem rShore0_s7 (B : Lo) (s : WShore) (i : Int) (dJ0 : Nat → Value) : endT (srunT Try.prog (okFn Try.prog) J0 B 16 1 (headC 19 83 (([1, 5] : List Nat).zip (rShore0_v1 s i)) dJ0 rShore0_t1) (headH (rShore0_o1 s i)) (2 + (rShore0_o1 s i).length)
 (rShore0_q4 s i dJ0 ++ [(19, HintT.pure (Value.bool false) [])]) 0 [] []) [] = some (Value.bool false,
 [AllP [] ∧ PureC Try.prog J0 56 #[Value.int IntKind.i64 (WWork.calm (List.getD s.works i.toNat default)), Value.int IntKind.i64 0, Value.int IntKind.i64 5000] (Value.bool false)] ++ rShore0_p4 B s i dJ0) := by kernel_rfl
theorem rShore0_s8 (B : Lo) (s : WShore) (i : Int) (dJ0 : Nat → Value) : endT (srunT Try.prog (okFn Try.prog) J0 B 16 1 (headC 19 83 (([1, 5] : List Nat).zip (rShore0_v1 s i)) dJ0 rShore0_t1) (headH (rShore0_o1 s i)) (2 + (rShore0_o1 s i).length)
 (rShore0_q3 s i dJ0 ++ [(14, HintT.pure (Value.bool false) [])]) 0 [] []) [] = some (Value.bool false,
 [AllP [] ∧ PureC Try.prog J0 56 #[Value.int IntKind.i64 (WWork.rise (List.getD s.works i.toNat default)), Value.int IntKind.i64 0, Value.int IntKind.i64 5000] (Value.bool false)] ++ rShore0_p3 B s i dJ0) := by kernel_rfl
noncomputable def rShore0_p6 (B : Lo) (s : WShore) (i : Int) (dJ0 : Nat → Value) : List Prop := [ltq i (↑s.works.length : Int) = false] ++ ([] : List Prop)
noncomputable def rShore0_q6 (s : WShore) (i : Int) (dJ0 : Nat → Value) : ScriptT := [(4, hvF)]
noncomputable def rShore0_p7 (B : Lo) (s : WShore) (i : Int) (dJ0 : Nat → Value) : List Prop := [AllP [] ∧ PureC Try.prog J0 56 #[Value.int IntKind.i64 (↑s.cells.length : Int), Value.int IntKind.i64 1, Value.int IntKind.i64 7] (Value.bool true)] ++ rShore0_p6 B s i dJ0
noncomputable def rShore0_q7 (s : WShore) (i : Int) (dJ0 : Nat → Value) : ScriptT := rShore0_q6 s i dJ0 ++ [(8, HintT.pure (Value.bool true) [])]
noncomputable def rShore0_p8 (B : Lo) (s : WShore) (i : Int) (dJ0 : Nat → Value) : List Prop := [(!ltq 3 (↑s.works.length : Int)) = true] ++ rShore0_p7 B s i dJ0
noncomputable def rShore0_q8 (s : WShore) (i : Int) (dJ0 : Nat → Value) : ScriptT := rShore0_q7 s i dJ0 ++ [(13, hvT)]
noncomputable def rShore0_p9 (B : Lo) (s : WShore) (i : Int) (dJ0 : Nat → Value) : List Prop := [AllP [] ∧ PureC Try.prog J0 56 #[Value.int IntKind.i64 s.reef, Value.int IntKind.i64 0, Value.int IntKind.i64 20] (Value.bool true)] ++ rShore0_p8 B s i dJ0
noncomputable def rShore0_q9 (s : WShore) (i : Int) (dJ0 : Nat → Value) : ScriptT := rShore0_q8 s i dJ0 ++ [(18, HintT.pure (Value.bool true) [])]
theorem rShore0_s9 (B : Lo) (s : WShore) (i : Int) (dJ0 : Nat → Value) : endT (srunT Try.prog (okFn Try.prog) J0 B 9 1 (headC 19 83 (([1, 5] : List Nat).zip (rShore0_v1 s i)) dJ0 rShore0_t1) (headH (rShore0_o1 s i)) (2 + (rShore0_o1 s i).length)
 (rShore0_q9 s i dJ0 ++ [(23, HintT.pure (Value.bool true) [])]) 0 [] []) [] = some (Value.bool true,
 [AllP [] ∧ PureC Try.prog J0 57 #[Value.agg #[Value.int IntKind.i64 s.llo, Value.int IntKind.i64 s.lhi], Value.int IntKind.i64 0, Value.int IntKind.i64 1000] (Value.bool true)] ++ rShore0_p9 B s i dJ0) := by kernel_rfl
theorem rShore0_s10 (B : Lo) (s : WShore) (i : Int) (dJ0 : Nat → Value) : endT (srunT Try.prog (okFn Try.prog) J0 B 9 1 (headC 19 83 (([1, 5] : List Nat).zip (rShore0_v1 s i)) dJ0 rShore0_t1) (headH (rShore0_o1 s i)) (2 + (rShore0_o1 s i).length)
 (rShore0_q9 s i dJ0 ++ [(23, HintT.pure (Value.bool false) [])]) 0 [] []) [] = some (Value.bool false,
 [AllP [] ∧ PureC Try.prog J0 57 #[Value.agg #[Value.int IntKind.i64 s.llo, Value.int IntKind.i64 s.lhi], Value.int IntKind.i64 0, Value.int IntKind.i64 1000] (Value.bool false)] ++ rShore0_p9 B s i dJ0) := by kernel_rfl
theorem rShore0_s11 (B : Lo) (s : WShore) (i : Int) (dJ0 : Nat → Value) : endT (srunT Try.prog (okFn Try.prog) J0 B 9 1 (headC 19 83 (([1, 5] : List Nat).zip (rShore0_v1 s i)) dJ0 rShore0_t1) (headH (rShore0_o1 s i)) (2 + (rShore0_o1 s i).length)
 (rShore0_q8 s i dJ0 ++ [(18, HintT.pure (Value.bool false) [])]) 0 [] []) [] = some (Value.bool false,
 [AllP [] ∧ PureC Try.prog J0 56 #[Value.int IntKind.i64 s.reef, Value.int IntKind.i64 0, Value.int IntKind.i64 20] (Value.bool false)] ++ rShore0_p8 B s i dJ0) := by kernel_rfl
theorem rShore0_s12 (B : Lo) (s : WShore) (i : Int) (dJ0 : Nat → Value) : endT (srunT Try.prog (okFn Try.prog) J0 B 9 1 (headC 19 83 (([1, 5] : List Nat).zip (rShore0_v1 s i)) dJ0 rShore0_t1) (headH (rShore0_o1 s i)) (2 + (rShore0_o1 s i).length)
 (rShore0_q7 s i dJ0 ++ [(13, hvF)]) 0 [] []) [] = some (Value.bool false,
 [(!ltq 3 (↑s.works.length : Int)) = false] ++ rShore0_p7 B s i dJ0) := by kernel_rfl
theorem rShore0_s13 (B : Lo) (s : WShore) (i : Int) (dJ0 : Nat → Value) : endT (srunT Try.prog (okFn Try.prog) J0 B 9 1 (headC 19 83 (([1, 5] : List Nat).zip (rShore0_v1 s i)) dJ0 rShore0_t1) (headH (rShore0_o1 s i)) (2 + (rShore0_o1 s i).length)
 (rShore0_q6 s i dJ0 ++ [(8, HintT.pure (Value.bool false) [])]) 0 [] []) [] = some (Value.bool false,
 [AllP [] ∧ PureC Try.prog J0 56 #[Value.int IntKind.i64 (↑s.cells.length : Int), Value.int IntKind.i64 1, Value.int IntKind.i64 7] (Value.bool false)] ++ rShore0_p6 B s i dJ0) := by kernel_rfl
theorem rShore0_s14 (B : Lo) (s : WShore) : landM (srunT Try.prog (okFn Try.prog) J0 B 7 1 (entryC Try.prog 19 83 (([.agg (encShore s).toArray]).map (pushT 0 4))) H00 1
 [] 0 [] []) [1, 3] [(1, KS.auto)] [] = some ⟨19, 83, rShore0_t0, [], .run, none, rShore0_v0 s (0), rShore0_o0 s (0),
 []⟩ := by kernel_rfl
set_option maxHeartbeats 4000000 in
theorem rShore0_ls (s : WShore)  (hfacts : s.cells.length ≤ 9223372036854775807 ∧ s.works.length ≤ 9223372036854775807) {B : Lo} (hJ : ∀ w, B.has w → J0 w) {c0 : CF} : ∀ m : Nat, (∀ (i : Int), (s.cells.length - i.toNat) + s.works.length + 9 = m → ∀ (h0 : 0 ≤ i), rShore0_h0 B c0 s i → EndsT Try.prog B c0 (.bool ((s.cells.drop i.toNat).all cellB && (s.works.all workB && shoreT s)))) ∧ (∀ (i : Int), (s.works.length - i.toNat) + 1 = m → ∀ (h0 : 0 ≤ i), rShore0_h1 B c0 s i → EndsT Try.prog B c0 (.bool ((s.works.drop i.toNat).all workB && shoreT s))) := by
 intro m0
 induction m0 using Nat.strongRecOn with
 | _ m0 ih0 =>
   refine ⟨?_, ?_⟩
   ·intro i hm0 h0 ⟨dJ0, hdJ0, hg0⟩
    by_cases q0 : (i : Int) < ((↑s.cells.length : Int))
    ·
     have hp0 : AllP (rShore0_p0 B s i dJ0) := by
      have s2 := drop_all2 (l := s.cells) (p := cellB) h0 q0
      exact ⟨⟨by omega, by omega, (rowL_extract (z := 4) (fun _ => rfl) (by omega))⟩, ⟨(ltq_t q0), trivial⟩⟩
     cases q1 : inB (WCell.ground (List.getD s.cells i.toNat default)) (-5000) 5000 with
     | true =>
       have hp1 : AllP (rShore0_p1 B s i dJ0) := by
        have s2 := drop_all2 (l := s.cells) (p := cellB) h0 q0
        exact ⟨⟨trivial, (by have t_ := rin (WCell.ground (List.getD s.cells i.toNat default)) (-5000) (5000); rw [q1] at t_; exact t_)⟩, hp0⟩
       cases q2 : spanB (WCell.dlo (List.getD s.cells i.toNat default)) (WCell.dhi (List.getD s.cells i.toNat default)) 0 5000 with
       | true =>
         have hp2 : AllP (rShore0_p2 B s i dJ0) := by
          have s2 := drop_all2 (l := s.cells) (p := cellB) h0 q0
          exact ⟨⟨trivial, (by have t_ := rSpan (WCell.dlo (List.getD s.cells i.toNat default)) (WCell.dhi (List.getD s.cells i.toNat default)) (0) (5000); rw [q2] at t_; exact t_)⟩, hp1⟩
         cases q3 : inB (WCell.floor (List.getD s.cells i.toNat default)) (-1) 5000 with
         | true =>
           have s2 := drop_all2 (l := s.cells) (p := cellB) h0 q0
           exact ((ih0 _ (by omega)).1 (i + 1) rfl (by omega)
            (hg0.landM okF hJ mixed_ok (rShore0_s0 B s i dJ0)
            ⟨(wq_in (by omega) (by omega)), ⟨⟨trivial, (by have t_ := rin (WCell.floor (List.getD s.cells i.toNat default)) (-1) (5000); rw [q3] at t_; exact t_)⟩, hp2⟩⟩ (by kernel_rfl) (by kernel_rfl))).cast (by (rw [s2]; simp_all [cellB]; done))
         | false =>
           have s2 := drop_all2 (l := s.cells) (p := cellB) h0 q0
           exact (GoE.endsT okF hJ mixed_ok hg0 (rShore0_s1 B s i dJ0)
            ⟨⟨trivial, (by have t_ := rin (WCell.floor (List.getD s.cells i.toNat default)) (-1) (5000); rw [q3] at t_; exact t_)⟩, hp2⟩).cast (by (rw [s2]; simp_all [cellB]; done))
       | false =>
         have s2 := drop_all2 (l := s.cells) (p := cellB) h0 q0
         exact (GoE.endsT okF hJ mixed_ok hg0 (rShore0_s2 B s i dJ0)
          ⟨⟨trivial, (by have t_ := rSpan (WCell.dlo (List.getD s.cells i.toNat default)) (WCell.dhi (List.getD s.cells i.toNat default)) (0) (5000); rw [q2] at t_; exact t_)⟩, hp1⟩).cast (by (rw [s2]; simp_all [cellB]; done))
     | false =>
       have s2 := drop_all2 (l := s.cells) (p := cellB) h0 q0
       exact (GoE.endsT okF hJ mixed_ok hg0 (rShore0_s3 B s i dJ0)
        ⟨⟨trivial, (by have t_ := rin (WCell.ground (List.getD s.cells i.toNat default)) (-5000) (5000); rw [q1] at t_; exact t_)⟩, hp0⟩).cast (by (rw [s2]; simp_all [cellB]; done))
    ·
     have s2 := drop_nil2 (l := s.cells) (p := cellB) (i := i) (by omega)
     exact ((ih0 _ (by omega)).2 (0) rfl (by omega)
      (hg0.landM okF hJ mixed_ok (rShore0_s4 B s i dJ0)
      ⟨(ltq_f (Int.not_lt.1 q0)), trivial⟩ (by kernel_rfl) (by kernel_rfl))).cast (by (rw [s2]; simp [cellB, *]; done))
   ·intro i hm0 h0 ⟨dJ0, hdJ0, hg0⟩
    by_cases q0 : (i : Int) < ((↑s.works.length : Int))
    ·
     have hp3 : AllP (rShore0_p3 B s i dJ0) := by
      have s2 := drop_all2 (l := s.works) (p := workB) h0 q0
      exact ⟨⟨by omega, by omega, (rowL_extract (z := 3) (fun _ => rfl) (by omega))⟩, ⟨(ltq_t q0), trivial⟩⟩
     cases q1 : inB (WWork.rise (List.getD s.works i.toNat default)) 0 5000 with
     | true =>
       have hp4 : AllP (rShore0_p4 B s i dJ0) := by
        have s2 := drop_all2 (l := s.works) (p := workB) h0 q0
        exact ⟨⟨trivial, (by have t_ := rin (WWork.rise (List.getD s.works i.toNat default)) (0) (5000); rw [q1] at t_; exact t_)⟩, hp3⟩
       cases q2 : inB (WWork.calm (List.getD s.works i.toNat default)) 0 5000 with
       | true =>
         have hp5 : AllP (rShore0_p5 B s i dJ0) := by
          have s2 := drop_all2 (l := s.works) (p := workB) h0 q0
          exact ⟨⟨trivial, (by have t_ := rin (WWork.calm (List.getD s.works i.toNat default)) (0) (5000); rw [q2] at t_; exact t_)⟩, hp4⟩
         cases q3 : inB (WWork.cost (List.getD s.works i.toNat default)) 0 1000000 with
         | true =>
           have s2 := drop_all2 (l := s.works) (p := workB) h0 q0
           exact ((ih0 _ (by omega)).2 (i + 1) rfl (by omega)
            (hg0.landM okF hJ mixed_ok (rShore0_s5 B s i dJ0)
            ⟨(wq_in (by omega) (by omega)), ⟨⟨trivial, (by have t_ := rin (WWork.cost (List.getD s.works i.toNat default)) (0) (1000000); rw [q3] at t_; exact t_)⟩, hp5⟩⟩ (by kernel_rfl) (by kernel_rfl))).cast (by (rw [s2]; simp_all [workB]; done))
         | false =>
           have s2 := drop_all2 (l := s.works) (p := workB) h0 q0
           exact (GoE.endsT okF hJ mixed_ok hg0 (rShore0_s6 B s i dJ0)
            ⟨⟨trivial, (by have t_ := rin (WWork.cost (List.getD s.works i.toNat default)) (0) (1000000); rw [q3] at t_; exact t_)⟩, hp5⟩).cast (by (rw [s2]; simp_all [workB]; done))
       | false =>
         have s2 := drop_all2 (l := s.works) (p := workB) h0 q0
         exact (GoE.endsT okF hJ mixed_ok hg0 (rShore0_s7 B s i dJ0)
          ⟨⟨trivial, (by have t_ := rin (WWork.calm (List.getD s.works i.toNat default)) (0) (5000); rw [q2] at t_; exact t_)⟩, hp4⟩).cast (by (rw [s2]; simp_all [workB]; done))
     | false =>
       have s2 := drop_all2 (l := s.works) (p := workB) h0 q0
       exact (GoE.endsT okF hJ mixed_ok hg0 (rShore0_s8 B s i dJ0)
        ⟨⟨trivial, (by have t_ := rin (WWork.rise (List.getD s.works i.toNat default)) (0) (5000); rw [q1] at t_; exact t_)⟩, hp3⟩).cast (by (rw [s2]; simp_all [workB]; done))
    ·
     have hp6 : AllP (rShore0_p6 B s i dJ0) := by
      exact ⟨(ltq_f (Int.not_lt.1 q0)), trivial⟩
     cases q1 : inB (↑s.cells.length : Int) 1 7 with
     | true =>
       have hp7 : AllP (rShore0_p7 B s i dJ0) := by
        have s2 := drop_nil2 (l := s.works) (p := workB) (i := i) (by omega)
        exact ⟨⟨trivial, (by have t_ := rin ((↑s.cells.length : Int)) (1) (7); rw [q1] at t_; exact t_)⟩, hp6⟩
       by_cases q2 : ((↑s.works.length : Int) : Int) ≤ (3)
       ·
        have hp8 : AllP (rShore0_p8 B s i dJ0) := by
         exact ⟨(nltq_t q2), hp7⟩
        cases q3 : inB s.reef 0 20 with
        | true =>
          have hp9 : AllP (rShore0_p9 B s i dJ0) := by
           have s2 := drop_nil2 (l := s.works) (p := workB) (i := i) (by omega)
           exact ⟨⟨trivial, (by have t_ := rin s.reef (0) (20); rw [q3] at t_; exact t_)⟩, hp8⟩
          cases q4 : spanB s.llo s.lhi 0 1000 with
          | true =>
            have s2 := drop_nil2 (l := s.works) (p := workB) (i := i) (by omega)
            exact (GoE.endsT okF hJ mixed_ok hg0 (rShore0_s9 B s i dJ0)
             ⟨⟨trivial, (by have t_ := rSpan s.llo s.lhi (0) (1000); rw [q4] at t_; exact t_)⟩, hp9⟩).cast (by (rw [s2]; simp_all [shoreT]; omega))
          | false =>
            have s2 := drop_nil2 (l := s.works) (p := workB) (i := i) (by omega)
            exact (GoE.endsT okF hJ mixed_ok hg0 (rShore0_s10 B s i dJ0)
             ⟨⟨trivial, (by have t_ := rSpan s.llo s.lhi (0) (1000); rw [q4] at t_; exact t_)⟩, hp9⟩).cast (by (rw [s2]; simp [shoreT, *]; done))
        | false =>
          have s2 := drop_nil2 (l := s.works) (p := workB) (i := i) (by omega)
          exact (GoE.endsT okF hJ mixed_ok hg0 (rShore0_s11 B s i dJ0)
           ⟨⟨trivial, (by have t_ := rin s.reef (0) (20); rw [q3] at t_; exact t_)⟩, hp8⟩).cast (by (rw [s2]; simp [shoreT, *]; done))
       ·
        have s2 := drop_nil2 (l := s.works) (p := workB) (i := i) (by omega)
        exact (GoE.endsT okF hJ mixed_ok hg0 (rShore0_s12 B s i dJ0)
         ⟨(nltq_f (Int.not_le.1 q2)), hp7⟩).cast (by (rw [s2]; simp_all [shoreT]; omega))
     | false =>
       have s2 := drop_nil2 (l := s.works) (p := workB) (i := i) (by omega)
       exact (GoE.endsT okF hJ mixed_ok hg0 (rShore0_s13 B s i dJ0)
        ⟨⟨trivial, (by have t_ := rin ((↑s.cells.length : Int)) (1) (7); rw [q1] at t_; exact t_)⟩, hp6⟩).cast (by (rw [s2]; simp [shoreT, *]; done))
set_option maxHeartbeats 4000000 in
theorem rShore0_e (s : WShore)  (hfacts : s.cells.length ≤ 9223372036854775807 ∧ s.works.length ≤ 9223372036854775807) {B : Lo} (hJ : ∀ w, B.has w → J0 w) : EndsT Try.prog B (entryC Try.prog 19 83 (([.agg (encShore s).toArray]).map (pushT 0 4))) (.bool (s.cells.all cellB && (s.works.all workB && shoreT s))) := by
 exact ((rShore0_ls s hfacts hJ _).1 (0) rfl (by omega)
  (GoE.start.landM okF hJ mixed_ok (rShore0_s14 B s)
  trivial (by kernel_rfl) (by kernel_rfl))).cast (by rfl)
theorem rShore0 (s : WShore)  : PureC Try.prog J0 19 #[.agg (encShore s).toArray] (.bool (s.cells.all cellB && (s.works.all workB && shoreT s))) :=
 pureC_ofF (ts := [.agg (encShore s).toArray]) (s.cells.length ≤ 9223372036854775807 ∧ s.works.length ≤ 9223372036854775807) (fun _ _ ht => ⟨ht.ln2 (i := 0) (j := 0) rfl rfl, ht.ln2 (i := 0) (j := 1) rfl rfl⟩) J0_st (c0 := entryC Try.prog 19 83 (([.agg (encShore s).toArray]).map (pushT 0 4))) (by kernel_rfl) (by kernel_rfl) fun hfacts B hJ => rShore0_e s  hfacts hJ
theorem rShore (s : WShore) : PureC Try.prog J0 19 #[.agg (encShore s).toArray] (.bool (shoreB s)) := by
 have h := rShore0 s; rw [shoreR_eq] at h; exact h
noncomputable def rStorm_p0 (B : Lo) (c : WStorm) : List Prop := [AllP [] ∧ PureC Try.prog J0 57 #[Value.agg #[Value.int IntKind.i64 c.wlo, Value.int IntKind.i64 c.whi], Value.int IntKind.i64 0, Value.int IntKind.i64 1000] (Value.bool true)] ++ ([] : List Prop)
noncomputable def rStorm_q0 (c : WStorm) : ScriptT := [(4, HintT.pure (Value.bool true) [])]
noncomputable def rStorm_p1 (B : Lo) (c : WStorm) : List Prop := [AllP [] ∧ PureC Try.prog J0 57 #[Value.agg #[Value.int IntKind.i64 c.flo, Value.int IntKind.i64 c.fhi], Value.int IntKind.i64 0, Value.int IntKind.i64 10000] (Value.bool true)] ++ rStorm_p0 B c
noncomputable def rStorm_q1 (c : WStorm) : ScriptT := rStorm_q0 c ++ [(8, HintT.pure (Value.bool true) [])]
theorem rStorm_s0 (B : Lo) (c : WStorm) : endT (srunT Try.prog (okFn Try.prog) J0 B 6 1 (entryC Try.prog 20 16 (([.agg (encStorm c).toArray]).map (pushT 0 4))) H00 1
 (rStorm_q1 c ++ [(13, HintT.pure (Value.bool true) [])]) 0 [] []) [] = some (Value.bool true,
 [AllP [] ∧ PureC Try.prog J0 57 #[Value.agg #[Value.int IntKind.i64 c.tlo, Value.int IntKind.i64 c.thi], Value.int IntKind.i64 (-5000), Value.int IntKind.i64 5000] (Value.bool true)] ++ rStorm_p1 B c) := by kernel_rfl
theorem rStorm_s1 (B : Lo) (c : WStorm) : endT (srunT Try.prog (okFn Try.prog) J0 B 6 1 (entryC Try.prog 20 16 (([.agg (encStorm c).toArray]).map (pushT 0 4))) H00 1
 (rStorm_q1 c ++ [(13, HintT.pure (Value.bool false) [])]) 0 [] []) [] = some (Value.bool false,
 [AllP [] ∧ PureC Try.prog J0 57 #[Value.agg #[Value.int IntKind.i64 c.tlo, Value.int IntKind.i64 c.thi], Value.int IntKind.i64 (-5000), Value.int IntKind.i64 5000] (Value.bool false)] ++ rStorm_p1 B c) := by kernel_rfl
theorem rStorm_s2 (B : Lo) (c : WStorm) : endT (srunT Try.prog (okFn Try.prog) J0 B 6 1 (entryC Try.prog 20 16 (([.agg (encStorm c).toArray]).map (pushT 0 4))) H00 1
 (rStorm_q0 c ++ [(8, HintT.pure (Value.bool false) [])]) 0 [] []) [] = some (Value.bool false,
 [AllP [] ∧ PureC Try.prog J0 57 #[Value.agg #[Value.int IntKind.i64 c.flo, Value.int IntKind.i64 c.fhi], Value.int IntKind.i64 0, Value.int IntKind.i64 10000] (Value.bool false)] ++ rStorm_p0 B c) := by kernel_rfl
theorem rStorm_s3 (B : Lo) (c : WStorm) : endT (srunT Try.prog (okFn Try.prog) J0 B 6 1 (entryC Try.prog 20 16 (([.agg (encStorm c).toArray]).map (pushT 0 4))) H00 1
 [(4, HintT.pure (Value.bool false) [])] 0 [] []) [] = some (Value.bool false,
 [AllP [] ∧ PureC Try.prog J0 57 #[Value.agg #[Value.int IntKind.i64 c.wlo, Value.int IntKind.i64 c.whi], Value.int IntKind.i64 0, Value.int IntKind.i64 1000] (Value.bool false)]) := by kernel_rfl
set_option maxHeartbeats 4000000 in
theorem rStorm_e (c : WStorm)  {B : Lo} (hJ : ∀ w, B.has w → J0 w) : EndsT Try.prog B (entryC Try.prog 20 16 (([.agg (encStorm c).toArray]).map (pushT 0 4))) (.bool (stormB c)) := by
 cases q0 : spanB c.wlo c.whi 0 1000 with
 | true =>
   have hp0 : AllP (rStorm_p0 B c) := by
    exact ⟨⟨trivial, (by have t_ := rSpan c.wlo c.whi (0) (1000); rw [q0] at t_; exact t_)⟩, trivial⟩
   cases q1 : spanB c.flo c.fhi 0 10000 with
   | true =>
     have hp1 : AllP (rStorm_p1 B c) := by
      exact ⟨⟨trivial, (by have t_ := rSpan c.flo c.fhi (0) (10000); rw [q1] at t_; exact t_)⟩, hp0⟩
     cases q2 : spanB c.tlo c.thi (-5000) 5000 with
     | true =>
       exact (GoE.endsT okF hJ mixed_ok GoE.start (rStorm_s0 B c)
        ⟨⟨trivial, (by have t_ := rSpan c.tlo c.thi (-5000) (5000); rw [q2] at t_; exact t_)⟩, hp1⟩).cast (by (simp [stormB, *]; done))
     | false =>
       exact (GoE.endsT okF hJ mixed_ok GoE.start (rStorm_s1 B c)
        ⟨⟨trivial, (by have t_ := rSpan c.tlo c.thi (-5000) (5000); rw [q2] at t_; exact t_)⟩, hp1⟩).cast (by (simp [stormB, *]; done))
   | false =>
     exact (GoE.endsT okF hJ mixed_ok GoE.start (rStorm_s2 B c)
      ⟨⟨trivial, (by have t_ := rSpan c.flo c.fhi (0) (10000); rw [q1] at t_; exact t_)⟩, hp0⟩).cast (by (simp [stormB, *]; done))
 | false =>
   exact (GoE.endsT okF hJ mixed_ok GoE.start (rStorm_s3 B c)
    ⟨⟨trivial, (by have t_ := rSpan c.wlo c.whi (0) (1000); rw [q0] at t_; exact t_)⟩, trivial⟩).cast (by (simp [stormB, *]; done))
theorem rStorm (c : WStorm)  : PureC Try.prog J0 20 #[.agg (encStorm c).toArray] (.bool (stormB c)) :=
 pureC_of (ts := [.agg (encStorm c).toArray]) J0_st (c0 := entryC Try.prog 20 16 (([.agg (encStorm c).toArray]).map (pushT 0 4))) (by kernel_rfl) (by kernel_rfl) fun B hJ => rStorm_e c  hJ
def rPlan0_v0 (s : WShore) (plan : List Int) (i : Int) : List Value := [topV 1 (slT plan.length (rowL encI plan)), pA 2 0, .int .i64 i]
def rPlan0_o0 (s : WShore) (plan : List Int) (i : Int) : List Obj := [Obj.cells #[topV 1 (slT s.cells.length (rowL encWCell s.cells)), topV 1 (slT s.works.length (rowL encWWork s.works)), Value.int IntKind.i64 s.reef, Value.int IntKind.i64 s.llo, Value.int IntKind.i64 s.lhi] 27]
noncomputable def rPlan0_t0 : List Item := ([.code [1, 0, 1, 0, 0], .inLoop [1, 0, 1, 0, 0], .inBlock 0, .code [1, 1]]).map (it (bodyOf Try.prog 46))
def rPlan0_h0 (B : Lo) (c0 : CF) (s : WShore) (plan : List Int) (i : Int) : Prop := ∃ dJ : Nat → Value, (∀ t, Loose (dJ t)) ∧ GoE Try.prog B c0 H00 1 (headC 46 28 (([1, 2, 5] : List Nat).zip (rPlan0_v0 s plan i)) dJ rPlan0_t0) (headH (rPlan0_o0 s plan i)) (2 + (rPlan0_o0 s plan i).length) []
noncomputable def rPlan0_p0 (B : Lo) (s : WShore) (plan : List Int) (i : Int) (dJ0 : Nat → Value) : List Prop := [wq ((↑s.works.length : Int) - 1) = (↑s.works.length : Int) - 1, i = (↑i.toNat : Int) ∧ Int.toNat i < List.length plan ∧ Array.extract (rowL encI plan) (Int.toNat i * TypeInfo.size Try.t3) (Int.toNat i * TypeInfo.size Try.t3 + TypeInfo.size Try.t3) = #[Value.int IntKind.i64 (List.getD plan i.toNat default)], ltq i (↑plan.length : Int) = true] ++ ([] : List Prop)
noncomputable def rPlan0_q0 (s : WShore) (plan : List Int) (i : Int) (dJ0 : Nat → Value) : ScriptT := [(3, hvT), (6, HintT.tidx i.toNat #[Value.int IntKind.i64 (List.getD plan i.toNat default)]), (11, hvI ((↑s.works.length : Int) - 1))]
theorem rPlan0_s0 (B : Lo) (s : WShore) (plan : List Int) (i : Int) (dJ0 : Nat → Value) : landM (srunT Try.prog (okFn Try.prog) J0 B 14 1 (headC 46 28 (([1, 2, 5] : List Nat).zip (rPlan0_v0 s plan i)) dJ0 rPlan0_t0) (headH (rPlan0_o0 s plan i)) (2 + (rPlan0_o0 s plan i).length)
 (rPlan0_q0 s plan i dJ0 ++ [(12, HintT.pure (Value.bool true) []), (15, hvI (i + 1))]) 0 [] []) [1, 2, 5] [(2, KS.auto)] [] = some ⟨46, 28, rPlan0_t0, [], .run, none, rPlan0_v0 s plan (i + 1), rPlan0_o0 s plan (i + 1),
 [wq (i + 1) = i + 1, AllP [] ∧ PureC Try.prog J0 56 #[Value.int IntKind.i64 (List.getD plan i.toNat default), Value.int IntKind.i64 (-1), Value.int IntKind.i64 ((↑s.works.length : Int) - 1)] (Value.bool true)] ++ rPlan0_p0 B s plan i dJ0⟩ := by kernel_rfl
theorem rPlan0_s1 (B : Lo) (s : WShore) (plan : List Int) (i : Int) (dJ0 : Nat → Value) : endT (srunT Try.prog (okFn Try.prog) J0 B 14 1 (headC 46 28 (([1, 2, 5] : List Nat).zip (rPlan0_v0 s plan i)) dJ0 rPlan0_t0) (headH (rPlan0_o0 s plan i)) (2 + (rPlan0_o0 s plan i).length)
 (rPlan0_q0 s plan i dJ0 ++ [(12, HintT.pure (Value.bool false) [])]) 0 [] []) [] = some (Value.bool false,
 [AllP [] ∧ PureC Try.prog J0 56 #[Value.int IntKind.i64 (List.getD plan i.toNat default), Value.int IntKind.i64 (-1), Value.int IntKind.i64 ((↑s.works.length : Int) - 1)] (Value.bool false)] ++ rPlan0_p0 B s plan i dJ0) := by kernel_rfl
noncomputable def rPlan0_p1 (B : Lo) (s : WShore) (plan : List Int) (i : Int) (dJ0 : Nat → Value) : List Prop := [ltq i (↑plan.length : Int) = false] ++ ([] : List Prop)
noncomputable def rPlan0_q1 (s : WShore) (plan : List Int) (i : Int) (dJ0 : Nat → Value) : ScriptT := [(3, hvF)]
theorem rPlan0_s2 (B : Lo) (s : WShore) (plan : List Int) (i : Int) (dJ0 : Nat → Value) : endT (srunT Try.prog (okFn Try.prog) J0 B 9 1 (headC 46 28 (([1, 2, 5] : List Nat).zip (rPlan0_v0 s plan i)) dJ0 rPlan0_t0) (headH (rPlan0_o0 s plan i)) (2 + (rPlan0_o0 s plan i).length)
 (rPlan0_q1 s plan i dJ0 ++ [(9, hvT)]) 0 [] []) [] = some (Value.bool true,
 [eqq (↑plan.length : Int) (↑s.cells.length : Int) = true] ++ rPlan0_p1 B s plan i dJ0) := by kernel_rfl
theorem rPlan0_s3 (B : Lo) (s : WShore) (plan : List Int) (i : Int) (dJ0 : Nat → Value) : endT (srunT Try.prog (okFn Try.prog) J0 B 9 1 (headC 46 28 (([1, 2, 5] : List Nat).zip (rPlan0_v0 s plan i)) dJ0 rPlan0_t0) (headH (rPlan0_o0 s plan i)) (2 + (rPlan0_o0 s plan i).length)
 (rPlan0_q1 s plan i dJ0 ++ [(9, hvF)]) 0 [] []) [] = some (Value.bool false,
 [eqq (↑plan.length : Int) (↑s.cells.length : Int) = false] ++ rPlan0_p1 B s plan i dJ0) := by kernel_rfl
theorem rPlan0_s4 (B : Lo) (s : WShore) (plan : List Int) : landM (srunT Try.prog (okFn Try.prog) J0 B 7 1 (entryC Try.prog 46 28 (([.agg (encShore s).toArray, slI plan]).map (pushT 0 4))) H00 1
 [] 0 [] []) [1, 2, 5] [(1, KS.auto)] [] = some ⟨46, 28, rPlan0_t0, [], .run, none, rPlan0_v0 s plan (0), rPlan0_o0 s plan (0),
 []⟩ := by kernel_rfl
set_option maxHeartbeats 4000000 in
theorem rPlan0_ls (s : WShore) (plan : List Int)  (hfacts : s.cells.length ≤ 9223372036854775807 ∧ s.works.length ≤ 9223372036854775807 ∧ plan.length ≤ 9223372036854775807) {B : Lo} (hJ : ∀ w, B.has w → J0 w) {c0 : CF} : ∀ m : Nat, (∀ (i : Int), (plan.length - i.toNat) = m → ∀ (h0 : 0 ≤ i), rPlan0_h0 B c0 s plan i → EndsT Try.prog B c0 (.bool ((plan.drop i.toNat).all (fun x => inB x (-1) (s.works.length - 1)) && decide (plan.length = s.cells.length)))) := by
 intro m0
 induction m0 using Nat.strongRecOn with
 | _ m0 ih0 =>
   intro i hm0 h0 ⟨dJ0, hdJ0, hg0⟩
   by_cases q0 : (i : Int) < ((↑plan.length : Int))
   ·
    have hp0 : AllP (rPlan0_p0 B s plan i dJ0) := by
     have s2 := drop_all2 (l := plan) (p := fun x => inB x (-1) (s.works.length - 1)) h0 q0
     exact ⟨(wq_in (by omega) (by omega)), ⟨⟨by omega, by omega, (rowL_extract (z := 1) (fun _ => rfl) (by omega))⟩, ⟨(ltq_t q0), trivial⟩⟩⟩
    cases q1 : inB (List.getD plan i.toNat default) (-1) ((↑s.works.length : Int) - 1) with
    | true =>
      have s2 := drop_all2 (l := plan) (p := fun x => inB x (-1) (s.works.length - 1)) h0 q0
      exact ((ih0 _ (by omega)) (i + 1) rfl (by omega)
       (hg0.landM okF hJ mixed_ok (rPlan0_s0 B s plan i dJ0)
       ⟨(wq_in (by omega) (by omega)), ⟨⟨trivial, (by have t_ := rin (List.getD plan i.toNat default) (-1) ((↑s.works.length : Int) - 1); rw [q1] at t_; exact t_)⟩, hp0⟩⟩ (by kernel_rfl) (by kernel_rfl))).cast (by (rw [s2]; simp_all; done))
    | false =>
      have s2 := drop_all2 (l := plan) (p := fun x => inB x (-1) (s.works.length - 1)) h0 q0
      exact (GoE.endsT okF hJ mixed_ok hg0 (rPlan0_s1 B s plan i dJ0)
       ⟨⟨trivial, (by have t_ := rin (List.getD plan i.toNat default) (-1) ((↑s.works.length : Int) - 1); rw [q1] at t_; exact t_)⟩, hp0⟩).cast (by (rw [s2]; simp_all; done))
   ·
    have hp1 : AllP (rPlan0_p1 B s plan i dJ0) := by
     exact ⟨(ltq_f (Int.not_lt.1 q0)), trivial⟩
    by_cases q1 : ((↑plan.length : Int) : Int) = ((↑s.cells.length : Int))
    ·
     have s2 := drop_nil2 (l := plan) (p := fun x => inB x (-1) (s.works.length - 1)) (i := i) (by omega)
     exact (GoE.endsT okF hJ mixed_ok hg0 (rPlan0_s2 B s plan i dJ0)
      ⟨(eqq_t q1), hp1⟩).cast (by (rw [s2]; simp_all; omega))
    ·
     have s2 := drop_nil2 (l := plan) (p := fun x => inB x (-1) (s.works.length - 1)) (i := i) (by omega)
     exact (GoE.endsT okF hJ mixed_ok hg0 (rPlan0_s3 B s plan i dJ0)
      ⟨(eqq_f q1), hp1⟩).cast (by (rw [s2]; simp_all; omega))
set_option maxHeartbeats 4000000 in
theorem rPlan0_e (s : WShore) (plan : List Int)  (hfacts : s.cells.length ≤ 9223372036854775807 ∧ s.works.length ≤ 9223372036854775807 ∧ plan.length ≤ 9223372036854775807) {B : Lo} (hJ : ∀ w, B.has w → J0 w) : EndsT Try.prog B (entryC Try.prog 46 28 (([.agg (encShore s).toArray, slI plan]).map (pushT 0 4))) (.bool (plan.all (fun x => inB x (-1) (s.works.length - 1)) && decide (plan.length = s.cells.length))) := by
 exact ((rPlan0_ls s plan hfacts hJ _) (0) rfl (by omega)
  (GoE.start.landM okF hJ mixed_ok (rPlan0_s4 B s plan)
  trivial (by kernel_rfl) (by kernel_rfl))).cast (by rfl)
theorem rPlan0 (s : WShore) (plan : List Int)  : PureC Try.prog J0 46 #[.agg (encShore s).toArray, slI plan] (.bool (plan.all (fun x => inB x (-1) (s.works.length - 1)) && decide (plan.length = s.cells.length))) :=
 pureC_ofF (ts := [.agg (encShore s).toArray, slI plan]) (s.cells.length ≤ 9223372036854775807 ∧ s.works.length ≤ 9223372036854775807 ∧ plan.length ≤ 9223372036854775807) (fun _ _ ht => ⟨ht.ln2 (i := 0) (j := 0) rfl rfl, ht.ln2 (i := 0) (j := 1) rfl rfl, ht.ln (i := 1) rfl⟩) J0_st (c0 := entryC Try.prog 46 28 (([.agg (encShore s).toArray, slI plan]).map (pushT 0 4))) (by kernel_rfl) (by kernel_rfl) fun hfacts B hJ => rPlan0_e s plan  hfacts hJ
theorem rPlan (s : WShore) (plan : List Int) : PureC Try.prog J0 46 #[.agg (encShore s).toArray, slI plan] (.bool (planB s plan)) := by
 have h := rPlan0 s plan; rw [Bool.and_comm] at h; exact h
def dragU (ns : List Int) (cs : List WCell) (i : Int) : Bool := (upI i ns.length).all fun k => inB (ns.getD k.toNat default) (cs.getD k.toNat default).dlo (cs.getD k.toNat default).dhi
theorem dragU_cons {ns : List Int} {cs : List WCell} {i : Int} (h : i < ns.length) : dragU ns cs i = (inB (ns.getD i.toNat default) (cs.getD i.toNat default).dlo (cs.getD i.toNat default).dhi && dragU ns cs (i + 1)) := by
 unfold dragU; rw [upI_cons h, List.all_cons]
theorem dragU_nil {ns : List Int} {cs : List WCell} {i : Int} (h : ns.length ≤ i) : dragU ns cs i = true := by
 unfold dragU; rw [upI_nil h]; rfl
def truthT (s : WShore) (c : WStorm) (t : WTruth) : Bool := inB t.wind c.wlo c.whi && (inB t.fetch c.flo c.fhi && (inB t.tide c.tlo c.thi && inB t.loss s.llo s.lhi))
theorem truthR_eq {s : WShore} {c : WStorm} {t : WTruth} : (decide (t.drags.length = s.cells.length) && (dragU t.drags s.cells 0 && truthT s c t)) = truthB s c t := by
 unfold truthB truthT dragsB
 show (_ && (dragU t.drags s.cells 0 && _)) = (_ && (_ && (_ && (_ && (_ && dragU t.drags s.cells 0)))))
 cases decide (t.drags.length = s.cells.length) <;> cases dragU t.drags s.cells 0 <;> simp
def rTruth0_v0 (s : WShore) (c : WStorm) (t : WTruth) (i : Int) : List Value := [pA 2 0, pA 3 0, pA 4 0, .int .i64 i]
def rTruth0_o0 (s : WShore) (c : WStorm) (t : WTruth) (i : Int) : List Obj := [Obj.cells #[topV 1 (slT s.cells.length (rowL encWCell s.cells)), topV 1 (slT s.works.length (rowL encWWork s.works)), Value.int IntKind.i64 s.reef, Value.int IntKind.i64 s.llo, Value.int IntKind.i64 s.lhi] 27, Obj.cells #[Value.int IntKind.i64 c.wlo, Value.int IntKind.i64 c.whi, Value.int IntKind.i64 c.flo, Value.int IntKind.i64 c.fhi, Value.int IntKind.i64 c.tlo, Value.int IntKind.i64 c.thi] 29, Obj.cells #[Value.int IntKind.i64 t.wind, Value.int IntKind.i64 t.fetch, Value.int IntKind.i64 t.tide, Value.int IntKind.i64 t.loss, topV 1 (slT t.drags.length (rowL encI t.drags))] 38]
noncomputable def rTruth0_t0 : List Item := ([.code [1, 1, 0, 1, 0, 0], .inLoop [1, 1, 0, 1, 0, 0], .inBlock 0, .code [1, 1, 1]]).map (it (bodyOf Try.prog 26))
def rTruth0_h0 (B : Lo) (c0 : CF) (s : WShore) (c : WStorm) (t : WTruth) (i : Int) : Prop := ∃ dJ : Nat → Value, (∀ t, Loose (dJ t)) ∧ GoE Try.prog B c0 H00 1 (headC 26 85 (([3, 4, 5, 7] : List Nat).zip (rTruth0_v0 s c t i)) dJ rTruth0_t0) (headH (rTruth0_o0 s c t i)) (2 + (rTruth0_o0 s c t i).length) []
noncomputable def rTruth0_z0 (s : WShore) (i : Int) : Array Value := #[Value.int IntKind.i64 (WCell.ground (List.getD s.cells i.toNat default)), Value.int IntKind.i64 (WCell.dlo (List.getD s.cells i.toNat default)), Value.int IntKind.i64 (WCell.dhi (List.getD s.cells i.toNat default)), Value.int IntKind.i64 (WCell.floor (List.getD s.cells i.toNat default))]
noncomputable def rTruth0_p0 (B : Lo) (s : WShore) (c : WStorm) (t : WTruth) (i : Int) (dJ0 : Nat → Value) : List Prop := [i = (↑i.toNat : Int) ∧ Int.toNat i < List.length s.cells ∧ Array.extract (rowL encWCell s.cells) (Int.toNat i * TypeInfo.size Try.t59) (Int.toNat i * TypeInfo.size Try.t59 + TypeInfo.size Try.t59) = (rTruth0_z0 s i), i = (↑i.toNat : Int) ∧ Int.toNat i < List.length s.cells ∧ Array.extract (rowL encWCell s.cells) (Int.toNat i * TypeInfo.size Try.t59) (Int.toNat i * TypeInfo.size Try.t59 + TypeInfo.size Try.t59) = (rTruth0_z0 s i), i = (↑i.toNat : Int) ∧ Int.toNat i < List.length t.drags ∧ Array.extract (rowL encI t.drags) (Int.toNat i * TypeInfo.size Try.t3) (Int.toNat i * TypeInfo.size Try.t3 + TypeInfo.size Try.t3) = #[Value.int IntKind.i64 (List.getD t.drags i.toNat default)], ltq i (↑t.drags.length : Int) = true] ++ ([] : List Prop)
noncomputable def rTruth0_q0 (s : WShore) (c : WStorm) (t : WTruth) (i : Int) (dJ0 : Nat → Value) : ScriptT := [(4, hvT), (8, HintT.tidx i.toNat #[Value.int IntKind.i64 (List.getD t.drags i.toNat default)]), (13, HintT.tidx i.toNat (rTruth0_z0 s i)), (20, HintT.tidx i.toNat (rTruth0_z0 s i))]
theorem rTruth0_s0 (B : Lo) (s : WShore) (c : WStorm) (t : WTruth) (i : Int) (dJ0 : Nat → Value) : landM (srunT Try.prog (okFn Try.prog) J0 B 14 1 (headC 26 85 (([3, 4, 5, 7] : List Nat).zip (rTruth0_v0 s c t i)) dJ0 rTruth0_t0) (headH (rTruth0_o0 s c t i)) (2 + (rTruth0_o0 s c t i).length)
 (rTruth0_q0 s c t i dJ0 ++ [(24, HintT.pure (Value.bool true) []), (27, hvI (i + 1))]) 0 [] []) [3, 4, 5, 7] [(2, KS.auto), (3, KS.auto), (4, KS.auto)] [] = some ⟨26, 85, rTruth0_t0, [], .run, none, rTruth0_v0 s c t (i + 1), rTruth0_o0 s c t (i + 1),
 [wq (i + 1) = i + 1, AllP [] ∧ PureC Try.prog J0 56 #[Value.int IntKind.i64 (List.getD t.drags i.toNat default), Value.int IntKind.i64 (WCell.dlo (List.getD s.cells i.toNat default)), Value.int IntKind.i64 (WCell.dhi (List.getD s.cells i.toNat default))] (Value.bool true)] ++ rTruth0_p0 B s c t i dJ0⟩ := by kernel_rfl
theorem rTruth0_s1 (B : Lo) (s : WShore) (c : WStorm) (t : WTruth) (i : Int) (dJ0 : Nat → Value) : endT (srunT Try.prog (okFn Try.prog) J0 B 14 1 (headC 26 85 (([3, 4, 5, 7] : List Nat).zip (rTruth0_v0 s c t i)) dJ0 rTruth0_t0) (headH (rTruth0_o0 s c t i)) (2 + (rTruth0_o0 s c t i).length)
 (rTruth0_q0 s c t i dJ0 ++ [(24, HintT.pure (Value.bool false) [])]) 0 [] []) [] = some (Value.bool false,
 [AllP [] ∧ PureC Try.prog J0 56 #[Value.int IntKind.i64 (List.getD t.drags i.toNat default), Value.int IntKind.i64 (WCell.dlo (List.getD s.cells i.toNat default)), Value.int IntKind.i64 (WCell.dhi (List.getD s.cells i.toNat default))] (Value.bool false)] ++ rTruth0_p0 B s c t i dJ0) := by kernel_rfl
noncomputable def rTruth0_p1 (B : Lo) (s : WShore) (c : WStorm) (t : WTruth) (i : Int) (dJ0 : Nat → Value) : List Prop := [ltq i (↑t.drags.length : Int) = false] ++ ([] : List Prop)
noncomputable def rTruth0_q1 (s : WShore) (c : WStorm) (t : WTruth) (i : Int) (dJ0 : Nat → Value) : ScriptT := [(4, hvF)]
noncomputable def rTruth0_p2 (B : Lo) (s : WShore) (c : WStorm) (t : WTruth) (i : Int) (dJ0 : Nat → Value) : List Prop := [AllP [] ∧ PureC Try.prog J0 56 #[Value.int IntKind.i64 t.wind, Value.int IntKind.i64 c.wlo, Value.int IntKind.i64 c.whi] (Value.bool true)] ++ rTruth0_p1 B s c t i dJ0
noncomputable def rTruth0_q2 (s : WShore) (c : WStorm) (t : WTruth) (i : Int) (dJ0 : Nat → Value) : ScriptT := rTruth0_q1 s c t i dJ0 ++ [(13, HintT.pure (Value.bool true) [])]
noncomputable def rTruth0_p3 (B : Lo) (s : WShore) (c : WStorm) (t : WTruth) (i : Int) (dJ0 : Nat → Value) : List Prop := [AllP [] ∧ PureC Try.prog J0 56 #[Value.int IntKind.i64 t.fetch, Value.int IntKind.i64 c.flo, Value.int IntKind.i64 c.fhi] (Value.bool true)] ++ rTruth0_p2 B s c t i dJ0
noncomputable def rTruth0_q3 (s : WShore) (c : WStorm) (t : WTruth) (i : Int) (dJ0 : Nat → Value) : ScriptT := rTruth0_q2 s c t i dJ0 ++ [(23, HintT.pure (Value.bool true) [])]
noncomputable def rTruth0_p4 (B : Lo) (s : WShore) (c : WStorm) (t : WTruth) (i : Int) (dJ0 : Nat → Value) : List Prop := [AllP [] ∧ PureC Try.prog J0 56 #[Value.int IntKind.i64 t.tide, Value.int IntKind.i64 c.tlo, Value.int IntKind.i64 c.thi] (Value.bool true)] ++ rTruth0_p3 B s c t i dJ0
noncomputable def rTruth0_q4 (s : WShore) (c : WStorm) (t : WTruth) (i : Int) (dJ0 : Nat → Value) : ScriptT := rTruth0_q3 s c t i dJ0 ++ [(34, HintT.pure (Value.bool true) [])]
theorem rTruth0_s2 (B : Lo) (s : WShore) (c : WStorm) (t : WTruth) (i : Int) (dJ0 : Nat → Value) : endT (srunT Try.prog (okFn Try.prog) J0 B 9 1 (headC 26 85 (([3, 4, 5, 7] : List Nat).zip (rTruth0_v0 s c t i)) dJ0 rTruth0_t0) (headH (rTruth0_o0 s c t i)) (2 + (rTruth0_o0 s c t i).length)
 (rTruth0_q4 s c t i dJ0 ++ [(45, HintT.pure (Value.bool true) [])]) 0 [] []) [] = some (Value.bool true,
 [AllP [] ∧ PureC Try.prog J0 56 #[Value.int IntKind.i64 t.loss, Value.int IntKind.i64 s.llo, Value.int IntKind.i64 s.lhi] (Value.bool true)] ++ rTruth0_p4 B s c t i dJ0) := by kernel_rfl
theorem rTruth0_s3 (B : Lo) (s : WShore) (c : WStorm) (t : WTruth) (i : Int) (dJ0 : Nat → Value) : endT (srunT Try.prog (okFn Try.prog) J0 B 9 1 (headC 26 85 (([3, 4, 5, 7] : List Nat).zip (rTruth0_v0 s c t i)) dJ0 rTruth0_t0) (headH (rTruth0_o0 s c t i)) (2 + (rTruth0_o0 s c t i).length)
 (rTruth0_q4 s c t i dJ0 ++ [(45, HintT.pure (Value.bool false) [])]) 0 [] []) [] = some (Value.bool false,
 [AllP [] ∧ PureC Try.prog J0 56 #[Value.int IntKind.i64 t.loss, Value.int IntKind.i64 s.llo, Value.int IntKind.i64 s.lhi] (Value.bool false)] ++ rTruth0_p4 B s c t i dJ0) := by kernel_rfl
theorem rTruth0_s4 (B : Lo) (s : WShore) (c : WStorm) (t : WTruth) (i : Int) (dJ0 : Nat → Value) : endT (srunT Try.prog (okFn Try.prog) J0 B 9 1 (headC 26 85 (([3, 4, 5, 7] : List Nat).zip (rTruth0_v0 s c t i)) dJ0 rTruth0_t0) (headH (rTruth0_o0 s c t i)) (2 + (rTruth0_o0 s c t i).length)
 (rTruth0_q3 s c t i dJ0 ++ [(34, HintT.pure (Value.bool false) [])]) 0 [] []) [] = some (Value.bool false,
 [AllP [] ∧ PureC Try.prog J0 56 #[Value.int IntKind.i64 t.tide, Value.int IntKind.i64 c.tlo, Value.int IntKind.i64 c.thi] (Value.bool false)] ++ rTruth0_p3 B s c t i dJ0) := by kernel_rfl
theorem rTruth0_s5 (B : Lo) (s : WShore) (c : WStorm) (t : WTruth) (i : Int) (dJ0 : Nat → Value) : endT (srunT Try.prog (okFn Try.prog) J0 B 9 1 (headC 26 85 (([3, 4, 5, 7] : List Nat).zip (rTruth0_v0 s c t i)) dJ0 rTruth0_t0) (headH (rTruth0_o0 s c t i)) (2 + (rTruth0_o0 s c t i).length)
 (rTruth0_q2 s c t i dJ0 ++ [(23, HintT.pure (Value.bool false) [])]) 0 [] []) [] = some (Value.bool false,
 [AllP [] ∧ PureC Try.prog J0 56 #[Value.int IntKind.i64 t.fetch, Value.int IntKind.i64 c.flo, Value.int IntKind.i64 c.fhi] (Value.bool false)] ++ rTruth0_p2 B s c t i dJ0) := by kernel_rfl
theorem rTruth0_s6 (B : Lo) (s : WShore) (c : WStorm) (t : WTruth) (i : Int) (dJ0 : Nat → Value) : endT (srunT Try.prog (okFn Try.prog) J0 B 9 1 (headC 26 85 (([3, 4, 5, 7] : List Nat).zip (rTruth0_v0 s c t i)) dJ0 rTruth0_t0) (headH (rTruth0_o0 s c t i)) (2 + (rTruth0_o0 s c t i).length)
 (rTruth0_q1 s c t i dJ0 ++ [(13, HintT.pure (Value.bool false) [])]) 0 [] []) [] = some (Value.bool false,
 [AllP [] ∧ PureC Try.prog J0 56 #[Value.int IntKind.i64 t.wind, Value.int IntKind.i64 c.wlo, Value.int IntKind.i64 c.whi] (Value.bool false)] ++ rTruth0_p1 B s c t i dJ0) := by kernel_rfl
theorem rTruth0_s7 (B : Lo) (s : WShore) (c : WStorm) (t : WTruth) : endT (srunT Try.prog (okFn Try.prog) J0 B 10 1 (entryC Try.prog 26 85 (([.agg (encShore s).toArray, .agg (encStorm c).toArray, .agg (encTruth t).toArray]).map (pushT 0 4))) H00 1
 [(10, hvT)] 0 [] []) [] = some (Value.bool false,
 [(!eqq (↑t.drags.length : Int) (↑s.cells.length : Int)) = true]) := by kernel_rfl
theorem rTruth0_s8 (B : Lo) (s : WShore) (c : WStorm) (t : WTruth) : landM (srunT Try.prog (okFn Try.prog) J0 B 12 1 (entryC Try.prog 26 85 (([.agg (encShore s).toArray, .agg (encStorm c).toArray, .agg (encTruth t).toArray]).map (pushT 0 4))) H00 1
 [(10, hvF)] 0 [] []) [3, 4, 5, 7] [(1, KS.auto), (2, KS.auto), (3, KS.auto)] [] = some ⟨26, 85, rTruth0_t0, [], .run, none, rTruth0_v0 s c t (0), rTruth0_o0 s c t (0),
 [(!eqq (↑t.drags.length : Int) (↑s.cells.length : Int)) = false]⟩ := by kernel_rfl
set_option maxHeartbeats 4000000 in
theorem rTruth0_ls (s : WShore) (c : WStorm) (t : WTruth)  (hfacts : s.cells.length ≤ 9223372036854775807 ∧ t.drags.length ≤ 9223372036854775807) {B : Lo} (hJ : ∀ w, B.has w → J0 w) {c0 : CF} : ∀ m : Nat, (∀ (i : Int), (t.drags.length - i.toNat) = m → ∀ (h0 : 0 ≤ i) (hl : t.drags.length = s.cells.length), rTruth0_h0 B c0 s c t i → EndsT Try.prog B c0 (.bool (dragU t.drags s.cells i && truthT s c t))) := by
 intro m0
 induction m0 using Nat.strongRecOn with
 | _ m0 ih0 =>
   intro i hm0 h0 hl ⟨dJ0, hdJ0, hg0⟩
   by_cases q0 : (i : Int) < ((↑t.drags.length : Int))
   ·
    have hp0 : AllP (rTruth0_p0 B s c t i dJ0) := by
     have s2 := dragU_cons (ns := t.drags) (cs := s.cells) q0
     exact ⟨⟨by omega, by omega, (rowL_extract (z := 4) (fun _ => rfl) (by omega))⟩, ⟨⟨by omega, by omega, (rowL_extract (z := 4) (fun _ => rfl) (by omega))⟩, ⟨⟨by omega, by omega, (rowL_extract (z := 1) (fun _ => rfl) (by omega))⟩, ⟨(ltq_t q0), trivial⟩⟩⟩⟩
    cases q1 : inB (List.getD t.drags i.toNat default) (WCell.dlo (List.getD s.cells i.toNat default)) (WCell.dhi (List.getD s.cells i.toNat default)) with
    | true =>
      have s2 := dragU_cons (ns := t.drags) (cs := s.cells) q0
      exact ((ih0 _ (by omega)) (i + 1) rfl (by omega) (by with_reducible assumption)
       (hg0.landM okF hJ mixed_ok (rTruth0_s0 B s c t i dJ0)
       ⟨(wq_in (by omega) (by omega)), ⟨⟨trivial, (by have t_ := rin (List.getD t.drags i.toNat default) (WCell.dlo (List.getD s.cells i.toNat default)) (WCell.dhi (List.getD s.cells i.toNat default)); rw [q1] at t_; exact t_)⟩, hp0⟩⟩ (by kernel_rfl) (by kernel_rfl))).cast (by (rw [s2]; simp_all; done))
    | false =>
      have s2 := dragU_cons (ns := t.drags) (cs := s.cells) q0
      exact (GoE.endsT okF hJ mixed_ok hg0 (rTruth0_s1 B s c t i dJ0)
       ⟨⟨trivial, (by have t_ := rin (List.getD t.drags i.toNat default) (WCell.dlo (List.getD s.cells i.toNat default)) (WCell.dhi (List.getD s.cells i.toNat default)); rw [q1] at t_; exact t_)⟩, hp0⟩).cast (by (rw [s2]; simp_all; done))
   ·
    have hp1 : AllP (rTruth0_p1 B s c t i dJ0) := by
     exact ⟨(ltq_f (Int.not_lt.1 q0)), trivial⟩
    cases q1 : inB t.wind c.wlo c.whi with
    | true =>
      have hp2 : AllP (rTruth0_p2 B s c t i dJ0) := by
       have s2 := dragU_nil (ns := t.drags) (cs := s.cells) (i := i) (by omega)
       exact ⟨⟨trivial, (by have t_ := rin t.wind c.wlo c.whi; rw [q1] at t_; exact t_)⟩, hp1⟩
      cases q2 : inB t.fetch c.flo c.fhi with
      | true =>
        have hp3 : AllP (rTruth0_p3 B s c t i dJ0) := by
         have s2 := dragU_nil (ns := t.drags) (cs := s.cells) (i := i) (by omega)
         exact ⟨⟨trivial, (by have t_ := rin t.fetch c.flo c.fhi; rw [q2] at t_; exact t_)⟩, hp2⟩
        cases q3 : inB t.tide c.tlo c.thi with
        | true =>
          have hp4 : AllP (rTruth0_p4 B s c t i dJ0) := by
           have s2 := dragU_nil (ns := t.drags) (cs := s.cells) (i := i) (by omega)
           exact ⟨⟨trivial, (by have t_ := rin t.tide c.tlo c.thi; rw [q3] at t_; exact t_)⟩, hp3⟩
          cases q4 : inB t.loss s.llo s.lhi with
          | true =>
            have s2 := dragU_nil (ns := t.drags) (cs := s.cells) (i := i) (by omega)
            exact (GoE.endsT okF hJ mixed_ok hg0 (rTruth0_s2 B s c t i dJ0)
             ⟨⟨trivial, (by have t_ := rin t.loss s.llo s.lhi; rw [q4] at t_; exact t_)⟩, hp4⟩).cast (by (rw [s2]; simp [truthT, *]; done))
          | false =>
            have s2 := dragU_nil (ns := t.drags) (cs := s.cells) (i := i) (by omega)
            exact (GoE.endsT okF hJ mixed_ok hg0 (rTruth0_s3 B s c t i dJ0)
             ⟨⟨trivial, (by have t_ := rin t.loss s.llo s.lhi; rw [q4] at t_; exact t_)⟩, hp4⟩).cast (by (rw [s2]; simp [truthT, *]; done))
        | false =>
          have s2 := dragU_nil (ns := t.drags) (cs := s.cells) (i := i) (by omega)
          exact (GoE.endsT okF hJ mixed_ok hg0 (rTruth0_s4 B s c t i dJ0)
           ⟨⟨trivial, (by have t_ := rin t.tide c.tlo c.thi; rw [q3] at t_; exact t_)⟩, hp3⟩).cast (by (rw [s2]; simp [truthT, *]; done))
      | false =>
        have s2 := dragU_nil (ns := t.drags) (cs := s.cells) (i := i) (by omega)
        exact (GoE.endsT okF hJ mixed_ok hg0 (rTruth0_s5 B s c t i dJ0)
         ⟨⟨trivial, (by have t_ := rin t.fetch c.flo c.fhi; rw [q2] at t_; exact t_)⟩, hp2⟩).cast (by (rw [s2]; simp [truthT, *]; done))
    | false =>
      have s2 := dragU_nil (ns := t.drags) (cs := s.cells) (i := i) (by omega)
      exact (GoE.endsT okF hJ mixed_ok hg0 (rTruth0_s6 B s c t i dJ0)
       ⟨⟨trivial, (by have t_ := rin t.wind c.wlo c.whi; rw [q1] at t_; exact t_)⟩, hp1⟩).cast (by (rw [s2]; simp [truthT, *]; done))
set_option maxHeartbeats 4000000 in
theorem rTruth0_e (s : WShore) (c : WStorm) (t : WTruth)  (hfacts : s.cells.length ≤ 9223372036854775807 ∧ t.drags.length ≤ 9223372036854775807) {B : Lo} (hJ : ∀ w, B.has w → J0 w) : EndsT Try.prog B (entryC Try.prog 26 85 (([.agg (encShore s).toArray, .agg (encStorm c).toArray, .agg (encTruth t).toArray]).map (pushT 0 4))) (.bool (decide (t.drags.length = s.cells.length) && (dragU t.drags s.cells 0 && truthT s c t))) := by
 by_cases q0 : ((↑t.drags.length : Int) : Int) ≠ ((↑s.cells.length : Int))
 ·
  exact (GoE.endsT okF hJ mixed_ok GoE.start (rTruth0_s7 B s c t)
   ⟨(neqq_t q0), trivial⟩).cast (by (rw [decide_eq_false (by omega)]; simp; done))
 ·
  exact ((rTruth0_ls s c t hfacts hJ _) (0) rfl (by omega) (by omega)
   (GoE.start.landM okF hJ mixed_ok (rTruth0_s8 B s c t)
   ⟨(neqq_f (Decidable.of_not_not q0)), trivial⟩ (by kernel_rfl) (by kernel_rfl))).cast (by (rw [decide_eq_true (by omega)]; simp; done))
theorem rTruth0 (s : WShore) (c : WStorm) (t : WTruth)  : PureC Try.prog J0 26 #[.agg (encShore s).toArray, .agg (encStorm c).toArray, .agg (encTruth t).toArray] (.bool (decide (t.drags.length = s.cells.length) && (dragU t.drags s.cells 0 && truthT s c t))) :=
 pureC_ofF (ts := [.agg (encShore s).toArray, .agg (encStorm c).toArray, .agg (encTruth t).toArray]) (s.cells.length ≤ 9223372036854775807 ∧ t.drags.length ≤ 9223372036854775807) (fun _ _ ht => ⟨ht.ln2 (i := 0) (j := 0) rfl rfl, ht.ln2 (i := 2) (j := 4) rfl rfl⟩) J0_st (c0 := entryC Try.prog 26 85 (([.agg (encShore s).toArray, .agg (encStorm c).toArray, .agg (encTruth t).toArray]).map (pushT 0 4))) (by kernel_rfl) (by kernel_rfl) fun hfacts B hJ => rTruth0_e s c t  hfacts hJ
theorem rTruth (s : WShore) (c : WStorm) (t : WTruth) : PureC Try.prog J0 26 #[.agg (encShore s).toArray, .agg (encStorm c).toArray, .agg (encTruth t).toArray] (.bool (truthB s c t)) := by
 have h := rTruth0 s c t; rw [truthR_eq] at h; exact h
theorem span_eq {a b : Span} : a = b ↔ a.lo = b.lo ∧ a.hi = b.hi := by
 cases a; cases b; simp
instance : DecidableEq Span := fun a b => decidable_of_iff _ span_eq.symm
def endE (b : Bool) (s : WShore) (c : WStorm) : WTruth := ⟨bif b then c.whi else c.wlo, bif b then c.fhi else c.flo, bif b then c.thi else c.tlo, bif b then s.llo else s.lhi, s.cells.map fun x => bif b then x.dlo else x.dhi⟩
theorem map_cons {α β : Type} [Inhabited α] {f : α → β} {l : List α} {i : Int} (h0 : 0 ≤ i) (h : i < l.length) : (l.drop i.toNat).map f = f (l.getD i.toNat default) :: (l.drop (i + 1).toNat).map f := by
 rw [drop_cons h0 h]; rfl
theorem map_nil {α β : Type} {f : α → β} {l : List α} {i : Int} (h : l.length ≤ i) : (l.drop i.toNat).map f = [] := by
 rw [drop_end h]; rfl
def rEndT_v0 (s : WShore) (c : WStorm) (i : Int) : List Value := [Value.bool true, pA 2 0, pA 3 0, pA 4 0, .int .i64 i]
def rEndT_o0 (s : WShore) (c : WStorm) (i : Int) : List Obj := [Obj.cells #[topV 1 (slT s.cells.length (rowL encWCell s.cells)), topV 1 (slT s.works.length (rowL encWWork s.works)), Value.int IntKind.i64 s.reef, Value.int IntKind.i64 s.llo, Value.int IntKind.i64 s.lhi] 27, Obj.cells #[Value.int IntKind.i64 0, Value.int IntKind.i64 0, Value.int IntKind.i64 0, Value.int IntKind.i64 0, Value.slice none 0 0] 38, Obj.cells #[Value.int IntKind.i64 c.whi, Value.int IntKind.i64 c.fhi, Value.int IntKind.i64 c.thi, Value.int IntKind.i64 s.llo, Value.slice none 0 0] 38]
noncomputable def rEndT_t0 : List Item := ([.code [1, 1, 1, 0, 1, 0, 0], .inLoop [1, 1, 1, 0, 1, 0, 0], .inBlock 0, .code [1, 1, 1, 1]]).map (it (bodyOf Try.prog 23))
def rEndT_h0 (B : Lo) (c0 : CF) (s : WShore) (c : WStorm) (i : Int) : Prop := ∃ dJ : Nat → Value, (∀ t, Loose (dJ t)) ∧ GoE Try.prog B c0 H00 1 (headC 23 66 (([2, 3, 6, 7, 8] : List Nat).zip (rEndT_v0 s c i)) dJ rEndT_t0) (headH (rEndT_o0 s c i)) (2 + (rEndT_o0 s c i).length) []
def rEndT_v1 (s : WShore) (c : WStorm) (i : Int) (out : List Int) (n : Nat) : List Value := [Value.bool true, pA 2 0, pA 3 0, pA 4 0, .int .i64 i]
def rEndT_o1 (s : WShore) (c : WStorm) (i : Int) (out : List Int) (n : Nat) : List Obj := [Obj.cells #[topV 1 (slT s.cells.length (rowL encWCell s.cells)), topV 1 (slT s.works.length (rowL encWWork s.works)), Value.int IntKind.i64 s.reef, Value.int IntKind.i64 s.llo, Value.int IntKind.i64 s.lhi] 27, Obj.cells #[Value.int IntKind.i64 0, Value.int IntKind.i64 0, Value.int IntKind.i64 0, Value.int IntKind.i64 0, Value.slice none 0 0] 38, .cells #[.int .i64 c.whi, .int .i64 c.fhi, .int .i64 c.thi, .int .i64 s.llo, .slice (some ⟨5, 0, none⟩) n 1] 38 (0, 0), .cells (rowL encI out) 3 (0, 0)]
noncomputable def rEndT_t1 : List Item := ([.code [1, 1, 1, 0, 1, 0, 0], .inLoop [1, 1, 1, 0, 1, 0, 0], .inBlock 0, .code [1, 1, 1, 1]]).map (it (bodyOf Try.prog 23))
def rEndT_h1 (B : Lo) (c0 : CF) (s : WShore) (c : WStorm) (i : Int) (out : List Int) (n : Nat) : Prop := ∃ dJ : Nat → Value, (∀ t, Loose (dJ t)) ∧ GoE Try.prog B c0 H00 1 (headC 23 66 (([2, 3, 6, 7, 8] : List Nat).zip (rEndT_v1 s c i out n)) dJ rEndT_t1) (headH (rEndT_o1 s c i out n)) (2 + (rEndT_o1 s c i out n).length) []
noncomputable def rEndT_z0 (s : WShore) (i : Int) : Array Value := #[Value.int IntKind.i64 (WCell.ground (List.getD s.cells i.toNat default)), Value.int IntKind.i64 (WCell.dlo (List.getD s.cells i.toNat default)), Value.int IntKind.i64 (WCell.dhi (List.getD s.cells i.toNat default)), Value.int IntKind.i64 (WCell.floor (List.getD s.cells i.toNat default))]
theorem rEndT_s0 (B : Lo) (s : WShore) (c : WStorm) (i : Int) (dJ0 : Nat → Value) : landM (srunT Try.prog (okFn Try.prog) J0 B 18 1 (headC 23 66 (([2, 3, 6, 7, 8] : List Nat).zip (rEndT_v0 s c i)) dJ0 rEndT_t0) (headH (rEndT_o0 s c i)) (2 + (rEndT_o0 s c i).length)
 [(4, hvT), (8, HintT.tidx i.toNat (rEndT_z0 s i)), (17, HintT.tidx i.toNat (rEndT_z0 s i)), (30, hvI (i + 1))] 0 [] []) [2, 3, 6, 7, 8] [(2, KS.auto), (3, KS.auto), (4, KS.auto), (6, KS.cells [] (rowL encI [WCell.dlo (List.getD s.cells i.toNat default)]))] [] = some ⟨23, 66, rEndT_t1, [], .run, none, rEndT_v1 s c (i + 1) ([WCell.dlo (List.getD s.cells i.toNat default)]) (1), rEndT_o1 s c (i + 1) ([WCell.dlo (List.getD s.cells i.toNat default)]) (1),
 [CellsM 1 [] (#[Value.int IntKind.i64 (WCell.dlo (List.getD s.cells i.toNat default))]) (rowL encI [WCell.dlo (List.getD s.cells i.toNat default)]), wq (i + 1) = i + 1, i = (↑i.toNat : Int) ∧ Int.toNat i < List.length s.cells ∧ Array.extract (rowL encWCell s.cells) (Int.toNat i * TypeInfo.size Try.t59) (Int.toNat i * TypeInfo.size Try.t59 + TypeInfo.size Try.t59) = (rEndT_z0 s i), i = (↑i.toNat : Int) ∧ Int.toNat i < List.length s.cells ∧ Array.extract (rowL encWCell s.cells) (Int.toNat i * TypeInfo.size Try.t59) (Int.toNat i * TypeInfo.size Try.t59 + TypeInfo.size Try.t59) = (rEndT_z0 s i), ltq i (↑s.cells.length : Int) = true]⟩ := by kernel_rfl
theorem rEndT_s1 (B : Lo) (s : WShore) (c : WStorm) (i : Int) (dJ0 : Nat → Value) : endT (srunT Try.prog (okFn Try.prog) J0 B 9 1 (headC 23 66 (([2, 3, 6, 7, 8] : List Nat).zip (rEndT_v0 s c i)) dJ0 rEndT_t0) (headH (rEndT_o0 s c i)) (2 + (rEndT_o0 s c i).length)
 [(4, hvF)] 0 [] []) [] = some (Value.agg #[Value.int IntKind.i64 c.whi, Value.int IntKind.i64 c.fhi, Value.int IntKind.i64 c.thi, Value.int IntKind.i64 s.llo, slT 0 #[]],
 [ltq i (↑s.cells.length : Int) = false]) := by kernel_rfl
theorem rEndT_s2 (B : Lo) (s : WShore) (c : WStorm) (i : Int) (out : List Int) (n : Nat) (dJ0 : Nat → Value) : landM (srunT Try.prog (okFn Try.prog) J0 B 18 1 (headC 23 66 (([2, 3, 6, 7, 8] : List Nat).zip (rEndT_v1 s c i out n)) dJ0 rEndT_t1) (headH (rEndT_o1 s c i out n)) (2 + (rEndT_o1 s c i out n).length)
 [(4, hvT), (8, HintT.tidx i.toNat (rEndT_z0 s i)), (17, HintT.tidx i.toNat (rEndT_z0 s i)), (26, HintT.old (Hint.app (rowL encI (out ++ [WCell.dlo (List.getD s.cells i.toNat default)])))), (30, hvI (i + 1))] 0 [] []) [2, 3, 6, 7, 8] [(2, KS.auto), (3, KS.auto), (4, KS.auto), (7, KS.cells [] (rowL encI (out ++ [WCell.dlo (List.getD s.cells i.toNat default)])))] [] = some ⟨23, 66, rEndT_t1, [], .run, none, rEndT_v1 s c (i + 1) (out ++ [WCell.dlo (List.getD s.cells i.toNat default)]) (n + 1), rEndT_o1 s c (i + 1) (out ++ [WCell.dlo (List.getD s.cells i.toNat default)]) (n + 1),
 [CellsM 1 [] (rowL encI (out ++ [WCell.dlo (List.getD s.cells i.toNat default)])) (rowL encI (out ++ [WCell.dlo (List.getD s.cells i.toNat default)])), wq (i + 1) = i + 1, Array.size (rowL encI out) = n * (0 + 1) ∧ n + 1 ≤ maxLen ∧ (n + 1) * 8 ≤ 140737488355328 ∧ rowL encI out ++ #[Value.int IntKind.i64 (WCell.dlo (List.getD s.cells i.toNat default))] = rowL encI (out ++ [WCell.dlo (List.getD s.cells i.toNat default)]), i = (↑i.toNat : Int) ∧ Int.toNat i < List.length s.cells ∧ Array.extract (rowL encWCell s.cells) (Int.toNat i * TypeInfo.size Try.t59) (Int.toNat i * TypeInfo.size Try.t59 + TypeInfo.size Try.t59) = (rEndT_z0 s i), i = (↑i.toNat : Int) ∧ Int.toNat i < List.length s.cells ∧ Array.extract (rowL encWCell s.cells) (Int.toNat i * TypeInfo.size Try.t59) (Int.toNat i * TypeInfo.size Try.t59 + TypeInfo.size Try.t59) = (rEndT_z0 s i), ltq i (↑s.cells.length : Int) = true]⟩ := by kernel_rfl
theorem rEndT_s3 (B : Lo) (s : WShore) (c : WStorm) (i : Int) (out : List Int) (n : Nat) (dJ0 : Nat → Value) : endT (srunT Try.prog (okFn Try.prog) J0 B 9 1 (headC 23 66 (([2, 3, 6, 7, 8] : List Nat).zip (rEndT_v1 s c i out n)) dJ0 rEndT_t1) (headH (rEndT_o1 s c i out n)) (2 + (rEndT_o1 s c i out n).length)
 [(4, hvF)] 0 [] []) [{ k := 5, rs := [], cs := rowL encI out }] = some (Value.agg #[Value.int IntKind.i64 c.whi, Value.int IntKind.i64 c.fhi, Value.int IntKind.i64 c.thi, Value.int IntKind.i64 s.llo, slT n (Fz.cs { k := 5, rs := [], cs := rowL encI out })],
 [CellsT (Fz.rs { k := 5, rs := [], cs := rowL encI out }) (rowL encI out) (Fz.cs { k := 5, rs := [], cs := rowL encI out }), ltq i (↑s.cells.length : Int) = false]) := by kernel_rfl
theorem rEndT_s4 (B : Lo) (s : WShore) (c : WStorm) : landM (srunT Try.prog (okFn Try.prog) J0 B 14 1 (entryC Try.prog 23 66 (([.agg (encShore s).toArray, .agg (encStorm c).toArray, .bool true]).map (pushT 0 4))) H00 1
 [] 0 [] []) [2, 3, 6, 7, 8] [(1, KS.auto), (3, KS.auto), (4, KS.auto)] [] = some ⟨23, 66, rEndT_t0, [], .run, none, rEndT_v0 s c (0), rEndT_o0 s c (0),
 []⟩ := by kernel_rfl
set_option maxHeartbeats 4000000 in
theorem rEndT_ls (s : WShore) (c : WStorm) (hn : s.cells.length ≤ 1000000) {B : Lo} (hJ : ∀ w, B.has w → J0 w) {c0 : CF} : ∀ m : Nat, (∀ (i : Int), s.cells.length - i.toNat = m → ∀ (h0 : 0 ≤ i), rEndT_h0 B c0 s c i → EndsT Try.prog B c0 (.agg #[.int .i64 c.whi, .int .i64 c.fhi, .int .i64 c.thi, .int .i64 s.llo, slI ((s.cells.drop i.toNat).map WCell.dlo)])) ∧ (∀ (i : Int) (out : List Int) (n : Nat), s.cells.length - i.toNat = m → ∀ (h0 : 0 ≤ i) (hm : n = out.length) (hx : (n : Int) ≤ i), rEndT_h1 B c0 s c i out n → EndsT Try.prog B c0 (.agg #[.int .i64 c.whi, .int .i64 c.fhi, .int .i64 c.thi, .int .i64 s.llo, slI (out ++ (s.cells.drop i.toNat).map WCell.dlo)])) := by
 intro m0
 induction m0 using Nat.strongRecOn with
 | _ m0 ih0 =>
   refine ⟨?_, ?_⟩
   ·intro i hm0 h0 ⟨dJ0, hdJ0, hg0⟩
    by_cases q0 : (i : Int) < ((↑s.cells.length : Int))
    ·
     have s2 := map_cons (f := WCell.dlo) (l := s.cells) h0 q0
     exact ((ih0 _ (by omega)).2 (i + 1) ([WCell.dlo (List.getD s.cells i.toNat default)]) (1) rfl (by omega) (by (simp_all; done)) (by omega)
      (hg0.landM okF hJ mixed_ok (rEndT_s0 B s c i dJ0)
      ⟨(cellsM_lit (by kernel_rfl)), ⟨(wq_in (by omega) (by omega)), ⟨⟨by omega, by omega, (rowL_extract (z := 4) (fun _ => rfl) (by omega))⟩, ⟨⟨by omega, by omega, (rowL_extract (z := 4) (fun _ => rfl) (by omega))⟩, ⟨(ltq_t q0), trivial⟩⟩⟩⟩⟩ (by kernel_rfl) (by kernel_rfl))).cast (by (rw [s2]; rfl))
    ·
     have s2 := map_nil (f := WCell.dlo) (l := s.cells) (i := i) (by omega)
     exact (GoE.endsT okF hJ mixed_ok hg0 (rEndT_s1 B s c i dJ0)
      ⟨(ltq_f (Int.not_lt.1 q0)), trivial⟩).cast (by (rw [s2]; rfl))
   ·intro i out n hm0 h0 hm hx ⟨dJ0, hdJ0, hg0⟩
    by_cases q0 : (i : Int) < ((↑s.cells.length : Int))
    ·
     have s2 := map_cons (f := WCell.dlo) (l := s.cells) h0 q0
     exact ((ih0 _ (by omega)).2 (i + 1) (out ++ [WCell.dlo (List.getD s.cells i.toNat default)]) (n + 1) rfl (by omega) (by (simp_all; done)) (by omega)
      (hg0.landM okF hJ mixed_ok (rEndT_s2 B s c i out n dJ0)
      ⟨(cellsM_simple (rowL_simple (fun x => List.all_eq_true.1 (by rfl)))), ⟨(wq_in (by omega) (by omega)), ⟨⟨(by (rw [rowL_size (z := 1) (fun _ => rfl)]; first | omega | (simp; omega) | (simp_all; done))), (by unfold maxLen; omega), by omega, by first | exact rowL_push | exact rowL_pushC rfl⟩, ⟨⟨by omega, by omega, (rowL_extract (z := 4) (fun _ => rfl) (by omega))⟩, ⟨⟨by omega, by omega, (rowL_extract (z := 4) (fun _ => rfl) (by omega))⟩, ⟨(ltq_t q0), trivial⟩⟩⟩⟩⟩⟩ (by kernel_rfl) (by kernel_rfl))).cast (by (rw [s2]; simp; done))
    ·
     have s2 := map_nil (f := WCell.dlo) (l := s.cells) (i := i) (by omega)
     exact (GoE.endsT okF hJ mixed_ok hg0 (rEndT_s3 B s c i out n dJ0)
      ⟨(rowL_cellsT (fun x => List.all_eq_true.1 (by rfl))), ⟨(ltq_f (Int.not_lt.1 q0)), trivial⟩⟩).cast (by (rw [s2, List.append_nil, hm]; done))
set_option maxHeartbeats 4000000 in
theorem rEndT_e (s : WShore) (c : WStorm) (hn : s.cells.length ≤ 1000000) {B : Lo} (hJ : ∀ w, B.has w → J0 w) : EndsT Try.prog B (entryC Try.prog 23 66 (([.agg (encShore s).toArray, .agg (encStorm c).toArray, .bool true]).map (pushT 0 4))) (.agg (encTruth (endE true s c)).toArray) := by
 exact ((rEndT_ls s c hn hJ _).1 (0) rfl (by omega)
  (GoE.start.landM okF hJ mixed_ok (rEndT_s4 B s c)
  trivial (by kernel_rfl) (by kernel_rfl))).cast (by rfl)
theorem rEndT (s : WShore) (c : WStorm) (hn : s.cells.length ≤ 1000000) : PureC Try.prog J0 23 #[.agg (encShore s).toArray, .agg (encStorm c).toArray, .bool true] (.agg (encTruth (endE true s c)).toArray) :=
 pureC_of (ts := [.agg (encShore s).toArray, .agg (encStorm c).toArray, .bool true]) J0_st (c0 := entryC Try.prog 23 66 (([.agg (encShore s).toArray, .agg (encStorm c).toArray, .bool true]).map (pushT 0 4))) (by kernel_rfl) (by kernel_rfl) fun B hJ => rEndT_e s c hn hJ
def rEndF_v0 (s : WShore) (c : WStorm) (i : Int) : List Value := [Value.bool false, pA 2 0, pA 3 0, pA 4 0, .int .i64 i]
def rEndF_o0 (s : WShore) (c : WStorm) (i : Int) : List Obj := [Obj.cells #[topV 1 (slT s.cells.length (rowL encWCell s.cells)), topV 1 (slT s.works.length (rowL encWWork s.works)), Value.int IntKind.i64 s.reef, Value.int IntKind.i64 s.llo, Value.int IntKind.i64 s.lhi] 27, Obj.cells #[Value.int IntKind.i64 0, Value.int IntKind.i64 0, Value.int IntKind.i64 0, Value.int IntKind.i64 0, Value.slice none 0 0] 38, Obj.cells #[Value.int IntKind.i64 c.wlo, Value.int IntKind.i64 c.flo, Value.int IntKind.i64 c.tlo, Value.int IntKind.i64 s.lhi, Value.slice none 0 0] 38]
noncomputable def rEndF_t0 : List Item := ([.code [1, 1, 1, 0, 1, 0, 0], .inLoop [1, 1, 1, 0, 1, 0, 0], .inBlock 0, .code [1, 1, 1, 1]]).map (it (bodyOf Try.prog 23))
def rEndF_h0 (B : Lo) (c0 : CF) (s : WShore) (c : WStorm) (i : Int) : Prop := ∃ dJ : Nat → Value, (∀ t, Loose (dJ t)) ∧ GoE Try.prog B c0 H00 1 (headC 23 66 (([2, 3, 6, 7, 8] : List Nat).zip (rEndF_v0 s c i)) dJ rEndF_t0) (headH (rEndF_o0 s c i)) (2 + (rEndF_o0 s c i).length) []
def rEndF_v1 (s : WShore) (c : WStorm) (i : Int) (out : List Int) (n : Nat) : List Value := [Value.bool false, pA 2 0, pA 3 0, pA 4 0, .int .i64 i]
def rEndF_o1 (s : WShore) (c : WStorm) (i : Int) (out : List Int) (n : Nat) : List Obj := [Obj.cells #[topV 1 (slT s.cells.length (rowL encWCell s.cells)), topV 1 (slT s.works.length (rowL encWWork s.works)), Value.int IntKind.i64 s.reef, Value.int IntKind.i64 s.llo, Value.int IntKind.i64 s.lhi] 27, Obj.cells #[Value.int IntKind.i64 0, Value.int IntKind.i64 0, Value.int IntKind.i64 0, Value.int IntKind.i64 0, Value.slice none 0 0] 38, .cells #[.int .i64 c.wlo, .int .i64 c.flo, .int .i64 c.tlo, .int .i64 s.lhi, .slice (some ⟨5, 0, none⟩) n 1] 38 (0, 0), .cells (rowL encI out) 3 (0, 0)]
noncomputable def rEndF_t1 : List Item := ([.code [1, 1, 1, 0, 1, 0, 0], .inLoop [1, 1, 1, 0, 1, 0, 0], .inBlock 0, .code [1, 1, 1, 1]]).map (it (bodyOf Try.prog 23))
def rEndF_h1 (B : Lo) (c0 : CF) (s : WShore) (c : WStorm) (i : Int) (out : List Int) (n : Nat) : Prop := ∃ dJ : Nat → Value, (∀ t, Loose (dJ t)) ∧ GoE Try.prog B c0 H00 1 (headC 23 66 (([2, 3, 6, 7, 8] : List Nat).zip (rEndF_v1 s c i out n)) dJ rEndF_t1) (headH (rEndF_o1 s c i out n)) (2 + (rEndF_o1 s c i out n).length) []
noncomputable def rEndF_z0 (s : WShore) (i : Int) : Array Value := #[Value.int IntKind.i64 (WCell.ground (List.getD s.cells i.toNat default)), Value.int IntKind.i64 (WCell.dlo (List.getD s.cells i.toNat default)), Value.int IntKind.i64 (WCell.dhi (List.getD s.cells i.toNat default)), Value.int IntKind.i64 (WCell.floor (List.getD s.cells i.toNat default))]
theorem rEndF_s0 (B : Lo) (s : WShore) (c : WStorm) (i : Int) (dJ0 : Nat → Value) : landM (srunT Try.prog (okFn Try.prog) J0 B 18 1 (headC 23 66 (([2, 3, 6, 7, 8] : List Nat).zip (rEndF_v0 s c i)) dJ0 rEndF_t0) (headH (rEndF_o0 s c i)) (2 + (rEndF_o0 s c i).length)
 [(4, hvT), (8, HintT.tidx i.toNat (rEndF_z0 s i)), (22, hvI (i + 1))] 0 [] []) [2, 3, 6, 7, 8] [(2, KS.auto), (3, KS.auto), (4, KS.auto), (6, KS.cells [] (rowL encI [WCell.dhi (List.getD s.cells i.toNat default)]))] [] = some ⟨23, 66, rEndF_t1, [], .run, none, rEndF_v1 s c (i + 1) ([WCell.dhi (List.getD s.cells i.toNat default)]) (1), rEndF_o1 s c (i + 1) ([WCell.dhi (List.getD s.cells i.toNat default)]) (1),
 [CellsM 1 [] (#[Value.int IntKind.i64 (WCell.dhi (List.getD s.cells i.toNat default))]) (rowL encI [WCell.dhi (List.getD s.cells i.toNat default)]), wq (i + 1) = i + 1, i = (↑i.toNat : Int) ∧ Int.toNat i < List.length s.cells ∧ Array.extract (rowL encWCell s.cells) (Int.toNat i * TypeInfo.size Try.t59) (Int.toNat i * TypeInfo.size Try.t59 + TypeInfo.size Try.t59) = (rEndF_z0 s i), ltq i (↑s.cells.length : Int) = true]⟩ := by kernel_rfl
theorem rEndF_s1 (B : Lo) (s : WShore) (c : WStorm) (i : Int) (dJ0 : Nat → Value) : endT (srunT Try.prog (okFn Try.prog) J0 B 9 1 (headC 23 66 (([2, 3, 6, 7, 8] : List Nat).zip (rEndF_v0 s c i)) dJ0 rEndF_t0) (headH (rEndF_o0 s c i)) (2 + (rEndF_o0 s c i).length)
 [(4, hvF)] 0 [] []) [] = some (Value.agg #[Value.int IntKind.i64 c.wlo, Value.int IntKind.i64 c.flo, Value.int IntKind.i64 c.tlo, Value.int IntKind.i64 s.lhi, slT 0 #[]],
 [ltq i (↑s.cells.length : Int) = false]) := by kernel_rfl
theorem rEndF_s2 (B : Lo) (s : WShore) (c : WStorm) (i : Int) (out : List Int) (n : Nat) (dJ0 : Nat → Value) : landM (srunT Try.prog (okFn Try.prog) J0 B 18 1 (headC 23 66 (([2, 3, 6, 7, 8] : List Nat).zip (rEndF_v1 s c i out n)) dJ0 rEndF_t1) (headH (rEndF_o1 s c i out n)) (2 + (rEndF_o1 s c i out n).length)
 [(4, hvT), (8, HintT.tidx i.toNat (rEndF_z0 s i)), (18, HintT.old (Hint.app (rowL encI (out ++ [WCell.dhi (List.getD s.cells i.toNat default)])))), (22, hvI (i + 1))] 0 [] []) [2, 3, 6, 7, 8] [(2, KS.auto), (3, KS.auto), (4, KS.auto), (7, KS.cells [] (rowL encI (out ++ [WCell.dhi (List.getD s.cells i.toNat default)])))] [] = some ⟨23, 66, rEndF_t1, [], .run, none, rEndF_v1 s c (i + 1) (out ++ [WCell.dhi (List.getD s.cells i.toNat default)]) (n + 1), rEndF_o1 s c (i + 1) (out ++ [WCell.dhi (List.getD s.cells i.toNat default)]) (n + 1),
 [CellsM 1 [] (rowL encI (out ++ [WCell.dhi (List.getD s.cells i.toNat default)])) (rowL encI (out ++ [WCell.dhi (List.getD s.cells i.toNat default)])), wq (i + 1) = i + 1, Array.size (rowL encI out) = n * (0 + 1) ∧ n + 1 ≤ maxLen ∧ (n + 1) * 8 ≤ 140737488355328 ∧ rowL encI out ++ #[Value.int IntKind.i64 (WCell.dhi (List.getD s.cells i.toNat default))] = rowL encI (out ++ [WCell.dhi (List.getD s.cells i.toNat default)]), i = (↑i.toNat : Int) ∧ Int.toNat i < List.length s.cells ∧ Array.extract (rowL encWCell s.cells) (Int.toNat i * TypeInfo.size Try.t59) (Int.toNat i * TypeInfo.size Try.t59 + TypeInfo.size Try.t59) = (rEndF_z0 s i), ltq i (↑s.cells.length : Int) = true]⟩ := by kernel_rfl
theorem rEndF_s3 (B : Lo) (s : WShore) (c : WStorm) (i : Int) (out : List Int) (n : Nat) (dJ0 : Nat → Value) : endT (srunT Try.prog (okFn Try.prog) J0 B 9 1 (headC 23 66 (([2, 3, 6, 7, 8] : List Nat).zip (rEndF_v1 s c i out n)) dJ0 rEndF_t1) (headH (rEndF_o1 s c i out n)) (2 + (rEndF_o1 s c i out n).length)
 [(4, hvF)] 0 [] []) [{ k := 5, rs := [], cs := rowL encI out }] = some (Value.agg #[Value.int IntKind.i64 c.wlo, Value.int IntKind.i64 c.flo, Value.int IntKind.i64 c.tlo, Value.int IntKind.i64 s.lhi, slT n (Fz.cs { k := 5, rs := [], cs := rowL encI out })],
 [CellsT (Fz.rs { k := 5, rs := [], cs := rowL encI out }) (rowL encI out) (Fz.cs { k := 5, rs := [], cs := rowL encI out }), ltq i (↑s.cells.length : Int) = false]) := by kernel_rfl
theorem rEndF_s4 (B : Lo) (s : WShore) (c : WStorm) : landM (srunT Try.prog (okFn Try.prog) J0 B 14 1 (entryC Try.prog 23 66 (([.agg (encShore s).toArray, .agg (encStorm c).toArray, .bool false]).map (pushT 0 4))) H00 1
 [] 0 [] []) [2, 3, 6, 7, 8] [(1, KS.auto), (3, KS.auto), (4, KS.auto)] [] = some ⟨23, 66, rEndF_t0, [], .run, none, rEndF_v0 s c (0), rEndF_o0 s c (0),
 []⟩ := by kernel_rfl
set_option maxHeartbeats 4000000 in
theorem rEndF_ls (s : WShore) (c : WStorm) (hn : s.cells.length ≤ 1000000) {B : Lo} (hJ : ∀ w, B.has w → J0 w) {c0 : CF} : ∀ m : Nat, (∀ (i : Int), s.cells.length - i.toNat = m → ∀ (h0 : 0 ≤ i), rEndF_h0 B c0 s c i → EndsT Try.prog B c0 (.agg #[.int .i64 c.wlo, .int .i64 c.flo, .int .i64 c.tlo, .int .i64 s.lhi, slI ((s.cells.drop i.toNat).map WCell.dhi)])) ∧ (∀ (i : Int) (out : List Int) (n : Nat), s.cells.length - i.toNat = m → ∀ (h0 : 0 ≤ i) (hm : n = out.length) (hx : (n : Int) ≤ i), rEndF_h1 B c0 s c i out n → EndsT Try.prog B c0 (.agg #[.int .i64 c.wlo, .int .i64 c.flo, .int .i64 c.tlo, .int .i64 s.lhi, slI (out ++ (s.cells.drop i.toNat).map WCell.dhi)])) := by
 intro m0
 induction m0 using Nat.strongRecOn with
 | _ m0 ih0 =>
   refine ⟨?_, ?_⟩
   ·intro i hm0 h0 ⟨dJ0, hdJ0, hg0⟩
    by_cases q0 : (i : Int) < ((↑s.cells.length : Int))
    ·
     have s2 := map_cons (f := WCell.dhi) (l := s.cells) h0 q0
     exact ((ih0 _ (by omega)).2 (i + 1) ([WCell.dhi (List.getD s.cells i.toNat default)]) (1) rfl (by omega) (by (simp_all; done)) (by omega)
      (hg0.landM okF hJ mixed_ok (rEndF_s0 B s c i dJ0)
      ⟨(cellsM_lit (by kernel_rfl)), ⟨(wq_in (by omega) (by omega)), ⟨⟨by omega, by omega, (rowL_extract (z := 4) (fun _ => rfl) (by omega))⟩, ⟨(ltq_t q0), trivial⟩⟩⟩⟩ (by kernel_rfl) (by kernel_rfl))).cast (by (rw [s2]; rfl))
    ·
     have s2 := map_nil (f := WCell.dhi) (l := s.cells) (i := i) (by omega)
     exact (GoE.endsT okF hJ mixed_ok hg0 (rEndF_s1 B s c i dJ0)
      ⟨(ltq_f (Int.not_lt.1 q0)), trivial⟩).cast (by (rw [s2]; rfl))
   ·intro i out n hm0 h0 hm hx ⟨dJ0, hdJ0, hg0⟩
    by_cases q0 : (i : Int) < ((↑s.cells.length : Int))
    ·
     have s2 := map_cons (f := WCell.dhi) (l := s.cells) h0 q0
     exact ((ih0 _ (by omega)).2 (i + 1) (out ++ [WCell.dhi (List.getD s.cells i.toNat default)]) (n + 1) rfl (by omega) (by (simp_all; done)) (by omega)
      (hg0.landM okF hJ mixed_ok (rEndF_s2 B s c i out n dJ0)
      ⟨(cellsM_simple (rowL_simple (fun x => List.all_eq_true.1 (by rfl)))), ⟨(wq_in (by omega) (by omega)), ⟨⟨(by (rw [rowL_size (z := 1) (fun _ => rfl)]; first | omega | (simp; omega) | (simp_all; done))), (by unfold maxLen; omega), by omega, by first | exact rowL_push | exact rowL_pushC rfl⟩, ⟨⟨by omega, by omega, (rowL_extract (z := 4) (fun _ => rfl) (by omega))⟩, ⟨(ltq_t q0), trivial⟩⟩⟩⟩⟩ (by kernel_rfl) (by kernel_rfl))).cast (by (rw [s2]; simp; done))
    ·
     have s2 := map_nil (f := WCell.dhi) (l := s.cells) (i := i) (by omega)
     exact (GoE.endsT okF hJ mixed_ok hg0 (rEndF_s3 B s c i out n dJ0)
      ⟨(rowL_cellsT (fun x => List.all_eq_true.1 (by rfl))), ⟨(ltq_f (Int.not_lt.1 q0)), trivial⟩⟩).cast (by (rw [s2, List.append_nil, hm]; done))
set_option maxHeartbeats 4000000 in
theorem rEndF_e (s : WShore) (c : WStorm) (hn : s.cells.length ≤ 1000000) {B : Lo} (hJ : ∀ w, B.has w → J0 w) : EndsT Try.prog B (entryC Try.prog 23 66 (([.agg (encShore s).toArray, .agg (encStorm c).toArray, .bool false]).map (pushT 0 4))) (.agg (encTruth (endE false s c)).toArray) := by
 exact ((rEndF_ls s c hn hJ _).1 (0) rfl (by omega)
  (GoE.start.landM okF hJ mixed_ok (rEndF_s4 B s c)
  trivial (by kernel_rfl) (by kernel_rfl))).cast (by rfl)
theorem rEndF (s : WShore) (c : WStorm) (hn : s.cells.length ≤ 1000000) : PureC Try.prog J0 23 #[.agg (encShore s).toArray, .agg (encStorm c).toArray, .bool false] (.agg (encTruth (endE false s c)).toArray) :=
 pureC_of (ts := [.agg (encShore s).toArray, .agg (encStorm c).toArray, .bool false]) J0_st (c0 := entryC Try.prog 23 66 (([.agg (encShore s).toArray, .agg (encStorm c).toArray, .bool false]).map (pushT 0 4))) (by kernel_rfl) (by kernel_rfl) fun B hJ => rEndF_e s c hn hJ
end Go.Proofs.Ytiigkdhaofaijaa

