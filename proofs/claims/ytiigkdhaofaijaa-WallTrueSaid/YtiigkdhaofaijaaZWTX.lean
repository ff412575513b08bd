/- WallTrue: whatever the input, it returns true, and each argument reads as it did. The row, from the walk. -/
import Derived.Test.YtiigkdhaofaijaaZWT15
import Derived.Test.YtiigkdhaofaijaaZWT14
import Derived.JoinedOf
import Derived.Test.YtiigkdhaofaijaaRows
set_option linter.all false
namespace Go.Proofs.Ytiigkdhaofaijaa
open Go Go.CE Go.RowKit
theorem zipS_lo {us vs : List Int} (h : us.length = vs.length) {i : Int} (h0 : 0 ≤ i) (hk : i < us.length) : ((zipS us vs).getD i.toNat default).lo = us.getD i.toNat default := by rw [zipS_get h (by omega)]
theorem zipS_hi {us vs : List Int} (h : us.length = vs.length) {i : Int} (h0 : 0 ≤ i) (hk : i < us.length) : ((zipS us vs).getD i.toNat default).hi = vs.getD i.toNat default := by rw [zipS_get h (by omega)]
def wTrue_v0 (s : WShore) (c : WStorm) (plan : List Int) (t : WTruth) (i : Int) : List Value := [pA 2 0, topV 1 (slT (List.length (playL s plan t)) (rowL encI (playL s plan t))), topV 1 (slT (List.length (zipS (playL s plan (endE false s c)) (playL s plan (endE true s c)))) (rowL encSp (zipS (playL s plan (endE false s c)) (playL s plan (endE true s c))))), pA 3 0, .int .i64 i]
def wTrue_o0 (s : WShore) (c : WStorm) (plan : List Int) (t : WTruth) (i : Int) : List Obj := [Obj.cells #[topV 1 (slT (List.length (WShore.cells s)) (rowL encWCell (WShore.cells s))), topV 1 (slT (List.length (WShore.works s)) (rowL encWWork (WShore.works s))), Value.int IntKind.i64 (WShore.reef s), Value.int IntKind.i64 (WShore.llo s), Value.int IntKind.i64 (WShore.lhi s)] 27, Obj.cells #[Value.int IntKind.i64 (min (levelF s (endE false s c)) (levelF s (endE true s c))), Value.int IntKind.i64 (max (levelF s (endE false s c)) (levelF s (endE true s c)))] 25]
noncomputable def wTrue_t0 : List Item := ([.code [1, 1, 1, 1, 1, 1, 0, 1, 0, 0], .inLoop [1, 1, 1, 1, 1, 1, 0, 1, 0, 0], .inBlock 0, .code [1, 1, 1, 1, 1, 1, 1]]).map (it (bodyOf Try.prog 6))
def wTrue_h0 (B : Lo) (c0 : CF) (s : WShore) (c : WStorm) (plan : List Int) (t : WTruth) (i : Int) : Prop := ∃ dJ : Nat → Value, (∀ t, Loose (dJ t)) ∧ GoE Try.prog B c0 H00 1 (headC 6 175 (([4, 9, 11, 13, 15] : List Nat).zip (wTrue_v0 s c plan t i)) dJ wTrue_t0) (headH (wTrue_o0 s c plan t i)) (2 + (wTrue_o0 s c plan t i).length) []
noncomputable def wTrue_z0 (s : WShore) (c : WStorm) (plan : List Int) : Array Value := #[Value.agg #[slT (List.length (WShore.cells s)) (rowL encWCell (WShore.cells s)), slT (List.length (WShore.works s)) (rowL encWWork (WShore.works s)), Value.int IntKind.i64 (WShore.reef s), Value.int IntKind.i64 (WShore.llo s), Value.int IntKind.i64 (WShore.lhi s)], Value.agg #[Value.int IntKind.i64 (WStorm.wlo c), Value.int IntKind.i64 (WStorm.whi c), Value.int IntKind.i64 (WStorm.flo c), Value.int IntKind.i64 (WStorm.fhi c), Value.int IntKind.i64 (WStorm.tlo c), Value.int IntKind.i64 (WStorm.thi c)], slT (List.length plan) (rowL encI plan)]
noncomputable def wTrue_z1 (s : WShore) (c : WStorm) (plan : List Int) (i : Int) : Array Value := #[Value.int IntKind.i64 (Span.lo (List.getD (zipS (playL s plan (endE false s c)) (playL s plan (endE true s c))) (Int.toNat i) default)), Value.int IntKind.i64 (Span.hi (List.getD (zipS (playL s plan (endE false s c)) (playL s plan (endE true s c))) (Int.toNat i) default))]
noncomputable def wTrue_z2 (s : WShore) : Array Value := #[Value.agg #[slT (List.length (WShore.cells s)) (rowL encWCell (WShore.cells s)), slT (List.length (WShore.works s)) (rowL encWWork (WShore.works s)), Value.int IntKind.i64 (WShore.reef s), Value.int IntKind.i64 (WShore.llo s), Value.int IntKind.i64 (WShore.lhi s)]]
noncomputable def wTrue_z3 (s : WShore) : Array Value := #[slT (List.length (WShore.cells s)) (rowL encWCell (WShore.cells s)), slT (List.length (WShore.works s)) (rowL encWWork (WShore.works s)), Value.int IntKind.i64 (WShore.reef s), Value.int IntKind.i64 (WShore.llo s), Value.int IntKind.i64 (WShore.lhi s)]
noncomputable def wTrue_z4 (c : WStorm) : Array Value := #[Value.int IntKind.i64 (WStorm.wlo c), Value.int IntKind.i64 (WStorm.whi c), Value.int IntKind.i64 (WStorm.flo c), Value.int IntKind.i64 (WStorm.fhi c), Value.int IntKind.i64 (WStorm.tlo c), Value.int IntKind.i64 (WStorm.thi c)]
noncomputable def wTrue_z5 (t : WTruth) : Array Value := #[Value.int IntKind.i64 (WTruth.wind t), Value.int IntKind.i64 (WTruth.fetch t), Value.int IntKind.i64 (WTruth.tide t), Value.int IntKind.i64 (WTruth.loss t), slT (List.length (WTruth.drags t)) (rowL encI (WTruth.drags t))]
noncomputable def wTrue_z6 (s : WShore) (plan : List Int) (t : WTruth) (i : Int) : Array Value := #[Value.int IntKind.i64 (List.getD (playL s plan t) (Int.toNat (i - 1)) default)]
noncomputable def wTrue_z7 (s : WShore) (plan : List Int) (t : WTruth) (i : Int) : Array Value := #[Value.int IntKind.i64 (List.getD (playL s plan t) (Int.toNat i) default)]
noncomputable def wTrue_p0 (B : Lo) (s : WShore) (c : WStorm) (plan : List Int) (t : WTruth) (i : Int) (dJ0 : Nat → Value) : List Prop := [i = (↑(Int.toNat i) : Int) ∧ Int.toNat i < List.length (zipS (playL s plan (endE false s c)) (playL s plan (endE true s c))) ∧ Array.extract (rowL encSp (zipS (playL s plan (endE false s c)) (playL s plan (endE true s c)))) (Int.toNat i * TypeInfo.size Try.t25) (Int.toNat i * TypeInfo.size Try.t25 + TypeInfo.size Try.t25) = (wTrue_z1 s c plan i), i = (↑(Int.toNat i) : Int) ∧ Int.toNat i < List.length (playL s plan t) ∧ Array.extract (rowL encI (playL s plan t)) (Int.toNat i * TypeInfo.size Try.t3) (Int.toNat i * TypeInfo.size Try.t3 + TypeInfo.size Try.t3) = (wTrue_z7 s plan t i), ltq i (↑(List.length (playL s plan t)) : Int) = true] ++ ([] : List Prop)
noncomputable def wTrue_q0 (s : WShore) (c : WStorm) (plan : List Int) (t : WTruth) (i : Int) (dJ0 : Nat → Value) : ScriptT := [(3, hvT), (6, HintT.tidx (Int.toNat i) (wTrue_z7 s plan t i)), (10, HintT.tidx (Int.toNat i) (wTrue_z1 s c plan i))]
set_option maxRecDepth 100000 in
theorem wTrue_s0 (B : Lo) (s : WShore) (c : WStorm) (plan : List Int) (t : WTruth) (i : Int) (dJ0 : Nat → Value) : endT (srunT Try.prog (okFn Try.prog) J0 B 14 1 (headC 6 175 (([4, 9, 11, 13, 15] : List Nat).zip (wTrue_v0 s c plan t i)) dJ0 wTrue_t0) (headH (wTrue_o0 s c plan t i)) (2 + (wTrue_o0 s c plan t i).length)
 (wTrue_q0 s c plan t i dJ0 ++ [(13, hvT)]) 0 [] []) [] = some (Value.bool false,
 [ltq (List.getD (playL s plan t) (Int.toNat i) default) (Span.lo (List.getD (zipS (playL s plan (endE false s c)) (playL s plan (endE true s c))) (Int.toNat i) default)) = true] ++ wTrue_p0 B s c plan t i dJ0) := by kernel_rfl
noncomputable def wTrue_p1 (B : Lo) (s : WShore) (c : WStorm) (plan : List Int) (t : WTruth) (i : Int) (dJ0 : Nat → Value) : List Prop := [i = (↑(Int.toNat i) : Int) ∧ Int.toNat i < List.length (zipS (playL s plan (endE false s c)) (playL s plan (endE true s c))) ∧ Array.extract (rowL encSp (zipS (playL s plan (endE false s c)) (playL s plan (endE true s c)))) (Int.toNat i * TypeInfo.size Try.t25) (Int.toNat i * TypeInfo.size Try.t25 + TypeInfo.size Try.t25) = (wTrue_z1 s c plan i), i = (↑(Int.toNat i) : Int) ∧ Int.toNat i < List.length (playL s plan t) ∧ Array.extract (rowL encI (playL s plan t)) (Int.toNat i * TypeInfo.size Try.t3) (Int.toNat i * TypeInfo.size Try.t3 + TypeInfo.size Try.t3) = (wTrue_z7 s plan t i), ltq (List.getD (playL s plan t) (Int.toNat i) default) (Span.lo (List.getD (zipS (playL s plan (endE false s c)) (playL s plan (endE true s c))) (Int.toNat i) default)) = false] ++ wTrue_p0 B s c plan t i dJ0
noncomputable def wTrue_q1 (s : WShore) (c : WStorm) (plan : List Int) (t : WTruth) (i : Int) (dJ0 : Nat → Value) : ScriptT := wTrue_q0 s c plan t i dJ0 ++ [(13, hvF), (17, HintT.tidx (Int.toNat i) (wTrue_z7 s plan t i)), (21, HintT.tidx (Int.toNat i) (wTrue_z1 s c plan i))]
set_option maxRecDepth 100000 in
theorem wTrue_s1 (B : Lo) (s : WShore) (c : WStorm) (plan : List Int) (t : WTruth) (i : Int) (dJ0 : Nat → Value) : endT (srunT Try.prog (okFn Try.prog) J0 B 14 1 (headC 6 175 (([4, 9, 11, 13, 15] : List Nat).zip (wTrue_v0 s c plan t i)) dJ0 wTrue_t0) (headH (wTrue_o0 s c plan t i)) (2 + (wTrue_o0 s c plan t i).length)
 (wTrue_q1 s c plan t i dJ0 ++ [(24, hvT)]) 0 [] []) [] = some (Value.bool false,
 [ltq (Span.hi (List.getD (zipS (playL s plan (endE false s c)) (playL s plan (endE true s c))) (Int.toNat i) default)) (List.getD (playL s plan t) (Int.toNat i) default) = true] ++ wTrue_p1 B s c plan t i dJ0) := by kernel_rfl
noncomputable def wTrue_p2 (B : Lo) (s : WShore) (c : WStorm) (plan : List Int) (t : WTruth) (i : Int) (dJ0 : Nat → Value) : List Prop := [i = (↑(Int.toNat i) : Int) ∧ Int.toNat i < List.length (playL s plan t) ∧ Array.extract (rowL encI (playL s plan t)) (Int.toNat i * TypeInfo.size Try.t3) (Int.toNat i * TypeInfo.size Try.t3 + TypeInfo.size Try.t3) = (wTrue_z7 s plan t i), ltq (Span.hi (List.getD (zipS (playL s plan (endE false s c)) (playL s plan (endE true s c))) (Int.toNat i) default)) (List.getD (playL s plan t) (Int.toNat i) default) = false] ++ wTrue_p1 B s c plan t i dJ0
noncomputable def wTrue_q2 (s : WShore) (c : WStorm) (plan : List Int) (t : WTruth) (i : Int) (dJ0 : Nat → Value) : ScriptT := wTrue_q1 s c plan t i dJ0 ++ [(24, hvF), (29, HintT.tidx (Int.toNat i) (wTrue_z7 s plan t i))]
set_option maxRecDepth 100000 in
theorem wTrue_s2 (B : Lo) (s : WShore) (c : WStorm) (plan : List Int) (t : WTruth) (i : Int) (dJ0 : Nat → Value) : endT (srunT Try.prog (okFn Try.prog) J0 B 14 1 (headC 6 175 (([4, 9, 11, 13, 15] : List Nat).zip (wTrue_v0 s c plan t i)) dJ0 wTrue_t0) (headH (wTrue_o0 s c plan t i)) (2 + (wTrue_o0 s c plan t i).length)
 (wTrue_q2 s c plan t i dJ0 ++ [(31, hvT)]) 0 [] []) [] = some (Value.bool false,
 [ltq (List.getD (playL s plan t) (Int.toNat i) default) 0 = true] ++ wTrue_p2 B s c plan t i dJ0) := by kernel_rfl
noncomputable def wTrue_p3 (B : Lo) (s : WShore) (c : WStorm) (plan : List Int) (t : WTruth) (i : Int) (dJ0 : Nat → Value) : List Prop := [i = (↑(Int.toNat i) : Int) ∧ Int.toNat i < List.length (playL s plan t) ∧ Array.extract (rowL encI (playL s plan t)) (Int.toNat i * TypeInfo.size Try.t3) (Int.toNat i * TypeInfo.size Try.t3 + TypeInfo.size Try.t3) = (wTrue_z7 s plan t i), ltq (List.getD (playL s plan t) (Int.toNat i) default) 0 = false] ++ wTrue_p2 B s c plan t i dJ0
noncomputable def wTrue_q3 (s : WShore) (c : WStorm) (plan : List Int) (t : WTruth) (i : Int) (dJ0 : Nat → Value) : ScriptT := wTrue_q2 s c plan t i dJ0 ++ [(31, hvF), (36, HintT.tidx (Int.toNat i) (wTrue_z7 s plan t i))]
noncomputable def wTrue_p4 (B : Lo) (s : WShore) (c : WStorm) (plan : List Int) (t : WTruth) (i : Int) (dJ0 : Nat → Value) : List Prop := [wq (max (levelF s (endE false s c)) (levelF s (endE true s c)) - WCell.ground (List.getD (WShore.cells s) (Int.toNat i) default)) = max (levelF s (endE false s c)) (levelF s (endE true s c)) - WCell.ground (List.getD (WShore.cells s) (Int.toNat i) default), i = (↑(Int.toNat i) : Int) ∧ Int.toNat i < List.length (WShore.cells s) ∧ Array.extract (rowL encWCell (WShore.cells s)) (Int.toNat i * TypeInfo.size Try.t59) (Int.toNat i * TypeInfo.size Try.t59 + TypeInfo.size Try.t59) = #[Value.int IntKind.i64 (WCell.ground (List.getD (WShore.cells s) (Int.toNat i) default)), Value.int IntKind.i64 (WCell.dlo (List.getD (WShore.cells s) (Int.toNat i) default)), Value.int IntKind.i64 (WCell.dhi (List.getD (WShore.cells s) (Int.toNat i) default)), Value.int IntKind.i64 (WCell.floor (List.getD (WShore.cells s) (Int.toNat i) default))], i = (↑(Int.toNat i) : Int) ∧ Int.toNat i < List.length (playL s plan t) ∧ Array.extract (rowL encI (playL s plan t)) (Int.toNat i * TypeInfo.size Try.t3) (Int.toNat i * TypeInfo.size Try.t3 + TypeInfo.size Try.t3) = (wTrue_z7 s plan t i), ltq 0 (List.getD (playL s plan t) (Int.toNat i) default) = true] ++ wTrue_p3 B s c plan t i dJ0
noncomputable def wTrue_q4 (s : WShore) (c : WStorm) (plan : List Int) (t : WTruth) (i : Int) (dJ0 : Nat → Value) : ScriptT := wTrue_q3 s c plan t i dJ0 ++ [(38, hvT), (42, HintT.tidx (Int.toNat i) (wTrue_z7 s plan t i)), (49, HintT.tidx (Int.toNat i) #[Value.int IntKind.i64 (WCell.ground (List.getD (WShore.cells s) (Int.toNat i) default)), Value.int IntKind.i64 (WCell.dlo (List.getD (WShore.cells s) (Int.toNat i) default)), Value.int IntKind.i64 (WCell.dhi (List.getD (WShore.cells s) (Int.toNat i) default)), Value.int IntKind.i64 (WCell.floor (List.getD (WShore.cells s) (Int.toNat i) default))]), (52, hvI (max (levelF s (endE false s c)) (levelF s (endE true s c)) - WCell.ground (List.getD (WShore.cells s) (Int.toNat i) default)))]
set_option maxRecDepth 100000 in
theorem wTrue_s3 (B : Lo) (s : WShore) (c : WStorm) (plan : List Int) (t : WTruth) (i : Int) (dJ0 : Nat → Value) : endT (srunT Try.prog (okFn Try.prog) J0 B 14 1 (headC 6 175 (([4, 9, 11, 13, 15] : List Nat).zip (wTrue_v0 s c plan t i)) dJ0 wTrue_t0) (headH (wTrue_o0 s c plan t i)) (2 + (wTrue_o0 s c plan t i).length)
 (wTrue_q4 s c plan t i dJ0 ++ [(53, hvT)]) 0 [] []) [] = some (Value.bool false,
 [ltq (max (levelF s (endE false s c)) (levelF s (endE true s c)) - WCell.ground (List.getD (WShore.cells s) (Int.toNat i) default)) (List.getD (playL s plan t) (Int.toNat i) default) = true] ++ wTrue_p4 B s c plan t i dJ0) := by kernel_rfl
noncomputable def wTrue_p5 (B : Lo) (s : WShore) (c : WStorm) (plan : List Int) (t : WTruth) (i : Int) (dJ0 : Nat → Value) : List Prop := [ltq (max (levelF s (endE false s c)) (levelF s (endE true s c)) - WCell.ground (List.getD (WShore.cells s) (Int.toNat i) default)) (List.getD (playL s plan t) (Int.toNat i) default) = false] ++ wTrue_p4 B s c plan t i dJ0
noncomputable def wTrue_q5 (s : WShore) (c : WStorm) (plan : List Int) (t : WTruth) (i : Int) (dJ0 : Nat → Value) : ScriptT := wTrue_q4 s c plan t i dJ0 ++ [(53, hvF)]
noncomputable def wTrue_p6 (B : Lo) (s : WShore) (c : WStorm) (plan : List Int) (t : WTruth) (i : Int) (dJ0 : Nat → Value) : List Prop := [i - 1 = (↑(Int.toNat (i - 1)) : Int) ∧ Int.toNat (i - 1) < List.length (playL s plan t) ∧ Array.extract (rowL encI (playL s plan t)) (Int.toNat (i - 1) * TypeInfo.size Try.t3) (Int.toNat (i - 1) * TypeInfo.size Try.t3 + TypeInfo.size Try.t3) = (wTrue_z6 s plan t i), wq (i - 1) = i - 1, ltq 0 i = true] ++ wTrue_p5 B s c plan t i dJ0
noncomputable def wTrue_q6 (s : WShore) (c : WStorm) (plan : List Int) (t : WTruth) (i : Int) (dJ0 : Nat → Value) : ScriptT := wTrue_q5 s c plan t i dJ0 ++ [(58, hvT), (62, hvI (i - 1)), (63, HintT.tidx (Int.toNat (i - 1)) (wTrue_z6 s plan t i))]
noncomputable def wTrue_p7 (B : Lo) (s : WShore) (c : WStorm) (plan : List Int) (t : WTruth) (i : Int) (dJ0 : Nat → Value) : List Prop := [i = (↑(Int.toNat i) : Int) ∧ Int.toNat i < List.length (playL s plan t) ∧ Array.extract (rowL encI (playL s plan t)) (Int.toNat i * TypeInfo.size Try.t3) (Int.toNat i * TypeInfo.size Try.t3 + TypeInfo.size Try.t3) = (wTrue_z7 s plan t i), eqq (List.getD (playL s plan t) (Int.toNat (i - 1)) default) 0 = true] ++ wTrue_p6 B s c plan t i dJ0
noncomputable def wTrue_q7 (s : WShore) (c : WStorm) (plan : List Int) (t : WTruth) (i : Int) (dJ0 : Nat → Value) : ScriptT := wTrue_q6 s c plan t i dJ0 ++ [(65, hvT), (70, HintT.tidx (Int.toNat i) (wTrue_z7 s plan t i))]
set_option maxRecDepth 100000 in
theorem wTrue_s4 (B : Lo) (s : WShore) (c : WStorm) (plan : List Int) (t : WTruth) (i : Int) (dJ0 : Nat → Value) : endT (srunT Try.prog (okFn Try.prog) J0 B 14 1 (headC 6 175 (([4, 9, 11, 13, 15] : List Nat).zip (wTrue_v0 s c plan t i)) dJ0 wTrue_t0) (headH (wTrue_o0 s c plan t i)) (2 + (wTrue_o0 s c plan t i).length)
 (wTrue_q7 s c plan t i dJ0 ++ [(72, hvT)]) 0 [] []) [] = some (Value.bool false,
 [(!eqq (List.getD (playL s plan t) (Int.toNat i) default) 0) = true] ++ wTrue_p7 B s c plan t i dJ0) := by kernel_rfl
set_option maxRecDepth 100000 in
theorem wTrue_s5 (B : Lo) (s : WShore) (c : WStorm) (plan : List Int) (t : WTruth) (i : Int) (dJ0 : Nat → Value) : landM (srunT Try.prog (okFn Try.prog) J0 B 14 1 (headC 6 175 (([4, 9, 11, 13, 15] : List Nat).zip (wTrue_v0 s c plan t i)) dJ0 wTrue_t0) (headH (wTrue_o0 s c plan t i)) (2 + (wTrue_o0 s c plan t i).length)
 (wTrue_q7 s c plan t i dJ0 ++ [(72, hvF), (76, hvI (i + 1))]) 0 [] []) [4, 9, 11, 13, 15] [(2, KS.auto), (3, KS.auto)] [] = some ⟨6, 175, wTrue_t0, [], .run, none, wTrue_v0 s c plan t (i + 1), wTrue_o0 s c plan t (i + 1),
 [wq (i + 1) = i + 1, (!eqq (List.getD (playL s plan t) (Int.toNat i) default) 0) = false] ++ wTrue_p7 B s c plan t i dJ0⟩ := by kernel_rfl
set_option maxRecDepth 100000 in
theorem wTrue_s6 (B : Lo) (s : WShore) (c : WStorm) (plan : List Int) (t : WTruth) (i : Int) (dJ0 : Nat → Value) : landM (srunT Try.prog (okFn Try.prog) J0 B 14 1 (headC 6 175 (([4, 9, 11, 13, 15] : List Nat).zip (wTrue_v0 s c plan t i)) dJ0 wTrue_t0) (headH (wTrue_o0 s c plan t i)) (2 + (wTrue_o0 s c plan t i).length)
 (wTrue_q6 s c plan t i dJ0 ++ [(65, hvF), (76, hvI (i + 1))]) 0 [] []) [4, 9, 11, 13, 15] [(2, KS.auto), (3, KS.auto)] [] = some ⟨6, 175, wTrue_t0, [], .run, none, wTrue_v0 s c plan t (i + 1), wTrue_o0 s c plan t (i + 1),
 [wq (i + 1) = i + 1, eqq (List.getD (playL s plan t) (Int.toNat (i - 1)) default) 0 = false] ++ wTrue_p6 B s c plan t i dJ0⟩ := by kernel_rfl
set_option maxRecDepth 100000 in
theorem wTrue_s7 (B : Lo) (s : WShore) (c : WStorm) (plan : List Int) (t : WTruth) (i : Int) (dJ0 : Nat → Value) : landM (srunT Try.prog (okFn Try.prog) J0 B 14 1 (headC 6 175 (([4, 9, 11, 13, 15] : List Nat).zip (wTrue_v0 s c plan t i)) dJ0 wTrue_t0) (headH (wTrue_o0 s c plan t i)) (2 + (wTrue_o0 s c plan t i).length)
 (wTrue_q5 s c plan t i dJ0 ++ [(58, hvF), (76, hvI (i + 1))]) 0 [] []) [4, 9, 11, 13, 15] [(2, KS.auto), (3, KS.auto)] [] = some ⟨6, 175, wTrue_t0, [], .run, none, wTrue_v0 s c plan t (i + 1), wTrue_o0 s c plan t (i + 1),
 [wq (i + 1) = i + 1, ltq 0 i = false] ++ wTrue_p5 B s c plan t i dJ0⟩ := by kernel_rfl
noncomputable def wTrue_p8 (B : Lo) (s : WShore) (c : WStorm) (plan : List Int) (t : WTruth) (i : Int) (dJ0 : Nat → Value) : List Prop := [ltq 0 (List.getD (playL s plan t) (Int.toNat i) default) = false] ++ wTrue_p3 B s c plan t i dJ0
noncomputable def wTrue_q8 (s : WShore) (c : WStorm) (plan : List Int) (t : WTruth) (i : Int) (dJ0 : Nat → Value) : ScriptT := wTrue_q3 s c plan t i dJ0 ++ [(38, hvF)]
noncomputable def wTrue_p9 (B : Lo) (s : WShore) (c : WStorm) (plan : List Int) (t : WTruth) (i : Int) (dJ0 : Nat → Value) : List Prop := [i - 1 = (↑(Int.toNat (i - 1)) : Int) ∧ Int.toNat (i - 1) < List.length (playL s plan t) ∧ Array.extract (rowL encI (playL s plan t)) (Int.toNat (i - 1) * TypeInfo.size Try.t3) (Int.toNat (i - 1) * TypeInfo.size Try.t3 + TypeInfo.size Try.t3) = (wTrue_z6 s plan t i), wq (i - 1) = i - 1, ltq 0 i = true] ++ wTrue_p8 B s c plan t i dJ0
noncomputable def wTrue_q9 (s : WShore) (c : WStorm) (plan : List Int) (t : WTruth) (i : Int) (dJ0 : Nat → Value) : ScriptT := wTrue_q8 s c plan t i dJ0 ++ [(58, hvT), (62, hvI (i - 1)), (63, HintT.tidx (Int.toNat (i - 1)) (wTrue_z6 s plan t i))]
noncomputable def wTrue_p10 (B : Lo) (s : WShore) (c : WStorm) (plan : List Int) (t : WTruth) (i : Int) (dJ0 : Nat → Value) : List Prop := [i = (↑(Int.toNat i) : Int) ∧ Int.toNat i < List.length (playL s plan t) ∧ Array.extract (rowL encI (playL s plan t)) (Int.toNat i * TypeInfo.size Try.t3) (Int.toNat i * TypeInfo.size Try.t3 + TypeInfo.size Try.t3) = (wTrue_z7 s plan t i), eqq (List.getD (playL s plan t) (Int.toNat (i - 1)) default) 0 = true] ++ wTrue_p9 B s c plan t i dJ0
noncomputable def wTrue_q10 (s : WShore) (c : WStorm) (plan : List Int) (t : WTruth) (i : Int) (dJ0 : Nat → Value) : ScriptT := wTrue_q9 s c plan t i dJ0 ++ [(65, hvT), (70, HintT.tidx (Int.toNat i) (wTrue_z7 s plan t i))]
set_option maxRecDepth 100000 in
theorem wTrue_s8 (B : Lo) (s : WShore) (c : WStorm) (plan : List Int) (t : WTruth) (i : Int) (dJ0 : Nat → Value) : endT (srunT Try.prog (okFn Try.prog) J0 B 14 1 (headC 6 175 (([4, 9, 11, 13, 15] : List Nat).zip (wTrue_v0 s c plan t i)) dJ0 wTrue_t0) (headH (wTrue_o0 s c plan t i)) (2 + (wTrue_o0 s c plan t i).length)
 (wTrue_q10 s c plan t i dJ0 ++ [(72, hvT)]) 0 [] []) [] = some (Value.bool false,
 [(!eqq (List.getD (playL s plan t) (Int.toNat i) default) 0) = true] ++ wTrue_p10 B s c plan t i dJ0) := by kernel_rfl
set_option maxRecDepth 100000 in
theorem wTrue_s9 (B : Lo) (s : WShore) (c : WStorm) (plan : List Int) (t : WTruth) (i : Int) (dJ0 : Nat → Value) : landM (srunT Try.prog (okFn Try.prog) J0 B 14 1 (headC 6 175 (([4, 9, 11, 13, 15] : List Nat).zip (wTrue_v0 s c plan t i)) dJ0 wTrue_t0) (headH (wTrue_o0 s c plan t i)) (2 + (wTrue_o0 s c plan t i).length)
 (wTrue_q10 s c plan t i dJ0 ++ [(72, hvF), (76, hvI (i + 1))]) 0 [] []) [4, 9, 11, 13, 15] [(2, KS.auto), (3, KS.auto)] [] = some ⟨6, 175, wTrue_t0, [], .run, none, wTrue_v0 s c plan t (i + 1), wTrue_o0 s c plan t (i + 1),
 [wq (i + 1) = i + 1, (!eqq (List.getD (playL s plan t) (Int.toNat i) default) 0) = false] ++ wTrue_p10 B s c plan t i dJ0⟩ := by kernel_rfl
set_option maxRecDepth 100000 in
theorem wTrue_s10 (B : Lo) (s : WShore) (c : WStorm) (plan : List Int) (t : WTruth) (i : Int) (dJ0 : Nat → Value) : landM (srunT Try.prog (okFn Try.prog) J0 B 14 1 (headC 6 175 (([4, 9, 11, 13, 15] : List Nat).zip (wTrue_v0 s c plan t i)) dJ0 wTrue_t0) (headH (wTrue_o0 s c plan t i)) (2 + (wTrue_o0 s c plan t i).length)
 (wTrue_q9 s c plan t i dJ0 ++ [(65, hvF), (76, hvI (i + 1))]) 0 [] []) [4, 9, 11, 13, 15] [(2, KS.auto), (3, KS.auto)] [] = some ⟨6, 175, wTrue_t0, [], .run, none, wTrue_v0 s c plan t (i + 1), wTrue_o0 s c plan t (i + 1),
 [wq (i + 1) = i + 1, eqq (List.getD (playL s plan t) (Int.toNat (i - 1)) default) 0 = false] ++ wTrue_p9 B s c plan t i dJ0⟩ := by kernel_rfl
set_option maxRecDepth 100000 in
theorem wTrue_s11 (B : Lo) (s : WShore) (c : WStorm) (plan : List Int) (t : WTruth) (i : Int) (dJ0 : Nat → Value) : landM (srunT Try.prog (okFn Try.prog) J0 B 14 1 (headC 6 175 (([4, 9, 11, 13, 15] : List Nat).zip (wTrue_v0 s c plan t i)) dJ0 wTrue_t0) (headH (wTrue_o0 s c plan t i)) (2 + (wTrue_o0 s c plan t i).length)
 (wTrue_q8 s c plan t i dJ0 ++ [(58, hvF), (76, hvI (i + 1))]) 0 [] []) [4, 9, 11, 13, 15] [(2, KS.auto), (3, KS.auto)] [] = some ⟨6, 175, wTrue_t0, [], .run, none, wTrue_v0 s c plan t (i + 1), wTrue_o0 s c plan t (i + 1),
 [wq (i + 1) = i + 1, ltq 0 i = false] ++ wTrue_p8 B s c plan t i dJ0⟩ := by kernel_rfl
set_option maxRecDepth 100000 in
theorem wTrue_s12 (B : Lo) (s : WShore) (c : WStorm) (plan : List Int) (t : WTruth) (i : Int) (dJ0 : Nat → Value) : endT (srunT Try.prog (okFn Try.prog) J0 B 9 1 (headC 6 175 (([4, 9, 11, 13, 15] : List Nat).zip (wTrue_v0 s c plan t i)) dJ0 wTrue_t0) (headH (wTrue_o0 s c plan t i)) (2 + (wTrue_o0 s c plan t i).length)
 [(3, hvF), (4, HintT.pure (Value.bool true) [])] 0 [] []) [] = some (Value.bool true,
 [AllP [] ∧ PureC Try.prog J0 15 #[] (Value.bool true), ltq i (↑(List.length (playL s plan t)) : Int) = false]) := by kernel_rfl
noncomputable def wTrue_p11 (B : Lo) (s : WShore) (c : WStorm) (plan : List Int) (t : WTruth) : List Prop := [AllP [] ∧ PureC Try.prog J0 14 (wTrue_z2 s) (Value.bool true)] ++ ([] : List Prop)
noncomputable def wTrue_q11 (s : WShore) (c : WStorm) (plan : List Int) (t : WTruth) : ScriptT := [(5, HintT.pure (Value.bool true) [])]
set_option maxRecDepth 100000 in
theorem wTrue_s13 (B : Lo) (s : WShore) (c : WStorm) (plan : List Int) (t : WTruth) : endT (srunT Try.prog (okFn Try.prog) J0 B 10 1 (entryC Try.prog 6 175 (([.agg (encShore s).toArray, .agg (encStorm c).toArray, slI plan, .agg (encTruth t).toArray]).map (pushT 0 4))) H00 1
 (wTrue_q11 s c plan t ++ [(10, hvT), (32, HintT.pure (Value.bool true) [])]) 0 [] []) [] = some (Value.bool true,
 [AllP [] ∧ PureC Try.prog J0 15 #[] (Value.bool true), ltq 12 (↑(List.length plan) : Int) = true] ++ wTrue_p11 B s c plan t) := by kernel_rfl
noncomputable def wTrue_p12 (B : Lo) (s : WShore) (c : WStorm) (plan : List Int) (t : WTruth) : List Prop := [ltq 12 (↑(List.length plan) : Int) = false] ++ wTrue_p11 B s c plan t
noncomputable def wTrue_q12 (s : WShore) (c : WStorm) (plan : List Int) (t : WTruth) : ScriptT := wTrue_q11 s c plan t ++ [(10, hvF)]
set_option maxRecDepth 100000 in
theorem wTrue_s14 (B : Lo) (s : WShore) (c : WStorm) (plan : List Int) (t : WTruth) : endT (srunT Try.prog (okFn Try.prog) J0 B 10 1 (entryC Try.prog 6 175 (([.agg (encShore s).toArray, .agg (encStorm c).toArray, slI plan, .agg (encTruth t).toArray]).map (pushT 0 4))) H00 1
 (wTrue_q12 s c plan t ++ [(16, hvT), (32, HintT.pure (Value.bool true) [])]) 0 [] []) [] = some (Value.bool true,
 [AllP [] ∧ PureC Try.prog J0 15 #[] (Value.bool true), ltq 12 (↑(List.length (WTruth.drags t)) : Int) = true] ++ wTrue_p12 B s c plan t) := by kernel_rfl
noncomputable def wTrue_p13 (B : Lo) (s : WShore) (c : WStorm) (plan : List Int) (t : WTruth) : List Prop := [ltq 12 (↑(List.length (WTruth.drags t)) : Int) = false] ++ wTrue_p12 B s c plan t
noncomputable def wTrue_q13 (s : WShore) (c : WStorm) (plan : List Int) (t : WTruth) : ScriptT := wTrue_q12 s c plan t ++ [(16, hvF)]
noncomputable def wTrue_p14 (B : Lo) (s : WShore) (c : WStorm) (plan : List Int) (t : WTruth) : List Prop := [AllP [] ∧ PureC Try.prog J0 25 (wTrue_z0 s c plan) (Value.bool true)] ++ wTrue_p13 B s c plan t
noncomputable def wTrue_q14 (s : WShore) (c : WStorm) (plan : List Int) (t : WTruth) : ScriptT := wTrue_q13 s c plan t ++ [(22, HintT.pure (Value.bool true) [])]
noncomputable def wTrue_p15 (B : Lo) (s : WShore) (c : WStorm) (plan : List Int) (t : WTruth) : List Prop := [AllP [] ∧ PureC Try.prog J0 17 #[Value.agg (wTrue_z3 s), Value.agg (wTrue_z4 c)] (Value.tuple #[Value.agg #[Value.int IntKind.i64 (min (levelF s (endE false s c)) (levelF s (endE true s c))), Value.int IntKind.i64 (max (levelF s (endE false s c)) (levelF s (endE true s c)))], Value.int IntKind.i64 0]), AllP [] ∧ PureC Try.prog J0 29 (wTrue_z0 s c plan) (Value.tuple #[slT (List.length (zipS (playL s plan (endE false s c)) (playL s plan (endE true s c)))) (rowL encSp (zipS (playL s plan (endE false s c)) (playL s plan (endE true s c)))), Value.int IntKind.i64 0]), AllP [] ∧ PureC Try.prog J0 24 #[Value.agg (wTrue_z3 s), Value.agg (wTrue_z4 c), slT (List.length plan) (rowL encI plan), Value.agg (wTrue_z5 t)] (Value.tuple #[slT (List.length (playL s plan t)) (rowL encI (playL s plan t)), Value.int IntKind.i64 0]), AllP [] ∧ PureC Try.prog J0 26 #[Value.agg (wTrue_z3 s), Value.agg (wTrue_z4 c), Value.agg (wTrue_z5 t)] (Value.bool true)] ++ wTrue_p14 B s c plan t
noncomputable def wTrue_q15 (s : WShore) (c : WStorm) (plan : List Int) (t : WTruth) : ScriptT := wTrue_q14 s c plan t ++ [(29, HintT.pure (Value.bool true) []), (36, HintT.pure (Value.tuple #[slT (List.length (playL s plan t)) (rowL encI (playL s plan t)), Value.int IntKind.i64 0]) []), (45, HintT.pure (Value.tuple #[slT (List.length (zipS (playL s plan (endE false s c)) (playL s plan (endE true s c)))) (rowL encSp (zipS (playL s plan (endE false s c)) (playL s plan (endE true s c)))), Value.int IntKind.i64 0]) []), (53, HintT.pure (Value.tuple #[Value.agg #[Value.int IntKind.i64 (min (levelF s (endE false s c)) (levelF s (endE true s c))), Value.int IntKind.i64 (max (levelF s (endE false s c)) (levelF s (endE true s c)))], Value.int IntKind.i64 0]) [])]
set_option maxRecDepth 100000 in
theorem wTrue_s15 (B : Lo) (s : WShore) (c : WStorm) (plan : List Int) (t : WTruth) : endT (srunT Try.prog (okFn Try.prog) J0 B 21 1 (entryC Try.prog 6 175 (([.agg (encShore s).toArray, .agg (encStorm c).toArray, slI plan, .agg (encTruth t).toArray]).map (pushT 0 4))) H00 1
 (wTrue_q15 s c plan t ++ [(76, hvT)]) 0 [] []) [] = some (Value.bool false,
 [(!eqq (↑(List.length (playL s plan t)) : Int) (↑(List.length (WShore.cells s)) : Int)) = true] ++ wTrue_p15 B s c plan t) := by kernel_rfl
noncomputable def wTrue_p16 (B : Lo) (s : WShore) (c : WStorm) (plan : List Int) (t : WTruth) : List Prop := [(!eqq (↑(List.length (playL s plan t)) : Int) (↑(List.length (WShore.cells s)) : Int)) = false] ++ wTrue_p15 B s c plan t
noncomputable def wTrue_q16 (s : WShore) (c : WStorm) (plan : List Int) (t : WTruth) : ScriptT := wTrue_q15 s c plan t ++ [(76, hvF)]
set_option maxRecDepth 100000 in
theorem wTrue_s16 (B : Lo) (s : WShore) (c : WStorm) (plan : List Int) (t : WTruth) : endT (srunT Try.prog (okFn Try.prog) J0 B 21 1 (entryC Try.prog 6 175 (([.agg (encShore s).toArray, .agg (encStorm c).toArray, slI plan, .agg (encTruth t).toArray]).map (pushT 0 4))) H00 1
 (wTrue_q16 s c plan t ++ [(84, hvT)]) 0 [] []) [] = some (Value.bool false,
 [(!eqq (↑(List.length (zipS (playL s plan (endE false s c)) (playL s plan (endE true s c)))) : Int) (↑(List.length (WShore.cells s)) : Int)) = true] ++ wTrue_p16 B s c plan t) := by kernel_rfl
noncomputable def wTrue_p17 (B : Lo) (s : WShore) (c : WStorm) (plan : List Int) (t : WTruth) : List Prop := [(!eqq (↑(List.length (zipS (playL s plan (endE false s c)) (playL s plan (endE true s c)))) : Int) (↑(List.length (WShore.cells s)) : Int)) = false] ++ wTrue_p16 B s c plan t
noncomputable def wTrue_q17 (s : WShore) (c : WStorm) (plan : List Int) (t : WTruth) : ScriptT := wTrue_q16 s c plan t ++ [(84, hvF)]
set_option maxRecDepth 100000 in
theorem wTrue_s17 (B : Lo) (s : WShore) (c : WStorm) (plan : List Int) (t : WTruth) : endT (srunT Try.prog (okFn Try.prog) J0 B 21 1 (entryC Try.prog 6 175 (([.agg (encShore s).toArray, .agg (encStorm c).toArray, slI plan, .agg (encTruth t).toArray]).map (pushT 0 4))) H00 1
 (wTrue_q17 s c plan t ++ [(89, hvT)]) 0 [] []) [] = some (Value.bool false,
 [ltq 20000 (max (levelF s (endE false s c)) (levelF s (endE true s c))) = true] ++ wTrue_p17 B s c plan t) := by kernel_rfl
set_option maxRecDepth 100000 in
theorem wTrue_s18 (B : Lo) (s : WShore) (c : WStorm) (plan : List Int) (t : WTruth) : landM (srunT Try.prog (okFn Try.prog) J0 B 23 1 (entryC Try.prog 6 175 (([.agg (encShore s).toArray, .agg (encStorm c).toArray, slI plan, .agg (encTruth t).toArray]).map (pushT 0 4))) H00 1
 (wTrue_q17 s c plan t ++ [(89, hvF)]) 0 [] []) [4, 9, 11, 13, 15] [(1, KS.auto), (6, KS.auto)] [] = some ⟨6, 175, wTrue_t0, [], .run, none, wTrue_v0 s c plan t (0), wTrue_o0 s c plan t (0),
 [ltq 20000 (max (levelF s (endE false s c)) (levelF s (endE true s c))) = false] ++ wTrue_p17 B s c plan t⟩ := by kernel_rfl
set_option maxRecDepth 100000 in
theorem wTrue_s19 (B : Lo) (s : WShore) (c : WStorm) (plan : List Int) (t : WTruth) : endT (srunT Try.prog (okFn Try.prog) J0 B 10 1 (entryC Try.prog 6 175 (([.agg (encShore s).toArray, .agg (encStorm c).toArray, slI plan, .agg (encTruth t).toArray]).map (pushT 0 4))) H00 1
 (wTrue_q14 s c plan t ++ [(29, HintT.pure (Value.bool false) []), (32, HintT.pure (Value.bool true) [])]) 0 [] []) [] = some (Value.bool true,
 [AllP [] ∧ PureC Try.prog J0 15 #[] (Value.bool true), AllP [] ∧ PureC Try.prog J0 26 #[Value.agg (wTrue_z3 s), Value.agg (wTrue_z4 c), Value.agg (wTrue_z5 t)] (Value.bool false)] ++ wTrue_p14 B s c plan t) := by kernel_rfl
set_option maxRecDepth 100000 in
theorem wTrue_s20 (B : Lo) (s : WShore) (c : WStorm) (plan : List Int) (t : WTruth) : endT (srunT Try.prog (okFn Try.prog) J0 B 10 1 (entryC Try.prog 6 175 (([.agg (encShore s).toArray, .agg (encStorm c).toArray, slI plan, .agg (encTruth t).toArray]).map (pushT 0 4))) H00 1
 (wTrue_q13 s c plan t ++ [(22, HintT.pure (Value.bool false) []), (32, HintT.pure (Value.bool true) [])]) 0 [] []) [] = some (Value.bool true,
 [AllP [] ∧ PureC Try.prog J0 15 #[] (Value.bool true), AllP [] ∧ PureC Try.prog J0 25 (wTrue_z0 s c plan) (Value.bool false)] ++ wTrue_p13 B s c plan t) := by kernel_rfl
set_option maxRecDepth 100000 in
theorem wTrue_s21 (B : Lo) (s : WShore) (c : WStorm) (plan : List Int) (t : WTruth) : endT (srunT Try.prog (okFn Try.prog) J0 B 10 1 (entryC Try.prog 6 175 (([.agg (encShore s).toArray, .agg (encStorm c).toArray, slI plan, .agg (encTruth t).toArray]).map (pushT 0 4))) H00 1
 (wTrue_q13 s c plan t ++ [(22, HintT.pure (Value.bool false) []), (32, HintT.pure (Value.bool true) [])]) 0 [] []) [] = some (Value.bool true,
 [AllP [] ∧ PureC Try.prog J0 15 #[] (Value.bool true), AllP [] ∧ PureC Try.prog J0 25 (wTrue_z0 s c plan) (Value.bool false)] ++ wTrue_p13 B s c plan t) := by kernel_rfl
set_option maxRecDepth 100000 in
theorem wTrue_s22 (B : Lo) (s : WShore) (c : WStorm) (plan : List Int) (t : WTruth) : endT (srunT Try.prog (okFn Try.prog) J0 B 10 1 (entryC Try.prog 6 175 (([.agg (encShore s).toArray, .agg (encStorm c).toArray, slI plan, .agg (encTruth t).toArray]).map (pushT 0 4))) H00 1
 (wTrue_q13 s c plan t ++ [(22, HintT.pure (Value.bool false) []), (32, HintT.pure (Value.bool true) [])]) 0 [] []) [] = some (Value.bool true,
 [AllP [] ∧ PureC Try.prog J0 15 #[] (Value.bool true), AllP [] ∧ PureC Try.prog J0 25 (wTrue_z0 s c plan) (Value.bool false)] ++ wTrue_p13 B s c plan t) := by kernel_rfl
set_option maxRecDepth 100000 in
theorem wTrue_s23 (B : Lo) (s : WShore) (c : WStorm) (plan : List Int) (t : WTruth) : endT (srunT Try.prog (okFn Try.prog) J0 B 10 1 (entryC Try.prog 6 175 (([.agg (encShore s).toArray, .agg (encStorm c).toArray, slI plan, .agg (encTruth t).toArray]).map (pushT 0 4))) H00 1
 [(5, HintT.pure (Value.bool false) []), (32, HintT.pure (Value.bool true) [])] 0 [] []) [] = some (Value.bool true,
 [AllP [] ∧ PureC Try.prog J0 15 #[] (Value.bool true), AllP [] ∧ PureC Try.prog J0 14 (wTrue_z2 s) (Value.bool false)]) := by kernel_rfl
set_option maxRecDepth 100000 in
theorem wTrue_s24 (B : Lo) (s : WShore) (c : WStorm) (plan : List Int) (t : WTruth) : endT (srunT Try.prog (okFn Try.prog) J0 B 10 1 (entryC Try.prog 6 175 (([.agg (encShore s).toArray, .agg (encStorm c).toArray, slI plan, .agg (encTruth t).toArray]).map (pushT 0 4))) H00 1
 [(5, HintT.pure (Value.bool false) []), (32, HintT.pure (Value.bool true) [])] 0 [] []) [] = some (Value.bool true,
 [AllP [] ∧ PureC Try.prog J0 15 #[] (Value.bool true), AllP [] ∧ PureC Try.prog J0 14 (wTrue_z2 s) (Value.bool false)]) := by kernel_rfl
set_option maxHeartbeats 4000000 in
theorem wTrue_ls (s : WShore) (c : WStorm) (plan : List Int) (t : WTruth)  {B : Lo} (hJ : ∀ w, B.has w → J0 w) {c0 : CF} : ∀ m : Nat, (∀ (i : Int), s.cells.length - i.toNat = m → ∀ (i0 : 0 ≤ i) (hs : shoreB s = true) (hc : stormB c = true) (hp : planB s plan = true) (ht : truthB s c t = true), wTrue_h0 B c0 s c plan t i → EndsT Try.prog B c0 (.bool true)) := by
 intro m0
 induction m0 using Nat.strongRecOn with
 | _ m0 ih0 =>
   intro i hm0 i0 hs hc hp ht ⟨dJ0, hdJ0, hg0⟩
   have hl0 := playL_len (s := s) (plan := plan) (t := t)
   have hl1 := playL_len (s := s) (plan := plan) (t := endE false s c)
   have hl2 := playL_len (s := s) (plan := plan) (t := endE true s c)
   have hl3 : (zipS (playL s plan (endE false s c)) (playL s plan (endE true s c))).length = s.cells.length := by rw [zipS_len (by rw [hl1, hl2]), hl1]
   have t1 := tOk_of hs hc ht
   have g0 := (between hs hc hp ht).2.2
   have g1 := between_k hs hc hp ht i.toNat
   have g2 := play_bd' hs hp t1 i.toNat
   have t4 := level_in (tOk_end (b := false) hs hc)
   have t5 := level_in (tOk_end (b := true) hs hc)
   have hsf := shore_facts hs
   have g4 : 0 < i → (playL s plan t).getD (i - 1).toNat default = 0 → (playL s plan t).getD i.toNat default = 0 := fun a b => play_stop hs hp t1 a b
   by_cases q0 : (i : Int) < ((↑(List.length (playL s plan t)) : Int))
   ·
    have hp0 : AllP (wTrue_p0 B s c plan t i dJ0) := by
     try have h1 := shore_facts ‹shoreB s = true›
     try have h2 := tOk_of ‹shoreB s = true› ‹stormB c = true› ‹truthB s c t = true›
     try have h3 := levels_mono ‹shoreB s = true› ‹stormB c = true›
     try have h4 := level_in (tOk_end (b := false) ‹shoreB s = true› ‹stormB c = true›)
     try have h5 := level_in (tOk_end (b := true) ‹shoreB s = true› ‹stormB c = true›)
     try have g3 := play_le hs hp t1 i0 (by omega)
     try unfold gr at g3
     try have g5 := gr_in hs i0 (by omega)
     try unfold gr at g5
     try have g6 := zipS_lo (us := playL s plan (endE false s c)) (vs := playL s plan (endE true s c)) (by rw [hl1, hl2]) i0 (by omega)
     try have g7 := zipS_hi (us := playL s plan (endE false s c)) (vs := playL s plan (endE true s c)) (by rw [hl1, hl2]) i0 (by omega)
     exact ⟨⟨by omega, by omega, (rowL_extract (z := 2) (fun _ => rfl) (by omega))⟩, ⟨⟨by omega, by omega, (rowL_extract (z := 1) (fun _ => rfl) (by omega))⟩, ⟨(ltq_t q0), trivial⟩⟩⟩
    by_cases q1 : (List.getD (playL s plan t) (Int.toNat i) default : Int) < (Span.lo (List.getD (zipS (playL s plan (endE false s c)) (playL s plan (endE true s c))) (Int.toNat i) default))
    ·
     try have h1 := shore_facts ‹shoreB s = true›
     try have h2 := tOk_of ‹shoreB s = true› ‹stormB c = true› ‹truthB s c t = true›
     try have h3 := levels_mono ‹shoreB s = true› ‹stormB c = true›
     try have h4 := level_in (tOk_end (b := false) ‹shoreB s = true› ‹stormB c = true›)
     try have h5 := level_in (tOk_end (b := true) ‹shoreB s = true› ‹stormB c = true›)
     try have g3 := play_le hs hp t1 i0 (by omega)
     try unfold gr at g3
     try have g5 := gr_in hs i0 (by omega)
     try unfold gr at g5
     try have g6 := zipS_lo (us := playL s plan (endE false s c)) (vs := playL s plan (endE true s c)) (by rw [hl1, hl2]) i0 (by omega)
     try have g7 := zipS_hi (us := playL s plan (endE false s c)) (vs := playL s plan (endE true s c)) (by rw [hl1, hl2]) i0 (by omega)
     exact (GoE.endsT okF hJ mixed_ok hg0 (wTrue_s0 B s c plan t i dJ0)
      ⟨(ltq_t q1), hp0⟩).cast (by first | rfl | (exfalso; omega) | (exfalso; simp_all; done))
    ·
     have hp1 : AllP (wTrue_p1 B s c plan t i dJ0) := by
      try have h1 := shore_facts ‹shoreB s = true›
      try have h2 := tOk_of ‹shoreB s = true› ‹stormB c = true› ‹truthB s c t = true›
      try have h3 := levels_mono ‹shoreB s = true› ‹stormB c = true›
      try have h4 := level_in (tOk_end (b := false) ‹shoreB s = true› ‹stormB c = true›)
      try have h5 := level_in (tOk_end (b := true) ‹shoreB s = true› ‹stormB c = true›)
      try have g3 := play_le hs hp t1 i0 (by omega)
      try unfold gr at g3
      try have g5 := gr_in hs i0 (by omega)
      try unfold gr at g5
      try have g6 := zipS_lo (us := playL s plan (endE false s c)) (vs := playL s plan (endE true s c)) (by rw [hl1, hl2]) i0 (by omega)
      try have g7 := zipS_hi (us := playL s plan (endE false s c)) (vs := playL s plan (endE true s c)) (by rw [hl1, hl2]) i0 (by omega)
      exact ⟨⟨by omega, by omega, (rowL_extract (z := 2) (fun _ => rfl) (by omega))⟩, ⟨⟨by omega, by omega, (rowL_extract (z := 1) (fun _ => rfl) (by omega))⟩, ⟨(ltq_f (Int.not_lt.1 q1)), hp0⟩⟩⟩
     by_cases q2 : (Span.hi (List.getD (zipS (playL s plan (endE false s c)) (playL s plan (endE true s c))) (Int.toNat i) default) : Int) < (List.getD (playL s plan t) (Int.toNat i) default)
     ·
      try have h1 := shore_facts ‹shoreB s = true›
      try have h2 := tOk_of ‹shoreB s = true› ‹stormB c = true› ‹truthB s c t = true›
      try have h3 := levels_mono ‹shoreB s = true› ‹stormB c = true›
      try have h4 := level_in (tOk_end (b := false) ‹shoreB s = true› ‹stormB c = true›)
      try have h5 := level_in (tOk_end (b := true) ‹shoreB s = true› ‹stormB c = true›)
      try have g3 := play_le hs hp t1 i0 (by omega)
      try unfold gr at g3
      try have g5 := gr_in hs i0 (by omega)
      try unfold gr at g5
      try have g6 := zipS_lo (us := playL s plan (endE false s c)) (vs := playL s plan (endE true s c)) (by rw [hl1, hl2]) i0 (by omega)
      try have g7 := zipS_hi (us := playL s plan (endE false s c)) (vs := playL s plan (endE true s c)) (by rw [hl1, hl2]) i0 (by omega)
      exact (GoE.endsT okF hJ mixed_ok hg0 (wTrue_s1 B s c plan t i dJ0)
       ⟨(ltq_t q2), hp1⟩).cast (by first | rfl | (exfalso; omega) | (exfalso; simp_all; done))
     ·
      have hp2 : AllP (wTrue_p2 B s c plan t i dJ0) := by
       try have h1 := shore_facts ‹shoreB s = true›
       try have h2 := tOk_of ‹shoreB s = true› ‹stormB c = true› ‹truthB s c t = true›
       try have h3 := levels_mono ‹shoreB s = true› ‹stormB c = true›
       try have h4 := level_in (tOk_end (b := false) ‹shoreB s = true› ‹stormB c = true›)
       try have h5 := level_in (tOk_end (b := true) ‹shoreB s = true› ‹stormB c = true›)
       try have g3 := play_le hs hp t1 i0 (by omega)
       try unfold gr at g3
       try have g5 := gr_in hs i0 (by omega)
       try unfold gr at g5
       try have g6 := zipS_lo (us := playL s plan (endE false s c)) (vs := playL s plan (endE true s c)) (by rw [hl1, hl2]) i0 (by omega)
       try have g7 := zipS_hi (us := playL s plan (endE false s c)) (vs := playL s plan (endE true s c)) (by rw [hl1, hl2]) i0 (by omega)
       exact ⟨⟨by omega, by omega, (rowL_extract (z := 1) (fun _ => rfl) (by omega))⟩, ⟨(ltq_f (Int.not_lt.1 q2)), hp1⟩⟩
      by_cases q3 : (List.getD (playL s plan t) (Int.toNat i) default : Int) < (0)
      ·
       try have h1 := shore_facts ‹shoreB s = true›
       try have h2 := tOk_of ‹shoreB s = true› ‹stormB c = true› ‹truthB s c t = true›
       try have h3 := levels_mono ‹shoreB s = true› ‹stormB c = true›
       try have h4 := level_in (tOk_end (b := false) ‹shoreB s = true› ‹stormB c = true›)
       try have h5 := level_in (tOk_end (b := true) ‹shoreB s = true› ‹stormB c = true›)
       try have g3 := play_le hs hp t1 i0 (by omega)
       try unfold gr at g3
       try have g5 := gr_in hs i0 (by omega)
       try unfold gr at g5
       try have g6 := zipS_lo (us := playL s plan (endE false s c)) (vs := playL s plan (endE true s c)) (by rw [hl1, hl2]) i0 (by omega)
       try have g7 := zipS_hi (us := playL s plan (endE false s c)) (vs := playL s plan (endE true s c)) (by rw [hl1, hl2]) i0 (by omega)
       exact (GoE.endsT okF hJ mixed_ok hg0 (wTrue_s2 B s c plan t i dJ0)
        ⟨(ltq_t q3), hp2⟩).cast (by first | rfl | (exfalso; omega) | (exfalso; simp_all; done))
      ·
       have hp3 : AllP (wTrue_p3 B s c plan t i dJ0) := by
        try have h1 := shore_facts ‹shoreB s = true›
        try have h2 := tOk_of ‹shoreB s = true› ‹stormB c = true› ‹truthB s c t = true›
        try have h3 := levels_mono ‹shoreB s = true› ‹stormB c = true›
        try have h4 := level_in (tOk_end (b := false) ‹shoreB s = true› ‹stormB c = true›)
        try have h5 := level_in (tOk_end (b := true) ‹shoreB s = true› ‹stormB c = true›)
        try have g3 := play_le hs hp t1 i0 (by omega)
        try unfold gr at g3
        try have g5 := gr_in hs i0 (by omega)
        try unfold gr at g5
        try have g6 := zipS_lo (us := playL s plan (endE false s c)) (vs := playL s plan (endE true s c)) (by rw [hl1, hl2]) i0 (by omega)
        try have g7 := zipS_hi (us := playL s plan (endE false s c)) (vs := playL s plan (endE true s c)) (by rw [hl1, hl2]) i0 (by omega)
        exact ⟨⟨by omega, by omega, (rowL_extract (z := 1) (fun _ => rfl) (by omega))⟩, ⟨(ltq_f (Int.not_lt.1 q3)), hp2⟩⟩
       by_cases q4 : (0 : Int) < (List.getD (playL s plan t) (Int.toNat i) default)
       ·
        have hp4 : AllP (wTrue_p4 B s c plan t i dJ0) := by
         try have h1 := shore_facts ‹shoreB s = true›
         try have h2 := tOk_of ‹shoreB s = true› ‹stormB c = true› ‹truthB s c t = true›
         try have h3 := levels_mono ‹shoreB s = true› ‹stormB c = true›
         try have h4 := level_in (tOk_end (b := false) ‹shoreB s = true› ‹stormB c = true›)
         try have h5 := level_in (tOk_end (b := true) ‹shoreB s = true› ‹stormB c = true›)
         try have g3 := play_le hs hp t1 i0 (by omega)
         try unfold gr at g3
         try have g5 := gr_in hs i0 (by omega)
         try unfold gr at g5
         try have g6 := zipS_lo (us := playL s plan (endE false s c)) (vs := playL s plan (endE true s c)) (by rw [hl1, hl2]) i0 (by omega)
         try have g7 := zipS_hi (us := playL s plan (endE false s c)) (vs := playL s plan (endE true s c)) (by rw [hl1, hl2]) i0 (by omega)
         exact ⟨(wq_in (by omega) (by omega)), ⟨⟨by omega, by omega, (rowL_extract (z := 4) (fun _ => rfl) (by omega))⟩, ⟨⟨by omega, by omega, (rowL_extract (z := 1) (fun _ => rfl) (by omega))⟩, ⟨(ltq_t q4), hp3⟩⟩⟩⟩
        by_cases q5 : (max (levelF s (endE false s c)) (levelF s (endE true s c)) - WCell.ground (List.getD (WShore.cells s) (Int.toNat i) default) : Int) < (List.getD (playL s plan t) (Int.toNat i) default)
        ·
         try have h1 := shore_facts ‹shoreB s = true›
         try have h2 := tOk_of ‹shoreB s = true› ‹stormB c = true› ‹truthB s c t = true›
         try have h3 := levels_mono ‹shoreB s = true› ‹stormB c = true›
         try have h4 := level_in (tOk_end (b := false) ‹shoreB s = true› ‹stormB c = true›)
         try have h5 := level_in (tOk_end (b := true) ‹shoreB s = true› ‹stormB c = true›)
         try have g3 := play_le hs hp t1 i0 (by omega)
         try unfold gr at g3
         try have g5 := gr_in hs i0 (by omega)
         try unfold gr at g5
         try have g6 := zipS_lo (us := playL s plan (endE false s c)) (vs := playL s plan (endE true s c)) (by rw [hl1, hl2]) i0 (by omega)
         try have g7 := zipS_hi (us := playL s plan (endE false s c)) (vs := playL s plan (endE true s c)) (by rw [hl1, hl2]) i0 (by omega)
         exact (GoE.endsT okF hJ mixed_ok hg0 (wTrue_s3 B s c plan t i dJ0)
          ⟨(ltq_t q5), hp4⟩).cast (by first | rfl | (exfalso; omega) | (exfalso; simp_all; done))
        ·
         have hp5 : AllP (wTrue_p5 B s c plan t i dJ0) := by
          exact ⟨(ltq_f (Int.not_lt.1 q5)), hp4⟩
         by_cases q6 : (0 : Int) < (i)
         ·
          have hp6 : AllP (wTrue_p6 B s c plan t i dJ0) := by
           try have h1 := shore_facts ‹shoreB s = true›
           try have h2 := tOk_of ‹shoreB s = true› ‹stormB c = true› ‹truthB s c t = true›
           try have h3 := levels_mono ‹shoreB s = true› ‹stormB c = true›
           try have h4 := level_in (tOk_end (b := false) ‹shoreB s = true› ‹stormB c = true›)
           try have h5 := level_in (tOk_end (b := true) ‹shoreB s = true› ‹stormB c = true›)
           try have g3 := play_le hs hp t1 i0 (by omega)
           try unfold gr at g3
           try have g5 := gr_in hs i0 (by omega)
           try unfold gr at g5
           try have g6 := zipS_lo (us := playL s plan (endE false s c)) (vs := playL s plan (endE true s c)) (by rw [hl1, hl2]) i0 (by omega)
           try have g7 := zipS_hi (us := playL s plan (endE false s c)) (vs := playL s plan (endE true s c)) (by rw [hl1, hl2]) i0 (by omega)
           exact ⟨⟨by omega, by omega, (rowL_extract (z := 1) (fun _ => rfl) (by omega))⟩, ⟨(wq_in (by omega) (by omega)), ⟨(ltq_t q6), hp5⟩⟩⟩
          by_cases q7 : (List.getD (playL s plan t) (Int.toNat (i - 1)) default : Int) = (0)
          ·
           have hp7 : AllP (wTrue_p7 B s c plan t i dJ0) := by
            try have h1 := shore_facts ‹shoreB s = true›
            try have h2 := tOk_of ‹shoreB s = true› ‹stormB c = true› ‹truthB s c t = true›
            try have h3 := levels_mono ‹shoreB s = true› ‹stormB c = true›
            try have h4 := level_in (tOk_end (b := false) ‹shoreB s = true› ‹stormB c = true›)
            try have h5 := level_in (tOk_end (b := true) ‹shoreB s = true› ‹stormB c = true›)
            try have g3 := play_le hs hp t1 i0 (by omega)
            try unfold gr at g3
            try have g5 := gr_in hs i0 (by omega)
            try unfold gr at g5
            try have g6 := zipS_lo (us := playL s plan (endE false s c)) (vs := playL s plan (endE true s c)) (by rw [hl1, hl2]) i0 (by omega)
            try have g7 := zipS_hi (us := playL s plan (endE false s c)) (vs := playL s plan (endE true s c)) (by rw [hl1, hl2]) i0 (by omega)
            exact ⟨⟨by omega, by omega, (rowL_extract (z := 1) (fun _ => rfl) (by omega))⟩, ⟨(eqq_t q7), hp6⟩⟩
           by_cases q8 : (List.getD (playL s plan t) (Int.toNat i) default : Int) ≠ (0)
           ·
            try have h1 := shore_facts ‹shoreB s = true›
            try have h2 := tOk_of ‹shoreB s = true› ‹stormB c = true› ‹truthB s c t = true›
            try have h3 := levels_mono ‹shoreB s = true› ‹stormB c = true›
            try have h4 := level_in (tOk_end (b := false) ‹shoreB s = true› ‹stormB c = true›)
            try have h5 := level_in (tOk_end (b := true) ‹shoreB s = true› ‹stormB c = true›)
            try have g3 := play_le hs hp t1 i0 (by omega)
            try unfold gr at g3
            try have g5 := gr_in hs i0 (by omega)
            try unfold gr at g5
            try have g6 := zipS_lo (us := playL s plan (endE false s c)) (vs := playL s plan (endE true s c)) (by rw [hl1, hl2]) i0 (by omega)
            try have g7 := zipS_hi (us := playL s plan (endE false s c)) (vs := playL s plan (endE true s c)) (by rw [hl1, hl2]) i0 (by omega)
            exact (GoE.endsT okF hJ mixed_ok hg0 (wTrue_s4 B s c plan t i dJ0)
             ⟨(neqq_t q8), hp7⟩).cast (by first | rfl | (exfalso; omega) | (exfalso; simp_all; done))
           ·
            try have h1 := shore_facts ‹shoreB s = true›
            try have h2 := tOk_of ‹shoreB s = true› ‹stormB c = true› ‹truthB s c t = true›
            try have h3 := levels_mono ‹shoreB s = true› ‹stormB c = true›
            try have h4 := level_in (tOk_end (b := false) ‹shoreB s = true› ‹stormB c = true›)
            try have h5 := level_in (tOk_end (b := true) ‹shoreB s = true› ‹stormB c = true›)
            try have g3 := play_le hs hp t1 i0 (by omega)
            try unfold gr at g3
            try have g5 := gr_in hs i0 (by omega)
            try unfold gr at g5
            try have g6 := zipS_lo (us := playL s plan (endE false s c)) (vs := playL s plan (endE true s c)) (by rw [hl1, hl2]) i0 (by omega)
            try have g7 := zipS_hi (us := playL s plan (endE false s c)) (vs := playL s plan (endE true s c)) (by rw [hl1, hl2]) i0 (by omega)
            exact ((ih0 _ (by omega)) (i + 1) rfl (by first | with_reducible assumption | omega | (simp_all; done)) (by first | with_reducible assumption | omega | (simp_all; done)) (by first | with_reducible assumption | omega | (simp_all; done)) (by first | with_reducible assumption | omega | (simp_all; done)) (by first | with_reducible assumption | omega | (simp_all; done))
             (hg0.landM okF hJ mixed_ok (wTrue_s5 B s c plan t i dJ0)
             ⟨(wq_in (by omega) (by omega)), ⟨(neqq_f (Decidable.of_not_not q8)), hp7⟩⟩ (by kernel_rfl) (by kernel_rfl))).cast (by first | rfl | (exfalso; omega) | (exfalso; simp_all; done))
          ·
           try have h1 := shore_facts ‹shoreB s = true›
           try have h2 := tOk_of ‹shoreB s = true› ‹stormB c = true› ‹truthB s c t = true›
           try have h3 := levels_mono ‹shoreB s = true› ‹stormB c = true›
           try have h4 := level_in (tOk_end (b := false) ‹shoreB s = true› ‹stormB c = true›)
           try have h5 := level_in (tOk_end (b := true) ‹shoreB s = true› ‹stormB c = true›)
           try have g3 := play_le hs hp t1 i0 (by omega)
           try unfold gr at g3
           try have g5 := gr_in hs i0 (by omega)
           try unfold gr at g5
           try have g6 := zipS_lo (us := playL s plan (endE false s c)) (vs := playL s plan (endE true s c)) (by rw [hl1, hl2]) i0 (by omega)
           try have g7 := zipS_hi (us := playL s plan (endE false s c)) (vs := playL s plan (endE true s c)) (by rw [hl1, hl2]) i0 (by omega)
           exact ((ih0 _ (by omega)) (i + 1) rfl (by first | with_reducible assumption | omega | (simp_all; done)) (by first | with_reducible assumption | omega | (simp_all; done)) (by first | with_reducible assumption | omega | (simp_all; done)) (by first | with_reducible assumption | omega | (simp_all; done)) (by first | with_reducible assumption | omega | (simp_all; done))
            (hg0.landM okF hJ mixed_ok (wTrue_s6 B s c plan t i dJ0)
            ⟨(wq_in (by omega) (by omega)), ⟨(eqq_f q7), hp6⟩⟩ (by kernel_rfl) (by kernel_rfl))).cast (by first | rfl | (exfalso; omega) | (exfalso; simp_all; done))
         ·
          try have h1 := shore_facts ‹shoreB s = true›
          try have h2 := tOk_of ‹shoreB s = true› ‹stormB c = true› ‹truthB s c t = true›
          try have h3 := levels_mono ‹shoreB s = true› ‹stormB c = true›
          try have h4 := level_in (tOk_end (b := false) ‹shoreB s = true› ‹stormB c = true›)
          try have h5 := level_in (tOk_end (b := true) ‹shoreB s = true› ‹stormB c = true›)
          try have g3 := play_le hs hp t1 i0 (by omega)
          try unfold gr at g3
          try have g5 := gr_in hs i0 (by omega)
          try unfold gr at g5
          try have g6 := zipS_lo (us := playL s plan (endE false s c)) (vs := playL s plan (endE true s c)) (by rw [hl1, hl2]) i0 (by omega)
          try have g7 := zipS_hi (us := playL s plan (endE false s c)) (vs := playL s plan (endE true s c)) (by rw [hl1, hl2]) i0 (by omega)
          exact ((ih0 _ (by omega)) (i + 1) rfl (by first | with_reducible assumption | omega | (simp_all; done)) (by first | with_reducible assumption | omega | (simp_all; done)) (by first | with_reducible assumption | omega | (simp_all; done)) (by first | with_reducible assumption | omega | (simp_all; done)) (by first | with_reducible assumption | omega | (simp_all; done))
           (hg0.landM okF hJ mixed_ok (wTrue_s7 B s c plan t i dJ0)
           ⟨(wq_in (by omega) (by omega)), ⟨(ltq_f (Int.not_lt.1 q6)), hp5⟩⟩ (by kernel_rfl) (by kernel_rfl))).cast (by first | rfl | (exfalso; omega) | (exfalso; simp_all; done))
       ·
        have hp8 : AllP (wTrue_p8 B s c plan t i dJ0) := by
         exact ⟨(ltq_f (Int.not_lt.1 q4)), hp3⟩
        by_cases q5 : (0 : Int) < (i)
        ·
         have hp9 : AllP (wTrue_p9 B s c plan t i dJ0) := by
          try have h1 := shore_facts ‹shoreB s = true›
          try have h2 := tOk_of ‹shoreB s = true› ‹stormB c = true› ‹truthB s c t = true›
          try have h3 := levels_mono ‹shoreB s = true› ‹stormB c = true›
          try have h4 := level_in (tOk_end (b := false) ‹shoreB s = true› ‹stormB c = true›)
          try have h5 := level_in (tOk_end (b := true) ‹shoreB s = true› ‹stormB c = true›)
          try have g3 := play_le hs hp t1 i0 (by omega)
          try unfold gr at g3
          try have g5 := gr_in hs i0 (by omega)
          try unfold gr at g5
          try have g6 := zipS_lo (us := playL s plan (endE false s c)) (vs := playL s plan (endE true s c)) (by rw [hl1, hl2]) i0 (by omega)
          try have g7 := zipS_hi (us := playL s plan (endE false s c)) (vs := playL s plan (endE true s c)) (by rw [hl1, hl2]) i0 (by omega)
          exact ⟨⟨by omega, by omega, (rowL_extract (z := 1) (fun _ => rfl) (by omega))⟩, ⟨(wq_in (by omega) (by omega)), ⟨(ltq_t q5), hp8⟩⟩⟩
         by_cases q6 : (List.getD (playL s plan t) (Int.toNat (i - 1)) default : Int) = (0)
         ·
          have hp10 : AllP (wTrue_p10 B s c plan t i dJ0) := by
           try have h1 := shore_facts ‹shoreB s = true›
           try have h2 := tOk_of ‹shoreB s = true› ‹stormB c = true› ‹truthB s c t = true›
           try have h3 := levels_mono ‹shoreB s = true› ‹stormB c = true›
           try have h4 := level_in (tOk_end (b := false) ‹shoreB s = true› ‹stormB c = true›)
           try have h5 := level_in (tOk_end (b := true) ‹shoreB s = true› ‹stormB c = true›)
           try have g3 := play_le hs hp t1 i0 (by omega)
           try unfold gr at g3
           try have g5 := gr_in hs i0 (by omega)
           try unfold gr at g5
           try have g6 := zipS_lo (us := playL s plan (endE false s c)) (vs := playL s plan (endE true s c)) (by rw [hl1, hl2]) i0 (by omega)
           try have g7 := zipS_hi (us := playL s plan (endE false s c)) (vs := playL s plan (endE true s c)) (by rw [hl1, hl2]) i0 (by omega)
           exact ⟨⟨by omega, by omega, (rowL_extract (z := 1) (fun _ => rfl) (by omega))⟩, ⟨(eqq_t q6), hp9⟩⟩
          by_cases q7 : (List.getD (playL s plan t) (Int.toNat i) default : Int) ≠ (0)
          ·
           try have h1 := shore_facts ‹shoreB s = true›
           try have h2 := tOk_of ‹shoreB s = true› ‹stormB c = true› ‹truthB s c t = true›
           try have h3 := levels_mono ‹shoreB s = true› ‹stormB c = true›
           try have h4 := level_in (tOk_end (b := false) ‹shoreB s = true› ‹stormB c = true›)
           try have h5 := level_in (tOk_end (b := true) ‹shoreB s = true› ‹stormB c = true›)
           try have g3 := play_le hs hp t1 i0 (by omega)
           try unfold gr at g3
           try have g5 := gr_in hs i0 (by omega)
           try unfold gr at g5
           try have g6 := zipS_lo (us := playL s plan (endE false s c)) (vs := playL s plan (endE true s c)) (by rw [hl1, hl2]) i0 (by omega)
           try have g7 := zipS_hi (us := playL s plan (endE false s c)) (vs := playL s plan (endE true s c)) (by rw [hl1, hl2]) i0 (by omega)
           exact (GoE.endsT okF hJ mixed_ok hg0 (wTrue_s8 B s c plan t i dJ0)
            ⟨(neqq_t q7), hp10⟩).cast (by first | rfl | (exfalso; omega) | (exfalso; simp_all; done))
          ·
           try have h1 := shore_facts ‹shoreB s = true›
           try have h2 := tOk_of ‹shoreB s = true› ‹stormB c = true› ‹truthB s c t = true›
           try have h3 := levels_mono ‹shoreB s = true› ‹stormB c = true›
           try have h4 := level_in (tOk_end (b := false) ‹shoreB s = true› ‹stormB c = true›)
           try have h5 := level_in (tOk_end (b := true) ‹shoreB s = true› ‹stormB c = true›)
           try have g3 := play_le hs hp t1 i0 (by omega)
           try unfold gr at g3
           try have g5 := gr_in hs i0 (by omega)
           try unfold gr at g5
           try have g6 := zipS_lo (us := playL s plan (endE false s c)) (vs := playL s plan (endE true s c)) (by rw [hl1, hl2]) i0 (by omega)
           try have g7 := zipS_hi (us := playL s plan (endE false s c)) (vs := playL s plan (endE true s c)) (by rw [hl1, hl2]) i0 (by omega)
           exact ((ih0 _ (by omega)) (i + 1) rfl (by first | with_reducible assumption | omega | (simp_all; done)) (by first | with_reducible assumption | omega | (simp_all; done)) (by first | with_reducible assumption | omega | (simp_all; done)) (by first | with_reducible assumption | omega | (simp_all; done)) (by first | with_reducible assumption | omega | (simp_all; done))
            (hg0.landM okF hJ mixed_ok (wTrue_s9 B s c plan t i dJ0)
            ⟨(wq_in (by omega) (by omega)), ⟨(neqq_f (Decidable.of_not_not q7)), hp10⟩⟩ (by kernel_rfl) (by kernel_rfl))).cast (by first | rfl | (exfalso; omega) | (exfalso; simp_all; done))
         ·
          try have h1 := shore_facts ‹shoreB s = true›
          try have h2 := tOk_of ‹shoreB s = true› ‹stormB c = true› ‹truthB s c t = true›
          try have h3 := levels_mono ‹shoreB s = true› ‹stormB c = true›
          try have h4 := level_in (tOk_end (b := false) ‹shoreB s = true› ‹stormB c = true›)
          try have h5 := level_in (tOk_end (b := true) ‹shoreB s = true› ‹stormB c = true›)
          try have g3 := play_le hs hp t1 i0 (by omega)
          try unfold gr at g3
          try have g5 := gr_in hs i0 (by omega)
          try unfold gr at g5
          try have g6 := zipS_lo (us := playL s plan (endE false s c)) (vs := playL s plan (endE true s c)) (by rw [hl1, hl2]) i0 (by omega)
          try have g7 := zipS_hi (us := playL s plan (endE false s c)) (vs := playL s plan (endE true s c)) (by rw [hl1, hl2]) i0 (by omega)
          exact ((ih0 _ (by omega)) (i + 1) rfl (by first | with_reducible assumption | omega | (simp_all; done)) (by first | with_reducible assumption | omega | (simp_all; done)) (by first | with_reducible assumption | omega | (simp_all; done)) (by first | with_reducible assumption | omega | (simp_all; done)) (by first | with_reducible assumption | omega | (simp_all; done))
           (hg0.landM okF hJ mixed_ok (wTrue_s10 B s c plan t i dJ0)
           ⟨(wq_in (by omega) (by omega)), ⟨(eqq_f q6), hp9⟩⟩ (by kernel_rfl) (by kernel_rfl))).cast (by first | rfl | (exfalso; omega) | (exfalso; simp_all; done))
        ·
         try have h1 := shore_facts ‹shoreB s = true›
         try have h2 := tOk_of ‹shoreB s = true› ‹stormB c = true› ‹truthB s c t = true›
         try have h3 := levels_mono ‹shoreB s = true› ‹stormB c = true›
         try have h4 := level_in (tOk_end (b := false) ‹shoreB s = true› ‹stormB c = true›)
         try have h5 := level_in (tOk_end (b := true) ‹shoreB s = true› ‹stormB c = true›)
         try have g3 := play_le hs hp t1 i0 (by omega)
         try unfold gr at g3
         try have g5 := gr_in hs i0 (by omega)
         try unfold gr at g5
         try have g6 := zipS_lo (us := playL s plan (endE false s c)) (vs := playL s plan (endE true s c)) (by rw [hl1, hl2]) i0 (by omega)
         try have g7 := zipS_hi (us := playL s plan (endE false s c)) (vs := playL s plan (endE true s c)) (by rw [hl1, hl2]) i0 (by omega)
         exact ((ih0 _ (by omega)) (i + 1) rfl (by first | with_reducible assumption | omega | (simp_all; done)) (by first | with_reducible assumption | omega | (simp_all; done)) (by first | with_reducible assumption | omega | (simp_all; done)) (by first | with_reducible assumption | omega | (simp_all; done)) (by first | with_reducible assumption | omega | (simp_all; done))
          (hg0.landM okF hJ mixed_ok (wTrue_s11 B s c plan t i dJ0)
          ⟨(wq_in (by omega) (by omega)), ⟨(ltq_f (Int.not_lt.1 q5)), hp8⟩⟩ (by kernel_rfl) (by kernel_rfl))).cast (by first | rfl | (exfalso; omega) | (exfalso; simp_all; done))
   ·
    exact (GoE.endsT okF hJ mixed_ok hg0 (wTrue_s12 B s c plan t i dJ0)
     ⟨⟨trivial, known⟩, ⟨(ltq_f (Int.not_lt.1 q0)), trivial⟩⟩).cast rfl
set_option maxHeartbeats 4000000 in
theorem wTrue_e (s : WShore) (c : WStorm) (plan : List Int) (t : WTruth)  {B : Lo} (hJ : ∀ w, B.has w → J0 w) : EndsT Try.prog B (entryC Try.prog 6 175 (([.agg (encShore s).toArray, .agg (encStorm c).toArray, slI plan, .agg (encTruth t).toArray]).map (pushT 0 4))) (.bool true) := by
 have hl0 := playL_len (s := s) (plan := plan) (t := t)
 have hl1 := playL_len (s := s) (plan := plan) (t := endE false s c)
 have hl2 := playL_len (s := s) (plan := plan) (t := endE true s c)
 have hl3 : (zipS (playL s plan (endE false s c)) (playL s plan (endE true s c))).length = s.cells.length := by rw [zipS_len (by rw [hl1, hl2]), hl1]
 cases q0 : decide (List.length (WShore.cells s) ≤ 12) with
 | true =>
   cases q1 : decide (List.length (WShore.works s) ≤ 8) with
   | true =>
     have hp11 : AllP (wTrue_p11 B s c plan t) := by
      try have h1 := shore_facts ‹shoreB s = true›
      try have h2 := tOk_of ‹shoreB s = true› ‹stormB c = true› ‹truthB s c t = true›
      try have h3 := levels_mono ‹shoreB s = true› ‹stormB c = true›
      try have h4 := level_in (tOk_end (b := false) ‹shoreB s = true› ‹stormB c = true›)
      try have h5 := level_in (tOk_end (b := true) ‹shoreB s = true› ‹stormB c = true›)
      exact ⟨⟨trivial, (by have t_ := lshort (s); rw [q0, q1] at t_; exact t_)⟩, trivial⟩
     by_cases q2 : (12 : Int) < ((↑(List.length plan) : Int))
     ·
      exact (GoE.endsT okF hJ mixed_ok GoE.start (wTrue_s13 B s c plan t)
       ⟨⟨trivial, known⟩, ⟨(ltq_t q2), hp11⟩⟩).cast rfl
     ·
      have hp12 : AllP (wTrue_p12 B s c plan t) := by
       exact ⟨(ltq_f (Int.not_lt.1 q2)), hp11⟩
      by_cases q3 : (12 : Int) < ((↑(List.length (WTruth.drags t)) : Int))
      ·
       exact (GoE.endsT okF hJ mixed_ok GoE.start (wTrue_s14 B s c plan t)
        ⟨⟨trivial, known⟩, ⟨(ltq_t q3), hp12⟩⟩).cast rfl
      ·
       have hp13 : AllP (wTrue_p13 B s c plan t) := by
        exact ⟨(ltq_f (Int.not_lt.1 q3)), hp12⟩
       cases q4 : shoreB s with
       | true =>
         cases q5 : stormB c with
         | true =>
           cases q6 : planB s plan with
           | true =>
             have hp14 : AllP (wTrue_p14 B s c plan t) := by
              try have h1 := shore_facts ‹shoreB s = true›
              try have h2 := tOk_of ‹shoreB s = true› ‹stormB c = true› ‹truthB s c t = true›
              try have h3 := levels_mono ‹shoreB s = true› ‹stormB c = true›
              try have h4 := level_in (tOk_end (b := false) ‹shoreB s = true› ‹stormB c = true›)
              try have h5 := level_in (tOk_end (b := true) ‹shoreB s = true› ‹stormB c = true›)
              exact ⟨⟨trivial, (by have t_ := lbuilt (s) (c) (plan); rw [q4, q5, q6] at t_; exact t_)⟩, hp13⟩
             cases q7 : truthB s c t with
             | true =>
               have hp15 : AllP (wTrue_p15 B s c plan t) := by
                try have h1 := shore_facts ‹shoreB s = true›
                try have h2 := tOk_of ‹shoreB s = true› ‹stormB c = true› ‹truthB s c t = true›
                try have h3 := levels_mono ‹shoreB s = true› ‹stormB c = true›
                try have h4 := level_in (tOk_end (b := false) ‹shoreB s = true› ‹stormB c = true›)
                try have h5 := level_in (tOk_end (b := true) ‹shoreB s = true› ‹stormB c = true›)
                exact ⟨⟨trivial, (by have t_ := pLevel (s) (c); rw [q4, q5] at t_; exact t_)⟩, ⟨⟨trivial, (by have t_ := pDepths (s) (c) (plan); rw [q4, q5, q6] at t_; exact t_)⟩, ⟨⟨trivial, (by have t_ := pPlay (s) (c) (plan) (t); rw [q4, q5, q6, q7] at t_; exact t_)⟩, ⟨⟨trivial, (by have t_ := rTruth (s) (c) (t); rw [q7] at t_; exact t_)⟩, hp14⟩⟩⟩⟩
               by_cases q8 : ((↑(List.length (playL s plan t)) : Int) : Int) ≠ ((↑(List.length (WShore.cells s)) : Int))
               ·
                try have h1 := shore_facts ‹shoreB s = true›
                try have h2 := tOk_of ‹shoreB s = true› ‹stormB c = true› ‹truthB s c t = true›
                try have h3 := levels_mono ‹shoreB s = true› ‹stormB c = true›
                try have h4 := level_in (tOk_end (b := false) ‹shoreB s = true› ‹stormB c = true›)
                try have h5 := level_in (tOk_end (b := true) ‹shoreB s = true› ‹stormB c = true›)
                exact (GoE.endsT okF hJ mixed_ok GoE.start (wTrue_s15 B s c plan t)
                 ⟨(neqq_t q8), hp15⟩).cast (by first | rfl | (exfalso; omega) | (exfalso; simp_all; done))
               ·
                have hp16 : AllP (wTrue_p16 B s c plan t) := by
                 exact ⟨(neqq_f (Decidable.of_not_not q8)), hp15⟩
                by_cases q9 : ((↑(List.length (zipS (playL s plan (endE false s c)) (playL s plan (endE true s c)))) : Int) : Int) ≠ ((↑(List.length (WShore.cells s)) : Int))
                ·
                 try have h1 := shore_facts ‹shoreB s = true›
                 try have h2 := tOk_of ‹shoreB s = true› ‹stormB c = true› ‹truthB s c t = true›
                 try have h3 := levels_mono ‹shoreB s = true› ‹stormB c = true›
                 try have h4 := level_in (tOk_end (b := false) ‹shoreB s = true› ‹stormB c = true›)
                 try have h5 := level_in (tOk_end (b := true) ‹shoreB s = true› ‹stormB c = true›)
                 exact (GoE.endsT okF hJ mixed_ok GoE.start (wTrue_s16 B s c plan t)
                  ⟨(neqq_t q9), hp16⟩).cast (by first | rfl | (exfalso; omega) | (exfalso; simp_all; done))
                ·
                 have hp17 : AllP (wTrue_p17 B s c plan t) := by
                  exact ⟨(neqq_f (Decidable.of_not_not q9)), hp16⟩
                 by_cases q10 : (20000 : Int) < (max (levelF s (endE false s c)) (levelF s (endE true s c)))
                 ·
                  try have h1 := shore_facts ‹shoreB s = true›
                  try have h2 := tOk_of ‹shoreB s = true› ‹stormB c = true› ‹truthB s c t = true›
                  try have h3 := levels_mono ‹shoreB s = true› ‹stormB c = true›
                  try have h4 := level_in (tOk_end (b := false) ‹shoreB s = true› ‹stormB c = true›)
                  try have h5 := level_in (tOk_end (b := true) ‹shoreB s = true› ‹stormB c = true›)
                  exact (GoE.endsT okF hJ mixed_ok GoE.start (wTrue_s17 B s c plan t)
                   ⟨(ltq_t q10), hp17⟩).cast (by first | rfl | (exfalso; omega) | (exfalso; simp_all; done))
                 ·
                  try have h1 := shore_facts ‹shoreB s = true›
                  try have h2 := tOk_of ‹shoreB s = true› ‹stormB c = true› ‹truthB s c t = true›
                  try have h3 := levels_mono ‹shoreB s = true› ‹stormB c = true›
                  try have h4 := level_in (tOk_end (b := false) ‹shoreB s = true› ‹stormB c = true›)
                  try have h5 := level_in (tOk_end (b := true) ‹shoreB s = true› ‹stormB c = true›)
                  exact ((wTrue_ls s c plan t  hJ _) (0) rfl (by first | with_reducible assumption | omega | (simp_all; done)) (by first | with_reducible assumption | omega | (simp_all; done)) (by first | with_reducible assumption | omega | (simp_all; done)) (by first | with_reducible assumption | omega | (simp_all; done)) (by first | with_reducible assumption | omega | (simp_all; done))
                   (GoE.start.landM okF hJ mixed_ok (wTrue_s18 B s c plan t)
                   ⟨(ltq_f (Int.not_lt.1 q10)), hp17⟩ (by kernel_rfl) (by kernel_rfl))).cast (by first | rfl | (exfalso; omega) | (exfalso; simp_all; done))
             | false =>
               try have h1 := shore_facts ‹shoreB s = true›
               try have h2 := tOk_of ‹shoreB s = true› ‹stormB c = true› ‹truthB s c t = true›
               try have h3 := levels_mono ‹shoreB s = true› ‹stormB c = true›
               try have h4 := level_in (tOk_end (b := false) ‹shoreB s = true› ‹stormB c = true›)
               try have h5 := level_in (tOk_end (b := true) ‹shoreB s = true› ‹stormB c = true›)
               exact (GoE.endsT okF hJ mixed_ok GoE.start (wTrue_s19 B s c plan t)
                ⟨⟨trivial, known⟩, ⟨⟨trivial, (by have t_ := rTruth (s) (c) (t); rw [q7] at t_; exact t_)⟩, hp14⟩⟩).cast rfl
           | false =>
             try have h1 := shore_facts ‹shoreB s = true›
             try have h2 := tOk_of ‹shoreB s = true› ‹stormB c = true› ‹truthB s c t = true›
             try have h3 := levels_mono ‹shoreB s = true› ‹stormB c = true›
             try have h4 := level_in (tOk_end (b := false) ‹shoreB s = true› ‹stormB c = true›)
             try have h5 := level_in (tOk_end (b := true) ‹shoreB s = true› ‹stormB c = true›)
             exact (GoE.endsT okF hJ mixed_ok GoE.start (wTrue_s20 B s c plan t)
              ⟨⟨trivial, known⟩, ⟨⟨trivial, (by have t_ := lbuilt (s) (c) (plan); rw [q4, q5, q6] at t_; exact t_)⟩, hp13⟩⟩).cast rfl
         | false =>
           try have h1 := shore_facts ‹shoreB s = true›
           try have h2 := tOk_of ‹shoreB s = true› ‹stormB c = true› ‹truthB s c t = true›
           try have h3 := levels_mono ‹shoreB s = true› ‹stormB c = true›
           try have h4 := level_in (tOk_end (b := false) ‹shoreB s = true› ‹stormB c = true›)
           try have h5 := level_in (tOk_end (b := true) ‹shoreB s = true› ‹stormB c = true›)
           exact (GoE.endsT okF hJ mixed_ok GoE.start (wTrue_s21 B s c plan t)
            ⟨⟨trivial, known⟩, ⟨⟨trivial, (by have t_ := lbuilt (s) (c) (plan); rw [q4, q5] at t_; exact t_)⟩, hp13⟩⟩).cast rfl
       | false =>
         try have h1 := shore_facts ‹shoreB s = true›
         try have h2 := tOk_of ‹shoreB s = true› ‹stormB c = true› ‹truthB s c t = true›
         try have h3 := levels_mono ‹shoreB s = true› ‹stormB c = true›
         try have h4 := level_in (tOk_end (b := false) ‹shoreB s = true› ‹stormB c = true›)
         try have h5 := level_in (tOk_end (b := true) ‹shoreB s = true› ‹stormB c = true›)
         exact (GoE.endsT okF hJ mixed_ok GoE.start (wTrue_s22 B s c plan t)
          ⟨⟨trivial, known⟩, ⟨⟨trivial, (by have t_ := lbuilt (s) (c) (plan); rw [q4] at t_; exact t_)⟩, hp13⟩⟩).cast rfl
   | false =>
     try have h1 := shore_facts ‹shoreB s = true›
     try have h2 := tOk_of ‹shoreB s = true› ‹stormB c = true› ‹truthB s c t = true›
     try have h3 := levels_mono ‹shoreB s = true› ‹stormB c = true›
     try have h4 := level_in (tOk_end (b := false) ‹shoreB s = true› ‹stormB c = true›)
     try have h5 := level_in (tOk_end (b := true) ‹shoreB s = true› ‹stormB c = true›)
     exact (GoE.endsT okF hJ mixed_ok GoE.start (wTrue_s23 B s c plan t)
      ⟨⟨trivial, known⟩, ⟨⟨trivial, (by have t_ := lshort (s); rw [q0, q1] at t_; exact t_)⟩, trivial⟩⟩).cast rfl
 | false =>
   try have h1 := shore_facts ‹shoreB s = true›
   try have h2 := tOk_of ‹shoreB s = true› ‹stormB c = true› ‹truthB s c t = true›
   try have h3 := levels_mono ‹shoreB s = true› ‹stormB c = true›
   try have h4 := level_in (tOk_end (b := false) ‹shoreB s = true› ‹stormB c = true›)
   try have h5 := level_in (tOk_end (b := true) ‹shoreB s = true› ‹stormB c = true›)
   exact (GoE.endsT okF hJ mixed_ok GoE.start (wTrue_s24 B s c plan t)
    ⟨⟨trivial, known⟩, ⟨⟨trivial, (by have t_ := lshort (s); rw [q0] at t_; exact t_)⟩, trivial⟩⟩).cast rfl
theorem wTrue (s : WShore) (c : WStorm) (plan : List Int) (t : WTruth)  : PureC Try.prog J0 6 #[.agg (encShore s).toArray, .agg (encStorm c).toArray, slI plan, .agg (encTruth t).toArray] (.bool true) :=
 pureC_of (ts := [.agg (encShore s).toArray, .agg (encStorm c).toArray, slI plan, .agg (encTruth t).toArray]) J0_st (c0 := entryC Try.prog 6 175 (([.agg (encShore s).toArray, .agg (encStorm c).toArray, slI plan, .agg (encTruth t).toArray]).map (pushT 0 4))) (by kernel_rfl) (by kernel_rfl) fun B hJ => wTrue_e s c plan t  hJ
end Go.Proofs.Ytiigkdhaofaijaa

namespace Go.Proofs.Ytiigkdhaofaijaa
open Go Go.CE Go.RowKit
theorem true_all : ∀ trs, ArgAll [shShore, shStorm, .slice .int, shTruth] trs → PureC Try.prog J0 6 trs.toArray (.bool true) := by
 rintro trs ⟨t0, _, rfl, h0, t1, _, rfl, h1, t2, _, rfl, h2, t3, _, rfl, h3, rfl⟩
 obtain ⟨s, rfl⟩ := arg_shore h0
 obtain ⟨c, rfl⟩ := arg_storm h1
 obtain ⟨l, rfl⟩ := arg_ints h2
 obtain ⟨t, rfl⟩ := arg_truth h3
 exact wTrue s c l t
end Go.Proofs.Ytiigkdhaofaijaa

namespace Go.Proofs.Ytiigkdhaofaijaa
open Go Go.CE Go.ChangeShapes Go.WideShapes Go.RowKit
set_option maxRecDepth 100000 in
theorem wallTrue_lifted (os : Os) (started : os.Started) (H : Type) (enc : TypeId × Value → H) :
 ReturnsInHanded {} Try.checked os 6 .any (Rows.wallTrueSpec.pre6 enc Try.prog Try.f6 Rows.wallTrueRow.domain false) (Rows.wallTrueSpec.post enc Try.prog Try.f6 false true false false) := by
 refine returnsInHanded_of_change (C := Try.checked) (show ownKnob Try.prog.godebug = none by kernel_rfl) started (by kernel_rfl) Try.func6
  (ChangeSpec.witness6 (enc := enc) (C := Try.checked) false ⟨#[], #[Sh.zeroA shShore, Sh.zeroA shStorm, Sh.zeroA (.slice .int), Sh.zeroA shTruth], []⟩ 8 (by kernel_rfl) (by kernel_rfl) (by kernel_rfl) (by kernel_rfl)) ?_
 intro W base args ds gs before hval0 hW _ _
 have hval : ∀ (j : Nat) t v, Try.f6.params[j]? = some t → args[j]? = some v → Value.okWide Try.prog W .any base t v := hval0
 have hW' := hW
 obtain ⟨p, q, hA0, hV, rfl, _, _⟩ := hW
 obtain ⟨rfl, rfl⟩ := trodVars_none hV
 have hA1 : DataW.TrodAll enc Try.prog W 0 (fun _ => true) true Try.f6.params.toList args.toList ds p := hA0
 have hlt : ∀ x ∈ p, x.block < W.heap.size := fun x hx => hW'.lt x (by simpa using hx)
 have hch : chkAll Try.prog [shShore, shStorm, (.slice .int), shTruth] Try.f6.params.toList = true := by kernel_rfl
 have hrd : (Try.f6.params.toList.all fun t => Try.prog.readableRec t && decide (t < Try.prog.types.size)) = true := by kernel_rfl
 refine (law_call (J := J0) (ss := [shShore, shStorm, (.slice .int), shTruth]) trivial hch hA1 (fun j t v h1 h2 => hval j t v (by simpa using h1) h2) true_all).mono fun e W' ⟨he, hB⟩ => ?_
 subst he
 have hB2 := trodAll_below (show laidOutB Try.prog = true by kernel_rfl) hB _ _ _ _ hrd hA1 hlt
 have hA : DataW.TrodAll enc Try.prog W 0 (fun _ => true) true Try.f6.params.toList args.toList ds p := hA1
 rw [Try.params6] at hA
 simp only [List.toList_toArray] at hA
 have hA := hA
 obtain ⟨v0, vs0, d0, ds0, p0, q0, _, rfl, _, h0, _⟩ := CE.trodAll_cons hA
 obtain ⟨v1, vs1, d1, ds1, p1, q1, _, rfl, _, h1, _⟩ := CE.trodAll_cons h0
 obtain ⟨v2, vs2, d2, ds2, p2, q2, _, rfl, _, h2, _⟩ := CE.trodAll_cons h1
 obtain ⟨v3, vs3, d3, ds3, p3, q3, _, rfl, _, h3, _⟩ := CE.trodAll_cons h2
 obtain ⟨_, rfl, _⟩ := CE.trodAll_nil h3
 exact ⟨_, rfl, _, _, _, [], _, [], hW', trodAll_mk1 (shut_bool Try.underlying4 _), hB2, rfl, hB.frame _, fun h => by cases h⟩
theorem wallTrue_row : Rows.WallTrueSaid :=
 OpenClaim.holds_of_wide 6 Try.f6 rfl rfl rfl rfl rfl rfl rfl ⟨rfl, rfl, rfl, rfl, rfl⟩ rfl rfl rfl rfl rfl (by kernel_rfl) Try.func6 (by kernel_rfl)
  (of_decide_eq_true (by kernel_rfl)) (by unfold Func.isWrapper; first | (rw [if_pos (by decide +kernel)]; kernel_rfl) | (rw [if_neg (by decide +kernel)]; exact ⟨rfl, rfl⟩))
  (fun os started H enc _ => wallTrue_lifted os started H enc)
end Go.Proofs.Ytiigkdhaofaijaa
