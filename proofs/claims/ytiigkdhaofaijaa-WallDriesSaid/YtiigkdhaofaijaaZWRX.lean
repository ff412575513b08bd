/- WallDries: whatever the input, it returns true, and each argument reads as it did. The row, from the walk. -/
import Derived.Test.YtiigkdhaofaijaaZWR15
import Derived.Test.YtiigkdhaofaijaaZWR14
import Derived.JoinedOf
import Derived.Test.YtiigkdhaofaijaaRows
set_option linter.all false
namespace Go.Proofs.Ytiigkdhaofaijaa
open Go Go.CE Go.RowKit
set_option maxRecDepth 100000
theorem rInward2 (s : WShore) (c : WStorm) (plan : List Int) (k : Int) (hs : shoreB s = true) (hc : stormB c = true) (hp : planB s plan = true) (hk : 0 ≤ k ∧ k < s.cells.length) : PureC Try.prog J0 36 #[.agg (encShore s).toArray, .agg (encStorm c).toArray, slI plan, .int .i64 k] (.int .i64 (if 0 ≤ inwI ((playL s plan (endE true s c)).drop k.toNat) 0 then inwI ((playL s plan (endE true s c)).drop k.toNat) 0 + k else -1)) := by
 have h := rInward s c plan k hs hc hp hk
 rw [inwK_eq hk.1] at h
 have hg := inw_ge (l := playL s plan (endE true s c)) (k := k)
 by_cases e : 0 ≤ inwI ((playL s plan (endE true s c)).drop k.toNat) 0
 ·rw [if_pos e]; rw [if_neg (by omega)] at h; exact h
 ·rw [if_neg e]; rw [if_pos (by omega)] at h; exact h
noncomputable def wDries_z0 (s : WShore) (c : WStorm) (plan : List Int) (k : Int) : Array Value := #[Value.agg #[slT (List.length (WShore.cells s)) (rowL encWCell (WShore.cells s)), slT (List.length (WShore.works s)) (rowL encWWork (WShore.works s)), Value.int IntKind.i64 (WShore.reef s), Value.int IntKind.i64 (WShore.llo s), Value.int IntKind.i64 (WShore.lhi s)], Value.agg #[Value.int IntKind.i64 (WStorm.wlo c), Value.int IntKind.i64 (WStorm.whi c), Value.int IntKind.i64 (WStorm.flo c), Value.int IntKind.i64 (WStorm.fhi c), Value.int IntKind.i64 (WStorm.tlo c), Value.int IntKind.i64 (WStorm.thi c)], slT (List.length plan) (rowL encI plan), Value.int IntKind.i64 k]
noncomputable def wDries_z1 (s : WShore) (c : WStorm) (plan : List Int) : Array Value := #[Value.agg #[slT (List.length (WShore.cells s)) (rowL encWCell (WShore.cells s)), slT (List.length (WShore.works s)) (rowL encWWork (WShore.works s)), Value.int IntKind.i64 (WShore.reef s), Value.int IntKind.i64 (WShore.llo s), Value.int IntKind.i64 (WShore.lhi s)], Value.agg #[Value.int IntKind.i64 (WStorm.wlo c), Value.int IntKind.i64 (WStorm.whi c), Value.int IntKind.i64 (WStorm.flo c), Value.int IntKind.i64 (WStorm.fhi c), Value.int IntKind.i64 (WStorm.tlo c), Value.int IntKind.i64 (WStorm.thi c)], slT (List.length plan) (rowL encI plan)]
noncomputable def wDries_z2 (s : WShore) (k : Int) : Array Value := #[Value.agg #[slT (List.length (WShore.cells s)) (rowL encWCell (WShore.cells s)), slT (List.length (WShore.works s)) (rowL encWWork (WShore.works s)), Value.int IntKind.i64 (WShore.reef s), Value.int IntKind.i64 (WShore.llo s), Value.int IntKind.i64 (WShore.lhi s)], Value.int IntKind.i64 k]
noncomputable def wDries_z3 (s : WShore) : Array Value := #[Value.agg #[slT (List.length (WShore.cells s)) (rowL encWCell (WShore.cells s)), slT (List.length (WShore.works s)) (rowL encWWork (WShore.works s)), Value.int IntKind.i64 (WShore.reef s), Value.int IntKind.i64 (WShore.llo s), Value.int IntKind.i64 (WShore.lhi s)]]
noncomputable def wDries_z4 (s : WShore) (c : WStorm) (plan : List Int) : Array Value := #[slT (List.length (dryL s (playL s plan (endE true s c)) 0)) (rowL encI (dryL s (playL s plan (endE true s c)) 0)), slT (List.length (dryL s (playL s plan (endE true s c)) 0)) (rowL encI (dryL s (playL s plan (endE true s c)) 0))]
noncomputable def wDries_z5 (s : WShore) (c : WStorm) (plan : List Int) : Value := (slT (List.length (dryL s (playL s plan (endE true s c)) 0)) (rowL encI (dryL s (playL s plan (endE true s c)) 0)))
noncomputable def wDries_p0 (B : Lo) (s : WShore) (c : WStorm) (plan : List Int) (k : Int) : List Prop := [AllP [] ∧ PureC Try.prog J0 14 (wDries_z3 s) (Value.bool true)] ++ ([] : List Prop)
noncomputable def wDries_q0 (s : WShore) (c : WStorm) (plan : List Int) (k : Int) : ScriptT := [(4, HintT.pure (Value.bool true) [])]
theorem wDries_s0 (B : Lo) (s : WShore) (c : WStorm) (plan : List Int) (k : Int) : endT (srunT Try.prog (okFn Try.prog) J0 B 10 1 (entryC Try.prog 8 116 (([.agg (encShore s).toArray, .agg (encStorm c).toArray, slI plan, .int .i64 k]).map (pushT 0 4))) H00 1
 (wDries_q0 s c plan k ++ [(9, hvT), (11, HintT.pure (Value.bool true) [])]) 0 [] []) [] = some (Value.bool true,
 [AllP [] ∧ PureC Try.prog J0 15 #[] (Value.bool true), ltq 12 (↑(List.length plan) : Int) = true] ++ wDries_p0 B s c plan k) := by kernel_rfl
noncomputable def wDries_p1 (B : Lo) (s : WShore) (c : WStorm) (plan : List Int) (k : Int) : List Prop := [ltq 12 (↑(List.length plan) : Int) = false] ++ wDries_p0 B s c plan k
noncomputable def wDries_q1 (s : WShore) (c : WStorm) (plan : List Int) (k : Int) : ScriptT := wDries_q0 s c plan k ++ [(9, hvF)]
noncomputable def wDries_p2 (B : Lo) (s : WShore) (c : WStorm) (plan : List Int) (k : Int) : List Prop := [AllP [] ∧ PureC Try.prog J0 32 (wDries_z1 s c plan) (Value.tuple #[slT (List.length (dryL s (playL s plan (endE true s c)) 0)) (rowL encI (dryL s (playL s plan (endE true s c)) 0)), Value.int IntKind.i64 0])] ++ wDries_p1 B s c plan k
noncomputable def wDries_q2 (s : WShore) (c : WStorm) (plan : List Int) (k : Int) : ScriptT := wDries_q1 s c plan k ++ [(14, HintT.pure (Value.tuple #[slT (List.length (dryL s (playL s plan (endE true s c)) 0)) (rowL encI (dryL s (playL s plan (endE true s c)) 0)), Value.int IntKind.i64 0]) [])]
noncomputable def wDries_p3 (B : Lo) (s : WShore) (c : WStorm) (plan : List Int) (k : Int) : List Prop := [AllP [] ∧ PureC Try.prog J0 34 (wDries_z1 s c plan) (wDries_z5 s c plan), AllP [] ∧ PureC Try.prog J0 25 (wDries_z1 s c plan) (Value.bool true), AllP [] ∧ PureC Try.prog J0 33 (wDries_z0 s c plan k) (Value.tuple #[Value.int IntKind.i64 (k + inwI (List.drop (Int.toNat k) (playL s plan (endE true s c))) 0), Value.int IntKind.i64 (if 0 ≤ inwI (List.drop (Int.toNat k) (playL s plan (endE true s c))) 0 then 0 else 5)])] ++ wDries_p2 B s c plan k
noncomputable def wDries_q3 (s : WShore) (c : WStorm) (plan : List Int) (k : Int) : ScriptT := wDries_q2 s c plan k ++ [(24, HintT.pure (Value.tuple #[Value.int IntKind.i64 (k + inwI (List.drop (Int.toNat k) (playL s plan (endE true s c))) 0), Value.int IntKind.i64 (if 0 ≤ inwI (List.drop (Int.toNat k) (playL s plan (endE true s c))) 0 then 0 else 5)]) []), (33, HintT.pure (Value.bool true) []), (42, HintT.pure (wDries_z5 s c plan) [])]
noncomputable def wDries_p4 (B : Lo) (s : WShore) (c : WStorm) (plan : List Int) (k : Int) : List Prop := [AllP [] ∧ PureC Try.prog J0 36 (wDries_z0 s c plan k) (Value.int IntKind.i64 (if 0 ≤ inwI (List.drop (Int.toNat k) (playL s plan (endE true s c))) 0 then inwI (List.drop (Int.toNat k) (playL s plan (endE true s c))) 0 + k else -1)), AllP [] ∧ PureC Try.prog J0 35 (wDries_z2 s k) (Value.bool true), AllP [] ∧ PureC Try.prog J0 27 (wDries_z4 s c plan) (Value.bool true)] ++ wDries_p3 B s c plan k
noncomputable def wDries_q4 (s : WShore) (c : WStorm) (plan : List Int) (k : Int) : ScriptT := wDries_q3 s c plan k ++ [(43, HintT.pure (Value.bool true) []), (48, HintT.pure (Value.bool true) []), (54, HintT.pure (Value.int IntKind.i64 (if 0 ≤ inwI (List.drop (Int.toNat k) (playL s plan (endE true s c))) 0 then inwI (List.drop (Int.toNat k) (playL s plan (endE true s c))) 0 + k else -1)) [])]
noncomputable def wDries_p5 (B : Lo) (s : WShore) (c : WStorm) (plan : List Int) (k : Int) : List Prop := [ltq (if 0 ≤ inwI (List.drop (Int.toNat k) (playL s plan (endE true s c))) 0 then inwI (List.drop (Int.toNat k) (playL s plan (endE true s c))) 0 + k else -1) 0 = true] ++ wDries_p4 B s c plan k
noncomputable def wDries_q5 (s : WShore) (c : WStorm) (plan : List Int) (k : Int) : ScriptT := wDries_q4 s c plan k ++ [(57, hvT)]
noncomputable def wDries_p6 (B : Lo) (s : WShore) (c : WStorm) (plan : List Int) (k : Int) : List Prop := [eqq (if 0 ≤ inwI (List.drop (Int.toNat k) (playL s plan (endE true s c))) 0 then 0 else 5) 5 = true] ++ wDries_p5 B s c plan k
noncomputable def wDries_q6 (s : WShore) (c : WStorm) (plan : List Int) (k : Int) : ScriptT := wDries_q5 s c plan k ++ [(60, hvT)]
theorem wDries_s1 (B : Lo) (s : WShore) (c : WStorm) (plan : List Int) (k : Int) : endT (srunT Try.prog (okFn Try.prog) J0 B 32 1 (entryC Try.prog 8 116 (([.agg (encShore s).toArray, .agg (encStorm c).toArray, slI plan, .int .i64 k]).map (pushT 0 4))) H00 1
 (wDries_q6 s c plan k ++ [(64, hvT), (80, HintT.pure (Value.bool true) [])]) 0 [] []) [] = some (Value.bool true,
 [AllP [] ∧ PureC Try.prog J0 15 #[] (Value.bool true), eqq (k + inwI (List.drop (Int.toNat k) (playL s plan (endE true s c))) 0) 0 = true] ++ wDries_p6 B s c plan k) := by kernel_rfl
noncomputable def wDries_p7 (B : Lo) (s : WShore) (c : WStorm) (plan : List Int) (k : Int) : List Prop := [eqq (k + inwI (List.drop (Int.toNat k) (playL s plan (endE true s c))) 0) 0 = false] ++ wDries_p6 B s c plan k
noncomputable def wDries_q7 (s : WShore) (c : WStorm) (plan : List Int) (k : Int) : ScriptT := wDries_q6 s c plan k ++ [(64, hvF)]
noncomputable def wDries_p8 (B : Lo) (s : WShore) (c : WStorm) (plan : List Int) (k : Int) : List Prop := [(!ltq (if 0 ≤ inwI (List.drop (Int.toNat k) (playL s plan (endE true s c))) 0 then inwI (List.drop (Int.toNat k) (playL s plan (endE true s c))) 0 + k else -1) 0) = true] ++ wDries_p7 B s c plan k
noncomputable def wDries_q8 (s : WShore) (c : WStorm) (plan : List Int) (k : Int) : ScriptT := wDries_q7 s c plan k ++ [(68, hvT)]
noncomputable def wDries_p9 (B : Lo) (s : WShore) (c : WStorm) (plan : List Int) (k : Int) : List Prop := [eqq (if 0 ≤ inwI (List.drop (Int.toNat k) (playL s plan (endE true s c))) 0 then 0 else 5) 0 = true] ++ wDries_p8 B s c plan k
noncomputable def wDries_q9 (s : WShore) (c : WStorm) (plan : List Int) (k : Int) : ScriptT := wDries_q8 s c plan k ++ [(71, hvT)]
theorem wDries_s2 (B : Lo) (s : WShore) (c : WStorm) (plan : List Int) (k : Int) : endT (srunT Try.prog (okFn Try.prog) J0 B 32 1 (entryC Try.prog 8 116 (([.agg (encShore s).toArray, .agg (encStorm c).toArray, slI plan, .int .i64 k]).map (pushT 0 4))) H00 1
 (wDries_q9 s c plan k ++ [(76, hvT), (80, HintT.pure (Value.bool true) [])]) 0 [] []) [] = some (Value.bool true,
 [AllP [] ∧ PureC Try.prog J0 15 #[] (Value.bool true), eqq (k + inwI (List.drop (Int.toNat k) (playL s plan (endE true s c))) 0) (if 0 ≤ inwI (List.drop (Int.toNat k) (playL s plan (endE true s c))) 0 then inwI (List.drop (Int.toNat k) (playL s plan (endE true s c))) 0 + k else -1) = true] ++ wDries_p9 B s c plan k) := by kernel_rfl
theorem wDries_s3 (B : Lo) (s : WShore) (c : WStorm) (plan : List Int) (k : Int) : endT (srunT Try.prog (okFn Try.prog) J0 B 32 1 (entryC Try.prog 8 116 (([.agg (encShore s).toArray, .agg (encStorm c).toArray, slI plan, .int .i64 k]).map (pushT 0 4))) H00 1
 (wDries_q9 s c plan k ++ [(76, hvF)]) 0 [] []) [] = some (Value.bool false,
 [eqq (k + inwI (List.drop (Int.toNat k) (playL s plan (endE true s c))) 0) (if 0 ≤ inwI (List.drop (Int.toNat k) (playL s plan (endE true s c))) 0 then inwI (List.drop (Int.toNat k) (playL s plan (endE true s c))) 0 + k else -1) = false] ++ wDries_p9 B s c plan k) := by kernel_rfl
theorem wDries_s4 (B : Lo) (s : WShore) (c : WStorm) (plan : List Int) (k : Int) : endT (srunT Try.prog (okFn Try.prog) J0 B 32 1 (entryC Try.prog 8 116 (([.agg (encShore s).toArray, .agg (encStorm c).toArray, slI plan, .int .i64 k]).map (pushT 0 4))) H00 1
 (wDries_q8 s c plan k ++ [(71, hvF)]) 0 [] []) [] = some (Value.bool false,
 [eqq (if 0 ≤ inwI (List.drop (Int.toNat k) (playL s plan (endE true s c))) 0 then 0 else 5) 0 = false] ++ wDries_p8 B s c plan k) := by kernel_rfl
theorem wDries_s5 (B : Lo) (s : WShore) (c : WStorm) (plan : List Int) (k : Int) : endT (srunT Try.prog (okFn Try.prog) J0 B 32 1 (entryC Try.prog 8 116 (([.agg (encShore s).toArray, .agg (encStorm c).toArray, slI plan, .int .i64 k]).map (pushT 0 4))) H00 1
 (wDries_q7 s c plan k ++ [(68, hvF)]) 0 [] []) [] = some (Value.bool false,
 [(!ltq (if 0 ≤ inwI (List.drop (Int.toNat k) (playL s plan (endE true s c))) 0 then inwI (List.drop (Int.toNat k) (playL s plan (endE true s c))) 0 + k else -1) 0) = false] ++ wDries_p7 B s c plan k) := by kernel_rfl
noncomputable def wDries_p10 (B : Lo) (s : WShore) (c : WStorm) (plan : List Int) (k : Int) : List Prop := [eqq (if 0 ≤ inwI (List.drop (Int.toNat k) (playL s plan (endE true s c))) 0 then 0 else 5) 5 = false] ++ wDries_p5 B s c plan k
noncomputable def wDries_q10 (s : WShore) (c : WStorm) (plan : List Int) (k : Int) : ScriptT := wDries_q5 s c plan k ++ [(60, hvF)]
noncomputable def wDries_p11 (B : Lo) (s : WShore) (c : WStorm) (plan : List Int) (k : Int) : List Prop := [(!ltq (if 0 ≤ inwI (List.drop (Int.toNat k) (playL s plan (endE true s c))) 0 then inwI (List.drop (Int.toNat k) (playL s plan (endE true s c))) 0 + k else -1) 0) = true] ++ wDries_p10 B s c plan k
noncomputable def wDries_q11 (s : WShore) (c : WStorm) (plan : List Int) (k : Int) : ScriptT := wDries_q10 s c plan k ++ [(68, hvT)]
noncomputable def wDries_p12 (B : Lo) (s : WShore) (c : WStorm) (plan : List Int) (k : Int) : List Prop := [eqq (if 0 ≤ inwI (List.drop (Int.toNat k) (playL s plan (endE true s c))) 0 then 0 else 5) 0 = true] ++ wDries_p11 B s c plan k
noncomputable def wDries_q12 (s : WShore) (c : WStorm) (plan : List Int) (k : Int) : ScriptT := wDries_q11 s c plan k ++ [(71, hvT)]
theorem wDries_s6 (B : Lo) (s : WShore) (c : WStorm) (plan : List Int) (k : Int) : endT (srunT Try.prog (okFn Try.prog) J0 B 32 1 (entryC Try.prog 8 116 (([.agg (encShore s).toArray, .agg (encStorm c).toArray, slI plan, .int .i64 k]).map (pushT 0 4))) H00 1
 (wDries_q12 s c plan k ++ [(76, hvT), (80, HintT.pure (Value.bool true) [])]) 0 [] []) [] = some (Value.bool true,
 [AllP [] ∧ PureC Try.prog J0 15 #[] (Value.bool true), eqq (k + inwI (List.drop (Int.toNat k) (playL s plan (endE true s c))) 0) (if 0 ≤ inwI (List.drop (Int.toNat k) (playL s plan (endE true s c))) 0 then inwI (List.drop (Int.toNat k) (playL s plan (endE true s c))) 0 + k else -1) = true] ++ wDries_p12 B s c plan k) := by kernel_rfl
theorem wDries_s7 (B : Lo) (s : WShore) (c : WStorm) (plan : List Int) (k : Int) : endT (srunT Try.prog (okFn Try.prog) J0 B 32 1 (entryC Try.prog 8 116 (([.agg (encShore s).toArray, .agg (encStorm c).toArray, slI plan, .int .i64 k]).map (pushT 0 4))) H00 1
 (wDries_q12 s c plan k ++ [(76, hvF)]) 0 [] []) [] = some (Value.bool false,
 [eqq (k + inwI (List.drop (Int.toNat k) (playL s plan (endE true s c))) 0) (if 0 ≤ inwI (List.drop (Int.toNat k) (playL s plan (endE true s c))) 0 then inwI (List.drop (Int.toNat k) (playL s plan (endE true s c))) 0 + k else -1) = false] ++ wDries_p12 B s c plan k) := by kernel_rfl
theorem wDries_s8 (B : Lo) (s : WShore) (c : WStorm) (plan : List Int) (k : Int) : endT (srunT Try.prog (okFn Try.prog) J0 B 32 1 (entryC Try.prog 8 116 (([.agg (encShore s).toArray, .agg (encStorm c).toArray, slI plan, .int .i64 k]).map (pushT 0 4))) H00 1
 (wDries_q11 s c plan k ++ [(71, hvF)]) 0 [] []) [] = some (Value.bool false,
 [eqq (if 0 ≤ inwI (List.drop (Int.toNat k) (playL s plan (endE true s c))) 0 then 0 else 5) 0 = false] ++ wDries_p11 B s c plan k) := by kernel_rfl
theorem wDries_s9 (B : Lo) (s : WShore) (c : WStorm) (plan : List Int) (k : Int) : endT (srunT Try.prog (okFn Try.prog) J0 B 32 1 (entryC Try.prog 8 116 (([.agg (encShore s).toArray, .agg (encStorm c).toArray, slI plan, .int .i64 k]).map (pushT 0 4))) H00 1
 (wDries_q10 s c plan k ++ [(68, hvF)]) 0 [] []) [] = some (Value.bool false,
 [(!ltq (if 0 ≤ inwI (List.drop (Int.toNat k) (playL s plan (endE true s c))) 0 then inwI (List.drop (Int.toNat k) (playL s plan (endE true s c))) 0 + k else -1) 0) = false] ++ wDries_p10 B s c plan k) := by kernel_rfl
noncomputable def wDries_p13 (B : Lo) (s : WShore) (c : WStorm) (plan : List Int) (k : Int) : List Prop := [ltq (if 0 ≤ inwI (List.drop (Int.toNat k) (playL s plan (endE true s c))) 0 then inwI (List.drop (Int.toNat k) (playL s plan (endE true s c))) 0 + k else -1) 0 = false] ++ wDries_p4 B s c plan k
noncomputable def wDries_q13 (s : WShore) (c : WStorm) (plan : List Int) (k : Int) : ScriptT := wDries_q4 s c plan k ++ [(57, hvF)]
noncomputable def wDries_p14 (B : Lo) (s : WShore) (c : WStorm) (plan : List Int) (k : Int) : List Prop := [(!ltq (if 0 ≤ inwI (List.drop (Int.toNat k) (playL s plan (endE true s c))) 0 then inwI (List.drop (Int.toNat k) (playL s plan (endE true s c))) 0 + k else -1) 0) = true] ++ wDries_p13 B s c plan k
noncomputable def wDries_q14 (s : WShore) (c : WStorm) (plan : List Int) (k : Int) : ScriptT := wDries_q13 s c plan k ++ [(68, hvT)]
noncomputable def wDries_p15 (B : Lo) (s : WShore) (c : WStorm) (plan : List Int) (k : Int) : List Prop := [eqq (if 0 ≤ inwI (List.drop (Int.toNat k) (playL s plan (endE true s c))) 0 then 0 else 5) 0 = true] ++ wDries_p14 B s c plan k
noncomputable def wDries_q15 (s : WShore) (c : WStorm) (plan : List Int) (k : Int) : ScriptT := wDries_q14 s c plan k ++ [(71, hvT)]
theorem wDries_s10 (B : Lo) (s : WShore) (c : WStorm) (plan : List Int) (k : Int) : endT (srunT Try.prog (okFn Try.prog) J0 B 32 1 (entryC Try.prog 8 116 (([.agg (encShore s).toArray, .agg (encStorm c).toArray, slI plan, .int .i64 k]).map (pushT 0 4))) H00 1
 (wDries_q15 s c plan k ++ [(76, hvT), (80, HintT.pure (Value.bool true) [])]) 0 [] []) [] = some (Value.bool true,
 [AllP [] ∧ PureC Try.prog J0 15 #[] (Value.bool true), eqq (k + inwI (List.drop (Int.toNat k) (playL s plan (endE true s c))) 0) (if 0 ≤ inwI (List.drop (Int.toNat k) (playL s plan (endE true s c))) 0 then inwI (List.drop (Int.toNat k) (playL s plan (endE true s c))) 0 + k else -1) = true] ++ wDries_p15 B s c plan k) := by kernel_rfl
theorem wDries_s11 (B : Lo) (s : WShore) (c : WStorm) (plan : List Int) (k : Int) : endT (srunT Try.prog (okFn Try.prog) J0 B 32 1 (entryC Try.prog 8 116 (([.agg (encShore s).toArray, .agg (encStorm c).toArray, slI plan, .int .i64 k]).map (pushT 0 4))) H00 1
 (wDries_q15 s c plan k ++ [(76, hvF)]) 0 [] []) [] = some (Value.bool false,
 [eqq (k + inwI (List.drop (Int.toNat k) (playL s plan (endE true s c))) 0) (if 0 ≤ inwI (List.drop (Int.toNat k) (playL s plan (endE true s c))) 0 then inwI (List.drop (Int.toNat k) (playL s plan (endE true s c))) 0 + k else -1) = false] ++ wDries_p15 B s c plan k) := by kernel_rfl
theorem wDries_s12 (B : Lo) (s : WShore) (c : WStorm) (plan : List Int) (k : Int) : endT (srunT Try.prog (okFn Try.prog) J0 B 32 1 (entryC Try.prog 8 116 (([.agg (encShore s).toArray, .agg (encStorm c).toArray, slI plan, .int .i64 k]).map (pushT 0 4))) H00 1
 (wDries_q14 s c plan k ++ [(71, hvF)]) 0 [] []) [] = some (Value.bool false,
 [eqq (if 0 ≤ inwI (List.drop (Int.toNat k) (playL s plan (endE true s c))) 0 then 0 else 5) 0 = false] ++ wDries_p14 B s c plan k) := by kernel_rfl
theorem wDries_s13 (B : Lo) (s : WShore) (c : WStorm) (plan : List Int) (k : Int) : endT (srunT Try.prog (okFn Try.prog) J0 B 32 1 (entryC Try.prog 8 116 (([.agg (encShore s).toArray, .agg (encStorm c).toArray, slI plan, .int .i64 k]).map (pushT 0 4))) H00 1
 (wDries_q13 s c plan k ++ [(68, hvF)]) 0 [] []) [] = some (Value.bool false,
 [(!ltq (if 0 ≤ inwI (List.drop (Int.toNat k) (playL s plan (endE true s c))) 0 then inwI (List.drop (Int.toNat k) (playL s plan (endE true s c))) 0 + k else -1) 0) = false] ++ wDries_p13 B s c plan k) := by kernel_rfl
theorem wDries_s14 (B : Lo) (s : WShore) (c : WStorm) (plan : List Int) (k : Int) : endT (srunT Try.prog (okFn Try.prog) J0 B 24 1 (entryC Try.prog 8 116 (([.agg (encShore s).toArray, .agg (encStorm c).toArray, slI plan, .int .i64 k]).map (pushT 0 4))) H00 1
 (wDries_q3 s c plan k ++ [(43, HintT.pure (Value.bool false) [])]) 0 [] []) [] = some (Value.bool false,
 [AllP [] ∧ PureC Try.prog J0 27 (wDries_z4 s c plan) (Value.bool false)] ++ wDries_p3 B s c plan k) := by kernel_rfl
noncomputable def wDries_p16 (B : Lo) (s : WShore) (c : WStorm) (plan : List Int) (k : Int) : List Prop := [AllP [] ∧ PureC Try.prog J0 34 (wDries_z1 s c plan) (wDries_z5 s c plan), AllP [] ∧ PureC Try.prog J0 25 (wDries_z1 s c plan) (Value.bool true), AllP [] ∧ PureC Try.prog J0 33 (wDries_z0 s c plan k) (Value.tuple #[Value.int IntKind.i64 0, Value.int IntKind.i64 (if 0 ≤ inwI (List.drop (Int.toNat k) (playL s plan (endE true s c))) 0 then 0 else 5)])] ++ wDries_p2 B s c plan k
noncomputable def wDries_q16 (s : WShore) (c : WStorm) (plan : List Int) (k : Int) : ScriptT := wDries_q2 s c plan k ++ [(24, HintT.pure (Value.tuple #[Value.int IntKind.i64 0, Value.int IntKind.i64 (if 0 ≤ inwI (List.drop (Int.toNat k) (playL s plan (endE true s c))) 0 then 0 else 5)]) []), (33, HintT.pure (Value.bool true) []), (42, HintT.pure (wDries_z5 s c plan) [])]
noncomputable def wDries_p17 (B : Lo) (s : WShore) (c : WStorm) (plan : List Int) (k : Int) : List Prop := [AllP [] ∧ PureC Try.prog J0 36 (wDries_z0 s c plan k) (Value.int IntKind.i64 (if 0 ≤ inwI (List.drop (Int.toNat k) (playL s plan (endE true s c))) 0 then inwI (List.drop (Int.toNat k) (playL s plan (endE true s c))) 0 + k else -1)), AllP [] ∧ PureC Try.prog J0 35 (wDries_z2 s k) (Value.bool true), AllP [] ∧ PureC Try.prog J0 27 (wDries_z4 s c plan) (Value.bool true)] ++ wDries_p16 B s c plan k
noncomputable def wDries_q17 (s : WShore) (c : WStorm) (plan : List Int) (k : Int) : ScriptT := wDries_q16 s c plan k ++ [(43, HintT.pure (Value.bool true) []), (48, HintT.pure (Value.bool true) []), (54, HintT.pure (Value.int IntKind.i64 (if 0 ≤ inwI (List.drop (Int.toNat k) (playL s plan (endE true s c))) 0 then inwI (List.drop (Int.toNat k) (playL s plan (endE true s c))) 0 + k else -1)) [])]
noncomputable def wDries_p18 (B : Lo) (s : WShore) (c : WStorm) (plan : List Int) (k : Int) : List Prop := [ltq (if 0 ≤ inwI (List.drop (Int.toNat k) (playL s plan (endE true s c))) 0 then inwI (List.drop (Int.toNat k) (playL s plan (endE true s c))) 0 + k else -1) 0 = true] ++ wDries_p17 B s c plan k
noncomputable def wDries_q18 (s : WShore) (c : WStorm) (plan : List Int) (k : Int) : ScriptT := wDries_q17 s c plan k ++ [(57, hvT)]
theorem wDries_s15 (B : Lo) (s : WShore) (c : WStorm) (plan : List Int) (k : Int) : endT (srunT Try.prog (okFn Try.prog) J0 B 32 1 (entryC Try.prog 8 116 (([.agg (encShore s).toArray, .agg (encStorm c).toArray, slI plan, .int .i64 k]).map (pushT 0 4))) H00 1
 (wDries_q18 s c plan k ++ [(60, hvT), (80, HintT.pure (Value.bool true) [])]) 0 [] []) [] = some (Value.bool true,
 [AllP [] ∧ PureC Try.prog J0 15 #[] (Value.bool true), eqq (if 0 ≤ inwI (List.drop (Int.toNat k) (playL s plan (endE true s c))) 0 then 0 else 5) 5 = true] ++ wDries_p18 B s c plan k) := by kernel_rfl
noncomputable def wDries_p19 (B : Lo) (s : WShore) (c : WStorm) (plan : List Int) (k : Int) : List Prop := [eqq (if 0 ≤ inwI (List.drop (Int.toNat k) (playL s plan (endE true s c))) 0 then 0 else 5) 5 = false] ++ wDries_p18 B s c plan k
noncomputable def wDries_q19 (s : WShore) (c : WStorm) (plan : List Int) (k : Int) : ScriptT := wDries_q18 s c plan k ++ [(60, hvF)]
noncomputable def wDries_p20 (B : Lo) (s : WShore) (c : WStorm) (plan : List Int) (k : Int) : List Prop := [(!ltq (if 0 ≤ inwI (List.drop (Int.toNat k) (playL s plan (endE true s c))) 0 then inwI (List.drop (Int.toNat k) (playL s plan (endE true s c))) 0 + k else -1) 0) = true] ++ wDries_p19 B s c plan k
noncomputable def wDries_q20 (s : WShore) (c : WStorm) (plan : List Int) (k : Int) : ScriptT := wDries_q19 s c plan k ++ [(68, hvT)]
noncomputable def wDries_p21 (B : Lo) (s : WShore) (c : WStorm) (plan : List Int) (k : Int) : List Prop := [eqq (if 0 ≤ inwI (List.drop (Int.toNat k) (playL s plan (endE true s c))) 0 then 0 else 5) 0 = true] ++ wDries_p20 B s c plan k
noncomputable def wDries_q21 (s : WShore) (c : WStorm) (plan : List Int) (k : Int) : ScriptT := wDries_q20 s c plan k ++ [(71, hvT)]
theorem wDries_s16 (B : Lo) (s : WShore) (c : WStorm) (plan : List Int) (k : Int) : endT (srunT Try.prog (okFn Try.prog) J0 B 32 1 (entryC Try.prog 8 116 (([.agg (encShore s).toArray, .agg (encStorm c).toArray, slI plan, .int .i64 k]).map (pushT 0 4))) H00 1
 (wDries_q21 s c plan k ++ [(76, hvT), (80, HintT.pure (Value.bool true) [])]) 0 [] []) [] = some (Value.bool true,
 [AllP [] ∧ PureC Try.prog J0 15 #[] (Value.bool true), eqq 0 (if 0 ≤ inwI (List.drop (Int.toNat k) (playL s plan (endE true s c))) 0 then inwI (List.drop (Int.toNat k) (playL s plan (endE true s c))) 0 + k else -1) = true] ++ wDries_p21 B s c plan k) := by kernel_rfl
theorem wDries_s17 (B : Lo) (s : WShore) (c : WStorm) (plan : List Int) (k : Int) : endT (srunT Try.prog (okFn Try.prog) J0 B 32 1 (entryC Try.prog 8 116 (([.agg (encShore s).toArray, .agg (encStorm c).toArray, slI plan, .int .i64 k]).map (pushT 0 4))) H00 1
 (wDries_q21 s c plan k ++ [(76, hvF)]) 0 [] []) [] = some (Value.bool false,
 [eqq 0 (if 0 ≤ inwI (List.drop (Int.toNat k) (playL s plan (endE true s c))) 0 then inwI (List.drop (Int.toNat k) (playL s plan (endE true s c))) 0 + k else -1) = false] ++ wDries_p21 B s c plan k) := by kernel_rfl
theorem wDries_s18 (B : Lo) (s : WShore) (c : WStorm) (plan : List Int) (k : Int) : endT (srunT Try.prog (okFn Try.prog) J0 B 32 1 (entryC Try.prog 8 116 (([.agg (encShore s).toArray, .agg (encStorm c).toArray, slI plan, .int .i64 k]).map (pushT 0 4))) H00 1
 (wDries_q20 s c plan k ++ [(71, hvF)]) 0 [] []) [] = some (Value.bool false,
 [eqq (if 0 ≤ inwI (List.drop (Int.toNat k) (playL s plan (endE true s c))) 0 then 0 else 5) 0 = false] ++ wDries_p20 B s c plan k) := by kernel_rfl
theorem wDries_s19 (B : Lo) (s : WShore) (c : WStorm) (plan : List Int) (k : Int) : endT (srunT Try.prog (okFn Try.prog) J0 B 32 1 (entryC Try.prog 8 116 (([.agg (encShore s).toArray, .agg (encStorm c).toArray, slI plan, .int .i64 k]).map (pushT 0 4))) H00 1
 (wDries_q19 s c plan k ++ [(68, hvF)]) 0 [] []) [] = some (Value.bool false,
 [(!ltq (if 0 ≤ inwI (List.drop (Int.toNat k) (playL s plan (endE true s c))) 0 then inwI (List.drop (Int.toNat k) (playL s plan (endE true s c))) 0 + k else -1) 0) = false] ++ wDries_p19 B s c plan k) := by kernel_rfl
noncomputable def wDries_p22 (B : Lo) (s : WShore) (c : WStorm) (plan : List Int) (k : Int) : List Prop := [ltq (if 0 ≤ inwI (List.drop (Int.toNat k) (playL s plan (endE true s c))) 0 then inwI (List.drop (Int.toNat k) (playL s plan (endE true s c))) 0 + k else -1) 0 = false] ++ wDries_p17 B s c plan k
noncomputable def wDries_q22 (s : WShore) (c : WStorm) (plan : List Int) (k : Int) : ScriptT := wDries_q17 s c plan k ++ [(57, hvF)]
noncomputable def wDries_p23 (B : Lo) (s : WShore) (c : WStorm) (plan : List Int) (k : Int) : List Prop := [(!ltq (if 0 ≤ inwI (List.drop (Int.toNat k) (playL s plan (endE true s c))) 0 then inwI (List.drop (Int.toNat k) (playL s plan (endE true s c))) 0 + k else -1) 0) = true] ++ wDries_p22 B s c plan k
noncomputable def wDries_q23 (s : WShore) (c : WStorm) (plan : List Int) (k : Int) : ScriptT := wDries_q22 s c plan k ++ [(68, hvT)]
noncomputable def wDries_p24 (B : Lo) (s : WShore) (c : WStorm) (plan : List Int) (k : Int) : List Prop := [eqq (if 0 ≤ inwI (List.drop (Int.toNat k) (playL s plan (endE true s c))) 0 then 0 else 5) 0 = true] ++ wDries_p23 B s c plan k
noncomputable def wDries_q24 (s : WShore) (c : WStorm) (plan : List Int) (k : Int) : ScriptT := wDries_q23 s c plan k ++ [(71, hvT)]
theorem wDries_s20 (B : Lo) (s : WShore) (c : WStorm) (plan : List Int) (k : Int) : endT (srunT Try.prog (okFn Try.prog) J0 B 32 1 (entryC Try.prog 8 116 (([.agg (encShore s).toArray, .agg (encStorm c).toArray, slI plan, .int .i64 k]).map (pushT 0 4))) H00 1
 (wDries_q24 s c plan k ++ [(76, hvT), (80, HintT.pure (Value.bool true) [])]) 0 [] []) [] = some (Value.bool true,
 [AllP [] ∧ PureC Try.prog J0 15 #[] (Value.bool true), eqq 0 (if 0 ≤ inwI (List.drop (Int.toNat k) (playL s plan (endE true s c))) 0 then inwI (List.drop (Int.toNat k) (playL s plan (endE true s c))) 0 + k else -1) = true] ++ wDries_p24 B s c plan k) := by kernel_rfl
theorem wDries_s21 (B : Lo) (s : WShore) (c : WStorm) (plan : List Int) (k : Int) : endT (srunT Try.prog (okFn Try.prog) J0 B 32 1 (entryC Try.prog 8 116 (([.agg (encShore s).toArray, .agg (encStorm c).toArray, slI plan, .int .i64 k]).map (pushT 0 4))) H00 1
 (wDries_q24 s c plan k ++ [(76, hvF)]) 0 [] []) [] = some (Value.bool false,
 [eqq 0 (if 0 ≤ inwI (List.drop (Int.toNat k) (playL s plan (endE true s c))) 0 then inwI (List.drop (Int.toNat k) (playL s plan (endE true s c))) 0 + k else -1) = false] ++ wDries_p24 B s c plan k) := by kernel_rfl
theorem wDries_s22 (B : Lo) (s : WShore) (c : WStorm) (plan : List Int) (k : Int) : endT (srunT Try.prog (okFn Try.prog) J0 B 32 1 (entryC Try.prog 8 116 (([.agg (encShore s).toArray, .agg (encStorm c).toArray, slI plan, .int .i64 k]).map (pushT 0 4))) H00 1
 (wDries_q23 s c plan k ++ [(71, hvF)]) 0 [] []) [] = some (Value.bool false,
 [eqq (if 0 ≤ inwI (List.drop (Int.toNat k) (playL s plan (endE true s c))) 0 then 0 else 5) 0 = false] ++ wDries_p23 B s c plan k) := by kernel_rfl
theorem wDries_s23 (B : Lo) (s : WShore) (c : WStorm) (plan : List Int) (k : Int) : endT (srunT Try.prog (okFn Try.prog) J0 B 32 1 (entryC Try.prog 8 116 (([.agg (encShore s).toArray, .agg (encStorm c).toArray, slI plan, .int .i64 k]).map (pushT 0 4))) H00 1
 (wDries_q22 s c plan k ++ [(68, hvF)]) 0 [] []) [] = some (Value.bool false,
 [(!ltq (if 0 ≤ inwI (List.drop (Int.toNat k) (playL s plan (endE true s c))) 0 then inwI (List.drop (Int.toNat k) (playL s plan (endE true s c))) 0 + k else -1) 0) = false] ++ wDries_p22 B s c plan k) := by kernel_rfl
theorem wDries_s24 (B : Lo) (s : WShore) (c : WStorm) (plan : List Int) (k : Int) : endT (srunT Try.prog (okFn Try.prog) J0 B 24 1 (entryC Try.prog 8 116 (([.agg (encShore s).toArray, .agg (encStorm c).toArray, slI plan, .int .i64 k]).map (pushT 0 4))) H00 1
 (wDries_q16 s c plan k ++ [(43, HintT.pure (Value.bool false) [])]) 0 [] []) [] = some (Value.bool false,
 [AllP [] ∧ PureC Try.prog J0 27 (wDries_z4 s c plan) (Value.bool false)] ++ wDries_p16 B s c plan k) := by kernel_rfl
noncomputable def wDries_p25 (B : Lo) (s : WShore) (c : WStorm) (plan : List Int) (k : Int) : List Prop := [AllP [] ∧ PureC Try.prog J0 34 (wDries_z1 s c plan) (wDries_z5 s c plan), AllP [] ∧ PureC Try.prog J0 25 (wDries_z1 s c plan) (Value.bool true), AllP [] ∧ PureC Try.prog J0 33 (wDries_z0 s c plan k) (Value.tuple #[Value.int IntKind.i64 0, Value.int IntKind.i64 2])] ++ wDries_p2 B s c plan k
noncomputable def wDries_q25 (s : WShore) (c : WStorm) (plan : List Int) (k : Int) : ScriptT := wDries_q2 s c plan k ++ [(24, HintT.pure (Value.tuple #[Value.int IntKind.i64 0, Value.int IntKind.i64 2]) []), (33, HintT.pure (Value.bool true) []), (42, HintT.pure (wDries_z5 s c plan) [])]
theorem wDries_s25 (B : Lo) (s : WShore) (c : WStorm) (plan : List Int) (k : Int) : endT (srunT Try.prog (okFn Try.prog) J0 B 29 1 (entryC Try.prog 8 116 (([.agg (encShore s).toArray, .agg (encStorm c).toArray, slI plan, .int .i64 k]).map (pushT 0 4))) H00 1
 (wDries_q25 s c plan k ++ [(43, HintT.pure (Value.bool true) []), (48, HintT.pure (Value.bool false) []), (57, HintT.pure (Value.bool true) [])]) 0 [] []) [] = some (Value.bool true,
 [AllP [] ∧ PureC Try.prog J0 15 #[] (Value.bool true), AllP [] ∧ PureC Try.prog J0 35 (wDries_z2 s k) (Value.bool false), AllP [] ∧ PureC Try.prog J0 27 (wDries_z4 s c plan) (Value.bool true)] ++ wDries_p25 B s c plan k) := by kernel_rfl
theorem wDries_s26 (B : Lo) (s : WShore) (c : WStorm) (plan : List Int) (k : Int) : endT (srunT Try.prog (okFn Try.prog) J0 B 24 1 (entryC Try.prog 8 116 (([.agg (encShore s).toArray, .agg (encStorm c).toArray, slI plan, .int .i64 k]).map (pushT 0 4))) H00 1
 (wDries_q25 s c plan k ++ [(43, HintT.pure (Value.bool false) [])]) 0 [] []) [] = some (Value.bool false,
 [AllP [] ∧ PureC Try.prog J0 27 (wDries_z4 s c plan) (Value.bool false)] ++ wDries_p25 B s c plan k) := by kernel_rfl
theorem wDries_s27 (B : Lo) (s : WShore) (c : WStorm) (plan : List Int) (k : Int) : endT (srunT Try.prog (okFn Try.prog) J0 B 19 1 (entryC Try.prog 8 116 (([.agg (encShore s).toArray, .agg (encStorm c).toArray, slI plan, .int .i64 k]).map (pushT 0 4))) H00 1
 (wDries_q1 s c plan k ++ [(14, HintT.pure (Value.tuple #[slT 0 #[], Value.int IntKind.i64 2]) []), (24, HintT.pure (Value.tuple #[Value.int IntKind.i64 0, Value.int IntKind.i64 2]) []), (33, HintT.pure (Value.bool false) []), (51, HintT.pure (Value.bool true) [])]) 0 [] []) [] = some (Value.bool true,
 [AllP [] ∧ PureC Try.prog J0 15 #[] (Value.bool true), AllP [] ∧ PureC Try.prog J0 25 (wDries_z1 s c plan) (Value.bool false), AllP [] ∧ PureC Try.prog J0 33 (wDries_z0 s c plan k) (Value.tuple #[Value.int IntKind.i64 0, Value.int IntKind.i64 2]), AllP [] ∧ PureC Try.prog J0 32 (wDries_z1 s c plan) (Value.tuple #[slT 0 #[], Value.int IntKind.i64 2])] ++ wDries_p1 B s c plan k) := by kernel_rfl
theorem wDries_s28 (B : Lo) (s : WShore) (c : WStorm) (plan : List Int) (k : Int) : endT (srunT Try.prog (okFn Try.prog) J0 B 19 1 (entryC Try.prog 8 116 (([.agg (encShore s).toArray, .agg (encStorm c).toArray, slI plan, .int .i64 k]).map (pushT 0 4))) H00 1
 (wDries_q1 s c plan k ++ [(14, HintT.pure (Value.tuple #[slT 0 #[], Value.int IntKind.i64 2]) []), (24, HintT.pure (Value.tuple #[Value.int IntKind.i64 0, Value.int IntKind.i64 2]) []), (33, HintT.pure (Value.bool false) []), (51, HintT.pure (Value.bool true) [])]) 0 [] []) [] = some (Value.bool true,
 [AllP [] ∧ PureC Try.prog J0 15 #[] (Value.bool true), AllP [] ∧ PureC Try.prog J0 25 (wDries_z1 s c plan) (Value.bool false), AllP [] ∧ PureC Try.prog J0 33 (wDries_z0 s c plan k) (Value.tuple #[Value.int IntKind.i64 0, Value.int IntKind.i64 2]), AllP [] ∧ PureC Try.prog J0 32 (wDries_z1 s c plan) (Value.tuple #[slT 0 #[], Value.int IntKind.i64 2])] ++ wDries_p1 B s c plan k) := by kernel_rfl
theorem wDries_s29 (B : Lo) (s : WShore) (c : WStorm) (plan : List Int) (k : Int) : endT (srunT Try.prog (okFn Try.prog) J0 B 19 1 (entryC Try.prog 8 116 (([.agg (encShore s).toArray, .agg (encStorm c).toArray, slI plan, .int .i64 k]).map (pushT 0 4))) H00 1
 (wDries_q1 s c plan k ++ [(14, HintT.pure (Value.tuple #[slT 0 #[], Value.int IntKind.i64 2]) []), (24, HintT.pure (Value.tuple #[Value.int IntKind.i64 0, Value.int IntKind.i64 2]) []), (33, HintT.pure (Value.bool false) []), (51, HintT.pure (Value.bool true) [])]) 0 [] []) [] = some (Value.bool true,
 [AllP [] ∧ PureC Try.prog J0 15 #[] (Value.bool true), AllP [] ∧ PureC Try.prog J0 25 (wDries_z1 s c plan) (Value.bool false), AllP [] ∧ PureC Try.prog J0 33 (wDries_z0 s c plan k) (Value.tuple #[Value.int IntKind.i64 0, Value.int IntKind.i64 2]), AllP [] ∧ PureC Try.prog J0 32 (wDries_z1 s c plan) (Value.tuple #[slT 0 #[], Value.int IntKind.i64 2])] ++ wDries_p1 B s c plan k) := by kernel_rfl
theorem wDries_s30 (B : Lo) (s : WShore) (c : WStorm) (plan : List Int) (k : Int) : endT (srunT Try.prog (okFn Try.prog) J0 B 10 1 (entryC Try.prog 8 116 (([.agg (encShore s).toArray, .agg (encStorm c).toArray, slI plan, .int .i64 k]).map (pushT 0 4))) H00 1
 [(4, HintT.pure (Value.bool false) []), (11, HintT.pure (Value.bool true) [])] 0 [] []) [] = some (Value.bool true,
 [AllP [] ∧ PureC Try.prog J0 15 #[] (Value.bool true), AllP [] ∧ PureC Try.prog J0 14 (wDries_z3 s) (Value.bool false)]) := by kernel_rfl
theorem wDries_s31 (B : Lo) (s : WShore) (c : WStorm) (plan : List Int) (k : Int) : endT (srunT Try.prog (okFn Try.prog) J0 B 10 1 (entryC Try.prog 8 116 (([.agg (encShore s).toArray, .agg (encStorm c).toArray, slI plan, .int .i64 k]).map (pushT 0 4))) H00 1
 [(4, HintT.pure (Value.bool false) []), (11, HintT.pure (Value.bool true) [])] 0 [] []) [] = some (Value.bool true,
 [AllP [] ∧ PureC Try.prog J0 15 #[] (Value.bool true), AllP [] ∧ PureC Try.prog J0 14 (wDries_z3 s) (Value.bool false)]) := by kernel_rfl
set_option maxHeartbeats 4000000 in
theorem wDries_e (s : WShore) (c : WStorm) (plan : List Int) (k : Int)  {B : Lo} (hJ : ∀ w, B.has w → J0 w) : EndsT Try.prog B (entryC Try.prog 8 116 (([.agg (encShore s).toArray, .agg (encStorm c).toArray, slI plan, .int .i64 k]).map (pushT 0 4))) (.bool true) := by
 have hge := inwI_ge (l := (playL s plan (endE true s c)).drop k.toNat) (i := 0)
 have hl2 := playL_len (s := s) (plan := plan) (t := endE true s c)
 have hdl : ((playL s plan (endE true s c)).drop k.toNat).length ≤ s.cells.length := by rw [List.length_drop]; omega
 cases q0 : decide (List.length (WShore.cells s) ≤ 12) with
 | true =>
   cases q1 : decide (List.length (WShore.works s) ≤ 8) with
   | true =>
     have hp0 : AllP (wDries_p0 B s c plan k) := by
      exact ⟨⟨trivial, (by have t_ := lshort (s); rw [q0, q1] at t_; exact t_)⟩, trivial⟩
     by_cases q2 : (12 : Int) < ((↑(List.length plan) : Int))
     ·
      exact (GoE.endsT okF hJ mixed_ok GoE.start (wDries_s0 B s c plan k)
       ⟨⟨trivial, known⟩, ⟨(ltq_t q2), hp0⟩⟩).cast rfl
     ·
      have hp1 : AllP (wDries_p1 B s c plan k) := by
       exact ⟨(ltq_f (Int.not_lt.1 q2)), hp0⟩
      cases q3 : shoreB s with
      | true =>
        cases q4 : stormB c with
        | true =>
          cases q5 : planB s plan with
          | true =>
            have hp2 : AllP (wDries_p2 B s c plan k) := by
             have h1 := shore_facts ‹shoreB s = true›
             exact ⟨⟨trivial, (by have t_ := pDry (s) (c) (plan); rw [q3, q4, q5] at t_; exact t_)⟩, hp1⟩
            cases q6 : inB k 0 ((↑(List.length (WShore.cells s)) : Int) - 1) with
            | true =>
              cases q7 : decide (0 ≤ inwI (List.drop (Int.toNat k) (playL s plan (endE true s c))) 0) with
              | true =>
                have hp3 : AllP (wDries_p3 B s c plan k) := by
                 have g1 := inB_iff.1 ‹inB k 0 _ = true›
                 have h1 := shore_facts ‹shoreB s = true›
                 exact ⟨⟨trivial, rDry (s) (c) (plan) (by with_reducible assumption) (by with_reducible assumption) (by with_reducible assumption)⟩, ⟨⟨trivial, (by have t_ := lbuilt (s) (c) (plan); rw [q3, q4, q5] at t_; exact t_)⟩, ⟨⟨trivial, (by have t_ := pInward (s) (c) (plan) (k); rw [q3, q4, q5, q6, q7] at t_; exact t_)⟩, hp2⟩⟩⟩
                cases q8 : decide (dryL s (playL s plan (endE true s c)) 0 = dryL s (playL s plan (endE true s c)) 0) with
                | true =>
                  have hp4 : AllP (wDries_p4 B s c plan k) := by
                   have g1 := inB_iff.1 ‹inB k 0 _ = true›
                   have h1 := shore_facts ‹shoreB s = true›
                   exact ⟨⟨trivial, rInward2 (s) (c) (plan) (k) (by with_reducible assumption) (by with_reducible assumption) (by with_reducible assumption) (by omega)⟩, ⟨⟨trivial, (by have t_ := rCell (s) (k); rw [q6] at t_; exact t_)⟩, ⟨⟨trivial, (by have t_ := rSame (dryL s (playL s plan (endE true s c)) 0) (dryL s (playL s plan (endE true s c)) 0); rw [q8] at t_; exact t_)⟩, hp3⟩⟩⟩
                  by_cases q9 : (if 0 ≤ inwI (List.drop (Int.toNat k) (playL s plan (endE true s c))) 0 then inwI (List.drop (Int.toNat k) (playL s plan (endE true s c))) 0 + k else -1 : Int) < (0)
                  ·
                   have hp5 : AllP (wDries_p5 B s c plan k) := by
                    exact ⟨(ltq_t q9), hp4⟩
                   by_cases q10 : (if 0 ≤ inwI (List.drop (Int.toNat k) (playL s plan (endE true s c))) 0 then 0 else 5 : Int) = (5)
                   ·
                    have hp6 : AllP (wDries_p6 B s c plan k) := by
                     exact ⟨(eqq_t q10), hp5⟩
                    by_cases q11 : (k + inwI (List.drop (Int.toNat k) (playL s plan (endE true s c))) 0 : Int) = (0)
                    ·
                     exact (GoE.endsT okF hJ mixed_ok GoE.start (wDries_s1 B s c plan k)
                      ⟨⟨trivial, known⟩, ⟨(eqq_t q11), hp6⟩⟩).cast rfl
                    ·
                     have hp7 : AllP (wDries_p7 B s c plan k) := by
                      exact ⟨(eqq_f q11), hp6⟩
                     by_cases q12 : (0 : Int) ≤ (if 0 ≤ inwI (List.drop (Int.toNat k) (playL s plan (endE true s c))) 0 then inwI (List.drop (Int.toNat k) (playL s plan (endE true s c))) 0 + k else -1)
                     ·
                      have hp8 : AllP (wDries_p8 B s c plan k) := by
                       exact ⟨(nltq_t q12), hp7⟩
                      by_cases q13 : (if 0 ≤ inwI (List.drop (Int.toNat k) (playL s plan (endE true s c))) 0 then 0 else 5 : Int) = (0)
                      ·
                       have hp9 : AllP (wDries_p9 B s c plan k) := by
                        exact ⟨(eqq_t q13), hp8⟩
                       by_cases q14 : (k + inwI (List.drop (Int.toNat k) (playL s plan (endE true s c))) 0 : Int) = (if 0 ≤ inwI (List.drop (Int.toNat k) (playL s plan (endE true s c))) 0 then inwI (List.drop (Int.toNat k) (playL s plan (endE true s c))) 0 + k else -1)
                       ·
                        exact (GoE.endsT okF hJ mixed_ok GoE.start (wDries_s2 B s c plan k)
                         ⟨⟨trivial, known⟩, ⟨(eqq_t q14), hp9⟩⟩).cast rfl
                       ·
                        have g1 := inB_iff.1 ‹inB k 0 _ = true›
                        have h1 := shore_facts ‹shoreB s = true›
                        exact (GoE.endsT okF hJ mixed_ok GoE.start (wDries_s3 B s c plan k)
                         ⟨(eqq_f q14), hp9⟩).cast (by (exfalso; omega))
                      ·
                       have g1 := inB_iff.1 ‹inB k 0 _ = true›
                       have h1 := shore_facts ‹shoreB s = true›
                       exact (GoE.endsT okF hJ mixed_ok GoE.start (wDries_s4 B s c plan k)
                        ⟨(eqq_f q13), hp8⟩).cast (by (exfalso; omega))
                     ·
                      have g1 := inB_iff.1 ‹inB k 0 _ = true›
                      have h1 := shore_facts ‹shoreB s = true›
                      exact (GoE.endsT okF hJ mixed_ok GoE.start (wDries_s5 B s c plan k)
                       ⟨(nltq_f (Int.not_le.1 q12)), hp7⟩).cast (by (exfalso; simp_all; done))
                   ·
                    have hp10 : AllP (wDries_p10 B s c plan k) := by
                     exact ⟨(eqq_f q10), hp5⟩
                    by_cases q11 : (0 : Int) ≤ (if 0 ≤ inwI (List.drop (Int.toNat k) (playL s plan (endE true s c))) 0 then inwI (List.drop (Int.toNat k) (playL s plan (endE true s c))) 0 + k else -1)
                    ·
                     have hp11 : AllP (wDries_p11 B s c plan k) := by
                      exact ⟨(nltq_t q11), hp10⟩
                     by_cases q12 : (if 0 ≤ inwI (List.drop (Int.toNat k) (playL s plan (endE true s c))) 0 then 0 else 5 : Int) = (0)
                     ·
                      have hp12 : AllP (wDries_p12 B s c plan k) := by
                       exact ⟨(eqq_t q12), hp11⟩
                      by_cases q13 : (k + inwI (List.drop (Int.toNat k) (playL s plan (endE true s c))) 0 : Int) = (if 0 ≤ inwI (List.drop (Int.toNat k) (playL s plan (endE true s c))) 0 then inwI (List.drop (Int.toNat k) (playL s plan (endE true s c))) 0 + k else -1)
                      ·
                       exact (GoE.endsT okF hJ mixed_ok GoE.start (wDries_s6 B s c plan k)
                        ⟨⟨trivial, known⟩, ⟨(eqq_t q13), hp12⟩⟩).cast rfl
                      ·
                       have g1 := inB_iff.1 ‹inB k 0 _ = true›
                       have h1 := shore_facts ‹shoreB s = true›
                       exact (GoE.endsT okF hJ mixed_ok GoE.start (wDries_s7 B s c plan k)
                        ⟨(eqq_f q13), hp12⟩).cast (by (exfalso; omega))
                     ·
                      have g1 := inB_iff.1 ‹inB k 0 _ = true›
                      have h1 := shore_facts ‹shoreB s = true›
                      exact (GoE.endsT okF hJ mixed_ok GoE.start (wDries_s8 B s c plan k)
                       ⟨(eqq_f q12), hp11⟩).cast (by (exfalso; omega))
                    ·
                     have g1 := inB_iff.1 ‹inB k 0 _ = true›
                     have h1 := shore_facts ‹shoreB s = true›
                     exact (GoE.endsT okF hJ mixed_ok GoE.start (wDries_s9 B s c plan k)
                      ⟨(nltq_f (Int.not_le.1 q11)), hp10⟩).cast (by (exfalso; omega))
                  ·
                   have hp13 : AllP (wDries_p13 B s c plan k) := by
                    exact ⟨(ltq_f (Int.not_lt.1 q9)), hp4⟩
                   by_cases q10 : (0 : Int) ≤ (if 0 ≤ inwI (List.drop (Int.toNat k) (playL s plan (endE true s c))) 0 then inwI (List.drop (Int.toNat k) (playL s plan (endE true s c))) 0 + k else -1)
                   ·
                    have hp14 : AllP (wDries_p14 B s c plan k) := by
                     exact ⟨(nltq_t q10), hp13⟩
                    by_cases q11 : (if 0 ≤ inwI (List.drop (Int.toNat k) (playL s plan (endE true s c))) 0 then 0 else 5 : Int) = (0)
                    ·
                     have hp15 : AllP (wDries_p15 B s c plan k) := by
                      exact ⟨(eqq_t q11), hp14⟩
                     by_cases q12 : (k + inwI (List.drop (Int.toNat k) (playL s plan (endE true s c))) 0 : Int) = (if 0 ≤ inwI (List.drop (Int.toNat k) (playL s plan (endE true s c))) 0 then inwI (List.drop (Int.toNat k) (playL s plan (endE true s c))) 0 + k else -1)
                     ·
                      exact (GoE.endsT okF hJ mixed_ok GoE.start (wDries_s10 B s c plan k)
                       ⟨⟨trivial, known⟩, ⟨(eqq_t q12), hp15⟩⟩).cast rfl
                     ·
                      have g1 := inB_iff.1 ‹inB k 0 _ = true›
                      have h1 := shore_facts ‹shoreB s = true›
                      exact (GoE.endsT okF hJ mixed_ok GoE.start (wDries_s11 B s c plan k)
                       ⟨(eqq_f q12), hp15⟩).cast (by (exfalso; omega))
                    ·
                     have g1 := inB_iff.1 ‹inB k 0 _ = true›
                     have h1 := shore_facts ‹shoreB s = true›
                     exact (GoE.endsT okF hJ mixed_ok GoE.start (wDries_s12 B s c plan k)
                      ⟨(eqq_f q11), hp14⟩).cast (by (exfalso; omega))
                   ·
                    have g1 := inB_iff.1 ‹inB k 0 _ = true›
                    have h1 := shore_facts ‹shoreB s = true›
                    exact (GoE.endsT okF hJ mixed_ok GoE.start (wDries_s13 B s c plan k)
                     ⟨(nltq_f (Int.not_le.1 q10)), hp13⟩).cast (by (exfalso; omega))
                | false =>
                  have g1 := inB_iff.1 ‹inB k 0 _ = true›
                  have h1 := shore_facts ‹shoreB s = true›
                  exact (GoE.endsT okF hJ mixed_ok GoE.start (wDries_s14 B s c plan k)
                   ⟨⟨trivial, (by have t_ := rSame (dryL s (playL s plan (endE true s c)) 0) (dryL s (playL s plan (endE true s c)) 0); rw [q8] at t_; exact t_)⟩, hp3⟩).cast (by (exfalso; simp_all; done))
              | false =>
                have hp16 : AllP (wDries_p16 B s c plan k) := by
                 have g1 := inB_iff.1 ‹inB k 0 _ = true›
                 have h1 := shore_facts ‹shoreB s = true›
                 exact ⟨⟨trivial, rDry (s) (c) (plan) (by with_reducible assumption) (by with_reducible assumption) (by with_reducible assumption)⟩, ⟨⟨trivial, (by have t_ := lbuilt (s) (c) (plan); rw [q3, q4, q5] at t_; exact t_)⟩, ⟨⟨trivial, (by have t_ := pInward (s) (c) (plan) (k); rw [q3, q4, q5, q6, q7] at t_; exact t_)⟩, hp2⟩⟩⟩
                cases q8 : decide (dryL s (playL s plan (endE true s c)) 0 = dryL s (playL s plan (endE true s c)) 0) with
                | true =>
                  have hp17 : AllP (wDries_p17 B s c plan k) := by
                   have g1 := inB_iff.1 ‹inB k 0 _ = true›
                   have h1 := shore_facts ‹shoreB s = true›
                   exact ⟨⟨trivial, rInward2 (s) (c) (plan) (k) (by with_reducible assumption) (by with_reducible assumption) (by with_reducible assumption) (by omega)⟩, ⟨⟨trivial, (by have t_ := rCell (s) (k); rw [q6] at t_; exact t_)⟩, ⟨⟨trivial, (by have t_ := rSame (dryL s (playL s plan (endE true s c)) 0) (dryL s (playL s plan (endE true s c)) 0); rw [q8] at t_; exact t_)⟩, hp16⟩⟩⟩
                  by_cases q9 : (if 0 ≤ inwI (List.drop (Int.toNat k) (playL s plan (endE true s c))) 0 then inwI (List.drop (Int.toNat k) (playL s plan (endE true s c))) 0 + k else -1 : Int) < (0)
                  ·
                   have hp18 : AllP (wDries_p18 B s c plan k) := by
                    exact ⟨(ltq_t q9), hp17⟩
                   by_cases q10 : (if 0 ≤ inwI (List.drop (Int.toNat k) (playL s plan (endE true s c))) 0 then 0 else 5 : Int) = (5)
                   ·
                    exact (GoE.endsT okF hJ mixed_ok GoE.start (wDries_s15 B s c plan k)
                     ⟨⟨trivial, known⟩, ⟨(eqq_t q10), hp18⟩⟩).cast rfl
                   ·
                    have hp19 : AllP (wDries_p19 B s c plan k) := by
                     exact ⟨(eqq_f q10), hp18⟩
                    by_cases q11 : (0 : Int) ≤ (if 0 ≤ inwI (List.drop (Int.toNat k) (playL s plan (endE true s c))) 0 then inwI (List.drop (Int.toNat k) (playL s plan (endE true s c))) 0 + k else -1)
                    ·
                     have hp20 : AllP (wDries_p20 B s c plan k) := by
                      exact ⟨(nltq_t q11), hp19⟩
                     by_cases q12 : (if 0 ≤ inwI (List.drop (Int.toNat k) (playL s plan (endE true s c))) 0 then 0 else 5 : Int) = (0)
                     ·
                      have hp21 : AllP (wDries_p21 B s c plan k) := by
                       exact ⟨(eqq_t q12), hp20⟩
                      by_cases q13 : (0 : Int) = (if 0 ≤ inwI (List.drop (Int.toNat k) (playL s plan (endE true s c))) 0 then inwI (List.drop (Int.toNat k) (playL s plan (endE true s c))) 0 + k else -1)
                      ·
                       exact (GoE.endsT okF hJ mixed_ok GoE.start (wDries_s16 B s c plan k)
                        ⟨⟨trivial, known⟩, ⟨(eqq_t q13), hp21⟩⟩).cast rfl
                      ·
                       have g1 := inB_iff.1 ‹inB k 0 _ = true›
                       have h1 := shore_facts ‹shoreB s = true›
                       exact (GoE.endsT okF hJ mixed_ok GoE.start (wDries_s17 B s c plan k)
                        ⟨(eqq_f q13), hp21⟩).cast (by (exfalso; omega))
                     ·
                      have g1 := inB_iff.1 ‹inB k 0 _ = true›
                      have h1 := shore_facts ‹shoreB s = true›
                      exact (GoE.endsT okF hJ mixed_ok GoE.start (wDries_s18 B s c plan k)
                       ⟨(eqq_f q12), hp20⟩).cast (by (exfalso; omega))
                    ·
                     have g1 := inB_iff.1 ‹inB k 0 _ = true›
                     have h1 := shore_facts ‹shoreB s = true›
                     exact (GoE.endsT okF hJ mixed_ok GoE.start (wDries_s19 B s c plan k)
                      ⟨(nltq_f (Int.not_le.1 q11)), hp19⟩).cast (by (exfalso; omega))
                  ·
                   have hp22 : AllP (wDries_p22 B s c plan k) := by
                    exact ⟨(ltq_f (Int.not_lt.1 q9)), hp17⟩
                   by_cases q10 : (0 : Int) ≤ (if 0 ≤ inwI (List.drop (Int.toNat k) (playL s plan (endE true s c))) 0 then inwI (List.drop (Int.toNat k) (playL s plan (endE true s c))) 0 + k else -1)
                   ·
                    have hp23 : AllP (wDries_p23 B s c plan k) := by
                     exact ⟨(nltq_t q10), hp22⟩
                    by_cases q11 : (if 0 ≤ inwI (List.drop (Int.toNat k) (playL s plan (endE true s c))) 0 then 0 else 5 : Int) = (0)
                    ·
                     have hp24 : AllP (wDries_p24 B s c plan k) := by
                      exact ⟨(eqq_t q11), hp23⟩
                     by_cases q12 : (0 : Int) = (if 0 ≤ inwI (List.drop (Int.toNat k) (playL s plan (endE true s c))) 0 then inwI (List.drop (Int.toNat k) (playL s plan (endE true s c))) 0 + k else -1)
                     ·
                      exact (GoE.endsT okF hJ mixed_ok GoE.start (wDries_s20 B s c plan k)
                       ⟨⟨trivial, known⟩, ⟨(eqq_t q12), hp24⟩⟩).cast rfl
                     ·
                      have g1 := inB_iff.1 ‹inB k 0 _ = true›
                      have h1 := shore_facts ‹shoreB s = true›
                      exact (GoE.endsT okF hJ mixed_ok GoE.start (wDries_s21 B s c plan k)
                       ⟨(eqq_f q12), hp24⟩).cast (by (exfalso; simp_all; done))
                    ·
                     have g1 := inB_iff.1 ‹inB k 0 _ = true›
                     have h1 := shore_facts ‹shoreB s = true›
                     exact (GoE.endsT okF hJ mixed_ok GoE.start (wDries_s22 B s c plan k)
                      ⟨(eqq_f q11), hp23⟩).cast (by (exfalso; omega))
                   ·
                    have g1 := inB_iff.1 ‹inB k 0 _ = true›
                    have h1 := shore_facts ‹shoreB s = true›
                    exact (GoE.endsT okF hJ mixed_ok GoE.start (wDries_s23 B s c plan k)
                     ⟨(nltq_f (Int.not_le.1 q10)), hp22⟩).cast (by (exfalso; omega))
                | false =>
                  have g1 := inB_iff.1 ‹inB k 0 _ = true›
                  have h1 := shore_facts ‹shoreB s = true›
                  exact (GoE.endsT okF hJ mixed_ok GoE.start (wDries_s24 B s c plan k)
                   ⟨⟨trivial, (by have t_ := rSame (dryL s (playL s plan (endE true s c)) 0) (dryL s (playL s plan (endE true s c)) 0); rw [q8] at t_; exact t_)⟩, hp16⟩).cast (by (exfalso; simp_all; done))
            | false =>
              have hp25 : AllP (wDries_p25 B s c plan k) := by
               have h1 := shore_facts ‹shoreB s = true›
               exact ⟨⟨trivial, rDry (s) (c) (plan) (by with_reducible assumption) (by with_reducible assumption) (by with_reducible assumption)⟩, ⟨⟨trivial, (by have t_ := lbuilt (s) (c) (plan); rw [q3, q4, q5] at t_; exact t_)⟩, ⟨⟨trivial, (by have t_ := pInward (s) (c) (plan) (k); rw [q3, q4, q5, q6] at t_; exact t_)⟩, hp2⟩⟩⟩
              cases q7 : decide (dryL s (playL s plan (endE true s c)) 0 = dryL s (playL s plan (endE true s c)) 0) with
              | true =>
                have h1 := shore_facts ‹shoreB s = true›
                exact (GoE.endsT okF hJ mixed_ok GoE.start (wDries_s25 B s c plan k)
                 ⟨⟨trivial, known⟩, ⟨⟨trivial, (by have t_ := rCell (s) (k); rw [q6] at t_; exact t_)⟩, ⟨⟨trivial, (by have t_ := rSame (dryL s (playL s plan (endE true s c)) 0) (dryL s (playL s plan (endE true s c)) 0); rw [q7] at t_; exact t_)⟩, hp25⟩⟩⟩).cast rfl
              | false =>
                have h1 := shore_facts ‹shoreB s = true›
                exact (GoE.endsT okF hJ mixed_ok GoE.start (wDries_s26 B s c plan k)
                 ⟨⟨trivial, (by have t_ := rSame (dryL s (playL s plan (endE true s c)) 0) (dryL s (playL s plan (endE true s c)) 0); rw [q7] at t_; exact t_)⟩, hp25⟩).cast (by (exfalso; simp_all; done))
          | false =>
            have h1 := shore_facts ‹shoreB s = true›
            exact (GoE.endsT okF hJ mixed_ok GoE.start (wDries_s27 B s c plan k)
             ⟨⟨trivial, known⟩, ⟨⟨trivial, (by have t_ := lbuilt (s) (c) (plan); rw [q3, q4, q5] at t_; exact t_)⟩, ⟨⟨trivial, (by have t_ := pInward (s) (c) (plan) (k); rw [q3, q4, q5] at t_; exact t_)⟩, ⟨⟨trivial, (by have t_ := pDry (s) (c) (plan); rw [q3, q4, q5] at t_; exact t_)⟩, hp1⟩⟩⟩⟩).cast rfl
        | false =>
          have h1 := shore_facts ‹shoreB s = true›
          exact (GoE.endsT okF hJ mixed_ok GoE.start (wDries_s28 B s c plan k)
           ⟨⟨trivial, known⟩, ⟨⟨trivial, (by have t_ := lbuilt (s) (c) (plan); rw [q3, q4] at t_; exact t_)⟩, ⟨⟨trivial, (by have t_ := pInward (s) (c) (plan) (k); rw [q3, q4] at t_; exact t_)⟩, ⟨⟨trivial, (by have t_ := pDry (s) (c) (plan); rw [q3, q4] at t_; exact t_)⟩, hp1⟩⟩⟩⟩).cast rfl
      | false =>
        exact (GoE.endsT okF hJ mixed_ok GoE.start (wDries_s29 B s c plan k)
         ⟨⟨trivial, known⟩, ⟨⟨trivial, (by have t_ := lbuilt (s) (c) (plan); rw [q3] at t_; exact t_)⟩, ⟨⟨trivial, (by have t_ := pInward (s) (c) (plan) (k); rw [q3] at t_; exact t_)⟩, ⟨⟨trivial, (by have t_ := pDry (s) (c) (plan); rw [q3] at t_; exact t_)⟩, hp1⟩⟩⟩⟩).cast rfl
   | false =>
     exact (GoE.endsT okF hJ mixed_ok GoE.start (wDries_s30 B s c plan k)
      ⟨⟨trivial, known⟩, ⟨⟨trivial, (by have t_ := lshort (s); rw [q0, q1] at t_; exact t_)⟩, trivial⟩⟩).cast rfl
 | false =>
   exact (GoE.endsT okF hJ mixed_ok GoE.start (wDries_s31 B s c plan k)
    ⟨⟨trivial, known⟩, ⟨⟨trivial, (by have t_ := lshort (s); rw [q0] at t_; exact t_)⟩, trivial⟩⟩).cast rfl
theorem wDries (s : WShore) (c : WStorm) (plan : List Int) (k : Int)  : PureC Try.prog J0 8 #[.agg (encShore s).toArray, .agg (encStorm c).toArray, slI plan, .int .i64 k] (.bool true) :=
 pureC_of (ts := [.agg (encShore s).toArray, .agg (encStorm c).toArray, slI plan, .int .i64 k]) J0_st (c0 := entryC Try.prog 8 116 (([.agg (encShore s).toArray, .agg (encStorm c).toArray, slI plan, .int .i64 k]).map (pushT 0 4))) (by kernel_rfl) (by kernel_rfl) fun B hJ => wDries_e s c plan k  hJ
end Go.Proofs.Ytiigkdhaofaijaa

namespace Go.Proofs.Ytiigkdhaofaijaa
open Go Go.CE Go.RowKit
theorem dries_all : ∀ trs, ArgAll [shShore, shStorm, .slice .int, .int] trs → PureC Try.prog J0 8 trs.toArray (.bool true) := by
 rintro trs ⟨t0, _, rfl, h0, t1, _, rfl, h1, t2, _, rfl, h2, t3, _, rfl, h3, rfl⟩
 obtain ⟨s, rfl⟩ := arg_shore h0
 obtain ⟨c, rfl⟩ := arg_storm h1
 obtain ⟨l, rfl⟩ := arg_ints h2
 obtain ⟨i, rfl⟩ := arg_int h3
 exact wDries s c l i
end Go.Proofs.Ytiigkdhaofaijaa

namespace Go.Proofs.Ytiigkdhaofaijaa
open Go Go.CE Go.ChangeShapes Go.WideShapes Go.RowKit
set_option maxRecDepth 100000 in
theorem wallDries_lifted (os : Os) (started : os.Started) (H : Type) (enc : TypeId × Value → H) :
 ReturnsInHanded {} Try.checked os 8 .any (Rows.wallDriesSpec.pre6 enc Try.prog Try.f8 Rows.wallDriesRow.domain false) (Rows.wallDriesSpec.post enc Try.prog Try.f8 false true false false) := by
 refine returnsInHanded_of_change (C := Try.checked) (show ownKnob Try.prog.godebug = none by kernel_rfl) started (by kernel_rfl) Try.func8
  (ChangeSpec.witness6 (enc := enc) (C := Try.checked) false ⟨#[], #[Sh.zeroA shShore, Sh.zeroA shStorm, Sh.zeroA (.slice .int), Sh.zeroA .int], []⟩ 8 (by kernel_rfl) (by kernel_rfl) (by kernel_rfl) (by kernel_rfl)) ?_
 intro W base args ds gs before hval0 hW _ _
 have hval : ∀ (j : Nat) t v, Try.f8.params[j]? = some t → args[j]? = some v → Value.okWide Try.prog W .any base t v := hval0
 have hW' := hW
 obtain ⟨p, q, hA0, hV, rfl, _, _⟩ := hW
 obtain ⟨rfl, rfl⟩ := trodVars_none hV
 have hA1 : DataW.TrodAll enc Try.prog W 0 (fun _ => true) true Try.f8.params.toList args.toList ds p := hA0
 have hlt : ∀ x ∈ p, x.block < W.heap.size := fun x hx => hW'.lt x (by simpa using hx)
 have hch : chkAll Try.prog [shShore, shStorm, (.slice .int), .int] Try.f8.params.toList = true := by kernel_rfl
 have hrd : (Try.f8.params.toList.all fun t => Try.prog.readableRec t && decide (t < Try.prog.types.size)) = true := by kernel_rfl
 refine (law_call (J := J0) (ss := [shShore, shStorm, (.slice .int), .int]) trivial hch hA1 (fun j t v h1 h2 => hval j t v (by simpa using h1) h2) dries_all).mono fun e W' ⟨he, hB⟩ => ?_
 subst he
 have hB2 := trodAll_below (show laidOutB Try.prog = true by kernel_rfl) hB _ _ _ _ hrd hA1 hlt
 have hA : DataW.TrodAll enc Try.prog W 0 (fun _ => true) true Try.f8.params.toList args.toList ds p := hA1
 rw [Try.params8] at hA
 simp only [List.toList_toArray] at hA
 have hA := hA
 obtain ⟨v0, vs0, d0, ds0, p0, q0, _, rfl, _, h0, _⟩ := CE.trodAll_cons hA
 obtain ⟨v1, vs1, d1, ds1, p1, q1, _, rfl, _, h1, _⟩ := CE.trodAll_cons h0
 obtain ⟨v2, vs2, d2, ds2, p2, q2, _, rfl, _, h2, _⟩ := CE.trodAll_cons h1
 obtain ⟨v3, vs3, d3, ds3, p3, q3, _, rfl, _, h3, _⟩ := CE.trodAll_cons h2
 obtain ⟨_, rfl, _⟩ := CE.trodAll_nil h3
 exact ⟨_, rfl, _, _, _, [], _, [], hW', trodAll_mk1 (shut_bool Try.underlying4 _), hB2, rfl, hB.frame _, fun h => by cases h⟩
theorem wallDries_row : Rows.WallDriesSaid :=
 OpenClaim.holds_of_wide 8 Try.f8 rfl rfl rfl rfl rfl rfl rfl ⟨rfl, rfl, rfl, rfl, rfl⟩ rfl rfl rfl rfl rfl (by kernel_rfl) Try.func8 (by kernel_rfl)
  (of_decide_eq_true (by kernel_rfl)) (by unfold Func.isWrapper; first | (rw [if_pos (by decide +kernel)]; kernel_rfl) | (rw [if_neg (by decide +kernel)]; exact ⟨rfl, rfl⟩))
  (fun os started H enc _ => wallDries_lifted os started H enc)
end Go.Proofs.Ytiigkdhaofaijaa
