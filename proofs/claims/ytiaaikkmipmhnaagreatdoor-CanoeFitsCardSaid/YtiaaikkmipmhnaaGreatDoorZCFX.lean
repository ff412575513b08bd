/- CanoeFits: the row and the tied card, from the walk. -/
import Derived.Test.YtiaaikkmipmhnaaGreatDoorZCF12
import Derived.Test.YtiaaikkmipmhnaaGreatDoorZCF10
import Derived.SevenTiedAt
import Derived.Test.YtiaaikkmipmhnaaGreatDoorCards
import Derived.Test.YtiaaikkmipmhnaaGreatDoorTie
import Derived.JoinedOf
import Derived.Test.YtiaaikkmipmhnaaGreatDoorZCF01
set_option linter.all false
namespace Go.Proofs.YtiaaikkmipmhnaaGreatDoor
open Go Go.CE Go.RowKit
def m11_8 : Memo :=
  ⟨11, #[.agg #[inN 5, inN 6, .slice (some ⟨4, 0, none⟩) 2 1, .slice (some ⟨5, 0, none⟩) 2 1, .slice (some ⟨0, 0, none⟩) 1 1, .slice (some ⟨6, 0, none⟩) 5 1], .slice (some ⟨7, 0, none⟩) 2 2], [(6, .cells #[inN 2, inN 5, inN 10, inN 20, inN 8] 3 (0, 0)), (0, .cells #[inN 0] 3 (0, 0)), (5, .cells #[inN 7, inN 12] 3 (0, 0)), (4, .cells #[.slice (some ⟨2, 0, none⟩) 5 1, .slice (some ⟨3, 0, none⟩) 5 1] 23 (0, 0)), (2, .cells #[inN 3, inN 6, inN 12, inN 24, inN 16] 3 (0, 0)), (3, .cells #[inN 1, inN 1, inN 2, inN 4, inN 8] 3 (0, 0)), (7, .cells #[inN 0, inN (-1), inN 0, inN 1] 49 (0, 0))], 8, .tuple #[.slice (some ⟨80, 0, none⟩) 3 1, inN 0], [(80, .cells #[inN 6, inN 14, inN 12] 3 (0, 0))], 81⟩
theorem m11_8_ok : isMemo m11_8 (m11_8.run Tryz.prog goFns strOrc 100000) = true := by decide +kernel
def m12_89 : Memo :=
  ⟨12, #[.agg #[inN 5, inN 6, .slice (some ⟨85, 0, none⟩) 2 1, .slice (some ⟨86, 0, none⟩) 2 1, .slice (some ⟨81, 0, none⟩) 1 1, .slice (some ⟨87, 0, none⟩) 5 1], .slice (some ⟨88, 0, none⟩) 2 2], [(87, .cells #[inN 2, inN 5, inN 10, inN 20, inN 8] 3 (0, 0)), (81, .cells #[inN 0] 3 (0, 0)), (86, .cells #[inN 7, inN 12] 3 (0, 0)), (85, .cells #[.slice (some ⟨83, 0, none⟩) 5 1, .slice (some ⟨84, 0, none⟩) 5 1] 23 (0, 0)), (83, .cells #[inN 3, inN 6, inN 12, inN 24, inN 16] 3 (0, 0)), (84, .cells #[inN 1, inN 1, inN 2, inN 4, inN 8] 3 (0, 0)), (88, .cells #[inN 0, inN (-1), inN 0, inN 1] 49 (0, 0))], 89, .tuple #[.slice (some ⟨221, 0, none⟩) 3 1, inN 0], [(221, .cells #[inN 6, inN 14, inN 12] 3 (0, 0))], 222⟩
theorem m12_89_ok : isMemo m12_89 (m12_89.run Tryz.prog goFns strOrc 100000) = true := by decide +kernel
def m27_230 : Memo :=
  ⟨27, #[.agg #[inN 5, inN 6, .slice (some ⟨226, 0, none⟩) 2 1, .slice (some ⟨227, 0, none⟩) 2 1, .slice (some ⟨222, 0, none⟩) 2 1, .slice (some ⟨228, 0, none⟩) 5 1], .slice (some ⟨229, 0, none⟩) 2 2, inN 0], [(229, .cells #[inN 0, inN (-1), inN 0, inN 1] 49 (0, 0)), (225, .cells #[inN 1, inN 1, inN 2, inN 4, inN 8] 3 (0, 0)), (224, .cells #[inN 3, inN 6, inN 12, inN 24, inN 16] 3 (0, 0)), (226, .cells #[.slice (some ⟨224, 0, none⟩) 5 1, .slice (some ⟨225, 0, none⟩) 5 1] 23 (0, 0)), (227, .cells #[inN 7, inN 12] 3 (0, 0)), (222, .cells #[inN 0, inN 4] 3 (0, 0)), (228, .cells #[inN 2, inN 5, inN 10, inN 20, inN 8] 3 (0, 0))], 230, .tuple #[.slice (some ⟨1179, 0, none⟩) 3 1, inN 0], [(1184, .cells #[inN 1, inN 4] 3 (0, 0)), (1185, .cells #[inN 2, inN 3] 3 (0, 0)), (1186, .cells #[inN 1, inN 3] 3 (0, 0)), (1179, .cells #[.slice (some ⟨1186, 0, none⟩) 2 1, .slice (some ⟨1185, 0, none⟩) 2 1, .slice (some ⟨1184, 0, none⟩) 2 1] 23 (0, 0))], 1187⟩
theorem m27_230_ok : isMemo m27_230 (m27_230.run Tryz.prog goFns strOrc 100000) = true := by decide +kernel
def m30_1199 : Memo :=
  ⟨30, #[.agg #[inN 5, inN 6, .slice (some ⟨1191, 0, none⟩) 2 1, .slice (some ⟨1192, 0, none⟩) 2 1, .slice (some ⟨1187, 0, none⟩) 1 1, .slice (some ⟨1193, 0, none⟩) 5 1], .slice (some ⟨1194, 0, none⟩) 2 2, inN 0, .slice (some ⟨1198, 0, none⟩) 3 1], [(1198, .cells #[.slice (some ⟨1195, 0, none⟩) 1 1, .slice (some ⟨1196, 0, none⟩) 1 1, .slice (some ⟨1197, 0, none⟩) 1 1] 23 (0, 0)), (1195, .cells #[inN 1] 3 (0, 0)), (1196, .cells #[inN 2] 3 (0, 0)), (1197, .cells #[inN 3] 3 (0, 0)), (1194, .cells #[inN 0, inN (-1), inN 0, inN 1] 49 (0, 0)), (1190, .cells #[inN 1, inN 1, inN 2, inN 4, inN 8] 3 (0, 0)), (1189, .cells #[inN 3, inN 6, inN 12, inN 24, inN 16] 3 (0, 0)), (1191, .cells #[.slice (some ⟨1189, 0, none⟩) 5 1, .slice (some ⟨1190, 0, none⟩) 5 1] 23 (0, 0)), (1192, .cells #[inN 7, inN 12] 3 (0, 0)), (1187, .cells #[inN 0] 3 (0, 0)), (1193, .cells #[inN 2, inN 5, inN 10, inN 20, inN 8] 3 (0, 0))], 1199, .tuple #[.slice (some ⟨1335, 0, none⟩) 4 1, inN 0], [(1335, .cells #[inN 2, inN 2, inN 3, inN 4] 3 (0, 0))], 1338⟩
theorem m30_1199_ok : isMemo m30_1199 (m30_1199.run Tryz.prog goFns strOrc 100000) = true := by decide +kernel
def m19_1347 : Memo :=
  ⟨19, #[.agg #[inN 5, inN 6, .slice (some ⟨1342, 0, none⟩) 2 1, .slice (some ⟨1343, 0, none⟩) 2 1, .slice (some ⟨1338, 0, none⟩) 1 1, .slice (some ⟨1344, 0, none⟩) 5 1], .slice (some ⟨1345, 0, none⟩) 2 2, .slice (some ⟨1346, 0, none⟩) 3 1], [(1346, .cells #[inN 1, inN 2, inN 3] 3 (0, 0)), (1345, .cells #[inN 0, inN (-1), inN 0, inN 1] 49 (0, 0)), (1341, .cells #[inN 1, inN 1, inN 2, inN 4, inN 8] 3 (0, 0)), (1340, .cells #[inN 3, inN 6, inN 12, inN 24, inN 16] 3 (0, 0)), (1342, .cells #[.slice (some ⟨1340, 0, none⟩) 5 1, .slice (some ⟨1341, 0, none⟩) 5 1] 23 (0, 0)), (1343, .cells #[inN 7, inN 12] 3 (0, 0)), (1338, .cells #[inN 0] 3 (0, 0)), (1344, .cells #[inN 2, inN 5, inN 10, inN 20, inN 8] 3 (0, 0))], 1347, .tuple #[.bool true, inN 0], [], 1382⟩
theorem m19_1347_ok : isMemo m19_1347 (m19_1347.run Tryz.prog goFns strOrc 100000) = true := by decide +kernel
def m31_1383 : Memo :=
  ⟨31, #[.slice (some ⟨1382, 0, none⟩) 2 2], [(1382, .cells #[inN 0, inN (-1), inN 0, inN 1] 49 (0, 0))], 1383, .tuple #[.string ⟨#[48, 32, 45, 10, 48, 32, 49, 10, 101, 110, 100, 32, 50, 32, 48, 54, 10]⟩, inN 0], [], 1392⟩
theorem m31_1383_ok : isMemo m31_1383 (m31_1383.run Tryz.prog goFns strOrc 100000) = true := by decide +kernel
end Go.Proofs.YtiaaikkmipmhnaaGreatDoor

namespace Go.Proofs.YtiaaikkmipmhnaaGreatDoor
open Go Go.CE Go.RowKit
noncomputable def orcTop : Orc := orElse strOrc (memoOrc [m11_8, m12_89, m27_230, m30_1199, m19_1347, m31_1383])
theorem orcTop_ok (B : Lo) : OrcS Tryz.prog B orcTop := orElse_ok (strOrc_ok _) (orcS_cons goFns_ok mixed_ok (strOrc_ok _) m11_8_ok (orcS_cons goFns_ok mixed_ok (strOrc_ok _) m12_89_ok (orcS_cons goFns_ok mixed_ok (strOrc_ok _) m27_230_ok (orcS_cons goFns_ok mixed_ok (strOrc_ok _) m30_1199_ok (orcS_cons goFns_ok mixed_ok (strOrc_ok _) m19_1347_ok (orcS_cons goFns_ok mixed_ok (strOrc_ok _) m31_1383_ok (orcS_nil _ _)))))))
theorem known_ans : isAns (callC Tryz.prog goFns orcTop 100000 9 #[] (heapOf 0 []) ([] : List (Array Value × TypeId)).length) (.bool true) [] = true := by decide +kernel
theorem known_true (w : World) : Calls Tryz.prog 9 #[] w fun e w' => e = .returned (.bool true) ∧ Below w.heap.size w w' := by
  have hc := calls_ans goFns_ok mixed_ok (at' := []) (args' := #[]) known_ans (w := w) (I := fun _ => True) (hI := fun _ _ _ _ => trivial) (orcTop_ok _) trivial rfl (fun i x a h => by simp at h) ⟨rfl, fun i v v' h => by simp at h⟩
  intro cs
  obtain ⟨e, w', fr, ⟨v', n', H', μ', he, hp, hv, hb, hun, hbel⟩, h1, h2, h3⟩ := hc cs
  exact ⟨e, w', fr, ⟨by rw [he, af_eq rfl hv], hbel⟩, h1, h2, h3⟩
theorem known : PureC Tryz.prog J0 9 #[] (.bool true) := fun fm w args' _ _ ha => by
  have e : args' = #[] := by exact Array.eq_empty_of_size_eq_zero ha.1.symm
  subst e
  exact (known_true w).mono fun _ _ h => ⟨_, h.1, h.2, .simple rfl⟩
end Go.Proofs.YtiaaikkmipmhnaaGreatDoor

namespace Go.Proofs.YtiaaikkmipmhnaaGreatDoor
open Go Go.CE Go.RowKit
def limC (s : CSea) : Int := if (s.courses.length : Int) < 8 then s.courses.length else 8
def shortI (s : CSea) (i : Int) : Bool := (upI i (limC s)).all fun k => decide (((s.courses.getD k.toNat default).length : Int) ≤ 14)
def shortB (s : CSea) : Bool := shortI s 0 && (decide ((s.courses.length : Int) ≤ 8) && (decide ((s.stars.length : Int) ≤ 10) && (decide ((s.boats.length : Int) ≤ 5) && decide ((s.roads.length : Int) ≤ 14))))
theorem shortI_cons {s : CSea} {i : Int} (h : i < s.courses.length) (h8 : i < 8) : shortI s i = (decide (((s.courses.getD i.toNat default).length : Int) ≤ 14) && shortI s (i + 1)) := by
  unfold shortI
  rw [upI_cons (by unfold limC; split <;> omega), List.all_cons]
theorem shortI_nil {s : CSea} {i : Int} (h : s.courses.length ≤ i ∨ 8 ≤ i) : shortI s i = true := by
  unfold shortI
  rw [upI_nil (by unfold limC; split <;> omega)]; rfl
def lshort_v0 (s : CSea) (i : Int) : List Value := [pA 2 0, .int .i64 i]
def lshort_o0 (s : CSea) (i : Int) : List Obj := [Obj.cells #[Value.int IntKind.i64 s.cells, Value.int IntKind.i64 s.start, topV 1 (slT s.courses.length (rowL slI2 s.courses)), topV 1 (slT s.stars.length (rowL encI s.stars)), topV 1 (slT s.boats.length (rowL encI s.boats)), topV 1 (slT s.roads.length (rowL encI s.roads))] 25]
noncomputable def lshort_t0 : List Item := ([.code [1, 0, 1, 0, 0], .inLoop [1, 0, 1, 0, 0], .inBlock 0, .code [1, 1]]).map (it (bodyOf Tryz.prog 8))
def lshort_h0 (B : Lo) (c0 : CF) (s : CSea) (i : Int) : Prop := ∃ dJ : Nat → Value, (∀ t, Loose (dJ t)) ∧ GoE Tryz.prog B c0 H00 1 (headC 8 44 (([1, 3] : List Nat).zip (lshort_v0 s i)) dJ lshort_t0) (headH (lshort_o0 s i)) (2 + (lshort_o0 s i).length) []
noncomputable def lshort_p0 (B : Lo) (s : CSea) (i : Int) (dJ0 : Nat → Value) : List Prop := [ltq i (↑s.courses.length : Int) = true] ++ ([] : List Prop)
noncomputable def lshort_q0 (s : CSea) (i : Int) (dJ0 : Nat → Value) : ScriptT := [(4, hvT)]
noncomputable def lshort_p1 (B : Lo) (s : CSea) (i : Int) (dJ0 : Nat → Value) : List Prop := [i = (↑i.toNat : Int) ∧ Int.toNat i < List.length s.courses ∧ Array.extract (rowL slI2 s.courses) (Int.toNat i * TypeInfo.size Tryz.t23) (Int.toNat i * TypeInfo.size Tryz.t23 + TypeInfo.size Tryz.t23) = #[slT (List.length (List.getD s.courses i.toNat default)) (rowL encI (List.getD s.courses i.toNat default))], ltq i 8 = true] ++ lshort_p0 B s i dJ0
noncomputable def lshort_q1 (s : CSea) (i : Int) (dJ0 : Nat → Value) : ScriptT := lshort_q0 s i dJ0 ++ [(7, hvT), (12, HintT.tidx i.toNat #[slT (List.length (List.getD s.courses i.toNat default)) (rowL encI (List.getD s.courses i.toNat default))])]
set_option maxRecDepth 100000 in
theorem lshort_s0 (B : Lo) (s : CSea) (i : Int) (dJ0 : Nat → Value) : endT (srunT Tryz.prog (okFn Tryz.prog) J0 B 14 1 (headC 8 44 (([1, 3] : List Nat).zip (lshort_v0 s i)) dJ0 lshort_t0) (headH (lshort_o0 s i)) (2 + (lshort_o0 s i).length)
    (lshort_q1 s i dJ0 ++ [(15, hvT)]) 0 [] []) [] = some (Value.bool false,
    [ltq 14 (↑(List.length (List.getD s.courses i.toNat default)) : Int) = true] ++ lshort_p1 B s i dJ0) := by kernel_rfl
set_option maxRecDepth 100000 in
theorem lshort_s1 (B : Lo) (s : CSea) (i : Int) (dJ0 : Nat → Value) : landM (srunT Tryz.prog (okFn Tryz.prog) J0 B 14 1 (headC 8 44 (([1, 3] : List Nat).zip (lshort_v0 s i)) dJ0 lshort_t0) (headH (lshort_o0 s i)) (2 + (lshort_o0 s i).length)
    (lshort_q1 s i dJ0 ++ [(15, hvF), (17, hvI (i + 1))]) 0 [] []) [1, 3] [(2, KS.auto)] [] = some ⟨8, 44, lshort_t0, [], .run, none, lshort_v0 s (i + 1), lshort_o0 s (i + 1),
    [wq (i + 1) = i + 1, ltq 14 (↑(List.length (List.getD s.courses i.toNat default)) : Int) = false] ++ lshort_p1 B s i dJ0⟩ := by kernel_rfl
noncomputable def lshort_p2 (B : Lo) (s : CSea) (i : Int) (dJ0 : Nat → Value) : List Prop := [ltq i 8 = false] ++ lshort_p0 B s i dJ0
noncomputable def lshort_q2 (s : CSea) (i : Int) (dJ0 : Nat → Value) : ScriptT := lshort_q0 s i dJ0 ++ [(7, hvF)]
noncomputable def lshort_p3 (B : Lo) (s : CSea) (i : Int) (dJ0 : Nat → Value) : List Prop := [(!ltq 8 (↑s.courses.length : Int)) = true] ++ lshort_p2 B s i dJ0
noncomputable def lshort_q3 (s : CSea) (i : Int) (dJ0 : Nat → Value) : ScriptT := lshort_q2 s i dJ0 ++ [(12, hvT)]
noncomputable def lshort_p4 (B : Lo) (s : CSea) (i : Int) (dJ0 : Nat → Value) : List Prop := [(!ltq 10 (↑s.stars.length : Int)) = true] ++ lshort_p3 B s i dJ0
noncomputable def lshort_q4 (s : CSea) (i : Int) (dJ0 : Nat → Value) : ScriptT := lshort_q3 s i dJ0 ++ [(17, hvT)]
noncomputable def lshort_p5 (B : Lo) (s : CSea) (i : Int) (dJ0 : Nat → Value) : List Prop := [(!ltq 5 (↑s.boats.length : Int)) = true] ++ lshort_p4 B s i dJ0
noncomputable def lshort_q5 (s : CSea) (i : Int) (dJ0 : Nat → Value) : ScriptT := lshort_q4 s i dJ0 ++ [(23, hvT)]
set_option maxRecDepth 100000 in
theorem lshort_s2 (B : Lo) (s : CSea) (i : Int) (dJ0 : Nat → Value) : endT (srunT Tryz.prog (okFn Tryz.prog) J0 B 9 1 (headC 8 44 (([1, 3] : List Nat).zip (lshort_v0 s i)) dJ0 lshort_t0) (headH (lshort_o0 s i)) (2 + (lshort_o0 s i).length)
    (lshort_q5 s i dJ0 ++ [(29, hvT)]) 0 [] []) [] = some (Value.bool true,
    [(!ltq 14 (↑s.roads.length : Int)) = true] ++ lshort_p5 B s i dJ0) := by kernel_rfl
set_option maxRecDepth 100000 in
theorem lshort_s3 (B : Lo) (s : CSea) (i : Int) (dJ0 : Nat → Value) : endT (srunT Tryz.prog (okFn Tryz.prog) J0 B 9 1 (headC 8 44 (([1, 3] : List Nat).zip (lshort_v0 s i)) dJ0 lshort_t0) (headH (lshort_o0 s i)) (2 + (lshort_o0 s i).length)
    (lshort_q5 s i dJ0 ++ [(29, hvF)]) 0 [] []) [] = some (Value.bool false,
    [(!ltq 14 (↑s.roads.length : Int)) = false] ++ lshort_p5 B s i dJ0) := by kernel_rfl
set_option maxRecDepth 100000 in
theorem lshort_s4 (B : Lo) (s : CSea) (i : Int) (dJ0 : Nat → Value) : endT (srunT Tryz.prog (okFn Tryz.prog) J0 B 9 1 (headC 8 44 (([1, 3] : List Nat).zip (lshort_v0 s i)) dJ0 lshort_t0) (headH (lshort_o0 s i)) (2 + (lshort_o0 s i).length)
    (lshort_q4 s i dJ0 ++ [(23, hvF)]) 0 [] []) [] = some (Value.bool false,
    [(!ltq 5 (↑s.boats.length : Int)) = false] ++ lshort_p4 B s i dJ0) := by kernel_rfl
set_option maxRecDepth 100000 in
theorem lshort_s5 (B : Lo) (s : CSea) (i : Int) (dJ0 : Nat → Value) : endT (srunT Tryz.prog (okFn Tryz.prog) J0 B 9 1 (headC 8 44 (([1, 3] : List Nat).zip (lshort_v0 s i)) dJ0 lshort_t0) (headH (lshort_o0 s i)) (2 + (lshort_o0 s i).length)
    (lshort_q3 s i dJ0 ++ [(17, hvF)]) 0 [] []) [] = some (Value.bool false,
    [(!ltq 10 (↑s.stars.length : Int)) = false] ++ lshort_p3 B s i dJ0) := by kernel_rfl
set_option maxRecDepth 100000 in
theorem lshort_s6 (B : Lo) (s : CSea) (i : Int) (dJ0 : Nat → Value) : endT (srunT Tryz.prog (okFn Tryz.prog) J0 B 9 1 (headC 8 44 (([1, 3] : List Nat).zip (lshort_v0 s i)) dJ0 lshort_t0) (headH (lshort_o0 s i)) (2 + (lshort_o0 s i).length)
    (lshort_q2 s i dJ0 ++ [(12, hvF)]) 0 [] []) [] = some (Value.bool false,
    [(!ltq 8 (↑s.courses.length : Int)) = false] ++ lshort_p2 B s i dJ0) := by kernel_rfl
noncomputable def lshort_p6 (B : Lo) (s : CSea) (i : Int) (dJ0 : Nat → Value) : List Prop := [ltq i (↑s.courses.length : Int) = false] ++ ([] : List Prop)
noncomputable def lshort_q6 (s : CSea) (i : Int) (dJ0 : Nat → Value) : ScriptT := [(4, hvF)]
noncomputable def lshort_p7 (B : Lo) (s : CSea) (i : Int) (dJ0 : Nat → Value) : List Prop := [(!ltq 8 (↑s.courses.length : Int)) = true] ++ lshort_p6 B s i dJ0
noncomputable def lshort_q7 (s : CSea) (i : Int) (dJ0 : Nat → Value) : ScriptT := lshort_q6 s i dJ0 ++ [(12, hvT)]
noncomputable def lshort_p8 (B : Lo) (s : CSea) (i : Int) (dJ0 : Nat → Value) : List Prop := [(!ltq 10 (↑s.stars.length : Int)) = true] ++ lshort_p7 B s i dJ0
noncomputable def lshort_q8 (s : CSea) (i : Int) (dJ0 : Nat → Value) : ScriptT := lshort_q7 s i dJ0 ++ [(17, hvT)]
noncomputable def lshort_p9 (B : Lo) (s : CSea) (i : Int) (dJ0 : Nat → Value) : List Prop := [(!ltq 5 (↑s.boats.length : Int)) = true] ++ lshort_p8 B s i dJ0
noncomputable def lshort_q9 (s : CSea) (i : Int) (dJ0 : Nat → Value) : ScriptT := lshort_q8 s i dJ0 ++ [(23, hvT)]
set_option maxRecDepth 100000 in
theorem lshort_s7 (B : Lo) (s : CSea) (i : Int) (dJ0 : Nat → Value) : endT (srunT Tryz.prog (okFn Tryz.prog) J0 B 9 1 (headC 8 44 (([1, 3] : List Nat).zip (lshort_v0 s i)) dJ0 lshort_t0) (headH (lshort_o0 s i)) (2 + (lshort_o0 s i).length)
    (lshort_q9 s i dJ0 ++ [(29, hvT)]) 0 [] []) [] = some (Value.bool true,
    [(!ltq 14 (↑s.roads.length : Int)) = true] ++ lshort_p9 B s i dJ0) := by kernel_rfl
set_option maxRecDepth 100000 in
theorem lshort_s8 (B : Lo) (s : CSea) (i : Int) (dJ0 : Nat → Value) : endT (srunT Tryz.prog (okFn Tryz.prog) J0 B 9 1 (headC 8 44 (([1, 3] : List Nat).zip (lshort_v0 s i)) dJ0 lshort_t0) (headH (lshort_o0 s i)) (2 + (lshort_o0 s i).length)
    (lshort_q9 s i dJ0 ++ [(29, hvF)]) 0 [] []) [] = some (Value.bool false,
    [(!ltq 14 (↑s.roads.length : Int)) = false] ++ lshort_p9 B s i dJ0) := by kernel_rfl
set_option maxRecDepth 100000 in
theorem lshort_s9 (B : Lo) (s : CSea) (i : Int) (dJ0 : Nat → Value) : endT (srunT Tryz.prog (okFn Tryz.prog) J0 B 9 1 (headC 8 44 (([1, 3] : List Nat).zip (lshort_v0 s i)) dJ0 lshort_t0) (headH (lshort_o0 s i)) (2 + (lshort_o0 s i).length)
    (lshort_q8 s i dJ0 ++ [(23, hvF)]) 0 [] []) [] = some (Value.bool false,
    [(!ltq 5 (↑s.boats.length : Int)) = false] ++ lshort_p8 B s i dJ0) := by kernel_rfl
set_option maxRecDepth 100000 in
theorem lshort_s10 (B : Lo) (s : CSea) (i : Int) (dJ0 : Nat → Value) : endT (srunT Tryz.prog (okFn Tryz.prog) J0 B 9 1 (headC 8 44 (([1, 3] : List Nat).zip (lshort_v0 s i)) dJ0 lshort_t0) (headH (lshort_o0 s i)) (2 + (lshort_o0 s i).length)
    (lshort_q7 s i dJ0 ++ [(17, hvF)]) 0 [] []) [] = some (Value.bool false,
    [(!ltq 10 (↑s.stars.length : Int)) = false] ++ lshort_p7 B s i dJ0) := by kernel_rfl
set_option maxRecDepth 100000 in
theorem lshort_s11 (B : Lo) (s : CSea) (i : Int) (dJ0 : Nat → Value) : endT (srunT Tryz.prog (okFn Tryz.prog) J0 B 9 1 (headC 8 44 (([1, 3] : List Nat).zip (lshort_v0 s i)) dJ0 lshort_t0) (headH (lshort_o0 s i)) (2 + (lshort_o0 s i).length)
    (lshort_q6 s i dJ0 ++ [(12, hvF)]) 0 [] []) [] = some (Value.bool false,
    [(!ltq 8 (↑s.courses.length : Int)) = false] ++ lshort_p6 B s i dJ0) := by kernel_rfl
set_option maxRecDepth 100000 in
theorem lshort_s12 (B : Lo) (s : CSea) : landM (srunT Tryz.prog (okFn Tryz.prog) J0 B 7 1 (entryC Tryz.prog 8 44 (([.agg (encSea s).toArray]).map (pushT 0 4))) H00 1
    [] 0 [] []) [1, 3] [(1, KS.auto)] [] = some ⟨8, 44, lshort_t0, [], .run, none, lshort_v0 s (0), lshort_o0 s (0),
    []⟩ := by kernel_rfl
set_option maxHeartbeats 4000000 in
theorem lshort_ls (s : CSea)  (hfacts : s.courses.length ≤ 9223372036854775807) {B : Lo} (hJ : ∀ w, B.has w → J0 w) {c0 : CF} : ∀ m : Nat, (∀ (i : Int), s.courses.length - i.toNat = m → ∀ (i0 : 0 ≤ i), lshort_h0 B c0 s i → EndsT Tryz.prog B c0 (.bool (shortI s i && (decide ((s.courses.length : Int) ≤ 8) && (decide ((s.stars.length : Int) ≤ 10) && (decide ((s.boats.length : Int) ≤ 5) && decide ((s.roads.length : Int) ≤ 14))))))) := by
  intro m0
  induction m0 using Nat.strongRecOn with
  | _ m0 ih0 =>
    intro i hm0 i0 ⟨dJ0, hdJ0, hg0⟩
    by_cases q0 : (i : Int) < ((↑s.courses.length : Int))
    ·
      have hp0 : AllP (lshort_p0 B s i dJ0) := by
        exact ⟨(ltq_t q0), trivial⟩
      by_cases q1 : (i : Int) < (8)
      ·
        have hp1 : AllP (lshort_p1 B s i dJ0) := by
          try have s2 := shortI_cons (s := s) q0 q1
          try have s2 := shortI_nil (s := s) (i := i) (by omega)
          try have s3 := decide_eq_false (show ¬ ((s.courses.getD i.toNat default).length : Int) ≤ 14 by omega)
          try have s3 := decide_eq_true (show ((s.courses.getD i.toNat default).length : Int) ≤ 14 by omega)
          exact ⟨⟨by omega, by omega, (rowL_extract (z := 1) (fun _ => rfl) (by first | omega | (rw [List.length_set]; omega) | (rw [List.length_replicate]; omega)))⟩, ⟨(ltq_t q1), hp0⟩⟩
        by_cases q2 : (14 : Int) < ((↑(List.length (List.getD s.courses i.toNat default)) : Int))
        ·
          try have s2 := shortI_cons (s := s) q0 q1
          try have s2 := shortI_nil (s := s) (i := i) (by omega)
          try have s3 := decide_eq_false (show ¬ ((s.courses.getD i.toNat default).length : Int) ≤ 14 by omega)
          try have s3 := decide_eq_true (show ((s.courses.getD i.toNat default).length : Int) ≤ 14 by omega)
          exact (GoE.endsT okF hJ mixed_ok hg0 (lshort_s0 B s i dJ0)
            ⟨(ltq_t q2), hp1⟩).cast (by first | rfl | (rw [s2, s3]; rfl) | (rw [s2, s3, Bool.true_and]; done) | (rw [s2]; simp [*]; done) | (rw [s2]; simp; omega) | (rw [s2]; simp_all; done) | (rw [s2]; simp_all; omega))
        ·
          try have s2 := shortI_cons (s := s) q0 q1
          try have s2 := shortI_nil (s := s) (i := i) (by omega)
          try have s3 := decide_eq_false (show ¬ ((s.courses.getD i.toNat default).length : Int) ≤ 14 by omega)
          try have s3 := decide_eq_true (show ((s.courses.getD i.toNat default).length : Int) ≤ 14 by omega)
          exact ((ih0 _ (by omega)) (i + 1) rfl (by first | with_reducible assumption | omega | (simp_all; done))
            (hg0.landM okF hJ mixed_ok (lshort_s1 B s i dJ0)
            ⟨(wq_in (by omega) (by omega)), ⟨(ltq_f (Int.not_lt.1 q2)), hp1⟩⟩ (by kernel_rfl) (by kernel_rfl))).cast (by first | rfl | (rw [s2, s3]; rfl) | (rw [s2, s3, Bool.true_and]; done) | (rw [s2]; simp [*]; done) | (rw [s2]; simp; omega) | (rw [s2]; simp_all; done) | (rw [s2]; simp_all; omega))
      ·
        have hp2 : AllP (lshort_p2 B s i dJ0) := by
          exact ⟨(ltq_f (Int.not_lt.1 q1)), hp0⟩
        by_cases q2 : ((↑s.courses.length : Int) : Int) ≤ (8)
        ·
          have hp3 : AllP (lshort_p3 B s i dJ0) := by
            exact ⟨(nltq_t q2), hp2⟩
          by_cases q3 : ((↑s.stars.length : Int) : Int) ≤ (10)
          ·
            have hp4 : AllP (lshort_p4 B s i dJ0) := by
              exact ⟨(nltq_t q3), hp3⟩
            by_cases q4 : ((↑s.boats.length : Int) : Int) ≤ (5)
            ·
              have hp5 : AllP (lshort_p5 B s i dJ0) := by
                exact ⟨(nltq_t q4), hp4⟩
              by_cases q5 : ((↑s.roads.length : Int) : Int) ≤ (14)
              ·
                try have s2 := shortI_cons (s := s) q0 q1
                try have s2 := shortI_nil (s := s) (i := i) (by omega)
                try have s3 := decide_eq_false (show ¬ ((s.courses.getD i.toNat default).length : Int) ≤ 14 by omega)
                try have s3 := decide_eq_true (show ((s.courses.getD i.toNat default).length : Int) ≤ 14 by omega)
                exact (GoE.endsT okF hJ mixed_ok hg0 (lshort_s2 B s i dJ0)
                  ⟨(nltq_t q5), hp5⟩).cast (by first | rfl | (rw [s2, s3]; rfl) | (rw [s2, s3, Bool.true_and]; done) | (rw [s2]; simp [*]; done) | (rw [s2]; simp; omega) | (rw [s2]; simp_all; done) | (rw [s2]; simp_all; omega))
              ·
                try have s2 := shortI_cons (s := s) q0 q1
                try have s2 := shortI_nil (s := s) (i := i) (by omega)
                try have s3 := decide_eq_false (show ¬ ((s.courses.getD i.toNat default).length : Int) ≤ 14 by omega)
                try have s3 := decide_eq_true (show ((s.courses.getD i.toNat default).length : Int) ≤ 14 by omega)
                exact (GoE.endsT okF hJ mixed_ok hg0 (lshort_s3 B s i dJ0)
                  ⟨(nltq_f (Int.not_le.1 q5)), hp5⟩).cast (by first | rfl | (rw [s2, s3]; rfl) | (rw [s2, s3, Bool.true_and]; done) | (rw [s2]; simp [*]; done) | (rw [s2]; simp; omega) | (rw [s2]; simp_all; done) | (rw [s2]; simp_all; omega))
            ·
              try have s2 := shortI_cons (s := s) q0 q1
              try have s2 := shortI_nil (s := s) (i := i) (by omega)
              try have s3 := decide_eq_false (show ¬ ((s.courses.getD i.toNat default).length : Int) ≤ 14 by omega)
              try have s3 := decide_eq_true (show ((s.courses.getD i.toNat default).length : Int) ≤ 14 by omega)
              exact (GoE.endsT okF hJ mixed_ok hg0 (lshort_s4 B s i dJ0)
                ⟨(nltq_f (Int.not_le.1 q4)), hp4⟩).cast (by first | rfl | (rw [s2, s3]; rfl) | (rw [s2, s3, Bool.true_and]; done) | (rw [s2]; simp [*]; done) | (rw [s2]; simp; omega) | (rw [s2]; simp_all; done) | (rw [s2]; simp_all; omega))
          ·
            try have s2 := shortI_cons (s := s) q0 q1
            try have s2 := shortI_nil (s := s) (i := i) (by omega)
            try have s3 := decide_eq_false (show ¬ ((s.courses.getD i.toNat default).length : Int) ≤ 14 by omega)
            try have s3 := decide_eq_true (show ((s.courses.getD i.toNat default).length : Int) ≤ 14 by omega)
            exact (GoE.endsT okF hJ mixed_ok hg0 (lshort_s5 B s i dJ0)
              ⟨(nltq_f (Int.not_le.1 q3)), hp3⟩).cast (by first | rfl | (rw [s2, s3]; rfl) | (rw [s2, s3, Bool.true_and]; done) | (rw [s2]; simp [*]; done) | (rw [s2]; simp; omega) | (rw [s2]; simp_all; done) | (rw [s2]; simp_all; omega))
        ·
          try have s2 := shortI_cons (s := s) q0 q1
          try have s2 := shortI_nil (s := s) (i := i) (by omega)
          try have s3 := decide_eq_false (show ¬ ((s.courses.getD i.toNat default).length : Int) ≤ 14 by omega)
          try have s3 := decide_eq_true (show ((s.courses.getD i.toNat default).length : Int) ≤ 14 by omega)
          exact (GoE.endsT okF hJ mixed_ok hg0 (lshort_s6 B s i dJ0)
            ⟨(nltq_f (Int.not_le.1 q2)), hp2⟩).cast (by first | rfl | (rw [s2, s3]; rfl) | (rw [s2, s3, Bool.true_and]; done) | (rw [s2]; simp [*]; done) | (rw [s2]; simp; omega) | (rw [s2]; simp_all; done) | (rw [s2]; simp_all; omega))
    ·
      have hp6 : AllP (lshort_p6 B s i dJ0) := by
        exact ⟨(ltq_f (Int.not_lt.1 q0)), trivial⟩
      by_cases q1 : ((↑s.courses.length : Int) : Int) ≤ (8)
      ·
        have hp7 : AllP (lshort_p7 B s i dJ0) := by
          exact ⟨(nltq_t q1), hp6⟩
        by_cases q2 : ((↑s.stars.length : Int) : Int) ≤ (10)
        ·
          have hp8 : AllP (lshort_p8 B s i dJ0) := by
            exact ⟨(nltq_t q2), hp7⟩
          by_cases q3 : ((↑s.boats.length : Int) : Int) ≤ (5)
          ·
            have hp9 : AllP (lshort_p9 B s i dJ0) := by
              exact ⟨(nltq_t q3), hp8⟩
            by_cases q4 : ((↑s.roads.length : Int) : Int) ≤ (14)
            ·
              try have s2 := shortI_cons (s := s) q0 q1
              try have s2 := shortI_nil (s := s) (i := i) (by omega)
              try have s3 := decide_eq_false (show ¬ ((s.courses.getD i.toNat default).length : Int) ≤ 14 by omega)
              try have s3 := decide_eq_true (show ((s.courses.getD i.toNat default).length : Int) ≤ 14 by omega)
              exact (GoE.endsT okF hJ mixed_ok hg0 (lshort_s7 B s i dJ0)
                ⟨(nltq_t q4), hp9⟩).cast (by first | rfl | (rw [s2, s3]; rfl) | (rw [s2, s3, Bool.true_and]; done) | (rw [s2]; simp [*]; done) | (rw [s2]; simp; omega) | (rw [s2]; simp_all; done) | (rw [s2]; simp_all; omega))
            ·
              try have s2 := shortI_cons (s := s) q0 q1
              try have s2 := shortI_nil (s := s) (i := i) (by omega)
              try have s3 := decide_eq_false (show ¬ ((s.courses.getD i.toNat default).length : Int) ≤ 14 by omega)
              try have s3 := decide_eq_true (show ((s.courses.getD i.toNat default).length : Int) ≤ 14 by omega)
              exact (GoE.endsT okF hJ mixed_ok hg0 (lshort_s8 B s i dJ0)
                ⟨(nltq_f (Int.not_le.1 q4)), hp9⟩).cast (by first | rfl | (rw [s2, s3]; rfl) | (rw [s2, s3, Bool.true_and]; done) | (rw [s2]; simp [*]; done) | (rw [s2]; simp; omega) | (rw [s2]; simp_all; done) | (rw [s2]; simp_all; omega))
          ·
            try have s2 := shortI_cons (s := s) q0 q1
            try have s2 := shortI_nil (s := s) (i := i) (by omega)
            try have s3 := decide_eq_false (show ¬ ((s.courses.getD i.toNat default).length : Int) ≤ 14 by omega)
            try have s3 := decide_eq_true (show ((s.courses.getD i.toNat default).length : Int) ≤ 14 by omega)
            exact (GoE.endsT okF hJ mixed_ok hg0 (lshort_s9 B s i dJ0)
              ⟨(nltq_f (Int.not_le.1 q3)), hp8⟩).cast (by first | rfl | (rw [s2, s3]; rfl) | (rw [s2, s3, Bool.true_and]; done) | (rw [s2]; simp [*]; done) | (rw [s2]; simp; omega) | (rw [s2]; simp_all; done) | (rw [s2]; simp_all; omega))
        ·
          try have s2 := shortI_cons (s := s) q0 q1
          try have s2 := shortI_nil (s := s) (i := i) (by omega)
          try have s3 := decide_eq_false (show ¬ ((s.courses.getD i.toNat default).length : Int) ≤ 14 by omega)
          try have s3 := decide_eq_true (show ((s.courses.getD i.toNat default).length : Int) ≤ 14 by omega)
          exact (GoE.endsT okF hJ mixed_ok hg0 (lshort_s10 B s i dJ0)
            ⟨(nltq_f (Int.not_le.1 q2)), hp7⟩).cast (by first | rfl | (rw [s2, s3]; rfl) | (rw [s2, s3, Bool.true_and]; done) | (rw [s2]; simp [*]; done) | (rw [s2]; simp; omega) | (rw [s2]; simp_all; done) | (rw [s2]; simp_all; omega))
      ·
        try have s2 := shortI_cons (s := s) q0 q1
        try have s2 := shortI_nil (s := s) (i := i) (by omega)
        try have s3 := decide_eq_false (show ¬ ((s.courses.getD i.toNat default).length : Int) ≤ 14 by omega)
        try have s3 := decide_eq_true (show ((s.courses.getD i.toNat default).length : Int) ≤ 14 by omega)
        exact (GoE.endsT okF hJ mixed_ok hg0 (lshort_s11 B s i dJ0)
          ⟨(nltq_f (Int.not_le.1 q1)), hp6⟩).cast (by first | rfl | (rw [s2, s3]; rfl) | (rw [s2, s3, Bool.true_and]; done) | (rw [s2]; simp [*]; done) | (rw [s2]; simp; omega) | (rw [s2]; simp_all; done) | (rw [s2]; simp_all; omega))
set_option maxHeartbeats 4000000 in
theorem lshort_e (s : CSea)  (hfacts : s.courses.length ≤ 9223372036854775807) {B : Lo} (hJ : ∀ w, B.has w → J0 w) : EndsT Tryz.prog B (entryC Tryz.prog 8 44 (([.agg (encSea s).toArray]).map (pushT 0 4))) (.bool (shortB s)) := by
  exact ((lshort_ls s hfacts hJ _) (0) rfl (by first | with_reducible assumption | omega | (simp_all; done))
    (GoE.start.landM okF hJ mixed_ok (lshort_s12 B s)
    trivial (by kernel_rfl) (by kernel_rfl))).cast (by first | rfl | (simp [*]; done) | (simp_all []; done) | (simp_all []; omega))
theorem lshort (s : CSea)  : PureC Tryz.prog J0 8 #[.agg (encSea s).toArray] (.bool (shortB s)) :=
  pureC_ofF (ts := [.agg (encSea s).toArray]) (s.courses.length ≤ 9223372036854775807) (fun _ _ ht => ht.ln2 (i := 0) (j := 2) rfl rfl) J0_st (c0 := entryC Tryz.prog 8 44 (([.agg (encSea s).toArray]).map (pushT 0 4))) (by kernel_rfl) (by kernel_rfl) fun hfacts B hJ => lshort_e s  hfacts hJ
noncomputable def lasked_z0 (s : CSea) : Array Value := #[Value.int IntKind.i64 s.cells, Value.int IntKind.i64 s.start, slT s.courses.length (rowL slI2 s.courses), slT s.stars.length (rowL encI s.stars), slT s.boats.length (rowL encI s.boats), slT s.roads.length (rowL encI s.roads)]
set_option maxRecDepth 100000 in
theorem lasked_s0 (B : Lo) (s : CSea) (l : List Hour) : endT (srunT Tryz.prog (okFn Tryz.prog) J0 B 10 1 (entryC Tryz.prog 14 17 (([.agg (encSea s).toArray, slH l]).map (pushT 0 4))) H00 1
    [(4, hvT)] 0 [] []) [] = some (Value.int IntKind.i64 3,
    [ltq 12 (↑l.length : Int) = true]) := by kernel_rfl
noncomputable def lasked_p0 (B : Lo) (s : CSea) (l : List Hour) : List Prop := [ltq 12 (↑l.length : Int) = false] ++ ([] : List Prop)
noncomputable def lasked_q0 (s : CSea) (l : List Hour) : ScriptT := [(4, hvF)]
noncomputable def lasked_p1 (B : Lo) (s : CSea) (l : List Hour) : List Prop := [AllP [] ∧ PureC Tryz.prog J0 13 #[Value.agg (lasked_z0 s)] (Value.bool true)] ++ lasked_p0 B s l
noncomputable def lasked_q1 (s : CSea) (l : List Hour) : ScriptT := lasked_q0 s l ++ [(6, HintT.pure (Value.bool true) [])]
set_option maxRecDepth 100000 in
theorem lasked_s1 (B : Lo) (s : CSea) (l : List Hour) : endT (srunT Tryz.prog (okFn Tryz.prog) J0 B 16 1 (entryC Tryz.prog 14 17 (([.agg (encSea s).toArray, slH l]).map (pushT 0 4))) H00 1
    (lasked_q1 s l ++ [(11, HintT.pure (Value.bool true) [])]) 0 [] []) [] = some (Value.int IntKind.i64 0,
    [AllP [] ∧ PureC Tryz.prog J0 37 #[Value.agg (lasked_z0 s), slT l.length (rowL encHour l)] (Value.bool true)] ++ lasked_p1 B s l) := by kernel_rfl
set_option maxRecDepth 100000 in
theorem lasked_s2 (B : Lo) (s : CSea) (l : List Hour) : endT (srunT Tryz.prog (okFn Tryz.prog) J0 B 15 1 (entryC Tryz.prog 14 17 (([.agg (encSea s).toArray, slH l]).map (pushT 0 4))) H00 1
    (lasked_q1 s l ++ [(11, HintT.pure (Value.bool false) [])]) 0 [] []) [] = some (Value.int IntKind.i64 2,
    [AllP [] ∧ PureC Tryz.prog J0 37 #[Value.agg (lasked_z0 s), slT l.length (rowL encHour l)] (Value.bool false)] ++ lasked_p1 B s l) := by kernel_rfl
set_option maxRecDepth 100000 in
theorem lasked_s3 (B : Lo) (s : CSea) (l : List Hour) : endT (srunT Tryz.prog (okFn Tryz.prog) J0 B 15 1 (entryC Tryz.prog 14 17 (([.agg (encSea s).toArray, slH l]).map (pushT 0 4))) H00 1
    (lasked_q0 s l ++ [(6, HintT.pure (Value.bool false) [])]) 0 [] []) [] = some (Value.int IntKind.i64 2,
    [AllP [] ∧ PureC Tryz.prog J0 13 #[Value.agg (lasked_z0 s)] (Value.bool false)] ++ lasked_p0 B s l) := by kernel_rfl
set_option maxHeartbeats 4000000 in
theorem lasked_e (s : CSea) (l : List Hour)  (hfacts : l.length ≤ 9223372036854775807) {B : Lo} (hJ : ∀ w, B.has w → J0 w) : EndsT Tryz.prog B (entryC Tryz.prog 14 17 (([.agg (encSea s).toArray, slH l]).map (pushT 0 4))) (.int .i64 (if decide ((12 : Int) < l.length) = true then 3 else if (seaB s && logB s l) = true then 0 else 2)) := by
  by_cases q0 : (12 : Int) < ((↑l.length : Int))
  ·
    exact (GoE.endsT okF hJ mixed_ok GoE.start (lasked_s0 B s l)
      ⟨(ltq_t q0), trivial⟩).cast (by first | rfl | (simp [*]; done) | (simp_all; done))
  ·
    have hp0 : AllP (lasked_p0 B s l) := by
      exact ⟨(ltq_f (Int.not_lt.1 q0)), trivial⟩
    cases q1 : seaB s with
    | true =>
      have hp1 : AllP (lasked_p1 B s l) := by
        exact ⟨⟨trivial, (by have t_ := rSea (s); rw [q1] at t_; exact t_)⟩, hp0⟩
      cases q2 : logB s l with
      | true =>
        exact (GoE.endsT okF hJ mixed_ok GoE.start (lasked_s1 B s l)
          ⟨⟨trivial, (by have t_ := rLog (s) (l); rw [q2] at t_; exact t_)⟩, hp1⟩).cast (by first | rfl | (simp [*]; done) | (simp_all; done))
      | false =>
        exact (GoE.endsT okF hJ mixed_ok GoE.start (lasked_s2 B s l)
          ⟨⟨trivial, (by have t_ := rLog (s) (l); rw [q2] at t_; exact t_)⟩, hp1⟩).cast (by first | rfl | (simp [*]; done) | (simp_all; done))
    | false =>
      exact (GoE.endsT okF hJ mixed_ok GoE.start (lasked_s3 B s l)
        ⟨⟨trivial, (by have t_ := rSea (s); rw [q1] at t_; exact t_)⟩, hp0⟩).cast (by first | rfl | (simp [*]; done) | (simp_all; done))
theorem lasked (s : CSea) (l : List Hour)  : PureC Tryz.prog J0 14 #[.agg (encSea s).toArray, slH l] (.int .i64 (if decide ((12 : Int) < l.length) = true then 3 else if (seaB s && logB s l) = true then 0 else 2)) :=
  pureC_ofF (ts := [.agg (encSea s).toArray, slH l]) (l.length ≤ 9223372036854775807) (fun _ _ ht => ht.ln (i := 1) rfl) J0_st (c0 := entryC Tryz.prog 14 17 (([.agg (encSea s).toArray, slH l]).map (pushT 0 4))) (by kernel_rfl) (by kernel_rfl) fun hfacts B hJ => lasked_e s l  hfacts hJ
noncomputable def wFits_z0 (s : CSea) (l : List Hour) (p : List Int) : Array Value := #[Value.agg #[Value.int IntKind.i64 s.cells, Value.int IntKind.i64 s.start, slT s.courses.length (rowL slI2 s.courses), slT s.stars.length (rowL encI s.stars), slT s.boats.length (rowL encI s.boats), slT s.roads.length (rowL encI s.roads)], slT l.length (rowL encHour l), slT p.length (rowL encI p)]
noncomputable def wFits_z1 (s : CSea) (l : List Hour) : Array Value := #[Value.agg #[Value.int IntKind.i64 s.cells, Value.int IntKind.i64 s.start, slT s.courses.length (rowL slI2 s.courses), slT s.stars.length (rowL encI s.stars), slT s.boats.length (rowL encI s.boats), slT s.roads.length (rowL encI s.roads)], slT l.length (rowL encHour l)]
noncomputable def wFits_z2 (s : CSea) (p : List Int) : Array Value := #[Value.agg #[Value.int IntKind.i64 s.cells, Value.int IntKind.i64 s.start, slT s.courses.length (rowL slI2 s.courses), slT s.stars.length (rowL encI s.stars), slT s.boats.length (rowL encI s.boats), slT s.roads.length (rowL encI s.roads)], slT p.length (rowL encI p)]
noncomputable def wFits_p0 (B : Lo) (s : CSea) (l : List Hour) (p : List Int) : List Prop := [AllP [] ∧ PureC Tryz.prog J0 8 #[Value.agg #[Value.int IntKind.i64 s.cells, Value.int IntKind.i64 s.start, slT s.courses.length (rowL slI2 s.courses), slT s.stars.length (rowL encI s.stars), slT s.boats.length (rowL encI s.boats), slT s.roads.length (rowL encI s.roads)]] (Value.bool true)] ++ ([] : List Prop)
noncomputable def wFits_q0 (s : CSea) (l : List Hour) (p : List Int) : ScriptT := [(3, HintT.pure (Value.bool true) [])]
set_option maxRecDepth 100000 in
theorem wFits_s0 (B : Lo) (s : CSea) (l : List Hour) (p : List Int) : endT (srunT Tryz.prog (okFn Tryz.prog) J0 B 10 1 (entryC Tryz.prog 4 70 (([.agg (encSea s).toArray, slH l, slI p]).map (pushT 0 4))) H00 1
    (wFits_q0 s l p ++ [(8, hvT), (15, HintT.pure (Value.bool true) [])]) 0 [] []) [] = some (Value.bool true,
    [AllP [] ∧ PureC Tryz.prog J0 9 #[] (Value.bool true), ltq 18 (↑l.length : Int) = true] ++ wFits_p0 B s l p) := by kernel_rfl
noncomputable def wFits_p1 (B : Lo) (s : CSea) (l : List Hour) (p : List Int) : List Prop := [ltq 18 (↑l.length : Int) = false] ++ wFits_p0 B s l p
noncomputable def wFits_q1 (s : CSea) (l : List Hour) (p : List Int) : ScriptT := wFits_q0 s l p ++ [(8, hvF)]
set_option maxRecDepth 100000 in
theorem wFits_s1 (B : Lo) (s : CSea) (l : List Hour) (p : List Int) : endT (srunT Tryz.prog (okFn Tryz.prog) J0 B 10 1 (entryC Tryz.prog 4 70 (([.agg (encSea s).toArray, slH l, slI p]).map (pushT 0 4))) H00 1
    (wFits_q1 s l p ++ [(13, hvT), (15, HintT.pure (Value.bool true) [])]) 0 [] []) [] = some (Value.bool true,
    [AllP [] ∧ PureC Tryz.prog J0 9 #[] (Value.bool true), ltq 18 (↑p.length : Int) = true] ++ wFits_p1 B s l p) := by kernel_rfl
noncomputable def wFits_p2 (B : Lo) (s : CSea) (l : List Hour) (p : List Int) : List Prop := [ltq 18 (↑p.length : Int) = false] ++ wFits_p1 B s l p
noncomputable def wFits_q2 (s : CSea) (l : List Hour) (p : List Int) : ScriptT := wFits_q1 s l p ++ [(13, hvF)]
noncomputable def wFits_p3 (B : Lo) (s : CSea) (l : List Hour) (p : List Int) : List Prop := [AllP [] ∧ PureC Tryz.prog J0 14 (wFits_z1 s l) (Value.int IntKind.i64 3), AllP [] ∧ PureC Tryz.prog J0 19 (wFits_z0 s l p) (Value.tuple #[Value.bool false, Value.int IntKind.i64 3])] ++ wFits_p2 B s l p
noncomputable def wFits_q3 (s : CSea) (l : List Hour) (p : List Int) : ScriptT := wFits_q2 s l p ++ [(18, HintT.pure (Value.tuple #[Value.bool false, Value.int IntKind.i64 3]) []), (26, HintT.pure (Value.int IntKind.i64 3) [])]
set_option maxRecDepth 100000 in
theorem wFits_s2 (B : Lo) (s : CSea) (l : List Hour) (p : List Int) : endT (srunT Tryz.prog (okFn Tryz.prog) J0 B 24 1 (entryC Tryz.prog 4 70 (([.agg (encSea s).toArray, slH l, slI p]).map (pushT 0 4))) H00 1
    (wFits_q3 s l p ++ [(30, hvT), (42, HintT.pure (Value.bool true) [])]) 0 [] []) [] = some (Value.bool true,
    [AllP [] ∧ PureC Tryz.prog J0 9 #[] (Value.bool true), ltq 13 (↑p.length : Int) = true] ++ wFits_p3 B s l p) := by kernel_rfl
set_option maxRecDepth 100000 in
theorem wFits_s3 (B : Lo) (s : CSea) (l : List Hour) (p : List Int) : endT (srunT Tryz.prog (okFn Tryz.prog) J0 B 27 1 (entryC Tryz.prog 4 70 (([.agg (encSea s).toArray, slH l, slI p]).map (pushT 0 4))) H00 1
    (wFits_q3 s l p ++ [(30, hvF), (49, HintT.pure (Value.bool true) [])]) 0 [] []) [] = some (Value.bool true,
    [AllP [] ∧ PureC Tryz.prog J0 9 #[] (Value.bool true), ltq 13 (↑p.length : Int) = false] ++ wFits_p3 B s l p) := by kernel_rfl
noncomputable def wFits_p4 (B : Lo) (s : CSea) (l : List Hour) (p : List Int) : List Prop := [AllP [] ∧ PureC Tryz.prog J0 19 (wFits_z0 s l p) (Value.tuple #[Value.bool false, Value.int IntKind.i64 3])] ++ wFits_p2 B s l p
noncomputable def wFits_q4 (s : CSea) (l : List Hour) (p : List Int) : ScriptT := wFits_q2 s l p ++ [(18, HintT.pure (Value.tuple #[Value.bool false, Value.int IntKind.i64 3]) [])]
noncomputable def wFits_p5 (B : Lo) (s : CSea) (l : List Hour) (p : List Int) : List Prop := [AllP [] ∧ PureC Tryz.prog J0 14 (wFits_z1 s l) (Value.int IntKind.i64 0)] ++ wFits_p4 B s l p
noncomputable def wFits_q5 (s : CSea) (l : List Hour) (p : List Int) : ScriptT := wFits_q4 s l p ++ [(26, HintT.pure (Value.int IntKind.i64 0) [])]
set_option maxRecDepth 100000 in
theorem wFits_s4 (B : Lo) (s : CSea) (l : List Hour) (p : List Int) : endT (srunT Tryz.prog (okFn Tryz.prog) J0 B 24 1 (entryC Tryz.prog 4 70 (([.agg (encSea s).toArray, slH l, slI p]).map (pushT 0 4))) H00 1
    (wFits_q5 s l p ++ [(30, hvT), (42, HintT.pure (Value.bool true) [])]) 0 [] []) [] = some (Value.bool true,
    [AllP [] ∧ PureC Tryz.prog J0 9 #[] (Value.bool true), ltq 13 (↑p.length : Int) = true] ++ wFits_p5 B s l p) := by kernel_rfl
noncomputable def wFits_p6 (B : Lo) (s : CSea) (l : List Hour) (p : List Int) : List Prop := [ltq 13 (↑p.length : Int) = false] ++ wFits_p5 B s l p
noncomputable def wFits_q6 (s : CSea) (l : List Hour) (p : List Int) : ScriptT := wFits_q5 s l p ++ [(30, hvF)]
set_option maxRecDepth 100000 in
theorem wFits_s5 (B : Lo) (s : CSea) (l : List Hour) (p : List Int) : endT (srunT Tryz.prog (okFn Tryz.prog) J0 B 28 1 (entryC Tryz.prog 4 70 (([.agg (encSea s).toArray, slH l, slI p]).map (pushT 0 4))) H00 1
    (wFits_q6 s l p ++ [(36, HintT.pure (Value.bool true) [])]) 0 [] []) [] = some (Value.bool false,
    [AllP [] ∧ PureC Tryz.prog J0 20 (wFits_z2 s p) (Value.bool true)] ++ wFits_p6 B s l p) := by kernel_rfl
set_option maxRecDepth 100000 in
theorem wFits_s6 (B : Lo) (s : CSea) (l : List Hour) (p : List Int) : endT (srunT Tryz.prog (okFn Tryz.prog) J0 B 27 1 (entryC Tryz.prog 4 70 (([.agg (encSea s).toArray, slH l, slI p]).map (pushT 0 4))) H00 1
    (wFits_q6 s l p ++ [(36, HintT.pure (Value.bool false) [])]) 0 [] []) [] = some (Value.bool false,
    [AllP [] ∧ PureC Tryz.prog J0 20 (wFits_z2 s p) (Value.bool false)] ++ wFits_p6 B s l p) := by kernel_rfl
noncomputable def wFits_p7 (B : Lo) (s : CSea) (l : List Hour) (p : List Int) : List Prop := [AllP [] ∧ PureC Tryz.prog J0 14 (wFits_z1 s l) (Value.int IntKind.i64 2)] ++ wFits_p4 B s l p
noncomputable def wFits_q7 (s : CSea) (l : List Hour) (p : List Int) : ScriptT := wFits_q4 s l p ++ [(26, HintT.pure (Value.int IntKind.i64 2) [])]
set_option maxRecDepth 100000 in
theorem wFits_s7 (B : Lo) (s : CSea) (l : List Hour) (p : List Int) : endT (srunT Tryz.prog (okFn Tryz.prog) J0 B 24 1 (entryC Tryz.prog 4 70 (([.agg (encSea s).toArray, slH l, slI p]).map (pushT 0 4))) H00 1
    (wFits_q7 s l p ++ [(30, hvT), (42, HintT.pure (Value.bool true) [])]) 0 [] []) [] = some (Value.bool true,
    [AllP [] ∧ PureC Tryz.prog J0 9 #[] (Value.bool true), ltq 13 (↑p.length : Int) = true] ++ wFits_p7 B s l p) := by kernel_rfl
set_option maxRecDepth 100000 in
theorem wFits_s8 (B : Lo) (s : CSea) (l : List Hour) (p : List Int) : endT (srunT Tryz.prog (okFn Tryz.prog) J0 B 27 1 (entryC Tryz.prog 4 70 (([.agg (encSea s).toArray, slH l, slI p]).map (pushT 0 4))) H00 1
    (wFits_q7 s l p ++ [(30, hvF)]) 0 [] []) [] = some (Value.bool false,
    [ltq 13 (↑p.length : Int) = false] ++ wFits_p7 B s l p) := by kernel_rfl
noncomputable def wFits_p8 (B : Lo) (s : CSea) (l : List Hour) (p : List Int) : List Prop := [AllP [] ∧ PureC Tryz.prog J0 14 (wFits_z1 s l) (Value.int IntKind.i64 2)] ++ wFits_p4 B s l p
noncomputable def wFits_q8 (s : CSea) (l : List Hour) (p : List Int) : ScriptT := wFits_q4 s l p ++ [(26, HintT.pure (Value.int IntKind.i64 2) [])]
set_option maxRecDepth 100000 in
theorem wFits_s9 (B : Lo) (s : CSea) (l : List Hour) (p : List Int) : endT (srunT Tryz.prog (okFn Tryz.prog) J0 B 24 1 (entryC Tryz.prog 4 70 (([.agg (encSea s).toArray, slH l, slI p]).map (pushT 0 4))) H00 1
    (wFits_q8 s l p ++ [(30, hvT), (42, HintT.pure (Value.bool true) [])]) 0 [] []) [] = some (Value.bool true,
    [AllP [] ∧ PureC Tryz.prog J0 9 #[] (Value.bool true), ltq 13 (↑p.length : Int) = true] ++ wFits_p8 B s l p) := by kernel_rfl
set_option maxRecDepth 100000 in
theorem wFits_s10 (B : Lo) (s : CSea) (l : List Hour) (p : List Int) : endT (srunT Tryz.prog (okFn Tryz.prog) J0 B 27 1 (entryC Tryz.prog 4 70 (([.agg (encSea s).toArray, slH l, slI p]).map (pushT 0 4))) H00 1
    (wFits_q8 s l p ++ [(30, hvF)]) 0 [] []) [] = some (Value.bool false,
    [ltq 13 (↑p.length : Int) = false] ++ wFits_p8 B s l p) := by kernel_rfl
noncomputable def wFits_p9 (B : Lo) (s : CSea) (l : List Hour) (p : List Int) : List Prop := [AllP [] ∧ PureC Tryz.prog J0 14 (wFits_z1 s l) (Value.int IntKind.i64 0), AllP [] ∧ PureC Tryz.prog J0 19 (wFits_z0 s l p) (Value.tuple #[Value.bool true, Value.int IntKind.i64 0])] ++ wFits_p2 B s l p
noncomputable def wFits_q9 (s : CSea) (l : List Hour) (p : List Int) : ScriptT := wFits_q2 s l p ++ [(18, HintT.pure (Value.tuple #[Value.bool true, Value.int IntKind.i64 0]) []), (26, HintT.pure (Value.int IntKind.i64 0) [])]
set_option maxRecDepth 100000 in
theorem wFits_s11 (B : Lo) (s : CSea) (l : List Hour) (p : List Int) : endT (srunT Tryz.prog (okFn Tryz.prog) J0 B 24 1 (entryC Tryz.prog 4 70 (([.agg (encSea s).toArray, slH l, slI p]).map (pushT 0 4))) H00 1
    (wFits_q9 s l p ++ [(30, hvT)]) 0 [] []) [] = some (Value.bool false,
    [ltq 13 (↑p.length : Int) = true] ++ wFits_p9 B s l p) := by kernel_rfl
set_option maxRecDepth 100000 in
theorem wFits_s12 (B : Lo) (s : CSea) (l : List Hour) (p : List Int) : endT (srunT Tryz.prog (okFn Tryz.prog) J0 B 28 1 (entryC Tryz.prog 4 70 (([.agg (encSea s).toArray, slH l, slI p]).map (pushT 0 4))) H00 1
    (wFits_q9 s l p ++ [(30, hvF), (36, HintT.pure (Value.bool true) []), (48, HintT.pure (Value.bool true) []), (52, HintT.pure (Value.bool true) [])]) 0 [] []) [] = some (Value.bool true,
    [AllP [] ∧ PureC Tryz.prog J0 9 #[] (Value.bool true), AllP [] ∧ PureC Tryz.prog J0 21 (wFits_z0 s l p) (Value.bool true), AllP [] ∧ PureC Tryz.prog J0 20 (wFits_z2 s p) (Value.bool true), ltq 13 (↑p.length : Int) = false] ++ wFits_p9 B s l p) := by kernel_rfl
noncomputable def wFits_p10 (B : Lo) (s : CSea) (l : List Hour) (p : List Int) : List Prop := [AllP [] ∧ PureC Tryz.prog J0 14 (wFits_z1 s l) (Value.int IntKind.i64 0), AllP [] ∧ PureC Tryz.prog J0 19 (wFits_z0 s l p) (Value.tuple #[Value.bool false, Value.int IntKind.i64 0])] ++ wFits_p2 B s l p
noncomputable def wFits_q10 (s : CSea) (l : List Hour) (p : List Int) : ScriptT := wFits_q2 s l p ++ [(18, HintT.pure (Value.tuple #[Value.bool false, Value.int IntKind.i64 0]) []), (26, HintT.pure (Value.int IntKind.i64 0) [])]
set_option maxRecDepth 100000 in
theorem wFits_s13 (B : Lo) (s : CSea) (l : List Hour) (p : List Int) : endT (srunT Tryz.prog (okFn Tryz.prog) J0 B 24 1 (entryC Tryz.prog 4 70 (([.agg (encSea s).toArray, slH l, slI p]).map (pushT 0 4))) H00 1
    (wFits_q10 s l p ++ [(30, hvT)]) 0 [] []) [] = some (Value.bool false,
    [ltq 13 (↑p.length : Int) = true] ++ wFits_p10 B s l p) := by kernel_rfl
set_option maxRecDepth 100000 in
theorem wFits_s14 (B : Lo) (s : CSea) (l : List Hour) (p : List Int) : endT (srunT Tryz.prog (okFn Tryz.prog) J0 B 28 1 (entryC Tryz.prog 4 70 (([.agg (encSea s).toArray, slH l, slI p]).map (pushT 0 4))) H00 1
    (wFits_q10 s l p ++ [(30, hvF), (36, HintT.pure (Value.bool true) []), (48, HintT.pure (Value.bool false) []), (52, HintT.pure (Value.bool true) [])]) 0 [] []) [] = some (Value.bool true,
    [AllP [] ∧ PureC Tryz.prog J0 9 #[] (Value.bool true), AllP [] ∧ PureC Tryz.prog J0 21 (wFits_z0 s l p) (Value.bool false), AllP [] ∧ PureC Tryz.prog J0 20 (wFits_z2 s p) (Value.bool true), ltq 13 (↑p.length : Int) = false] ++ wFits_p10 B s l p) := by kernel_rfl
noncomputable def wFits_p11 (B : Lo) (s : CSea) (l : List Hour) (p : List Int) : List Prop := [AllP [] ∧ PureC Tryz.prog J0 14 (wFits_z1 s l) (Value.int IntKind.i64 0), AllP [] ∧ PureC Tryz.prog J0 19 (wFits_z0 s l p) (Value.tuple #[Value.bool false, Value.int IntKind.i64 2])] ++ wFits_p2 B s l p
noncomputable def wFits_q11 (s : CSea) (l : List Hour) (p : List Int) : ScriptT := wFits_q2 s l p ++ [(18, HintT.pure (Value.tuple #[Value.bool false, Value.int IntKind.i64 2]) []), (26, HintT.pure (Value.int IntKind.i64 0) [])]
set_option maxRecDepth 100000 in
theorem wFits_s15 (B : Lo) (s : CSea) (l : List Hour) (p : List Int) : endT (srunT Tryz.prog (okFn Tryz.prog) J0 B 24 1 (entryC Tryz.prog 4 70 (([.agg (encSea s).toArray, slH l, slI p]).map (pushT 0 4))) H00 1
    (wFits_q11 s l p ++ [(30, hvT)]) 0 [] []) [] = some (Value.bool false,
    [ltq 13 (↑p.length : Int) = true] ++ wFits_p11 B s l p) := by kernel_rfl
set_option maxRecDepth 100000 in
theorem wFits_s16 (B : Lo) (s : CSea) (l : List Hour) (p : List Int) : endT (srunT Tryz.prog (okFn Tryz.prog) J0 B 27 1 (entryC Tryz.prog 4 70 (([.agg (encSea s).toArray, slH l, slI p]).map (pushT 0 4))) H00 1
    (wFits_q11 s l p ++ [(30, hvF), (36, HintT.pure (Value.bool false) []), (50, HintT.pure (Value.bool true) [])]) 0 [] []) [] = some (Value.bool true,
    [AllP [] ∧ PureC Tryz.prog J0 9 #[] (Value.bool true), AllP [] ∧ PureC Tryz.prog J0 20 (wFits_z2 s p) (Value.bool false), ltq 13 (↑p.length : Int) = false] ++ wFits_p11 B s l p) := by kernel_rfl
noncomputable def wFits_p12 (B : Lo) (s : CSea) (l : List Hour) (p : List Int) : List Prop := [AllP [] ∧ PureC Tryz.prog J0 14 (wFits_z1 s l) (Value.int IntKind.i64 2), AllP [] ∧ PureC Tryz.prog J0 19 (wFits_z0 s l p) (Value.tuple #[Value.bool false, Value.int IntKind.i64 2])] ++ wFits_p2 B s l p
noncomputable def wFits_q12 (s : CSea) (l : List Hour) (p : List Int) : ScriptT := wFits_q2 s l p ++ [(18, HintT.pure (Value.tuple #[Value.bool false, Value.int IntKind.i64 2]) []), (26, HintT.pure (Value.int IntKind.i64 2) [])]
set_option maxRecDepth 100000 in
theorem wFits_s17 (B : Lo) (s : CSea) (l : List Hour) (p : List Int) : endT (srunT Tryz.prog (okFn Tryz.prog) J0 B 24 1 (entryC Tryz.prog 4 70 (([.agg (encSea s).toArray, slH l, slI p]).map (pushT 0 4))) H00 1
    (wFits_q12 s l p ++ [(30, hvT)]) 0 [] []) [] = some (Value.bool false,
    [ltq 13 (↑p.length : Int) = true] ++ wFits_p12 B s l p) := by kernel_rfl
set_option maxRecDepth 100000 in
theorem wFits_s18 (B : Lo) (s : CSea) (l : List Hour) (p : List Int) : endT (srunT Tryz.prog (okFn Tryz.prog) J0 B 27 1 (entryC Tryz.prog 4 70 (([.agg (encSea s).toArray, slH l, slI p]).map (pushT 0 4))) H00 1
    (wFits_q12 s l p ++ [(30, hvF), (49, HintT.pure (Value.bool true) [])]) 0 [] []) [] = some (Value.bool true,
    [AllP [] ∧ PureC Tryz.prog J0 9 #[] (Value.bool true), ltq 13 (↑p.length : Int) = false] ++ wFits_p12 B s l p) := by kernel_rfl
noncomputable def wFits_p13 (B : Lo) (s : CSea) (l : List Hour) (p : List Int) : List Prop := [AllP [] ∧ PureC Tryz.prog J0 14 (wFits_z1 s l) (Value.int IntKind.i64 2), AllP [] ∧ PureC Tryz.prog J0 19 (wFits_z0 s l p) (Value.tuple #[Value.bool false, Value.int IntKind.i64 2])] ++ wFits_p2 B s l p
noncomputable def wFits_q13 (s : CSea) (l : List Hour) (p : List Int) : ScriptT := wFits_q2 s l p ++ [(18, HintT.pure (Value.tuple #[Value.bool false, Value.int IntKind.i64 2]) []), (26, HintT.pure (Value.int IntKind.i64 2) [])]
set_option maxRecDepth 100000 in
theorem wFits_s19 (B : Lo) (s : CSea) (l : List Hour) (p : List Int) : endT (srunT Tryz.prog (okFn Tryz.prog) J0 B 24 1 (entryC Tryz.prog 4 70 (([.agg (encSea s).toArray, slH l, slI p]).map (pushT 0 4))) H00 1
    (wFits_q13 s l p ++ [(30, hvT)]) 0 [] []) [] = some (Value.bool false,
    [ltq 13 (↑p.length : Int) = true] ++ wFits_p13 B s l p) := by kernel_rfl
set_option maxRecDepth 100000 in
theorem wFits_s20 (B : Lo) (s : CSea) (l : List Hour) (p : List Int) : endT (srunT Tryz.prog (okFn Tryz.prog) J0 B 27 1 (entryC Tryz.prog 4 70 (([.agg (encSea s).toArray, slH l, slI p]).map (pushT 0 4))) H00 1
    (wFits_q13 s l p ++ [(30, hvF), (49, HintT.pure (Value.bool true) [])]) 0 [] []) [] = some (Value.bool true,
    [AllP [] ∧ PureC Tryz.prog J0 9 #[] (Value.bool true), ltq 13 (↑p.length : Int) = false] ++ wFits_p13 B s l p) := by kernel_rfl
set_option maxRecDepth 100000 in
theorem wFits_s21 (B : Lo) (s : CSea) (l : List Hour) (p : List Int) : endT (srunT Tryz.prog (okFn Tryz.prog) J0 B 10 1 (entryC Tryz.prog 4 70 (([.agg (encSea s).toArray, slH l, slI p]).map (pushT 0 4))) H00 1
    [(3, HintT.pure (Value.bool false) []), (15, HintT.pure (Value.bool true) [])] 0 [] []) [] = some (Value.bool true,
    [AllP [] ∧ PureC Tryz.prog J0 9 #[] (Value.bool true), AllP [] ∧ PureC Tryz.prog J0 8 #[Value.agg #[Value.int IntKind.i64 s.cells, Value.int IntKind.i64 s.start, slT s.courses.length (rowL slI2 s.courses), slT s.stars.length (rowL encI s.stars), slT s.boats.length (rowL encI s.boats), slT s.roads.length (rowL encI s.roads)]] (Value.bool false)]) := by kernel_rfl
set_option maxHeartbeats 4000000 in
theorem wFits_e (s : CSea) (l : List Hour) (p : List Int)  (hfacts : l.length ≤ 9223372036854775807 ∧ p.length ≤ 9223372036854775807) {B : Lo} (hJ : ∀ w, B.has w → J0 w) : EndsT Tryz.prog B (entryC Tryz.prog 4 70 (([.agg (encSea s).toArray, slH l, slI p]).map (pushT 0 4))) (.bool true) := by
  have hfa := hfacts.1
  have hfb := hfacts.2
  cases q0 : shortB s with
  | true =>
    have hp0 : AllP (wFits_p0 B s l p) := by
      try have hsf := sea_facts ‹seaB s = true›
      exact ⟨⟨trivial, (by have t_ := lshort (s); rw [q0] at t_; exact t_)⟩, trivial⟩
    by_cases q1 : (18 : Int) < ((↑l.length : Int))
    ·
      exact (GoE.endsT okF hJ mixed_ok GoE.start (wFits_s0 B s l p)
        ⟨⟨trivial, known⟩, ⟨(ltq_t q1), hp0⟩⟩).cast rfl
    ·
      have hp1 : AllP (wFits_p1 B s l p) := by
        exact ⟨(ltq_f (Int.not_lt.1 q1)), hp0⟩
      by_cases q2 : (18 : Int) < ((↑p.length : Int))
      ·
        exact (GoE.endsT okF hJ mixed_ok GoE.start (wFits_s1 B s l p)
          ⟨⟨trivial, known⟩, ⟨(ltq_t q2), hp1⟩⟩).cast rfl
      ·
        have hp2 : AllP (wFits_p2 B s l p) := by
          exact ⟨(ltq_f (Int.not_lt.1 q2)), hp1⟩
        cases q3 : decide (12 < (↑l.length : Int)) with
        | true =>
          have hp3 : AllP (wFits_p3 B s l p) := by
            try have hsf := sea_facts ‹seaB s = true›
            exact ⟨⟨trivial, (by have t_ := lasked (s) (l); rw [q3] at t_; exact t_)⟩, ⟨⟨trivial, (by have t_ := pFits (s) (l) (p); rw [q3] at t_; exact t_)⟩, hp2⟩⟩
          by_cases q4 : (13 : Int) < ((↑p.length : Int))
          ·
            exact (GoE.endsT okF hJ mixed_ok GoE.start (wFits_s2 B s l p)
              ⟨⟨trivial, known⟩, ⟨(ltq_t q4), hp3⟩⟩).cast rfl
          ·
            exact (GoE.endsT okF hJ mixed_ok GoE.start (wFits_s3 B s l p)
              ⟨⟨trivial, known⟩, ⟨(ltq_f (Int.not_lt.1 q4)), hp3⟩⟩).cast rfl
        | false =>
          cases q4 : decide (13 < (↑p.length : Int)) with
          | true =>
            have hp4 : AllP (wFits_p4 B s l p) := by
              try have hsf := sea_facts ‹seaB s = true›
              exact ⟨⟨trivial, (by have t_ := pFits (s) (l) (p); rw [q3, q4] at t_; exact t_)⟩, hp2⟩
            cases q5 : seaB s with
            | true =>
              cases q6 : logB s l with
              | true =>
                have hp5 : AllP (wFits_p5 B s l p) := by
                  try have hsf := sea_facts ‹seaB s = true›
                  exact ⟨⟨trivial, (by have t_ := lasked (s) (l); rw [q3, q5, q6] at t_; exact t_)⟩, hp4⟩
                by_cases q7 : (13 : Int) < ((↑p.length : Int))
                ·
                  exact (GoE.endsT okF hJ mixed_ok GoE.start (wFits_s4 B s l p)
                    ⟨⟨trivial, known⟩, ⟨(ltq_t q7), hp5⟩⟩).cast rfl
                ·
                  have hp6 : AllP (wFits_p6 B s l p) := by
                    exact ⟨(ltq_f (Int.not_lt.1 q7)), hp5⟩
                  cases q8 : cellsB s p with
                  | true =>
                    try have hsf := sea_facts ‹seaB s = true›
                    exact (GoE.endsT okF hJ mixed_ok GoE.start (wFits_s5 B s l p)
                      ⟨⟨trivial, (by have t_ := rPath (s) (p) (by first | with_reducible assumption | omega | simp_all) (by first | with_reducible assumption | omega | simp_all); rw [q8] at t_; exact t_)⟩, hp6⟩).cast (by first | rfl | (simp [*]; done) | (simp_all; done))
                  | false =>
                    try have hsf := sea_facts ‹seaB s = true›
                    exact (GoE.endsT okF hJ mixed_ok GoE.start (wFits_s6 B s l p)
                      ⟨⟨trivial, (by have t_ := rPath (s) (p) (by first | with_reducible assumption | omega | simp_all) (by first | with_reducible assumption | omega | simp_all); rw [q8] at t_; exact t_)⟩, hp6⟩).cast (by first | rfl | (simp [*]; done) | (simp_all; done))
              | false =>
                have hp7 : AllP (wFits_p7 B s l p) := by
                  try have hsf := sea_facts ‹seaB s = true›
                  exact ⟨⟨trivial, (by have t_ := lasked (s) (l); rw [q3, q5, q6] at t_; exact t_)⟩, hp4⟩
                by_cases q7 : (13 : Int) < ((↑p.length : Int))
                ·
                  exact (GoE.endsT okF hJ mixed_ok GoE.start (wFits_s7 B s l p)
                    ⟨⟨trivial, known⟩, ⟨(ltq_t q7), hp7⟩⟩).cast rfl
                ·
                  try have hsf := sea_facts ‹seaB s = true›
                  exact (GoE.endsT okF hJ mixed_ok GoE.start (wFits_s8 B s l p)
                    ⟨(ltq_f (Int.not_lt.1 q7)), hp7⟩).cast (by first | rfl | (simp [*]; done) | (simp_all; done))
            | false =>
              have hp8 : AllP (wFits_p8 B s l p) := by
                try have hsf := sea_facts ‹seaB s = true›
                exact ⟨⟨trivial, (by have t_ := lasked (s) (l); rw [q3, q5] at t_; exact t_)⟩, hp4⟩
              by_cases q6 : (13 : Int) < ((↑p.length : Int))
              ·
                exact (GoE.endsT okF hJ mixed_ok GoE.start (wFits_s9 B s l p)
                  ⟨⟨trivial, known⟩, ⟨(ltq_t q6), hp8⟩⟩).cast rfl
              ·
                try have hsf := sea_facts ‹seaB s = true›
                exact (GoE.endsT okF hJ mixed_ok GoE.start (wFits_s10 B s l p)
                  ⟨(ltq_f (Int.not_lt.1 q6)), hp8⟩).cast (by first | rfl | (simp [*]; done) | (simp_all; done))
          | false =>
            cases q5 : seaB s with
            | true =>
              cases q6 : logB s l with
              | true =>
                cases q7 : cellsB s p with
                | true =>
                  cases q8 : fitsB s l p with
                  | true =>
                    have hp9 : AllP (wFits_p9 B s l p) := by
                      try have hsf := sea_facts ‹seaB s = true›
                      exact ⟨⟨trivial, (by have t_ := lasked (s) (l); rw [q3, q5, q6] at t_; exact t_)⟩, ⟨⟨trivial, (by have t_ := pFits (s) (l) (p); rw [q3, q4, q5, q6, q7, q8] at t_; exact t_)⟩, hp2⟩⟩
                    by_cases q9 : (13 : Int) < ((↑p.length : Int))
                    ·
                      try have hsf := sea_facts ‹seaB s = true›
                      exact (GoE.endsT okF hJ mixed_ok GoE.start (wFits_s11 B s l p)
                        ⟨(ltq_t q9), hp9⟩).cast (by first | rfl | (simp [*]; done) | (simp_all; done))
                    ·
                      try have hsf := sea_facts ‹seaB s = true›
                      exact (GoE.endsT okF hJ mixed_ok GoE.start (wFits_s12 B s l p)
                        ⟨⟨trivial, known⟩, ⟨⟨trivial, (by have t_ := rFits (s) (l) (p) (by first | with_reducible assumption | omega | simp_all) (by first | with_reducible assumption | omega | simp_all) (by first | with_reducible assumption | omega | simp_all) (by first | with_reducible assumption | omega | simp_all); rw [q8] at t_; exact t_)⟩, ⟨⟨trivial, (by have t_ := rPath (s) (p) (by first | with_reducible assumption | omega | simp_all) (by first | with_reducible assumption | omega | simp_all); rw [q7] at t_; exact t_)⟩, ⟨(ltq_f (Int.not_lt.1 q9)), hp9⟩⟩⟩⟩).cast rfl
                  | false =>
                    have hp10 : AllP (wFits_p10 B s l p) := by
                      try have hsf := sea_facts ‹seaB s = true›
                      exact ⟨⟨trivial, (by have t_ := lasked (s) (l); rw [q3, q5, q6] at t_; exact t_)⟩, ⟨⟨trivial, (by have t_ := pFits (s) (l) (p); rw [q3, q4, q5, q6, q7, q8] at t_; exact t_)⟩, hp2⟩⟩
                    by_cases q9 : (13 : Int) < ((↑p.length : Int))
                    ·
                      try have hsf := sea_facts ‹seaB s = true›
                      exact (GoE.endsT okF hJ mixed_ok GoE.start (wFits_s13 B s l p)
                        ⟨(ltq_t q9), hp10⟩).cast (by first | rfl | (simp [*]; done) | (simp_all; done))
                    ·
                      try have hsf := sea_facts ‹seaB s = true›
                      exact (GoE.endsT okF hJ mixed_ok GoE.start (wFits_s14 B s l p)
                        ⟨⟨trivial, known⟩, ⟨⟨trivial, (by have t_ := rFits (s) (l) (p) (by first | with_reducible assumption | omega | simp_all) (by first | with_reducible assumption | omega | simp_all) (by first | with_reducible assumption | omega | simp_all) (by first | with_reducible assumption | omega | simp_all); rw [q8] at t_; exact t_)⟩, ⟨⟨trivial, (by have t_ := rPath (s) (p) (by first | with_reducible assumption | omega | simp_all) (by first | with_reducible assumption | omega | simp_all); rw [q7] at t_; exact t_)⟩, ⟨(ltq_f (Int.not_lt.1 q9)), hp10⟩⟩⟩⟩).cast rfl
                | false =>
                  have hp11 : AllP (wFits_p11 B s l p) := by
                    try have hsf := sea_facts ‹seaB s = true›
                    exact ⟨⟨trivial, (by have t_ := lasked (s) (l); rw [q3, q5, q6] at t_; exact t_)⟩, ⟨⟨trivial, (by have t_ := pFits (s) (l) (p); rw [q3, q4, q5, q6, q7] at t_; exact t_)⟩, hp2⟩⟩
                  by_cases q8 : (13 : Int) < ((↑p.length : Int))
                  ·
                    try have hsf := sea_facts ‹seaB s = true›
                    exact (GoE.endsT okF hJ mixed_ok GoE.start (wFits_s15 B s l p)
                      ⟨(ltq_t q8), hp11⟩).cast (by first | rfl | (simp [*]; done) | (simp_all; done))
                  ·
                    try have hsf := sea_facts ‹seaB s = true›
                    exact (GoE.endsT okF hJ mixed_ok GoE.start (wFits_s16 B s l p)
                      ⟨⟨trivial, known⟩, ⟨⟨trivial, (by have t_ := rPath (s) (p) (by first | with_reducible assumption | omega | simp_all) (by first | with_reducible assumption | omega | simp_all); rw [q7] at t_; exact t_)⟩, ⟨(ltq_f (Int.not_lt.1 q8)), hp11⟩⟩⟩).cast rfl
              | false =>
                have hp12 : AllP (wFits_p12 B s l p) := by
                  try have hsf := sea_facts ‹seaB s = true›
                  exact ⟨⟨trivial, (by have t_ := lasked (s) (l); rw [q3, q5, q6] at t_; exact t_)⟩, ⟨⟨trivial, (by have t_ := pFits (s) (l) (p); rw [q3, q4, q5, q6] at t_; exact t_)⟩, hp2⟩⟩
                by_cases q7 : (13 : Int) < ((↑p.length : Int))
                ·
                  try have hsf := sea_facts ‹seaB s = true›
                  exact (GoE.endsT okF hJ mixed_ok GoE.start (wFits_s17 B s l p)
                    ⟨(ltq_t q7), hp12⟩).cast (by first | rfl | (simp [*]; done) | (simp_all; done))
                ·
                  exact (GoE.endsT okF hJ mixed_ok GoE.start (wFits_s18 B s l p)
                    ⟨⟨trivial, known⟩, ⟨(ltq_f (Int.not_lt.1 q7)), hp12⟩⟩).cast rfl
            | false =>
              have hp13 : AllP (wFits_p13 B s l p) := by
                try have hsf := sea_facts ‹seaB s = true›
                exact ⟨⟨trivial, (by have t_ := lasked (s) (l); rw [q3, q5] at t_; exact t_)⟩, ⟨⟨trivial, (by have t_ := pFits (s) (l) (p); rw [q3, q4, q5] at t_; exact t_)⟩, hp2⟩⟩
              by_cases q6 : (13 : Int) < ((↑p.length : Int))
              ·
                try have hsf := sea_facts ‹seaB s = true›
                exact (GoE.endsT okF hJ mixed_ok GoE.start (wFits_s19 B s l p)
                  ⟨(ltq_t q6), hp13⟩).cast (by first | rfl | (simp [*]; done) | (simp_all; done))
              ·
                exact (GoE.endsT okF hJ mixed_ok GoE.start (wFits_s20 B s l p)
                  ⟨⟨trivial, known⟩, ⟨(ltq_f (Int.not_lt.1 q6)), hp13⟩⟩).cast rfl
  | false =>
    try have hsf := sea_facts ‹seaB s = true›
    exact (GoE.endsT okF hJ mixed_ok GoE.start (wFits_s21 B s l p)
      ⟨⟨trivial, known⟩, ⟨⟨trivial, (by have t_ := lshort (s); rw [q0] at t_; exact t_)⟩, trivial⟩⟩).cast rfl
theorem wFits (s : CSea) (l : List Hour) (p : List Int)  : PureC Tryz.prog J0 4 #[.agg (encSea s).toArray, slH l, slI p] (.bool true) :=
  pureC_ofF (ts := [.agg (encSea s).toArray, slH l, slI p]) (l.length ≤ 9223372036854775807 ∧ p.length ≤ 9223372036854775807) (fun _ _ ht => ⟨ht.ln (i := 1) rfl, ht.ln (i := 2) rfl⟩) J0_st (c0 := entryC Tryz.prog 4 70 (([.agg (encSea s).toArray, slH l, slI p]).map (pushT 0 4))) (by kernel_rfl) (by kernel_rfl) fun hfacts B hJ => wFits_e s l p  hfacts hJ
end Go.Proofs.YtiaaikkmipmhnaaGreatDoor

namespace Go.Proofs.YtiaaikkmipmhnaaGreatDoor
open Go Go.CE Go.RowKit
def shHour : Sh := shS [.int, .int]
def shSea : Sh := shS [.int, .int, .slice (.slice .int), .slice .int, .slice .int, .slice .int]
theorem dec_hour {cs : List Value} (h : shHour.ok cs) : ∃ s : Hour, cs = encHour s := by
  obtain ⟨_, _, rfl, ⟨a, _, rfl⟩, _, _, rfl, ⟨b, _, rfl⟩, rfl⟩ := h
  exact ⟨⟨a, b⟩, rfl⟩
theorem dec_ints {cs : List Value} (h : Sh.ok (.slice .int) cs) : ∃ xs : List Int, cs = slI2 xs := sh_slice (fun _ => sh_int) h
theorem arg_ints {v : Value} (h : Sh.arg (.slice .int) v) : ∃ xs : List Int, v = slI xs := by
  obtain ⟨xs, hx⟩ := dec_ints (show Sh.ok (.slice .int) [v] from h)
  exact ⟨xs, by simpa [slI2] using hx⟩
theorem arg_log {v : Value} (h : Sh.arg (.slice shHour) v) : ∃ l : List Hour, v = slH l := by
  obtain ⟨xs, hx⟩ := sh_slice (fun _ => dec_hour) (show Sh.ok (.slice shHour) [v] from h)
  exact ⟨xs, by simpa using hx⟩
theorem arg_sea {v : Value} (h : shSea.arg v) : ∃ s : CSea, v = .agg (encSea s).toArray := by
  obtain ⟨cs, rfl, h⟩ := h
  obtain ⟨_, _, rfl, ⟨a, _, rfl⟩, _, _, rfl, ⟨b, _, rfl⟩, _, _, rfl, h3, _, _, rfl, h4, _, _, rfl, h5, _, _, rfl, h6, rfl⟩ := h
  obtain ⟨xs, rfl⟩ := sh_slice (fun _ => dec_ints) h3
  obtain ⟨ys, rfl⟩ := dec_ints h4
  obtain ⟨zs, rfl⟩ := dec_ints h5
  obtain ⟨ws, rfl⟩ := dec_ints h6
  exact ⟨⟨a, b, xs, ys, zs, ws⟩, rfl⟩
theorem fits_all : ∀ trs, ArgAll [shSea, .slice shHour, .slice .int] trs → PureC Tryz.prog J0 4 trs.toArray (.bool true) := by
  rintro trs ⟨t0, _, rfl, h0, t1, _, rfl, h1, t2, _, rfl, h2, rfl⟩
  obtain ⟨s, rfl⟩ := arg_sea h0
  obtain ⟨l, rfl⟩ := arg_log h1
  obtain ⟨p, rfl⟩ := arg_ints h2
  exact wFits s l p
end Go.Proofs.YtiaaikkmipmhnaaGreatDoor

namespace Go.Proofs.YtiaaikkmipmhnaaGreatDoor
open Go Go.CE Go.ChangeShapes Go.WideShapes Go.ChangeAt Go.RowKit Go.WideElems
set_option maxRecDepth 100000 in
theorem canoeFits_lifted (os : Os) (started : os.Started) (H : Type) (enc : TypeId × Value → H) :
    ReturnsInHanded {} Tryz.checked os 4 .any (fun w args => (Rows.canoeFitsSpec.pre enc Tryz.prog Tryz.f4 Rows.canoeFitsRow.domain false w args ∧ laidMetH Tryz.prog laid3 w) ∧ sizedMet enc Tryz.prog Tryz.f4 (OpenSpec.ofChange Rows.canoeFitsSpec) false w args) (Rows.canoeFitsSpec.post enc Tryz.prog Tryz.f4 false true false false) := by
  refine returnsInHanded_of_change_and (C := Tryz.checked) (X := fun w _ => laidMetH Tryz.prog laid3 w) (fun _ _ _ hh h => h.of_heap hh) lawOwn started (by kernel_rfl) Tryz.func4
    (ChangeSpec.witness_shaped (enc := enc) (C := Tryz.checked) (os := os) (X := fun w _ => laidMetH Tryz.prog laid3 w) false (World.doorLaid Tryz.prog 400 os)
      #[Sh.zeroA shSea, Sh.zeroA (.slice shHour), Sh.zeroA (.slice .int)]
      8 rfl (World.shaped_of_RefB (by kernel_rfl) (by kernel_rfl)) (by kernel_rfl) (by kernel_rfl) (by kernel_rfl) (door_met os _)) ?_
  intro W base args ds gs before hval0 hW _ _ hL _
  have hval : ∀ (j : Nat) t v, Tryz.f4.params[j]? = some t → args[j]? = some v → Value.okWide Tryz.prog W .any base t v := hval0
  have hW' := hW
  obtain ⟨p, q, hA0, hV, rfl, hfz, hnd⟩ := hW
  obtain ⟨rfl, rfl⟩ := trodVars_none hV
  have hA1 : DataW.TrodAll enc Tryz.prog W 0 (fun _ => true) true Tryz.f4.params.toList args.toList ds p := hA0
  have hlt : ∀ x ∈ p, x.block < W.heap.size := fun x hx => hW'.lt x (by simpa using hx)
  have hch : chkAll Tryz.prog [shSea, .slice shHour, .slice .int] Tryz.f4.params.toList = true := by kernel_rfl
  have hrd : (Tryz.f4.params.toList.all fun t => Tryz.prog.readableRec t && decide (t < Tryz.prog.types.size)) = true := by kernel_rfl
  refine (law_call (J := J0) (ss := [shSea, .slice shHour, .slice .int]) trivial hch hA1 (fun j t v h1 h2 => hval j t v (by simpa using h1) h2) fits_all).mono fun e W' ⟨he, hB⟩ => ?_
  subst he
  have hB2 := trodAll_below lawLaidOut hB _ _ _ _ hrd hA1 hlt
  have hA : DataW.TrodAll enc Tryz.prog W 0 (fun _ => true) true Tryz.f4.params.toList args.toList ds p := hA1
  rw [Tryz.params4] at hA
  simp only [List.toList_toArray] at hA
  have hA := hA
  obtain ⟨v0, vs0, d0, ds0, p0, q0, _, rfl, _, h0, _⟩ := CE.trodAll_cons hA
  obtain ⟨v1, vs1, d1, ds1, p1, q1, _, rfl, _, h1, _⟩ := CE.trodAll_cons h0
  obtain ⟨v2, vs2, d2, ds2, p2, q2, _, rfl, _, h2, _⟩ := CE.trodAll_cons h1
  obtain ⟨_, rfl, _⟩ := CE.trodAll_nil h2
  exact ⟨_, rfl, _, _, _, [], _, [], hW', trodAll_mk1 (shut_bool Tryz.underlying4 _), hB2, rfl, hB.frame _, fun h => by cases h⟩
theorem canoeFits_row : Rows.CanoeFitsSaid :=
  OpenClaim.holds_of_wide 4 Tryz.f4 rfl rfl rfl rfl rfl rfl rfl ⟨rfl, rfl, rfl, rfl, rfl⟩ rfl rfl rfl rfl rfl (by kernel_rfl) Tryz.func4 (by kernel_rfl)
    (of_decide_eq_true (by kernel_rfl)) (by unfold Func.isWrapper; first | (rw [if_pos (by decide +kernel)]; kernel_rfl) | (rw [if_neg (by decide +kernel)]; exact ⟨rfl, rfl⟩))
    (fun os started H enc _ => canoeFits_lifted os started H enc)
theorem canoeFits_card : Rows.CanoeFitsCardSaid :=
  Claim7.holds_tied_plain_at .later [] [.data, .data, .data] true (true, "f4c3872f85d24463241cf5d226473911f3b7fef5cc4a43563cb21f0a12f44ff4") false
    canoeFits_row (fun _ h => by cases h) (by kernel_rfl) (fun _ h => by cases h) canoeFits_row_tie rfl ⟨rfl, rfl⟩ (by kernel_rfl) rfl
    (fun f fn hf hfn => by
      obtain rfl : f = 4 := Option.some.inj ((show Tryz.prog.funcNamed "motu/motulaw05.CanoeFits" = some 4 by kernel_rfl).symm.trans hf) |>.symm
      obtain rfl : fn = Tryz.f4 := (Option.some.inj (Tryz.func4.symm.trans hfn)).symm
      exact ⟨by kernel_rfl, fun j t ht => by
        rw [Tryz.params4] at ht
        have hm : t ∈ [25, 26, 23] := by simpa using Array.mem_of_getElem? ht
        have hall : ([25, 26, 23].all fun u => !Tryz.prog.wantsStandIn u) = true := by kernel_rfl
        exact (show Tryz.prog.wantsStandIn t = false by simpa using List.all_eq_true.1 hall t hm)⟩)
    (by kernel_rfl)
end Go.Proofs.YtiaaikkmipmhnaaGreatDoor

