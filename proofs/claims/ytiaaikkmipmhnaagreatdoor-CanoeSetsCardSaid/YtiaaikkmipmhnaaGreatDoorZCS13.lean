/- Canoe: what the laws ask; fits are the reference's. -/
import Derived.Test.YtiaaikkmipmhnaaGreatDoorZCS12
import Derived.Test.YtiaaikkmipmhnaaGreatDoorZCS10
set_option linter.all false
namespace Go.Proofs.YtiaaikkmipmhnaaGreatDoor
open Go Go.CE Go.RowKit
def limC (s : CSea) : Int := if (s.courses.length : Int) < 8 then s.courses.length else 8
def shortI (s : CSea) (i : Int) : Bool := (upI i (limC s)).all fun k => decide (((s.courses.getD k.toNat default).length : Int) ≤ 14)
def shortB (s : CSea) : Bool := shortI s 0 && (decide ((s.courses.length : Int) ≤ 8) && (decide ((s.stars.length : Int) ≤ 10) && (decide ((s.boats.length : Int) ≤ 5) && decide ((s.roads.length : Int) ≤ 14))))
theorem shortI_cons {s : CSea} {i : Int} (h : i < s.courses.length) (h8 : i < 8) : shortI s i = (decide (((s.courses.getD i.toNat default).length : Int) ≤ 14) && shortI s (i + 1)) := by
  unfold shortI
  rw [upI_cons (by unfold limC; split <;> omega), List.all_cons]
theorem shortI_nil {s : CSea} {i : Int} (h : s.courses.length ≤ i ∨ 8 ≤ i) : shortI s i = true := by
  unfold shortI
  rw [upI_nil (by unfold limC; split <;> omega)]; rfl
def lshort_v0 (s : CSea) (i : Int) : List Value := [pA 2 0, .int .i64 i]
def lshort_o0 (s : CSea) (i : Int) : List Obj := [Obj.cells #[Value.int IntKind.i64 s.cells, Value.int IntKind.i64 s.start, topV 1 (slT s.courses.length (rowL slI2 s.courses)), topV 1 (slT s.stars.length (rowL encI s.stars)), topV 1 (slT s.boats.length (rowL encI s.boats)), topV 1 (slT s.roads.length (rowL encI s.roads))] 25]
noncomputable def lshort_t0 : List Item := ([.code [1, 0, 1, 0, 0], .inLoop [1, 0, 1, 0, 0], .inBlock 0, .code [1, 1]]).map (it (bodyOf Tryz.prog 8))
def lshort_h0 (B : Lo) (c0 : CF) (s : CSea) (i : Int) : Prop := ∃ dJ : Nat → Value, (∀ t, Loose (dJ t)) ∧ GoE Tryz.prog B c0 H00 1 (headC 8 44 (([1, 3] : List Nat).zip (lshort_v0 s i)) dJ lshort_t0) (headH (lshort_o0 s i)) (2 + (lshort_o0 s i).length) []
noncomputable def lshort_p0 (B : Lo) (s : CSea) (i : Int) (dJ0 : Nat → Value) : List Prop := [ltq i (↑s.courses.length : Int) = true] ++ ([] : List Prop)
noncomputable def lshort_q0 (s : CSea) (i : Int) (dJ0 : Nat → Value) : ScriptT := [(4, hvT)]
noncomputable def lshort_p1 (B : Lo) (s : CSea) (i : Int) (dJ0 : Nat → Value) : List Prop := [i = (↑i.toNat : Int) ∧ Int.toNat i < List.length s.courses ∧ Array.extract (rowL slI2 s.courses) (Int.toNat i * TypeInfo.size Tryz.t23) (Int.toNat i * TypeInfo.size Tryz.t23 + TypeInfo.size Tryz.t23) = #[slT (List.length (List.getD s.courses i.toNat default)) (rowL encI (List.getD s.courses i.toNat default))], ltq i 8 = true] ++ lshort_p0 B s i dJ0
noncomputable def lshort_q1 (s : CSea) (i : Int) (dJ0 : Nat → Value) : ScriptT := lshort_q0 s i dJ0 ++ [(7, hvT), (12, HintT.tidx i.toNat #[slT (List.length (List.getD s.courses i.toNat default)) (rowL encI (List.getD s.courses i.toNat default))])]
set_option maxRecDepth 100000 in
theorem lshort_s0 (B : Lo) (s : CSea) (i : Int) (dJ0 : Nat → Value) : endT (srunT Tryz.prog (okFn Tryz.prog) J0 B 14 1 (headC 8 44 (([1, 3] : List Nat).zip (lshort_v0 s i)) dJ0 lshort_t0) (headH (lshort_o0 s i)) (2 + (lshort_o0 s i).length)
    (lshort_q1 s i dJ0 ++ [(15, hvT)]) 0 [] []) [] = some (Value.bool false,
    [ltq 14 (↑(List.length (List.getD s.courses i.toNat default)) : Int) = true] ++ lshort_p1 B s i dJ0) := by kernel_rfl
set_option maxRecDepth 100000 in
theorem lshort_s1 (B : Lo) (s : CSea) (i : Int) (dJ0 : Nat → Value) : landM (srunT Tryz.prog (okFn Tryz.prog) J0 B 14 1 (headC 8 44 (([1, 3] : List Nat).zip (lshort_v0 s i)) dJ0 lshort_t0) (headH (lshort_o0 s i)) (2 + (lshort_o0 s i).length)
    (lshort_q1 s i dJ0 ++ [(15, hvF), (17, hvI (i + 1))]) 0 [] []) [1, 3] [(2, KS.auto)] [] = some ⟨8, 44, lshort_t0, [], .run, none, lshort_v0 s (i + 1), lshort_o0 s (i + 1),
    [wq (i + 1) = i + 1, ltq 14 (↑(List.length (List.getD s.courses i.toNat default)) : Int) = false] ++ lshort_p1 B s i dJ0⟩ := by kernel_rfl
noncomputable def lshort_p2 (B : Lo) (s : CSea) (i : Int) (dJ0 : Nat → Value) : List Prop := [ltq i 8 = false] ++ lshort_p0 B s i dJ0
noncomputable def lshort_q2 (s : CSea) (i : Int) (dJ0 : Nat → Value) : ScriptT := lshort_q0 s i dJ0 ++ [(7, hvF)]
noncomputable def lshort_p3 (B : Lo) (s : CSea) (i : Int) (dJ0 : Nat → Value) : List Prop := [(!ltq 8 (↑s.courses.length : Int)) = true] ++ lshort_p2 B s i dJ0
noncomputable def lshort_q3 (s : CSea) (i : Int) (dJ0 : Nat → Value) : ScriptT := lshort_q2 s i dJ0 ++ [(12, hvT)]
noncomputable def lshort_p4 (B : Lo) (s : CSea) (i : Int) (dJ0 : Nat → Value) : List Prop := [(!ltq 10 (↑s.stars.length : Int)) = true] ++ lshort_p3 B s i dJ0
noncomputable def lshort_q4 (s : CSea) (i : Int) (dJ0 : Nat → Value) : ScriptT := lshort_q3 s i dJ0 ++ [(17, hvT)]
noncomputable def lshort_p5 (B : Lo) (s : CSea) (i : Int) (dJ0 : Nat → Value) : List Prop := [(!ltq 5 (↑s.boats.length : Int)) = true] ++ lshort_p4 B s i dJ0
noncomputable def lshort_q5 (s : CSea) (i : Int) (dJ0 : Nat → Value) : ScriptT := lshort_q4 s i dJ0 ++ [(23, hvT)]
set_option maxRecDepth 100000 in
theorem lshort_s2 (B : Lo) (s : CSea) (i : Int) (dJ0 : Nat → Value) : endT (srunT Tryz.prog (okFn Tryz.prog) J0 B 9 1 (headC 8 44 (([1, 3] : List Nat).zip (lshort_v0 s i)) dJ0 lshort_t0) (headH (lshort_o0 s i)) (2 + (lshort_o0 s i).length)
    (lshort_q5 s i dJ0 ++ [(29, hvT)]) 0 [] []) [] = some (Value.bool true,
    [(!ltq 14 (↑s.roads.length : Int)) = true] ++ lshort_p5 B s i dJ0) := by kernel_rfl
set_option maxRecDepth 100000 in
theorem lshort_s3 (B : Lo) (s : CSea) (i : Int) (dJ0 : Nat → Value) : endT (srunT Tryz.prog (okFn Tryz.prog) J0 B 9 1 (headC 8 44 (([1, 3] : List Nat).zip (lshort_v0 s i)) dJ0 lshort_t0) (headH (lshort_o0 s i)) (2 + (lshort_o0 s i).length)
    (lshort_q5 s i dJ0 ++ [(29, hvF)]) 0 [] []) [] = some (Value.bool false,
    [(!ltq 14 (↑s.roads.length : Int)) = false] ++ lshort_p5 B s i dJ0) := by kernel_rfl
set_option maxRecDepth 100000 in
theorem lshort_s4 (B : Lo) (s : CSea) (i : Int) (dJ0 : Nat → Value) : endT (srunT Tryz.prog (okFn Tryz.prog) J0 B 9 1 (headC 8 44 (([1, 3] : List Nat).zip (lshort_v0 s i)) dJ0 lshort_t0) (headH (lshort_o0 s i)) (2 + (lshort_o0 s i).length)
    (lshort_q4 s i dJ0 ++ [(23, hvF)]) 0 [] []) [] = some (Value.bool false,
    [(!ltq 5 (↑s.boats.length : Int)) = false] ++ lshort_p4 B s i dJ0) := by kernel_rfl
set_option maxRecDepth 100000 in
theorem lshort_s5 (B : Lo) (s : CSea) (i : Int) (dJ0 : Nat → Value) : endT (srunT Tryz.prog (okFn Tryz.prog) J0 B 9 1 (headC 8 44 (([1, 3] : List Nat).zip (lshort_v0 s i)) dJ0 lshort_t0) (headH (lshort_o0 s i)) (2 + (lshort_o0 s i).length)
    (lshort_q3 s i dJ0 ++ [(17, hvF)]) 0 [] []) [] = some (Value.bool false,
    [(!ltq 10 (↑s.stars.length : Int)) = false] ++ lshort_p3 B s i dJ0) := by kernel_rfl
set_option maxRecDepth 100000 in
theorem lshort_s6 (B : Lo) (s : CSea) (i : Int) (dJ0 : Nat → Value) : endT (srunT Tryz.prog (okFn Tryz.prog) J0 B 9 1 (headC 8 44 (([1, 3] : List Nat).zip (lshort_v0 s i)) dJ0 lshort_t0) (headH (lshort_o0 s i)) (2 + (lshort_o0 s i).length)
    (lshort_q2 s i dJ0 ++ [(12, hvF)]) 0 [] []) [] = some (Value.bool false,
    [(!ltq 8 (↑s.courses.length : Int)) = false] ++ lshort_p2 B s i dJ0) := by kernel_rfl
noncomputable def lshort_p6 (B : Lo) (s : CSea) (i : Int) (dJ0 : Nat → Value) : List Prop := [ltq i (↑s.courses.length : Int) = false] ++ ([] : List Prop)
noncomputable def lshort_q6 (s : CSea) (i : Int) (dJ0 : Nat → Value) : ScriptT := [(4, hvF)]
noncomputable def lshort_p7 (B : Lo) (s : CSea) (i : Int) (dJ0 : Nat → Value) : List Prop := [(!ltq 8 (↑s.courses.length : Int)) = true] ++ lshort_p6 B s i dJ0
noncomputable def lshort_q7 (s : CSea) (i : Int) (dJ0 : Nat → Value) : ScriptT := lshort_q6 s i dJ0 ++ [(12, hvT)]
noncomputable def lshort_p8 (B : Lo) (s : CSea) (i : Int) (dJ0 : Nat → Value) : List Prop := [(!ltq 10 (↑s.stars.length : Int)) = true] ++ lshort_p7 B s i dJ0
noncomputable def lshort_q8 (s : CSea) (i : Int) (dJ0 : Nat → Value) : ScriptT := lshort_q7 s i dJ0 ++ [(17, hvT)]
noncomputable def lshort_p9 (B : Lo) (s : CSea) (i : Int) (dJ0 : Nat → Value) : List Prop := [(!ltq 5 (↑s.boats.length : Int)) = true] ++ lshort_p8 B s i dJ0
noncomputable def lshort_q9 (s : CSea) (i : Int) (dJ0 : Nat → Value) : ScriptT := lshort_q8 s i dJ0 ++ [(23, hvT)]
set_option maxRecDepth 100000 in
theorem lshort_s7 (B : Lo) (s : CSea) (i : Int) (dJ0 : Nat → Value) : endT (srunT Tryz.prog (okFn Tryz.prog) J0 B 9 1 (headC 8 44 (([1, 3] : List Nat).zip (lshort_v0 s i)) dJ0 lshort_t0) (headH (lshort_o0 s i)) (2 + (lshort_o0 s i).length)
    (lshort_q9 s i dJ0 ++ [(29, hvT)]) 0 [] []) [] = some (Value.bool true,
    [(!ltq 14 (↑s.roads.length : Int)) = true] ++ lshort_p9 B s i dJ0) := by kernel_rfl
set_option maxRecDepth 100000 in
theorem lshort_s8 (B : Lo) (s : CSea) (i : Int) (dJ0 : Nat → Value) : endT (srunT Tryz.prog (okFn Tryz.prog) J0 B 9 1 (headC 8 44 (([1, 3] : List Nat).zip (lshort_v0 s i)) dJ0 lshort_t0) (headH (lshort_o0 s i)) (2 + (lshort_o0 s i).length)
    (lshort_q9 s i dJ0 ++ [(29, hvF)]) 0 [] []) [] = some (Value.bool false,
    [(!ltq 14 (↑s.roads.length : Int)) = false] ++ lshort_p9 B s i dJ0) := by kernel_rfl
set_option maxRecDepth 100000 in
theorem lshort_s9 (B : Lo) (s : CSea) (i : Int) (dJ0 : Nat → Value) : endT (srunT Tryz.prog (okFn Tryz.prog) J0 B 9 1 (headC 8 44 (([1, 3] : List Nat).zip (lshort_v0 s i)) dJ0 lshort_t0) (headH (lshort_o0 s i)) (2 + (lshort_o0 s i).length)
    (lshort_q8 s i dJ0 ++ [(23, hvF)]) 0 [] []) [] = some (Value.bool false,
    [(!ltq 5 (↑s.boats.length : Int)) = false] ++ lshort_p8 B s i dJ0) := by kernel_rfl
set_option maxRecDepth 100000 in
theorem lshort_s10 (B : Lo) (s : CSea) (i : Int) (dJ0 : Nat → Value) : endT (srunT Tryz.prog (okFn Tryz.prog) J0 B 9 1 (headC 8 44 (([1, 3] : List Nat).zip (lshort_v0 s i)) dJ0 lshort_t0) (headH (lshort_o0 s i)) (2 + (lshort_o0 s i).length)
    (lshort_q7 s i dJ0 ++ [(17, hvF)]) 0 [] []) [] = some (Value.bool false,
    [(!ltq 10 (↑s.stars.length : Int)) = false] ++ lshort_p7 B s i dJ0) := by kernel_rfl
set_option maxRecDepth 100000 in
theorem lshort_s11 (B : Lo) (s : CSea) (i : Int) (dJ0 : Nat → Value) : endT (srunT Tryz.prog (okFn Tryz.prog) J0 B 9 1 (headC 8 44 (([1, 3] : List Nat).zip (lshort_v0 s i)) dJ0 lshort_t0) (headH (lshort_o0 s i)) (2 + (lshort_o0 s i).length)
    (lshort_q6 s i dJ0 ++ [(12, hvF)]) 0 [] []) [] = some (Value.bool false,
    [(!ltq 8 (↑s.courses.length : Int)) = false] ++ lshort_p6 B s i dJ0) := by kernel_rfl
set_option maxRecDepth 100000 in
theorem lshort_s12 (B : Lo) (s : CSea) : landM (srunT Tryz.prog (okFn Tryz.prog) J0 B 7 1 (entryC Tryz.prog 8 44 (([.agg (encSea s).toArray]).map (pushT 0 4))) H00 1
    [] 0 [] []) [1, 3] [(1, KS.auto)] [] = some ⟨8, 44, lshort_t0, [], .run, none, lshort_v0 s (0), lshort_o0 s (0),
    []⟩ := by kernel_rfl
set_option maxHeartbeats 4000000 in
theorem lshort_ls (s : CSea)  (hfacts : s.courses.length ≤ 9223372036854775807) {B : Lo} (hJ : ∀ w, B.has w → J0 w) {c0 : CF} : ∀ m : Nat, (∀ (i : Int), s.courses.length - i.toNat = m → ∀ (i0 : 0 ≤ i), lshort_h0 B c0 s i → EndsT Tryz.prog B c0 (.bool (shortI s i && (decide ((s.courses.length : Int) ≤ 8) && (decide ((s.stars.length : Int) ≤ 10) && (decide ((s.boats.length : Int) ≤ 5) && decide ((s.roads.length : Int) ≤ 14))))))) := by
  intro m0
  induction m0 using Nat.strongRecOn with
  | _ m0 ih0 =>
    intro i hm0 i0 ⟨dJ0, hdJ0, hg0⟩
    by_cases q0 : (i : Int) < ((↑s.courses.length : Int))
    ·
      have hp0 : AllP (lshort_p0 B s i dJ0) := by
        exact ⟨(ltq_t q0), trivial⟩
      by_cases q1 : (i : Int) < (8)
      ·
        have hp1 : AllP (lshort_p1 B s i dJ0) := by
          try have s2 := shortI_cons (s := s) q0 q1
          try have s2 := shortI_nil (s := s) (i := i) (by omega)
          try have s3 := decide_eq_false (show ¬ ((s.courses.getD i.toNat default).length : Int) ≤ 14 by omega)
          try have s3 := decide_eq_true (show ((s.courses.getD i.toNat default).length : Int) ≤ 14 by omega)
          exact ⟨⟨by omega, by omega, (rowL_extract (z := 1) (fun _ => rfl) (by first | omega | (rw [List.length_set]; omega) | (rw [List.length_replicate]; omega)))⟩, ⟨(ltq_t q1), hp0⟩⟩
        by_cases q2 : (14 : Int) < ((↑(List.length (List.getD s.courses i.toNat default)) : Int))
        ·
          try have s2 := shortI_cons (s := s) q0 q1
          try have s2 := shortI_nil (s := s) (i := i) (by omega)
          try have s3 := decide_eq_false (show ¬ ((s.courses.getD i.toNat default).length : Int) ≤ 14 by omega)
          try have s3 := decide_eq_true (show ((s.courses.getD i.toNat default).length : Int) ≤ 14 by omega)
          exact (GoE.endsT okF hJ mixed_ok hg0 (lshort_s0 B s i dJ0)
            ⟨(ltq_t q2), hp1⟩).cast (by first | rfl | (rw [s2, s3]; rfl) | (rw [s2, s3, Bool.true_and]; done) | (rw [s2]; simp [*]; done) | (rw [s2]; simp; omega) | (rw [s2]; simp_all; done) | (rw [s2]; simp_all; omega))
        ·
          try have s2 := shortI_cons (s := s) q0 q1
          try have s2 := shortI_nil (s := s) (i := i) (by omega)
          try have s3 := decide_eq_false (show ¬ ((s.courses.getD i.toNat default).length : Int) ≤ 14 by omega)
          try have s3 := decide_eq_true (show ((s.courses.getD i.toNat default).length : Int) ≤ 14 by omega)
          exact ((ih0 _ (by omega)) (i + 1) rfl (by first | with_reducible assumption | omega | (simp_all; done))
            (hg0.landM okF hJ mixed_ok (lshort_s1 B s i dJ0)
            ⟨(wq_in (by omega) (by omega)), ⟨(ltq_f (Int.not_lt.1 q2)), hp1⟩⟩ (by kernel_rfl) (by kernel_rfl))).cast (by first | rfl | (rw [s2, s3]; rfl) | (rw [s2, s3, Bool.true_and]; done) | (rw [s2]; simp [*]; done) | (rw [s2]; simp; omega) | (rw [s2]; simp_all; done) | (rw [s2]; simp_all; omega))
      ·
        have hp2 : AllP (lshort_p2 B s i dJ0) := by
          exact ⟨(ltq_f (Int.not_lt.1 q1)), hp0⟩
        by_cases q2 : ((↑s.courses.length : Int) : Int) ≤ (8)
        ·
          have hp3 : AllP (lshort_p3 B s i dJ0) := by
            exact ⟨(nltq_t q2), hp2⟩
          by_cases q3 : ((↑s.stars.length : Int) : Int) ≤ (10)
          ·
            have hp4 : AllP (lshort_p4 B s i dJ0) := by
              exact ⟨(nltq_t q3), hp3⟩
            by_cases q4 : ((↑s.boats.length : Int) : Int) ≤ (5)
            ·
              have hp5 : AllP (lshort_p5 B s i dJ0) := by
                exact ⟨(nltq_t q4), hp4⟩
              by_cases q5 : ((↑s.roads.length : Int) : Int) ≤ (14)
              ·
                try have s2 := shortI_cons (s := s) q0 q1
                try have s2 := shortI_nil (s := s) (i := i) (by omega)
                try have s3 := decide_eq_false (show ¬ ((s.courses.getD i.toNat default).length : Int) ≤ 14 by omega)
                try have s3 := decide_eq_true (show ((s.courses.getD i.toNat default).length : Int) ≤ 14 by omega)
                exact (GoE.endsT okF hJ mixed_ok hg0 (lshort_s2 B s i dJ0)
                  ⟨(nltq_t q5), hp5⟩).cast (by first | rfl | (rw [s2, s3]; rfl) | (rw [s2, s3, Bool.true_and]; done) | (rw [s2]; simp [*]; done) | (rw [s2]; simp; omega) | (rw [s2]; simp_all; done) | (rw [s2]; simp_all; omega))
              ·
                try have s2 := shortI_cons (s := s) q0 q1
                try have s2 := shortI_nil (s := s) (i := i) (by omega)
                try have s3 := decide_eq_false (show ¬ ((s.courses.getD i.toNat default).length : Int) ≤ 14 by omega)
                try have s3 := decide_eq_true (show ((s.courses.getD i.toNat default).length : Int) ≤ 14 by omega)
                exact (GoE.endsT okF hJ mixed_ok hg0 (lshort_s3 B s i dJ0)
                  ⟨(nltq_f (Int.not_le.1 q5)), hp5⟩).cast (by first | rfl | (rw [s2, s3]; rfl) | (rw [s2, s3, Bool.true_and]; done) | (rw [s2]; simp [*]; done) | (rw [s2]; simp; omega) | (rw [s2]; simp_all; done) | (rw [s2]; simp_all; omega))
            ·
              try have s2 := shortI_cons (s := s) q0 q1
              try have s2 := shortI_nil (s := s) (i := i) (by omega)
              try have s3 := decide_eq_false (show ¬ ((s.courses.getD i.toNat default).length : Int) ≤ 14 by omega)
              try have s3 := decide_eq_true (show ((s.courses.getD i.toNat default).length : Int) ≤ 14 by omega)
              exact (GoE.endsT okF hJ mixed_ok hg0 (lshort_s4 B s i dJ0)
                ⟨(nltq_f (Int.not_le.1 q4)), hp4⟩).cast (by first | rfl | (rw [s2, s3]; rfl) | (rw [s2, s3, Bool.true_and]; done) | (rw [s2]; simp [*]; done) | (rw [s2]; simp; omega) | (rw [s2]; simp_all; done) | (rw [s2]; simp_all; omega))
          ·
            try have s2 := shortI_cons (s := s) q0 q1
            try have s2 := shortI_nil (s := s) (i := i) (by omega)
            try have s3 := decide_eq_false (show ¬ ((s.courses.getD i.toNat default).length : Int) ≤ 14 by omega)
            try have s3 := decide_eq_true (show ((s.courses.getD i.toNat default).length : Int) ≤ 14 by omega)
            exact (GoE.endsT okF hJ mixed_ok hg0 (lshort_s5 B s i dJ0)
              ⟨(nltq_f (Int.not_le.1 q3)), hp3⟩).cast (by first | rfl | (rw [s2, s3]; rfl) | (rw [s2, s3, Bool.true_and]; done) | (rw [s2]; simp [*]; done) | (rw [s2]; simp; omega) | (rw [s2]; simp_all; done) | (rw [s2]; simp_all; omega))
        ·
          try have s2 := shortI_cons (s := s) q0 q1
          try have s2 := shortI_nil (s := s) (i := i) (by omega)
          try have s3 := decide_eq_false (show ¬ ((s.courses.getD i.toNat default).length : Int) ≤ 14 by omega)
          try have s3 := decide_eq_true (show ((s.courses.getD i.toNat default).length : Int) ≤ 14 by omega)
          exact (GoE.endsT okF hJ mixed_ok hg0 (lshort_s6 B s i dJ0)
            ⟨(nltq_f (Int.not_le.1 q2)), hp2⟩).cast (by first | rfl | (rw [s2, s3]; rfl) | (rw [s2, s3, Bool.true_and]; done) | (rw [s2]; simp [*]; done) | (rw [s2]; simp; omega) | (rw [s2]; simp_all; done) | (rw [s2]; simp_all; omega))
    ·
      have hp6 : AllP (lshort_p6 B s i dJ0) := by
        exact ⟨(ltq_f (Int.not_lt.1 q0)), trivial⟩
      by_cases q1 : ((↑s.courses.length : Int) : Int) ≤ (8)
      ·
        have hp7 : AllP (lshort_p7 B s i dJ0) := by
          exact ⟨(nltq_t q1), hp6⟩
        by_cases q2 : ((↑s.stars.length : Int) : Int) ≤ (10)
        ·
          have hp8 : AllP (lshort_p8 B s i dJ0) := by
            exact ⟨(nltq_t q2), hp7⟩
          by_cases q3 : ((↑s.boats.length : Int) : Int) ≤ (5)
          ·
            have hp9 : AllP (lshort_p9 B s i dJ0) := by
              exact ⟨(nltq_t q3), hp8⟩
            by_cases q4 : ((↑s.roads.length : Int) : Int) ≤ (14)
            ·
              try have s2 := shortI_cons (s := s) q0 q1
              try have s2 := shortI_nil (s := s) (i := i) (by omega)
              try have s3 := decide_eq_false (show ¬ ((s.courses.getD i.toNat default).length : Int) ≤ 14 by omega)
              try have s3 := decide_eq_true (show ((s.courses.getD i.toNat default).length : Int) ≤ 14 by omega)
              exact (GoE.endsT okF hJ mixed_ok hg0 (lshort_s7 B s i dJ0)
                ⟨(nltq_t q4), hp9⟩).cast (by first | rfl | (rw [s2, s3]; rfl) | (rw [s2, s3, Bool.true_and]; done) | (rw [s2]; simp [*]; done) | (rw [s2]; simp; omega) | (rw [s2]; simp_all; done) | (rw [s2]; simp_all; omega))
            ·
              try have s2 := shortI_cons (s := s) q0 q1
              try have s2 := shortI_nil (s := s) (i := i) (by omega)
              try have s3 := decide_eq_false (show ¬ ((s.courses.getD i.toNat default).length : Int) ≤ 14 by omega)
              try have s3 := decide_eq_true (show ((s.courses.getD i.toNat default).length : Int) ≤ 14 by omega)
              exact (GoE.endsT okF hJ mixed_ok hg0 (lshort_s8 B s i dJ0)
                ⟨(nltq_f (Int.not_le.1 q4)), hp9⟩).cast (by first | rfl | (rw [s2, s3]; rfl) | (rw [s2, s3, Bool.true_and]; done) | (rw [s2]; simp [*]; done) | (rw [s2]; simp; omega) | (rw [s2]; simp_all; done) | (rw [s2]; simp_all; omega))
          ·
            try have s2 := shortI_cons (s := s) q0 q1
            try have s2 := shortI_nil (s := s) (i := i) (by omega)
            try have s3 := decide_eq_false (show ¬ ((s.courses.getD i.toNat default).length : Int) ≤ 14 by omega)
            try have s3 := decide_eq_true (show ((s.courses.getD i.toNat default).length : Int) ≤ 14 by omega)
            exact (GoE.endsT okF hJ mixed_ok hg0 (lshort_s9 B s i dJ0)
              ⟨(nltq_f (Int.not_le.1 q3)), hp8⟩).cast (by first | rfl | (rw [s2, s3]; rfl) | (rw [s2, s3, Bool.true_and]; done) | (rw [s2]; simp [*]; done) | (rw [s2]; simp; omega) | (rw [s2]; simp_all; done) | (rw [s2]; simp_all; omega))
        ·
          try have s2 := shortI_cons (s := s) q0 q1
          try have s2 := shortI_nil (s := s) (i := i) (by omega)
          try have s3 := decide_eq_false (show ¬ ((s.courses.getD i.toNat default).length : Int) ≤ 14 by omega)
          try have s3 := decide_eq_true (show ((s.courses.getD i.toNat default).length : Int) ≤ 14 by omega)
          exact (GoE.endsT okF hJ mixed_ok hg0 (lshort_s10 B s i dJ0)
            ⟨(nltq_f (Int.not_le.1 q2)), hp7⟩).cast (by first | rfl | (rw [s2, s3]; rfl) | (rw [s2, s3, Bool.true_and]; done) | (rw [s2]; simp [*]; done) | (rw [s2]; simp; omega) | (rw [s2]; simp_all; done) | (rw [s2]; simp_all; omega))
      ·
        try have s2 := shortI_cons (s := s) q0 q1
        try have s2 := shortI_nil (s := s) (i := i) (by omega)
        try have s3 := decide_eq_false (show ¬ ((s.courses.getD i.toNat default).length : Int) ≤ 14 by omega)
        try have s3 := decide_eq_true (show ((s.courses.getD i.toNat default).length : Int) ≤ 14 by omega)
        exact (GoE.endsT okF hJ mixed_ok hg0 (lshort_s11 B s i dJ0)
          ⟨(nltq_f (Int.not_le.1 q1)), hp6⟩).cast (by first | rfl | (rw [s2, s3]; rfl) | (rw [s2, s3, Bool.true_and]; done) | (rw [s2]; simp [*]; done) | (rw [s2]; simp; omega) | (rw [s2]; simp_all; done) | (rw [s2]; simp_all; omega))
set_option maxHeartbeats 4000000 in
theorem lshort_e (s : CSea)  (hfacts : s.courses.length ≤ 9223372036854775807) {B : Lo} (hJ : ∀ w, B.has w → J0 w) : EndsT Tryz.prog B (entryC Tryz.prog 8 44 (([.agg (encSea s).toArray]).map (pushT 0 4))) (.bool (shortB s)) := by
  exact ((lshort_ls s hfacts hJ _) (0) rfl (by first | with_reducible assumption | omega | (simp_all; done))
    (GoE.start.landM okF hJ mixed_ok (lshort_s12 B s)
    trivial (by kernel_rfl) (by kernel_rfl))).cast (by first | rfl | (simp [*]; done) | (simp_all []; done) | (simp_all []; omega))
theorem lshort (s : CSea)  : PureC Tryz.prog J0 8 #[.agg (encSea s).toArray] (.bool (shortB s)) :=
  pureC_ofF (ts := [.agg (encSea s).toArray]) (s.courses.length ≤ 9223372036854775807) (fun _ _ ht => ht.ln2 (i := 0) (j := 2) rfl rfl) J0_st (c0 := entryC Tryz.prog 8 44 (([.agg (encSea s).toArray]).map (pushT 0 4))) (by kernel_rfl) (by kernel_rfl) fun hfacts B hJ => lshort_e s  hfacts hJ
noncomputable def lasked_z0 (s : CSea) : Array Value := #[Value.int IntKind.i64 s.cells, Value.int IntKind.i64 s.start, slT s.courses.length (rowL slI2 s.courses), slT s.stars.length (rowL encI s.stars), slT s.boats.length (rowL encI s.boats), slT s.roads.length (rowL encI s.roads)]
set_option maxRecDepth 100000 in
theorem lasked_s0 (B : Lo) (s : CSea) (l : List Hour) : endT (srunT Tryz.prog (okFn Tryz.prog) J0 B 10 1 (entryC Tryz.prog 14 17 (([.agg (encSea s).toArray, slH l]).map (pushT 0 4))) H00 1
    [(4, hvT)] 0 [] []) [] = some (Value.int IntKind.i64 3,
    [ltq 12 (↑l.length : Int) = true]) := by kernel_rfl
noncomputable def lasked_p0 (B : Lo) (s : CSea) (l : List Hour) : List Prop := [ltq 12 (↑l.length : Int) = false] ++ ([] : List Prop)
noncomputable def lasked_q0 (s : CSea) (l : List Hour) : ScriptT := [(4, hvF)]
noncomputable def lasked_p1 (B : Lo) (s : CSea) (l : List Hour) : List Prop := [AllP [] ∧ PureC Tryz.prog J0 13 #[Value.agg (lasked_z0 s)] (Value.bool true)] ++ lasked_p0 B s l
noncomputable def lasked_q1 (s : CSea) (l : List Hour) : ScriptT := lasked_q0 s l ++ [(6, HintT.pure (Value.bool true) [])]
set_option maxRecDepth 100000 in
theorem lasked_s1 (B : Lo) (s : CSea) (l : List Hour) : endT (srunT Tryz.prog (okFn Tryz.prog) J0 B 16 1 (entryC Tryz.prog 14 17 (([.agg (encSea s).toArray, slH l]).map (pushT 0 4))) H00 1
    (lasked_q1 s l ++ [(11, HintT.pure (Value.bool true) [])]) 0 [] []) [] = some (Value.int IntKind.i64 0,
    [AllP [] ∧ PureC Tryz.prog J0 37 #[Value.agg (lasked_z0 s), slT l.length (rowL encHour l)] (Value.bool true)] ++ lasked_p1 B s l) := by kernel_rfl
set_option maxRecDepth 100000 in
theorem lasked_s2 (B : Lo) (s : CSea) (l : List Hour) : endT (srunT Tryz.prog (okFn Tryz.prog) J0 B 15 1 (entryC Tryz.prog 14 17 (([.agg (encSea s).toArray, slH l]).map (pushT 0 4))) H00 1
    (lasked_q1 s l ++ [(11, HintT.pure (Value.bool false) [])]) 0 [] []) [] = some (Value.int IntKind.i64 2,
    [AllP [] ∧ PureC Tryz.prog J0 37 #[Value.agg (lasked_z0 s), slT l.length (rowL encHour l)] (Value.bool false)] ++ lasked_p1 B s l) := by kernel_rfl
set_option maxRecDepth 100000 in
theorem lasked_s3 (B : Lo) (s : CSea) (l : List Hour) : endT (srunT Tryz.prog (okFn Tryz.prog) J0 B 15 1 (entryC Tryz.prog 14 17 (([.agg (encSea s).toArray, slH l]).map (pushT 0 4))) H00 1
    (lasked_q0 s l ++ [(6, HintT.pure (Value.bool false) [])]) 0 [] []) [] = some (Value.int IntKind.i64 2,
    [AllP [] ∧ PureC Tryz.prog J0 13 #[Value.agg (lasked_z0 s)] (Value.bool false)] ++ lasked_p0 B s l) := by kernel_rfl
set_option maxHeartbeats 4000000 in
theorem lasked_e (s : CSea) (l : List Hour)  (hfacts : l.length ≤ 9223372036854775807) {B : Lo} (hJ : ∀ w, B.has w → J0 w) : EndsT Tryz.prog B (entryC Tryz.prog 14 17 (([.agg (encSea s).toArray, slH l]).map (pushT 0 4))) (.int .i64 (if decide ((12 : Int) < l.length) = true then 3 else if (seaB s && logB s l) = true then 0 else 2)) := by
  by_cases q0 : (12 : Int) < ((↑l.length : Int))
  ·
    exact (GoE.endsT okF hJ mixed_ok GoE.start (lasked_s0 B s l)
      ⟨(ltq_t q0), trivial⟩).cast (by first | rfl | (simp [*]; done) | (simp_all; done))
  ·
    have hp0 : AllP (lasked_p0 B s l) := by
      exact ⟨(ltq_f (Int.not_lt.1 q0)), trivial⟩
    cases q1 : seaB s with
    | true =>
      have hp1 : AllP (lasked_p1 B s l) := by
        exact ⟨⟨trivial, (by have t_ := rSea (s); rw [q1] at t_; exact t_)⟩, hp0⟩
      cases q2 : logB s l with
      | true =>
        exact (GoE.endsT okF hJ mixed_ok GoE.start (lasked_s1 B s l)
          ⟨⟨trivial, (by have t_ := rLog (s) (l); rw [q2] at t_; exact t_)⟩, hp1⟩).cast (by first | rfl | (simp [*]; done) | (simp_all; done))
      | false =>
        exact (GoE.endsT okF hJ mixed_ok GoE.start (lasked_s2 B s l)
          ⟨⟨trivial, (by have t_ := rLog (s) (l); rw [q2] at t_; exact t_)⟩, hp1⟩).cast (by first | rfl | (simp [*]; done) | (simp_all; done))
    | false =>
      exact (GoE.endsT okF hJ mixed_ok GoE.start (lasked_s3 B s l)
        ⟨⟨trivial, (by have t_ := rSea (s); rw [q1] at t_; exact t_)⟩, hp0⟩).cast (by first | rfl | (simp [*]; done) | (simp_all; done))
theorem lasked (s : CSea) (l : List Hour)  : PureC Tryz.prog J0 14 #[.agg (encSea s).toArray, slH l] (.int .i64 (if decide ((12 : Int) < l.length) = true then 3 else if (seaB s && logB s l) = true then 0 else 2)) :=
  pureC_ofF (ts := [.agg (encSea s).toArray, slH l]) (l.length ≤ 9223372036854775807) (fun _ _ ht => ht.ln (i := 1) rfl) J0_st (c0 := entryC Tryz.prog 14 17 (([.agg (encSea s).toArray, slH l]).map (pushT 0 4))) (by kernel_rfl) (by kernel_rfl) fun hfacts B hJ => lasked_e s l  hfacts hJ
end Go.Proofs.YtiaaikkmipmhnaaGreatDoor

namespace Go.Proofs.YtiaaikkmipmhnaaGreatDoor
open Go Go.CE Go.RowKit
def shHour : Sh := shS [.int, .int]
def shSea : Sh := shS [.int, .int, .slice (.slice .int), .slice .int, .slice .int, .slice .int]
theorem dec_hour {cs : List Value} (h : shHour.ok cs) : ∃ s : Hour, cs = encHour s := by
  obtain ⟨_, _, rfl, ⟨a, _, rfl⟩, _, _, rfl, ⟨b, _, rfl⟩, rfl⟩ := h
  exact ⟨⟨a, b⟩, rfl⟩
theorem dec_ints {cs : List Value} (h : Sh.ok (.slice .int) cs) : ∃ xs : List Int, cs = slI2 xs := sh_slice (fun _ => sh_int) h
theorem arg_log {v : Value} (h : Sh.arg (.slice shHour) v) : ∃ l : List Hour, v = slH l := by
  obtain ⟨xs, hx⟩ := sh_slice (fun _ => dec_hour) (show Sh.ok (.slice shHour) [v] from h)
  exact ⟨xs, by simpa using hx⟩
theorem arg_sea {v : Value} (h : shSea.arg v) : ∃ s : CSea, v = .agg (encSea s).toArray := by
  obtain ⟨cs, rfl, h⟩ := h
  obtain ⟨_, _, rfl, ⟨a, _, rfl⟩, _, _, rfl, ⟨b, _, rfl⟩, _, _, rfl, h3, _, _, rfl, h4, _, _, rfl, h5, _, _, rfl, h6, rfl⟩ := h
  obtain ⟨xs, rfl⟩ := sh_slice (fun _ => dec_ints) h3
  obtain ⟨ys, rfl⟩ := dec_ints h4
  obtain ⟨zs, rfl⟩ := dec_ints h5
  obtain ⟨ws, rfl⟩ := dec_ints h6
  exact ⟨⟨a, b, xs, ys, zs, ws⟩, rfl⟩
end Go.Proofs.YtiaaikkmipmhnaaGreatDoor

namespace Go.Proofs.YtiaaikkmipmhnaaGreatDoor
open Go Go.CE Go.RowKit
def whF (s : CSea) : List Hour → Int → List Int
  | [], fr => [fr]
  | h :: l, fr => fr :: whF s l (aftI s h fr)
def whL (s : CSea) (l : List Hour) : List Int := whF s l s.start
theorem whF_len {s : CSea} : ∀ {l : List Hour} {fr : Int}, (whF s l fr).length = l.length + 1
  | [], _ => rfl
  | h :: l, fr => by simp [whF, whF_len (l := l)]
theorem whF_0 {s : CSea} {l : List Hour} {fr : Int} : (whF s l fr).getD 0 default = fr := by cases l <;> rfl
theorem whF_next {s : CSea} : ∀ {l : List Hour} {fr : Int} {k : Nat}, k < l.length → (whF s l fr).getD (k + 1) default = aftI s (l.getD k default) ((whF s l fr).getD k default)
  | [], _, _, h => by simp at h
  | x :: l, fr, k, h => by
    cases k with
    | zero =>
      show (whF s l (aftI s x fr)).getD 0 default = _
      rw [whF_0]; rfl
    | succ k =>
      show (whF s l (aftI s x fr)).getD (k + 1) default = _
      rw [whF_next (l := l) (by simpa using h)]; rfl
theorem whF_in {s : CSea} (hs : seaB s = true) : ∀ {l : List Hour} {fr : Int}, logB s l = true → 0 ≤ fr → fr ≤ topI s.cells → ∀ x ∈ whF s l fr, 0 ≤ x ∧ x ≤ topI s.cells
  | [], fr, _, h0, h1, x, hx => by
    simp only [whF, List.mem_cons, List.not_mem_nil, or_false] at hx
    rw [hx]; exact ⟨h0, h1⟩
  | h :: l, fr, hl, h0, h1, x, hx => by
    simp only [logB, List.all_cons, Bool.and_eq_true] at hl
    simp only [whF, List.mem_cons] at hx
    rcases hx with rfl | hx
    · exact ⟨h0, h1⟩
    · have ha := aft_top hs hl.1 h0 h1
      exact whF_in hs (l := l) hl.2 ha.1 ha.2 x hx
theorem whL_len {s : CSea} {l : List Hour} : (whL s l).length = l.length + 1 := whF_len
theorem whL_get {s : CSea} (hs : seaB s = true) {l : List Hour} (hl : logB s l = true) {i : Int} (h0 : 0 ≤ i) (h : i ≤ l.length) : 0 ≤ (whL s l).getD i.toNat default ∧ (whL s l).getD i.toNat default ≤ topI s.cells := by
  have hsf := sea_facts hs
  exact whF_in hs hl (by omega) hsf.2.1.2 _ (getD_mem h0 (by rw [whF_len]; omega))
theorem take_getD {l : List Int} {n : Nat} {i : Int} (h : i.toNat < n) : (l.take n).getD i.toNat default = l.getD i.toNat default := by
  simp [List.getD_eq_getElem?_getD, List.getElem?_take_of_lt h]
theorem whL_snoc {s : CSea} {l : List Hour} {ys : List Int} {i : Int} (h0 : 0 ≤ i) (h : i < l.length) (hy : ys = (whL s l).take (i + 1).toNat) : ys ++ [aftI s (l.getD i.toNat default) (ys.getD i.toNat default)] = (whL s l).take (i + 1 + 1).toNat := by
  rw [take_snoc (xs := whL s l) (i := i + 1) (by omega) (by rw [whL_len]; omega), ← hy, hy, take_getD (by omega), ← hy]
  congr 2
  have := whF_next (s := s) (fr := s.start) (k := i.toNat) (l := l) (by omega)
  rw [show (i + 1).toNat = i.toNat + 1 by omega]
  exact this.symm
theorem whL_one {s : CSea} {l : List Hour} : [s.start] = (whL s l).take (0 + 1 : Int).toNat := by cases l <;> rfl
theorem whL_all {s : CSea} {l : List Hour} {ys : List Int} {i : Int} (h : l.length ≤ i) (hy : ys = (whL s l).take (i + 1).toNat) : ys = whL s l := by
  rw [hy, List.take_of_length_le (by rw [whL_len]; omega)]
theorem row_len {β : Type} {e : β → List Value} {ys zs : List β} {n : Nat} (h : ys = zs) (hn : n = zs.length) : slT n (rowL e ys) = slT zs.length (rowL e zs) := by subst h hn; rfl
def pwhere_v0 (s : CSea) (l : List Hour) (i : Int) (ys : List Int) (yn : Nat) : List Value := [pA 2 0, .slice (some ⟨3, 0, none⟩) yn 1, topV 1 (slT l.length (rowL encHour l)), Value.int IntKind.i64 (↑l.length : Int), .int .i64 i]
def pwhere_o0 (s : CSea) (l : List Hour) (i : Int) (ys : List Int) (yn : Nat) : List Obj := [Obj.cells #[Value.int IntKind.i64 s.cells, Value.int IntKind.i64 s.start, topV 1 (slT s.courses.length (rowL slI2 s.courses)), topV 1 (slT s.stars.length (rowL encI s.stars)), topV 1 (slT s.boats.length (rowL encI s.boats)), topV 1 (slT s.roads.length (rowL encI s.roads)), topV 1 (slT l.length (rowL encHour l))] 66, .cells (rowL encI ys) 79 (0, 0)]
noncomputable def pwhere_t0 : List Item := ([.code [1, 1, 0, 1, 0, 0], .inLoop [1, 1, 0, 1, 0, 0], .inBlock 0, .code [1, 1, 1]]).map (it (bodyOf Tryz.prog 78))
def pwhere_h0 (B : Lo) (c0 : CF) (s : CSea) (l : List Hour) (i : Int) (ys : List Int) (yn : Nat) : Prop := ∃ dJ : Nat → Value, (∀ t, Loose (dJ t)) ∧ GoE Tryz.prog B c0 H00 1 (headC 78 30 (([1, 3, 11, 12, 13] : List Nat).zip (pwhere_v0 s l i ys yn)) dJ pwhere_t0) (headH (pwhere_o0 s l i ys yn)) (2 + (pwhere_o0 s l i ys yn).length) []
noncomputable def pwhere_z0 (l : List Hour) (i : Int) : Array Value := #[Value.int IntKind.i64 (Hour.course (List.getD l i.toNat default)), Value.int IntKind.i64 (Hour.star (List.getD l i.toNat default))]
set_option maxRecDepth 100000 in
theorem pwhere_s0 (B : Lo) (s : CSea) (l : List Hour) (i : Int) (ys : List Int) (yn : Nat) (dJ0 : Nat → Value) : landM (srunT Tryz.prog (okFn Tryz.prog) J0 B 13 1 (headC 78 30 (([1, 3, 11, 12, 13] : List Nat).zip (pwhere_v0 s l i ys yn)) dJ0 pwhere_t0) (headH (pwhere_o0 s l i ys yn)) (2 + (pwhere_o0 s l i ys yn).length)
    [(0, hvT), (2, HintT.tidx i.toNat (pwhere_z0 l i)), (12, HintT.old (Hint.idx i.toNat)), (13, HintT.old (Hint.ld (Value.int IntKind.i64 (List.getD ys i.toNat default)))), (14, HintT.pure (Value.int IntKind.i64 (aftI s (List.getD l i.toNat default) (List.getD ys i.toNat default))) []), (16, HintT.old (Hint.app (rowL encI (ys ++ [aftI s (List.getD l i.toNat default) (List.getD ys i.toNat default)])))), (18, hvI (i + 1))] 0 [] []) [1, 3, 11, 12, 13] [(2, KS.auto), (6, KS.cells [] (rowL encI (ys ++ [aftI s (List.getD l i.toNat default) (List.getD ys i.toNat default)])))] [] = some ⟨78, 30, pwhere_t0, [], .run, none, pwhere_v0 s l (i + 1) (ys ++ [aftI s (List.getD l i.toNat default) (List.getD ys i.toNat default)]) (yn + 1), pwhere_o0 s l (i + 1) (ys ++ [aftI s (List.getD l i.toNat default) (List.getD ys i.toNat default)]) (yn + 1),
    [CellsM 1 [] (rowL encI (ys ++ [aftI s (List.getD l i.toNat default) (List.getD ys i.toNat default)])) (rowL encI (ys ++ [aftI s (List.getD l i.toNat default) (List.getD ys i.toNat default)])), wq (i + 1) = i + 1, Array.size (rowL encI ys) = yn * (0 + 1) ∧ yn + 1 ≤ maxLen ∧ (yn + 1) * 8 ≤ 140737488355328 ∧ rowL encI ys ++ #[Value.int IntKind.i64 (aftI s (List.getD l i.toNat default) (List.getD ys i.toNat default))] = rowL encI (ys ++ [aftI s (List.getD l i.toNat default) (List.getD ys i.toNat default)]), AllP [] ∧ PureC Tryz.prog J0 61 #[Value.agg #[Value.int IntKind.i64 s.cells, Value.int IntKind.i64 s.start, slT s.courses.length (rowL slI2 s.courses), slT s.stars.length (rowL encI s.stars), slT s.boats.length (rowL encI s.boats), slT s.roads.length (rowL encI s.roads), slT l.length (rowL encHour l)], Value.agg (pwhere_z0 l i), Value.int IntKind.i64 (List.getD ys i.toNat default)] (Value.int IntKind.i64 (aftI s (List.getD l i.toNat default) (List.getD ys i.toNat default))), (rowL encI ys)[0 + Int.toNat i * 1]? = some (Value.int IntKind.i64 (List.getD ys i.toNat default)), i = (↑i.toNat : Int) ∧ Int.toNat i < yn, i = (↑i.toNat : Int) ∧ Int.toNat i < List.length l ∧ Array.extract (rowL encHour l) (Int.toNat i * TypeInfo.size Tryz.t49) (Int.toNat i * TypeInfo.size Tryz.t49 + TypeInfo.size Tryz.t49) = (pwhere_z0 l i), ltq i (↑l.length : Int) = true]⟩ := by kernel_rfl
set_option maxRecDepth 100000 in
theorem pwhere_s1 (B : Lo) (s : CSea) (l : List Hour) (i : Int) (ys : List Int) (yn : Nat) (dJ0 : Nat → Value) : endT (srunT Tryz.prog (okFn Tryz.prog) J0 B 9 1 (headC 78 30 (([1, 3, 11, 12, 13] : List Nat).zip (pwhere_v0 s l i ys yn)) dJ0 pwhere_t0) (headH (pwhere_o0 s l i ys yn)) (2 + (pwhere_o0 s l i ys yn).length)
    [(0, hvF)] 0 [] []) [{ k := 3, rs := [], cs := rowL encI ys }] = some (slT yn (Fz.cs { k := 3, rs := [], cs := rowL encI ys }),
    [CellsT (Fz.rs { k := 3, rs := [], cs := rowL encI ys }) (rowL encI ys) (Fz.cs { k := 3, rs := [], cs := rowL encI ys }), ltq i (↑l.length : Int) = false]) := by kernel_rfl
set_option maxRecDepth 100000 in
theorem pwhere_s2 (B : Lo) (s : CSea) (l : List Hour) : landM (srunT Tryz.prog (okFn Tryz.prog) J0 B 9 1 (entryC Tryz.prog 78 30 (([.agg (encLogged s l).toArray]).map (pushT 0 4))) H00 1
    [] 0 [] []) [1, 3, 11, 12, 13] [(1, KS.auto), (2, KS.cells [] (rowL encI [s.start]))] [] = some ⟨78, 30, pwhere_t0, [], .run, none, pwhere_v0 s l (0) ([s.start]) (1), pwhere_o0 s l (0) ([s.start]) (1),
    [CellsM 1 [] (#[Value.int IntKind.i64 s.start]) (rowL encI [s.start])]⟩ := by kernel_rfl
set_option maxHeartbeats 4000000 in
theorem pwhere_ls (s : CSea) (l : List Hour) (hs : seaB s = true) (hl : logB s l = true) (hn : (l.length : Int) ≤ 12) {B : Lo} (hJ : ∀ w, B.has w → J0 w) {c0 : CF} : ∀ m : Nat, (∀ (i : Int) (ys : List Int) (yn : Nat), l.length - i.toNat = m → ∀ (i0 : 0 ≤ i) (i1 : i ≤ l.length) (hyn : yn = ys.length) (hy : ys = (whL s l).take (i + 1).toNat), pwhere_h0 B c0 s l i ys yn → EndsT Tryz.prog B c0 (slI (whL s l))) := by
  intro m0
  induction m0 using Nat.strongRecOn with
  | _ m0 ih0 =>
    intro i ys yn hm0 i0 i1 hyn hy ⟨dJ0, hdJ0, hg0⟩
    have hsf := sea_facts hs
    have hwl := whL_len (s := s) (l := l)
    have hsf := sea_facts hs
    have hwl := whL_len (s := s) (l := l)
    have hyl : (ys.length : Int) = i + 1 := by rw [hy, List.length_take, hwl]; omega
    by_cases q0 : (i : Int) < ((↑l.length : Int))
    ·
      try have hhi := log_in hl i0 q0
      try have hyk : ys.getD i.toNat default = (whL s l).getD i.toNat default := by rw [hy]; exact take_getD (by omega)
      try have hwk := whL_get hs hl i0 (by omega)
      exact ((ih0 _ (by omega)) (i + 1) (ys ++ [aftI s (List.getD l i.toNat default) (List.getD ys i.toNat default)]) (yn + 1) rfl (by first | with_reducible assumption | omega | rfl | exact whL_one | exact whL_snoc i0 q0 hy | (simp only [List.length_append, List.length_cons, List.length_nil]; omega) | (simp_all; done)) (by first | with_reducible assumption | omega | rfl | exact whL_one | exact whL_snoc i0 q0 hy | (simp only [List.length_append, List.length_cons, List.length_nil]; omega) | (simp_all; done)) (by first | with_reducible assumption | omega | rfl | exact whL_one | exact whL_snoc i0 q0 hy | (simp only [List.length_append, List.length_cons, List.length_nil]; omega) | (simp_all; done)) (by first | with_reducible assumption | omega | rfl | exact whL_one | exact whL_snoc i0 q0 hy | (simp only [List.length_append, List.length_cons, List.length_nil]; omega) | (simp_all; done))
        (hg0.landM okF hJ mixed_ok (pwhere_s0 B s l i ys yn dJ0)
        ⟨(cellsM_simple (rowL_simple (fun x => List.all_eq_true.1 (by first | rfl | (cases x <;> rfl))))), ⟨(wq_in (by omega) (by omega)), ⟨⟨(by first | rfl | exact rowL_size (z := 1) (fun _ => rfl) | (rw [rowL_size (z := 1) (fun _ => rfl)]; first | omega | (simp; omega) | (simp_all; done))), (by unfold maxLen; omega), by omega, by first | exact rowL_push | exact rowL_pushC rfl⟩, ⟨⟨trivial, pafter (s) (l) (List.getD l i.toNat default) (List.getD ys i.toNat default) (by first | with_reducible assumption | omega | simp_all) (by first | with_reducible assumption | omega | simp_all) (by first | with_reducible assumption | omega | simp_all) (by first | with_reducible assumption | omega | simp_all)⟩, ⟨(by exact rowL_ld0 (z := 1) (j := 0) (k := Int.toNat i) (fun _ => rfl) (by first | omega | (rw [List.length_set]; omega) | (rw [List.length_replicate]; omega)) rfl), ⟨⟨by omega, by omega⟩, ⟨⟨by omega, by omega, (rowL_extract (z := 2) (fun _ => rfl) (by first | omega | (rw [List.length_set]; omega) | (rw [List.length_replicate]; omega)))⟩, ⟨(ltq_t q0), trivial⟩⟩⟩⟩⟩⟩⟩⟩ (by kernel_rfl) (by kernel_rfl))).cast (by first | rfl | exact row_len (whL_all (by omega) hy) (by rw [hyn, whL_all (by omega) hy]))
    ·
      try have hhi := log_in hl i0 q0
      try have hyk : ys.getD i.toNat default = (whL s l).getD i.toNat default := by rw [hy]; exact take_getD (by omega)
      try have hwk := whL_get hs hl i0 (by omega)
      exact (GoE.endsT okF hJ mixed_ok hg0 (pwhere_s1 B s l i ys yn dJ0)
        ⟨(rowL_cellsT (fun x => List.all_eq_true.1 (by first | rfl | (cases x <;> rfl)))), ⟨(ltq_f (Int.not_lt.1 q0)), trivial⟩⟩).cast (by first | rfl | exact row_len (whL_all (by omega) hy) (by rw [hyn, whL_all (by omega) hy]))
set_option maxHeartbeats 4000000 in
theorem pwhere_e (s : CSea) (l : List Hour) (hs : seaB s = true) (hl : logB s l = true) (hn : (l.length : Int) ≤ 12) {B : Lo} (hJ : ∀ w, B.has w → J0 w) : EndsT Tryz.prog B (entryC Tryz.prog 78 30 (([.agg (encLogged s l).toArray]).map (pushT 0 4))) (slI (whL s l)) := by
  have hsf := sea_facts hs
  have hwl := whL_len (s := s) (l := l)
  exact ((pwhere_ls s l hs hl hn hJ _) (0) ([s.start]) (1) rfl (by first | with_reducible assumption | omega | rfl | exact whL_one | exact whL_snoc i0 q0 hy | (simp only [List.length_append, List.length_cons, List.length_nil]; omega) | (simp_all; done)) (by first | with_reducible assumption | omega | rfl | exact whL_one | exact whL_snoc i0 q0 hy | (simp only [List.length_append, List.length_cons, List.length_nil]; omega) | (simp_all; done)) (by first | with_reducible assumption | omega | rfl | exact whL_one | exact whL_snoc i0 q0 hy | (simp only [List.length_append, List.length_cons, List.length_nil]; omega) | (simp_all; done)) (by first | with_reducible assumption | omega | rfl | exact whL_one | exact whL_snoc i0 q0 hy | (simp only [List.length_append, List.length_cons, List.length_nil]; omega) | (simp_all; done))
    (GoE.start.landM okF hJ mixed_ok (pwhere_s2 B s l)
    ⟨(cellsM_lit (by kernel_rfl)), trivial⟩ (by kernel_rfl) (by kernel_rfl))).cast (by first | rfl | (exact row_len (whL_all (by omega) hy) (by omega)) | (simp; done))
theorem pwhere (s : CSea) (l : List Hour) (hs : seaB s = true) (hl : logB s l = true) (hn : (l.length : Int) ≤ 12) : PureC Tryz.prog J0 78 #[.agg (encLogged s l).toArray] (slI (whL s l)) :=
  pureC_of (ts := [.agg (encLogged s l).toArray]) J0_st (c0 := entryC Tryz.prog 78 30 (([.agg (encLogged s l).toArray]).map (pushT 0 4))) (by kernel_rfl) (by kernel_rfl) fun B hJ => pwhere_e s l hs hl hn hJ
end Go.Proofs.YtiaaikkmipmhnaaGreatDoor

namespace Go.Proofs.YtiaaikkmipmhnaaGreatDoor
open Go Go.CE Go.RowKit
def endI (s : CSea) (l : List Hour) : Int := (whL s l).getD l.length default
set_option maxRecDepth 100000 in
theorem pend_s0 (B : Lo) (s : CSea) (l : List Hour) : endT (srunT Tryz.prog (okFn Tryz.prog) J0 B 6 1 (entryC Tryz.prog 63 10 (([.agg (encLogged s l).toArray]).map (pushT 0 4))) H00 1
    [(3, HintT.pure (slT (List.length (whL s l)) (rowL encI (whL s l))) []), (7, HintT.tidx l.length #[Value.int IntKind.i64 (List.getD (whL s l) l.length default)])] 0 [] []) [] = some (Value.int IntKind.i64 (List.getD (whL s l) l.length default),
    [(↑l.length : Int) = (↑l.length : Int) ∧ List.length l < List.length (whL s l) ∧ Array.extract (rowL encI (whL s l)) (List.length l * TypeInfo.size Tryz.t79) (List.length l * TypeInfo.size Tryz.t79 + TypeInfo.size Tryz.t79) = #[Value.int IntKind.i64 (List.getD (whL s l) l.length default)], AllP [] ∧ PureC Tryz.prog J0 78 #[Value.agg #[Value.int IntKind.i64 s.cells, Value.int IntKind.i64 s.start, slT s.courses.length (rowL slI2 s.courses), slT s.stars.length (rowL encI s.stars), slT s.boats.length (rowL encI s.boats), slT s.roads.length (rowL encI s.roads), slT l.length (rowL encHour l)]] (slT (List.length (whL s l)) (rowL encI (whL s l)))]) := by kernel_rfl
set_option maxHeartbeats 4000000 in
theorem pend_e (s : CSea) (l : List Hour) (hs : seaB s = true) (hl : logB s l = true) (hn : (l.length : Int) ≤ 12) {B : Lo} (hJ : ∀ w, B.has w → J0 w) : EndsT Tryz.prog B (entryC Tryz.prog 63 10 (([.agg (encLogged s l).toArray]).map (pushT 0 4))) (.int .i64 (endI s l)) := by
  have hwl := whL_len (s := s) (l := l)
  exact (GoE.endsT okF hJ mixed_ok GoE.start (pend_s0 B s l)
    ⟨⟨by omega, by omega, (rowL_extract (z := 1) (fun _ => rfl) (by first | omega | (rw [List.length_set]; omega) | (rw [List.length_replicate]; omega)))⟩, ⟨⟨trivial, pwhere (s) (l) (by first | with_reducible assumption | omega | simp_all) (by first | with_reducible assumption | omega | simp_all) (by first | with_reducible assumption | omega | simp_all)⟩, trivial⟩⟩).cast (by first | rfl | (simp [endI, *]; done) | (simp_all [endI]; done) | (simp_all [endI]; omega))
theorem pend (s : CSea) (l : List Hour) (hs : seaB s = true) (hl : logB s l = true) (hn : (l.length : Int) ≤ 12) : PureC Tryz.prog J0 63 #[.agg (encLogged s l).toArray] (.int .i64 (endI s l)) :=
  pureC_of (ts := [.agg (encLogged s l).toArray]) J0_st (c0 := entryC Tryz.prog 63 10 (([.agg (encLogged s l).toArray]).map (pushT 0 4))) (by kernel_rfl) (by kernel_rfl) fun B hJ => pend_e s l hs hl hn hJ
noncomputable def pisPossible_p0 (B : Lo) (s : CSea) (l : List Hour) : List Prop := [AllP [] ∧ PureC Tryz.prog J0 63 #[Value.agg #[Value.int IntKind.i64 s.cells, Value.int IntKind.i64 s.start, slT s.courses.length (rowL slI2 s.courses), slT s.stars.length (rowL encI s.stars), slT s.boats.length (rowL encI s.boats), slT s.roads.length (rowL encI s.roads), slT l.length (rowL encHour l)]] (Value.int IntKind.i64 (endI s l))] ++ ([] : List Prop)
noncomputable def pisPossible_q0 (s : CSea) (l : List Hour) : ScriptT := [(3, HintT.pure (Value.int IntKind.i64 (endI s l)) [])]
set_option maxRecDepth 100000 in
theorem pisPossible_s0 (B : Lo) (s : CSea) (l : List Hour) : endT (srunT Tryz.prog (okFn Tryz.prog) J0 B 6 1 (entryC Tryz.prog 47 6 (([.agg (encLogged s l).toArray]).map (pushT 0 4))) H00 1
    (pisPossible_q0 s l ++ [(4, hvT)]) 0 [] []) [] = some (Value.bool true,
    [(!eqq (endI s l) 0) = true] ++ pisPossible_p0 B s l) := by kernel_rfl
set_option maxRecDepth 100000 in
theorem pisPossible_s1 (B : Lo) (s : CSea) (l : List Hour) : endT (srunT Tryz.prog (okFn Tryz.prog) J0 B 6 1 (entryC Tryz.prog 47 6 (([.agg (encLogged s l).toArray]).map (pushT 0 4))) H00 1
    (pisPossible_q0 s l ++ [(4, hvF)]) 0 [] []) [] = some (Value.bool false,
    [(!eqq (endI s l) 0) = false] ++ pisPossible_p0 B s l) := by kernel_rfl
set_option maxHeartbeats 4000000 in
theorem pisPossible_e (s : CSea) (l : List Hour) (hs : seaB s = true) (hl : logB s l = true) (hn : (l.length : Int) ≤ 12) {B : Lo} (hJ : ∀ w, B.has w → J0 w) : EndsT Tryz.prog B (entryC Tryz.prog 47 6 (([.agg (encLogged s l).toArray]).map (pushT 0 4))) (.bool (!decide (endI s l = 0))) := by
  have hp0 : AllP (pisPossible_p0 B s l) := by
    exact ⟨⟨trivial, pend (s) (l) (by first | with_reducible assumption | omega | simp_all) (by first | with_reducible assumption | omega | simp_all) (by first | with_reducible assumption | omega | simp_all)⟩, trivial⟩
  by_cases q0 : (endI s l : Int) ≠ (0)
  ·
    exact (GoE.endsT okF hJ mixed_ok GoE.start (pisPossible_s0 B s l)
      ⟨(neqq_t q0), hp0⟩).cast (by first | rfl | (simp [*]; done) | (simp_all []; done) | (simp_all []; omega))
  ·
    exact (GoE.endsT okF hJ mixed_ok GoE.start (pisPossible_s1 B s l)
      ⟨(neqq_f (Decidable.of_not_not q0)), hp0⟩).cast (by first | rfl | (simp [*]; done) | (simp_all []; done) | (simp_all []; omega))
theorem pisPossible (s : CSea) (l : List Hour) (hs : seaB s = true) (hl : logB s l = true) (hn : (l.length : Int) ≤ 12) : PureC Tryz.prog J0 47 #[.agg (encLogged s l).toArray] (.bool (!decide (endI s l = 0))) :=
  pureC_of (ts := [.agg (encLogged s l).toArray]) J0_st (c0 := entryC Tryz.prog 47 6 (([.agg (encLogged s l).toArray]).map (pushT 0 4))) (by kernel_rfl) (by kernel_rfl) fun B hJ => pisPossible_e s l hs hl hn hJ
def psets0_v0 (s : CSea) (l : List Hour) (i : Int) : List Value := [.slice none 0 0, topV 1 (slT (List.length (whL s l)) (rowL encI (whL s l))), Value.int IntKind.i64 (↑(List.length (whL s l)) : Int), .int .i64 i]
def psets0_o0 (s : CSea) (l : List Hour) (i : Int) : List Obj := []
noncomputable def psets0_t0 : List Item := ([.code [1, 1, 1, 0, 1, 0, 0], .inLoop [1, 1, 1, 0, 1, 0, 0], .inBlock 0, .code [1, 1, 1, 1]]).map (it (bodyOf Tryz.prog 58))
def psets0_h0 (B : Lo) (c0 : CF) (s : CSea) (l : List Hour) (i : Int) : Prop := ∃ dJ : Nat → Value, (∀ t, Loose (dJ t)) ∧ GoE Tryz.prog B c0 H00 1 (headC 58 29 (([6, 17, 18, 19] : List Nat).zip (psets0_v0 s l i)) dJ psets0_t0) (headH (psets0_o0 s l i)) (2 + (psets0_o0 s l i).length) []
def psets0_v1 (s : CSea) (l : List Hour) (i : Int) (out : List Int) (out_n : Nat) : List Value := [.slice (some ⟨2, 0, none⟩) out_n 1, topV 1 (slT (List.length (whL s l)) (rowL encI (whL s l))), Value.int IntKind.i64 (↑(List.length (whL s l)) : Int), .int .i64 i]
def psets0_o1 (s : CSea) (l : List Hour) (i : Int) (out : List Int) (out_n : Nat) : List Obj := [Obj.cells (rowL encI out) 3 (0, 0)]
noncomputable def psets0_t1 : List Item := ([.code [1, 1, 1, 0, 1, 0, 0], .inLoop [1, 1, 1, 0, 1, 0, 0], .inBlock 0, .code [1, 1, 1, 1]]).map (it (bodyOf Tryz.prog 58))
def psets0_h1 (B : Lo) (c0 : CF) (s : CSea) (l : List Hour) (i : Int) (out : List Int) (out_n : Nat) : Prop := ∃ dJ : Nat → Value, (∀ t, Loose (dJ t)) ∧ GoE Tryz.prog B c0 H00 1 (headC 58 29 (([6, 17, 18, 19] : List Nat).zip (psets0_v1 s l i out out_n)) dJ psets0_t1) (headH (psets0_o1 s l i out out_n)) (2 + (psets0_o1 s l i out out_n).length) []
set_option maxRecDepth 100000 in
theorem psets0_s0 (B : Lo) (s : CSea) (l : List Hour) (i : Int) (dJ0 : Nat → Value) : landM (srunT Tryz.prog (okFn Tryz.prog) J0 B 13 1 (headC 58 29 (([6, 17, 18, 19] : List Nat).zip (psets0_v0 s l i)) dJ0 psets0_t0) (headH (psets0_o0 s l i)) (2 + (psets0_o0 s l i).length)
    [(0, hvT), (1, HintT.tidx i.toNat #[Value.int IntKind.i64 (List.getD (whL s l) i.toNat default)]), (9, hvI (i + 1))] 0 [] []) [6, 17, 18, 19] [(3, KS.cells [] (rowL encI [List.getD (whL s l) i.toNat default]))] [] = some ⟨58, 29, psets0_t1, [], .run, none, psets0_v1 s l (i + 1) ([List.getD (whL s l) i.toNat default]) (1), psets0_o1 s l (i + 1) ([List.getD (whL s l) i.toNat default]) (1),
    [CellsM 1 [] (#[Value.int IntKind.i64 (List.getD (whL s l) i.toNat default)]) (rowL encI [List.getD (whL s l) i.toNat default]), wq (i + 1) = i + 1, i = (↑i.toNat : Int) ∧ Int.toNat i < List.length (whL s l) ∧ Array.extract (rowL encI (whL s l)) (Int.toNat i * TypeInfo.size Tryz.t79) (Int.toNat i * TypeInfo.size Tryz.t79 + TypeInfo.size Tryz.t79) = #[Value.int IntKind.i64 (List.getD (whL s l) i.toNat default)], ltq i (↑(List.length (whL s l)) : Int) = true]⟩ := by kernel_rfl
set_option maxRecDepth 100000 in
theorem psets0_s1 (B : Lo) (s : CSea) (l : List Hour) (i : Int) (dJ0 : Nat → Value) : endT (srunT Tryz.prog (okFn Tryz.prog) J0 B 9 1 (headC 58 29 (([6, 17, 18, 19] : List Nat).zip (psets0_v0 s l i)) dJ0 psets0_t0) (headH (psets0_o0 s l i)) (2 + (psets0_o0 s l i).length)
    [(0, hvF)] 0 [] []) [] = some (slT 0 #[],
    [ltq i (↑(List.length (whL s l)) : Int) = false]) := by kernel_rfl
set_option maxRecDepth 100000 in
theorem psets0_s2 (B : Lo) (s : CSea) (l : List Hour) (i : Int) (out : List Int) (out_n : Nat) (dJ0 : Nat → Value) : landM (srunT Tryz.prog (okFn Tryz.prog) J0 B 13 1 (headC 58 29 (([6, 17, 18, 19] : List Nat).zip (psets0_v1 s l i out out_n)) dJ0 psets0_t1) (headH (psets0_o1 s l i out out_n)) (2 + (psets0_o1 s l i out out_n).length)
    [(0, hvT), (1, HintT.tidx i.toNat #[Value.int IntKind.i64 (List.getD (whL s l) i.toNat default)]), (7, HintT.old (Hint.app (rowL encI (out ++ [List.getD (whL s l) i.toNat default])))), (9, hvI (i + 1))] 0 [] []) [6, 17, 18, 19] [(4, KS.cells [] (rowL encI (out ++ [List.getD (whL s l) i.toNat default])))] [] = some ⟨58, 29, psets0_t1, [], .run, none, psets0_v1 s l (i + 1) (out ++ [List.getD (whL s l) i.toNat default]) (out_n + 1), psets0_o1 s l (i + 1) (out ++ [List.getD (whL s l) i.toNat default]) (out_n + 1),
    [CellsM 1 [] (rowL encI (out ++ [List.getD (whL s l) i.toNat default])) (rowL encI (out ++ [List.getD (whL s l) i.toNat default])), wq (i + 1) = i + 1, Array.size (rowL encI out) = out_n * (0 + 1) ∧ out_n + 1 ≤ maxLen ∧ (out_n + 1) * 8 ≤ 140737488355328 ∧ rowL encI out ++ #[Value.int IntKind.i64 (List.getD (whL s l) i.toNat default)] = rowL encI (out ++ [List.getD (whL s l) i.toNat default]), i = (↑i.toNat : Int) ∧ Int.toNat i < List.length (whL s l) ∧ Array.extract (rowL encI (whL s l)) (Int.toNat i * TypeInfo.size Tryz.t79) (Int.toNat i * TypeInfo.size Tryz.t79 + TypeInfo.size Tryz.t79) = #[Value.int IntKind.i64 (List.getD (whL s l) i.toNat default)], ltq i (↑(List.length (whL s l)) : Int) = true]⟩ := by kernel_rfl
set_option maxRecDepth 100000 in
theorem psets0_s3 (B : Lo) (s : CSea) (l : List Hour) (i : Int) (out : List Int) (out_n : Nat) (dJ0 : Nat → Value) : endT (srunT Tryz.prog (okFn Tryz.prog) J0 B 9 1 (headC 58 29 (([6, 17, 18, 19] : List Nat).zip (psets0_v1 s l i out out_n)) dJ0 psets0_t1) (headH (psets0_o1 s l i out out_n)) (2 + (psets0_o1 s l i out out_n).length)
    [(0, hvF)] 0 [] []) [{ k := 2, rs := [], cs := rowL encI out }] = some (slT out_n (Fz.cs { k := 2, rs := [], cs := rowL encI out }),
    [CellsT (Fz.rs { k := 2, rs := [], cs := rowL encI out }) (rowL encI out) (Fz.cs { k := 2, rs := [], cs := rowL encI out }), ltq i (↑(List.length (whL s l)) : Int) = false]) := by kernel_rfl
set_option maxRecDepth 100000 in
theorem psets0_s4 (B : Lo) (s : CSea) (l : List Hour) : landM (srunT Tryz.prog (okFn Tryz.prog) J0 B 11 1 (entryC Tryz.prog 58 29 (([.agg (encLogged s l).toArray, .int .i64 0]).map (pushT 0 4))) H00 1
    [(13, HintT.pure (slT (List.length (whL s l)) (rowL encI (whL s l))) [])] 0 [] []) [6, 17, 18, 19] [] [] = some ⟨58, 29, psets0_t0, [], .run, none, psets0_v0 s l (0), psets0_o0 s l (0),
    [AllP [] ∧ PureC Tryz.prog J0 78 #[Value.agg #[Value.int IntKind.i64 s.cells, Value.int IntKind.i64 s.start, slT s.courses.length (rowL slI2 s.courses), slT s.stars.length (rowL encI s.stars), slT s.boats.length (rowL encI s.boats), slT s.roads.length (rowL encI s.roads), slT l.length (rowL encHour l)]] (slT (List.length (whL s l)) (rowL encI (whL s l)))]⟩ := by kernel_rfl
set_option maxHeartbeats 4000000 in
theorem psets0_ls (s : CSea) (l : List Hour) (hs : seaB s = true) (hl : logB s l = true) (hn : (l.length : Int) ≤ 12) {B : Lo} (hJ : ∀ w, B.has w → J0 w) {c0 : CF} : ∀ m : Nat, (∀ (i : Int), (whL s l).length - i.toNat = m → ∀ (i0 : 0 ≤ i), psets0_h0 B c0 s l i → EndsT Tryz.prog B c0 (slI (([] : List Int) ++ (whL s l).drop i.toNat))) ∧ (∀ (i : Int) (out : List Int) (out_n : Nat), (whL s l).length - i.toNat = m → ∀ (i0 : 0 ≤ i) (hout : out_n = out.length) (houtb : (out_n : Int) ≤ i), psets0_h1 B c0 s l i out out_n → EndsT Tryz.prog B c0 (slI (out ++ (whL s l).drop i.toNat))) := by
  intro m0
  induction m0 using Nat.strongRecOn with
  | _ m0 ih0 =>
    refine ⟨?_, ?_⟩
    · intro i hm0 i0 ⟨dJ0, hdJ0, hg0⟩
      have hwl := whL_len (s := s) (l := l)
      have hwl := whL_len (s := s) (l := l)
      by_cases q0 : (i : Int) < ((↑(List.length (whL s l)) : Int))
      ·
        try have s2 := drop_cons (xs := whL s l) i0 q0
        try have s2 := drop_end (xs := whL s l) (i := i) (by omega)
        exact ((ih0 _ (by omega)).2 (i + 1) ([List.getD (whL s l) i.toNat default]) (1) rfl (by first | with_reducible assumption | omega | (simp_all; done)) (by first | with_reducible assumption | omega | (simp_all; done)) (by first | with_reducible assumption | omega | (simp_all; done))
          (hg0.landM okF hJ mixed_ok (psets0_s0 B s l i dJ0)
          ⟨(cellsM_lit (by kernel_rfl)), ⟨(wq_in (by omega) (by omega)), ⟨⟨by omega, by omega, (rowL_extract (z := 1) (fun _ => rfl) (by first | omega | (rw [List.length_set]; omega) | (rw [List.length_replicate]; omega)))⟩, ⟨(ltq_t q0), trivial⟩⟩⟩⟩ (by kernel_rfl) (by kernel_rfl))).cast (by first | (rw [s2]; simp; done) | (rw [s2, List.append_nil, hout]; done) | (rw [s2]; rfl) | (rw [s2]; done))
      ·
        try have s2 := drop_cons (xs := whL s l) i0 q0
        try have s2 := drop_end (xs := whL s l) (i := i) (by omega)
        exact (GoE.endsT okF hJ mixed_ok hg0 (psets0_s1 B s l i dJ0)
          ⟨(ltq_f (Int.not_lt.1 q0)), trivial⟩).cast (by first | (rw [s2]; simp; done) | (rw [s2, List.append_nil, hout]; done) | (rw [s2]; rfl) | (rw [s2]; done))
    · intro i out out_n hm0 i0 hout houtb ⟨dJ0, hdJ0, hg0⟩
      have hwl := whL_len (s := s) (l := l)
      have hwl := whL_len (s := s) (l := l)
      by_cases q0 : (i : Int) < ((↑(List.length (whL s l)) : Int))
      ·
        try have s2 := drop_cons (xs := whL s l) i0 q0
        try have s2 := drop_end (xs := whL s l) (i := i) (by omega)
        exact ((ih0 _ (by omega)).2 (i + 1) (out ++ [List.getD (whL s l) i.toNat default]) (out_n + 1) rfl (by first | with_reducible assumption | omega | (simp_all; done)) (by first | with_reducible assumption | omega | (simp_all; done)) (by first | with_reducible assumption | omega | (simp_all; done))
          (hg0.landM okF hJ mixed_ok (psets0_s2 B s l i out out_n dJ0)
          ⟨(cellsM_simple (rowL_simple (fun x => List.all_eq_true.1 (by first | rfl | (cases x <;> rfl))))), ⟨(wq_in (by omega) (by omega)), ⟨⟨(by first | rfl | exact rowL_size (z := 1) (fun _ => rfl) | (rw [rowL_size (z := 1) (fun _ => rfl)]; first | omega | (simp; omega) | (simp_all; done))), (by unfold maxLen; omega), by omega, by first | exact rowL_push | exact rowL_pushC rfl⟩, ⟨⟨by omega, by omega, (rowL_extract (z := 1) (fun _ => rfl) (by first | omega | (rw [List.length_set]; omega) | (rw [List.length_replicate]; omega)))⟩, ⟨(ltq_t q0), trivial⟩⟩⟩⟩⟩ (by kernel_rfl) (by kernel_rfl))).cast (by first | (rw [s2]; simp; done) | (rw [s2, List.append_nil, hout]; done) | (rw [s2]; rfl) | (rw [s2]; done))
      ·
        try have s2 := drop_cons (xs := whL s l) i0 q0
        try have s2 := drop_end (xs := whL s l) (i := i) (by omega)
        exact (GoE.endsT okF hJ mixed_ok hg0 (psets0_s3 B s l i out out_n dJ0)
          ⟨(rowL_cellsT (fun x => List.all_eq_true.1 (by first | rfl | (cases x <;> rfl)))), ⟨(ltq_f (Int.not_lt.1 q0)), trivial⟩⟩).cast (by first | (rw [s2]; simp; done) | (rw [s2, List.append_nil, hout]; done) | (rw [s2]; rfl) | (rw [s2]; done))
set_option maxHeartbeats 4000000 in
theorem psets0_e (s : CSea) (l : List Hour) (hs : seaB s = true) (hl : logB s l = true) (hn : (l.length : Int) ≤ 12) {B : Lo} (hJ : ∀ w, B.has w → J0 w) : EndsT Tryz.prog B (entryC Tryz.prog 58 29 (([.agg (encLogged s l).toArray, .int .i64 0]).map (pushT 0 4))) (slI (whL s l)) := by
  have hwl := whL_len (s := s) (l := l)
  exact ((psets0_ls s l hs hl hn hJ _).1 (0) rfl (by first | with_reducible assumption | omega | (simp_all; done))
    (GoE.start.landM okF hJ mixed_ok (psets0_s4 B s l)
    ⟨⟨trivial, pwhere (s) (l) (by first | with_reducible assumption | omega | simp_all) (by first | with_reducible assumption | omega | simp_all) (by first | with_reducible assumption | omega | simp_all)⟩, trivial⟩ (by kernel_rfl) (by kernel_rfl))).cast (by first | rfl | (simp [*]; done) | (simp_all []; done) | (simp_all []; omega))
theorem psets0 (s : CSea) (l : List Hour) (hs : seaB s = true) (hl : logB s l = true) (hn : (l.length : Int) ≤ 12) : PureC Tryz.prog J0 58 #[.agg (encLogged s l).toArray, .int .i64 0] (slI (whL s l)) :=
  pureC_of (ts := [.agg (encLogged s l).toArray, .int .i64 0]) J0_st (c0 := entryC Tryz.prog 58 29 (([.agg (encLogged s l).toArray, .int .i64 0]).map (pushT 0 4))) (by kernel_rfl) (by kernel_rfl) fun B hJ => psets0_e s l hs hl hn hJ
noncomputable def pWhere_H0 (s : CSea) (l : List Hour) : Heap := [(1, Obj.cells #[Value.int IntKind.i64 s.cells, Value.int IntKind.i64 s.start, topV 0 (slT s.courses.length (rowL slI2 s.courses)), topV 0 (slT s.stars.length (rowL encI s.stars)), topV 0 (slT s.boats.length (rowL encI s.boats)), topV 0 (slT s.roads.length (rowL encI s.roads))] 25), (0, Obj.coro none)]
noncomputable def pWhere_c0 (s : CSea) (l : List Hour) : CF := ⟨34, ofList 29 [Value.agg #[Value.int IntKind.i64 s.cells, Value.int IntKind.i64 s.start, topV 0 (slT s.courses.length (rowL slI2 s.courses)), topV 0 (slT s.stars.length (rowL encI s.stars)), topV 0 (slT s.boats.length (rowL encI s.boats)), topV 0 (slT s.roads.length (rowL encI s.roads))], topV 0 (slT l.length (rowL encHour l)), Value.int IntKind.i64 0], [Item.code (bodyOf Tryz.prog 34)], [], .run, none⟩
noncomputable def pWhere_z0 (s : CSea) (l : List Hour) : Array Value := #[Value.agg #[Value.int IntKind.i64 s.cells, Value.int IntKind.i64 s.start, slT s.courses.length (rowL slI2 s.courses), slT s.stars.length (rowL encI s.stars), slT s.boats.length (rowL encI s.boats), slT s.roads.length (rowL encI s.roads)], slT l.length (rowL encHour l)]
noncomputable def pWhere_z1 (s : CSea) (l : List Hour) : Array Value := #[Value.int IntKind.i64 s.cells, Value.int IntKind.i64 s.start, slT s.courses.length (rowL slI2 s.courses), slT s.stars.length (rowL encI s.stars), slT s.boats.length (rowL encI s.boats), slT s.roads.length (rowL encI s.roads), slT l.length (rowL encHour l)]
noncomputable def pWhere_z2 (s : CSea) : Array Value := #[Value.agg #[Value.int IntKind.i64 s.cells, Value.int IntKind.i64 s.start, slT s.courses.length (rowL slI2 s.courses), slT s.stars.length (rowL encI s.stars), slT s.boats.length (rowL encI s.boats), slT s.roads.length (rowL encI s.roads)]]
set_option maxRecDepth 100000 in
theorem pWhere_s0 (B : Lo) (s : CSea) (l : List Hour) : CE.finK 2 (srunT Tryz.prog (okFn Tryz.prog) J0 B 10 2 (pWhere_c0 s l) (pWhere_H0 s l) 2
    [(4, HintT.pure (Value.bool true) [])] 0 [] []) [] [] [] = some (OO.ret (Value.tuple #[Value.slice none 0 0, Value.int IntKind.i64 3]), [], [],
    [AllP [] ∧ PureC Tryz.prog J0 41 #[slT l.length (rowL encHour l)] (Value.bool true)]) := by kernel_rfl
set_option maxRecDepth 100000 in
theorem pWhere_s1 (B : Lo) (s : CSea) (l : List Hour) : endT (srunT Tryz.prog (okFn Tryz.prog) J0 B 6 1 (entryC Tryz.prog 11 11 (([.agg (encSea s).toArray, slH l]).map (pushT 0 4))) H00 1
    [(5, HintT.call (List.range 2) (OO.ret (Value.tuple #[Value.slice none 0 0, Value.int IntKind.i64 3])) ([] ++ (2, regO) :: heapL 3 []) 3 [])] 0 [] []) [] = some (Value.tuple #[slT 0 #[], Value.int IntKind.i64 3],
    [FJ Tryz.prog B (pWhere_c0 s l) (pWhere_H0 s l) 2 (OO.ret (Value.tuple #[Value.slice none 0 0, Value.int IntKind.i64 3])) (([] ++ ((2, regO) :: heapL (2 + 1) [])) ++ pWhere_H0 s l) 3 (List.range 2) []]) := by kernel_rfl
set_option maxRecDepth 100000 in
theorem pWhere_s2 (B : Lo) (s : CSea) (l : List Hour) : CE.finK 2 (srunT Tryz.prog (okFn Tryz.prog) J0 B 22 2 (pWhere_c0 s l) (pWhere_H0 s l) 2
    [(4, HintT.pure (Value.bool false) []), (6, HintT.pure (Value.bool true) []), (11, HintT.pure (Value.bool true) []), (20, HintT.pure (Value.bool false) [])] 0 [] []) [] [] [] = some (OO.ret (Value.tuple #[Value.slice none 0 0, Value.int IntKind.i64 5]), [], [],
    [AllP [] ∧ PureC Tryz.prog J0 47 #[Value.agg (pWhere_z1 s l)] (Value.bool false), AllP [] ∧ PureC Tryz.prog J0 42 (pWhere_z0 s l) (Value.bool true), AllP [] ∧ PureC Tryz.prog J0 33 (pWhere_z2 s) (Value.bool true), AllP [] ∧ PureC Tryz.prog J0 41 #[slT l.length (rowL encHour l)] (Value.bool false)]) := by kernel_rfl
set_option maxRecDepth 100000 in
theorem pWhere_s3 (B : Lo) (s : CSea) (l : List Hour) : endT (srunT Tryz.prog (okFn Tryz.prog) J0 B 6 1 (entryC Tryz.prog 11 11 (([.agg (encSea s).toArray, slH l]).map (pushT 0 4))) H00 1
    [(5, HintT.call (List.range 2) (OO.ret (Value.tuple #[Value.slice none 0 0, Value.int IntKind.i64 5])) ([] ++ (2, regO) :: heapL 3 []) 3 [])] 0 [] []) [] = some (Value.tuple #[slT 0 #[], Value.int IntKind.i64 5],
    [FJ Tryz.prog B (pWhere_c0 s l) (pWhere_H0 s l) 2 (OO.ret (Value.tuple #[Value.slice none 0 0, Value.int IntKind.i64 5])) (([] ++ ((2, regO) :: heapL (2 + 1) [])) ++ pWhere_H0 s l) 3 (List.range 2) []]) := by kernel_rfl
set_option maxRecDepth 100000 in
theorem pWhere_s4 (B : Lo) (s : CSea) (l : List Hour) : CE.finK 2 (srunT Tryz.prog (okFn Tryz.prog) J0 B 23 2 (pWhere_c0 s l) (pWhere_H0 s l) 2
    [(4, HintT.pure (Value.bool false) []), (6, HintT.pure (Value.bool true) []), (11, HintT.pure (Value.bool true) []), (20, HintT.pure (Value.bool true) []), (24, HintT.pure (slT (List.length (whL s l)) (rowL encI (whL s l))) [])] 0 [] []) [] [] [] = some (OO.ret (Value.tuple #[topV 2 (slT (List.length (whL s l)) (rowL encI (whL s l))), Value.int IntKind.i64 0]), [], [],
    [AllP [] ∧ PureC Tryz.prog J0 58 #[Value.agg (pWhere_z1 s l), Value.int IntKind.i64 0] (slT (List.length (whL s l)) (rowL encI (whL s l))), AllP [] ∧ PureC Tryz.prog J0 47 #[Value.agg (pWhere_z1 s l)] (Value.bool true), AllP [] ∧ PureC Tryz.prog J0 42 (pWhere_z0 s l) (Value.bool true), AllP [] ∧ PureC Tryz.prog J0 33 (pWhere_z2 s) (Value.bool true), AllP [] ∧ PureC Tryz.prog J0 41 #[slT l.length (rowL encHour l)] (Value.bool false)]) := by kernel_rfl
set_option maxRecDepth 100000 in
theorem pWhere_s5 (B : Lo) (s : CSea) (l : List Hour) : endT (srunT Tryz.prog (okFn Tryz.prog) J0 B 6 1 (entryC Tryz.prog 11 11 (([.agg (encSea s).toArray, slH l]).map (pushT 0 4))) H00 1
    [(5, HintT.call (List.range 2) (OO.ret (Value.tuple #[topV 2 (slT (List.length (whL s l)) (rowL encI (whL s l))), Value.int IntKind.i64 0])) ([] ++ (2, regO) :: heapL 3 []) 3 [])] 0 [] []) [] = some (Value.tuple #[slT (List.length (whL s l)) (rowL encI (whL s l)), Value.int IntKind.i64 0],
    [FJ Tryz.prog B (pWhere_c0 s l) (pWhere_H0 s l) 2 (OO.ret (Value.tuple #[topV 2 (slT (List.length (whL s l)) (rowL encI (whL s l))), Value.int IntKind.i64 0])) (([] ++ ((2, regO) :: heapL (2 + 1) [])) ++ pWhere_H0 s l) 3 (List.range 2) []]) := by kernel_rfl
set_option maxRecDepth 100000 in
theorem pWhere_s6 (B : Lo) (s : CSea) (l : List Hour) : CE.finK 2 (srunT Tryz.prog (okFn Tryz.prog) J0 B 15 2 (pWhere_c0 s l) (pWhere_H0 s l) 2
    [(4, HintT.pure (Value.bool false) []), (6, HintT.pure (Value.bool true) []), (11, HintT.pure (Value.bool false) [])] 0 [] []) [] [] [] = some (OO.ret (Value.tuple #[Value.slice none 0 0, Value.int IntKind.i64 2]), [], [],
    [AllP [] ∧ PureC Tryz.prog J0 42 (pWhere_z0 s l) (Value.bool false), AllP [] ∧ PureC Tryz.prog J0 33 (pWhere_z2 s) (Value.bool true), AllP [] ∧ PureC Tryz.prog J0 41 #[slT l.length (rowL encHour l)] (Value.bool false)]) := by kernel_rfl
set_option maxRecDepth 100000 in
theorem pWhere_s7 (B : Lo) (s : CSea) (l : List Hour) : endT (srunT Tryz.prog (okFn Tryz.prog) J0 B 6 1 (entryC Tryz.prog 11 11 (([.agg (encSea s).toArray, slH l]).map (pushT 0 4))) H00 1
    [(5, HintT.call (List.range 2) (OO.ret (Value.tuple #[Value.slice none 0 0, Value.int IntKind.i64 2])) ([] ++ (2, regO) :: heapL 3 []) 3 [])] 0 [] []) [] = some (Value.tuple #[slT 0 #[], Value.int IntKind.i64 2],
    [FJ Tryz.prog B (pWhere_c0 s l) (pWhere_H0 s l) 2 (OO.ret (Value.tuple #[Value.slice none 0 0, Value.int IntKind.i64 2])) (([] ++ ((2, regO) :: heapL (2 + 1) [])) ++ pWhere_H0 s l) 3 (List.range 2) []]) := by kernel_rfl
set_option maxRecDepth 100000 in
theorem pWhere_s8 (B : Lo) (s : CSea) (l : List Hour) : CE.finK 2 (srunT Tryz.prog (okFn Tryz.prog) J0 B 15 2 (pWhere_c0 s l) (pWhere_H0 s l) 2
    [(4, HintT.pure (Value.bool false) []), (6, HintT.pure (Value.bool false) [])] 0 [] []) [] [] [] = some (OO.ret (Value.tuple #[Value.slice none 0 0, Value.int IntKind.i64 2]), [], [],
    [AllP [] ∧ PureC Tryz.prog J0 33 (pWhere_z2 s) (Value.bool false), AllP [] ∧ PureC Tryz.prog J0 41 #[slT l.length (rowL encHour l)] (Value.bool false)]) := by kernel_rfl
set_option maxRecDepth 100000 in
theorem pWhere_s9 (B : Lo) (s : CSea) (l : List Hour) : endT (srunT Tryz.prog (okFn Tryz.prog) J0 B 6 1 (entryC Tryz.prog 11 11 (([.agg (encSea s).toArray, slH l]).map (pushT 0 4))) H00 1
    [(5, HintT.call (List.range 2) (OO.ret (Value.tuple #[Value.slice none 0 0, Value.int IntKind.i64 2])) ([] ++ (2, regO) :: heapL 3 []) 3 [])] 0 [] []) [] = some (Value.tuple #[slT 0 #[], Value.int IntKind.i64 2],
    [FJ Tryz.prog B (pWhere_c0 s l) (pWhere_H0 s l) 2 (OO.ret (Value.tuple #[Value.slice none 0 0, Value.int IntKind.i64 2])) (([] ++ ((2, regO) :: heapL (2 + 1) [])) ++ pWhere_H0 s l) 3 (List.range 2) []]) := by kernel_rfl
set_option maxHeartbeats 4000000 in
theorem pWhere_e (s : CSea) (l : List Hour)  (hfacts : l.length ≤ 9223372036854775807) {B : Lo} (hJ : ∀ w, B.has w → J0 w) : EndsT Tryz.prog B (entryC Tryz.prog 11 11 (([.agg (encSea s).toArray, slH l]).map (pushT 0 4))) (.tuple #[if decide ((12 : Int) < l.length) = true then slI [] else if (seaB s && logB s l) = true then (if decide (endI s l = 0) = true then slI [] else slI (whL s l)) else slI [], .int .i64 (if decide ((12 : Int) < l.length) = true then 3 else if (seaB s && logB s l) = true then (if decide (endI s l = 0) = true then 5 else 0) else 2)]) := by
  cases q0 : decide (12 < (↑l.length : Int)) with
  | true =>
    have rj0 : FJ Tryz.prog B (pWhere_c0 s l) (pWhere_H0 s l) 2 (OO.ret (Value.tuple #[Value.slice none 0 0, Value.int IntKind.i64 3])) (([] ++ ((2, regO) :: heapL (2 + 1) [])) ++ pWhere_H0 s l) 3 (List.range 2) [] := by
      try have hsf := sea_facts ‹seaB s = true›
      exact FinK.fjB (GoE.finK okF hJ mixed_ok (under_all (by kernel_rfl)) (writable_of (by kernel_rfl)) ((GoE.refl (P := Tryz.prog) (B := B) (c0 := pWhere_c0 s l) (under_all (by kernel_rfl))).widen (Wf := ((([]) : List (Nat × KS)).map (·.1))) (by simp) (writable_of (by kernel_rfl))) (pWhere_s0 B s l)
        ⟨⟨trivial, (by have t_ := pisLong (l); rw [q0] at t_; exact t_)⟩, trivial⟩) (ex := []) (by kernel_rfl) (lowX_nil _)
    try have hsf := sea_facts ‹seaB s = true›
    exact (GoE.endsT okF hJ mixed_ok GoE.start (pWhere_s1 B s l)
      ⟨rj0, trivial⟩).cast (by first | rfl | (simp [*]; done) | (simp_all; done))
  | false =>
    cases q1 : seaB s with
    | true =>
      cases q2 : logB s l with
      | true =>
        cases q3 : decide (endI s l = 0) with
        | true =>
          have rj0 : FJ Tryz.prog B (pWhere_c0 s l) (pWhere_H0 s l) 2 (OO.ret (Value.tuple #[Value.slice none 0 0, Value.int IntKind.i64 5])) (([] ++ ((2, regO) :: heapL (2 + 1) [])) ++ pWhere_H0 s l) 3 (List.range 2) [] := by
            try have hsf := sea_facts ‹seaB s = true›
            exact FinK.fjB (GoE.finK okF hJ mixed_ok (under_all (by kernel_rfl)) (writable_of (by kernel_rfl)) ((GoE.refl (P := Tryz.prog) (B := B) (c0 := pWhere_c0 s l) (under_all (by kernel_rfl))).widen (Wf := ((([]) : List (Nat × KS)).map (·.1))) (by simp) (writable_of (by kernel_rfl))) (pWhere_s2 B s l)
              ⟨⟨trivial, (by have t_ := pisPossible (s) (l) (by first | with_reducible assumption | omega | simp_all) (by first | with_reducible assumption | omega | simp_all) (by first | with_reducible assumption | omega | simp_all); rw [q3] at t_; exact t_)⟩, ⟨⟨trivial, (by have t_ := pisLog (s) (l); rw [q2] at t_; exact t_)⟩, ⟨⟨trivial, (by have t_ := pisSea (s); rw [q1] at t_; exact t_)⟩, ⟨⟨trivial, (by have t_ := pisLong (l); rw [q0] at t_; exact t_)⟩, trivial⟩⟩⟩⟩) (ex := []) (by kernel_rfl) (lowX_nil _)
          try have hsf := sea_facts ‹seaB s = true›
          exact (GoE.endsT okF hJ mixed_ok GoE.start (pWhere_s3 B s l)
            ⟨rj0, trivial⟩).cast (by first | rfl | (simp [*]; done) | (simp_all; done))
        | false =>
          have rj0 : FJ Tryz.prog B (pWhere_c0 s l) (pWhere_H0 s l) 2 (OO.ret (Value.tuple #[topV 2 (slT (List.length (whL s l)) (rowL encI (whL s l))), Value.int IntKind.i64 0])) (([] ++ ((2, regO) :: heapL (2 + 1) [])) ++ pWhere_H0 s l) 3 (List.range 2) [] := by
            try have hsf := sea_facts ‹seaB s = true›
            exact FinK.fjB (GoE.finK okF hJ mixed_ok (under_all (by kernel_rfl)) (writable_of (by kernel_rfl)) ((GoE.refl (P := Tryz.prog) (B := B) (c0 := pWhere_c0 s l) (under_all (by kernel_rfl))).widen (Wf := ((([]) : List (Nat × KS)).map (·.1))) (by simp) (writable_of (by kernel_rfl))) (pWhere_s4 B s l)
              ⟨⟨trivial, psets0 (s) (l) (by first | with_reducible assumption | omega | simp_all) (by first | with_reducible assumption | omega | simp_all) (by first | with_reducible assumption | omega | simp_all)⟩, ⟨⟨trivial, (by have t_ := pisPossible (s) (l) (by first | with_reducible assumption | omega | simp_all) (by first | with_reducible assumption | omega | simp_all) (by first | with_reducible assumption | omega | simp_all); rw [q3] at t_; exact t_)⟩, ⟨⟨trivial, (by have t_ := pisLog (s) (l); rw [q2] at t_; exact t_)⟩, ⟨⟨trivial, (by have t_ := pisSea (s); rw [q1] at t_; exact t_)⟩, ⟨⟨trivial, (by have t_ := pisLong (l); rw [q0] at t_; exact t_)⟩, trivial⟩⟩⟩⟩⟩) (ex := []) (by kernel_rfl) (lowX_nil _)
          try have hsf := sea_facts ‹seaB s = true›
          exact (GoE.endsT okF hJ mixed_ok GoE.start (pWhere_s5 B s l)
            ⟨rj0, trivial⟩).cast (by first | rfl | (simp [*]; done) | (simp_all; done))
      | false =>
        have rj0 : FJ Tryz.prog B (pWhere_c0 s l) (pWhere_H0 s l) 2 (OO.ret (Value.tuple #[Value.slice none 0 0, Value.int IntKind.i64 2])) (([] ++ ((2, regO) :: heapL (2 + 1) [])) ++ pWhere_H0 s l) 3 (List.range 2) [] := by
          try have hsf := sea_facts ‹seaB s = true›
          exact FinK.fjB (GoE.finK okF hJ mixed_ok (under_all (by kernel_rfl)) (writable_of (by kernel_rfl)) ((GoE.refl (P := Tryz.prog) (B := B) (c0 := pWhere_c0 s l) (under_all (by kernel_rfl))).widen (Wf := ((([]) : List (Nat × KS)).map (·.1))) (by simp) (writable_of (by kernel_rfl))) (pWhere_s6 B s l)
            ⟨⟨trivial, (by have t_ := pisLog (s) (l); rw [q2] at t_; exact t_)⟩, ⟨⟨trivial, (by have t_ := pisSea (s); rw [q1] at t_; exact t_)⟩, ⟨⟨trivial, (by have t_ := pisLong (l); rw [q0] at t_; exact t_)⟩, trivial⟩⟩⟩) (ex := []) (by kernel_rfl) (lowX_nil _)
        try have hsf := sea_facts ‹seaB s = true›
        exact (GoE.endsT okF hJ mixed_ok GoE.start (pWhere_s7 B s l)
          ⟨rj0, trivial⟩).cast (by first | rfl | (simp [*]; done) | (simp_all; done))
    | false =>
      have rj0 : FJ Tryz.prog B (pWhere_c0 s l) (pWhere_H0 s l) 2 (OO.ret (Value.tuple #[Value.slice none 0 0, Value.int IntKind.i64 2])) (([] ++ ((2, regO) :: heapL (2 + 1) [])) ++ pWhere_H0 s l) 3 (List.range 2) [] := by
        try have hsf := sea_facts ‹seaB s = true›
        exact FinK.fjB (GoE.finK okF hJ mixed_ok (under_all (by kernel_rfl)) (writable_of (by kernel_rfl)) ((GoE.refl (P := Tryz.prog) (B := B) (c0 := pWhere_c0 s l) (under_all (by kernel_rfl))).widen (Wf := ((([]) : List (Nat × KS)).map (·.1))) (by simp) (writable_of (by kernel_rfl))) (pWhere_s8 B s l)
          ⟨⟨trivial, (by have t_ := pisSea (s); rw [q1] at t_; exact t_)⟩, ⟨⟨trivial, (by have t_ := pisLong (l); rw [q0] at t_; exact t_)⟩, trivial⟩⟩) (ex := []) (by kernel_rfl) (lowX_nil _)
      try have hsf := sea_facts ‹seaB s = true›
      exact (GoE.endsT okF hJ mixed_ok GoE.start (pWhere_s9 B s l)
        ⟨rj0, trivial⟩).cast (by first | rfl | (simp [*]; done) | (simp_all; done))
theorem pWhere (s : CSea) (l : List Hour)  : PureC Tryz.prog J0 11 #[.agg (encSea s).toArray, slH l] (.tuple #[if decide ((12 : Int) < l.length) = true then slI [] else if (seaB s && logB s l) = true then (if decide (endI s l = 0) = true then slI [] else slI (whL s l)) else slI [], .int .i64 (if decide ((12 : Int) < l.length) = true then 3 else if (seaB s && logB s l) = true then (if decide (endI s l = 0) = true then 5 else 0) else 2)]) :=
  pureC_ofF (ts := [.agg (encSea s).toArray, slH l]) (l.length ≤ 9223372036854775807) (fun _ _ ht => ht.ln (i := 1) rfl) J0_st (c0 := entryC Tryz.prog 11 11 (([.agg (encSea s).toArray, slH l]).map (pushT 0 4))) (by kernel_rfl) (by kernel_rfl) fun hfacts B hJ => pWhere_e s l  hfacts hJ
end Go.Proofs.YtiaaikkmipmhnaaGreatDoor

