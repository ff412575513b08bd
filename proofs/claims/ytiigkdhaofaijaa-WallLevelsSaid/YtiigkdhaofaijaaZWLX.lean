/- WallLevels: whatever the input, it returns true, and each argument reads as it did. The row, from the walk. -/
import Derived.Test.YtiigkdhaofaijaaZWL13
import Derived.Test.YtiigkdhaofaijaaZWL15
import Derived.Test.YtiigkdhaofaijaaZWL10
import Derived.JoinedOf
import Derived.Test.YtiigkdhaofaijaaRows
set_option linter.all false
namespace Go.Proofs.Ytiigkdhaofaijaa
open Go Go.CE Go.RowKit
theorem levels_mono {s : WShore} {c : WStorm} (hs : shoreB s = true) (hc : stormB c = true) : levelF s (endE false s c) ≤ levelF s (endE true s c) := by
  have h1 := shore_facts hs
  have h2 := storm_facts hc
  exact level_mono (tOk_end (b := false) hs hc) (tOk_end (b := true) hs hc) (Int.le_refl _) (by simp only [endE, cond_true, cond_false]; omega) (by simp only [endE, cond_true, cond_false]; omega) (by simp only [endE, cond_true, cond_false]; omega) (by simp only [endE, cond_true, cond_false]; omega)
noncomputable def lshort_p0 (B : Lo) (s : WShore) : List Prop := [(!ltq 12 (↑(List.length (WShore.cells s)) : Int)) = true] ++ ([] : List Prop)
noncomputable def lshort_q0 (s : WShore) : ScriptT := [(5, hvT)]
set_option maxRecDepth 100000 in
theorem lshort_s0 (B : Lo) (s : WShore) : endT (srunT Try.prog (okFn Try.prog) J0 B 6 1 (entryC Try.prog 14 13 (([.agg (encShore s).toArray]).map (pushT 0 4))) H00 1
    (lshort_q0 s ++ [(10, hvT)]) 0 [] []) [] = some (Value.bool true,
    [(!ltq 8 (↑(List.length (WShore.works s)) : Int)) = true] ++ lshort_p0 B s) := by kernel_rfl
set_option maxRecDepth 100000 in
theorem lshort_s1 (B : Lo) (s : WShore) : endT (srunT Try.prog (okFn Try.prog) J0 B 6 1 (entryC Try.prog 14 13 (([.agg (encShore s).toArray]).map (pushT 0 4))) H00 1
    (lshort_q0 s ++ [(10, hvF)]) 0 [] []) [] = some (Value.bool false,
    [(!ltq 8 (↑(List.length (WShore.works s)) : Int)) = false] ++ lshort_p0 B s) := by kernel_rfl
set_option maxRecDepth 100000 in
theorem lshort_s2 (B : Lo) (s : WShore) : endT (srunT Try.prog (okFn Try.prog) J0 B 6 1 (entryC Try.prog 14 13 (([.agg (encShore s).toArray]).map (pushT 0 4))) H00 1
    [(5, hvF)] 0 [] []) [] = some (Value.bool false,
    [(!ltq 12 (↑(List.length (WShore.cells s)) : Int)) = false]) := by kernel_rfl
set_option maxHeartbeats 4000000 in
theorem lshort_e (s : WShore)  (hfacts : s.cells.length ≤ 9223372036854775807 ∧ s.works.length ≤ 9223372036854775807) {B : Lo} (hJ : ∀ w, B.has w → J0 w) : EndsT Try.prog B (entryC Try.prog 14 13 (([.agg (encShore s).toArray]).map (pushT 0 4))) (.bool (decide (s.cells.length ≤ 12) && decide (s.works.length ≤ 8))) := by
  by_cases q0 : ((↑(List.length (WShore.cells s)) : Int) : Int) ≤ (12)
  ·
    have hp0 : AllP (lshort_p0 B s) := by
      exact ⟨(nltq_t q0), trivial⟩
    by_cases q1 : ((↑(List.length (WShore.works s)) : Int) : Int) ≤ (8)
    ·
      exact (GoE.endsT okF hJ mixed_ok GoE.start (lshort_s0 B s)
        ⟨(nltq_t q1), hp0⟩).cast (by first | rfl | (simp [*]; done) | (simp_all []; done) | (simp_all []; omega))
    ·
      exact (GoE.endsT okF hJ mixed_ok GoE.start (lshort_s1 B s)
        ⟨(nltq_f (Int.not_le.1 q1)), hp0⟩).cast (by first | rfl | (simp [*]; done) | (simp_all []; done) | (simp_all []; omega))
  ·
    exact (GoE.endsT okF hJ mixed_ok GoE.start (lshort_s2 B s)
      ⟨(nltq_f (Int.not_le.1 q0)), trivial⟩).cast (by first | rfl | (simp [*]; done) | (simp_all []; done) | (simp_all []; omega))
theorem lshort (s : WShore)  : PureC Try.prog J0 14 #[.agg (encShore s).toArray] (.bool (decide (s.cells.length ≤ 12) && decide (s.works.length ≤ 8))) :=
  pureC_ofF (ts := [.agg (encShore s).toArray]) (s.cells.length ≤ 9223372036854775807 ∧ s.works.length ≤ 9223372036854775807) (fun _ _ ht => ⟨ht.ln2 (i := 0) (j := 0) rfl rfl, ht.ln2 (i := 0) (j := 1) rfl rfl⟩) J0_st (c0 := entryC Try.prog 14 13 (([.agg (encShore s).toArray]).map (pushT 0 4))) (by kernel_rfl) (by kernel_rfl) fun hfacts B hJ => lshort_e s  hfacts hJ
noncomputable def rSameTruth_p0 (B : Lo) (t u : WTruth) : List Prop := [eqq (WTruth.wind t) (WTruth.wind u) = true] ++ ([] : List Prop)
noncomputable def rSameTruth_q0 (t u : WTruth) : ScriptT := [(7, hvT)]
noncomputable def rSameTruth_p1 (B : Lo) (t u : WTruth) : List Prop := [eqq (WTruth.fetch t) (WTruth.fetch u) = true] ++ rSameTruth_p0 B t u
noncomputable def rSameTruth_q1 (t u : WTruth) : ScriptT := rSameTruth_q0 t u ++ [(13, hvT)]
noncomputable def rSameTruth_p2 (B : Lo) (t u : WTruth) : List Prop := [eqq (WTruth.tide t) (WTruth.tide u) = true] ++ rSameTruth_p1 B t u
noncomputable def rSameTruth_q2 (t u : WTruth) : ScriptT := rSameTruth_q1 t u ++ [(20, hvT)]
noncomputable def rSameTruth_p3 (B : Lo) (t u : WTruth) : List Prop := [eqq (WTruth.loss t) (WTruth.loss u) = true] ++ rSameTruth_p2 B t u
noncomputable def rSameTruth_q3 (t u : WTruth) : ScriptT := rSameTruth_q2 t u ++ [(27, hvT)]
set_option maxRecDepth 100000 in
theorem rSameTruth_s0 (B : Lo) (t u : WTruth) : endT (srunT Try.prog (okFn Try.prog) J0 B 6 1 (entryC Try.prog 21 38 (([.agg (encTruth t).toArray, .agg (encTruth u).toArray]).map (pushT 0 4))) H00 1
    (rSameTruth_q3 t u ++ [(34, HintT.pure (Value.bool true) [])]) 0 [] []) [] = some (Value.bool true,
    [AllP [] ∧ PureC Try.prog J0 27 #[slT (List.length (WTruth.drags t)) (rowL encI (WTruth.drags t)), slT (List.length (WTruth.drags u)) (rowL encI (WTruth.drags u))] (Value.bool true)] ++ rSameTruth_p3 B t u) := by kernel_rfl
set_option maxRecDepth 100000 in
theorem rSameTruth_s1 (B : Lo) (t u : WTruth) : endT (srunT Try.prog (okFn Try.prog) J0 B 6 1 (entryC Try.prog 21 38 (([.agg (encTruth t).toArray, .agg (encTruth u).toArray]).map (pushT 0 4))) H00 1
    (rSameTruth_q3 t u ++ [(34, HintT.pure (Value.bool false) [])]) 0 [] []) [] = some (Value.bool false,
    [AllP [] ∧ PureC Try.prog J0 27 #[slT (List.length (WTruth.drags t)) (rowL encI (WTruth.drags t)), slT (List.length (WTruth.drags u)) (rowL encI (WTruth.drags u))] (Value.bool false)] ++ rSameTruth_p3 B t u) := by kernel_rfl
set_option maxRecDepth 100000 in
theorem rSameTruth_s2 (B : Lo) (t u : WTruth) : endT (srunT Try.prog (okFn Try.prog) J0 B 6 1 (entryC Try.prog 21 38 (([.agg (encTruth t).toArray, .agg (encTruth u).toArray]).map (pushT 0 4))) H00 1
    (rSameTruth_q2 t u ++ [(27, hvF)]) 0 [] []) [] = some (Value.bool false,
    [eqq (WTruth.loss t) (WTruth.loss u) = false] ++ rSameTruth_p2 B t u) := by kernel_rfl
set_option maxRecDepth 100000 in
theorem rSameTruth_s3 (B : Lo) (t u : WTruth) : endT (srunT Try.prog (okFn Try.prog) J0 B 6 1 (entryC Try.prog 21 38 (([.agg (encTruth t).toArray, .agg (encTruth u).toArray]).map (pushT 0 4))) H00 1
    (rSameTruth_q1 t u ++ [(20, hvF)]) 0 [] []) [] = some (Value.bool false,
    [eqq (WTruth.tide t) (WTruth.tide u) = false] ++ rSameTruth_p1 B t u) := by kernel_rfl
set_option maxRecDepth 100000 in
theorem rSameTruth_s4 (B : Lo) (t u : WTruth) : endT (srunT Try.prog (okFn Try.prog) J0 B 6 1 (entryC Try.prog 21 38 (([.agg (encTruth t).toArray, .agg (encTruth u).toArray]).map (pushT 0 4))) H00 1
    (rSameTruth_q0 t u ++ [(13, hvF)]) 0 [] []) [] = some (Value.bool false,
    [eqq (WTruth.fetch t) (WTruth.fetch u) = false] ++ rSameTruth_p0 B t u) := by kernel_rfl
set_option maxRecDepth 100000 in
theorem rSameTruth_s5 (B : Lo) (t u : WTruth) : endT (srunT Try.prog (okFn Try.prog) J0 B 6 1 (entryC Try.prog 21 38 (([.agg (encTruth t).toArray, .agg (encTruth u).toArray]).map (pushT 0 4))) H00 1
    [(7, hvF)] 0 [] []) [] = some (Value.bool false,
    [eqq (WTruth.wind t) (WTruth.wind u) = false]) := by kernel_rfl
set_option maxHeartbeats 4000000 in
theorem rSameTruth_e (t u : WTruth)  {B : Lo} (hJ : ∀ w, B.has w → J0 w) : EndsT Try.prog B (entryC Try.prog 21 38 (([.agg (encTruth t).toArray, .agg (encTruth u).toArray]).map (pushT 0 4))) (.bool (decide (t.wind = u.wind) && (decide (t.fetch = u.fetch) && (decide (t.tide = u.tide) && (decide (t.loss = u.loss) && decide (t.drags = u.drags)))))) := by
  by_cases q0 : (WTruth.wind t : Int) = (WTruth.wind u)
  ·
    have hp0 : AllP (rSameTruth_p0 B t u) := by
      exact ⟨(eqq_t q0), trivial⟩
    by_cases q1 : (WTruth.fetch t : Int) = (WTruth.fetch u)
    ·
      have hp1 : AllP (rSameTruth_p1 B t u) := by
        exact ⟨(eqq_t q1), hp0⟩
      by_cases q2 : (WTruth.tide t : Int) = (WTruth.tide u)
      ·
        have hp2 : AllP (rSameTruth_p2 B t u) := by
          exact ⟨(eqq_t q2), hp1⟩
        by_cases q3 : (WTruth.loss t : Int) = (WTruth.loss u)
        ·
          have hp3 : AllP (rSameTruth_p3 B t u) := by
            exact ⟨(eqq_t q3), hp2⟩
          cases q4 : decide (WTruth.drags t = WTruth.drags u) with
          | true =>
            exact (GoE.endsT okF hJ mixed_ok GoE.start (rSameTruth_s0 B t u)
              ⟨⟨trivial, (by have t_ := rSame (WTruth.drags t) (WTruth.drags u); rw [q4] at t_; exact t_)⟩, hp3⟩).cast (by first | rfl | (simp [*]; done) | (simp_all []; done) | (simp_all []; omega))
          | false =>
            exact (GoE.endsT okF hJ mixed_ok GoE.start (rSameTruth_s1 B t u)
              ⟨⟨trivial, (by have t_ := rSame (WTruth.drags t) (WTruth.drags u); rw [q4] at t_; exact t_)⟩, hp3⟩).cast (by first | rfl | (simp [*]; done) | (simp_all []; done) | (simp_all []; omega))
        ·
          exact (GoE.endsT okF hJ mixed_ok GoE.start (rSameTruth_s2 B t u)
            ⟨(eqq_f q3), hp2⟩).cast (by first | rfl | (simp [*]; done) | (simp_all []; done) | (simp_all []; omega))
      ·
        exact (GoE.endsT okF hJ mixed_ok GoE.start (rSameTruth_s3 B t u)
          ⟨(eqq_f q2), hp1⟩).cast (by first | rfl | (simp [*]; done) | (simp_all []; done) | (simp_all []; omega))
    ·
      exact (GoE.endsT okF hJ mixed_ok GoE.start (rSameTruth_s4 B t u)
        ⟨(eqq_f q1), hp0⟩).cast (by first | rfl | (simp [*]; done) | (simp_all []; done) | (simp_all []; omega))
  ·
    exact (GoE.endsT okF hJ mixed_ok GoE.start (rSameTruth_s5 B t u)
      ⟨(eqq_f q0), trivial⟩).cast (by first | rfl | (simp [*]; done) | (simp_all []; done) | (simp_all []; omega))
theorem rSameTruth (t u : WTruth)  : PureC Try.prog J0 21 #[.agg (encTruth t).toArray, .agg (encTruth u).toArray] (.bool (decide (t.wind = u.wind) && (decide (t.fetch = u.fetch) && (decide (t.tide = u.tide) && (decide (t.loss = u.loss) && decide (t.drags = u.drags)))))) :=
  pureC_of (ts := [.agg (encTruth t).toArray, .agg (encTruth u).toArray]) J0_st (c0 := entryC Try.prog 21 38 (([.agg (encTruth t).toArray, .agg (encTruth u).toArray]).map (pushT 0 4))) (by kernel_rfl) (by kernel_rfl) fun B hJ => rSameTruth_e t u  hJ
noncomputable def wLevels_z0 (s : WShore) (c : WStorm) : Array Value := #[Value.agg #[Value.int IntKind.i64 (WTruth.wind (endE true s c)), Value.int IntKind.i64 (WTruth.fetch (endE true s c)), Value.int IntKind.i64 (WTruth.tide (endE true s c)), Value.int IntKind.i64 (WTruth.loss (endE true s c)), slT (List.length (WTruth.drags (endE true s c))) (rowL encI (WTruth.drags (endE true s c)))], Value.agg #[Value.int IntKind.i64 (WTruth.wind (endE true s c)), Value.int IntKind.i64 (WTruth.fetch (endE true s c)), Value.int IntKind.i64 (WTruth.tide (endE true s c)), Value.int IntKind.i64 (WTruth.loss (endE true s c)), slT (List.length (WTruth.drags (endE true s c))) (rowL encI (WTruth.drags (endE true s c)))]]
noncomputable def wLevels_z1 (s : WShore) (c : WStorm) : Array Value := #[Value.agg #[slT (List.length (WShore.cells s)) (rowL encWCell (WShore.cells s)), slT (List.length (WShore.works s)) (rowL encWWork (WShore.works s)), Value.int IntKind.i64 (WShore.reef s), Value.int IntKind.i64 (WShore.llo s), Value.int IntKind.i64 (WShore.lhi s)], Value.agg #[Value.int IntKind.i64 (WStorm.wlo c), Value.int IntKind.i64 (WStorm.whi c), Value.int IntKind.i64 (WStorm.flo c), Value.int IntKind.i64 (WStorm.fhi c), Value.int IntKind.i64 (WStorm.tlo c), Value.int IntKind.i64 (WStorm.thi c)]]
noncomputable def wLevels_z2 (s : WShore) (c : WStorm) : Value := (Value.agg #[Value.int IntKind.i64 (WTruth.wind (endE true s c)), Value.int IntKind.i64 (WTruth.fetch (endE true s c)), Value.int IntKind.i64 (WTruth.tide (endE true s c)), Value.int IntKind.i64 (WTruth.loss (endE true s c)), slT (List.length (WTruth.drags (endE true s c))) (rowL encI (WTruth.drags (endE true s c)))])
noncomputable def wLevels_z3 (s : WShore) (c : WStorm) : Array Value := #[Value.int IntKind.i64 (WTruth.wind (endE false s c)), Value.int IntKind.i64 (WTruth.fetch (endE false s c)), Value.int IntKind.i64 (WTruth.tide (endE false s c)), Value.int IntKind.i64 (WTruth.loss (endE false s c)), slT (List.length (WTruth.drags (endE false s c))) (rowL encI (WTruth.drags (endE false s c)))]
noncomputable def wLevels_z4 (s : WShore) (c : WStorm) : Array Value := #[Value.int IntKind.i64 (WTruth.wind (endE true s c)), Value.int IntKind.i64 (WTruth.fetch (endE true s c)), Value.int IntKind.i64 (WTruth.tide (endE true s c)), Value.int IntKind.i64 (WTruth.loss (endE true s c)), slT (List.length (WTruth.drags (endE true s c))) (rowL encI (WTruth.drags (endE true s c)))]
noncomputable def wLevels_z5 (s : WShore) : Array Value := #[Value.agg #[slT (List.length (WShore.cells s)) (rowL encWCell (WShore.cells s)), slT (List.length (WShore.works s)) (rowL encWWork (WShore.works s)), Value.int IntKind.i64 (WShore.reef s), Value.int IntKind.i64 (WShore.llo s), Value.int IntKind.i64 (WShore.lhi s)]]
noncomputable def wLevels_z6 (s : WShore) : Array Value := #[slT (List.length (WShore.cells s)) (rowL encWCell (WShore.cells s)), slT (List.length (WShore.works s)) (rowL encWWork (WShore.works s)), Value.int IntKind.i64 (WShore.reef s), Value.int IntKind.i64 (WShore.llo s), Value.int IntKind.i64 (WShore.lhi s)]
noncomputable def wLevels_z7 (c : WStorm) : Array Value := #[Value.int IntKind.i64 (WStorm.wlo c), Value.int IntKind.i64 (WStorm.whi c), Value.int IntKind.i64 (WStorm.flo c), Value.int IntKind.i64 (WStorm.fhi c), Value.int IntKind.i64 (WStorm.tlo c), Value.int IntKind.i64 (WStorm.thi c)]
noncomputable def wLevels_z8  : Value := (Value.tuple #[Value.agg #[Value.int IntKind.i64 0, Value.int IntKind.i64 0, Value.int IntKind.i64 0, Value.int IntKind.i64 0, slT 0 #[]], Value.int IntKind.i64 2])
noncomputable def wLevels_z9  : Value := (Value.tuple #[Value.agg #[Value.int IntKind.i64 0, Value.int IntKind.i64 0], Value.int IntKind.i64 2])
noncomputable def wLevels_p0 (B : Lo) (s : WShore) (c : WStorm) : List Prop := [AllP [] ∧ PureC Try.prog J0 14 (wLevels_z5 s) (Value.bool true)] ++ ([] : List Prop)
noncomputable def wLevels_q0 (s : WShore) (c : WStorm) : ScriptT := [(4, HintT.pure (Value.bool true) [])]
noncomputable def wLevels_p1 (B : Lo) (s : WShore) (c : WStorm) : List Prop := [AllP [] ∧ PureC Try.prog J0 22 #[Value.agg (wLevels_z6 s), Value.agg (wLevels_z4 s c)] (Value.int IntKind.i64 (levelF s (endE true s c))), AllP [] ∧ PureC Try.prog J0 23 #[Value.agg (wLevels_z6 s), Value.agg (wLevels_z7 c), Value.bool true] (wLevels_z2 s c), AllP [] ∧ PureC Try.prog J0 22 #[Value.agg (wLevels_z6 s), Value.agg (wLevels_z3 s c)] (Value.int IntKind.i64 (levelF s (endE false s c))), AllP [] ∧ PureC Try.prog J0 23 #[Value.agg (wLevels_z6 s), Value.agg (wLevels_z7 c), Value.bool false] (Value.agg (wLevels_z3 s c)), AllP [] ∧ PureC Try.prog J0 20 #[Value.agg (wLevels_z7 c)] (Value.bool true), AllP [] ∧ PureC Try.prog J0 19 (wLevels_z5 s) (Value.bool true), AllP [] ∧ PureC Try.prog J0 18 (wLevels_z1 s c) (Value.tuple #[Value.agg (wLevels_z4 s c), Value.int IntKind.i64 0]), AllP [] ∧ PureC Try.prog J0 17 (wLevels_z1 s c) (Value.tuple #[Value.agg #[Value.int IntKind.i64 (min (levelF s (endE false s c)) (levelF s (endE true s c))), Value.int IntKind.i64 (max (levelF s (endE false s c)) (levelF s (endE true s c)))], Value.int IntKind.i64 0]), AllP [] ∧ PureC Try.prog J0 16 (wLevels_z1 s c) (Value.int IntKind.i64 0)] ++ wLevels_p0 B s c
noncomputable def wLevels_q1 (s : WShore) (c : WStorm) : ScriptT := wLevels_q0 s c ++ [(8, HintT.pure (Value.int IntKind.i64 0) []), (12, HintT.pure (Value.tuple #[Value.agg #[Value.int IntKind.i64 (min (levelF s (endE false s c)) (levelF s (endE true s c))), Value.int IntKind.i64 (max (levelF s (endE false s c)) (levelF s (endE true s c)))], Value.int IntKind.i64 0]) []), (21, HintT.pure (Value.tuple #[Value.agg (wLevels_z4 s c), Value.int IntKind.i64 0]) []), (29, HintT.pure (Value.bool true) []), (33, HintT.pure (Value.bool true) []), (39, HintT.pure (Value.agg (wLevels_z3 s c)) []), (40, HintT.pure (Value.int IntKind.i64 (levelF s (endE false s c))) []), (44, HintT.pure (wLevels_z2 s c) []), (45, HintT.pure (Value.int IntKind.i64 (levelF s (endE true s c))) [])]
noncomputable def wLevels_p2 (B : Lo) (s : WShore) (c : WStorm) : List Prop := [AllP [] ∧ PureC Try.prog J0 23 #[Value.agg (wLevels_z6 s), Value.agg (wLevels_z7 c), Value.bool true] (wLevels_z2 s c), (eqq (min (levelF s (endE false s c)) (levelF s (endE true s c))) (levelF s (endE false s c)) && (eqq (max (levelF s (endE false s c)) (levelF s (endE true s c))) (levelF s (endE true s c)) && true)) = true] ++ wLevels_p1 B s c
noncomputable def wLevels_q2 (s : WShore) (c : WStorm) : ScriptT := wLevels_q1 s c ++ [(62, HintT.old (Hint.eq true)), (68, HintT.pure (wLevels_z2 s c) [])]
set_option maxRecDepth 100000 in
theorem wLevels_s0 (B : Lo) (s : WShore) (c : WStorm) : endT (srunT Try.prog (okFn Try.prog) J0 B 24 1 (entryC Try.prog 3 97 (([.agg (encShore s).toArray, .agg (encStorm c).toArray]).map (pushT 0 4))) H00 1
    (wLevels_q2 s c ++ [(69, HintT.pure (Value.bool true) []), (72, HintT.pure (Value.bool true) [])]) 0 [] []) [] = some (Value.bool true,
    [AllP [] ∧ PureC Try.prog J0 15 #[] (Value.bool true), AllP [] ∧ PureC Try.prog J0 21 (wLevels_z0 s c) (Value.bool true)] ++ wLevels_p2 B s c) := by kernel_rfl
set_option maxRecDepth 100000 in
theorem wLevels_s1 (B : Lo) (s : WShore) (c : WStorm) : endT (srunT Try.prog (okFn Try.prog) J0 B 24 1 (entryC Try.prog 3 97 (([.agg (encShore s).toArray, .agg (encStorm c).toArray]).map (pushT 0 4))) H00 1
    (wLevels_q2 s c ++ [(69, HintT.pure (Value.bool false) [])]) 0 [] []) [] = some (Value.bool false,
    [AllP [] ∧ PureC Try.prog J0 21 (wLevels_z0 s c) (Value.bool false)] ++ wLevels_p2 B s c) := by kernel_rfl
set_option maxRecDepth 100000 in
theorem wLevels_s2 (B : Lo) (s : WShore) (c : WStorm) : endT (srunT Try.prog (okFn Try.prog) J0 B 24 1 (entryC Try.prog 3 97 (([.agg (encShore s).toArray, .agg (encStorm c).toArray]).map (pushT 0 4))) H00 1
    (wLevels_q2 s c ++ [(69, HintT.pure (Value.bool false) [])]) 0 [] []) [] = some (Value.bool false,
    [AllP [] ∧ PureC Try.prog J0 21 (wLevels_z0 s c) (Value.bool false)] ++ wLevels_p2 B s c) := by kernel_rfl
set_option maxRecDepth 100000 in
theorem wLevels_s3 (B : Lo) (s : WShore) (c : WStorm) : endT (srunT Try.prog (okFn Try.prog) J0 B 24 1 (entryC Try.prog 3 97 (([.agg (encShore s).toArray, .agg (encStorm c).toArray]).map (pushT 0 4))) H00 1
    (wLevels_q2 s c ++ [(69, HintT.pure (Value.bool false) [])]) 0 [] []) [] = some (Value.bool false,
    [AllP [] ∧ PureC Try.prog J0 21 (wLevels_z0 s c) (Value.bool false)] ++ wLevels_p2 B s c) := by kernel_rfl
set_option maxRecDepth 100000 in
theorem wLevels_s4 (B : Lo) (s : WShore) (c : WStorm) : endT (srunT Try.prog (okFn Try.prog) J0 B 24 1 (entryC Try.prog 3 97 (([.agg (encShore s).toArray, .agg (encStorm c).toArray]).map (pushT 0 4))) H00 1
    (wLevels_q2 s c ++ [(69, HintT.pure (Value.bool false) [])]) 0 [] []) [] = some (Value.bool false,
    [AllP [] ∧ PureC Try.prog J0 21 (wLevels_z0 s c) (Value.bool false)] ++ wLevels_p2 B s c) := by kernel_rfl
set_option maxRecDepth 100000 in
theorem wLevels_s5 (B : Lo) (s : WShore) (c : WStorm) : endT (srunT Try.prog (okFn Try.prog) J0 B 24 1 (entryC Try.prog 3 97 (([.agg (encShore s).toArray, .agg (encStorm c).toArray]).map (pushT 0 4))) H00 1
    (wLevels_q2 s c ++ [(69, HintT.pure (Value.bool false) [])]) 0 [] []) [] = some (Value.bool false,
    [AllP [] ∧ PureC Try.prog J0 21 (wLevels_z0 s c) (Value.bool false)] ++ wLevels_p2 B s c) := by kernel_rfl
set_option maxRecDepth 100000 in
theorem wLevels_s6 (B : Lo) (s : WShore) (c : WStorm) : endT (srunT Try.prog (okFn Try.prog) J0 B 24 1 (entryC Try.prog 3 97 (([.agg (encShore s).toArray, .agg (encStorm c).toArray]).map (pushT 0 4))) H00 1
    (wLevels_q1 s c ++ [(62, HintT.old (Hint.eq false))]) 0 [] []) [] = some (Value.bool false,
    [(eqq (min (levelF s (endE false s c)) (levelF s (endE true s c))) (levelF s (endE false s c)) && (eqq (max (levelF s (endE false s c)) (levelF s (endE true s c))) (levelF s (endE true s c)) && true)) = false] ++ wLevels_p1 B s c) := by kernel_rfl
noncomputable def wLevels_H0 (s : WShore) (c : WStorm) : Heap := [(5, Obj.cells #[Value.int IntKind.i64 0, Value.int IntKind.i64 0, Value.int IntKind.i64 0, Value.int IntKind.i64 0, topV 4 (slT 0 #[])] 38), (4, Obj.coro none), (3, Obj.cells #[Value.int IntKind.i64 0, Value.int IntKind.i64 0] 25), (2, Obj.cells #[Value.int IntKind.i64 (WStorm.wlo c), Value.int IntKind.i64 (WStorm.whi c), Value.int IntKind.i64 (WStorm.flo c), Value.int IntKind.i64 (WStorm.fhi c), Value.int IntKind.i64 (WStorm.tlo c), Value.int IntKind.i64 (WStorm.thi c)] 29), (1, Obj.cells #[topV 0 (slT (List.length (WShore.cells s)) (rowL encWCell (WShore.cells s))), topV 0 (slT (List.length (WShore.works s)) (rowL encWWork (WShore.works s))), Value.int IntKind.i64 (WShore.reef s), Value.int IntKind.i64 (WShore.llo s), Value.int IntKind.i64 (WShore.lhi s)] 27), (0, Obj.coro none)]
noncomputable def wLevels_c0 (s : WShore) (c : WStorm) : CF := ⟨21, ofList 38 [Value.agg #[Value.int IntKind.i64 0, Value.int IntKind.i64 0, Value.int IntKind.i64 0, Value.int IntKind.i64 0, topV 4 (slT 0 #[])], Value.agg #[Value.int IntKind.i64 0, Value.int IntKind.i64 0, Value.int IntKind.i64 0, Value.int IntKind.i64 0, Value.slice none 0 0]], [Item.code (bodyOf Try.prog 21)], [], .run, none⟩
set_option maxRecDepth 100000 in
theorem wLevels_s7 (B : Lo) (s : WShore) (c : WStorm) : CE.finK 6 (srunT Try.prog (okFn Try.prog) J0 B 6 6 (wLevels_c0 s c) (wLevels_H0 s c) 6
    [(34, HintT.pure (Value.bool true) [])] 0 [] []) [] [] [] = some (OO.ret (Value.bool true), [], [],
    [AllP [] ∧ PureC Try.prog J0 27 #[slT 0 #[], slT 0 #[]] (Value.bool true)]) := by kernel_rfl
set_option maxRecDepth 100000 in
theorem wLevels_s8 (B : Lo) (s : WShore) (c : WStorm) : endT (srunT Try.prog (okFn Try.prog) J0 B 21 1 (entryC Try.prog 3 97 (([.agg (encShore s).toArray, .agg (encStorm c).toArray]).map (pushT 0 4))) H00 1
    (wLevels_q0 s c ++ [(8, HintT.pure (Value.int IntKind.i64 2) []), (12, HintT.pure wLevels_z9 []), (21, HintT.pure wLevels_z8 []), (29, HintT.pure (Value.bool true) []), (33, HintT.pure (Value.bool false) []), (54, HintT.call (List.range 6) (OO.ret (Value.bool true)) ([] ++ (6, regO) :: heapL 7 []) 7 []), (57, HintT.pure (Value.bool true) [])]) 0 [] []) [] = some (Value.bool true,
    [AllP [] ∧ PureC Try.prog J0 15 #[] (Value.bool true), FJ Try.prog B (wLevels_c0 s c) (wLevels_H0 s c) 6 (OO.ret (Value.bool true)) (([] ++ ((6, regO) :: heapL (6 + 1) [])) ++ wLevels_H0 s c) 7 (List.range 6) [], AllP [] ∧ PureC Try.prog J0 20 #[Value.agg (wLevels_z7 c)] (Value.bool false), AllP [] ∧ PureC Try.prog J0 19 (wLevels_z5 s) (Value.bool true), AllP [] ∧ PureC Try.prog J0 18 (wLevels_z1 s c) wLevels_z8, AllP [] ∧ PureC Try.prog J0 17 (wLevels_z1 s c) wLevels_z9, AllP [] ∧ PureC Try.prog J0 16 (wLevels_z1 s c) (Value.int IntKind.i64 2)] ++ wLevels_p0 B s c) := by kernel_rfl
noncomputable def wLevels_H1 (s : WShore) (c : WStorm) : Heap := [(5, Obj.cells #[Value.int IntKind.i64 0, Value.int IntKind.i64 0, Value.int IntKind.i64 0, Value.int IntKind.i64 0, topV 4 (slT 0 #[])] 38), (4, Obj.coro none), (3, Obj.cells #[Value.int IntKind.i64 0, Value.int IntKind.i64 0] 25), (2, Obj.cells #[Value.int IntKind.i64 (WStorm.wlo c), Value.int IntKind.i64 (WStorm.whi c), Value.int IntKind.i64 (WStorm.flo c), Value.int IntKind.i64 (WStorm.fhi c), Value.int IntKind.i64 (WStorm.tlo c), Value.int IntKind.i64 (WStorm.thi c)] 29), (1, Obj.cells #[topV 0 (slT (List.length (WShore.cells s)) (rowL encWCell (WShore.cells s))), topV 0 (slT (List.length (WShore.works s)) (rowL encWWork (WShore.works s))), Value.int IntKind.i64 (WShore.reef s), Value.int IntKind.i64 (WShore.llo s), Value.int IntKind.i64 (WShore.lhi s)] 27), (0, Obj.coro none)]
noncomputable def wLevels_c1 (s : WShore) (c : WStorm) : CF := ⟨21, ofList 38 [Value.agg #[Value.int IntKind.i64 0, Value.int IntKind.i64 0, Value.int IntKind.i64 0, Value.int IntKind.i64 0, topV 4 (slT 0 #[])], Value.agg #[Value.int IntKind.i64 0, Value.int IntKind.i64 0, Value.int IntKind.i64 0, Value.int IntKind.i64 0, Value.slice none 0 0]], [Item.code (bodyOf Try.prog 21)], [], .run, none⟩
set_option maxRecDepth 100000 in
theorem wLevels_s9 (B : Lo) (s : WShore) (c : WStorm) : CE.finK 6 (srunT Try.prog (okFn Try.prog) J0 B 6 6 (wLevels_c1 s c) (wLevels_H1 s c) 6
    [(34, HintT.pure (Value.bool true) [])] 0 [] []) [] [] [] = some (OO.ret (Value.bool true), [], [],
    [AllP [] ∧ PureC Try.prog J0 27 #[slT 0 #[], slT 0 #[]] (Value.bool true)]) := by kernel_rfl
set_option maxRecDepth 100000 in
theorem wLevels_s10 (B : Lo) (s : WShore) (c : WStorm) : endT (srunT Try.prog (okFn Try.prog) J0 B 21 1 (entryC Try.prog 3 97 (([.agg (encShore s).toArray, .agg (encStorm c).toArray]).map (pushT 0 4))) H00 1
    (wLevels_q0 s c ++ [(8, HintT.pure (Value.int IntKind.i64 2) []), (12, HintT.pure wLevels_z9 []), (21, HintT.pure wLevels_z8 []), (29, HintT.pure (Value.bool false) []), (54, HintT.call (List.range 6) (OO.ret (Value.bool true)) ([] ++ (6, regO) :: heapL 7 []) 7 []), (57, HintT.pure (Value.bool true) [])]) 0 [] []) [] = some (Value.bool true,
    [AllP [] ∧ PureC Try.prog J0 15 #[] (Value.bool true), FJ Try.prog B (wLevels_c1 s c) (wLevels_H1 s c) 6 (OO.ret (Value.bool true)) (([] ++ ((6, regO) :: heapL (6 + 1) [])) ++ wLevels_H1 s c) 7 (List.range 6) [], AllP [] ∧ PureC Try.prog J0 19 (wLevels_z5 s) (Value.bool false), AllP [] ∧ PureC Try.prog J0 18 (wLevels_z1 s c) wLevels_z8, AllP [] ∧ PureC Try.prog J0 17 (wLevels_z1 s c) wLevels_z9, AllP [] ∧ PureC Try.prog J0 16 (wLevels_z1 s c) (Value.int IntKind.i64 2)] ++ wLevels_p0 B s c) := by kernel_rfl
set_option maxRecDepth 100000 in
theorem wLevels_s11 (B : Lo) (s : WShore) (c : WStorm) : endT (srunT Try.prog (okFn Try.prog) J0 B 10 1 (entryC Try.prog 3 97 (([.agg (encShore s).toArray, .agg (encStorm c).toArray]).map (pushT 0 4))) H00 1
    [(4, HintT.pure (Value.bool false) []), (6, HintT.pure (Value.bool true) [])] 0 [] []) [] = some (Value.bool true,
    [AllP [] ∧ PureC Try.prog J0 15 #[] (Value.bool true), AllP [] ∧ PureC Try.prog J0 14 (wLevels_z5 s) (Value.bool false)]) := by kernel_rfl
set_option maxRecDepth 100000 in
theorem wLevels_s12 (B : Lo) (s : WShore) (c : WStorm) : endT (srunT Try.prog (okFn Try.prog) J0 B 10 1 (entryC Try.prog 3 97 (([.agg (encShore s).toArray, .agg (encStorm c).toArray]).map (pushT 0 4))) H00 1
    [(4, HintT.pure (Value.bool false) []), (6, HintT.pure (Value.bool true) [])] 0 [] []) [] = some (Value.bool true,
    [AllP [] ∧ PureC Try.prog J0 15 #[] (Value.bool true), AllP [] ∧ PureC Try.prog J0 14 (wLevels_z5 s) (Value.bool false)]) := by kernel_rfl
set_option maxHeartbeats 4000000 in
theorem wLevels_e (s : WShore) (c : WStorm)  {B : Lo} (hJ : ∀ w, B.has w → J0 w) : EndsT Try.prog B (entryC Try.prog 3 97 (([.agg (encShore s).toArray, .agg (encStorm c).toArray]).map (pushT 0 4))) (.bool true) := by
  cases q0 : decide (List.length (WShore.cells s) ≤ 12) with
  | true =>
    cases q1 : decide (List.length (WShore.works s) ≤ 8) with
    | true =>
      have hp0 : AllP (wLevels_p0 B s c) := by
        try have h1 := shore_facts ‹shoreB s = true›
        try have h2 := tOk_end (b := false) ‹shoreB s = true› ‹stormB c = true›
        try have h3 := tOk_end (b := true) ‹shoreB s = true› ‹stormB c = true›
        try have h4 := levels_mono ‹shoreB s = true› ‹stormB c = true›
        try have h5 := Int.min_eq_left h4
        try have h6 := Int.max_eq_right h4
        exact ⟨⟨trivial, (by have t_ := lshort (s); rw [q0, q1] at t_; exact t_)⟩, trivial⟩
      cases q2 : shoreB s with
      | true =>
        cases q3 : stormB c with
        | true =>
          have hp1 : AllP (wLevels_p1 B s c) := by
            try have h1 := shore_facts ‹shoreB s = true›
            try have h2 := tOk_end (b := false) ‹shoreB s = true› ‹stormB c = true›
            try have h3 := tOk_end (b := true) ‹shoreB s = true› ‹stormB c = true›
            try have h4 := levels_mono ‹shoreB s = true› ‹stormB c = true›
            try have h5 := Int.min_eq_left h4
            try have h6 := Int.max_eq_right h4
            exact ⟨⟨trivial, rLevel (s) (endE true s c) (by first | with_reducible assumption | omega | simp_all) (by first | with_reducible assumption | omega | simp_all)⟩, ⟨⟨trivial, rEndT (s) (c) (by first | with_reducible assumption | omega | simp_all)⟩, ⟨⟨trivial, rLevel (s) (endE false s c) (by first | with_reducible assumption | omega | simp_all) (by first | with_reducible assumption | omega | simp_all)⟩, ⟨⟨trivial, rEndF (s) (c) (by first | with_reducible assumption | omega | simp_all)⟩, ⟨⟨trivial, (by have t_ := rStorm (c); rw [q3] at t_; exact t_)⟩, ⟨⟨trivial, (by have t_ := rShore (s); rw [q2] at t_; exact t_)⟩, ⟨⟨trivial, (by have t_ := pWorst (s) (c); rw [q2, q3] at t_; exact t_)⟩, ⟨⟨trivial, (by have t_ := pLevel (s) (c); rw [q2, q3] at t_; exact t_)⟩, ⟨⟨trivial, (by have t_ := pCheck (s) (c); rw [q2, q3] at t_; exact t_)⟩, hp0⟩⟩⟩⟩⟩⟩⟩⟩⟩
          cases q4 : eqq (min (levelF s (endE false s c)) (levelF s (endE true s c))) (levelF s (endE false s c)) && eqq (max (levelF s (endE false s c)) (levelF s (endE true s c))) (levelF s (endE true s c)) with
          | true =>
            have hp2 : AllP (wLevels_p2 B s c) := by
              try have h1 := shore_facts ‹shoreB s = true›
              try have h2 := tOk_end (b := false) ‹shoreB s = true› ‹stormB c = true›
              try have h3 := tOk_end (b := true) ‹shoreB s = true› ‹stormB c = true›
              try have h4 := levels_mono ‹shoreB s = true› ‹stormB c = true›
              try have h5 := Int.min_eq_left h4
              try have h6 := Int.max_eq_right h4
              exact ⟨⟨trivial, rEndT (s) (c) (by first | with_reducible assumption | omega | simp_all)⟩, ⟨(by first | exact q4 | (rw [q4]; rfl) | (rw [Bool.and_true, q4]; rfl) | (simp_all [eqq_eq]; done)), hp1⟩⟩
            cases q5 : decide (WTruth.wind (endE true s c) = WTruth.wind (endE true s c)) with
            | true =>
              cases q6 : decide (WTruth.fetch (endE true s c) = WTruth.fetch (endE true s c)) with
              | true =>
                cases q7 : decide (WTruth.tide (endE true s c) = WTruth.tide (endE true s c)) with
                | true =>
                  cases q8 : decide (WTruth.loss (endE true s c) = WTruth.loss (endE true s c)) with
                  | true =>
                    cases q9 : decide (WTruth.drags (endE true s c) = WTruth.drags (endE true s c)) with
                    | true =>
                      try have h1 := shore_facts ‹shoreB s = true›
                      try have h2 := tOk_end (b := false) ‹shoreB s = true› ‹stormB c = true›
                      try have h3 := tOk_end (b := true) ‹shoreB s = true› ‹stormB c = true›
                      try have h4 := levels_mono ‹shoreB s = true› ‹stormB c = true›
                      try have h5 := Int.min_eq_left h4
                      try have h6 := Int.max_eq_right h4
                      exact (GoE.endsT okF hJ mixed_ok GoE.start (wLevels_s0 B s c)
                        ⟨⟨trivial, known⟩, ⟨⟨trivial, (by have t_ := rSameTruth (endE true s c) (endE true s c); rw [q5, q6, q7, q8, q9] at t_; exact t_)⟩, hp2⟩⟩).cast rfl
                    | false =>
                      try have h1 := shore_facts ‹shoreB s = true›
                      try have h2 := tOk_end (b := false) ‹shoreB s = true› ‹stormB c = true›
                      try have h3 := tOk_end (b := true) ‹shoreB s = true› ‹stormB c = true›
                      try have h4 := levels_mono ‹shoreB s = true› ‹stormB c = true›
                      try have h5 := Int.min_eq_left h4
                      try have h6 := Int.max_eq_right h4
                      exact (GoE.endsT okF hJ mixed_ok GoE.start (wLevels_s1 B s c)
                        ⟨⟨trivial, (by have t_ := rSameTruth (endE true s c) (endE true s c); rw [q5, q6, q7, q8, q9] at t_; exact t_)⟩, hp2⟩).cast (by first | rfl | (exfalso; rw [h5, h6] at q4; simp [eqq_eq] at q4; done) | (exfalso; simp_all [eqq_eq]; done))
                  | false =>
                    try have h1 := shore_facts ‹shoreB s = true›
                    try have h2 := tOk_end (b := false) ‹shoreB s = true› ‹stormB c = true›
                    try have h3 := tOk_end (b := true) ‹shoreB s = true› ‹stormB c = true›
                    try have h4 := levels_mono ‹shoreB s = true› ‹stormB c = true›
                    try have h5 := Int.min_eq_left h4
                    try have h6 := Int.max_eq_right h4
                    exact (GoE.endsT okF hJ mixed_ok GoE.start (wLevels_s2 B s c)
                      ⟨⟨trivial, (by have t_ := rSameTruth (endE true s c) (endE true s c); rw [q5, q6, q7, q8] at t_; exact t_)⟩, hp2⟩).cast (by first | rfl | (exfalso; rw [h5, h6] at q4; simp [eqq_eq] at q4; done) | (exfalso; simp_all [eqq_eq]; done))
                | false =>
                  try have h1 := shore_facts ‹shoreB s = true›
                  try have h2 := tOk_end (b := false) ‹shoreB s = true› ‹stormB c = true›
                  try have h3 := tOk_end (b := true) ‹shoreB s = true› ‹stormB c = true›
                  try have h4 := levels_mono ‹shoreB s = true› ‹stormB c = true›
                  try have h5 := Int.min_eq_left h4
                  try have h6 := Int.max_eq_right h4
                  exact (GoE.endsT okF hJ mixed_ok GoE.start (wLevels_s3 B s c)
                    ⟨⟨trivial, (by have t_ := rSameTruth (endE true s c) (endE true s c); rw [q5, q6, q7] at t_; exact t_)⟩, hp2⟩).cast (by first | rfl | (exfalso; rw [h5, h6] at q4; simp [eqq_eq] at q4; done) | (exfalso; simp_all [eqq_eq]; done))
              | false =>
                try have h1 := shore_facts ‹shoreB s = true›
                try have h2 := tOk_end (b := false) ‹shoreB s = true› ‹stormB c = true›
                try have h3 := tOk_end (b := true) ‹shoreB s = true› ‹stormB c = true›
                try have h4 := levels_mono ‹shoreB s = true› ‹stormB c = true›
                try have h5 := Int.min_eq_left h4
                try have h6 := Int.max_eq_right h4
                exact (GoE.endsT okF hJ mixed_ok GoE.start (wLevels_s4 B s c)
                  ⟨⟨trivial, (by have t_ := rSameTruth (endE true s c) (endE true s c); rw [q5, q6] at t_; exact t_)⟩, hp2⟩).cast (by first | rfl | (exfalso; rw [h5, h6] at q4; simp [eqq_eq] at q4; done) | (exfalso; simp_all [eqq_eq]; done))
            | false =>
              try have h1 := shore_facts ‹shoreB s = true›
              try have h2 := tOk_end (b := false) ‹shoreB s = true› ‹stormB c = true›
              try have h3 := tOk_end (b := true) ‹shoreB s = true› ‹stormB c = true›
              try have h4 := levels_mono ‹shoreB s = true› ‹stormB c = true›
              try have h5 := Int.min_eq_left h4
              try have h6 := Int.max_eq_right h4
              exact (GoE.endsT okF hJ mixed_ok GoE.start (wLevels_s5 B s c)
                ⟨⟨trivial, (by have t_ := rSameTruth (endE true s c) (endE true s c); rw [q5] at t_; exact t_)⟩, hp2⟩).cast (by first | rfl | (exfalso; rw [h5, h6] at q4; simp [eqq_eq] at q4; done) | (exfalso; simp_all [eqq_eq]; done))
          | false =>
            try have h1 := shore_facts ‹shoreB s = true›
            try have h2 := tOk_end (b := false) ‹shoreB s = true› ‹stormB c = true›
            try have h3 := tOk_end (b := true) ‹shoreB s = true› ‹stormB c = true›
            try have h4 := levels_mono ‹shoreB s = true› ‹stormB c = true›
            try have h5 := Int.min_eq_left h4
            try have h6 := Int.max_eq_right h4
            exact (GoE.endsT okF hJ mixed_ok GoE.start (wLevels_s6 B s c)
              ⟨(by first | exact q4 | (rw [q4]; rfl) | (rw [Bool.and_true, q4]; rfl) | (simp_all [eqq_eq]; done)), hp1⟩).cast (by first | rfl | (exfalso; rw [h5, h6] at q4; simp [eqq_eq] at q4; done) | (exfalso; simp_all [eqq_eq]; done))
        | false =>
          have rj0 : FJ Try.prog B (wLevels_c0 s c) (wLevels_H0 s c) 6 (OO.ret (Value.bool true)) (([] ++ ((6, regO) :: heapL (6 + 1) [])) ++ wLevels_H0 s c) 7 (List.range 6) [] := by
            try have h1 := shore_facts ‹shoreB s = true›
            try have h2 := tOk_end (b := false) ‹shoreB s = true› ‹stormB c = true›
            try have h3 := tOk_end (b := true) ‹shoreB s = true› ‹stormB c = true›
            try have h4 := levels_mono ‹shoreB s = true› ‹stormB c = true›
            try have h5 := Int.min_eq_left h4
            try have h6 := Int.max_eq_right h4
            exact FinK.fjB (GoE.finK okF hJ mixed_ok (under_all (by kernel_rfl)) (writable_of (by kernel_rfl)) ((GoE.refl (P := Try.prog) (B := B) (c0 := wLevels_c0 s c) (under_all (by kernel_rfl))).widen (Wf := ((([]) : List (Nat × KS)).map (·.1))) (by simp) (writable_of (by kernel_rfl))) (wLevels_s7 B s c)
              ⟨⟨trivial, rSame ([]) ([])⟩, trivial⟩) (ex := []) (by kernel_rfl) (lowX_nil _)
          try have h1 := shore_facts ‹shoreB s = true›
          try have h2 := tOk_end (b := false) ‹shoreB s = true› ‹stormB c = true›
          try have h3 := tOk_end (b := true) ‹shoreB s = true› ‹stormB c = true›
          try have h4 := levels_mono ‹shoreB s = true› ‹stormB c = true›
          try have h5 := Int.min_eq_left h4
          try have h6 := Int.max_eq_right h4
          exact (GoE.endsT okF hJ mixed_ok GoE.start (wLevels_s8 B s c)
            ⟨⟨trivial, known⟩, ⟨rj0, ⟨⟨trivial, (by have t_ := rStorm (c); rw [q3] at t_; exact t_)⟩, ⟨⟨trivial, (by have t_ := rShore (s); rw [q2] at t_; exact t_)⟩, ⟨⟨trivial, (by have t_ := pWorst (s) (c); rw [q2, q3] at t_; exact t_)⟩, ⟨⟨trivial, (by have t_ := pLevel (s) (c); rw [q2, q3] at t_; exact t_)⟩, ⟨⟨trivial, (by have t_ := pCheck (s) (c); rw [q2, q3] at t_; exact t_)⟩, hp0⟩⟩⟩⟩⟩⟩⟩).cast rfl
      | false =>
        have rj0 : FJ Try.prog B (wLevels_c1 s c) (wLevels_H1 s c) 6 (OO.ret (Value.bool true)) (([] ++ ((6, regO) :: heapL (6 + 1) [])) ++ wLevels_H1 s c) 7 (List.range 6) [] := by
          try have h1 := shore_facts ‹shoreB s = true›
          try have h2 := tOk_end (b := false) ‹shoreB s = true› ‹stormB c = true›
          try have h3 := tOk_end (b := true) ‹shoreB s = true› ‹stormB c = true›
          try have h4 := levels_mono ‹shoreB s = true› ‹stormB c = true›
          try have h5 := Int.min_eq_left h4
          try have h6 := Int.max_eq_right h4
          exact FinK.fjB (GoE.finK okF hJ mixed_ok (under_all (by kernel_rfl)) (writable_of (by kernel_rfl)) ((GoE.refl (P := Try.prog) (B := B) (c0 := wLevels_c1 s c) (under_all (by kernel_rfl))).widen (Wf := ((([]) : List (Nat × KS)).map (·.1))) (by simp) (writable_of (by kernel_rfl))) (wLevels_s9 B s c)
            ⟨⟨trivial, rSame ([]) ([])⟩, trivial⟩) (ex := []) (by kernel_rfl) (lowX_nil _)
        try have h1 := shore_facts ‹shoreB s = true›
        try have h2 := tOk_end (b := false) ‹shoreB s = true› ‹stormB c = true›
        try have h3 := tOk_end (b := true) ‹shoreB s = true› ‹stormB c = true›
        try have h4 := levels_mono ‹shoreB s = true› ‹stormB c = true›
        try have h5 := Int.min_eq_left h4
        try have h6 := Int.max_eq_right h4
        exact (GoE.endsT okF hJ mixed_ok GoE.start (wLevels_s10 B s c)
          ⟨⟨trivial, known⟩, ⟨rj0, ⟨⟨trivial, (by have t_ := rShore (s); rw [q2] at t_; exact t_)⟩, ⟨⟨trivial, (by have t_ := pWorst (s) (c); rw [q2] at t_; exact t_)⟩, ⟨⟨trivial, (by have t_ := pLevel (s) (c); rw [q2] at t_; exact t_)⟩, ⟨⟨trivial, (by have t_ := pCheck (s) (c); rw [q2] at t_; exact t_)⟩, hp0⟩⟩⟩⟩⟩⟩).cast rfl
    | false =>
      try have h1 := shore_facts ‹shoreB s = true›
      try have h2 := tOk_end (b := false) ‹shoreB s = true› ‹stormB c = true›
      try have h3 := tOk_end (b := true) ‹shoreB s = true› ‹stormB c = true›
      try have h4 := levels_mono ‹shoreB s = true› ‹stormB c = true›
      try have h5 := Int.min_eq_left h4
      try have h6 := Int.max_eq_right h4
      exact (GoE.endsT okF hJ mixed_ok GoE.start (wLevels_s11 B s c)
        ⟨⟨trivial, known⟩, ⟨⟨trivial, (by have t_ := lshort (s); rw [q0, q1] at t_; exact t_)⟩, trivial⟩⟩).cast rfl
  | false =>
    try have h1 := shore_facts ‹shoreB s = true›
    try have h2 := tOk_end (b := false) ‹shoreB s = true› ‹stormB c = true›
    try have h3 := tOk_end (b := true) ‹shoreB s = true› ‹stormB c = true›
    try have h4 := levels_mono ‹shoreB s = true› ‹stormB c = true›
    try have h5 := Int.min_eq_left h4
    try have h6 := Int.max_eq_right h4
    exact (GoE.endsT okF hJ mixed_ok GoE.start (wLevels_s12 B s c)
      ⟨⟨trivial, known⟩, ⟨⟨trivial, (by have t_ := lshort (s); rw [q0] at t_; exact t_)⟩, trivial⟩⟩).cast rfl
theorem wLevels (s : WShore) (c : WStorm)  : PureC Try.prog J0 3 #[.agg (encShore s).toArray, .agg (encStorm c).toArray] (.bool true) :=
  pureC_of (ts := [.agg (encShore s).toArray, .agg (encStorm c).toArray]) J0_st (c0 := entryC Try.prog 3 97 (([.agg (encShore s).toArray, .agg (encStorm c).toArray]).map (pushT 0 4))) (by kernel_rfl) (by kernel_rfl) fun B hJ => wLevels_e s c  hJ
end Go.Proofs.Ytiigkdhaofaijaa

namespace Go.Proofs.Ytiigkdhaofaijaa
open Go Go.CE Go.RowKit
def shSpan : Sh := shS [.int, .int]
def shWCell : Sh := shS [.int, shSpan, .int]
def shWWork : Sh := shS [.int, .int, .int]
def shShore : Sh := shS [.slice shWCell, .slice shWWork, .int, shSpan]
def shStorm : Sh := shS [shSpan, shSpan, shSpan]
theorem dec_span {cs : List Value} (h : shSpan.ok cs) : ∃ s : Span, cs = encSp s := by
  obtain ⟨_, _, rfl, ⟨a, _, rfl⟩, _, _, rfl, ⟨b, _, rfl⟩, rfl⟩ := h
  exact ⟨⟨a, b⟩, rfl⟩
theorem dec_cell {cs : List Value} (h : shWCell.ok cs) : ∃ s : WCell, cs = encWCell s := by
  obtain ⟨_, _, rfl, ⟨a, _, rfl⟩, _, _, rfl, h2, _, _, rfl, ⟨b, _, rfl⟩, rfl⟩ := h
  obtain ⟨d, rfl⟩ := dec_span h2
  exact ⟨⟨a, d.lo, d.hi, b⟩, rfl⟩
theorem dec_work {cs : List Value} (h : shWWork.ok cs) : ∃ s : WWork, cs = encWWork s := by
  obtain ⟨_, _, rfl, ⟨a, _, rfl⟩, _, _, rfl, ⟨b, _, rfl⟩, _, _, rfl, ⟨c, _, rfl⟩, rfl⟩ := h
  exact ⟨⟨a, b, c⟩, rfl⟩
theorem arg_shore {v : Value} (h : shShore.arg v) : ∃ s : WShore, v = .agg (encShore s).toArray := by
  obtain ⟨cs, rfl, h⟩ := h
  obtain ⟨_, _, rfl, h1, _, _, rfl, h2, _, _, rfl, ⟨r, _, rfl⟩, _, _, rfl, h4, rfl⟩ := h
  obtain ⟨xs, rfl⟩ := sh_slice (fun _ => dec_cell) h1
  obtain ⟨ws, rfl⟩ := sh_slice (fun _ => dec_work) h2
  obtain ⟨l, rfl⟩ := dec_span h4
  exact ⟨⟨xs, ws, r, l.lo, l.hi⟩, rfl⟩
theorem arg_storm {v : Value} (h : shStorm.arg v) : ∃ c : WStorm, v = .agg (encStorm c).toArray := by
  obtain ⟨cs, rfl, h⟩ := h
  obtain ⟨_, _, rfl, h1, _, _, rfl, h2, _, _, rfl, h3, rfl⟩ := h
  obtain ⟨a, rfl⟩ := dec_span h1
  obtain ⟨b, rfl⟩ := dec_span h2
  obtain ⟨d, rfl⟩ := dec_span h3
  exact ⟨⟨a.lo, a.hi, b.lo, b.hi, d.lo, d.hi⟩, rfl⟩
theorem levels_all : ∀ trs, ArgAll [shShore, shStorm] trs → PureC Try.prog J0 3 trs.toArray (.bool true) := by
  rintro trs ⟨t0, _, rfl, h0, t1, _, rfl, h1, rfl⟩
  obtain ⟨s, rfl⟩ := arg_shore h0
  obtain ⟨c, rfl⟩ := arg_storm h1
  exact wLevels s c
end Go.Proofs.Ytiigkdhaofaijaa

namespace Go.Proofs.Ytiigkdhaofaijaa
open Go Go.CE Go.ChangeShapes Go.WideShapes Go.RowKit
set_option maxRecDepth 100000 in
theorem wallLevels_lifted (os : Os) (started : os.Started) (H : Type) (enc : TypeId × Value → H) :
    ReturnsInHanded {} Try.checked os 3 .any (Rows.wallLevelsSpec.pre6 enc Try.prog Try.f3 Rows.wallLevelsRow.domain false) (Rows.wallLevelsSpec.post enc Try.prog Try.f3 false true false false) := by
  refine returnsInHanded_of_change (C := Try.checked) (show ownKnob Try.prog.godebug = none by kernel_rfl) started (by kernel_rfl) Try.func3
    (ChangeSpec.witness6 (enc := enc) (C := Try.checked) false ⟨#[], #[Sh.zeroA shShore, Sh.zeroA shStorm], []⟩ 8 (by kernel_rfl) (by kernel_rfl) (by kernel_rfl) (by kernel_rfl)) ?_
  intro W base args ds gs before hval0 hW _ _
  have hval : ∀ (j : Nat) t v, Try.f3.params[j]? = some t → args[j]? = some v → Value.okWide Try.prog W .any base t v := hval0
  have hW' := hW
  obtain ⟨p, q, hA0, hV, rfl, _, _⟩ := hW
  obtain ⟨rfl, rfl⟩ := trodVars_none hV
  have hA1 : DataW.TrodAll enc Try.prog W 0 (fun _ => true) true Try.f3.params.toList args.toList ds p := hA0
  have hlt : ∀ x ∈ p, x.block < W.heap.size := fun x hx => hW'.lt x (by simpa using hx)
  have hch : chkAll Try.prog [shShore, shStorm] Try.f3.params.toList = true := by kernel_rfl
  have hrd : (Try.f3.params.toList.all fun t => Try.prog.readableRec t && decide (t < Try.prog.types.size)) = true := by kernel_rfl
  refine (law_call (J := J0) (ss := [shShore, shStorm]) trivial hch hA1 (fun j t v h1 h2 => hval j t v (by simpa using h1) h2) levels_all).mono fun e W' ⟨he, hB⟩ => ?_
  subst he
  have hB2 := trodAll_below (show laidOutB Try.prog = true by kernel_rfl) hB _ _ _ _ hrd hA1 hlt
  have hA : DataW.TrodAll enc Try.prog W 0 (fun _ => true) true Try.f3.params.toList args.toList ds p := hA1
  rw [Try.params3] at hA
  simp only [List.toList_toArray] at hA
  have hA := hA
  obtain ⟨v0, vs0, d0, ds0, p0, q0, _, rfl, _, h0, _⟩ := CE.trodAll_cons hA
  obtain ⟨v1, vs1, d1, ds1, p1, q1, _, rfl, _, h1, _⟩ := CE.trodAll_cons h0
  obtain ⟨_, rfl, _⟩ := CE.trodAll_nil h1
  exact ⟨_, rfl, _, _, _, [], _, [], hW', trodAll_mk1 (shut_bool Try.underlying4 _), hB2, rfl, hB.frame _, fun h => by cases h⟩
theorem wallLevels_row : Rows.WallLevelsSaid :=
  OpenClaim.holds_of_wide 3 Try.f3 rfl rfl rfl rfl rfl rfl rfl ⟨rfl, rfl, rfl, rfl, rfl⟩ rfl rfl rfl rfl rfl (by kernel_rfl) Try.func3 (by kernel_rfl)
    (of_decide_eq_true (by kernel_rfl)) (by unfold Func.isWrapper; first | (rw [if_pos (by decide +kernel)]; kernel_rfl) | (rw [if_neg (by decide +kernel)]; exact ⟨rfl, rfl⟩))
    (fun os started H enc _ => wallLevels_lifted os started H enc)
end Go.Proofs.Ytiigkdhaofaijaa
