/- WallMore: what the law returns. -/
import Derived.Test.YtiigkdhaofaijaaZWM14
import Derived.Test.YtiigkdhaofaijaaZWM13
set_option linter.all false
namespace Go.Proofs.Ytiigkdhaofaijaa
open Go Go.CE Go.RowKit
set_option maxRecDepth 100000
def lowL : List Span → List Span → Bool
 | [], [] => true
 | a :: l, b :: m => (decide (a.lo ≤ b.lo) && decide (a.hi ≤ b.hi)) && lowL l m
 | _, _ => false
theorem lowL_cons {us vs : List Span} {i : Int} (h0 : 0 ≤ i) (h1 : i < us.length) (h2 : i < vs.length) : lowL (us.drop i.toNat) (vs.drop i.toNat) = ((decide ((us.getD i.toNat default).lo ≤ (vs.getD i.toNat default).lo) && decide ((us.getD i.toNat default).hi ≤ (vs.getD i.toNat default).hi)) && lowL (us.drop (i + 1).toNat) (vs.drop (i + 1).toNat)) := by
 rw [drop_cons h0 h1, drop_cons h0 h2]; rfl
theorem lowL_end {us vs : List Span} {i : Int} (h0 : 0 ≤ i) (h1 : i ≤ us.length) (h2 : i ≤ vs.length) (h : us.length ≤ i ∨ vs.length ≤ i) : lowL (us.drop i.toNat) (vs.drop i.toNat) = decide (us.length = vs.length) := by
 rcases Nat.lt_trichotomy us.length vs.length with h3 | h3 | h3
 ·rw [drop_end (xs := us) (by omega), drop_cons (xs := vs) h0 (by omega), decide_eq_false (by omega)]; rfl
 ·rw [drop_end (xs := us) (by omega), drop_end (xs := vs) (by omega), decide_eq_true h3]; rfl
 ·rw [drop_cons (xs := us) h0 (by omega), drop_end (xs := vs) (by omega), decide_eq_false (by omega)]; rfl
theorem lowL_zip : ∀ {us vs us' vs' : List Int}, leL us us' → leL vs vs' → us.length = vs.length → lowL (zipS us vs) (zipS us' vs') = true
 | [], [], [], [], _, _, _ => rfl
 | a :: us, b :: vs, c :: us', d :: vs', h1, h2, h => by
   show ((decide (a ≤ c) && decide (b ≤ d)) && lowL (zipS us vs) (zipS us' vs')) = true
   rw [lowL_zip h1.2 h2.2 (by simpa using h), decide_eq_true h1.1, decide_eq_true h2.1]; rfl
 | [], _ :: _, _, _, _, _, h => by simp at h
 | _ :: _, [], _, _, _, _, h => by simp at h
 | [], [], _ :: _, _, h, _, _ => h.elim
 | [], [], [], _ :: _, _, h, _ => h.elim
 | _ :: _, _ :: _, [], _, h, _, _ => h.elim
 | _ :: _, _ :: _, _ :: _, [], _, h, _ => h.elim
def lLower_v0 (us vs : List Span) (i : Int) : List Value := [topV 1 (slT us.length (rowL encSp us)), topV 1 (slT vs.length (rowL encSp vs)), .int .i64 i]
def lLower_o0 (us vs : List Span) (i : Int) : List Obj := []
noncomputable def lLower_t0 : List Item := ([.code [1, 0, 1, 0, 0], .inLoop [1, 0, 1, 0, 0], .inBlock 0, .code [1, 1]]).map (it (bodyOf Try.prog 48))
def lLower_h0 (B : Lo) (c0 : CF) (us vs : List Span) (i : Int) : Prop := ∃ dJ : Nat → Value, (∀ t, Loose (dJ t)) ∧ GoE Try.prog B c0 H00 1 (headC 48 47 (([0, 1, 5] : List Nat).zip (lLower_v0 us vs i)) dJ lLower_t0) (headH (lLower_o0 us vs i)) (2 + (lLower_o0 us vs i).length) []
noncomputable def lLower_z0 (vs : List Span) (i : Int) : Array Value := #[.int .i64 (Span.lo (List.getD vs i.toNat default)), .int .i64 (Span.hi (List.getD vs i.toNat default))]
noncomputable def lLower_z1 (us : List Span) (i : Int) : Array Value := #[.int .i64 (Span.lo (List.getD us i.toNat default)), .int .i64 (Span.hi (List.getD us i.toNat default))]
noncomputable def lLower_p0 (B : Lo) (us vs : List Span) (i : Int) (dJ0 : Nat → Value) : List Prop := [ltq i (↑us.length : Int) = true] ++ ([] : List Prop)
noncomputable def lLower_q0 (us vs : List Span) (i : Int) (dJ0 : Nat → Value) : ScriptT := [(3, hvT)]
noncomputable def lLower_p1 (B : Lo) (us vs : List Span) (i : Int) (dJ0 : Nat → Value) : List Prop := [i = (↑i.toNat : Int) ∧ Int.toNat i < List.length vs ∧ Array.extract (rowL encSp vs) (Int.toNat i * TypeInfo.size Try.t25) (Int.toNat i * TypeInfo.size Try.t25 + TypeInfo.size Try.t25) = (lLower_z0 vs i), i = (↑i.toNat : Int) ∧ Int.toNat i < List.length us ∧ Array.extract (rowL encSp us) (Int.toNat i * TypeInfo.size Try.t25) (Int.toNat i * TypeInfo.size Try.t25 + TypeInfo.size Try.t25) = (lLower_z1 us i), ltq i (↑vs.length : Int) = true] ++ lLower_p0 B us vs i dJ0
noncomputable def lLower_q1 (us vs : List Span) (i : Int) (dJ0 : Nat → Value) : ScriptT := lLower_q0 us vs i dJ0 ++ [(8, hvT), (12, HintT.tidx i.toNat (lLower_z1 us i)), (17, HintT.tidx i.toNat (lLower_z0 vs i))]
theorem lLower_s0 (B : Lo) (us vs : List Span) (i : Int) (dJ0 : Nat → Value) : endT (srunT Try.prog (okFn Try.prog) J0 B 14 1 (headC 48 47 (([0, 1, 5] : List Nat).zip (lLower_v0 us vs i)) dJ0 lLower_t0) (headH (lLower_o0 us vs i)) (2 + (lLower_o0 us vs i).length)
 (lLower_q1 us vs i dJ0 ++ [(20, hvT)]) 0 [] []) [] = some (Value.bool false,
 [ltq (Span.lo (List.getD vs i.toNat default)) (Span.lo (List.getD us i.toNat default)) = true] ++ lLower_p1 B us vs i dJ0) := by kernel_rfl
noncomputable def lLower_p2 (B : Lo) (us vs : List Span) (i : Int) (dJ0 : Nat → Value) : List Prop := [i = (↑i.toNat : Int) ∧ Int.toNat i < List.length vs ∧ Array.extract (rowL encSp vs) (Int.toNat i * TypeInfo.size Try.t25) (Int.toNat i * TypeInfo.size Try.t25 + TypeInfo.size Try.t25) = (lLower_z0 vs i), i = (↑i.toNat : Int) ∧ Int.toNat i < List.length us ∧ Array.extract (rowL encSp us) (Int.toNat i * TypeInfo.size Try.t25) (Int.toNat i * TypeInfo.size Try.t25 + TypeInfo.size Try.t25) = (lLower_z1 us i), ltq (Span.lo (List.getD vs i.toNat default)) (Span.lo (List.getD us i.toNat default)) = false] ++ lLower_p1 B us vs i dJ0
noncomputable def lLower_q2 (us vs : List Span) (i : Int) (dJ0 : Nat → Value) : ScriptT := lLower_q1 us vs i dJ0 ++ [(20, hvF), (24, HintT.tidx i.toNat (lLower_z1 us i)), (29, HintT.tidx i.toNat (lLower_z0 vs i))]
theorem lLower_s1 (B : Lo) (us vs : List Span) (i : Int) (dJ0 : Nat → Value) : endT (srunT Try.prog (okFn Try.prog) J0 B 14 1 (headC 48 47 (([0, 1, 5] : List Nat).zip (lLower_v0 us vs i)) dJ0 lLower_t0) (headH (lLower_o0 us vs i)) (2 + (lLower_o0 us vs i).length)
 (lLower_q2 us vs i dJ0 ++ [(32, hvT)]) 0 [] []) [] = some (Value.bool false,
 [ltq (Span.hi (List.getD vs i.toNat default)) (Span.hi (List.getD us i.toNat default)) = true] ++ lLower_p2 B us vs i dJ0) := by kernel_rfl
theorem lLower_s2 (B : Lo) (us vs : List Span) (i : Int) (dJ0 : Nat → Value) : landM (srunT Try.prog (okFn Try.prog) J0 B 14 1 (headC 48 47 (([0, 1, 5] : List Nat).zip (lLower_v0 us vs i)) dJ0 lLower_t0) (headH (lLower_o0 us vs i)) (2 + (lLower_o0 us vs i).length)
 (lLower_q2 us vs i dJ0 ++ [(32, hvF), (35, hvI (i + 1))]) 0 [] []) [0, 1, 5] [] [] = some ⟨48, 47, lLower_t0, [], .run, none, lLower_v0 us vs (i + 1), lLower_o0 us vs (i + 1),
 [wq (i + 1) = i + 1, ltq (Span.hi (List.getD vs i.toNat default)) (Span.hi (List.getD us i.toNat default)) = false] ++ lLower_p2 B us vs i dJ0⟩ := by kernel_rfl
noncomputable def lLower_p3 (B : Lo) (us vs : List Span) (i : Int) (dJ0 : Nat → Value) : List Prop := [ltq i (↑vs.length : Int) = false] ++ lLower_p0 B us vs i dJ0
noncomputable def lLower_q3 (us vs : List Span) (i : Int) (dJ0 : Nat → Value) : ScriptT := lLower_q0 us vs i dJ0 ++ [(8, hvF)]
theorem lLower_s3 (B : Lo) (us vs : List Span) (i : Int) (dJ0 : Nat → Value) : endT (srunT Try.prog (okFn Try.prog) J0 B 9 1 (headC 48 47 (([0, 1, 5] : List Nat).zip (lLower_v0 us vs i)) dJ0 lLower_t0) (headH (lLower_o0 us vs i)) (2 + (lLower_o0 us vs i).length)
 (lLower_q3 us vs i dJ0 ++ [(14, hvT)]) 0 [] []) [] = some (Value.bool true,
 [eqq (↑us.length : Int) (↑vs.length : Int) = true] ++ lLower_p3 B us vs i dJ0) := by kernel_rfl
theorem lLower_s4 (B : Lo) (us vs : List Span) (i : Int) (dJ0 : Nat → Value) : endT (srunT Try.prog (okFn Try.prog) J0 B 9 1 (headC 48 47 (([0, 1, 5] : List Nat).zip (lLower_v0 us vs i)) dJ0 lLower_t0) (headH (lLower_o0 us vs i)) (2 + (lLower_o0 us vs i).length)
 (lLower_q3 us vs i dJ0 ++ [(14, hvF)]) 0 [] []) [] = some (Value.bool false,
 [eqq (↑us.length : Int) (↑vs.length : Int) = false] ++ lLower_p3 B us vs i dJ0) := by kernel_rfl
noncomputable def lLower_p4 (B : Lo) (us vs : List Span) (i : Int) (dJ0 : Nat → Value) : List Prop := [ltq i (↑us.length : Int) = false] ++ ([] : List Prop)
noncomputable def lLower_q4 (us vs : List Span) (i : Int) (dJ0 : Nat → Value) : ScriptT := [(3, hvF)]
theorem lLower_s5 (B : Lo) (us vs : List Span) (i : Int) (dJ0 : Nat → Value) : endT (srunT Try.prog (okFn Try.prog) J0 B 9 1 (headC 48 47 (([0, 1, 5] : List Nat).zip (lLower_v0 us vs i)) dJ0 lLower_t0) (headH (lLower_o0 us vs i)) (2 + (lLower_o0 us vs i).length)
 (lLower_q4 us vs i dJ0 ++ [(14, hvT)]) 0 [] []) [] = some (Value.bool true,
 [eqq (↑us.length : Int) (↑vs.length : Int) = true] ++ lLower_p4 B us vs i dJ0) := by kernel_rfl
theorem lLower_s6 (B : Lo) (us vs : List Span) (i : Int) (dJ0 : Nat → Value) : endT (srunT Try.prog (okFn Try.prog) J0 B 9 1 (headC 48 47 (([0, 1, 5] : List Nat).zip (lLower_v0 us vs i)) dJ0 lLower_t0) (headH (lLower_o0 us vs i)) (2 + (lLower_o0 us vs i).length)
 (lLower_q4 us vs i dJ0 ++ [(14, hvF)]) 0 [] []) [] = some (Value.bool false,
 [eqq (↑us.length : Int) (↑vs.length : Int) = false] ++ lLower_p4 B us vs i dJ0) := by kernel_rfl
theorem lLower_s7 (B : Lo) (us vs : List Span) : landM (srunT Try.prog (okFn Try.prog) J0 B 7 1 (entryC Try.prog 48 47 (([slSp us, slSp vs]).map (pushT 0 4))) H00 1
 [] 0 [] []) [0, 1, 5] [] [] = some ⟨48, 47, lLower_t0, [], .run, none, lLower_v0 us vs (0), lLower_o0 us vs (0),
 []⟩ := by kernel_rfl
set_option maxHeartbeats 4000000 in
theorem lLower_ls (us vs : List Span)  (hfacts : us.length ≤ 9223372036854775807 ∧ vs.length ≤ 9223372036854775807) {B : Lo} (hJ : ∀ w, B.has w → J0 w) {c0 : CF} : ∀ m : Nat, (∀ (i : Int), us.length - i.toNat = m → ∀ (h0 : 0 ≤ i) (h1 : i ≤ us.length) (h2 : i ≤ vs.length), lLower_h0 B c0 us vs i → EndsT Try.prog B c0 (.bool (lowL (us.drop i.toNat) (vs.drop i.toNat)))) := by
 intro m0
 induction m0 using Nat.strongRecOn with
 | _ m0 ih0 =>
   intro i hm0 h0 h1 h2 ⟨dJ0, hdJ0, hg0⟩
   by_cases q0 : (i : Int) < ((↑us.length : Int))
   ·
    have hp0 : AllP (lLower_p0 B us vs i dJ0) := by
     exact ⟨(ltq_t q0), trivial⟩
    by_cases q1 : (i : Int) < ((↑vs.length : Int))
    ·
     have hp1 : AllP (lLower_p1 B us vs i dJ0) := by
      have s2 := lowL_cons (us := us) (vs := vs) h0 (by omega) (by omega)
      exact ⟨⟨by omega, by omega, (rowL_extract (z := 2) (fun _ => rfl) (by omega))⟩, ⟨⟨by omega, by omega, (rowL_extract (z := 2) (fun _ => rfl) (by omega))⟩, ⟨(ltq_t q1), hp0⟩⟩⟩
     by_cases q2 : (Span.lo (List.getD vs i.toNat default) : Int) < (Span.lo (List.getD us i.toNat default))
     ·
      have s2 := lowL_cons (us := us) (vs := vs) h0 (by omega) (by omega)
      exact (GoE.endsT okF hJ mixed_ok hg0 (lLower_s0 B us vs i dJ0)
       ⟨(ltq_t q2), hp1⟩).cast (by (rw [s2]; simp_all; omega))
     ·
      have hp2 : AllP (lLower_p2 B us vs i dJ0) := by
       have s2 := lowL_cons (us := us) (vs := vs) h0 (by omega) (by omega)
       exact ⟨⟨by omega, by omega, (rowL_extract (z := 2) (fun _ => rfl) (by omega))⟩, ⟨⟨by omega, by omega, (rowL_extract (z := 2) (fun _ => rfl) (by omega))⟩, ⟨(ltq_f (Int.not_lt.1 q2)), hp1⟩⟩⟩
      by_cases q3 : (Span.hi (List.getD vs i.toNat default) : Int) < (Span.hi (List.getD us i.toNat default))
      ·
       have s2 := lowL_cons (us := us) (vs := vs) h0 (by omega) (by omega)
       exact (GoE.endsT okF hJ mixed_ok hg0 (lLower_s1 B us vs i dJ0)
        ⟨(ltq_t q3), hp2⟩).cast (by (rw [s2]; simp_all; omega))
      ·
       have s2 := lowL_cons (us := us) (vs := vs) h0 (by omega) (by omega)
       exact ((ih0 _ (by omega)) (i + 1) rfl (by omega) (by omega) (by omega)
        (hg0.landM okF hJ mixed_ok (lLower_s2 B us vs i dJ0)
        ⟨(wq_in (by omega) (by omega)), ⟨(ltq_f (Int.not_lt.1 q3)), hp2⟩⟩ (by kernel_rfl) (by kernel_rfl))).cast (by (rw [s2]; simp_all; done))
    ·
     have hp3 : AllP (lLower_p3 B us vs i dJ0) := by
      exact ⟨(ltq_f (Int.not_lt.1 q1)), hp0⟩
     by_cases q2 : ((↑us.length : Int) : Int) = ((↑vs.length : Int))
     ·
      have s2 := lowL_cons (us := us) (vs := vs) h0 (by omega) (by omega)
      have s2 := lowL_end (us := us) (vs := vs) h0 h1 h2 (by omega)
      exact (GoE.endsT okF hJ mixed_ok hg0 (lLower_s3 B us vs i dJ0)
       ⟨(eqq_t q2), hp3⟩).cast (by (rw [s2, decide_eq_true (by omega)]; done))
     ·
      have s2 := lowL_end (us := us) (vs := vs) h0 h1 h2 (by omega)
      exact (GoE.endsT okF hJ mixed_ok hg0 (lLower_s4 B us vs i dJ0)
       ⟨(eqq_f q2), hp3⟩).cast (by (rw [s2, decide_eq_false (by omega)]; done))
   ·
    have hp4 : AllP (lLower_p4 B us vs i dJ0) := by
     exact ⟨(ltq_f (Int.not_lt.1 q0)), trivial⟩
    by_cases q1 : ((↑us.length : Int) : Int) = ((↑vs.length : Int))
    ·
     have s2 := lowL_end (us := us) (vs := vs) h0 h1 h2 (by omega)
     exact (GoE.endsT okF hJ mixed_ok hg0 (lLower_s5 B us vs i dJ0)
      ⟨(eqq_t q1), hp4⟩).cast (by (rw [s2, decide_eq_true (by omega)]; done))
    ·
     have s2 := lowL_end (us := us) (vs := vs) h0 h1 h2 (by omega)
     exact (GoE.endsT okF hJ mixed_ok hg0 (lLower_s6 B us vs i dJ0)
      ⟨(eqq_f q1), hp4⟩).cast (by (rw [s2, decide_eq_false (by omega)]; done))
set_option maxHeartbeats 4000000 in
theorem lLower_e (us vs : List Span)  (hfacts : us.length ≤ 9223372036854775807 ∧ vs.length ≤ 9223372036854775807) {B : Lo} (hJ : ∀ w, B.has w → J0 w) : EndsT Try.prog B (entryC Try.prog 48 47 (([slSp us, slSp vs]).map (pushT 0 4))) (.bool (lowL us vs)) := by
 exact ((lLower_ls us vs hfacts hJ _) (0) rfl (by omega) (by omega) (by omega)
  (GoE.start.landM okF hJ mixed_ok (lLower_s7 B us vs)
  trivial (by kernel_rfl) (by kernel_rfl))).cast (by rfl)
theorem lLower (us vs : List Span)  : PureC Try.prog J0 48 #[slSp us, slSp vs] (.bool (lowL us vs)) :=
 pureC_ofF (ts := [slSp us, slSp vs]) (us.length ≤ 9223372036854775807 ∧ vs.length ≤ 9223372036854775807) (fun _ _ ht => ⟨ht.ln (i := 0) rfl, ht.ln (i := 1) rfl⟩) J0_st (c0 := entryC Try.prog 48 47 (([slSp us, slSp vs]).map (pushT 0 4))) (by kernel_rfl) (by kernel_rfl) fun hfacts B hJ => lLower_e us vs  hfacts hJ
theorem rShoreC (cs : List WCell) (ws : List WWork) (r l h : Int) (m : Nat) (hm : m = ws.length) : PureC Try.prog J0 19 #[.agg #[slC cs, slT m (rowL encWWork ws), .int .i64 r, .int .i64 l, .int .i64 h]] (.bool (shoreB ⟨cs, ws, r, l, h⟩)) := by subst hm; exact rShore ⟨cs, ws, r, l, h⟩
theorem pDepthsC (cs : List WCell) (ws : List WWork) (r l h : Int) (c : WStorm) (plan : List Int) (m n : Nat) (hm : m = ws.length) (hn : n = plan.length) : PureC Try.prog J0 29 #[.agg #[slC cs, slT m (rowL encWWork ws), .int .i64 r, .int .i64 l, .int .i64 h], .agg (encStorm c).toArray, slT n (rowL encI plan)] (.tuple #[if (shoreB ⟨cs, ws, r, l, h⟩ && stormB c) && planB ⟨cs, ws, r, l, h⟩ plan then slSp (zipS (playL ⟨cs, ws, r, l, h⟩ plan (endE false ⟨cs, ws, r, l, h⟩ c)) (playL ⟨cs, ws, r, l, h⟩ plan (endE true ⟨cs, ws, r, l, h⟩ c))) else slSp [], .int .i64 (if (shoreB ⟨cs, ws, r, l, h⟩ && stormB c) && planB ⟨cs, ws, r, l, h⟩ plan then 0 else 2)]) := by subst hm hn; exact pDepths ⟨cs, ws, r, l, h⟩ c plan
theorem pDepthsS (s : WShore) (wl wh fl fh tl th : Int) (plan : List Int) : PureC Try.prog J0 29 #[.agg (encShore s).toArray, .agg #[.int .i64 wl, .int .i64 wh, .int .i64 fl, .int .i64 fh, .int .i64 tl, .int .i64 th], slI plan] (.tuple #[if (shoreB s && stormB ⟨wl, wh, fl, fh, tl, th⟩) && planB s plan then slSp (zipS (playL s plan (endE false s ⟨wl, wh, fl, fh, tl, th⟩)) (playL s plan (endE true s ⟨wl, wh, fl, fh, tl, th⟩))) else slSp [], .int .i64 (if (shoreB s && stormB ⟨wl, wh, fl, fh, tl, th⟩) && planB s plan then 0 else 2)]) := pDepths s ⟨wl, wh, fl, fh, tl, th⟩ plan
theorem workOf_app {s : WShore} {w : WWork} {k : Int} (h : k < s.works.length) : workOf ⟨s.cells, s.works ++ [w], s.reef, s.llo, s.lhi⟩ k = workOf s k := by
 unfold workOf
 split
 ·simp [List.getD_eq_getElem?_getD, List.getElem?_append_left (show k.toNat < s.works.length by omega)]
 ·rfl
theorem workOf_last {s : WShore} {w : WWork} : workOf ⟨s.cells, s.works ++ [w], s.reef, s.llo, s.lhi⟩ (s.works.length : Int) = w := by
 unfold workOf
 rw [if_pos (by omega)]
 simp [List.getD_eq_getElem?_getD]
theorem getD_set_ne {l : List Int} {i k : Int} {x : Int} (hk : 0 ≤ k) (hi : 0 ≤ i) (h : i ≠ k) : (l.set k.toNat x).getD i.toNat default = l.getD i.toNat default := by
 simp [List.getD_eq_getElem?_getD, List.getElem?_set, show k.toNat ≠ i.toNat by omega]
theorem getD_set_eq {l : List Int} {k : Int} {x : Int} (hk : 0 ≤ k) (h : k < l.length) : (l.set k.toNat x).getD k.toNat default = x := by
 simp [List.getD_eq_getElem?_getD, show k.toNat < l.length by omega]
theorem plan_better {s : WShore} {plan : List Int} {w : WWork} {k : Int} (hp : planB s plan = true) : planB ⟨s.cells, s.works ++ [w], s.reef, s.llo, s.lhi⟩ (plan.set k.toNat s.works.length) = true := by
 have h := plan_facts hp
 simp only [planB, Bool.and_eq_true, decide_eq_true_iff, List.all_eq_true, inB_iff, List.length_set, List.length_append, List.length_singleton]
 refine ⟨h.1, fun x hx => ?_⟩
 rcases List.mem_or_eq_of_mem_set hx with hx | rfl
 ·have := h.2 x hx; omega
 ·omega
theorem low_x {s : WShore} {c : WStorm} {plan : List Int} {w : WWork} {k : Int} (hs : shoreB s = true) (hc : stormB c = true) (hp : planB s plan = true) (hk : 0 ≤ k) (hk2 : k < s.cells.length) (hx : shoreB ⟨s.cells, s.works ++ [w], s.reef, s.llo, s.lhi⟩ = true)
 (hw : 0 ≤ plan.getD k.toNat default → (s.works.getD (plan.getD k.toNat default).toNat default).rise ≤ w.rise ∧ (s.works.getD (plan.getD k.toNat default).toNat default).calm ≤ w.calm) :
 lowL (zipS (playL ⟨s.cells, s.works ++ [w], s.reef, s.llo, s.lhi⟩ (plan.set k.toNat s.works.length) (endE false ⟨s.cells, s.works ++ [w], s.reef, s.llo, s.lhi⟩ c)) (playL ⟨s.cells, s.works ++ [w], s.reef, s.llo, s.lhi⟩ (plan.set k.toNat s.works.length) (endE true ⟨s.cells, s.works ++ [w], s.reef, s.llo, s.lhi⟩ c))) (zipS (playL s plan (endE false s c)) (playL s plan (endE true s c))) = true := by
 have hpf := plan_facts hp
 have hwf := work_facts ((shore_facts hx).2.2.2.2.2 w (by simp))
 have key : ∀ b, leL (playL ⟨s.cells, s.works ++ [w], s.reef, s.llo, s.lhi⟩ (plan.set k.toNat s.works.length) (endE b ⟨s.cells, s.works ++ [w], s.reef, s.llo, s.lhi⟩ c)) (playL s plan (endE b s c)) := fun b => by
  refine playI_mono _ _ _ _ _ (fun i hi => ?_) (Int.le_refl _) id
  obtain ⟨i0, i1⟩ := mem_upI.1 hi
  have i1 : i < (s.cells.length : Int) := i1
  have hwi := wk_in hs hp i0 i1
  refine ⟨rfl, hwi.1.1, ?_⟩
  by_cases e : i = k
  ·subst e
   have e1 : wk ⟨s.cells, s.works ++ [w], s.reef, s.llo, s.lhi⟩ (plan.set i.toNat s.works.length) i = w := by
    unfold wk; rw [getD_set_eq i0 (by omega), workOf_last]
   rw [e1]
   by_cases h : 0 ≤ plan.getD i.toNat default
   ·rw [wk_pos h]; have := hw h; exact ⟨this.1, Int.add_le_add (Int.le_refl _) this.2⟩
   ·rw [wk_neg h]; exact ⟨hwf.1.1, Int.add_le_add (Int.le_refl _) hwf.2.1.1⟩
  ·have e1 : wk ⟨s.cells, s.works ++ [w], s.reef, s.llo, s.lhi⟩ (plan.set k.toNat s.works.length) i = wk s plan i := by
    unfold wk
    rw [getD_set_ne hk i0 e, workOf_app (hpf.2 _ (getD_mem (l := plan) (i := i) i0 (by omega))).2]
   rw [e1]
   exact ⟨Int.le_refl _, Int.le_refl _⟩
 exact lowL_zip (key false) (key true) (by rw [playL_len, playL_len])
theorem shore_y {s : WShore} {n : Int} (hs : shoreB s = true) (hn : 0 ≤ n) : shoreB ⟨s.cells, s.works, min 20 (s.reef + n), s.llo, s.lhi⟩ = true := by
 have h := (shore_facts hs).2.2.1
 simp only [shoreB, Bool.and_eq_true, inB_iff, spanB_iff] at hs ⊢
 exact ⟨hs.1, hs.2.1, by omega, hs.2.2.2⟩
theorem low_y {s : WShore} {c : WStorm} {plan : List Int} {n : Int} (hs : shoreB s = true) (hc : stormB c = true) (hp : planB s plan = true) (hn : 0 ≤ n) :
 lowL (zipS (playL ⟨s.cells, s.works, min 20 (s.reef + n), s.llo, s.lhi⟩ plan (endE false ⟨s.cells, s.works, min 20 (s.reef + n), s.llo, s.lhi⟩ c)) (playL ⟨s.cells, s.works, min 20 (s.reef + n), s.llo, s.lhi⟩ plan (endE true ⟨s.cells, s.works, min 20 (s.reef + n), s.llo, s.lhi⟩ c))) (zipS (playL s plan (endE false s c)) (playL s plan (endE true s c))) = true := by
 have hr := (shore_facts hs).2.2.1
 have hy := shore_y hs hn
 have key : ∀ b, leL (playL ⟨s.cells, s.works, min 20 (s.reef + n), s.llo, s.lhi⟩ plan (endE b ⟨s.cells, s.works, min 20 (s.reef + n), s.llo, s.lhi⟩ c)) (playL s plan (endE b s c)) := fun b => by
  refine playI_mono _ _ _ _ _ (fun i hi => ?_) (level_mono (tOk_end hy hc) (tOk_end hs hc) (by show s.reef ≤ min 20 (s.reef + n); omega) (Int.le_refl _) (Int.le_refl _) (Int.le_refl _) (Int.le_refl _)) id
  obtain ⟨i0, i1⟩ := mem_upI.1 hi
  have i1 : i < (s.cells.length : Int) := i1
  exact ⟨rfl, (wk_in hs hp i0 i1).1.1, Int.le_refl _, Int.le_refl _⟩
 exact lowL_zip (key false) (key true) (by rw [playL_len, playL_len])
theorem storm_z {c : WStorm} {n : Int} (hc : stormB c = true) (hn : 0 ≤ n) : stormB ⟨max 0 (c.wlo - n), max 0 (c.whi - n), c.flo, c.fhi, max (-5000) (c.tlo - n), max (-5000) (c.thi - n)⟩ = true := by
 have h := storm_facts hc
 simp only [stormB, Bool.and_eq_true, spanB_iff] at hc ⊢
 omega
theorem low_z {s : WShore} {c : WStorm} {plan : List Int} {n : Int} (hs : shoreB s = true) (hc : stormB c = true) (hp : planB s plan = true) (hn : 0 ≤ n) :
 lowL (zipS (playL s plan (endE false s ⟨max 0 (c.wlo - n), max 0 (c.whi - n), c.flo, c.fhi, max (-5000) (c.tlo - n), max (-5000) (c.thi - n)⟩)) (playL s plan (endE true s ⟨max 0 (c.wlo - n), max 0 (c.whi - n), c.flo, c.fhi, max (-5000) (c.tlo - n), max (-5000) (c.thi - n)⟩))) (zipS (playL s plan (endE false s c)) (playL s plan (endE true s c))) = true := by
 have hz := storm_z (n := n) hc hn
 have h := storm_facts hc
 have key : ∀ b, leL (playL s plan (endE b s ⟨max 0 (c.wlo - n), max 0 (c.whi - n), c.flo, c.fhi, max (-5000) (c.tlo - n), max (-5000) (c.thi - n)⟩)) (playL s plan (endE b s c)) := fun b => by
  refine playI_mono _ _ _ _ _ (fun i hi => ?_) (level_mono (tOk_end hs hz) (tOk_end hs hc) (Int.le_refl _) ?_ ?_ ?_ ?_) id
  ·obtain ⟨i0, i1⟩ := mem_upI.1 hi
   exact ⟨rfl, (wk_in hs hp i0 i1).1.1, Int.le_refl _, Int.le_refl _⟩
  ·cases b <;> simp only [endE, cond_true, cond_false] <;> omega
  ·exact Int.le_refl _
  ·cases b <;> simp only [endE, cond_true, cond_false] <;> omega
  ·exact Int.le_refl _
 exact lowL_zip (key false) (key true) (by rw [playL_len, playL_len])
abbrev shX (s : WShore) (ws : List WWork) : WShore := ⟨s.cells, ws, s.reef, s.llo, s.lhi⟩
abbrev shY (s : WShore) (n : Int) : WShore := ⟨s.cells, s.works, if s.reef + n < 20 then s.reef + n else 20, s.llo, s.lhi⟩
abbrev stZ (c : WStorm) (n : Int) : WStorm := ⟨if c.wlo - n > 0 then c.wlo - n else 0, if c.whi - n > 0 then c.whi - n else 0, c.flo, c.fhi, if c.tlo - n > -5000 then c.tlo - n else -5000, if c.thi - n > -5000 then c.thi - n else -5000⟩
theorem stZ_eq {c : WStorm} {n : Int} : stZ c n = ⟨max 0 (c.wlo - n), max 0 (c.whi - n), c.flo, c.fhi, max (-5000) (c.tlo - n), max (-5000) (c.thi - n)⟩ := by
 unfold stZ; congr 1 <;> split <;> omega
theorem shY_eq {s : WShore} {n : Int} : shY s n = ⟨s.cells, s.works, min 20 (s.reef + n), s.llo, s.lhi⟩ := by
 unfold shY; congr 1; split <;> omega
theorem no_planX {s : WShore} {plan : List Int} {k : Int} {ws : List WWork} {w : WWork} (hp : planB s plan = true) (hf : planB (shX s ws) (plan.set k.toNat s.works.length) = false) (hws : ws = s.works ++ [w]) : False := by
 subst hws; rw [show shX s (s.works ++ [w]) = ⟨s.cells, s.works ++ [w], s.reef, s.llo, s.lhi⟩ from rfl, plan_better hp] at hf; cases hf
theorem no_shoreY {s : WShore} {n : Int} (hs : shoreB s = true) (hf : shoreB (shY s n) = false) (hn : 0 ≤ n) : False := by
 rw [shY_eq, shore_y hs hn] at hf; cases hf
theorem no_planY {s : WShore} {plan : List Int} {n : Int} (hp : planB s plan = true) (hf : planB (shY s n) plan = false) : False := by
 have e : planB (shY s n) plan = planB s plan := rfl
 rw [e, hp] at hf; cases hf
theorem no_stormZ {c : WStorm} {n : Int} (hc : stormB c = true) (hf : stormB (stZ c n) = false) (hn : 0 ≤ n) : False := by
 rw [stZ_eq, storm_z hc hn] at hf; cases hf
theorem no_x {s : WShore} {c : WStorm} {plan : List Int} {k : Int} {ws : List WWork} {w : WWork} (hs : shoreB s = true) (hc : stormB c = true) (hp : planB s plan = true) (hk : inB k 0 (s.cells.length - 1) = true)
 (hf : lowL (zipS (playL (shX s ws) (plan.set k.toNat s.works.length) (endE false (shX s ws) c)) (playL (shX s ws) (plan.set k.toNat s.works.length) (endE true (shX s ws) c))) (zipS (playL s plan (endE false s c)) (playL s plan (endE true s c))) = false) (hx : shoreB (shX s ws) = true) (hws : ws = s.works ++ [w])
 (hw : 0 ≤ plan.getD k.toNat default → (s.works.getD (plan.getD k.toNat default).toNat default).rise ≤ w.rise ∧ (s.works.getD (plan.getD k.toNat default).toNat default).calm ≤ w.calm) : False := by
 subst hws
 have h := inB_iff.1 hk
 have e := low_x hs hc hp h.1 (by omega) hx hw
 rw [show shX s (s.works ++ [w]) = ⟨s.cells, s.works ++ [w], s.reef, s.llo, s.lhi⟩ from rfl, e] at hf; cases hf
theorem no_y {s : WShore} {c : WStorm} {plan : List Int} {n : Int} (hs : shoreB s = true) (hc : stormB c = true) (hp : planB s plan = true)
 (hf : lowL (zipS (playL (shY s n) plan (endE false (shY s n) c)) (playL (shY s n) plan (endE true (shY s n) c))) (zipS (playL s plan (endE false s c)) (playL s plan (endE true s c))) = false) (hn : 0 ≤ n) : False := by
 rw [shY_eq, low_y hs hc hp hn] at hf; cases hf
theorem no_z {s : WShore} {c : WStorm} {plan : List Int} {n : Int} (hs : shoreB s = true) (hc : stormB c = true) (hp : planB s plan = true)
 (hf : lowL (zipS (playL s plan (endE false s (stZ c n))) (playL s plan (endE true s (stZ c n)))) (zipS (playL s plan (endE false s c)) (playL s plan (endE true s c))) = false) (hn : 0 ≤ n) : False := by
 rw [stZ_eq, low_z hs hc hp hn] at hf; cases hf
theorem one_work {s : WShore} {w : WWork} (h : (s.works.length : Int) = 0) : [w] = s.works ++ [w] := by
 have e : s.works = [] := List.eq_nil_of_length_eq_zero (by omega)
 rw [e]; rfl
noncomputable def wMore_z0 (s : WShore) (c : WStorm) (plan : List Int) (steps : Int) : Array Value := #[slT (List.length (zipS (playL { cells := s.cells, works := s.works, reef := if s.reef + steps < 20 then s.reef + steps else 20, llo := s.llo, lhi := s.lhi } plan (endE false { cells := s.cells, works := s.works, reef := if s.reef + steps < 20 then s.reef + steps else 20, llo := s.llo, lhi := s.lhi } c)) (playL { cells := s.cells, works := s.works, reef := if s.reef + steps < 20 then s.reef + steps else 20, llo := s.llo, lhi := s.lhi } plan (endE true { cells := s.cells, works := s.works, reef := if s.reef + steps < 20 then s.reef + steps else 20, llo := s.llo, lhi := s.lhi } c)))) (rowL encSp (zipS (playL { cells := s.cells, works := s.works, reef := if s.reef + steps < 20 then s.reef + steps else 20, llo := s.llo, lhi := s.lhi } plan (endE false { cells := s.cells, works := s.works, reef := if s.reef + steps < 20 then s.reef + steps else 20, llo := s.llo, lhi := s.lhi } c)) (playL { cells := s.cells, works := s.works, reef := if s.reef + steps < 20 then s.reef + steps else 20, llo := s.llo, lhi := s.lhi } plan (endE true { cells := s.cells, works := s.works, reef := if s.reef + steps < 20 then s.reef + steps else 20, llo := s.llo, lhi := s.lhi } c)))), slT (List.length (zipS (playL s plan (endE false s c)) (playL s plan (endE true s c)))) (rowL encSp (zipS (playL s plan (endE false s c)) (playL s plan (endE true s c))))]
noncomputable def wMore_z1 (s : WShore) (c : WStorm) (plan : List Int) (less : Int) : Array Value := #[slT (List.length (zipS (playL s plan (endE false s { wlo := if c.wlo - less > 0 then c.wlo - less else 0, whi := if c.whi - less > 0 then c.whi - less else 0, flo := c.flo, fhi := c.fhi, tlo := if c.tlo - less > -5000 then c.tlo - less else -5000, thi := if c.thi - less > -5000 then c.thi - less else -5000 })) (playL s plan (endE true s { wlo := if c.wlo - less > 0 then c.wlo - less else 0, whi := if c.whi - less > 0 then c.whi - less else 0, flo := c.flo, fhi := c.fhi, tlo := if c.tlo - less > -5000 then c.tlo - less else -5000, thi := if c.thi - less > -5000 then c.thi - less else -5000 })))) (rowL encSp (zipS (playL s plan (endE false s { wlo := if c.wlo - less > 0 then c.wlo - less else 0, whi := if c.whi - less > 0 then c.whi - less else 0, flo := c.flo, fhi := c.fhi, tlo := if c.tlo - less > -5000 then c.tlo - less else -5000, thi := if c.thi - less > -5000 then c.thi - less else -5000 })) (playL s plan (endE true s { wlo := if c.wlo - less > 0 then c.wlo - less else 0, whi := if c.whi - less > 0 then c.whi - less else 0, flo := c.flo, fhi := c.fhi, tlo := if c.tlo - less > -5000 then c.tlo - less else -5000, thi := if c.thi - less > -5000 then c.thi - less else -5000 })))), slT (List.length (zipS (playL s plan (endE false s c)) (playL s plan (endE true s c)))) (rowL encSp (zipS (playL s plan (endE false s c)) (playL s plan (endE true s c))))]
noncomputable def wMore_z2 (s : WShore) (c : WStorm) (plan : List Int) (steps : Int) : Value := (Value.tuple #[slT (List.length (zipS (playL { cells := s.cells, works := s.works, reef := if s.reef + steps < 20 then s.reef + steps else 20, llo := s.llo, lhi := s.lhi } plan (endE false { cells := s.cells, works := s.works, reef := if s.reef + steps < 20 then s.reef + steps else 20, llo := s.llo, lhi := s.lhi } c)) (playL { cells := s.cells, works := s.works, reef := if s.reef + steps < 20 then s.reef + steps else 20, llo := s.llo, lhi := s.lhi } plan (endE true { cells := s.cells, works := s.works, reef := if s.reef + steps < 20 then s.reef + steps else 20, llo := s.llo, lhi := s.lhi } c)))) (rowL encSp (zipS (playL { cells := s.cells, works := s.works, reef := if s.reef + steps < 20 then s.reef + steps else 20, llo := s.llo, lhi := s.lhi } plan (endE false { cells := s.cells, works := s.works, reef := if s.reef + steps < 20 then s.reef + steps else 20, llo := s.llo, lhi := s.lhi } c)) (playL { cells := s.cells, works := s.works, reef := if s.reef + steps < 20 then s.reef + steps else 20, llo := s.llo, lhi := s.lhi } plan (endE true { cells := s.cells, works := s.works, reef := if s.reef + steps < 20 then s.reef + steps else 20, llo := s.llo, lhi := s.lhi } c)))), .int .i64 0])
noncomputable def wMore_z3 (s : WShore) (c : WStorm) (plan : List Int) (less : Int) : Value := (Value.tuple #[slT (List.length (zipS (playL s plan (endE false s { wlo := if c.wlo - less > 0 then c.wlo - less else 0, whi := if c.whi - less > 0 then c.whi - less else 0, flo := c.flo, fhi := c.fhi, tlo := if c.tlo - less > -5000 then c.tlo - less else -5000, thi := if c.thi - less > -5000 then c.thi - less else -5000 })) (playL s plan (endE true s { wlo := if c.wlo - less > 0 then c.wlo - less else 0, whi := if c.whi - less > 0 then c.whi - less else 0, flo := c.flo, fhi := c.fhi, tlo := if c.tlo - less > -5000 then c.tlo - less else -5000, thi := if c.thi - less > -5000 then c.thi - less else -5000 })))) (rowL encSp (zipS (playL s plan (endE false s { wlo := if c.wlo - less > 0 then c.wlo - less else 0, whi := if c.whi - less > 0 then c.whi - less else 0, flo := c.flo, fhi := c.fhi, tlo := if c.tlo - less > -5000 then c.tlo - less else -5000, thi := if c.thi - less > -5000 then c.thi - less else -5000 })) (playL s plan (endE true s { wlo := if c.wlo - less > 0 then c.wlo - less else 0, whi := if c.whi - less > 0 then c.whi - less else 0, flo := c.flo, fhi := c.fhi, tlo := if c.tlo - less > -5000 then c.tlo - less else -5000, thi := if c.thi - less > -5000 then c.thi - less else -5000 })))), .int .i64 0])
noncomputable def wMore_z4 (s : WShore) (plan : List Int) (k : Int) (w : WWork) : Array Value := #[slT s.cells.length (rowL encWCell s.cells), slT (List.length s.works + 1) (Fz.cs { k := 8, rs := [], cs := rowL encWWork (s.works ++ [{ rise := if WWork.rise (List.getD s.works (Int.toNat (List.getD plan k.toNat default)) default) > w.rise then WWork.rise (List.getD s.works (Int.toNat (List.getD plan k.toNat default)) default) else w.rise, calm := if WWork.calm (List.getD s.works (Int.toNat (List.getD plan k.toNat default)) default) > w.calm then WWork.calm (List.getD s.works (Int.toNat (List.getD plan k.toNat default)) default) else w.calm, cost := w.cost }]) }), .int .i64 s.reef, .int .i64 s.llo, .int .i64 s.lhi]
noncomputable def wMore_z5 (s : WShore) (c : WStorm) (plan : List Int) (less : Int) : Array Value := #[Value.agg #[slT s.cells.length (rowL encWCell s.cells), slT s.works.length (rowL encWWork s.works), .int .i64 s.reef, .int .i64 s.llo, .int .i64 s.lhi], Value.agg #[.int .i64 (if c.wlo - less > 0 then c.wlo - less else 0), .int .i64 (if c.whi - less > 0 then c.whi - less else 0), .int .i64 c.flo, .int .i64 c.fhi, .int .i64 (if c.tlo - less > -5000 then c.tlo - less else -5000), .int .i64 (if c.thi - less > -5000 then c.thi - less else -5000)], slT plan.length (rowL encI plan)]
noncomputable def wMore_z6 (s : WShore) (c : WStorm) (plan : List Int) (steps : Int) : Array Value := #[Value.agg #[slT s.cells.length (rowL encWCell s.cells), slT s.works.length (rowL encWWork s.works), .int .i64 (if s.reef + steps < 20 then s.reef + steps else 20), .int .i64 s.llo, .int .i64 s.lhi], Value.agg #[.int .i64 c.wlo, .int .i64 c.whi, .int .i64 c.flo, .int .i64 c.fhi, .int .i64 c.tlo, .int .i64 c.thi], slT plan.length (rowL encI plan)]
noncomputable def wMore_z7 (s : WShore) (c : WStorm) (plan : List Int) : Array Value := #[Value.agg #[slT s.cells.length (rowL encWCell s.cells), slT s.works.length (rowL encWWork s.works), .int .i64 s.reef, .int .i64 s.llo, .int .i64 s.lhi], Value.agg #[.int .i64 c.wlo, .int .i64 c.whi, .int .i64 c.flo, .int .i64 c.fhi, .int .i64 c.tlo, .int .i64 c.thi], slT plan.length (rowL encI plan)]
noncomputable def wMore_z8 (s : WShore) (w : WWork) : Array Value := #[slT s.cells.length (rowL encWCell s.cells), slT 1 #[.int .i64 w.rise, .int .i64 w.calm, .int .i64 w.cost], .int .i64 s.reef, .int .i64 s.llo, .int .i64 s.lhi]
noncomputable def wMore_z9 (s : WShore) (k : Int) (w : WWork) : Array Value := #[slT s.cells.length (rowL encWCell s.cells), slT (List.length s.works + 1) (Fz.cs { k := 7, rs := [], cs := rowL encWWork (s.works ++ [w]) }), .int .i64 s.reef, .int .i64 s.llo, .int .i64 s.lhi]
noncomputable def wMore_z10 (s : WShore) : Array Value := #[Value.agg #[slT s.cells.length (rowL encWCell s.cells), slT s.works.length (rowL encWWork s.works), .int .i64 s.reef, .int .i64 s.llo, .int .i64 s.lhi]]
noncomputable def wMore_z11 (c : WStorm) : Array Value := #[.int .i64 c.wlo, .int .i64 c.whi, .int .i64 c.flo, .int .i64 c.fhi, .int .i64 c.tlo, .int .i64 c.thi]
noncomputable def wMore_z12 (s : WShore) (c : WStorm) (plan : List Int) : Value := (Value.tuple #[slT (List.length (zipS (playL s plan (endE false s c)) (playL s plan (endE true s c)))) (rowL encSp (zipS (playL s plan (endE false s c)) (playL s plan (endE true s c)))), .int .i64 0])
noncomputable def wMore_z13 (w : WWork) : Array Value := #[.int .i64 w.rise, .int .i64 w.calm, .int .i64 w.cost]
noncomputable def wMore_p0 (B : Lo) (s : WShore) (c : WStorm) (plan : List Int) (k : Int) (w : WWork) (steps less : Int) : List Prop := [AllP [] ∧ PureC Try.prog J0 14 (wMore_z10 s) (Value.bool true)] ++ ([] : List Prop)
noncomputable def wMore_q0 (s : WShore) (c : WStorm) (plan : List Int) (k : Int) (w : WWork) (steps less : Int) : ScriptT := [(5, HintT.pure (Value.bool true) [])]
theorem wMore_s0 (B : Lo) (s : WShore) (c : WStorm) (plan : List Int) (k : Int) (w : WWork) (steps less : Int) : endT (srunT Try.prog (okFn Try.prog) J0 B 10 1 (entryC Try.prog 13 211 (([.agg (encShore s).toArray, .agg (encStorm c).toArray, slI plan, .int .i64 k, .agg (encWWork w).toArray, .int .i64 steps, .int .i64 less]).map (pushT 0 4))) H00 1
 (wMore_q0 s c plan k w steps less ++ [(10, hvT), (47, HintT.pure (Value.bool true) [])]) 0 [] []) [] = some (Value.bool true,
 [AllP [] ∧ PureC Try.prog J0 15 #[] (Value.bool true), ltq 12 (↑plan.length : Int) = true] ++ wMore_p0 B s c plan k w steps less) := by kernel_rfl
noncomputable def wMore_p1 (B : Lo) (s : WShore) (c : WStorm) (plan : List Int) (k : Int) (w : WWork) (steps less : Int) : List Prop := [ltq 12 (↑plan.length : Int) = false] ++ wMore_p0 B s c plan k w steps less
noncomputable def wMore_q1 (s : WShore) (c : WStorm) (plan : List Int) (k : Int) (w : WWork) (steps less : Int) : ScriptT := wMore_q0 s c plan k w steps less ++ [(10, hvF)]
noncomputable def wMore_p2 (B : Lo) (s : WShore) (c : WStorm) (plan : List Int) (k : Int) (w : WWork) (steps less : Int) : List Prop := [AllP [] ∧ PureC Try.prog J0 25 (wMore_z7 s c plan) (Value.bool true)] ++ wMore_p1 B s c plan k w steps less
noncomputable def wMore_q2 (s : WShore) (c : WStorm) (plan : List Int) (k : Int) (w : WWork) (steps less : Int) : ScriptT := wMore_q1 s c plan k w steps less ++ [(16, HintT.pure (Value.bool true) [])]
noncomputable def wMore_p3 (B : Lo) (s : WShore) (c : WStorm) (plan : List Int) (k : Int) (w : WWork) (steps less : Int) : List Prop := [AllP [] ∧ PureC Try.prog J0 35 #[Value.agg #[slT s.cells.length (rowL encWCell s.cells), slT s.works.length (rowL encWWork s.works), .int .i64 s.reef, .int .i64 s.llo, .int .i64 s.lhi], .int .i64 k] (Value.bool true)] ++ wMore_p2 B s c plan k w steps less
noncomputable def wMore_q3 (s : WShore) (c : WStorm) (plan : List Int) (k : Int) (w : WWork) (steps less : Int) : ScriptT := wMore_q2 s c plan k w steps less ++ [(22, HintT.pure (Value.bool true) [])]
theorem wMore_s1 (B : Lo) (s : WShore) (c : WStorm) (plan : List Int) (k : Int) (w : WWork) (steps less : Int) : endT (srunT Try.prog (okFn Try.prog) J0 B 10 1 (entryC Try.prog 13 211 (([.agg (encShore s).toArray, .agg (encStorm c).toArray, slI plan, .int .i64 k, .agg (encWWork w).toArray, .int .i64 steps, .int .i64 less]).map (pushT 0 4))) H00 1
 (wMore_q3 s c plan k w steps less ++ [(29, hvT), (47, HintT.pure (Value.bool true) [])]) 0 [] []) [] = some (Value.bool true,
 [AllP [] ∧ PureC Try.prog J0 15 #[] (Value.bool true), (!ltq (↑s.works.length : Int) 3) = true] ++ wMore_p3 B s c plan k w steps less) := by kernel_rfl
noncomputable def wMore_p4 (B : Lo) (s : WShore) (c : WStorm) (plan : List Int) (k : Int) (w : WWork) (steps less : Int) : List Prop := [(!ltq (↑s.works.length : Int) 3) = false] ++ wMore_p3 B s c plan k w steps less
noncomputable def wMore_q4 (s : WShore) (c : WStorm) (plan : List Int) (k : Int) (w : WWork) (steps less : Int) : ScriptT := wMore_q3 s c plan k w steps less ++ [(29, hvF)]
theorem wMore_s2 (B : Lo) (s : WShore) (c : WStorm) (plan : List Int) (k : Int) (w : WWork) (steps less : Int) : endT (srunT Try.prog (okFn Try.prog) J0 B 10 1 (entryC Try.prog 13 211 (([.agg (encShore s).toArray, .agg (encStorm c).toArray, slI plan, .int .i64 k, .agg (encWWork w).toArray, .int .i64 steps, .int .i64 less]).map (pushT 0 4))) H00 1
 (wMore_q4 s c plan k w steps less ++ [(33, hvT), (47, HintT.pure (Value.bool true) [])]) 0 [] []) [] = some (Value.bool true,
 [AllP [] ∧ PureC Try.prog J0 15 #[] (Value.bool true), ltq steps 0 = true] ++ wMore_p4 B s c plan k w steps less) := by kernel_rfl
noncomputable def wMore_p5 (B : Lo) (s : WShore) (c : WStorm) (plan : List Int) (k : Int) (w : WWork) (steps less : Int) : List Prop := [ltq steps 0 = false] ++ wMore_p4 B s c plan k w steps less
noncomputable def wMore_q5 (s : WShore) (c : WStorm) (plan : List Int) (k : Int) (w : WWork) (steps less : Int) : ScriptT := wMore_q4 s c plan k w steps less ++ [(33, hvF)]
theorem wMore_s3 (B : Lo) (s : WShore) (c : WStorm) (plan : List Int) (k : Int) (w : WWork) (steps less : Int) : endT (srunT Try.prog (okFn Try.prog) J0 B 10 1 (entryC Try.prog 13 211 (([.agg (encShore s).toArray, .agg (encStorm c).toArray, slI plan, .int .i64 k, .agg (encWWork w).toArray, .int .i64 steps, .int .i64 less]).map (pushT 0 4))) H00 1
 (wMore_q5 s c plan k w steps less ++ [(37, hvT), (47, HintT.pure (Value.bool true) [])]) 0 [] []) [] = some (Value.bool true,
 [AllP [] ∧ PureC Try.prog J0 15 #[] (Value.bool true), ltq 20 steps = true] ++ wMore_p5 B s c plan k w steps less) := by kernel_rfl
noncomputable def wMore_p6 (B : Lo) (s : WShore) (c : WStorm) (plan : List Int) (k : Int) (w : WWork) (steps less : Int) : List Prop := [ltq 20 steps = false] ++ wMore_p5 B s c plan k w steps less
noncomputable def wMore_q6 (s : WShore) (c : WStorm) (plan : List Int) (k : Int) (w : WWork) (steps less : Int) : ScriptT := wMore_q5 s c plan k w steps less ++ [(37, hvF)]
theorem wMore_s4 (B : Lo) (s : WShore) (c : WStorm) (plan : List Int) (k : Int) (w : WWork) (steps less : Int) : endT (srunT Try.prog (okFn Try.prog) J0 B 10 1 (entryC Try.prog 13 211 (([.agg (encShore s).toArray, .agg (encStorm c).toArray, slI plan, .int .i64 k, .agg (encWWork w).toArray, .int .i64 steps, .int .i64 less]).map (pushT 0 4))) H00 1
 (wMore_q6 s c plan k w steps less ++ [(41, hvT), (47, HintT.pure (Value.bool true) [])]) 0 [] []) [] = some (Value.bool true,
 [AllP [] ∧ PureC Try.prog J0 15 #[] (Value.bool true), ltq less 0 = true] ++ wMore_p6 B s c plan k w steps less) := by kernel_rfl
noncomputable def wMore_p7 (B : Lo) (s : WShore) (c : WStorm) (plan : List Int) (k : Int) (w : WWork) (steps less : Int) : List Prop := [ltq less 0 = false] ++ wMore_p6 B s c plan k w steps less
noncomputable def wMore_q7 (s : WShore) (c : WStorm) (plan : List Int) (k : Int) (w : WWork) (steps less : Int) : ScriptT := wMore_q6 s c plan k w steps less ++ [(41, hvF)]
theorem wMore_s5 (B : Lo) (s : WShore) (c : WStorm) (plan : List Int) (k : Int) (w : WWork) (steps less : Int) : endT (srunT Try.prog (okFn Try.prog) J0 B 10 1 (entryC Try.prog 13 211 (([.agg (encShore s).toArray, .agg (encStorm c).toArray, slI plan, .int .i64 k, .agg (encWWork w).toArray, .int .i64 steps, .int .i64 less]).map (pushT 0 4))) H00 1
 (wMore_q7 s c plan k w steps less ++ [(45, hvT), (47, HintT.pure (Value.bool true) [])]) 0 [] []) [] = some (Value.bool true,
 [AllP [] ∧ PureC Try.prog J0 15 #[] (Value.bool true), ltq 5000 less = true] ++ wMore_p7 B s c plan k w steps less) := by kernel_rfl
noncomputable def wMore_p8 (B : Lo) (s : WShore) (c : WStorm) (plan : List Int) (k : Int) (w : WWork) (steps less : Int) : List Prop := [k = (↑k.toNat : Int) ∧ Int.toNat k < List.length plan ∧ Array.extract (rowL encI plan) (Int.toNat k * TypeInfo.size Try.t3) (Int.toNat k * TypeInfo.size Try.t3 + TypeInfo.size Try.t3) = #[.int .i64 (List.getD plan k.toNat default)], ltq 5000 less = false] ++ wMore_p7 B s c plan k w steps less
noncomputable def wMore_q8 (s : WShore) (c : WStorm) (plan : List Int) (k : Int) (w : WWork) (steps less : Int) : ScriptT := wMore_q7 s c plan k w steps less ++ [(45, hvF), (52, HintT.tidx k.toNat #[.int .i64 (List.getD plan k.toNat default)])]
noncomputable def wMore_p9 (B : Lo) (s : WShore) (c : WStorm) (plan : List Int) (k : Int) (w : WWork) (steps less : Int) : List Prop := [Array.size (rowL encWWork s.works) = List.length s.works * (2 + 1) ∧ List.length s.works + 1 ≤ maxLen ∧ (List.length s.works + 1) * 24 ≤ 140737488355328 ∧ rowL encWWork s.works ++ #[.int .i64 (if WWork.rise (List.getD s.works (Int.toNat (List.getD plan k.toNat default)) default) > w.rise then WWork.rise (List.getD s.works (Int.toNat (List.getD plan k.toNat default)) default) else w.rise), .int .i64 (if WWork.calm (List.getD s.works (Int.toNat (List.getD plan k.toNat default)) default) > w.calm then WWork.calm (List.getD s.works (Int.toNat (List.getD plan k.toNat default)) default) else w.calm), .int .i64 w.cost] = rowL encWWork (s.works ++ [{ rise := if WWork.rise (List.getD s.works (Int.toNat (List.getD plan k.toNat default)) default) > w.rise then WWork.rise (List.getD s.works (Int.toNat (List.getD plan k.toNat default)) default) else w.rise, calm := if WWork.calm (List.getD s.works (Int.toNat (List.getD plan k.toNat default)) default) > w.calm then WWork.calm (List.getD s.works (Int.toNat (List.getD plan k.toNat default)) default) else w.calm, cost := w.cost }]), 0 < List.length s.works ∧ List.length s.works ≤ maxLen ∧ List.length s.works * 24 ≤ 140737488355328 ∧ Array.size (rowL encWWork s.works) = List.length s.works * (2 + 1) ∧ Array.map (pushS 0) (rowL encWWork s.works) = rowL encWWork s.works ∧ (Array.all (rowL encWWork s.works) fun v => simple v || isTop v) = true ∧ ones (rowL encWWork s.works) = true, List.getD plan k.toNat default = (↑(Int.toNat (List.getD plan k.toNat default)) : Int) ∧ Int.toNat (List.getD plan k.toNat default) < List.length s.works ∧ Array.extract (rowL encWWork s.works) (Int.toNat (List.getD plan k.toNat default) * TypeInfo.size Try.t85) (Int.toNat (List.getD plan k.toNat default) * TypeInfo.size Try.t85 + TypeInfo.size Try.t85) = #[.int .i64 (WWork.rise (List.getD s.works (Int.toNat (List.getD plan k.toNat default)) default)), .int .i64 (WWork.calm (List.getD s.works (Int.toNat (List.getD plan k.toNat default)) default)), .int .i64 (WWork.cost (List.getD s.works (Int.toNat (List.getD plan k.toNat default)) default))], k = (↑k.toNat : Int) ∧ Int.toNat k < List.length plan ∧ Array.extract (rowL encI plan) (Int.toNat k * TypeInfo.size Try.t3) (Int.toNat k * TypeInfo.size Try.t3 + TypeInfo.size Try.t3) = #[.int .i64 (List.getD plan k.toNat default)], (!ltq (List.getD plan k.toNat default) 0) = true] ++ wMore_p8 B s c plan k w steps less
noncomputable def wMore_q9 (s : WShore) (c : WStorm) (plan : List Int) (k : Int) (w : WWork) (steps less : Int) : ScriptT := wMore_q8 s c plan k w steps less ++ [(54, hvT), (59, HintT.tidx k.toNat #[.int .i64 (List.getD plan k.toNat default)]), (61, HintT.tidx (Int.toNat (List.getD plan k.toNat default)) #[.int .i64 (WWork.rise (List.getD s.works (Int.toNat (List.getD plan k.toNat default)) default)), .int .i64 (WWork.calm (List.getD s.works (Int.toNat (List.getD plan k.toNat default)) default)), .int .i64 (WWork.cost (List.getD s.works (Int.toNat (List.getD plan k.toNat default)) default))]), (81, HintT.tapp (rowL encWWork s.works)), (84, HintT.old (Hint.app (rowL encWWork (s.works ++ [{ rise := if WWork.rise (List.getD s.works (Int.toNat (List.getD plan k.toNat default)) default) > w.rise then WWork.rise (List.getD s.works (Int.toNat (List.getD plan k.toNat default)) default) else w.rise, calm := if WWork.calm (List.getD s.works (Int.toNat (List.getD plan k.toNat default)) default) > w.calm then WWork.calm (List.getD s.works (Int.toNat (List.getD plan k.toNat default)) default) else w.calm, cost := w.cost }]))))]
noncomputable def wMore_p10 (B : Lo) (s : WShore) (c : WStorm) (plan : List Int) (k : Int) (w : WWork) (steps less : Int) : List Prop := [AllP [] ∧ PureC Try.prog J0 29 (wMore_z7 s c plan) (wMore_z12 s c plan), wq (c.thi - less) = c.thi - less, wq (c.tlo - less) = c.tlo - less, wq (c.whi - less) = c.whi - less, wq (c.wlo - less) = c.wlo - less, wq (s.reef + steps) = s.reef + steps, 0 + Int.toNat k * 1 + TypeInfo.size Try.t3 ≤ Array.size (rowL encI plan) ∧ splice (rowL encI plan) (0 + Int.toNat k * 1) (Value.cells (tget { len := 16000, tr := Tri.set 14 (Tri.set 14 Tri.lf 115 (.int .i64 (↑s.works.length : Int))) 116 (Value.pointer (some { block := 9, off := 0 + Int.toNat k * 1 })) } 115)) = rowL encI (List.set plan k.toNat (↑s.works.length : Int)), k = (↑k.toNat : Int) ∧ Int.toNat k < List.length plan, 0 < List.length plan ∧ List.length plan ≤ maxLen ∧ List.length plan * 8 ≤ 140737488355328 ∧ Array.size (rowL encI plan) = List.length plan * (0 + 1) ∧ Array.map (pushS 0) (rowL encI plan) = rowL encI plan ∧ (Array.all (rowL encI plan) fun v => simple v || isTop v) = true ∧ ones (rowL encI plan) = true, AllP [CellsT (Fz.rs { k := 8, rs := [], cs := rowL encWWork (s.works ++ [{ rise := if WWork.rise (List.getD s.works (Int.toNat (List.getD plan k.toNat default)) default) > w.rise then WWork.rise (List.getD s.works (Int.toNat (List.getD plan k.toNat default)) default) else w.rise, calm := if WWork.calm (List.getD s.works (Int.toNat (List.getD plan k.toNat default)) default) > w.calm then WWork.calm (List.getD s.works (Int.toNat (List.getD plan k.toNat default)) default) else w.calm, cost := w.cost }]) }) (rowL encWWork (s.works ++ [{ rise := if WWork.rise (List.getD s.works (Int.toNat (List.getD plan k.toNat default)) default) > w.rise then WWork.rise (List.getD s.works (Int.toNat (List.getD plan k.toNat default)) default) else w.rise, calm := if WWork.calm (List.getD s.works (Int.toNat (List.getD plan k.toNat default)) default) > w.calm then WWork.calm (List.getD s.works (Int.toNat (List.getD plan k.toNat default)) default) else w.calm, cost := w.cost }])) (Fz.cs { k := 8, rs := [], cs := rowL encWWork (s.works ++ [{ rise := if WWork.rise (List.getD s.works (Int.toNat (List.getD plan k.toNat default)) default) > w.rise then WWork.rise (List.getD s.works (Int.toNat (List.getD plan k.toNat default)) default) else w.rise, calm := if WWork.calm (List.getD s.works (Int.toNat (List.getD plan k.toNat default)) default) > w.calm then WWork.calm (List.getD s.works (Int.toNat (List.getD plan k.toNat default)) default) else w.calm, cost := w.cost }]) })] ∧ PureC Try.prog J0 19 #[Value.agg (wMore_z4 s plan k w)] (Value.bool true)] ++ wMore_p9 B s c plan k w steps less
noncomputable def wMore_q10 (s : WShore) (c : WStorm) (plan : List Int) (k : Int) (w : WWork) (steps less : Int) : ScriptT := wMore_q9 s c plan k w steps less ++ [(88, HintT.pure (Value.bool true) [{ k := 8, rs := [], cs := rowL encWWork (s.works ++ [{ rise := if WWork.rise (List.getD s.works (Int.toNat (List.getD plan k.toNat default)) default) > w.rise then WWork.rise (List.getD s.works (Int.toNat (List.getD plan k.toNat default)) default) else w.rise, calm := if WWork.calm (List.getD s.works (Int.toNat (List.getD plan k.toNat default)) default) > w.calm then WWork.calm (List.getD s.works (Int.toNat (List.getD plan k.toNat default)) default) else w.calm, cost := w.cost }]) }]), (91, HintT.tapp (rowL encI plan)), (98, HintT.old (Hint.idx k.toNat)), (99, HintT.old (Hint.st (rowL encI (List.set plan k.toNat (↑s.works.length : Int))))), (109, hvI (s.reef + steps)), (117, hvI (c.wlo - less)), (123, hvI (c.whi - less)), (132, hvI (c.tlo - less)), (138, hvI (c.thi - less)), (146, HintT.pure (wMore_z12 s c plan) []), (155, HintT.pureK (Value.tuple #[slT (List.length (zipS (playL { cells := s.cells, works := s.works ++ [{ rise := if WWork.rise (List.getD s.works (Int.toNat (List.getD plan k.toNat default)) default) > w.rise then WWork.rise (List.getD s.works (Int.toNat (List.getD plan k.toNat default)) default) else w.rise, calm := if WWork.calm (List.getD s.works (Int.toNat (List.getD plan k.toNat default)) default) > w.calm then WWork.calm (List.getD s.works (Int.toNat (List.getD plan k.toNat default)) default) else w.calm, cost := w.cost }], reef := s.reef, llo := s.llo, lhi := s.lhi } (List.set plan k.toNat (↑s.works.length : Int)) (endE false { cells := s.cells, works := s.works ++ [{ rise := if WWork.rise (List.getD s.works (Int.toNat (List.getD plan k.toNat default)) default) > w.rise then WWork.rise (List.getD s.works (Int.toNat (List.getD plan k.toNat default)) default) else w.rise, calm := if WWork.calm (List.getD s.works (Int.toNat (List.getD plan k.toNat default)) default) > w.calm then WWork.calm (List.getD s.works (Int.toNat (List.getD plan k.toNat default)) default) else w.calm, cost := w.cost }], reef := s.reef, llo := s.llo, lhi := s.lhi } c)) (playL { cells := s.cells, works := s.works ++ [{ rise := if WWork.rise (List.getD s.works (Int.toNat (List.getD plan k.toNat default)) default) > w.rise then WWork.rise (List.getD s.works (Int.toNat (List.getD plan k.toNat default)) default) else w.rise, calm := if WWork.calm (List.getD s.works (Int.toNat (List.getD plan k.toNat default)) default) > w.calm then WWork.calm (List.getD s.works (Int.toNat (List.getD plan k.toNat default)) default) else w.calm, cost := w.cost }], reef := s.reef, llo := s.llo, lhi := s.lhi } (List.set plan k.toNat (↑s.works.length : Int)) (endE true { cells := s.cells, works := s.works ++ [{ rise := if WWork.rise (List.getD s.works (Int.toNat (List.getD plan k.toNat default)) default) > w.rise then WWork.rise (List.getD s.works (Int.toNat (List.getD plan k.toNat default)) default) else w.rise, calm := if WWork.calm (List.getD s.works (Int.toNat (List.getD plan k.toNat default)) default) > w.calm then WWork.calm (List.getD s.works (Int.toNat (List.getD plan k.toNat default)) default) else w.calm, cost := w.cost }], reef := s.reef, llo := s.llo, lhi := s.lhi } c)))) (rowL encSp (zipS (playL { cells := s.cells, works := s.works ++ [{ rise := if WWork.rise (List.getD s.works (Int.toNat (List.getD plan k.toNat default)) default) > w.rise then WWork.rise (List.getD s.works (Int.toNat (List.getD plan k.toNat default)) default) else w.rise, calm := if WWork.calm (List.getD s.works (Int.toNat (List.getD plan k.toNat default)) default) > w.calm then WWork.calm (List.getD s.works (Int.toNat (List.getD plan k.toNat default)) default) else w.calm, cost := w.cost }], reef := s.reef, llo := s.llo, lhi := s.lhi } (List.set plan k.toNat (↑s.works.length : Int)) (endE false { cells := s.cells, works := s.works ++ [{ rise := if WWork.rise (List.getD s.works (Int.toNat (List.getD plan k.toNat default)) default) > w.rise then WWork.rise (List.getD s.works (Int.toNat (List.getD plan k.toNat default)) default) else w.rise, calm := if WWork.calm (List.getD s.works (Int.toNat (List.getD plan k.toNat default)) default) > w.calm then WWork.calm (List.getD s.works (Int.toNat (List.getD plan k.toNat default)) default) else w.calm, cost := w.cost }], reef := s.reef, llo := s.llo, lhi := s.lhi } c)) (playL { cells := s.cells, works := s.works ++ [{ rise := if WWork.rise (List.getD s.works (Int.toNat (List.getD plan k.toNat default)) default) > w.rise then WWork.rise (List.getD s.works (Int.toNat (List.getD plan k.toNat default)) default) else w.rise, calm := if WWork.calm (List.getD s.works (Int.toNat (List.getD plan k.toNat default)) default) > w.calm then WWork.calm (List.getD s.works (Int.toNat (List.getD plan k.toNat default)) default) else w.calm, cost := w.cost }], reef := s.reef, llo := s.llo, lhi := s.lhi } (List.set plan k.toNat (↑s.works.length : Int)) (endE true { cells := s.cells, works := s.works ++ [{ rise := if WWork.rise (List.getD s.works (Int.toNat (List.getD plan k.toNat default)) default) > w.rise then WWork.rise (List.getD s.works (Int.toNat (List.getD plan k.toNat default)) default) else w.rise, calm := if WWork.calm (List.getD s.works (Int.toNat (List.getD plan k.toNat default)) default) > w.calm then WWork.calm (List.getD s.works (Int.toNat (List.getD plan k.toNat default)) default) else w.calm, cost := w.cost }], reef := s.reef, llo := s.llo, lhi := s.lhi } c)))), .int .i64 0]) [{ k := 8, rs := [], cs := rowL encWWork (s.works ++ [{ rise := if WWork.rise (List.getD s.works (Int.toNat (List.getD plan k.toNat default)) default) > w.rise then WWork.rise (List.getD s.works (Int.toNat (List.getD plan k.toNat default)) default) else w.rise, calm := if WWork.calm (List.getD s.works (Int.toNat (List.getD plan k.toNat default)) default) > w.calm then WWork.calm (List.getD s.works (Int.toNat (List.getD plan k.toNat default)) default) else w.calm, cost := w.cost }]) }, { k := 9, rs := [], cs := rowL encI (List.set plan k.toNat (↑s.works.length : Int)) }])]
noncomputable def wMore_p11 (B : Lo) (s : WShore) (c : WStorm) (plan : List Int) (k : Int) (w : WWork) (steps less : Int) : List Prop := [AllP [CellsT (Fz.rs { k := 8, rs := [], cs := rowL encWWork (s.works ++ [{ rise := if WWork.rise (List.getD s.works (Int.toNat (List.getD plan k.toNat default)) default) > w.rise then WWork.rise (List.getD s.works (Int.toNat (List.getD plan k.toNat default)) default) else w.rise, calm := if WWork.calm (List.getD s.works (Int.toNat (List.getD plan k.toNat default)) default) > w.calm then WWork.calm (List.getD s.works (Int.toNat (List.getD plan k.toNat default)) default) else w.calm, cost := w.cost }]) }) (rowL encWWork (s.works ++ [{ rise := if WWork.rise (List.getD s.works (Int.toNat (List.getD plan k.toNat default)) default) > w.rise then WWork.rise (List.getD s.works (Int.toNat (List.getD plan k.toNat default)) default) else w.rise, calm := if WWork.calm (List.getD s.works (Int.toNat (List.getD plan k.toNat default)) default) > w.calm then WWork.calm (List.getD s.works (Int.toNat (List.getD plan k.toNat default)) default) else w.calm, cost := w.cost }])) (Fz.cs { k := 8, rs := [], cs := rowL encWWork (s.works ++ [{ rise := if WWork.rise (List.getD s.works (Int.toNat (List.getD plan k.toNat default)) default) > w.rise then WWork.rise (List.getD s.works (Int.toNat (List.getD plan k.toNat default)) default) else w.rise, calm := if WWork.calm (List.getD s.works (Int.toNat (List.getD plan k.toNat default)) default) > w.calm then WWork.calm (List.getD s.works (Int.toNat (List.getD plan k.toNat default)) default) else w.calm, cost := w.cost }]) }), CellsT (Fz.rs { k := 9, rs := [], cs := rowL encI (List.set plan k.toNat (↑s.works.length : Int)) }) (rowL encI (List.set plan k.toNat (↑s.works.length : Int))) (Fz.cs { k := 9, rs := [], cs := rowL encI (List.set plan k.toNat (↑s.works.length : Int)) })] ∧ PureC Try.prog J0 29 #[Value.agg (wMore_z4 s plan k w), Value.agg (wMore_z11 c), slT plan.length (Fz.cs { k := 9, rs := [], cs := rowL encI (List.set plan k.toNat (↑s.works.length : Int)) })] (Value.tuple #[slT (List.length (zipS (playL { cells := s.cells, works := s.works ++ [{ rise := if WWork.rise (List.getD s.works (Int.toNat (List.getD plan k.toNat default)) default) > w.rise then WWork.rise (List.getD s.works (Int.toNat (List.getD plan k.toNat default)) default) else w.rise, calm := if WWork.calm (List.getD s.works (Int.toNat (List.getD plan k.toNat default)) default) > w.calm then WWork.calm (List.getD s.works (Int.toNat (List.getD plan k.toNat default)) default) else w.calm, cost := w.cost }], reef := s.reef, llo := s.llo, lhi := s.lhi } (List.set plan k.toNat (↑s.works.length : Int)) (endE false { cells := s.cells, works := s.works ++ [{ rise := if WWork.rise (List.getD s.works (Int.toNat (List.getD plan k.toNat default)) default) > w.rise then WWork.rise (List.getD s.works (Int.toNat (List.getD plan k.toNat default)) default) else w.rise, calm := if WWork.calm (List.getD s.works (Int.toNat (List.getD plan k.toNat default)) default) > w.calm then WWork.calm (List.getD s.works (Int.toNat (List.getD plan k.toNat default)) default) else w.calm, cost := w.cost }], reef := s.reef, llo := s.llo, lhi := s.lhi } c)) (playL { cells := s.cells, works := s.works ++ [{ rise := if WWork.rise (List.getD s.works (Int.toNat (List.getD plan k.toNat default)) default) > w.rise then WWork.rise (List.getD s.works (Int.toNat (List.getD plan k.toNat default)) default) else w.rise, calm := if WWork.calm (List.getD s.works (Int.toNat (List.getD plan k.toNat default)) default) > w.calm then WWork.calm (List.getD s.works (Int.toNat (List.getD plan k.toNat default)) default) else w.calm, cost := w.cost }], reef := s.reef, llo := s.llo, lhi := s.lhi } (List.set plan k.toNat (↑s.works.length : Int)) (endE true { cells := s.cells, works := s.works ++ [{ rise := if WWork.rise (List.getD s.works (Int.toNat (List.getD plan k.toNat default)) default) > w.rise then WWork.rise (List.getD s.works (Int.toNat (List.getD plan k.toNat default)) default) else w.rise, calm := if WWork.calm (List.getD s.works (Int.toNat (List.getD plan k.toNat default)) default) > w.calm then WWork.calm (List.getD s.works (Int.toNat (List.getD plan k.toNat default)) default) else w.calm, cost := w.cost }], reef := s.reef, llo := s.llo, lhi := s.lhi } c)))) (rowL encSp (zipS (playL { cells := s.cells, works := s.works ++ [{ rise := if WWork.rise (List.getD s.works (Int.toNat (List.getD plan k.toNat default)) default) > w.rise then WWork.rise (List.getD s.works (Int.toNat (List.getD plan k.toNat default)) default) else w.rise, calm := if WWork.calm (List.getD s.works (Int.toNat (List.getD plan k.toNat default)) default) > w.calm then WWork.calm (List.getD s.works (Int.toNat (List.getD plan k.toNat default)) default) else w.calm, cost := w.cost }], reef := s.reef, llo := s.llo, lhi := s.lhi } (List.set plan k.toNat (↑s.works.length : Int)) (endE false { cells := s.cells, works := s.works ++ [{ rise := if WWork.rise (List.getD s.works (Int.toNat (List.getD plan k.toNat default)) default) > w.rise then WWork.rise (List.getD s.works (Int.toNat (List.getD plan k.toNat default)) default) else w.rise, calm := if WWork.calm (List.getD s.works (Int.toNat (List.getD plan k.toNat default)) default) > w.calm then WWork.calm (List.getD s.works (Int.toNat (List.getD plan k.toNat default)) default) else w.calm, cost := w.cost }], reef := s.reef, llo := s.llo, lhi := s.lhi } c)) (playL { cells := s.cells, works := s.works ++ [{ rise := if WWork.rise (List.getD s.works (Int.toNat (List.getD plan k.toNat default)) default) > w.rise then WWork.rise (List.getD s.works (Int.toNat (List.getD plan k.toNat default)) default) else w.rise, calm := if WWork.calm (List.getD s.works (Int.toNat (List.getD plan k.toNat default)) default) > w.calm then WWork.calm (List.getD s.works (Int.toNat (List.getD plan k.toNat default)) default) else w.calm, cost := w.cost }], reef := s.reef, llo := s.llo, lhi := s.lhi } (List.set plan k.toNat (↑s.works.length : Int)) (endE true { cells := s.cells, works := s.works ++ [{ rise := if WWork.rise (List.getD s.works (Int.toNat (List.getD plan k.toNat default)) default) > w.rise then WWork.rise (List.getD s.works (Int.toNat (List.getD plan k.toNat default)) default) else w.rise, calm := if WWork.calm (List.getD s.works (Int.toNat (List.getD plan k.toNat default)) default) > w.calm then WWork.calm (List.getD s.works (Int.toNat (List.getD plan k.toNat default)) default) else w.calm, cost := w.cost }], reef := s.reef, llo := s.llo, lhi := s.lhi } c)))), .int .i64 0])] ++ wMore_p10 B s c plan k w steps less
noncomputable def wMore_p12 (B : Lo) (s : WShore) (c : WStorm) (plan : List Int) (k : Int) (w : WWork) (steps less : Int) : List Prop := [AllP [] ∧ PureC Try.prog J0 29 (wMore_z6 s c plan steps) (wMore_z2 s c plan steps)] ++ wMore_p11 B s c plan k w steps less
noncomputable def wMore_q12 (s : WShore) (c : WStorm) (plan : List Int) (k : Int) (w : WWork) (steps less : Int) : ScriptT := wMore_q10 s c plan k w steps less ++ [(164, HintT.pure (wMore_z2 s c plan steps) []), (173, HintT.pure (wMore_z3 s c plan less) [])]
noncomputable def wMore_p13 (B : Lo) (s : WShore) (c : WStorm) (plan : List Int) (k : Int) (w : WWork) (steps less : Int) : List Prop := [AllP [] ∧ PureC Try.prog J0 29 (wMore_z5 s c plan less) (wMore_z3 s c plan less)] ++ wMore_p12 B s c plan k w steps less
noncomputable def wMore_p14 (B : Lo) (s : WShore) (c : WStorm) (plan : List Int) (k : Int) (w : WWork) (steps less : Int) : List Prop := [AllP [] ∧ PureC Try.prog J0 48 #[slT (List.length (zipS (playL { cells := s.cells, works := s.works ++ [{ rise := if WWork.rise (List.getD s.works (Int.toNat (List.getD plan k.toNat default)) default) > w.rise then WWork.rise (List.getD s.works (Int.toNat (List.getD plan k.toNat default)) default) else w.rise, calm := if WWork.calm (List.getD s.works (Int.toNat (List.getD plan k.toNat default)) default) > w.calm then WWork.calm (List.getD s.works (Int.toNat (List.getD plan k.toNat default)) default) else w.calm, cost := w.cost }], reef := s.reef, llo := s.llo, lhi := s.lhi } (List.set plan k.toNat (↑s.works.length : Int)) (endE false { cells := s.cells, works := s.works ++ [{ rise := if WWork.rise (List.getD s.works (Int.toNat (List.getD plan k.toNat default)) default) > w.rise then WWork.rise (List.getD s.works (Int.toNat (List.getD plan k.toNat default)) default) else w.rise, calm := if WWork.calm (List.getD s.works (Int.toNat (List.getD plan k.toNat default)) default) > w.calm then WWork.calm (List.getD s.works (Int.toNat (List.getD plan k.toNat default)) default) else w.calm, cost := w.cost }], reef := s.reef, llo := s.llo, lhi := s.lhi } c)) (playL { cells := s.cells, works := s.works ++ [{ rise := if WWork.rise (List.getD s.works (Int.toNat (List.getD plan k.toNat default)) default) > w.rise then WWork.rise (List.getD s.works (Int.toNat (List.getD plan k.toNat default)) default) else w.rise, calm := if WWork.calm (List.getD s.works (Int.toNat (List.getD plan k.toNat default)) default) > w.calm then WWork.calm (List.getD s.works (Int.toNat (List.getD plan k.toNat default)) default) else w.calm, cost := w.cost }], reef := s.reef, llo := s.llo, lhi := s.lhi } (List.set plan k.toNat (↑s.works.length : Int)) (endE true { cells := s.cells, works := s.works ++ [{ rise := if WWork.rise (List.getD s.works (Int.toNat (List.getD plan k.toNat default)) default) > w.rise then WWork.rise (List.getD s.works (Int.toNat (List.getD plan k.toNat default)) default) else w.rise, calm := if WWork.calm (List.getD s.works (Int.toNat (List.getD plan k.toNat default)) default) > w.calm then WWork.calm (List.getD s.works (Int.toNat (List.getD plan k.toNat default)) default) else w.calm, cost := w.cost }], reef := s.reef, llo := s.llo, lhi := s.lhi } c)))) (rowL encSp (zipS (playL { cells := s.cells, works := s.works ++ [{ rise := if WWork.rise (List.getD s.works (Int.toNat (List.getD plan k.toNat default)) default) > w.rise then WWork.rise (List.getD s.works (Int.toNat (List.getD plan k.toNat default)) default) else w.rise, calm := if WWork.calm (List.getD s.works (Int.toNat (List.getD plan k.toNat default)) default) > w.calm then WWork.calm (List.getD s.works (Int.toNat (List.getD plan k.toNat default)) default) else w.calm, cost := w.cost }], reef := s.reef, llo := s.llo, lhi := s.lhi } (List.set plan k.toNat (↑s.works.length : Int)) (endE false { cells := s.cells, works := s.works ++ [{ rise := if WWork.rise (List.getD s.works (Int.toNat (List.getD plan k.toNat default)) default) > w.rise then WWork.rise (List.getD s.works (Int.toNat (List.getD plan k.toNat default)) default) else w.rise, calm := if WWork.calm (List.getD s.works (Int.toNat (List.getD plan k.toNat default)) default) > w.calm then WWork.calm (List.getD s.works (Int.toNat (List.getD plan k.toNat default)) default) else w.calm, cost := w.cost }], reef := s.reef, llo := s.llo, lhi := s.lhi } c)) (playL { cells := s.cells, works := s.works ++ [{ rise := if WWork.rise (List.getD s.works (Int.toNat (List.getD plan k.toNat default)) default) > w.rise then WWork.rise (List.getD s.works (Int.toNat (List.getD plan k.toNat default)) default) else w.rise, calm := if WWork.calm (List.getD s.works (Int.toNat (List.getD plan k.toNat default)) default) > w.calm then WWork.calm (List.getD s.works (Int.toNat (List.getD plan k.toNat default)) default) else w.calm, cost := w.cost }], reef := s.reef, llo := s.llo, lhi := s.lhi } (List.set plan k.toNat (↑s.works.length : Int)) (endE true { cells := s.cells, works := s.works ++ [{ rise := if WWork.rise (List.getD s.works (Int.toNat (List.getD plan k.toNat default)) default) > w.rise then WWork.rise (List.getD s.works (Int.toNat (List.getD plan k.toNat default)) default) else w.rise, calm := if WWork.calm (List.getD s.works (Int.toNat (List.getD plan k.toNat default)) default) > w.calm then WWork.calm (List.getD s.works (Int.toNat (List.getD plan k.toNat default)) default) else w.calm, cost := w.cost }], reef := s.reef, llo := s.llo, lhi := s.lhi } c)))), slT (List.length (zipS (playL s plan (endE false s c)) (playL s plan (endE true s c)))) (rowL encSp (zipS (playL s plan (endE false s c)) (playL s plan (endE true s c))))] (Value.bool true)] ++ wMore_p13 B s c plan k w steps less
noncomputable def wMore_q14 (s : WShore) (c : WStorm) (plan : List Int) (k : Int) (w : WWork) (steps less : Int) : ScriptT := wMore_q12 s c plan k w steps less ++ [(195, HintT.pure (Value.bool true) [])]
noncomputable def wMore_p15 (B : Lo) (s : WShore) (c : WStorm) (plan : List Int) (k : Int) (w : WWork) (steps less : Int) : List Prop := [AllP [] ∧ PureC Try.prog J0 48 (wMore_z0 s c plan steps) (Value.bool true)] ++ wMore_p14 B s c plan k w steps less
noncomputable def wMore_q15 (s : WShore) (c : WStorm) (plan : List Int) (k : Int) (w : WWork) (steps less : Int) : ScriptT := wMore_q14 s c plan k w steps less ++ [(199, HintT.pure (Value.bool true) [])]
theorem wMore_s6 (B : Lo) (s : WShore) (c : WStorm) (plan : List Int) (k : Int) (w : WWork) (steps less : Int) : endT (srunT Try.prog (okFn Try.prog) J0 B 52 1 (entryC Try.prog 13 211 (([.agg (encShore s).toArray, .agg (encStorm c).toArray, slI plan, .int .i64 k, .agg (encWWork w).toArray, .int .i64 steps, .int .i64 less]).map (pushT 0 4))) H00 1
 (wMore_q15 s c plan k w steps less ++ [(204, HintT.pure (Value.bool true) []), (207, HintT.pure (Value.bool true) [])]) 0 [] []) [] = some (Value.bool true,
 [AllP [] ∧ PureC Try.prog J0 15 #[] (Value.bool true), AllP [] ∧ PureC Try.prog J0 48 (wMore_z1 s c plan less) (Value.bool true)] ++ wMore_p15 B s c plan k w steps less) := by kernel_rfl
theorem wMore_s7 (B : Lo) (s : WShore) (c : WStorm) (plan : List Int) (k : Int) (w : WWork) (steps less : Int) : endT (srunT Try.prog (okFn Try.prog) J0 B 52 1 (entryC Try.prog 13 211 (([.agg (encShore s).toArray, .agg (encStorm c).toArray, slI plan, .int .i64 k, .agg (encWWork w).toArray, .int .i64 steps, .int .i64 less]).map (pushT 0 4))) H00 1
 (wMore_q15 s c plan k w steps less ++ [(204, HintT.pure (Value.bool false) [])]) 0 [] []) [] = some (Value.bool false,
 [AllP [] ∧ PureC Try.prog J0 48 (wMore_z1 s c plan less) (Value.bool false)] ++ wMore_p15 B s c plan k w steps less) := by kernel_rfl
theorem wMore_s8 (B : Lo) (s : WShore) (c : WStorm) (plan : List Int) (k : Int) (w : WWork) (steps less : Int) : endT (srunT Try.prog (okFn Try.prog) J0 B 52 1 (entryC Try.prog 13 211 (([.agg (encShore s).toArray, .agg (encStorm c).toArray, slI plan, .int .i64 k, .agg (encWWork w).toArray, .int .i64 steps, .int .i64 less]).map (pushT 0 4))) H00 1
 (wMore_q14 s c plan k w steps less ++ [(199, HintT.pure (Value.bool false) [])]) 0 [] []) [] = some (Value.bool false,
 [AllP [] ∧ PureC Try.prog J0 48 (wMore_z0 s c plan steps) (Value.bool false)] ++ wMore_p14 B s c plan k w steps less) := by kernel_rfl
theorem wMore_s9 (B : Lo) (s : WShore) (c : WStorm) (plan : List Int) (k : Int) (w : WWork) (steps less : Int) : endT (srunT Try.prog (okFn Try.prog) J0 B 52 1 (entryC Try.prog 13 211 (([.agg (encShore s).toArray, .agg (encStorm c).toArray, slI plan, .int .i64 k, .agg (encWWork w).toArray, .int .i64 steps, .int .i64 less]).map (pushT 0 4))) H00 1
 (wMore_q12 s c plan k w steps less ++ [(195, HintT.pure (Value.bool false) [])]) 0 [] []) [] = some (Value.bool false,
 [AllP [] ∧ PureC Try.prog J0 48 #[slT (List.length (zipS (playL { cells := s.cells, works := s.works ++ [{ rise := if WWork.rise (List.getD s.works (Int.toNat (List.getD plan k.toNat default)) default) > w.rise then WWork.rise (List.getD s.works (Int.toNat (List.getD plan k.toNat default)) default) else w.rise, calm := if WWork.calm (List.getD s.works (Int.toNat (List.getD plan k.toNat default)) default) > w.calm then WWork.calm (List.getD s.works (Int.toNat (List.getD plan k.toNat default)) default) else w.calm, cost := w.cost }], reef := s.reef, llo := s.llo, lhi := s.lhi } (List.set plan k.toNat (↑s.works.length : Int)) (endE false { cells := s.cells, works := s.works ++ [{ rise := if WWork.rise (List.getD s.works (Int.toNat (List.getD plan k.toNat default)) default) > w.rise then WWork.rise (List.getD s.works (Int.toNat (List.getD plan k.toNat default)) default) else w.rise, calm := if WWork.calm (List.getD s.works (Int.toNat (List.getD plan k.toNat default)) default) > w.calm then WWork.calm (List.getD s.works (Int.toNat (List.getD plan k.toNat default)) default) else w.calm, cost := w.cost }], reef := s.reef, llo := s.llo, lhi := s.lhi } c)) (playL { cells := s.cells, works := s.works ++ [{ rise := if WWork.rise (List.getD s.works (Int.toNat (List.getD plan k.toNat default)) default) > w.rise then WWork.rise (List.getD s.works (Int.toNat (List.getD plan k.toNat default)) default) else w.rise, calm := if WWork.calm (List.getD s.works (Int.toNat (List.getD plan k.toNat default)) default) > w.calm then WWork.calm (List.getD s.works (Int.toNat (List.getD plan k.toNat default)) default) else w.calm, cost := w.cost }], reef := s.reef, llo := s.llo, lhi := s.lhi } (List.set plan k.toNat (↑s.works.length : Int)) (endE true { cells := s.cells, works := s.works ++ [{ rise := if WWork.rise (List.getD s.works (Int.toNat (List.getD plan k.toNat default)) default) > w.rise then WWork.rise (List.getD s.works (Int.toNat (List.getD plan k.toNat default)) default) else w.rise, calm := if WWork.calm (List.getD s.works (Int.toNat (List.getD plan k.toNat default)) default) > w.calm then WWork.calm (List.getD s.works (Int.toNat (List.getD plan k.toNat default)) default) else w.calm, cost := w.cost }], reef := s.reef, llo := s.llo, lhi := s.lhi } c)))) (rowL encSp (zipS (playL { cells := s.cells, works := s.works ++ [{ rise := if WWork.rise (List.getD s.works (Int.toNat (List.getD plan k.toNat default)) default) > w.rise then WWork.rise (List.getD s.works (Int.toNat (List.getD plan k.toNat default)) default) else w.rise, calm := if WWork.calm (List.getD s.works (Int.toNat (List.getD plan k.toNat default)) default) > w.calm then WWork.calm (List.getD s.works (Int.toNat (List.getD plan k.toNat default)) default) else w.calm, cost := w.cost }], reef := s.reef, llo := s.llo, lhi := s.lhi } (List.set plan k.toNat (↑s.works.length : Int)) (endE false { cells := s.cells, works := s.works ++ [{ rise := if WWork.rise (List.getD s.works (Int.toNat (List.getD plan k.toNat default)) default) > w.rise then WWork.rise (List.getD s.works (Int.toNat (List.getD plan k.toNat default)) default) else w.rise, calm := if WWork.calm (List.getD s.works (Int.toNat (List.getD plan k.toNat default)) default) > w.calm then WWork.calm (List.getD s.works (Int.toNat (List.getD plan k.toNat default)) default) else w.calm, cost := w.cost }], reef := s.reef, llo := s.llo, lhi := s.lhi } c)) (playL { cells := s.cells, works := s.works ++ [{ rise := if WWork.rise (List.getD s.works (Int.toNat (List.getD plan k.toNat default)) default) > w.rise then WWork.rise (List.getD s.works (Int.toNat (List.getD plan k.toNat default)) default) else w.rise, calm := if WWork.calm (List.getD s.works (Int.toNat (List.getD plan k.toNat default)) default) > w.calm then WWork.calm (List.getD s.works (Int.toNat (List.getD plan k.toNat default)) default) else w.calm, cost := w.cost }], reef := s.reef, llo := s.llo, lhi := s.lhi } (List.set plan k.toNat (↑s.works.length : Int)) (endE true { cells := s.cells, works := s.works ++ [{ rise := if WWork.rise (List.getD s.works (Int.toNat (List.getD plan k.toNat default)) default) > w.rise then WWork.rise (List.getD s.works (Int.toNat (List.getD plan k.toNat default)) default) else w.rise, calm := if WWork.calm (List.getD s.works (Int.toNat (List.getD plan k.toNat default)) default) > w.calm then WWork.calm (List.getD s.works (Int.toNat (List.getD plan k.toNat default)) default) else w.calm, cost := w.cost }], reef := s.reef, llo := s.llo, lhi := s.lhi } c)))), slT (List.length (zipS (playL s plan (endE false s c)) (playL s plan (endE true s c)))) (rowL encSp (zipS (playL s plan (endE false s c)) (playL s plan (endE true s c))))] (Value.bool false)] ++ wMore_p13 B s c plan k w steps less) := by kernel_rfl
theorem wMore_s10 (B : Lo) (s : WShore) (c : WStorm) (plan : List Int) (k : Int) (w : WWork) (steps less : Int) : endT (srunT Try.prog (okFn Try.prog) J0 B 51 1 (entryC Try.prog 13 211 (([.agg (encShore s).toArray, .agg (encStorm c).toArray, slI plan, .int .i64 k, .agg (encWWork w).toArray, .int .i64 steps, .int .i64 less]).map (pushT 0 4))) H00 1
 (wMore_q10 s c plan k w steps less ++ [(164, HintT.pure (Value.tuple #[slT 0 #[], .int .i64 2]) []), (173, HintT.pure (wMore_z3 s c plan less) [])]) 0 [] []) [] = some (Value.bool false,
 [AllP [] ∧ PureC Try.prog J0 29 (wMore_z5 s c plan less) (wMore_z3 s c plan less), AllP [] ∧ PureC Try.prog J0 29 (wMore_z6 s c plan steps) (Value.tuple #[slT 0 #[], .int .i64 2])] ++ wMore_p11 B s c plan k w steps less) := by kernel_rfl
theorem wMore_s11 (B : Lo) (s : WShore) (c : WStorm) (plan : List Int) (k : Int) (w : WWork) (steps less : Int) : endT (srunT Try.prog (okFn Try.prog) J0 B 51 1 (entryC Try.prog 13 211 (([.agg (encShore s).toArray, .agg (encStorm c).toArray, slI plan, .int .i64 k, .agg (encWWork w).toArray, .int .i64 steps, .int .i64 less]).map (pushT 0 4))) H00 1
 (wMore_q10 s c plan k w steps less ++ [(164, HintT.pure (Value.tuple #[slT 0 #[], .int .i64 2]) []), (173, HintT.pure (wMore_z3 s c plan less) [])]) 0 [] []) [] = some (Value.bool false,
 [AllP [] ∧ PureC Try.prog J0 29 (wMore_z5 s c plan less) (wMore_z3 s c plan less), AllP [] ∧ PureC Try.prog J0 29 (wMore_z6 s c plan steps) (Value.tuple #[slT 0 #[], .int .i64 2])] ++ wMore_p11 B s c plan k w steps less) := by kernel_rfl
theorem wMore_s12 (B : Lo) (s : WShore) (c : WStorm) (plan : List Int) (k : Int) (w : WWork) (steps less : Int) : endT (srunT Try.prog (okFn Try.prog) J0 B 26 1 (entryC Try.prog 13 211 (([.agg (encShore s).toArray, .agg (encStorm c).toArray, slI plan, .int .i64 k, .agg (encWWork w).toArray, .int .i64 steps, .int .i64 less]).map (pushT 0 4))) H00 1
 (wMore_q9 s c plan k w steps less ++ [(88, HintT.pure (Value.bool false) [{ k := 8, rs := [], cs := rowL encWWork (s.works ++ [{ rise := if WWork.rise (List.getD s.works (Int.toNat (List.getD plan k.toNat default)) default) > w.rise then WWork.rise (List.getD s.works (Int.toNat (List.getD plan k.toNat default)) default) else w.rise, calm := if WWork.calm (List.getD s.works (Int.toNat (List.getD plan k.toNat default)) default) > w.calm then WWork.calm (List.getD s.works (Int.toNat (List.getD plan k.toNat default)) default) else w.calm, cost := w.cost }]) }]), (90, HintT.pure (Value.bool true) [])]) 0 [] []) [] = some (Value.bool true,
 [AllP [] ∧ PureC Try.prog J0 15 #[] (Value.bool true), AllP [CellsT (Fz.rs { k := 8, rs := [], cs := rowL encWWork (s.works ++ [{ rise := if WWork.rise (List.getD s.works (Int.toNat (List.getD plan k.toNat default)) default) > w.rise then WWork.rise (List.getD s.works (Int.toNat (List.getD plan k.toNat default)) default) else w.rise, calm := if WWork.calm (List.getD s.works (Int.toNat (List.getD plan k.toNat default)) default) > w.calm then WWork.calm (List.getD s.works (Int.toNat (List.getD plan k.toNat default)) default) else w.calm, cost := w.cost }]) }) (rowL encWWork (s.works ++ [{ rise := if WWork.rise (List.getD s.works (Int.toNat (List.getD plan k.toNat default)) default) > w.rise then WWork.rise (List.getD s.works (Int.toNat (List.getD plan k.toNat default)) default) else w.rise, calm := if WWork.calm (List.getD s.works (Int.toNat (List.getD plan k.toNat default)) default) > w.calm then WWork.calm (List.getD s.works (Int.toNat (List.getD plan k.toNat default)) default) else w.calm, cost := w.cost }])) (Fz.cs { k := 8, rs := [], cs := rowL encWWork (s.works ++ [{ rise := if WWork.rise (List.getD s.works (Int.toNat (List.getD plan k.toNat default)) default) > w.rise then WWork.rise (List.getD s.works (Int.toNat (List.getD plan k.toNat default)) default) else w.rise, calm := if WWork.calm (List.getD s.works (Int.toNat (List.getD plan k.toNat default)) default) > w.calm then WWork.calm (List.getD s.works (Int.toNat (List.getD plan k.toNat default)) default) else w.calm, cost := w.cost }]) })] ∧ PureC Try.prog J0 19 #[Value.agg (wMore_z4 s plan k w)] (Value.bool false)] ++ wMore_p9 B s c plan k w steps less) := by kernel_rfl
noncomputable def wMore_p16 (B : Lo) (s : WShore) (c : WStorm) (plan : List Int) (k : Int) (w : WWork) (steps less : Int) : List Prop := [(!ltq (List.getD plan k.toNat default) 0) = false] ++ wMore_p8 B s c plan k w steps less
noncomputable def wMore_q16 (s : WShore) (c : WStorm) (plan : List Int) (k : Int) (w : WWork) (steps less : Int) : ScriptT := wMore_q8 s c plan k w steps less ++ [(54, hvF)]
noncomputable def wMore_p17 (B : Lo) (s : WShore) (c : WStorm) (plan : List Int) (k : Int) (w : WWork) (steps less : Int) : List Prop := [List.length s.works = 0] ++ wMore_p16 B s c plan k w steps less
noncomputable def wMore_q17 (s : WShore) (c : WStorm) (plan : List Int) (k : Int) (w : WWork) (steps less : Int) : ScriptT := wMore_q16 s c plan k w steps less ++ [(57, HintT.tapp0)]
noncomputable def wMore_p18 (B : Lo) (s : WShore) (c : WStorm) (plan : List Int) (k : Int) (w : WWork) (steps less : Int) : List Prop := [AllP [] ∧ PureC Try.prog J0 29 (wMore_z7 s c plan) (wMore_z12 s c plan), wq (c.thi - less) = c.thi - less, wq (c.tlo - less) = c.tlo - less, wq (c.whi - less) = c.whi - less, wq (c.wlo - less) = c.wlo - less, wq (s.reef + steps) = s.reef + steps, 0 + Int.toNat k * 1 + TypeInfo.size Try.t3 ≤ Array.size (rowL encI plan) ∧ splice (rowL encI plan) (0 + Int.toNat k * 1) (Value.cells (tget { len := 16000, tr := Tri.set 14 (Tri.set 14 Tri.lf 115 (.int .i64 (↑s.works.length : Int))) 116 (Value.pointer (some { block := 7, off := 0 + Int.toNat k * 1 })) } 115)) = rowL encI (List.set plan k.toNat (↑s.works.length : Int)), k = (↑k.toNat : Int) ∧ Int.toNat k < List.length plan, 0 < List.length plan ∧ List.length plan ≤ maxLen ∧ List.length plan * 8 ≤ 140737488355328 ∧ Array.size (rowL encI plan) = List.length plan * (0 + 1) ∧ Array.map (pushS 0) (rowL encI plan) = rowL encI plan ∧ (Array.all (rowL encI plan) fun v => simple v || isTop v) = true ∧ ones (rowL encI plan) = true, AllP [CellsT (Fz.rs { k := 6, rs := [], cs := (wMore_z13 w) }) (wMore_z13 w) (Fz.cs { k := 6, rs := [], cs := (wMore_z13 w) })] ∧ PureC Try.prog J0 19 #[Value.agg (wMore_z8 s w)] (Value.bool true)] ++ wMore_p17 B s c plan k w steps less
noncomputable def wMore_q18 (s : WShore) (c : WStorm) (plan : List Int) (k : Int) (w : WWork) (steps less : Int) : ScriptT := wMore_q17 s c plan k w steps less ++ [(64, HintT.pure (Value.bool true) [{ k := 6, rs := [], cs := (wMore_z13 w) }]), (67, HintT.tapp (rowL encI plan)), (74, HintT.old (Hint.idx k.toNat)), (75, HintT.old (Hint.st (rowL encI (List.set plan k.toNat (↑s.works.length : Int))))), (85, hvI (s.reef + steps)), (93, hvI (c.wlo - less)), (99, hvI (c.whi - less)), (108, hvI (c.tlo - less)), (114, hvI (c.thi - less)), (122, HintT.pure (wMore_z12 s c plan) []), (131, HintT.pureK (Value.tuple #[slT (List.length (zipS (playL { cells := s.cells, works := [w], reef := s.reef, llo := s.llo, lhi := s.lhi } (List.set plan k.toNat (↑s.works.length : Int)) (endE false { cells := s.cells, works := [w], reef := s.reef, llo := s.llo, lhi := s.lhi } c)) (playL { cells := s.cells, works := [w], reef := s.reef, llo := s.llo, lhi := s.lhi } (List.set plan k.toNat (↑s.works.length : Int)) (endE true { cells := s.cells, works := [w], reef := s.reef, llo := s.llo, lhi := s.lhi } c)))) (rowL encSp (zipS (playL { cells := s.cells, works := [w], reef := s.reef, llo := s.llo, lhi := s.lhi } (List.set plan k.toNat (↑s.works.length : Int)) (endE false { cells := s.cells, works := [w], reef := s.reef, llo := s.llo, lhi := s.lhi } c)) (playL { cells := s.cells, works := [w], reef := s.reef, llo := s.llo, lhi := s.lhi } (List.set plan k.toNat (↑s.works.length : Int)) (endE true { cells := s.cells, works := [w], reef := s.reef, llo := s.llo, lhi := s.lhi } c)))), .int .i64 0]) [{ k := 6, rs := [], cs := (wMore_z13 w) }, { k := 7, rs := [], cs := rowL encI (List.set plan k.toNat (↑s.works.length : Int)) }])]
noncomputable def wMore_p19 (B : Lo) (s : WShore) (c : WStorm) (plan : List Int) (k : Int) (w : WWork) (steps less : Int) : List Prop := [AllP [CellsT (Fz.rs { k := 6, rs := [], cs := (wMore_z13 w) }) (wMore_z13 w) (Fz.cs { k := 6, rs := [], cs := (wMore_z13 w) }), CellsT (Fz.rs { k := 7, rs := [], cs := rowL encI (List.set plan k.toNat (↑s.works.length : Int)) }) (rowL encI (List.set plan k.toNat (↑s.works.length : Int))) (Fz.cs { k := 7, rs := [], cs := rowL encI (List.set plan k.toNat (↑s.works.length : Int)) })] ∧ PureC Try.prog J0 29 #[Value.agg (wMore_z8 s w), Value.agg (wMore_z11 c), slT plan.length (Fz.cs { k := 7, rs := [], cs := rowL encI (List.set plan k.toNat (↑s.works.length : Int)) })] (Value.tuple #[slT (List.length (zipS (playL { cells := s.cells, works := [w], reef := s.reef, llo := s.llo, lhi := s.lhi } (List.set plan k.toNat (↑s.works.length : Int)) (endE false { cells := s.cells, works := [w], reef := s.reef, llo := s.llo, lhi := s.lhi } c)) (playL { cells := s.cells, works := [w], reef := s.reef, llo := s.llo, lhi := s.lhi } (List.set plan k.toNat (↑s.works.length : Int)) (endE true { cells := s.cells, works := [w], reef := s.reef, llo := s.llo, lhi := s.lhi } c)))) (rowL encSp (zipS (playL { cells := s.cells, works := [w], reef := s.reef, llo := s.llo, lhi := s.lhi } (List.set plan k.toNat (↑s.works.length : Int)) (endE false { cells := s.cells, works := [w], reef := s.reef, llo := s.llo, lhi := s.lhi } c)) (playL { cells := s.cells, works := [w], reef := s.reef, llo := s.llo, lhi := s.lhi } (List.set plan k.toNat (↑s.works.length : Int)) (endE true { cells := s.cells, works := [w], reef := s.reef, llo := s.llo, lhi := s.lhi } c)))), .int .i64 0])] ++ wMore_p18 B s c plan k w steps less
noncomputable def wMore_p20 (B : Lo) (s : WShore) (c : WStorm) (plan : List Int) (k : Int) (w : WWork) (steps less : Int) : List Prop := [AllP [] ∧ PureC Try.prog J0 29 (wMore_z6 s c plan steps) (wMore_z2 s c plan steps)] ++ wMore_p19 B s c plan k w steps less
noncomputable def wMore_q20 (s : WShore) (c : WStorm) (plan : List Int) (k : Int) (w : WWork) (steps less : Int) : ScriptT := wMore_q18 s c plan k w steps less ++ [(140, HintT.pure (wMore_z2 s c plan steps) []), (149, HintT.pure (wMore_z3 s c plan less) [])]
noncomputable def wMore_p21 (B : Lo) (s : WShore) (c : WStorm) (plan : List Int) (k : Int) (w : WWork) (steps less : Int) : List Prop := [AllP [] ∧ PureC Try.prog J0 29 (wMore_z5 s c plan less) (wMore_z3 s c plan less)] ++ wMore_p20 B s c plan k w steps less
noncomputable def wMore_p22 (B : Lo) (s : WShore) (c : WStorm) (plan : List Int) (k : Int) (w : WWork) (steps less : Int) : List Prop := [AllP [] ∧ PureC Try.prog J0 48 #[slT (List.length (zipS (playL { cells := s.cells, works := [w], reef := s.reef, llo := s.llo, lhi := s.lhi } (List.set plan k.toNat (↑s.works.length : Int)) (endE false { cells := s.cells, works := [w], reef := s.reef, llo := s.llo, lhi := s.lhi } c)) (playL { cells := s.cells, works := [w], reef := s.reef, llo := s.llo, lhi := s.lhi } (List.set plan k.toNat (↑s.works.length : Int)) (endE true { cells := s.cells, works := [w], reef := s.reef, llo := s.llo, lhi := s.lhi } c)))) (rowL encSp (zipS (playL { cells := s.cells, works := [w], reef := s.reef, llo := s.llo, lhi := s.lhi } (List.set plan k.toNat (↑s.works.length : Int)) (endE false { cells := s.cells, works := [w], reef := s.reef, llo := s.llo, lhi := s.lhi } c)) (playL { cells := s.cells, works := [w], reef := s.reef, llo := s.llo, lhi := s.lhi } (List.set plan k.toNat (↑s.works.length : Int)) (endE true { cells := s.cells, works := [w], reef := s.reef, llo := s.llo, lhi := s.lhi } c)))), slT (List.length (zipS (playL s plan (endE false s c)) (playL s plan (endE true s c)))) (rowL encSp (zipS (playL s plan (endE false s c)) (playL s plan (endE true s c))))] (Value.bool true)] ++ wMore_p21 B s c plan k w steps less
noncomputable def wMore_q22 (s : WShore) (c : WStorm) (plan : List Int) (k : Int) (w : WWork) (steps less : Int) : ScriptT := wMore_q20 s c plan k w steps less ++ [(171, HintT.pure (Value.bool true) [])]
noncomputable def wMore_p23 (B : Lo) (s : WShore) (c : WStorm) (plan : List Int) (k : Int) (w : WWork) (steps less : Int) : List Prop := [AllP [] ∧ PureC Try.prog J0 48 (wMore_z0 s c plan steps) (Value.bool true)] ++ wMore_p22 B s c plan k w steps less
noncomputable def wMore_q23 (s : WShore) (c : WStorm) (plan : List Int) (k : Int) (w : WWork) (steps less : Int) : ScriptT := wMore_q22 s c plan k w steps less ++ [(175, HintT.pure (Value.bool true) [])]
theorem wMore_s13 (B : Lo) (s : WShore) (c : WStorm) (plan : List Int) (k : Int) (w : WWork) (steps less : Int) : endT (srunT Try.prog (okFn Try.prog) J0 B 50 1 (entryC Try.prog 13 211 (([.agg (encShore s).toArray, .agg (encStorm c).toArray, slI plan, .int .i64 k, .agg (encWWork w).toArray, .int .i64 steps, .int .i64 less]).map (pushT 0 4))) H00 1
 (wMore_q23 s c plan k w steps less ++ [(180, HintT.pure (Value.bool true) []), (183, HintT.pure (Value.bool true) [])]) 0 [] []) [] = some (Value.bool true,
 [AllP [] ∧ PureC Try.prog J0 15 #[] (Value.bool true), AllP [] ∧ PureC Try.prog J0 48 (wMore_z1 s c plan less) (Value.bool true)] ++ wMore_p23 B s c plan k w steps less) := by kernel_rfl
theorem wMore_s14 (B : Lo) (s : WShore) (c : WStorm) (plan : List Int) (k : Int) (w : WWork) (steps less : Int) : endT (srunT Try.prog (okFn Try.prog) J0 B 50 1 (entryC Try.prog 13 211 (([.agg (encShore s).toArray, .agg (encStorm c).toArray, slI plan, .int .i64 k, .agg (encWWork w).toArray, .int .i64 steps, .int .i64 less]).map (pushT 0 4))) H00 1
 (wMore_q23 s c plan k w steps less ++ [(180, HintT.pure (Value.bool false) [])]) 0 [] []) [] = some (Value.bool false,
 [AllP [] ∧ PureC Try.prog J0 48 (wMore_z1 s c plan less) (Value.bool false)] ++ wMore_p23 B s c plan k w steps less) := by kernel_rfl
theorem wMore_s15 (B : Lo) (s : WShore) (c : WStorm) (plan : List Int) (k : Int) (w : WWork) (steps less : Int) : endT (srunT Try.prog (okFn Try.prog) J0 B 50 1 (entryC Try.prog 13 211 (([.agg (encShore s).toArray, .agg (encStorm c).toArray, slI plan, .int .i64 k, .agg (encWWork w).toArray, .int .i64 steps, .int .i64 less]).map (pushT 0 4))) H00 1
 (wMore_q22 s c plan k w steps less ++ [(175, HintT.pure (Value.bool false) [])]) 0 [] []) [] = some (Value.bool false,
 [AllP [] ∧ PureC Try.prog J0 48 (wMore_z0 s c plan steps) (Value.bool false)] ++ wMore_p22 B s c plan k w steps less) := by kernel_rfl
theorem wMore_s16 (B : Lo) (s : WShore) (c : WStorm) (plan : List Int) (k : Int) (w : WWork) (steps less : Int) : endT (srunT Try.prog (okFn Try.prog) J0 B 50 1 (entryC Try.prog 13 211 (([.agg (encShore s).toArray, .agg (encStorm c).toArray, slI plan, .int .i64 k, .agg (encWWork w).toArray, .int .i64 steps, .int .i64 less]).map (pushT 0 4))) H00 1
 (wMore_q20 s c plan k w steps less ++ [(171, HintT.pure (Value.bool false) [])]) 0 [] []) [] = some (Value.bool false,
 [AllP [] ∧ PureC Try.prog J0 48 #[slT (List.length (zipS (playL { cells := s.cells, works := [w], reef := s.reef, llo := s.llo, lhi := s.lhi } (List.set plan k.toNat (↑s.works.length : Int)) (endE false { cells := s.cells, works := [w], reef := s.reef, llo := s.llo, lhi := s.lhi } c)) (playL { cells := s.cells, works := [w], reef := s.reef, llo := s.llo, lhi := s.lhi } (List.set plan k.toNat (↑s.works.length : Int)) (endE true { cells := s.cells, works := [w], reef := s.reef, llo := s.llo, lhi := s.lhi } c)))) (rowL encSp (zipS (playL { cells := s.cells, works := [w], reef := s.reef, llo := s.llo, lhi := s.lhi } (List.set plan k.toNat (↑s.works.length : Int)) (endE false { cells := s.cells, works := [w], reef := s.reef, llo := s.llo, lhi := s.lhi } c)) (playL { cells := s.cells, works := [w], reef := s.reef, llo := s.llo, lhi := s.lhi } (List.set plan k.toNat (↑s.works.length : Int)) (endE true { cells := s.cells, works := [w], reef := s.reef, llo := s.llo, lhi := s.lhi } c)))), slT (List.length (zipS (playL s plan (endE false s c)) (playL s plan (endE true s c)))) (rowL encSp (zipS (playL s plan (endE false s c)) (playL s plan (endE true s c))))] (Value.bool false)] ++ wMore_p21 B s c plan k w steps less) := by kernel_rfl
theorem wMore_s17 (B : Lo) (s : WShore) (c : WStorm) (plan : List Int) (k : Int) (w : WWork) (steps less : Int) : endT (srunT Try.prog (okFn Try.prog) J0 B 49 1 (entryC Try.prog 13 211 (([.agg (encShore s).toArray, .agg (encStorm c).toArray, slI plan, .int .i64 k, .agg (encWWork w).toArray, .int .i64 steps, .int .i64 less]).map (pushT 0 4))) H00 1
 (wMore_q18 s c plan k w steps less ++ [(140, HintT.pure (Value.tuple #[slT 0 #[], .int .i64 2]) []), (149, HintT.pure (wMore_z3 s c plan less) [])]) 0 [] []) [] = some (Value.bool false,
 [AllP [] ∧ PureC Try.prog J0 29 (wMore_z5 s c plan less) (wMore_z3 s c plan less), AllP [] ∧ PureC Try.prog J0 29 (wMore_z6 s c plan steps) (Value.tuple #[slT 0 #[], .int .i64 2])] ++ wMore_p19 B s c plan k w steps less) := by kernel_rfl
theorem wMore_s18 (B : Lo) (s : WShore) (c : WStorm) (plan : List Int) (k : Int) (w : WWork) (steps less : Int) : endT (srunT Try.prog (okFn Try.prog) J0 B 49 1 (entryC Try.prog 13 211 (([.agg (encShore s).toArray, .agg (encStorm c).toArray, slI plan, .int .i64 k, .agg (encWWork w).toArray, .int .i64 steps, .int .i64 less]).map (pushT 0 4))) H00 1
 (wMore_q18 s c plan k w steps less ++ [(140, HintT.pure (Value.tuple #[slT 0 #[], .int .i64 2]) []), (149, HintT.pure (wMore_z3 s c plan less) [])]) 0 [] []) [] = some (Value.bool false,
 [AllP [] ∧ PureC Try.prog J0 29 (wMore_z5 s c plan less) (wMore_z3 s c plan less), AllP [] ∧ PureC Try.prog J0 29 (wMore_z6 s c plan steps) (Value.tuple #[slT 0 #[], .int .i64 2])] ++ wMore_p19 B s c plan k w steps less) := by kernel_rfl
theorem wMore_s19 (B : Lo) (s : WShore) (c : WStorm) (plan : List Int) (k : Int) (w : WWork) (steps less : Int) : endT (srunT Try.prog (okFn Try.prog) J0 B 24 1 (entryC Try.prog 13 211 (([.agg (encShore s).toArray, .agg (encStorm c).toArray, slI plan, .int .i64 k, .agg (encWWork w).toArray, .int .i64 steps, .int .i64 less]).map (pushT 0 4))) H00 1
 (wMore_q17 s c plan k w steps less ++ [(64, HintT.pure (Value.bool false) [{ k := 6, rs := [], cs := (wMore_z13 w) }]), (66, HintT.pure (Value.bool true) [])]) 0 [] []) [] = some (Value.bool true,
 [AllP [] ∧ PureC Try.prog J0 15 #[] (Value.bool true), AllP [CellsT (Fz.rs { k := 6, rs := [], cs := (wMore_z13 w) }) (wMore_z13 w) (Fz.cs { k := 6, rs := [], cs := (wMore_z13 w) })] ∧ PureC Try.prog J0 19 #[Value.agg (wMore_z8 s w)] (Value.bool false)] ++ wMore_p17 B s c plan k w steps less) := by kernel_rfl
noncomputable def wMore_p24 (B : Lo) (s : WShore) (c : WStorm) (plan : List Int) (k : Int) (w : WWork) (steps less : Int) : List Prop := [Array.size (rowL encWWork s.works) = List.length s.works * (2 + 1) ∧ List.length s.works + 1 ≤ maxLen ∧ (List.length s.works + 1) * 24 ≤ 140737488355328 ∧ rowL encWWork s.works ++ (wMore_z13 w) = rowL encWWork (s.works ++ [w]), 0 < List.length s.works ∧ List.length s.works ≤ maxLen ∧ List.length s.works * 24 ≤ 140737488355328 ∧ Array.size (rowL encWWork s.works) = List.length s.works * (2 + 1) ∧ Array.map (pushS 0) (rowL encWWork s.works) = rowL encWWork s.works ∧ (Array.all (rowL encWWork s.works) fun v => simple v || isTop v) = true ∧ ones (rowL encWWork s.works) = true] ++ wMore_p16 B s c plan k w steps less
noncomputable def wMore_q24 (s : WShore) (c : WStorm) (plan : List Int) (k : Int) (w : WWork) (steps less : Int) : ScriptT := wMore_q16 s c plan k w steps less ++ [(57, HintT.tapp (rowL encWWork s.works)), (60, HintT.old (Hint.app (rowL encWWork (s.works ++ [w]))))]
noncomputable def wMore_p25 (B : Lo) (s : WShore) (c : WStorm) (plan : List Int) (k : Int) (w : WWork) (steps less : Int) : List Prop := [AllP [] ∧ PureC Try.prog J0 29 (wMore_z7 s c plan) (wMore_z12 s c plan), wq (c.thi - less) = c.thi - less, wq (c.tlo - less) = c.tlo - less, wq (c.whi - less) = c.whi - less, wq (c.wlo - less) = c.wlo - less, wq (s.reef + steps) = s.reef + steps, 0 + Int.toNat k * 1 + TypeInfo.size Try.t3 ≤ Array.size (rowL encI plan) ∧ splice (rowL encI plan) (0 + Int.toNat k * 1) (Value.cells (tget { len := 16000, tr := Tri.set 14 (Tri.set 14 Tri.lf 115 (.int .i64 (↑s.works.length : Int))) 116 (Value.pointer (some { block := 8, off := 0 + Int.toNat k * 1 })) } 115)) = rowL encI (List.set plan k.toNat (↑s.works.length : Int)), k = (↑k.toNat : Int) ∧ Int.toNat k < List.length plan, 0 < List.length plan ∧ List.length plan ≤ maxLen ∧ List.length plan * 8 ≤ 140737488355328 ∧ Array.size (rowL encI plan) = List.length plan * (0 + 1) ∧ Array.map (pushS 0) (rowL encI plan) = rowL encI plan ∧ (Array.all (rowL encI plan) fun v => simple v || isTop v) = true ∧ ones (rowL encI plan) = true, AllP [CellsT (Fz.rs { k := 7, rs := [], cs := rowL encWWork (s.works ++ [w]) }) (rowL encWWork (s.works ++ [w])) (Fz.cs { k := 7, rs := [], cs := rowL encWWork (s.works ++ [w]) })] ∧ PureC Try.prog J0 19 #[Value.agg (wMore_z9 s k w)] (Value.bool true)] ++ wMore_p24 B s c plan k w steps less
noncomputable def wMore_q25 (s : WShore) (c : WStorm) (plan : List Int) (k : Int) (w : WWork) (steps less : Int) : ScriptT := wMore_q24 s c plan k w steps less ++ [(64, HintT.pure (Value.bool true) [{ k := 7, rs := [], cs := rowL encWWork (s.works ++ [w]) }]), (67, HintT.tapp (rowL encI plan)), (74, HintT.old (Hint.idx k.toNat)), (75, HintT.old (Hint.st (rowL encI (List.set plan k.toNat (↑s.works.length : Int))))), (85, hvI (s.reef + steps)), (93, hvI (c.wlo - less)), (99, hvI (c.whi - less)), (108, hvI (c.tlo - less)), (114, hvI (c.thi - less)), (122, HintT.pure (wMore_z12 s c plan) []), (131, HintT.pureK (Value.tuple #[slT (List.length (zipS (playL { cells := s.cells, works := s.works ++ [w], reef := s.reef, llo := s.llo, lhi := s.lhi } (List.set plan k.toNat (↑s.works.length : Int)) (endE false { cells := s.cells, works := s.works ++ [w], reef := s.reef, llo := s.llo, lhi := s.lhi } c)) (playL { cells := s.cells, works := s.works ++ [w], reef := s.reef, llo := s.llo, lhi := s.lhi } (List.set plan k.toNat (↑s.works.length : Int)) (endE true { cells := s.cells, works := s.works ++ [w], reef := s.reef, llo := s.llo, lhi := s.lhi } c)))) (rowL encSp (zipS (playL { cells := s.cells, works := s.works ++ [w], reef := s.reef, llo := s.llo, lhi := s.lhi } (List.set plan k.toNat (↑s.works.length : Int)) (endE false { cells := s.cells, works := s.works ++ [w], reef := s.reef, llo := s.llo, lhi := s.lhi } c)) (playL { cells := s.cells, works := s.works ++ [w], reef := s.reef, llo := s.llo, lhi := s.lhi } (List.set plan k.toNat (↑s.works.length : Int)) (endE true { cells := s.cells, works := s.works ++ [w], reef := s.reef, llo := s.llo, lhi := s.lhi } c)))), .int .i64 0]) [{ k := 7, rs := [], cs := rowL encWWork (s.works ++ [w]) }, { k := 8, rs := [], cs := rowL encI (List.set plan k.toNat (↑s.works.length : Int)) }])]
noncomputable def wMore_p26 (B : Lo) (s : WShore) (c : WStorm) (plan : List Int) (k : Int) (w : WWork) (steps less : Int) : List Prop := [AllP [CellsT (Fz.rs { k := 7, rs := [], cs := rowL encWWork (s.works ++ [w]) }) (rowL encWWork (s.works ++ [w])) (Fz.cs { k := 7, rs := [], cs := rowL encWWork (s.works ++ [w]) }), CellsT (Fz.rs { k := 8, rs := [], cs := rowL encI (List.set plan k.toNat (↑s.works.length : Int)) }) (rowL encI (List.set plan k.toNat (↑s.works.length : Int))) (Fz.cs { k := 8, rs := [], cs := rowL encI (List.set plan k.toNat (↑s.works.length : Int)) })] ∧ PureC Try.prog J0 29 #[Value.agg (wMore_z9 s k w), Value.agg (wMore_z11 c), slT plan.length (Fz.cs { k := 8, rs := [], cs := rowL encI (List.set plan k.toNat (↑s.works.length : Int)) })] (Value.tuple #[slT (List.length (zipS (playL { cells := s.cells, works := s.works ++ [w], reef := s.reef, llo := s.llo, lhi := s.lhi } (List.set plan k.toNat (↑s.works.length : Int)) (endE false { cells := s.cells, works := s.works ++ [w], reef := s.reef, llo := s.llo, lhi := s.lhi } c)) (playL { cells := s.cells, works := s.works ++ [w], reef := s.reef, llo := s.llo, lhi := s.lhi } (List.set plan k.toNat (↑s.works.length : Int)) (endE true { cells := s.cells, works := s.works ++ [w], reef := s.reef, llo := s.llo, lhi := s.lhi } c)))) (rowL encSp (zipS (playL { cells := s.cells, works := s.works ++ [w], reef := s.reef, llo := s.llo, lhi := s.lhi } (List.set plan k.toNat (↑s.works.length : Int)) (endE false { cells := s.cells, works := s.works ++ [w], reef := s.reef, llo := s.llo, lhi := s.lhi } c)) (playL { cells := s.cells, works := s.works ++ [w], reef := s.reef, llo := s.llo, lhi := s.lhi } (List.set plan k.toNat (↑s.works.length : Int)) (endE true { cells := s.cells, works := s.works ++ [w], reef := s.reef, llo := s.llo, lhi := s.lhi } c)))), .int .i64 0])] ++ wMore_p25 B s c plan k w steps less
noncomputable def wMore_p27 (B : Lo) (s : WShore) (c : WStorm) (plan : List Int) (k : Int) (w : WWork) (steps less : Int) : List Prop := [AllP [] ∧ PureC Try.prog J0 29 (wMore_z6 s c plan steps) (wMore_z2 s c plan steps)] ++ wMore_p26 B s c plan k w steps less
noncomputable def wMore_q27 (s : WShore) (c : WStorm) (plan : List Int) (k : Int) (w : WWork) (steps less : Int) : ScriptT := wMore_q25 s c plan k w steps less ++ [(140, HintT.pure (wMore_z2 s c plan steps) []), (149, HintT.pure (wMore_z3 s c plan less) [])]
noncomputable def wMore_p28 (B : Lo) (s : WShore) (c : WStorm) (plan : List Int) (k : Int) (w : WWork) (steps less : Int) : List Prop := [AllP [] ∧ PureC Try.prog J0 29 (wMore_z5 s c plan less) (wMore_z3 s c plan less)] ++ wMore_p27 B s c plan k w steps less
noncomputable def wMore_p29 (B : Lo) (s : WShore) (c : WStorm) (plan : List Int) (k : Int) (w : WWork) (steps less : Int) : List Prop := [AllP [] ∧ PureC Try.prog J0 48 #[slT (List.length (zipS (playL { cells := s.cells, works := s.works ++ [w], reef := s.reef, llo := s.llo, lhi := s.lhi } (List.set plan k.toNat (↑s.works.length : Int)) (endE false { cells := s.cells, works := s.works ++ [w], reef := s.reef, llo := s.llo, lhi := s.lhi } c)) (playL { cells := s.cells, works := s.works ++ [w], reef := s.reef, llo := s.llo, lhi := s.lhi } (List.set plan k.toNat (↑s.works.length : Int)) (endE true { cells := s.cells, works := s.works ++ [w], reef := s.reef, llo := s.llo, lhi := s.lhi } c)))) (rowL encSp (zipS (playL { cells := s.cells, works := s.works ++ [w], reef := s.reef, llo := s.llo, lhi := s.lhi } (List.set plan k.toNat (↑s.works.length : Int)) (endE false { cells := s.cells, works := s.works ++ [w], reef := s.reef, llo := s.llo, lhi := s.lhi } c)) (playL { cells := s.cells, works := s.works ++ [w], reef := s.reef, llo := s.llo, lhi := s.lhi } (List.set plan k.toNat (↑s.works.length : Int)) (endE true { cells := s.cells, works := s.works ++ [w], reef := s.reef, llo := s.llo, lhi := s.lhi } c)))), slT (List.length (zipS (playL s plan (endE false s c)) (playL s plan (endE true s c)))) (rowL encSp (zipS (playL s plan (endE false s c)) (playL s plan (endE true s c))))] (Value.bool true)] ++ wMore_p28 B s c plan k w steps less
noncomputable def wMore_q29 (s : WShore) (c : WStorm) (plan : List Int) (k : Int) (w : WWork) (steps less : Int) : ScriptT := wMore_q27 s c plan k w steps less ++ [(171, HintT.pure (Value.bool true) [])]
noncomputable def wMore_p30 (B : Lo) (s : WShore) (c : WStorm) (plan : List Int) (k : Int) (w : WWork) (steps less : Int) : List Prop := [AllP [] ∧ PureC Try.prog J0 48 (wMore_z0 s c plan steps) (Value.bool true)] ++ wMore_p29 B s c plan k w steps less
noncomputable def wMore_q30 (s : WShore) (c : WStorm) (plan : List Int) (k : Int) (w : WWork) (steps less : Int) : ScriptT := wMore_q29 s c plan k w steps less ++ [(175, HintT.pure (Value.bool true) [])]
theorem wMore_s20 (B : Lo) (s : WShore) (c : WStorm) (plan : List Int) (k : Int) (w : WWork) (steps less : Int) : endT (srunT Try.prog (okFn Try.prog) J0 B 50 1 (entryC Try.prog 13 211 (([.agg (encShore s).toArray, .agg (encStorm c).toArray, slI plan, .int .i64 k, .agg (encWWork w).toArray, .int .i64 steps, .int .i64 less]).map (pushT 0 4))) H00 1
 (wMore_q30 s c plan k w steps less ++ [(180, HintT.pure (Value.bool true) []), (183, HintT.pure (Value.bool true) [])]) 0 [] []) [] = some (Value.bool true,
 [AllP [] ∧ PureC Try.prog J0 15 #[] (Value.bool true), AllP [] ∧ PureC Try.prog J0 48 (wMore_z1 s c plan less) (Value.bool true)] ++ wMore_p30 B s c plan k w steps less) := by kernel_rfl
theorem wMore_s21 (B : Lo) (s : WShore) (c : WStorm) (plan : List Int) (k : Int) (w : WWork) (steps less : Int) : endT (srunT Try.prog (okFn Try.prog) J0 B 50 1 (entryC Try.prog 13 211 (([.agg (encShore s).toArray, .agg (encStorm c).toArray, slI plan, .int .i64 k, .agg (encWWork w).toArray, .int .i64 steps, .int .i64 less]).map (pushT 0 4))) H00 1
 (wMore_q30 s c plan k w steps less ++ [(180, HintT.pure (Value.bool false) [])]) 0 [] []) [] = some (Value.bool false,
 [AllP [] ∧ PureC Try.prog J0 48 (wMore_z1 s c plan less) (Value.bool false)] ++ wMore_p30 B s c plan k w steps less) := by kernel_rfl
theorem wMore_s22 (B : Lo) (s : WShore) (c : WStorm) (plan : List Int) (k : Int) (w : WWork) (steps less : Int) : endT (srunT Try.prog (okFn Try.prog) J0 B 50 1 (entryC Try.prog 13 211 (([.agg (encShore s).toArray, .agg (encStorm c).toArray, slI plan, .int .i64 k, .agg (encWWork w).toArray, .int .i64 steps, .int .i64 less]).map (pushT 0 4))) H00 1
 (wMore_q29 s c plan k w steps less ++ [(175, HintT.pure (Value.bool false) [])]) 0 [] []) [] = some (Value.bool false,
 [AllP [] ∧ PureC Try.prog J0 48 (wMore_z0 s c plan steps) (Value.bool false)] ++ wMore_p29 B s c plan k w steps less) := by kernel_rfl
theorem wMore_s23 (B : Lo) (s : WShore) (c : WStorm) (plan : List Int) (k : Int) (w : WWork) (steps less : Int) : endT (srunT Try.prog (okFn Try.prog) J0 B 50 1 (entryC Try.prog 13 211 (([.agg (encShore s).toArray, .agg (encStorm c).toArray, slI plan, .int .i64 k, .agg (encWWork w).toArray, .int .i64 steps, .int .i64 less]).map (pushT 0 4))) H00 1
 (wMore_q27 s c plan k w steps less ++ [(171, HintT.pure (Value.bool false) [])]) 0 [] []) [] = some (Value.bool false,
 [AllP [] ∧ PureC Try.prog J0 48 #[slT (List.length (zipS (playL { cells := s.cells, works := s.works ++ [w], reef := s.reef, llo := s.llo, lhi := s.lhi } (List.set plan k.toNat (↑s.works.length : Int)) (endE false { cells := s.cells, works := s.works ++ [w], reef := s.reef, llo := s.llo, lhi := s.lhi } c)) (playL { cells := s.cells, works := s.works ++ [w], reef := s.reef, llo := s.llo, lhi := s.lhi } (List.set plan k.toNat (↑s.works.length : Int)) (endE true { cells := s.cells, works := s.works ++ [w], reef := s.reef, llo := s.llo, lhi := s.lhi } c)))) (rowL encSp (zipS (playL { cells := s.cells, works := s.works ++ [w], reef := s.reef, llo := s.llo, lhi := s.lhi } (List.set plan k.toNat (↑s.works.length : Int)) (endE false { cells := s.cells, works := s.works ++ [w], reef := s.reef, llo := s.llo, lhi := s.lhi } c)) (playL { cells := s.cells, works := s.works ++ [w], reef := s.reef, llo := s.llo, lhi := s.lhi } (List.set plan k.toNat (↑s.works.length : Int)) (endE true { cells := s.cells, works := s.works ++ [w], reef := s.reef, llo := s.llo, lhi := s.lhi } c)))), slT (List.length (zipS (playL s plan (endE false s c)) (playL s plan (endE true s c)))) (rowL encSp (zipS (playL s plan (endE false s c)) (playL s plan (endE true s c))))] (Value.bool false)] ++ wMore_p28 B s c plan k w steps less) := by kernel_rfl
theorem wMore_s24 (B : Lo) (s : WShore) (c : WStorm) (plan : List Int) (k : Int) (w : WWork) (steps less : Int) : endT (srunT Try.prog (okFn Try.prog) J0 B 49 1 (entryC Try.prog 13 211 (([.agg (encShore s).toArray, .agg (encStorm c).toArray, slI plan, .int .i64 k, .agg (encWWork w).toArray, .int .i64 steps, .int .i64 less]).map (pushT 0 4))) H00 1
 (wMore_q25 s c plan k w steps less ++ [(140, HintT.pure (Value.tuple #[slT 0 #[], .int .i64 2]) []), (149, HintT.pure (wMore_z3 s c plan less) [])]) 0 [] []) [] = some (Value.bool false,
 [AllP [] ∧ PureC Try.prog J0 29 (wMore_z5 s c plan less) (wMore_z3 s c plan less), AllP [] ∧ PureC Try.prog J0 29 (wMore_z6 s c plan steps) (Value.tuple #[slT 0 #[], .int .i64 2])] ++ wMore_p26 B s c plan k w steps less) := by kernel_rfl
theorem wMore_s25 (B : Lo) (s : WShore) (c : WStorm) (plan : List Int) (k : Int) (w : WWork) (steps less : Int) : endT (srunT Try.prog (okFn Try.prog) J0 B 49 1 (entryC Try.prog 13 211 (([.agg (encShore s).toArray, .agg (encStorm c).toArray, slI plan, .int .i64 k, .agg (encWWork w).toArray, .int .i64 steps, .int .i64 less]).map (pushT 0 4))) H00 1
 (wMore_q25 s c plan k w steps less ++ [(140, HintT.pure (Value.tuple #[slT 0 #[], .int .i64 2]) []), (149, HintT.pure (wMore_z3 s c plan less) [])]) 0 [] []) [] = some (Value.bool false,
 [AllP [] ∧ PureC Try.prog J0 29 (wMore_z5 s c plan less) (wMore_z3 s c plan less), AllP [] ∧ PureC Try.prog J0 29 (wMore_z6 s c plan steps) (Value.tuple #[slT 0 #[], .int .i64 2])] ++ wMore_p26 B s c plan k w steps less) := by kernel_rfl
theorem wMore_s26 (B : Lo) (s : WShore) (c : WStorm) (plan : List Int) (k : Int) (w : WWork) (steps less : Int) : endT (srunT Try.prog (okFn Try.prog) J0 B 24 1 (entryC Try.prog 13 211 (([.agg (encShore s).toArray, .agg (encStorm c).toArray, slI plan, .int .i64 k, .agg (encWWork w).toArray, .int .i64 steps, .int .i64 less]).map (pushT 0 4))) H00 1
 (wMore_q24 s c plan k w steps less ++ [(64, HintT.pure (Value.bool false) [{ k := 7, rs := [], cs := rowL encWWork (s.works ++ [w]) }]), (66, HintT.pure (Value.bool true) [])]) 0 [] []) [] = some (Value.bool true,
 [AllP [] ∧ PureC Try.prog J0 15 #[] (Value.bool true), AllP [CellsT (Fz.rs { k := 7, rs := [], cs := rowL encWWork (s.works ++ [w]) }) (rowL encWWork (s.works ++ [w])) (Fz.cs { k := 7, rs := [], cs := rowL encWWork (s.works ++ [w]) })] ∧ PureC Try.prog J0 19 #[Value.agg (wMore_z9 s k w)] (Value.bool false)] ++ wMore_p24 B s c plan k w steps less) := by kernel_rfl
theorem wMore_s27 (B : Lo) (s : WShore) (c : WStorm) (plan : List Int) (k : Int) (w : WWork) (steps less : Int) : endT (srunT Try.prog (okFn Try.prog) J0 B 10 1 (entryC Try.prog 13 211 (([.agg (encShore s).toArray, .agg (encStorm c).toArray, slI plan, .int .i64 k, .agg (encWWork w).toArray, .int .i64 steps, .int .i64 less]).map (pushT 0 4))) H00 1
 (wMore_q2 s c plan k w steps less ++ [(22, HintT.pure (Value.bool false) []), (47, HintT.pure (Value.bool true) [])]) 0 [] []) [] = some (Value.bool true,
 [AllP [] ∧ PureC Try.prog J0 15 #[] (Value.bool true), AllP [] ∧ PureC Try.prog J0 35 #[Value.agg #[slT s.cells.length (rowL encWCell s.cells), slT s.works.length (rowL encWWork s.works), .int .i64 s.reef, .int .i64 s.llo, .int .i64 s.lhi], .int .i64 k] (Value.bool false)] ++ wMore_p2 B s c plan k w steps less) := by kernel_rfl
theorem wMore_s28 (B : Lo) (s : WShore) (c : WStorm) (plan : List Int) (k : Int) (w : WWork) (steps less : Int) : endT (srunT Try.prog (okFn Try.prog) J0 B 10 1 (entryC Try.prog 13 211 (([.agg (encShore s).toArray, .agg (encStorm c).toArray, slI plan, .int .i64 k, .agg (encWWork w).toArray, .int .i64 steps, .int .i64 less]).map (pushT 0 4))) H00 1
 (wMore_q1 s c plan k w steps less ++ [(16, HintT.pure (Value.bool false) []), (47, HintT.pure (Value.bool true) [])]) 0 [] []) [] = some (Value.bool true,
 [AllP [] ∧ PureC Try.prog J0 15 #[] (Value.bool true), AllP [] ∧ PureC Try.prog J0 25 (wMore_z7 s c plan) (Value.bool false)] ++ wMore_p1 B s c plan k w steps less) := by kernel_rfl
theorem wMore_s29 (B : Lo) (s : WShore) (c : WStorm) (plan : List Int) (k : Int) (w : WWork) (steps less : Int) : endT (srunT Try.prog (okFn Try.prog) J0 B 10 1 (entryC Try.prog 13 211 (([.agg (encShore s).toArray, .agg (encStorm c).toArray, slI plan, .int .i64 k, .agg (encWWork w).toArray, .int .i64 steps, .int .i64 less]).map (pushT 0 4))) H00 1
 (wMore_q1 s c plan k w steps less ++ [(16, HintT.pure (Value.bool false) []), (47, HintT.pure (Value.bool true) [])]) 0 [] []) [] = some (Value.bool true,
 [AllP [] ∧ PureC Try.prog J0 15 #[] (Value.bool true), AllP [] ∧ PureC Try.prog J0 25 (wMore_z7 s c plan) (Value.bool false)] ++ wMore_p1 B s c plan k w steps less) := by kernel_rfl
theorem wMore_s30 (B : Lo) (s : WShore) (c : WStorm) (plan : List Int) (k : Int) (w : WWork) (steps less : Int) : endT (srunT Try.prog (okFn Try.prog) J0 B 10 1 (entryC Try.prog 13 211 (([.agg (encShore s).toArray, .agg (encStorm c).toArray, slI plan, .int .i64 k, .agg (encWWork w).toArray, .int .i64 steps, .int .i64 less]).map (pushT 0 4))) H00 1
 (wMore_q1 s c plan k w steps less ++ [(16, HintT.pure (Value.bool false) []), (47, HintT.pure (Value.bool true) [])]) 0 [] []) [] = some (Value.bool true,
 [AllP [] ∧ PureC Try.prog J0 15 #[] (Value.bool true), AllP [] ∧ PureC Try.prog J0 25 (wMore_z7 s c plan) (Value.bool false)] ++ wMore_p1 B s c plan k w steps less) := by kernel_rfl
theorem wMore_s31 (B : Lo) (s : WShore) (c : WStorm) (plan : List Int) (k : Int) (w : WWork) (steps less : Int) : endT (srunT Try.prog (okFn Try.prog) J0 B 10 1 (entryC Try.prog 13 211 (([.agg (encShore s).toArray, .agg (encStorm c).toArray, slI plan, .int .i64 k, .agg (encWWork w).toArray, .int .i64 steps, .int .i64 less]).map (pushT 0 4))) H00 1
 [(5, HintT.pure (Value.bool false) []), (47, HintT.pure (Value.bool true) [])] 0 [] []) [] = some (Value.bool true,
 [AllP [] ∧ PureC Try.prog J0 15 #[] (Value.bool true), AllP [] ∧ PureC Try.prog J0 14 (wMore_z10 s) (Value.bool false)]) := by kernel_rfl
theorem wMore_s32 (B : Lo) (s : WShore) (c : WStorm) (plan : List Int) (k : Int) (w : WWork) (steps less : Int) : endT (srunT Try.prog (okFn Try.prog) J0 B 10 1 (entryC Try.prog 13 211 (([.agg (encShore s).toArray, .agg (encStorm c).toArray, slI plan, .int .i64 k, .agg (encWWork w).toArray, .int .i64 steps, .int .i64 less]).map (pushT 0 4))) H00 1
 [(5, HintT.pure (Value.bool false) []), (47, HintT.pure (Value.bool true) [])] 0 [] []) [] = some (Value.bool true,
 [AllP [] ∧ PureC Try.prog J0 15 #[] (Value.bool true), AllP [] ∧ PureC Try.prog J0 14 (wMore_z10 s) (Value.bool false)]) := by kernel_rfl
set_option maxHeartbeats 4000000 in
theorem wMore_e (s : WShore) (c : WStorm) (plan : List Int) (k : Int) (w : WWork) (steps less : Int)  (hfacts : s.cells.length ≤ 9223372036854775807 ∧ s.works.length ≤ 9223372036854775807 ∧ plan.length ≤ 9223372036854775807) {B : Lo} (hJ : ∀ w, B.has w → J0 w) : EndsT Try.prog B (entryC Try.prog 13 211 (([.agg (encShore s).toArray, .agg (encStorm c).toArray, slI plan, .int .i64 k, .agg (encWWork w).toArray, .int .i64 steps, .int .i64 less]).map (pushT 0 4))) (.bool true) := by
 cases q0 : decide (List.length s.cells ≤ 12) with
 | true =>
   cases q1 : decide (List.length s.works ≤ 8) with
   | true =>
     have hp0 : AllP (wMore_p0 B s c plan k w steps less) := by
      exact ⟨⟨trivial, (by have t_ := lshort (s); rw [q0, q1] at t_; exact t_)⟩, trivial⟩
     by_cases q2 : (12 : Int) < ((↑plan.length : Int))
     ·
      exact (GoE.endsT okF hJ mixed_ok GoE.start (wMore_s0 B s c plan k w steps less)
       ⟨⟨trivial, known⟩, ⟨(ltq_t q2), hp0⟩⟩).cast rfl
     ·
      have hp1 : AllP (wMore_p1 B s c plan k w steps less) := by
       exact ⟨(ltq_f (Int.not_lt.1 q2)), hp0⟩
      cases q3 : shoreB s with
      | true =>
        cases q4 : stormB c with
        | true =>
          cases q5 : planB s plan with
          | true =>
            have hp2 : AllP (wMore_p2 B s c plan k w steps less) := by
             have h1 := shore_facts ‹shoreB s = true›
             have h2 := storm_facts ‹stormB c = true›
             have h3 := plan_facts ‹planB s plan = true›
             exact ⟨⟨trivial, (by have t_ := lbuilt (s) (c) (plan); rw [q3, q4, q5] at t_; exact t_)⟩, hp1⟩
            cases q6 : inB k 0 ((↑s.cells.length : Int) - 1) with
            | true =>
              have hp3 : AllP (wMore_p3 B s c plan k w steps less) := by
               have h1 := shore_facts ‹shoreB s = true›
               have h2 := storm_facts ‹stormB c = true›
               have h3 := plan_facts ‹planB s plan = true›
               have h4 := inB_iff.1 ‹inB k 0 _ = true›
               have h5 := h3.2 _ (getD_mem (l := plan) (i := k) h4.1 (by omega))
               exact ⟨⟨trivial, (by have t_ := rCell (s) (k); rw [q6] at t_; exact t_)⟩, hp2⟩
              by_cases q7 : (3 : Int) ≤ ((↑s.works.length : Int))
              ·
               exact (GoE.endsT okF hJ mixed_ok GoE.start (wMore_s1 B s c plan k w steps less)
                ⟨⟨trivial, known⟩, ⟨(nltq_t q7), hp3⟩⟩).cast rfl
              ·
               have hp4 : AllP (wMore_p4 B s c plan k w steps less) := by
                exact ⟨(nltq_f (Int.not_le.1 q7)), hp3⟩
               by_cases q8 : (steps : Int) < (0)
               ·
                exact (GoE.endsT okF hJ mixed_ok GoE.start (wMore_s2 B s c plan k w steps less)
                 ⟨⟨trivial, known⟩, ⟨(ltq_t q8), hp4⟩⟩).cast rfl
               ·
                have hp5 : AllP (wMore_p5 B s c plan k w steps less) := by
                 exact ⟨(ltq_f (Int.not_lt.1 q8)), hp4⟩
                by_cases q9 : (20 : Int) < (steps)
                ·
                 exact (GoE.endsT okF hJ mixed_ok GoE.start (wMore_s3 B s c plan k w steps less)
                  ⟨⟨trivial, known⟩, ⟨(ltq_t q9), hp5⟩⟩).cast rfl
                ·
                 have hp6 : AllP (wMore_p6 B s c plan k w steps less) := by
                  exact ⟨(ltq_f (Int.not_lt.1 q9)), hp5⟩
                 by_cases q10 : (less : Int) < (0)
                 ·
                  exact (GoE.endsT okF hJ mixed_ok GoE.start (wMore_s4 B s c plan k w steps less)
                   ⟨⟨trivial, known⟩, ⟨(ltq_t q10), hp6⟩⟩).cast rfl
                 ·
                  have hp7 : AllP (wMore_p7 B s c plan k w steps less) := by
                   exact ⟨(ltq_f (Int.not_lt.1 q10)), hp6⟩
                  by_cases q11 : (5000 : Int) < (less)
                  ·
                   exact (GoE.endsT okF hJ mixed_ok GoE.start (wMore_s5 B s c plan k w steps less)
                    ⟨⟨trivial, known⟩, ⟨(ltq_t q11), hp7⟩⟩).cast rfl
                  ·
                   have hp8 : AllP (wMore_p8 B s c plan k w steps less) := by
                    have h1 := shore_facts ‹shoreB s = true›
                    have h2 := storm_facts ‹stormB c = true›
                    have h3 := plan_facts ‹planB s plan = true›
                    have h4 := inB_iff.1 ‹inB k 0 _ = true›
                    have h5 := h3.2 _ (getD_mem (l := plan) (i := k) h4.1 (by omega))
                    exact ⟨⟨by omega, by omega, (rowL_extract (z := 1) (fun _ => rfl) (by omega))⟩, ⟨(ltq_f (Int.not_lt.1 q11)), hp7⟩⟩
                   by_cases q12 : (0 : Int) ≤ (List.getD plan k.toNat default)
                   ·
                    have hp9 : AllP (wMore_p9 B s c plan k w steps less) := by
                     have h1 := shore_facts ‹shoreB s = true›
                     have h2 := storm_facts ‹stormB c = true›
                     have h3 := plan_facts ‹planB s plan = true›
                     have h4 := inB_iff.1 ‹inB k 0 _ = true›
                     have h5 := h3.2 _ (getD_mem (l := plan) (i := k) h4.1 (by omega))
                     exact ⟨⟨(by exact rowL_size (z := 3) (fun _ => rfl)), (by unfold maxLen; omega), by omega, by first | exact rowL_push | exact rowL_pushC rfl⟩, ⟨⟨by omega, (by unfold maxLen; omega), by omega, (by exact rowL_size (z := 3) (fun _ => rfl)), tapp_simple (fun _ => rfl) _⟩, ⟨⟨by omega, by omega, (rowL_extract (z := 3) (fun _ => rfl) (by omega))⟩, ⟨⟨by omega, by omega, (rowL_extract (z := 1) (fun _ => rfl) (by omega))⟩, ⟨(nltq_t q12), hp8⟩⟩⟩⟩⟩
                    by_cases q13 : (List.length s.works : Int) = (0)
                    ·
                     exfalso
                     (have h3 := plan_facts ‹planB s plan = true›; have h4 := inB_iff.1 ‹inB k 0 _ = true›; have h5 := h3.2 _ (getD_mem (l := plan) (i := k) h4.1 (by omega)); omega)
                    ·
                     cases q14 : shoreB { cells := s.cells, works := s.works ++ [{ rise := if WWork.rise (List.getD s.works (Int.toNat (List.getD plan k.toNat default)) default) > w.rise then WWork.rise (List.getD s.works (Int.toNat (List.getD plan k.toNat default)) default) else w.rise, calm := if WWork.calm (List.getD s.works (Int.toNat (List.getD plan k.toNat default)) default) > w.calm then WWork.calm (List.getD s.works (Int.toNat (List.getD plan k.toNat default)) default) else w.calm, cost := w.cost }], reef := s.reef, llo := s.llo, lhi := s.lhi } with
                     | true =>
                       have hp10 : AllP (wMore_p10 B s c plan k w steps less) := by
                        have h1 := shore_facts ‹shoreB s = true›
                        have h2 := storm_facts ‹stormB c = true›
                        have h3 := plan_facts ‹planB s plan = true›
                        have h4 := inB_iff.1 ‹inB k 0 _ = true›
                        have h5 := h3.2 _ (getD_mem (l := plan) (i := k) h4.1 (by omega))
                        exact ⟨⟨trivial, (by have t_ := pDepths (s) (c) (plan); rw [q3, q4, q5] at t_; exact t_)⟩, ⟨(wq_in (by omega) (by omega)), ⟨(wq_in (by omega) (by omega)), ⟨(wq_in (by omega) (by omega)), ⟨(wq_in (by omega) (by omega)), ⟨(wq_in (by omega) (by omega)), ⟨(by exact rowL_st0 (z := 1) (fun _ => rfl) (by omega) rfl rfl), ⟨⟨by omega, by omega⟩, ⟨⟨by omega, (by unfold maxLen; omega), by omega, (by exact rowL_size (z := 1) (fun _ => rfl)), tapp_simple (fun _ => rfl) _⟩, ⟨⟨⟨(rowL_cellsT (fun x => List.all_eq_true.1 (by rfl))), trivial⟩, (by have t_ := rShoreC s.cells (s.works ++ [{ rise := if WWork.rise (List.getD s.works (Int.toNat (List.getD plan k.toNat default)) default) > w.rise then WWork.rise (List.getD s.works (Int.toNat (List.getD plan k.toNat default)) default) else w.rise, calm := if WWork.calm (List.getD s.works (Int.toNat (List.getD plan k.toNat default)) default) > w.calm then WWork.calm (List.getD s.works (Int.toNat (List.getD plan k.toNat default)) default) else w.calm, cost := w.cost }]) s.reef s.llo s.lhi (List.length s.works + 1) (by simp_all); rw [q14] at t_; exact t_)⟩, hp9⟩⟩⟩⟩⟩⟩⟩⟩⟩⟩
                       by_cases q15 : (List.length plan : Int) = (0)
                       ·
                        exfalso
                        (have h3 := plan_facts ‹planB s plan = true›; have h4 := inB_iff.1 ‹inB k 0 _ = true›; have h5 := h3.2 _ (getD_mem (l := plan) (i := k) h4.1 (by omega)); omega)
                       ·
                        cases q16 : planB { cells := s.cells, works := s.works ++ [{ rise := if WWork.rise (List.getD s.works (Int.toNat (List.getD plan k.toNat default)) default) > w.rise then WWork.rise (List.getD s.works (Int.toNat (List.getD plan k.toNat default)) default) else w.rise, calm := if WWork.calm (List.getD s.works (Int.toNat (List.getD plan k.toNat default)) default) > w.calm then WWork.calm (List.getD s.works (Int.toNat (List.getD plan k.toNat default)) default) else w.calm, cost := w.cost }], reef := s.reef, llo := s.llo, lhi := s.lhi } (List.set plan k.toNat (↑s.works.length : Int)) with
                        | true =>
                          have hp11 : AllP (wMore_p11 B s c plan k w steps less) := by
                           have h1 := shore_facts ‹shoreB s = true›
                           have h2 := storm_facts ‹stormB c = true›
                           have h3 := plan_facts ‹planB s plan = true›
                           have h4 := inB_iff.1 ‹inB k 0 _ = true›
                           have h5 := h3.2 _ (getD_mem (l := plan) (i := k) h4.1 (by omega))
                           exact ⟨⟨⟨(rowL_cellsT (fun x => List.all_eq_true.1 (by rfl))), ⟨(rowL_cellsT (fun x => List.all_eq_true.1 (by rfl))), trivial⟩⟩, (by have t_ := pDepthsC s.cells (s.works ++ [{ rise := if WWork.rise (List.getD s.works (Int.toNat (List.getD plan k.toNat default)) default) > w.rise then WWork.rise (List.getD s.works (Int.toNat (List.getD plan k.toNat default)) default) else w.rise, calm := if WWork.calm (List.getD s.works (Int.toNat (List.getD plan k.toNat default)) default) > w.calm then WWork.calm (List.getD s.works (Int.toNat (List.getD plan k.toNat default)) default) else w.calm, cost := w.cost }]) s.reef s.llo s.lhi (c) (List.set plan k.toNat (↑s.works.length : Int)) (List.length s.works + 1) plan.length (by simp_all) (by simp_all); rw [q4, q14, q16] at t_; exact t_)⟩, hp10⟩
                          cases q17 : shoreB { cells := s.cells, works := s.works, reef := if s.reef + steps < 20 then s.reef + steps else 20, llo := s.llo, lhi := s.lhi } with
                          | true =>
                            cases q18 : planB { cells := s.cells, works := s.works, reef := if s.reef + steps < 20 then s.reef + steps else 20, llo := s.llo, lhi := s.lhi } plan with
                            | true =>
                              have hp12 : AllP (wMore_p12 B s c plan k w steps less) := by
                               have h1 := shore_facts ‹shoreB s = true›
                               have h2 := storm_facts ‹stormB c = true›
                               have h3 := plan_facts ‹planB s plan = true›
                               have h4 := inB_iff.1 ‹inB k 0 _ = true›
                               have h5 := h3.2 _ (getD_mem (l := plan) (i := k) h4.1 (by omega))
                               exact ⟨⟨trivial, (by have t_ := pDepthsC s.cells s.works (if s.reef + steps < 20 then s.reef + steps else 20) s.llo s.lhi (c) (plan) s.works.length plan.length (by omega) (by omega); rw [q4, q17, q18] at t_; exact t_)⟩, hp11⟩
                              cases q19 : stormB { wlo := if c.wlo - less > 0 then c.wlo - less else 0, whi := if c.whi - less > 0 then c.whi - less else 0, flo := c.flo, fhi := c.fhi, tlo := if c.tlo - less > -5000 then c.tlo - less else -5000, thi := if c.thi - less > -5000 then c.thi - less else -5000 } with
                              | true =>
                                have hp13 : AllP (wMore_p13 B s c plan k w steps less) := by
                                 have h1 := shore_facts ‹shoreB s = true›
                                 have h2 := storm_facts ‹stormB c = true›
                                 have h3 := plan_facts ‹planB s plan = true›
                                 have h4 := inB_iff.1 ‹inB k 0 _ = true›
                                 have h5 := h3.2 _ (getD_mem (l := plan) (i := k) h4.1 (by omega))
                                 exact ⟨⟨trivial, (by have t_ := pDepthsS (s) (if c.wlo - less > 0 then c.wlo - less else 0) (if c.whi - less > 0 then c.whi - less else 0) c.flo c.fhi (if c.tlo - less > -5000 then c.tlo - less else -5000) (if c.thi - less > -5000 then c.thi - less else -5000) (plan); rw [q3, q5, q19] at t_; exact t_)⟩, hp12⟩
                                cases q20 : lowL (zipS (playL { cells := s.cells, works := s.works ++ [{ rise := if WWork.rise (List.getD s.works (Int.toNat (List.getD plan k.toNat default)) default) > w.rise then WWork.rise (List.getD s.works (Int.toNat (List.getD plan k.toNat default)) default) else w.rise, calm := if WWork.calm (List.getD s.works (Int.toNat (List.getD plan k.toNat default)) default) > w.calm then WWork.calm (List.getD s.works (Int.toNat (List.getD plan k.toNat default)) default) else w.calm, cost := w.cost }], reef := s.reef, llo := s.llo, lhi := s.lhi } (List.set plan k.toNat (↑s.works.length : Int)) (endE false { cells := s.cells, works := s.works ++ [{ rise := if WWork.rise (List.getD s.works (Int.toNat (List.getD plan k.toNat default)) default) > w.rise then WWork.rise (List.getD s.works (Int.toNat (List.getD plan k.toNat default)) default) else w.rise, calm := if WWork.calm (List.getD s.works (Int.toNat (List.getD plan k.toNat default)) default) > w.calm then WWork.calm (List.getD s.works (Int.toNat (List.getD plan k.toNat default)) default) else w.calm, cost := w.cost }], reef := s.reef, llo := s.llo, lhi := s.lhi } c)) (playL { cells := s.cells, works := s.works ++ [{ rise := if WWork.rise (List.getD s.works (Int.toNat (List.getD plan k.toNat default)) default) > w.rise then WWork.rise (List.getD s.works (Int.toNat (List.getD plan k.toNat default)) default) else w.rise, calm := if WWork.calm (List.getD s.works (Int.toNat (List.getD plan k.toNat default)) default) > w.calm then WWork.calm (List.getD s.works (Int.toNat (List.getD plan k.toNat default)) default) else w.calm, cost := w.cost }], reef := s.reef, llo := s.llo, lhi := s.lhi } (List.set plan k.toNat (↑s.works.length : Int)) (endE true { cells := s.cells, works := s.works ++ [{ rise := if WWork.rise (List.getD s.works (Int.toNat (List.getD plan k.toNat default)) default) > w.rise then WWork.rise (List.getD s.works (Int.toNat (List.getD plan k.toNat default)) default) else w.rise, calm := if WWork.calm (List.getD s.works (Int.toNat (List.getD plan k.toNat default)) default) > w.calm then WWork.calm (List.getD s.works (Int.toNat (List.getD plan k.toNat default)) default) else w.calm, cost := w.cost }], reef := s.reef, llo := s.llo, lhi := s.lhi } c))) (zipS (playL s plan (endE false s c)) (playL s plan (endE true s c))) with
                                | true =>
                                  have hp14 : AllP (wMore_p14 B s c plan k w steps less) := by
                                   have h1 := shore_facts ‹shoreB s = true›
                                   have h2 := storm_facts ‹stormB c = true›
                                   have h3 := plan_facts ‹planB s plan = true›
                                   have h4 := inB_iff.1 ‹inB k 0 _ = true›
                                   have h5 := h3.2 _ (getD_mem (l := plan) (i := k) h4.1 (by omega))
                                   exact ⟨⟨trivial, (by have t_ := lLower (zipS (playL { cells := s.cells, works := s.works ++ [{ rise := if WWork.rise (List.getD s.works (Int.toNat (List.getD plan k.toNat default)) default) > w.rise then WWork.rise (List.getD s.works (Int.toNat (List.getD plan k.toNat default)) default) else w.rise, calm := if WWork.calm (List.getD s.works (Int.toNat (List.getD plan k.toNat default)) default) > w.calm then WWork.calm (List.getD s.works (Int.toNat (List.getD plan k.toNat default)) default) else w.calm, cost := w.cost }], reef := s.reef, llo := s.llo, lhi := s.lhi } (List.set plan k.toNat (↑s.works.length : Int)) (endE false { cells := s.cells, works := s.works ++ [{ rise := if WWork.rise (List.getD s.works (Int.toNat (List.getD plan k.toNat default)) default) > w.rise then WWork.rise (List.getD s.works (Int.toNat (List.getD plan k.toNat default)) default) else w.rise, calm := if WWork.calm (List.getD s.works (Int.toNat (List.getD plan k.toNat default)) default) > w.calm then WWork.calm (List.getD s.works (Int.toNat (List.getD plan k.toNat default)) default) else w.calm, cost := w.cost }], reef := s.reef, llo := s.llo, lhi := s.lhi } c)) (playL { cells := s.cells, works := s.works ++ [{ rise := if WWork.rise (List.getD s.works (Int.toNat (List.getD plan k.toNat default)) default) > w.rise then WWork.rise (List.getD s.works (Int.toNat (List.getD plan k.toNat default)) default) else w.rise, calm := if WWork.calm (List.getD s.works (Int.toNat (List.getD plan k.toNat default)) default) > w.calm then WWork.calm (List.getD s.works (Int.toNat (List.getD plan k.toNat default)) default) else w.calm, cost := w.cost }], reef := s.reef, llo := s.llo, lhi := s.lhi } (List.set plan k.toNat (↑s.works.length : Int)) (endE true { cells := s.cells, works := s.works ++ [{ rise := if WWork.rise (List.getD s.works (Int.toNat (List.getD plan k.toNat default)) default) > w.rise then WWork.rise (List.getD s.works (Int.toNat (List.getD plan k.toNat default)) default) else w.rise, calm := if WWork.calm (List.getD s.works (Int.toNat (List.getD plan k.toNat default)) default) > w.calm then WWork.calm (List.getD s.works (Int.toNat (List.getD plan k.toNat default)) default) else w.calm, cost := w.cost }], reef := s.reef, llo := s.llo, lhi := s.lhi } c))) (zipS (playL s plan (endE false s c)) (playL s plan (endE true s c))); rw [q20] at t_; exact t_)⟩, hp13⟩
                                  cases q21 : lowL (zipS (playL { cells := s.cells, works := s.works, reef := if s.reef + steps < 20 then s.reef + steps else 20, llo := s.llo, lhi := s.lhi } plan (endE false { cells := s.cells, works := s.works, reef := if s.reef + steps < 20 then s.reef + steps else 20, llo := s.llo, lhi := s.lhi } c)) (playL { cells := s.cells, works := s.works, reef := if s.reef + steps < 20 then s.reef + steps else 20, llo := s.llo, lhi := s.lhi } plan (endE true { cells := s.cells, works := s.works, reef := if s.reef + steps < 20 then s.reef + steps else 20, llo := s.llo, lhi := s.lhi } c))) (zipS (playL s plan (endE false s c)) (playL s plan (endE true s c))) with
                                  | true =>
                                    have hp15 : AllP (wMore_p15 B s c plan k w steps less) := by
                                     have h1 := shore_facts ‹shoreB s = true›
                                     have h2 := storm_facts ‹stormB c = true›
                                     have h3 := plan_facts ‹planB s plan = true›
                                     have h4 := inB_iff.1 ‹inB k 0 _ = true›
                                     have h5 := h3.2 _ (getD_mem (l := plan) (i := k) h4.1 (by omega))
                                     exact ⟨⟨trivial, (by have t_ := lLower (zipS (playL { cells := s.cells, works := s.works, reef := if s.reef + steps < 20 then s.reef + steps else 20, llo := s.llo, lhi := s.lhi } plan (endE false { cells := s.cells, works := s.works, reef := if s.reef + steps < 20 then s.reef + steps else 20, llo := s.llo, lhi := s.lhi } c)) (playL { cells := s.cells, works := s.works, reef := if s.reef + steps < 20 then s.reef + steps else 20, llo := s.llo, lhi := s.lhi } plan (endE true { cells := s.cells, works := s.works, reef := if s.reef + steps < 20 then s.reef + steps else 20, llo := s.llo, lhi := s.lhi } c))) (zipS (playL s plan (endE false s c)) (playL s plan (endE true s c))); rw [q21] at t_; exact t_)⟩, hp14⟩
                                    cases q22 : lowL (zipS (playL s plan (endE false s { wlo := if c.wlo - less > 0 then c.wlo - less else 0, whi := if c.whi - less > 0 then c.whi - less else 0, flo := c.flo, fhi := c.fhi, tlo := if c.tlo - less > -5000 then c.tlo - less else -5000, thi := if c.thi - less > -5000 then c.thi - less else -5000 })) (playL s plan (endE true s { wlo := if c.wlo - less > 0 then c.wlo - less else 0, whi := if c.whi - less > 0 then c.whi - less else 0, flo := c.flo, fhi := c.fhi, tlo := if c.tlo - less > -5000 then c.tlo - less else -5000, thi := if c.thi - less > -5000 then c.thi - less else -5000 }))) (zipS (playL s plan (endE false s c)) (playL s plan (endE true s c))) with
                                    | true =>
                                      have h1 := shore_facts ‹shoreB s = true›
                                      have h2 := storm_facts ‹stormB c = true›
                                      have h3 := plan_facts ‹planB s plan = true›
                                      have h4 := inB_iff.1 ‹inB k 0 _ = true›
                                      have h5 := h3.2 _ (getD_mem (l := plan) (i := k) h4.1 (by omega))
                                      exact (GoE.endsT okF hJ mixed_ok GoE.start (wMore_s6 B s c plan k w steps less)
                                       ⟨⟨trivial, known⟩, ⟨⟨trivial, (by have t_ := lLower (zipS (playL s plan (endE false s { wlo := if c.wlo - less > 0 then c.wlo - less else 0, whi := if c.whi - less > 0 then c.whi - less else 0, flo := c.flo, fhi := c.fhi, tlo := if c.tlo - less > -5000 then c.tlo - less else -5000, thi := if c.thi - less > -5000 then c.thi - less else -5000 })) (playL s plan (endE true s { wlo := if c.wlo - less > 0 then c.wlo - less else 0, whi := if c.whi - less > 0 then c.whi - less else 0, flo := c.flo, fhi := c.fhi, tlo := if c.tlo - less > -5000 then c.tlo - less else -5000, thi := if c.thi - less > -5000 then c.thi - less else -5000 }))) (zipS (playL s plan (endE false s c)) (playL s plan (endE true s c))); rw [q22] at t_; exact t_)⟩, hp15⟩⟩).cast rfl
                                    | false =>
                                      have h1 := shore_facts ‹shoreB s = true›
                                      have h2 := storm_facts ‹stormB c = true›
                                      have h3 := plan_facts ‹planB s plan = true›
                                      have h4 := inB_iff.1 ‹inB k 0 _ = true›
                                      have h5 := h3.2 _ (getD_mem (l := plan) (i := k) h4.1 (by omega))
                                      exact (GoE.endsT okF hJ mixed_ok GoE.start (wMore_s7 B s c plan k w steps less)
                                       ⟨⟨trivial, (by have t_ := lLower (zipS (playL s plan (endE false s { wlo := if c.wlo - less > 0 then c.wlo - less else 0, whi := if c.whi - less > 0 then c.whi - less else 0, flo := c.flo, fhi := c.fhi, tlo := if c.tlo - less > -5000 then c.tlo - less else -5000, thi := if c.thi - less > -5000 then c.thi - less else -5000 })) (playL s plan (endE true s { wlo := if c.wlo - less > 0 then c.wlo - less else 0, whi := if c.whi - less > 0 then c.whi - less else 0, flo := c.flo, fhi := c.fhi, tlo := if c.tlo - less > -5000 then c.tlo - less else -5000, thi := if c.thi - less > -5000 then c.thi - less else -5000 }))) (zipS (playL s plan (endE false s c)) (playL s plan (endE true s c))); rw [q22] at t_; exact t_)⟩, hp15⟩).cast (by (exfalso; exact no_z (n := less) ‹shoreB s = true› ‹stormB c = true› ‹planB s plan = true› (by with_reducible assumption) (by omega)))
                                  | false =>
                                    have h1 := shore_facts ‹shoreB s = true›
                                    have h2 := storm_facts ‹stormB c = true›
                                    have h3 := plan_facts ‹planB s plan = true›
                                    have h4 := inB_iff.1 ‹inB k 0 _ = true›
                                    have h5 := h3.2 _ (getD_mem (l := plan) (i := k) h4.1 (by omega))
                                    exact (GoE.endsT okF hJ mixed_ok GoE.start (wMore_s8 B s c plan k w steps less)
                                     ⟨⟨trivial, (by have t_ := lLower (zipS (playL { cells := s.cells, works := s.works, reef := if s.reef + steps < 20 then s.reef + steps else 20, llo := s.llo, lhi := s.lhi } plan (endE false { cells := s.cells, works := s.works, reef := if s.reef + steps < 20 then s.reef + steps else 20, llo := s.llo, lhi := s.lhi } c)) (playL { cells := s.cells, works := s.works, reef := if s.reef + steps < 20 then s.reef + steps else 20, llo := s.llo, lhi := s.lhi } plan (endE true { cells := s.cells, works := s.works, reef := if s.reef + steps < 20 then s.reef + steps else 20, llo := s.llo, lhi := s.lhi } c))) (zipS (playL s plan (endE false s c)) (playL s plan (endE true s c))); rw [q21] at t_; exact t_)⟩, hp14⟩).cast (by (exfalso; exact no_y (n := steps) ‹shoreB s = true› ‹stormB c = true› ‹planB s plan = true› (by with_reducible assumption) (by omega)))
                                | false =>
                                  have h1 := shore_facts ‹shoreB s = true›
                                  have h2 := storm_facts ‹stormB c = true›
                                  have h3 := plan_facts ‹planB s plan = true›
                                  have h4 := inB_iff.1 ‹inB k 0 _ = true›
                                  have h5 := h3.2 _ (getD_mem (l := plan) (i := k) h4.1 (by omega))
                                  exact (GoE.endsT okF hJ mixed_ok GoE.start (wMore_s9 B s c plan k w steps less)
                                   ⟨⟨trivial, (by have t_ := lLower (zipS (playL { cells := s.cells, works := s.works ++ [{ rise := if WWork.rise (List.getD s.works (Int.toNat (List.getD plan k.toNat default)) default) > w.rise then WWork.rise (List.getD s.works (Int.toNat (List.getD plan k.toNat default)) default) else w.rise, calm := if WWork.calm (List.getD s.works (Int.toNat (List.getD plan k.toNat default)) default) > w.calm then WWork.calm (List.getD s.works (Int.toNat (List.getD plan k.toNat default)) default) else w.calm, cost := w.cost }], reef := s.reef, llo := s.llo, lhi := s.lhi } (List.set plan k.toNat (↑s.works.length : Int)) (endE false { cells := s.cells, works := s.works ++ [{ rise := if WWork.rise (List.getD s.works (Int.toNat (List.getD plan k.toNat default)) default) > w.rise then WWork.rise (List.getD s.works (Int.toNat (List.getD plan k.toNat default)) default) else w.rise, calm := if WWork.calm (List.getD s.works (Int.toNat (List.getD plan k.toNat default)) default) > w.calm then WWork.calm (List.getD s.works (Int.toNat (List.getD plan k.toNat default)) default) else w.calm, cost := w.cost }], reef := s.reef, llo := s.llo, lhi := s.lhi } c)) (playL { cells := s.cells, works := s.works ++ [{ rise := if WWork.rise (List.getD s.works (Int.toNat (List.getD plan k.toNat default)) default) > w.rise then WWork.rise (List.getD s.works (Int.toNat (List.getD plan k.toNat default)) default) else w.rise, calm := if WWork.calm (List.getD s.works (Int.toNat (List.getD plan k.toNat default)) default) > w.calm then WWork.calm (List.getD s.works (Int.toNat (List.getD plan k.toNat default)) default) else w.calm, cost := w.cost }], reef := s.reef, llo := s.llo, lhi := s.lhi } (List.set plan k.toNat (↑s.works.length : Int)) (endE true { cells := s.cells, works := s.works ++ [{ rise := if WWork.rise (List.getD s.works (Int.toNat (List.getD plan k.toNat default)) default) > w.rise then WWork.rise (List.getD s.works (Int.toNat (List.getD plan k.toNat default)) default) else w.rise, calm := if WWork.calm (List.getD s.works (Int.toNat (List.getD plan k.toNat default)) default) > w.calm then WWork.calm (List.getD s.works (Int.toNat (List.getD plan k.toNat default)) default) else w.calm, cost := w.cost }], reef := s.reef, llo := s.llo, lhi := s.lhi } c))) (zipS (playL s plan (endE false s c)) (playL s plan (endE true s c))); rw [q20] at t_; exact t_)⟩, hp13⟩).cast (by (exfalso; exact no_x ‹shoreB s = true› ‹stormB c = true› ‹planB s plan = true› ‹inB k 0 _ = true› (by with_reducible assumption) (by with_reducible assumption) (by first | rfl | exact one_work (by with_reducible assumption)) (by first | (intro hn; exact absurd hn (by with_reducible assumption)) | (intro _; constructor <;> simp only <;> split <;> omega))))
                              | false =>
                                exfalso
                                (exact no_stormZ (by with_reducible assumption) (by with_reducible assumption) (by omega))
                            | false =>
                              cases q19 : stormB { wlo := if c.wlo - less > 0 then c.wlo - less else 0, whi := if c.whi - less > 0 then c.whi - less else 0, flo := c.flo, fhi := c.fhi, tlo := if c.tlo - less > -5000 then c.tlo - less else -5000, thi := if c.thi - less > -5000 then c.thi - less else -5000 } with
                              | true =>
                                have h1 := shore_facts ‹shoreB s = true›
                                have h2 := storm_facts ‹stormB c = true›
                                have h3 := plan_facts ‹planB s plan = true›
                                have h4 := inB_iff.1 ‹inB k 0 _ = true›
                                have h5 := h3.2 _ (getD_mem (l := plan) (i := k) h4.1 (by omega))
                                exact (GoE.endsT okF hJ mixed_ok GoE.start (wMore_s10 B s c plan k w steps less)
                                 ⟨⟨trivial, (by have t_ := pDepthsS (s) (if c.wlo - less > 0 then c.wlo - less else 0) (if c.whi - less > 0 then c.whi - less else 0) c.flo c.fhi (if c.tlo - less > -5000 then c.tlo - less else -5000) (if c.thi - less > -5000 then c.thi - less else -5000) (plan); rw [q3, q5, q19] at t_; exact t_)⟩, ⟨⟨trivial, (by have t_ := pDepthsC s.cells s.works (if s.reef + steps < 20 then s.reef + steps else 20) s.llo s.lhi (c) (plan) s.works.length plan.length (by omega) (by omega); rw [q4, q17, q18] at t_; exact t_)⟩, hp11⟩⟩).cast (by (exfalso; exact no_planY (n := steps) ‹planB s plan = true› (by with_reducible assumption)))
                              | false =>
                                exfalso
                                (exact no_stormZ (by with_reducible assumption) (by with_reducible assumption) (by omega))
                          | false =>
                            cases q18 : stormB { wlo := if c.wlo - less > 0 then c.wlo - less else 0, whi := if c.whi - less > 0 then c.whi - less else 0, flo := c.flo, fhi := c.fhi, tlo := if c.tlo - less > -5000 then c.tlo - less else -5000, thi := if c.thi - less > -5000 then c.thi - less else -5000 } with
                            | true =>
                              have h1 := shore_facts ‹shoreB s = true›
                              have h2 := storm_facts ‹stormB c = true›
                              have h3 := plan_facts ‹planB s plan = true›
                              have h4 := inB_iff.1 ‹inB k 0 _ = true›
                              have h5 := h3.2 _ (getD_mem (l := plan) (i := k) h4.1 (by omega))
                              exact (GoE.endsT okF hJ mixed_ok GoE.start (wMore_s11 B s c plan k w steps less)
                               ⟨⟨trivial, (by have t_ := pDepthsS (s) (if c.wlo - less > 0 then c.wlo - less else 0) (if c.whi - less > 0 then c.whi - less else 0) c.flo c.fhi (if c.tlo - less > -5000 then c.tlo - less else -5000) (if c.thi - less > -5000 then c.thi - less else -5000) (plan); rw [q3, q5, q18] at t_; exact t_)⟩, ⟨⟨trivial, (by have t_ := pDepthsC s.cells s.works (if s.reef + steps < 20 then s.reef + steps else 20) s.llo s.lhi (c) (plan) s.works.length plan.length (by omega) (by omega); rw [q4, q17] at t_; exact t_)⟩, hp11⟩⟩).cast (by (exfalso; exact no_shoreY (n := steps) ‹shoreB s = true› (by with_reducible assumption) (by omega)))
                            | false =>
                              exfalso
                              (exact no_stormZ (by with_reducible assumption) (by with_reducible assumption) (by omega))
                        | false =>
                          exfalso
                          (exact no_planX (by with_reducible assumption) (by with_reducible assumption) (by rfl))
                     | false =>
                       have h1 := shore_facts ‹shoreB s = true›
                       have h2 := storm_facts ‹stormB c = true›
                       have h3 := plan_facts ‹planB s plan = true›
                       have h4 := inB_iff.1 ‹inB k 0 _ = true›
                       have h5 := h3.2 _ (getD_mem (l := plan) (i := k) h4.1 (by omega))
                       exact (GoE.endsT okF hJ mixed_ok GoE.start (wMore_s12 B s c plan k w steps less)
                        ⟨⟨trivial, known⟩, ⟨⟨⟨(rowL_cellsT (fun x => List.all_eq_true.1 (by rfl))), trivial⟩, (by have t_ := rShoreC s.cells (s.works ++ [{ rise := if WWork.rise (List.getD s.works (Int.toNat (List.getD plan k.toNat default)) default) > w.rise then WWork.rise (List.getD s.works (Int.toNat (List.getD plan k.toNat default)) default) else w.rise, calm := if WWork.calm (List.getD s.works (Int.toNat (List.getD plan k.toNat default)) default) > w.calm then WWork.calm (List.getD s.works (Int.toNat (List.getD plan k.toNat default)) default) else w.calm, cost := w.cost }]) s.reef s.llo s.lhi (List.length s.works + 1) (by simp_all); rw [q14] at t_; exact t_)⟩, hp9⟩⟩).cast rfl
                   ·
                    have hp16 : AllP (wMore_p16 B s c plan k w steps less) := by
                     exact ⟨(nltq_f (Int.not_le.1 q12)), hp8⟩
                    by_cases q13 : (List.length s.works : Int) = (0)
                    ·
                     have hp17 : AllP (wMore_p17 B s c plan k w steps less) := by
                      have h1 := shore_facts ‹shoreB s = true›
                      have h2 := storm_facts ‹stormB c = true›
                      have h3 := plan_facts ‹planB s plan = true›
                      have h4 := inB_iff.1 ‹inB k 0 _ = true›
                      have h5 := h3.2 _ (getD_mem (l := plan) (i := k) h4.1 (by omega))
                      exact ⟨(by omega), hp16⟩
                     cases q14 : shoreB { cells := s.cells, works := [w], reef := s.reef, llo := s.llo, lhi := s.lhi } with
                     | true =>
                       have hp18 : AllP (wMore_p18 B s c plan k w steps less) := by
                        have h1 := shore_facts ‹shoreB s = true›
                        have h2 := storm_facts ‹stormB c = true›
                        have h3 := plan_facts ‹planB s plan = true›
                        have h4 := inB_iff.1 ‹inB k 0 _ = true›
                        have h5 := h3.2 _ (getD_mem (l := plan) (i := k) h4.1 (by omega))
                        exact ⟨⟨trivial, (by have t_ := pDepths (s) (c) (plan); rw [q3, q4, q5] at t_; exact t_)⟩, ⟨(wq_in (by omega) (by omega)), ⟨(wq_in (by omega) (by omega)), ⟨(wq_in (by omega) (by omega)), ⟨(wq_in (by omega) (by omega)), ⟨(wq_in (by omega) (by omega)), ⟨(by exact rowL_st0 (z := 1) (fun _ => rfl) (by omega) rfl rfl), ⟨⟨by omega, by omega⟩, ⟨⟨by omega, (by unfold maxLen; omega), by omega, (by exact rowL_size (z := 1) (fun _ => rfl)), tapp_simple (fun _ => rfl) _⟩, ⟨⟨⟨(cellsT_simple (by kernel_rfl)), trivial⟩, (by have t_ := rShoreC s.cells ([w]) s.reef s.llo s.lhi (1) (by simp_all); rw [q14] at t_; exact t_)⟩, hp17⟩⟩⟩⟩⟩⟩⟩⟩⟩⟩
                       by_cases q15 : (List.length plan : Int) = (0)
                       ·
                        exfalso
                        (have h3 := plan_facts ‹planB s plan = true›; have h4 := inB_iff.1 ‹inB k 0 _ = true›; have h5 := h3.2 _ (getD_mem (l := plan) (i := k) h4.1 (by omega)); omega)
                       ·
                        cases q16 : planB { cells := s.cells, works := [w], reef := s.reef, llo := s.llo, lhi := s.lhi } (List.set plan k.toNat (↑s.works.length : Int)) with
                        | true =>
                          have hp19 : AllP (wMore_p19 B s c plan k w steps less) := by
                           have h1 := shore_facts ‹shoreB s = true›
                           have h2 := storm_facts ‹stormB c = true›
                           have h3 := plan_facts ‹planB s plan = true›
                           have h4 := inB_iff.1 ‹inB k 0 _ = true›
                           have h5 := h3.2 _ (getD_mem (l := plan) (i := k) h4.1 (by omega))
                           exact ⟨⟨⟨(cellsT_simple (by kernel_rfl)), ⟨(rowL_cellsT (fun x => List.all_eq_true.1 (by rfl))), trivial⟩⟩, (by have t_ := pDepthsC s.cells ([w]) s.reef s.llo s.lhi (c) (List.set plan k.toNat (↑s.works.length : Int)) (1) plan.length (by simp_all) (by simp_all); rw [q4, q14, q16] at t_; exact t_)⟩, hp18⟩
                          cases q17 : shoreB { cells := s.cells, works := s.works, reef := if s.reef + steps < 20 then s.reef + steps else 20, llo := s.llo, lhi := s.lhi } with
                          | true =>
                            cases q18 : planB { cells := s.cells, works := s.works, reef := if s.reef + steps < 20 then s.reef + steps else 20, llo := s.llo, lhi := s.lhi } plan with
                            | true =>
                              have hp20 : AllP (wMore_p20 B s c plan k w steps less) := by
                               have h1 := shore_facts ‹shoreB s = true›
                               have h2 := storm_facts ‹stormB c = true›
                               have h3 := plan_facts ‹planB s plan = true›
                               have h4 := inB_iff.1 ‹inB k 0 _ = true›
                               have h5 := h3.2 _ (getD_mem (l := plan) (i := k) h4.1 (by omega))
                               exact ⟨⟨trivial, (by have t_ := pDepthsC s.cells s.works (if s.reef + steps < 20 then s.reef + steps else 20) s.llo s.lhi (c) (plan) s.works.length plan.length (by omega) (by omega); rw [q4, q17, q18] at t_; exact t_)⟩, hp19⟩
                              cases q19 : stormB { wlo := if c.wlo - less > 0 then c.wlo - less else 0, whi := if c.whi - less > 0 then c.whi - less else 0, flo := c.flo, fhi := c.fhi, tlo := if c.tlo - less > -5000 then c.tlo - less else -5000, thi := if c.thi - less > -5000 then c.thi - less else -5000 } with
                              | true =>
                                have hp21 : AllP (wMore_p21 B s c plan k w steps less) := by
                                 have h1 := shore_facts ‹shoreB s = true›
                                 have h2 := storm_facts ‹stormB c = true›
                                 have h3 := plan_facts ‹planB s plan = true›
                                 have h4 := inB_iff.1 ‹inB k 0 _ = true›
                                 have h5 := h3.2 _ (getD_mem (l := plan) (i := k) h4.1 (by omega))
                                 exact ⟨⟨trivial, (by have t_ := pDepthsS (s) (if c.wlo - less > 0 then c.wlo - less else 0) (if c.whi - less > 0 then c.whi - less else 0) c.flo c.fhi (if c.tlo - less > -5000 then c.tlo - less else -5000) (if c.thi - less > -5000 then c.thi - less else -5000) (plan); rw [q3, q5, q19] at t_; exact t_)⟩, hp20⟩
                                cases q20 : lowL (zipS (playL { cells := s.cells, works := [w], reef := s.reef, llo := s.llo, lhi := s.lhi } (List.set plan k.toNat (↑s.works.length : Int)) (endE false { cells := s.cells, works := [w], reef := s.reef, llo := s.llo, lhi := s.lhi } c)) (playL { cells := s.cells, works := [w], reef := s.reef, llo := s.llo, lhi := s.lhi } (List.set plan k.toNat (↑s.works.length : Int)) (endE true { cells := s.cells, works := [w], reef := s.reef, llo := s.llo, lhi := s.lhi } c))) (zipS (playL s plan (endE false s c)) (playL s plan (endE true s c))) with
                                | true =>
                                  have hp22 : AllP (wMore_p22 B s c plan k w steps less) := by
                                   have h1 := shore_facts ‹shoreB s = true›
                                   have h2 := storm_facts ‹stormB c = true›
                                   have h3 := plan_facts ‹planB s plan = true›
                                   have h4 := inB_iff.1 ‹inB k 0 _ = true›
                                   have h5 := h3.2 _ (getD_mem (l := plan) (i := k) h4.1 (by omega))
                                   exact ⟨⟨trivial, (by have t_ := lLower (zipS (playL { cells := s.cells, works := [w], reef := s.reef, llo := s.llo, lhi := s.lhi } (List.set plan k.toNat (↑s.works.length : Int)) (endE false { cells := s.cells, works := [w], reef := s.reef, llo := s.llo, lhi := s.lhi } c)) (playL { cells := s.cells, works := [w], reef := s.reef, llo := s.llo, lhi := s.lhi } (List.set plan k.toNat (↑s.works.length : Int)) (endE true { cells := s.cells, works := [w], reef := s.reef, llo := s.llo, lhi := s.lhi } c))) (zipS (playL s plan (endE false s c)) (playL s plan (endE true s c))); rw [q20] at t_; exact t_)⟩, hp21⟩
                                  cases q21 : lowL (zipS (playL { cells := s.cells, works := s.works, reef := if s.reef + steps < 20 then s.reef + steps else 20, llo := s.llo, lhi := s.lhi } plan (endE false { cells := s.cells, works := s.works, reef := if s.reef + steps < 20 then s.reef + steps else 20, llo := s.llo, lhi := s.lhi } c)) (playL { cells := s.cells, works := s.works, reef := if s.reef + steps < 20 then s.reef + steps else 20, llo := s.llo, lhi := s.lhi } plan (endE true { cells := s.cells, works := s.works, reef := if s.reef + steps < 20 then s.reef + steps else 20, llo := s.llo, lhi := s.lhi } c))) (zipS (playL s plan (endE false s c)) (playL s plan (endE true s c))) with
                                  | true =>
                                    have hp23 : AllP (wMore_p23 B s c plan k w steps less) := by
                                     have h1 := shore_facts ‹shoreB s = true›
                                     have h2 := storm_facts ‹stormB c = true›
                                     have h3 := plan_facts ‹planB s plan = true›
                                     have h4 := inB_iff.1 ‹inB k 0 _ = true›
                                     have h5 := h3.2 _ (getD_mem (l := plan) (i := k) h4.1 (by omega))
                                     exact ⟨⟨trivial, (by have t_ := lLower (zipS (playL { cells := s.cells, works := s.works, reef := if s.reef + steps < 20 then s.reef + steps else 20, llo := s.llo, lhi := s.lhi } plan (endE false { cells := s.cells, works := s.works, reef := if s.reef + steps < 20 then s.reef + steps else 20, llo := s.llo, lhi := s.lhi } c)) (playL { cells := s.cells, works := s.works, reef := if s.reef + steps < 20 then s.reef + steps else 20, llo := s.llo, lhi := s.lhi } plan (endE true { cells := s.cells, works := s.works, reef := if s.reef + steps < 20 then s.reef + steps else 20, llo := s.llo, lhi := s.lhi } c))) (zipS (playL s plan (endE false s c)) (playL s plan (endE true s c))); rw [q21] at t_; exact t_)⟩, hp22⟩
                                    cases q22 : lowL (zipS (playL s plan (endE false s { wlo := if c.wlo - less > 0 then c.wlo - less else 0, whi := if c.whi - less > 0 then c.whi - less else 0, flo := c.flo, fhi := c.fhi, tlo := if c.tlo - less > -5000 then c.tlo - less else -5000, thi := if c.thi - less > -5000 then c.thi - less else -5000 })) (playL s plan (endE true s { wlo := if c.wlo - less > 0 then c.wlo - less else 0, whi := if c.whi - less > 0 then c.whi - less else 0, flo := c.flo, fhi := c.fhi, tlo := if c.tlo - less > -5000 then c.tlo - less else -5000, thi := if c.thi - less > -5000 then c.thi - less else -5000 }))) (zipS (playL s plan (endE false s c)) (playL s plan (endE true s c))) with
                                    | true =>
                                      have h1 := shore_facts ‹shoreB s = true›
                                      have h2 := storm_facts ‹stormB c = true›
                                      have h3 := plan_facts ‹planB s plan = true›
                                      have h4 := inB_iff.1 ‹inB k 0 _ = true›
                                      have h5 := h3.2 _ (getD_mem (l := plan) (i := k) h4.1 (by omega))
                                      exact (GoE.endsT okF hJ mixed_ok GoE.start (wMore_s13 B s c plan k w steps less)
                                       ⟨⟨trivial, known⟩, ⟨⟨trivial, (by have t_ := lLower (zipS (playL s plan (endE false s { wlo := if c.wlo - less > 0 then c.wlo - less else 0, whi := if c.whi - less > 0 then c.whi - less else 0, flo := c.flo, fhi := c.fhi, tlo := if c.tlo - less > -5000 then c.tlo - less else -5000, thi := if c.thi - less > -5000 then c.thi - less else -5000 })) (playL s plan (endE true s { wlo := if c.wlo - less > 0 then c.wlo - less else 0, whi := if c.whi - less > 0 then c.whi - less else 0, flo := c.flo, fhi := c.fhi, tlo := if c.tlo - less > -5000 then c.tlo - less else -5000, thi := if c.thi - less > -5000 then c.thi - less else -5000 }))) (zipS (playL s plan (endE false s c)) (playL s plan (endE true s c))); rw [q22] at t_; exact t_)⟩, hp23⟩⟩).cast rfl
                                    | false =>
                                      have h1 := shore_facts ‹shoreB s = true›
                                      have h2 := storm_facts ‹stormB c = true›
                                      have h3 := plan_facts ‹planB s plan = true›
                                      have h4 := inB_iff.1 ‹inB k 0 _ = true›
                                      have h5 := h3.2 _ (getD_mem (l := plan) (i := k) h4.1 (by omega))
                                      exact (GoE.endsT okF hJ mixed_ok GoE.start (wMore_s14 B s c plan k w steps less)
                                       ⟨⟨trivial, (by have t_ := lLower (zipS (playL s plan (endE false s { wlo := if c.wlo - less > 0 then c.wlo - less else 0, whi := if c.whi - less > 0 then c.whi - less else 0, flo := c.flo, fhi := c.fhi, tlo := if c.tlo - less > -5000 then c.tlo - less else -5000, thi := if c.thi - less > -5000 then c.thi - less else -5000 })) (playL s plan (endE true s { wlo := if c.wlo - less > 0 then c.wlo - less else 0, whi := if c.whi - less > 0 then c.whi - less else 0, flo := c.flo, fhi := c.fhi, tlo := if c.tlo - less > -5000 then c.tlo - less else -5000, thi := if c.thi - less > -5000 then c.thi - less else -5000 }))) (zipS (playL s plan (endE false s c)) (playL s plan (endE true s c))); rw [q22] at t_; exact t_)⟩, hp23⟩).cast (by (exfalso; exact no_z (n := less) ‹shoreB s = true› ‹stormB c = true› ‹planB s plan = true› (by with_reducible assumption) (by omega)))
                                  | false =>
                                    have h1 := shore_facts ‹shoreB s = true›
                                    have h2 := storm_facts ‹stormB c = true›
                                    have h3 := plan_facts ‹planB s plan = true›
                                    have h4 := inB_iff.1 ‹inB k 0 _ = true›
                                    have h5 := h3.2 _ (getD_mem (l := plan) (i := k) h4.1 (by omega))
                                    exact (GoE.endsT okF hJ mixed_ok GoE.start (wMore_s15 B s c plan k w steps less)
                                     ⟨⟨trivial, (by have t_ := lLower (zipS (playL { cells := s.cells, works := s.works, reef := if s.reef + steps < 20 then s.reef + steps else 20, llo := s.llo, lhi := s.lhi } plan (endE false { cells := s.cells, works := s.works, reef := if s.reef + steps < 20 then s.reef + steps else 20, llo := s.llo, lhi := s.lhi } c)) (playL { cells := s.cells, works := s.works, reef := if s.reef + steps < 20 then s.reef + steps else 20, llo := s.llo, lhi := s.lhi } plan (endE true { cells := s.cells, works := s.works, reef := if s.reef + steps < 20 then s.reef + steps else 20, llo := s.llo, lhi := s.lhi } c))) (zipS (playL s plan (endE false s c)) (playL s plan (endE true s c))); rw [q21] at t_; exact t_)⟩, hp22⟩).cast (by (exfalso; exact no_y (n := steps) ‹shoreB s = true› ‹stormB c = true› ‹planB s plan = true› (by with_reducible assumption) (by omega)))
                                | false =>
                                  have h1 := shore_facts ‹shoreB s = true›
                                  have h2 := storm_facts ‹stormB c = true›
                                  have h3 := plan_facts ‹planB s plan = true›
                                  have h4 := inB_iff.1 ‹inB k 0 _ = true›
                                  have h5 := h3.2 _ (getD_mem (l := plan) (i := k) h4.1 (by omega))
                                  exact (GoE.endsT okF hJ mixed_ok GoE.start (wMore_s16 B s c plan k w steps less)
                                   ⟨⟨trivial, (by have t_ := lLower (zipS (playL { cells := s.cells, works := [w], reef := s.reef, llo := s.llo, lhi := s.lhi } (List.set plan k.toNat (↑s.works.length : Int)) (endE false { cells := s.cells, works := [w], reef := s.reef, llo := s.llo, lhi := s.lhi } c)) (playL { cells := s.cells, works := [w], reef := s.reef, llo := s.llo, lhi := s.lhi } (List.set plan k.toNat (↑s.works.length : Int)) (endE true { cells := s.cells, works := [w], reef := s.reef, llo := s.llo, lhi := s.lhi } c))) (zipS (playL s plan (endE false s c)) (playL s plan (endE true s c))); rw [q20] at t_; exact t_)⟩, hp21⟩).cast (by (exfalso; exact no_x ‹shoreB s = true› ‹stormB c = true› ‹planB s plan = true› ‹inB k 0 _ = true› (by with_reducible assumption) (by with_reducible assumption) (by first | rfl | exact one_work (by with_reducible assumption)) (by first | (intro hn; exact absurd hn (by with_reducible assumption)) | (intro _; constructor <;> simp only <;> split <;> omega))))
                              | false =>
                                exfalso
                                (exact no_stormZ (by with_reducible assumption) (by with_reducible assumption) (by omega))
                            | false =>
                              cases q19 : stormB { wlo := if c.wlo - less > 0 then c.wlo - less else 0, whi := if c.whi - less > 0 then c.whi - less else 0, flo := c.flo, fhi := c.fhi, tlo := if c.tlo - less > -5000 then c.tlo - less else -5000, thi := if c.thi - less > -5000 then c.thi - less else -5000 } with
                              | true =>
                                have h1 := shore_facts ‹shoreB s = true›
                                have h2 := storm_facts ‹stormB c = true›
                                have h3 := plan_facts ‹planB s plan = true›
                                have h4 := inB_iff.1 ‹inB k 0 _ = true›
                                have h5 := h3.2 _ (getD_mem (l := plan) (i := k) h4.1 (by omega))
                                exact (GoE.endsT okF hJ mixed_ok GoE.start (wMore_s17 B s c plan k w steps less)
                                 ⟨⟨trivial, (by have t_ := pDepthsS (s) (if c.wlo - less > 0 then c.wlo - less else 0) (if c.whi - less > 0 then c.whi - less else 0) c.flo c.fhi (if c.tlo - less > -5000 then c.tlo - less else -5000) (if c.thi - less > -5000 then c.thi - less else -5000) (plan); rw [q3, q5, q19] at t_; exact t_)⟩, ⟨⟨trivial, (by have t_ := pDepthsC s.cells s.works (if s.reef + steps < 20 then s.reef + steps else 20) s.llo s.lhi (c) (plan) s.works.length plan.length (by omega) (by omega); rw [q4, q17, q18] at t_; exact t_)⟩, hp19⟩⟩).cast (by (exfalso; exact no_planY (n := steps) ‹planB s plan = true› (by with_reducible assumption)))
                              | false =>
                                exfalso
                                (exact no_stormZ (by with_reducible assumption) (by with_reducible assumption) (by omega))
                          | false =>
                            cases q18 : stormB { wlo := if c.wlo - less > 0 then c.wlo - less else 0, whi := if c.whi - less > 0 then c.whi - less else 0, flo := c.flo, fhi := c.fhi, tlo := if c.tlo - less > -5000 then c.tlo - less else -5000, thi := if c.thi - less > -5000 then c.thi - less else -5000 } with
                            | true =>
                              have h1 := shore_facts ‹shoreB s = true›
                              have h2 := storm_facts ‹stormB c = true›
                              have h3 := plan_facts ‹planB s plan = true›
                              have h4 := inB_iff.1 ‹inB k 0 _ = true›
                              have h5 := h3.2 _ (getD_mem (l := plan) (i := k) h4.1 (by omega))
                              exact (GoE.endsT okF hJ mixed_ok GoE.start (wMore_s18 B s c plan k w steps less)
                               ⟨⟨trivial, (by have t_ := pDepthsS (s) (if c.wlo - less > 0 then c.wlo - less else 0) (if c.whi - less > 0 then c.whi - less else 0) c.flo c.fhi (if c.tlo - less > -5000 then c.tlo - less else -5000) (if c.thi - less > -5000 then c.thi - less else -5000) (plan); rw [q3, q5, q18] at t_; exact t_)⟩, ⟨⟨trivial, (by have t_ := pDepthsC s.cells s.works (if s.reef + steps < 20 then s.reef + steps else 20) s.llo s.lhi (c) (plan) s.works.length plan.length (by omega) (by omega); rw [q4, q17] at t_; exact t_)⟩, hp19⟩⟩).cast (by (exfalso; exact no_shoreY (n := steps) ‹shoreB s = true› (by with_reducible assumption) (by omega)))
                            | false =>
                              exfalso
                              (exact no_stormZ (by with_reducible assumption) (by with_reducible assumption) (by omega))
                        | false =>
                          exfalso
                          (exact no_planX (by with_reducible assumption) (by with_reducible assumption) (by exact one_work (by with_reducible assumption)))
                     | false =>
                       have h1 := shore_facts ‹shoreB s = true›
                       have h2 := storm_facts ‹stormB c = true›
                       have h3 := plan_facts ‹planB s plan = true›
                       have h4 := inB_iff.1 ‹inB k 0 _ = true›
                       have h5 := h3.2 _ (getD_mem (l := plan) (i := k) h4.1 (by omega))
                       exact (GoE.endsT okF hJ mixed_ok GoE.start (wMore_s19 B s c plan k w steps less)
                        ⟨⟨trivial, known⟩, ⟨⟨⟨(cellsT_simple (by kernel_rfl)), trivial⟩, (by have t_ := rShoreC s.cells ([w]) s.reef s.llo s.lhi (1) (by simp_all); rw [q14] at t_; exact t_)⟩, hp17⟩⟩).cast rfl
                    ·
                     have hp24 : AllP (wMore_p24 B s c plan k w steps less) := by
                      have h1 := shore_facts ‹shoreB s = true›
                      have h2 := storm_facts ‹stormB c = true›
                      have h3 := plan_facts ‹planB s plan = true›
                      have h4 := inB_iff.1 ‹inB k 0 _ = true›
                      have h5 := h3.2 _ (getD_mem (l := plan) (i := k) h4.1 (by omega))
                      exact ⟨⟨(by exact rowL_size (z := 3) (fun _ => rfl)), (by unfold maxLen; omega), by omega, by first | exact rowL_push | exact rowL_pushC rfl⟩, ⟨⟨by omega, (by unfold maxLen; omega), by omega, (by exact rowL_size (z := 3) (fun _ => rfl)), tapp_simple (fun _ => rfl) _⟩, hp16⟩⟩
                     cases q14 : shoreB { cells := s.cells, works := s.works ++ [w], reef := s.reef, llo := s.llo, lhi := s.lhi } with
                     | true =>
                       have hp25 : AllP (wMore_p25 B s c plan k w steps less) := by
                        have h1 := shore_facts ‹shoreB s = true›
                        have h2 := storm_facts ‹stormB c = true›
                        have h3 := plan_facts ‹planB s plan = true›
                        have h4 := inB_iff.1 ‹inB k 0 _ = true›
                        have h5 := h3.2 _ (getD_mem (l := plan) (i := k) h4.1 (by omega))
                        exact ⟨⟨trivial, (by have t_ := pDepths (s) (c) (plan); rw [q3, q4, q5] at t_; exact t_)⟩, ⟨(wq_in (by omega) (by omega)), ⟨(wq_in (by omega) (by omega)), ⟨(wq_in (by omega) (by omega)), ⟨(wq_in (by omega) (by omega)), ⟨(wq_in (by omega) (by omega)), ⟨(by exact rowL_st0 (z := 1) (fun _ => rfl) (by omega) rfl rfl), ⟨⟨by omega, by omega⟩, ⟨⟨by omega, (by unfold maxLen; omega), by omega, (by exact rowL_size (z := 1) (fun _ => rfl)), tapp_simple (fun _ => rfl) _⟩, ⟨⟨⟨(rowL_cellsT (fun x => List.all_eq_true.1 (by rfl))), trivial⟩, (by have t_ := rShoreC s.cells (s.works ++ [w]) s.reef s.llo s.lhi (List.length s.works + 1) (by simp_all); rw [q14] at t_; exact t_)⟩, hp24⟩⟩⟩⟩⟩⟩⟩⟩⟩⟩
                       by_cases q15 : (List.length plan : Int) = (0)
                       ·
                        exfalso
                        (have h3 := plan_facts ‹planB s plan = true›; have h4 := inB_iff.1 ‹inB k 0 _ = true›; have h5 := h3.2 _ (getD_mem (l := plan) (i := k) h4.1 (by omega)); omega)
                       ·
                        cases q16 : planB { cells := s.cells, works := s.works ++ [w], reef := s.reef, llo := s.llo, lhi := s.lhi } (List.set plan k.toNat (↑s.works.length : Int)) with
                        | true =>
                          have hp26 : AllP (wMore_p26 B s c plan k w steps less) := by
                           have h1 := shore_facts ‹shoreB s = true›
                           have h2 := storm_facts ‹stormB c = true›
                           have h3 := plan_facts ‹planB s plan = true›
                           have h4 := inB_iff.1 ‹inB k 0 _ = true›
                           have h5 := h3.2 _ (getD_mem (l := plan) (i := k) h4.1 (by omega))
                           exact ⟨⟨⟨(rowL_cellsT (fun x => List.all_eq_true.1 (by rfl))), ⟨(rowL_cellsT (fun x => List.all_eq_true.1 (by rfl))), trivial⟩⟩, (by have t_ := pDepthsC s.cells (s.works ++ [w]) s.reef s.llo s.lhi (c) (List.set plan k.toNat (↑s.works.length : Int)) (List.length s.works + 1) plan.length (by simp_all) (by simp_all); rw [q4, q14, q16] at t_; exact t_)⟩, hp25⟩
                          cases q17 : shoreB { cells := s.cells, works := s.works, reef := if s.reef + steps < 20 then s.reef + steps else 20, llo := s.llo, lhi := s.lhi } with
                          | true =>
                            cases q18 : planB { cells := s.cells, works := s.works, reef := if s.reef + steps < 20 then s.reef + steps else 20, llo := s.llo, lhi := s.lhi } plan with
                            | true =>
                              have hp27 : AllP (wMore_p27 B s c plan k w steps less) := by
                               have h1 := shore_facts ‹shoreB s = true›
                               have h2 := storm_facts ‹stormB c = true›
                               have h3 := plan_facts ‹planB s plan = true›
                               have h4 := inB_iff.1 ‹inB k 0 _ = true›
                               have h5 := h3.2 _ (getD_mem (l := plan) (i := k) h4.1 (by omega))
                               exact ⟨⟨trivial, (by have t_ := pDepthsC s.cells s.works (if s.reef + steps < 20 then s.reef + steps else 20) s.llo s.lhi (c) (plan) s.works.length plan.length (by omega) (by omega); rw [q4, q17, q18] at t_; exact t_)⟩, hp26⟩
                              cases q19 : stormB { wlo := if c.wlo - less > 0 then c.wlo - less else 0, whi := if c.whi - less > 0 then c.whi - less else 0, flo := c.flo, fhi := c.fhi, tlo := if c.tlo - less > -5000 then c.tlo - less else -5000, thi := if c.thi - less > -5000 then c.thi - less else -5000 } with
                              | true =>
                                have hp28 : AllP (wMore_p28 B s c plan k w steps less) := by
                                 have h1 := shore_facts ‹shoreB s = true›
                                 have h2 := storm_facts ‹stormB c = true›
                                 have h3 := plan_facts ‹planB s plan = true›
                                 have h4 := inB_iff.1 ‹inB k 0 _ = true›
                                 have h5 := h3.2 _ (getD_mem (l := plan) (i := k) h4.1 (by omega))
                                 exact ⟨⟨trivial, (by have t_ := pDepthsS (s) (if c.wlo - less > 0 then c.wlo - less else 0) (if c.whi - less > 0 then c.whi - less else 0) c.flo c.fhi (if c.tlo - less > -5000 then c.tlo - less else -5000) (if c.thi - less > -5000 then c.thi - less else -5000) (plan); rw [q3, q5, q19] at t_; exact t_)⟩, hp27⟩
                                cases q20 : lowL (zipS (playL { cells := s.cells, works := s.works ++ [w], reef := s.reef, llo := s.llo, lhi := s.lhi } (List.set plan k.toNat (↑s.works.length : Int)) (endE false { cells := s.cells, works := s.works ++ [w], reef := s.reef, llo := s.llo, lhi := s.lhi } c)) (playL { cells := s.cells, works := s.works ++ [w], reef := s.reef, llo := s.llo, lhi := s.lhi } (List.set plan k.toNat (↑s.works.length : Int)) (endE true { cells := s.cells, works := s.works ++ [w], reef := s.reef, llo := s.llo, lhi := s.lhi } c))) (zipS (playL s plan (endE false s c)) (playL s plan (endE true s c))) with
                                | true =>
                                  have hp29 : AllP (wMore_p29 B s c plan k w steps less) := by
                                   have h1 := shore_facts ‹shoreB s = true›
                                   have h2 := storm_facts ‹stormB c = true›
                                   have h3 := plan_facts ‹planB s plan = true›
                                   have h4 := inB_iff.1 ‹inB k 0 _ = true›
                                   have h5 := h3.2 _ (getD_mem (l := plan) (i := k) h4.1 (by omega))
                                   exact ⟨⟨trivial, (by have t_ := lLower (zipS (playL { cells := s.cells, works := s.works ++ [w], reef := s.reef, llo := s.llo, lhi := s.lhi } (List.set plan k.toNat (↑s.works.length : Int)) (endE false { cells := s.cells, works := s.works ++ [w], reef := s.reef, llo := s.llo, lhi := s.lhi } c)) (playL { cells := s.cells, works := s.works ++ [w], reef := s.reef, llo := s.llo, lhi := s.lhi } (List.set plan k.toNat (↑s.works.length : Int)) (endE true { cells := s.cells, works := s.works ++ [w], reef := s.reef, llo := s.llo, lhi := s.lhi } c))) (zipS (playL s plan (endE false s c)) (playL s plan (endE true s c))); rw [q20] at t_; exact t_)⟩, hp28⟩
                                  cases q21 : lowL (zipS (playL { cells := s.cells, works := s.works, reef := if s.reef + steps < 20 then s.reef + steps else 20, llo := s.llo, lhi := s.lhi } plan (endE false { cells := s.cells, works := s.works, reef := if s.reef + steps < 20 then s.reef + steps else 20, llo := s.llo, lhi := s.lhi } c)) (playL { cells := s.cells, works := s.works, reef := if s.reef + steps < 20 then s.reef + steps else 20, llo := s.llo, lhi := s.lhi } plan (endE true { cells := s.cells, works := s.works, reef := if s.reef + steps < 20 then s.reef + steps else 20, llo := s.llo, lhi := s.lhi } c))) (zipS (playL s plan (endE false s c)) (playL s plan (endE true s c))) with
                                  | true =>
                                    have hp30 : AllP (wMore_p30 B s c plan k w steps less) := by
                                     have h1 := shore_facts ‹shoreB s = true›
                                     have h2 := storm_facts ‹stormB c = true›
                                     have h3 := plan_facts ‹planB s plan = true›
                                     have h4 := inB_iff.1 ‹inB k 0 _ = true›
                                     have h5 := h3.2 _ (getD_mem (l := plan) (i := k) h4.1 (by omega))
                                     exact ⟨⟨trivial, (by have t_ := lLower (zipS (playL { cells := s.cells, works := s.works, reef := if s.reef + steps < 20 then s.reef + steps else 20, llo := s.llo, lhi := s.lhi } plan (endE false { cells := s.cells, works := s.works, reef := if s.reef + steps < 20 then s.reef + steps else 20, llo := s.llo, lhi := s.lhi } c)) (playL { cells := s.cells, works := s.works, reef := if s.reef + steps < 20 then s.reef + steps else 20, llo := s.llo, lhi := s.lhi } plan (endE true { cells := s.cells, works := s.works, reef := if s.reef + steps < 20 then s.reef + steps else 20, llo := s.llo, lhi := s.lhi } c))) (zipS (playL s plan (endE false s c)) (playL s plan (endE true s c))); rw [q21] at t_; exact t_)⟩, hp29⟩
                                    cases q22 : lowL (zipS (playL s plan (endE false s { wlo := if c.wlo - less > 0 then c.wlo - less else 0, whi := if c.whi - less > 0 then c.whi - less else 0, flo := c.flo, fhi := c.fhi, tlo := if c.tlo - less > -5000 then c.tlo - less else -5000, thi := if c.thi - less > -5000 then c.thi - less else -5000 })) (playL s plan (endE true s { wlo := if c.wlo - less > 0 then c.wlo - less else 0, whi := if c.whi - less > 0 then c.whi - less else 0, flo := c.flo, fhi := c.fhi, tlo := if c.tlo - less > -5000 then c.tlo - less else -5000, thi := if c.thi - less > -5000 then c.thi - less else -5000 }))) (zipS (playL s plan (endE false s c)) (playL s plan (endE true s c))) with
                                    | true =>
                                      have h1 := shore_facts ‹shoreB s = true›
                                      have h2 := storm_facts ‹stormB c = true›
                                      have h3 := plan_facts ‹planB s plan = true›
                                      have h4 := inB_iff.1 ‹inB k 0 _ = true›
                                      have h5 := h3.2 _ (getD_mem (l := plan) (i := k) h4.1 (by omega))
                                      exact (GoE.endsT okF hJ mixed_ok GoE.start (wMore_s20 B s c plan k w steps less)
                                       ⟨⟨trivial, known⟩, ⟨⟨trivial, (by have t_ := lLower (zipS (playL s plan (endE false s { wlo := if c.wlo - less > 0 then c.wlo - less else 0, whi := if c.whi - less > 0 then c.whi - less else 0, flo := c.flo, fhi := c.fhi, tlo := if c.tlo - less > -5000 then c.tlo - less else -5000, thi := if c.thi - less > -5000 then c.thi - less else -5000 })) (playL s plan (endE true s { wlo := if c.wlo - less > 0 then c.wlo - less else 0, whi := if c.whi - less > 0 then c.whi - less else 0, flo := c.flo, fhi := c.fhi, tlo := if c.tlo - less > -5000 then c.tlo - less else -5000, thi := if c.thi - less > -5000 then c.thi - less else -5000 }))) (zipS (playL s plan (endE false s c)) (playL s plan (endE true s c))); rw [q22] at t_; exact t_)⟩, hp30⟩⟩).cast rfl
                                    | false =>
                                      have h1 := shore_facts ‹shoreB s = true›
                                      have h2 := storm_facts ‹stormB c = true›
                                      have h3 := plan_facts ‹planB s plan = true›
                                      have h4 := inB_iff.1 ‹inB k 0 _ = true›
                                      have h5 := h3.2 _ (getD_mem (l := plan) (i := k) h4.1 (by omega))
                                      exact (GoE.endsT okF hJ mixed_ok GoE.start (wMore_s21 B s c plan k w steps less)
                                       ⟨⟨trivial, (by have t_ := lLower (zipS (playL s plan (endE false s { wlo := if c.wlo - less > 0 then c.wlo - less else 0, whi := if c.whi - less > 0 then c.whi - less else 0, flo := c.flo, fhi := c.fhi, tlo := if c.tlo - less > -5000 then c.tlo - less else -5000, thi := if c.thi - less > -5000 then c.thi - less else -5000 })) (playL s plan (endE true s { wlo := if c.wlo - less > 0 then c.wlo - less else 0, whi := if c.whi - less > 0 then c.whi - less else 0, flo := c.flo, fhi := c.fhi, tlo := if c.tlo - less > -5000 then c.tlo - less else -5000, thi := if c.thi - less > -5000 then c.thi - less else -5000 }))) (zipS (playL s plan (endE false s c)) (playL s plan (endE true s c))); rw [q22] at t_; exact t_)⟩, hp30⟩).cast (by (exfalso; exact no_z (n := less) ‹shoreB s = true› ‹stormB c = true› ‹planB s plan = true› (by with_reducible assumption) (by omega)))
                                  | false =>
                                    have h1 := shore_facts ‹shoreB s = true›
                                    have h2 := storm_facts ‹stormB c = true›
                                    have h3 := plan_facts ‹planB s plan = true›
                                    have h4 := inB_iff.1 ‹inB k 0 _ = true›
                                    have h5 := h3.2 _ (getD_mem (l := plan) (i := k) h4.1 (by omega))
                                    exact (GoE.endsT okF hJ mixed_ok GoE.start (wMore_s22 B s c plan k w steps less)
                                     ⟨⟨trivial, (by have t_ := lLower (zipS (playL { cells := s.cells, works := s.works, reef := if s.reef + steps < 20 then s.reef + steps else 20, llo := s.llo, lhi := s.lhi } plan (endE false { cells := s.cells, works := s.works, reef := if s.reef + steps < 20 then s.reef + steps else 20, llo := s.llo, lhi := s.lhi } c)) (playL { cells := s.cells, works := s.works, reef := if s.reef + steps < 20 then s.reef + steps else 20, llo := s.llo, lhi := s.lhi } plan (endE true { cells := s.cells, works := s.works, reef := if s.reef + steps < 20 then s.reef + steps else 20, llo := s.llo, lhi := s.lhi } c))) (zipS (playL s plan (endE false s c)) (playL s plan (endE true s c))); rw [q21] at t_; exact t_)⟩, hp29⟩).cast (by (exfalso; exact no_y (n := steps) ‹shoreB s = true› ‹stormB c = true› ‹planB s plan = true› (by with_reducible assumption) (by omega)))
                                | false =>
                                  have h1 := shore_facts ‹shoreB s = true›
                                  have h2 := storm_facts ‹stormB c = true›
                                  have h3 := plan_facts ‹planB s plan = true›
                                  have h4 := inB_iff.1 ‹inB k 0 _ = true›
                                  have h5 := h3.2 _ (getD_mem (l := plan) (i := k) h4.1 (by omega))
                                  exact (GoE.endsT okF hJ mixed_ok GoE.start (wMore_s23 B s c plan k w steps less)
                                   ⟨⟨trivial, (by have t_ := lLower (zipS (playL { cells := s.cells, works := s.works ++ [w], reef := s.reef, llo := s.llo, lhi := s.lhi } (List.set plan k.toNat (↑s.works.length : Int)) (endE false { cells := s.cells, works := s.works ++ [w], reef := s.reef, llo := s.llo, lhi := s.lhi } c)) (playL { cells := s.cells, works := s.works ++ [w], reef := s.reef, llo := s.llo, lhi := s.lhi } (List.set plan k.toNat (↑s.works.length : Int)) (endE true { cells := s.cells, works := s.works ++ [w], reef := s.reef, llo := s.llo, lhi := s.lhi } c))) (zipS (playL s plan (endE false s c)) (playL s plan (endE true s c))); rw [q20] at t_; exact t_)⟩, hp28⟩).cast (by (exfalso; exact no_x ‹shoreB s = true› ‹stormB c = true› ‹planB s plan = true› ‹inB k 0 _ = true› (by with_reducible assumption) (by with_reducible assumption) (by first | rfl | exact one_work (by with_reducible assumption)) (by first | (intro hn; exact absurd hn (by with_reducible assumption)) | (intro _; constructor <;> simp only <;> split <;> omega))))
                              | false =>
                                exfalso
                                (exact no_stormZ (by with_reducible assumption) (by with_reducible assumption) (by omega))
                            | false =>
                              cases q19 : stormB { wlo := if c.wlo - less > 0 then c.wlo - less else 0, whi := if c.whi - less > 0 then c.whi - less else 0, flo := c.flo, fhi := c.fhi, tlo := if c.tlo - less > -5000 then c.tlo - less else -5000, thi := if c.thi - less > -5000 then c.thi - less else -5000 } with
                              | true =>
                                have h1 := shore_facts ‹shoreB s = true›
                                have h2 := storm_facts ‹stormB c = true›
                                have h3 := plan_facts ‹planB s plan = true›
                                have h4 := inB_iff.1 ‹inB k 0 _ = true›
                                have h5 := h3.2 _ (getD_mem (l := plan) (i := k) h4.1 (by omega))
                                exact (GoE.endsT okF hJ mixed_ok GoE.start (wMore_s24 B s c plan k w steps less)
                                 ⟨⟨trivial, (by have t_ := pDepthsS (s) (if c.wlo - less > 0 then c.wlo - less else 0) (if c.whi - less > 0 then c.whi - less else 0) c.flo c.fhi (if c.tlo - less > -5000 then c.tlo - less else -5000) (if c.thi - less > -5000 then c.thi - less else -5000) (plan); rw [q3, q5, q19] at t_; exact t_)⟩, ⟨⟨trivial, (by have t_ := pDepthsC s.cells s.works (if s.reef + steps < 20 then s.reef + steps else 20) s.llo s.lhi (c) (plan) s.works.length plan.length (by omega) (by omega); rw [q4, q17, q18] at t_; exact t_)⟩, hp26⟩⟩).cast (by (exfalso; exact no_planY (n := steps) ‹planB s plan = true› (by with_reducible assumption)))
                              | false =>
                                exfalso
                                (exact no_stormZ (by with_reducible assumption) (by with_reducible assumption) (by omega))
                          | false =>
                            cases q18 : stormB { wlo := if c.wlo - less > 0 then c.wlo - less else 0, whi := if c.whi - less > 0 then c.whi - less else 0, flo := c.flo, fhi := c.fhi, tlo := if c.tlo - less > -5000 then c.tlo - less else -5000, thi := if c.thi - less > -5000 then c.thi - less else -5000 } with
                            | true =>
                              have h1 := shore_facts ‹shoreB s = true›
                              have h2 := storm_facts ‹stormB c = true›
                              have h3 := plan_facts ‹planB s plan = true›
                              have h4 := inB_iff.1 ‹inB k 0 _ = true›
                              have h5 := h3.2 _ (getD_mem (l := plan) (i := k) h4.1 (by omega))
                              exact (GoE.endsT okF hJ mixed_ok GoE.start (wMore_s25 B s c plan k w steps less)
                               ⟨⟨trivial, (by have t_ := pDepthsS (s) (if c.wlo - less > 0 then c.wlo - less else 0) (if c.whi - less > 0 then c.whi - less else 0) c.flo c.fhi (if c.tlo - less > -5000 then c.tlo - less else -5000) (if c.thi - less > -5000 then c.thi - less else -5000) (plan); rw [q3, q5, q18] at t_; exact t_)⟩, ⟨⟨trivial, (by have t_ := pDepthsC s.cells s.works (if s.reef + steps < 20 then s.reef + steps else 20) s.llo s.lhi (c) (plan) s.works.length plan.length (by omega) (by omega); rw [q4, q17] at t_; exact t_)⟩, hp26⟩⟩).cast (by (exfalso; exact no_shoreY (n := steps) ‹shoreB s = true› (by with_reducible assumption) (by omega)))
                            | false =>
                              exfalso
                              (exact no_stormZ (by with_reducible assumption) (by with_reducible assumption) (by omega))
                        | false =>
                          exfalso
                          (exact no_planX (by with_reducible assumption) (by with_reducible assumption) (by rfl))
                     | false =>
                       have h1 := shore_facts ‹shoreB s = true›
                       have h2 := storm_facts ‹stormB c = true›
                       have h3 := plan_facts ‹planB s plan = true›
                       have h4 := inB_iff.1 ‹inB k 0 _ = true›
                       have h5 := h3.2 _ (getD_mem (l := plan) (i := k) h4.1 (by omega))
                       exact (GoE.endsT okF hJ mixed_ok GoE.start (wMore_s26 B s c plan k w steps less)
                        ⟨⟨trivial, known⟩, ⟨⟨⟨(rowL_cellsT (fun x => List.all_eq_true.1 (by rfl))), trivial⟩, (by have t_ := rShoreC s.cells (s.works ++ [w]) s.reef s.llo s.lhi (List.length s.works + 1) (by simp_all); rw [q14] at t_; exact t_)⟩, hp24⟩⟩).cast rfl
            | false =>
              have h1 := shore_facts ‹shoreB s = true›
              have h2 := storm_facts ‹stormB c = true›
              have h3 := plan_facts ‹planB s plan = true›
              exact (GoE.endsT okF hJ mixed_ok GoE.start (wMore_s27 B s c plan k w steps less)
               ⟨⟨trivial, known⟩, ⟨⟨trivial, (by have t_ := rCell (s) (k); rw [q6] at t_; exact t_)⟩, hp2⟩⟩).cast rfl
          | false =>
            have h1 := shore_facts ‹shoreB s = true›
            have h2 := storm_facts ‹stormB c = true›
            exact (GoE.endsT okF hJ mixed_ok GoE.start (wMore_s28 B s c plan k w steps less)
             ⟨⟨trivial, known⟩, ⟨⟨trivial, (by have t_ := lbuilt (s) (c) (plan); rw [q3, q4, q5] at t_; exact t_)⟩, hp1⟩⟩).cast rfl
        | false =>
          have h1 := shore_facts ‹shoreB s = true›
          exact (GoE.endsT okF hJ mixed_ok GoE.start (wMore_s29 B s c plan k w steps less)
           ⟨⟨trivial, known⟩, ⟨⟨trivial, (by have t_ := lbuilt (s) (c) (plan); rw [q3, q4] at t_; exact t_)⟩, hp1⟩⟩).cast rfl
      | false =>
        exact (GoE.endsT okF hJ mixed_ok GoE.start (wMore_s30 B s c plan k w steps less)
         ⟨⟨trivial, known⟩, ⟨⟨trivial, (by have t_ := lbuilt (s) (c) (plan); rw [q3] at t_; exact t_)⟩, hp1⟩⟩).cast rfl
   | false =>
     exact (GoE.endsT okF hJ mixed_ok GoE.start (wMore_s31 B s c plan k w steps less)
      ⟨⟨trivial, known⟩, ⟨⟨trivial, (by have t_ := lshort (s); rw [q0, q1] at t_; exact t_)⟩, trivial⟩⟩).cast rfl
 | false =>
   exact (GoE.endsT okF hJ mixed_ok GoE.start (wMore_s32 B s c plan k w steps less)
    ⟨⟨trivial, known⟩, ⟨⟨trivial, (by have t_ := lshort (s); rw [q0] at t_; exact t_)⟩, trivial⟩⟩).cast rfl
theorem wMore (s : WShore) (c : WStorm) (plan : List Int) (k : Int) (w : WWork) (steps less : Int)  : PureC Try.prog J0 13 #[.agg (encShore s).toArray, .agg (encStorm c).toArray, slI plan, .int .i64 k, .agg (encWWork w).toArray, .int .i64 steps, .int .i64 less] (.bool true) :=
 pureC_ofF (ts := [.agg (encShore s).toArray, .agg (encStorm c).toArray, slI plan, .int .i64 k, .agg (encWWork w).toArray, .int .i64 steps, .int .i64 less]) (s.cells.length ≤ 9223372036854775807 ∧ s.works.length ≤ 9223372036854775807 ∧ plan.length ≤ 9223372036854775807) (fun _ _ ht => ⟨ht.ln2 (i := 0) (j := 0) rfl rfl, ht.ln2 (i := 0) (j := 1) rfl rfl, ht.ln (i := 2) rfl⟩) J0_st (c0 := entryC Try.prog 13 211 (([.agg (encShore s).toArray, .agg (encStorm c).toArray, slI plan, .int .i64 k, .agg (encWWork w).toArray, .int .i64 steps, .int .i64 less]).map (pushT 0 4))) (by kernel_rfl) (by kernel_rfl) fun hfacts B hJ => wMore_e s c plan k w steps less  hfacts hJ
end Go.Proofs.Ytiigkdhaofaijaa

