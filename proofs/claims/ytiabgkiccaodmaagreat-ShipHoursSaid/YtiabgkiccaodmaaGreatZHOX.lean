/- ShipHours: whatever the input, it returns true, and each argument reads as it did. The row, from the walk. -/
import Derived.Test.YtiabgkiccaodmaaGreatZHO12
import Derived.Test.YtiabgkiccaodmaaGreatZHO10
import Derived.Test.YtiabgkiccaodmaaGreatZHO08
import Derived.JoinedOf
import Derived.Test.YtiabgkiccaodmaaGreatRows
set_option linter.all false
namespace Go.Proofs.YtiabgkiccaodmaaGreat
open Go Go.CE Go.RowKit
def convT (b k : Int) : Int × Int := ((b + k).tdiv 24, (b + k).tmod 24)
theorem conv_pos {b k d h : Int} (e : b + k = d * 24 + h) (hd : 0 ≤ d) (h0 : 0 ≤ h) (h1 : h < 24) : (b + k).tdiv 24 = d ∧ (b + k).tmod 24 = h := by
 rw [Int.tdiv_eq_ediv_of_nonneg (by omega), Int.tmod_eq_emod_of_nonneg (by omega), e]
 omega
theorem next_main (p : ShPass) (fd fh : Int) (hd : 0 ≤ fd) (hh : 0 ≤ fh) : ∀ (m : Nat) (d h : Int), (p.swell.length * 24 - (d * 24 + h)).toNat = m → fd ≤ d → d < p.swell.length → 0 ≤ h → h < 24 → (fd < d ∨ fh ≤ h) →
 (nextH p fd fh d h).or (nextD p fd fh (d + 1)) = (scanK p (fd * 24 + fh) (d * 24 + h - (fd * 24 + fh))).map (convT (fd * 24 + fh)) := by
 intro m
 induction m using Nat.strongRecOn with
 | _ m ih =>
   intro d h hm h1 h2 h3 h4 h5
   obtain ⟨e1, e2⟩ := conv_pos (b := fd * 24 + fh) (k := d * 24 + h - (fd * 24 + fh)) (d := d) (h := h) (by omega) (by omega) h3 h4
   rw [nextH_cons h4, scanK_cons (by omega), e1, e2]
   have hok : okC p fd fh d h = sureB p d h := by
    unfold okC
    rcases h5 with h5 | h5 <;> simp [h5]
   rw [hok]
   unfold sureB
   cases hq : goesB p d h (p.swell.getD d.toNat default).hi with
   | true => simp [convT, e1, e2]
   | false =>
     simp only [Bool.false_eq_true, if_false]
     rw [show d * 24 + h - (fd * 24 + fh) + 1 = d * 24 + (h + 1) - (fd * 24 + fh) by omega]
     by_cases hx : h + 1 < 24
     ·exact ih _ (by omega) d (h + 1) rfl h1 h2 (by omega) hx (by omega)
     ·rw [nextH_nil (by omega), Option.none_or]
      by_cases hy : d + 1 < p.swell.length
      ·rw [nextD_cons hy, show d * 24 + (h + 1) - (fd * 24 + fh) = (d + 1) * 24 + 0 - (fd * 24 + fh) by omega]
       exact ih _ (by omega) (d + 1) 0 rfl (by omega) hy (by omega) (by omega) (by omega)
      ·rw [nextD_nil (by omega), scanK_nil (by omega)]; rfl
theorem nextH_skip (p : ShPass) (fd fh : Int) (hh : fh ≤ 23) : ∀ (m : Nat) (h : Int), (fh - h).toNat = m → h ≤ fh → nextH p fd fh fd h = nextH p fd fh fd fh := by
 intro m
 induction m with
 | zero => intro h hm hl; rw [show h = fh by omega]
 | succ m ih =>
   intro h hm hl
   have hok : okC p fd fh fd h = false := by unfold okC; simp; omega
   rw [nextH_cons (by omega), hok]
   simp only [Bool.false_eq_true, if_false]
   exact ih (h + 1) (by omega) (by omega)
theorem next_eq (p : ShPass) (fd fh : Int) (hd : 0 ≤ fd ∧ fd < p.swell.length) (hh : 0 ≤ fh ∧ fh ≤ 23) : nextD p fd fh fd = (scanK p (fd * 24 + fh) 0).map (convT (fd * 24 + fh)) := by
 rw [nextD_cons hd.2, nextH_skip p fd fh hh.2 _ 0 rfl hh.1]
 have := next_main p fd fh hd.1 hh.1 _ fd fh rfl (by omega) hd.2 hh.1 (by omega) (by omega)
 rw [this, show fd * 24 + fh - (fd * 24 + fh) = 0 by omega]
theorem rNext2 (p : ShPass) (fd fh : Int) (hp : passB p = true) (hd : 0 ≤ fd ∧ fd < p.swell.length) (hh : 0 ≤ fh ∧ fh ≤ 23) : PureC Tryz.prog J0 26 #[.agg (encPass p).toArray, callV fd fh] (.tuple #[callV (if (scanK p (fd * 24 + fh) 0).isSome then (fd * 24 + fh + (scanK p (fd * 24 + fh) 0).getD 0).tdiv 24 else 0) (if (scanK p (fd * 24 + fh) 0).isSome then (fd * 24 + fh + (scanK p (fd * 24 + fh) 0).getD 0).tmod 24 else 0), .bool (scanK p (fd * 24 + fh) 0).isSome]) := by
 have h := rNext p fd fh hp hd hh
 rw [next_eq p fd fh hd hh] at h
 unfold optV at h
 cases hq : scanK p (fd * 24 + fh) 0 with
 | none => rw [hq] at h; simpa [hq] using h
 | some k => rw [hq] at h; simpa [hq, convT] using h
noncomputable def wHours_z0 (p : ShPass) (fd fh : Int) : Array Value := #[Value.agg #[slT p.tides.length (rowL encI p.tides), Value.int IntKind.i64 p.depth, Value.int IntKind.i64 p.draft, slT p.swell.length (rowL encSp p.swell), Value.int IntKind.i64 p.llo, Value.int IntKind.i64 p.lhi], Value.agg #[Value.int IntKind.i64 fd, Value.int IntKind.i64 fh]]
noncomputable def wHours_z1 (p : ShPass) (day : Int) : Array Value := #[Value.agg #[slT p.tides.length (rowL encI p.tides), Value.int IntKind.i64 p.depth, Value.int IntKind.i64 p.draft, slT p.swell.length (rowL encSp p.swell), Value.int IntKind.i64 p.llo, Value.int IntKind.i64 p.lhi], Value.int IntKind.i64 day, Value.bool false]
noncomputable def wHours_z2 (p : ShPass) (day : Int) : Array Value := #[Value.agg #[slT p.tides.length (rowL encI p.tides), Value.int IntKind.i64 p.depth, Value.int IntKind.i64 p.draft, slT p.swell.length (rowL encSp p.swell), Value.int IntKind.i64 p.llo, Value.int IntKind.i64 p.lhi], Value.int IntKind.i64 day, Value.bool true]
noncomputable def wHours_z3 (p : ShPass) (day : Int) : Array Value := #[Value.agg #[slT p.tides.length (rowL encI p.tides), Value.int IntKind.i64 p.depth, Value.int IntKind.i64 p.draft, slT p.swell.length (rowL encSp p.swell), Value.int IntKind.i64 p.llo, Value.int IntKind.i64 p.lhi], Value.int IntKind.i64 day]
noncomputable def wHours_z4 (p : ShPass) : Array Value := #[Value.agg #[slT p.tides.length (rowL encI p.tides), Value.int IntKind.i64 p.depth, Value.int IntKind.i64 p.draft, slT p.swell.length (rowL encSp p.swell), Value.int IntKind.i64 p.llo, Value.int IntKind.i64 p.lhi]]
noncomputable def wHours_z5 (p : ShPass) (fd fh : Int) : Value := (Value.tuple #[Value.agg #[Value.int IntKind.i64 (Int.tdiv (fd * 24 + fh + Option.getD (scanK p (fd * 24 + fh) 0) 0) 24), Value.int IntKind.i64 (Int.tmod (fd * 24 + fh + Option.getD (scanK p (fd * 24 + fh) 0) 0) 24)], Value.int IntKind.i64 0])
noncomputable def wHours_z6 (p : ShPass) (fd fh : Int) : Value := (Value.tuple #[Value.agg #[Value.int IntKind.i64 (Int.tdiv (fd * 24 + fh + Option.getD (scanK p (fd * 24 + fh) 0) 0) 24), Value.int IntKind.i64 (Int.tmod (fd * 24 + fh + Option.getD (scanK p (fd * 24 + fh) 0) 0) 24)], Value.bool true])
noncomputable def wHours_z7 (p : ShPass) (day : Int) : Array Value := #[slT (List.length (hoursL p day false 0)) (rowL encI (hoursL p day false 0)), slT (List.length (hoursL p day false 0)) (rowL encI (hoursL p day false 0))]
noncomputable def wHours_z8 (p : ShPass) (day : Int) : Array Value := #[slT (List.length (hoursL p day true 0)) (rowL encI (hoursL p day true 0)), slT (List.length (hoursL p day true 0)) (rowL encI (hoursL p day true 0))]
noncomputable def wHours_z9  : Value := (Value.tuple #[Value.agg #[Value.int IntKind.i64 0, Value.int IntKind.i64 0], Value.int IntKind.i64 2])
noncomputable def wHours_z10  : Value := (Value.tuple #[Value.agg #[Value.int IntKind.i64 0, Value.int IntKind.i64 0], Value.int IntKind.i64 5])
noncomputable def wHours_z11  : Value := (Value.tuple #[Value.agg #[Value.int IntKind.i64 0, Value.int IntKind.i64 0], Value.bool false])
noncomputable def wHours_z12 (p : ShPass) (day : Int) : Value := (slT (List.length (hoursL p day false 0)) (rowL encI (hoursL p day false 0)))
noncomputable def wHours_z13 (p : ShPass) (day : Int) : Value := (slT (List.length (hoursL p day true 0)) (rowL encI (hoursL p day true 0)))
noncomputable def wHours_p0 (B : Lo) (p : ShPass) (day fd fh : Int) : List Prop := [AllP [] ∧ PureC Tryz.prog J0 16 (wHours_z4 p) (Value.bool true)] ++ ([] : List Prop)
noncomputable def wHours_q0 (p : ShPass) (day fd fh : Int) : ScriptT := [(4, HintT.pure (Value.bool true) [])]
noncomputable def wHours_p1 (B : Lo) (p : ShPass) (day fd fh : Int) : List Prop := [AllP [] ∧ PureC Tryz.prog J0 18 (wHours_z4 p) (Value.int IntKind.i64 0)] ++ wHours_p0 B p day fd fh
noncomputable def wHours_q1 (p : ShPass) (day fd fh : Int) : ScriptT := wHours_q0 p day fd fh ++ [(7, HintT.pure (Value.int IntKind.i64 0) [])]
noncomputable def wHours_p2 (B : Lo) (p : ShPass) (day fd fh : Int) : List Prop := [AllP [] ∧ PureC Tryz.prog J0 19 (wHours_z3 p day) (Value.tuple #[slT (List.length (hoursL p day true 0)) (rowL encI (hoursL p day true 0)), slT (List.length (hoursL p day false 0)) (rowL encI (hoursL p day false 0)), Value.int IntKind.i64 0])] ++ wHours_p1 B p day fd fh
noncomputable def wHours_q2 (p : ShPass) (day fd fh : Int) : ScriptT := wHours_q1 p day fd fh ++ [(11, HintT.pure (Value.tuple #[slT (List.length (hoursL p day true 0)) (rowL encI (hoursL p day true 0)), slT (List.length (hoursL p day false 0)) (rowL encI (hoursL p day false 0)), Value.int IntKind.i64 0]) [])]
noncomputable def wHours_p3 (B : Lo) (p : ShPass) (day fd fh : Int) : List Prop := [AllP [] ∧ PureC Tryz.prog J0 24 (wHours_z2 p day) (wHours_z13 p day), AllP [] ∧ PureC Tryz.prog J0 22 (wHours_z3 p day) (Value.bool true), AllP [] ∧ PureC Tryz.prog J0 21 (wHours_z4 p) (Value.bool true), AllP [] ∧ PureC Tryz.prog J0 21 (wHours_z4 p) (Value.bool true), AllP [] ∧ PureC Tryz.prog J0 20 (wHours_z0 p fd fh) (wHours_z5 p fd fh)] ++ wHours_p2 B p day fd fh
noncomputable def wHours_q3 (p : ShPass) (day fd fh : Int) : ScriptT := wHours_q2 p day fd fh ++ [(21, HintT.pure (wHours_z5 p fd fh) []), (29, HintT.pure (Value.bool true) []), (45, HintT.pure (Value.bool true) []), (50, HintT.pure (Value.bool true) []), (59, HintT.pure (wHours_z13 p day) [])]
noncomputable def wHours_p4 (B : Lo) (p : ShPass) (day fd fh : Int) : List Prop := [AllP [] ∧ PureC Tryz.prog J0 24 (wHours_z1 p day) (wHours_z12 p day), AllP [] ∧ PureC Tryz.prog J0 23 (wHours_z8 p day) (Value.bool true)] ++ wHours_p3 B p day fd fh
noncomputable def wHours_q4 (p : ShPass) (day fd fh : Int) : ScriptT := wHours_q3 p day fd fh ++ [(60, HintT.pure (Value.bool true) []), (67, HintT.pure (wHours_z12 p day) [])]
set_option maxRecDepth 100000 in
theorem wHours_s0 (B : Lo) (p : ShPass) (day fd fh : Int) : endT (srunT Tryz.prog (okFn Tryz.prog) J0 B 44 1 (entryC Tryz.prog 3 134 (([.agg (encPass p).toArray, .int .i64 day, callV fd fh]).map (pushT 0 4))) H00 1
 (wHours_q4 p day fd fh ++ [(68, HintT.pure (Value.bool true) []), (72, HintT.pure (Value.bool true) []), (77, HintT.pure (Value.bool true) []), (82, HintT.pure (wHours_z6 p fd fh) []), (96, HintT.old (Hint.eq true)), (99, HintT.pure (Value.bool true) [])]) 0 [] []) [] = some (Value.bool true,
 [AllP [] ∧ PureC Tryz.prog J0 17 #[] (Value.bool true), (eqq (Int.tdiv (fd * 24 + fh + Option.getD (scanK p (fd * 24 + fh) 0) 0) 24) (Int.tdiv (fd * 24 + fh + Option.getD (scanK p (fd * 24 + fh) 0) 0) 24) && (eqq (Int.tmod (fd * 24 + fh + Option.getD (scanK p (fd * 24 + fh) 0) 0) 24) (Int.tmod (fd * 24 + fh + Option.getD (scanK p (fd * 24 + fh) 0) 0) 24) && true)) = true, AllP [] ∧ PureC Tryz.prog J0 26 (wHours_z0 p fd fh) (wHours_z6 p fd fh), AllP [] ∧ PureC Tryz.prog J0 25 (wHours_z0 p fd fh) (Value.bool true), AllP [] ∧ PureC Tryz.prog J0 21 (wHours_z4 p) (Value.bool true), AllP [] ∧ PureC Tryz.prog J0 23 (wHours_z7 p day) (Value.bool true)] ++ wHours_p4 B p day fd fh) := by kernel_rfl
set_option maxRecDepth 100000 in
theorem wHours_s1 (B : Lo) (p : ShPass) (day fd fh : Int) : endT (srunT Tryz.prog (okFn Tryz.prog) J0 B 31 1 (entryC Tryz.prog 3 134 (([.agg (encPass p).toArray, .int .i64 day, callV fd fh]).map (pushT 0 4))) H00 1
 (wHours_q4 p day fd fh ++ [(68, HintT.pure (Value.bool false) [])]) 0 [] []) [] = some (Value.bool false,
 [AllP [] ∧ PureC Tryz.prog J0 23 (wHours_z7 p day) (Value.bool false)] ++ wHours_p4 B p day fd fh) := by kernel_rfl
set_option maxRecDepth 100000 in
theorem wHours_s2 (B : Lo) (p : ShPass) (day fd fh : Int) : endT (srunT Tryz.prog (okFn Tryz.prog) J0 B 31 1 (entryC Tryz.prog 3 134 (([.agg (encPass p).toArray, .int .i64 day, callV fd fh]).map (pushT 0 4))) H00 1
 (wHours_q3 p day fd fh ++ [(60, HintT.pure (Value.bool false) [])]) 0 [] []) [] = some (Value.bool false,
 [AllP [] ∧ PureC Tryz.prog J0 23 (wHours_z8 p day) (Value.bool false)] ++ wHours_p3 B p day fd fh) := by kernel_rfl
noncomputable def wHours_p5 (B : Lo) (p : ShPass) (day fd fh : Int) : List Prop := [AllP [] ∧ PureC Tryz.prog J0 24 (wHours_z2 p day) (wHours_z13 p day), AllP [] ∧ PureC Tryz.prog J0 22 (wHours_z3 p day) (Value.bool true), AllP [] ∧ PureC Tryz.prog J0 21 (wHours_z4 p) (Value.bool true), AllP [] ∧ PureC Tryz.prog J0 21 (wHours_z4 p) (Value.bool true), AllP [] ∧ PureC Tryz.prog J0 20 (wHours_z0 p fd fh) wHours_z10] ++ wHours_p2 B p day fd fh
noncomputable def wHours_q5 (p : ShPass) (day fd fh : Int) : ScriptT := wHours_q2 p day fd fh ++ [(21, HintT.pure wHours_z10 []), (29, HintT.pure (Value.bool true) []), (45, HintT.pure (Value.bool true) []), (50, HintT.pure (Value.bool true) []), (59, HintT.pure (wHours_z13 p day) [])]
noncomputable def wHours_p6 (B : Lo) (p : ShPass) (day fd fh : Int) : List Prop := [AllP [] ∧ PureC Tryz.prog J0 24 (wHours_z1 p day) (wHours_z12 p day), AllP [] ∧ PureC Tryz.prog J0 23 (wHours_z8 p day) (Value.bool true)] ++ wHours_p5 B p day fd fh
noncomputable def wHours_q6 (p : ShPass) (day fd fh : Int) : ScriptT := wHours_q5 p day fd fh ++ [(60, HintT.pure (Value.bool true) []), (67, HintT.pure (wHours_z12 p day) [])]
set_option maxRecDepth 100000 in
theorem wHours_s3 (B : Lo) (p : ShPass) (day fd fh : Int) : endT (srunT Tryz.prog (okFn Tryz.prog) J0 B 43 1 (entryC Tryz.prog 3 134 (([.agg (encPass p).toArray, .int .i64 day, callV fd fh]).map (pushT 0 4))) H00 1
 (wHours_q6 p day fd fh ++ [(68, HintT.pure (Value.bool true) []), (72, HintT.pure (Value.bool true) []), (77, HintT.pure (Value.bool true) []), (82, HintT.pure wHours_z11 []), (99, HintT.pure (Value.bool true) [])]) 0 [] []) [] = some (Value.bool true,
 [AllP [] ∧ PureC Tryz.prog J0 17 #[] (Value.bool true), AllP [] ∧ PureC Tryz.prog J0 26 (wHours_z0 p fd fh) wHours_z11, AllP [] ∧ PureC Tryz.prog J0 25 (wHours_z0 p fd fh) (Value.bool true), AllP [] ∧ PureC Tryz.prog J0 21 (wHours_z4 p) (Value.bool true), AllP [] ∧ PureC Tryz.prog J0 23 (wHours_z7 p day) (Value.bool true)] ++ wHours_p6 B p day fd fh) := by kernel_rfl
set_option maxRecDepth 100000 in
theorem wHours_s4 (B : Lo) (p : ShPass) (day fd fh : Int) : endT (srunT Tryz.prog (okFn Tryz.prog) J0 B 31 1 (entryC Tryz.prog 3 134 (([.agg (encPass p).toArray, .int .i64 day, callV fd fh]).map (pushT 0 4))) H00 1
 (wHours_q6 p day fd fh ++ [(68, HintT.pure (Value.bool false) [])]) 0 [] []) [] = some (Value.bool false,
 [AllP [] ∧ PureC Tryz.prog J0 23 (wHours_z7 p day) (Value.bool false)] ++ wHours_p6 B p day fd fh) := by kernel_rfl
set_option maxRecDepth 100000 in
theorem wHours_s5 (B : Lo) (p : ShPass) (day fd fh : Int) : endT (srunT Tryz.prog (okFn Tryz.prog) J0 B 31 1 (entryC Tryz.prog 3 134 (([.agg (encPass p).toArray, .int .i64 day, callV fd fh]).map (pushT 0 4))) H00 1
 (wHours_q5 p day fd fh ++ [(60, HintT.pure (Value.bool false) [])]) 0 [] []) [] = some (Value.bool false,
 [AllP [] ∧ PureC Tryz.prog J0 23 (wHours_z8 p day) (Value.bool false)] ++ wHours_p5 B p day fd fh) := by kernel_rfl
noncomputable def wHours_p7 (B : Lo) (p : ShPass) (day fd fh : Int) : List Prop := [AllP [] ∧ PureC Tryz.prog J0 24 (wHours_z2 p day) (wHours_z13 p day), AllP [] ∧ PureC Tryz.prog J0 22 (wHours_z3 p day) (Value.bool true), AllP [] ∧ PureC Tryz.prog J0 21 (wHours_z4 p) (Value.bool true), AllP [] ∧ PureC Tryz.prog J0 21 (wHours_z4 p) (Value.bool true), AllP [] ∧ PureC Tryz.prog J0 20 (wHours_z0 p fd fh) wHours_z9] ++ wHours_p2 B p day fd fh
noncomputable def wHours_q7 (p : ShPass) (day fd fh : Int) : ScriptT := wHours_q2 p day fd fh ++ [(21, HintT.pure wHours_z9 []), (29, HintT.pure (Value.bool true) []), (45, HintT.pure (Value.bool true) []), (50, HintT.pure (Value.bool true) []), (59, HintT.pure (wHours_z13 p day) [])]
noncomputable def wHours_p8 (B : Lo) (p : ShPass) (day fd fh : Int) : List Prop := [AllP [] ∧ PureC Tryz.prog J0 24 (wHours_z1 p day) (wHours_z12 p day), AllP [] ∧ PureC Tryz.prog J0 23 (wHours_z8 p day) (Value.bool true)] ++ wHours_p7 B p day fd fh
noncomputable def wHours_q8 (p : ShPass) (day fd fh : Int) : ScriptT := wHours_q7 p day fd fh ++ [(60, HintT.pure (Value.bool true) []), (67, HintT.pure (wHours_z12 p day) [])]
set_option maxRecDepth 100000 in
theorem wHours_s6 (B : Lo) (p : ShPass) (day fd fh : Int) : endT (srunT Tryz.prog (okFn Tryz.prog) J0 B 36 1 (entryC Tryz.prog 3 134 (([.agg (encPass p).toArray, .int .i64 day, callV fd fh]).map (pushT 0 4))) H00 1
 (wHours_q8 p day fd fh ++ [(68, HintT.pure (Value.bool true) []), (72, HintT.pure (Value.bool true) []), (77, HintT.pure (Value.bool false) []), (88, HintT.pure (Value.bool true) [])]) 0 [] []) [] = some (Value.bool true,
 [AllP [] ∧ PureC Tryz.prog J0 17 #[] (Value.bool true), AllP [] ∧ PureC Tryz.prog J0 25 (wHours_z0 p fd fh) (Value.bool false), AllP [] ∧ PureC Tryz.prog J0 21 (wHours_z4 p) (Value.bool true), AllP [] ∧ PureC Tryz.prog J0 23 (wHours_z7 p day) (Value.bool true)] ++ wHours_p8 B p day fd fh) := by kernel_rfl
set_option maxRecDepth 100000 in
theorem wHours_s7 (B : Lo) (p : ShPass) (day fd fh : Int) : endT (srunT Tryz.prog (okFn Tryz.prog) J0 B 31 1 (entryC Tryz.prog 3 134 (([.agg (encPass p).toArray, .int .i64 day, callV fd fh]).map (pushT 0 4))) H00 1
 (wHours_q8 p day fd fh ++ [(68, HintT.pure (Value.bool false) [])]) 0 [] []) [] = some (Value.bool false,
 [AllP [] ∧ PureC Tryz.prog J0 23 (wHours_z7 p day) (Value.bool false)] ++ wHours_p8 B p day fd fh) := by kernel_rfl
set_option maxRecDepth 100000 in
theorem wHours_s8 (B : Lo) (p : ShPass) (day fd fh : Int) : endT (srunT Tryz.prog (okFn Tryz.prog) J0 B 31 1 (entryC Tryz.prog 3 134 (([.agg (encPass p).toArray, .int .i64 day, callV fd fh]).map (pushT 0 4))) H00 1
 (wHours_q7 p day fd fh ++ [(60, HintT.pure (Value.bool false) [])]) 0 [] []) [] = some (Value.bool false,
 [AllP [] ∧ PureC Tryz.prog J0 23 (wHours_z8 p day) (Value.bool false)] ++ wHours_p7 B p day fd fh) := by kernel_rfl
noncomputable def wHours_p9 (B : Lo) (p : ShPass) (day fd fh : Int) : List Prop := [AllP [] ∧ PureC Tryz.prog J0 24 (wHours_z2 p day) (wHours_z13 p day), AllP [] ∧ PureC Tryz.prog J0 22 (wHours_z3 p day) (Value.bool true), AllP [] ∧ PureC Tryz.prog J0 21 (wHours_z4 p) (Value.bool true), AllP [] ∧ PureC Tryz.prog J0 21 (wHours_z4 p) (Value.bool true), AllP [] ∧ PureC Tryz.prog J0 20 (wHours_z0 p fd fh) wHours_z9] ++ wHours_p2 B p day fd fh
noncomputable def wHours_q9 (p : ShPass) (day fd fh : Int) : ScriptT := wHours_q2 p day fd fh ++ [(21, HintT.pure wHours_z9 []), (29, HintT.pure (Value.bool true) []), (45, HintT.pure (Value.bool true) []), (50, HintT.pure (Value.bool true) []), (59, HintT.pure (wHours_z13 p day) [])]
noncomputable def wHours_p10 (B : Lo) (p : ShPass) (day fd fh : Int) : List Prop := [AllP [] ∧ PureC Tryz.prog J0 24 (wHours_z1 p day) (wHours_z12 p day), AllP [] ∧ PureC Tryz.prog J0 23 (wHours_z8 p day) (Value.bool true)] ++ wHours_p9 B p day fd fh
noncomputable def wHours_q10 (p : ShPass) (day fd fh : Int) : ScriptT := wHours_q9 p day fd fh ++ [(60, HintT.pure (Value.bool true) []), (67, HintT.pure (wHours_z12 p day) [])]
set_option maxRecDepth 100000 in
theorem wHours_s9 (B : Lo) (p : ShPass) (day fd fh : Int) : endT (srunT Tryz.prog (okFn Tryz.prog) J0 B 36 1 (entryC Tryz.prog 3 134 (([.agg (encPass p).toArray, .int .i64 day, callV fd fh]).map (pushT 0 4))) H00 1
 (wHours_q10 p day fd fh ++ [(68, HintT.pure (Value.bool true) []), (72, HintT.pure (Value.bool true) []), (77, HintT.pure (Value.bool false) []), (88, HintT.pure (Value.bool true) [])]) 0 [] []) [] = some (Value.bool true,
 [AllP [] ∧ PureC Tryz.prog J0 17 #[] (Value.bool true), AllP [] ∧ PureC Tryz.prog J0 25 (wHours_z0 p fd fh) (Value.bool false), AllP [] ∧ PureC Tryz.prog J0 21 (wHours_z4 p) (Value.bool true), AllP [] ∧ PureC Tryz.prog J0 23 (wHours_z7 p day) (Value.bool true)] ++ wHours_p10 B p day fd fh) := by kernel_rfl
set_option maxRecDepth 100000 in
theorem wHours_s10 (B : Lo) (p : ShPass) (day fd fh : Int) : endT (srunT Tryz.prog (okFn Tryz.prog) J0 B 31 1 (entryC Tryz.prog 3 134 (([.agg (encPass p).toArray, .int .i64 day, callV fd fh]).map (pushT 0 4))) H00 1
 (wHours_q10 p day fd fh ++ [(68, HintT.pure (Value.bool false) [])]) 0 [] []) [] = some (Value.bool false,
 [AllP [] ∧ PureC Tryz.prog J0 23 (wHours_z7 p day) (Value.bool false)] ++ wHours_p10 B p day fd fh) := by kernel_rfl
set_option maxRecDepth 100000 in
theorem wHours_s11 (B : Lo) (p : ShPass) (day fd fh : Int) : endT (srunT Tryz.prog (okFn Tryz.prog) J0 B 31 1 (entryC Tryz.prog 3 134 (([.agg (encPass p).toArray, .int .i64 day, callV fd fh]).map (pushT 0 4))) H00 1
 (wHours_q9 p day fd fh ++ [(60, HintT.pure (Value.bool false) [])]) 0 [] []) [] = some (Value.bool false,
 [AllP [] ∧ PureC Tryz.prog J0 23 (wHours_z8 p day) (Value.bool false)] ++ wHours_p9 B p day fd fh) := by kernel_rfl
noncomputable def wHours_p11 (B : Lo) (p : ShPass) (day fd fh : Int) : List Prop := [AllP [] ∧ PureC Tryz.prog J0 19 (wHours_z3 p day) (Value.tuple #[slT 0 #[], slT 0 #[], Value.int IntKind.i64 2])] ++ wHours_p1 B p day fd fh
noncomputable def wHours_q11 (p : ShPass) (day fd fh : Int) : ScriptT := wHours_q1 p day fd fh ++ [(11, HintT.pure (Value.tuple #[slT 0 #[], slT 0 #[], Value.int IntKind.i64 2]) [])]
set_option maxRecDepth 100000 in
theorem wHours_s12 (B : Lo) (p : ShPass) (day fd fh : Int) : endT (srunT Tryz.prog (okFn Tryz.prog) J0 B 44 1 (entryC Tryz.prog 3 134 (([.agg (encPass p).toArray, .int .i64 day, callV fd fh]).map (pushT 0 4))) H00 1
 (wHours_q11 p day fd fh ++ [(21, HintT.pure (wHours_z5 p fd fh) []), (29, HintT.pure (Value.bool true) []), (45, HintT.pure (Value.bool true) []), (50, HintT.pure (Value.bool false) []), (64, HintT.pure (Value.bool true) []), (69, HintT.pure (Value.bool true) []), (74, HintT.pure (wHours_z6 p fd fh) []), (88, HintT.old (Hint.eq true)), (91, HintT.pure (Value.bool true) [])]) 0 [] []) [] = some (Value.bool true,
 [AllP [] ∧ PureC Tryz.prog J0 17 #[] (Value.bool true), (eqq (Int.tdiv (fd * 24 + fh + Option.getD (scanK p (fd * 24 + fh) 0) 0) 24) (Int.tdiv (fd * 24 + fh + Option.getD (scanK p (fd * 24 + fh) 0) 0) 24) && (eqq (Int.tmod (fd * 24 + fh + Option.getD (scanK p (fd * 24 + fh) 0) 0) 24) (Int.tmod (fd * 24 + fh + Option.getD (scanK p (fd * 24 + fh) 0) 0) 24) && true)) = true, AllP [] ∧ PureC Tryz.prog J0 26 (wHours_z0 p fd fh) (wHours_z6 p fd fh), AllP [] ∧ PureC Tryz.prog J0 25 (wHours_z0 p fd fh) (Value.bool true), AllP [] ∧ PureC Tryz.prog J0 21 (wHours_z4 p) (Value.bool true), AllP [] ∧ PureC Tryz.prog J0 22 (wHours_z3 p day) (Value.bool false), AllP [] ∧ PureC Tryz.prog J0 21 (wHours_z4 p) (Value.bool true), AllP [] ∧ PureC Tryz.prog J0 21 (wHours_z4 p) (Value.bool true), AllP [] ∧ PureC Tryz.prog J0 20 (wHours_z0 p fd fh) (wHours_z5 p fd fh)] ++ wHours_p11 B p day fd fh) := by kernel_rfl
set_option maxRecDepth 100000 in
theorem wHours_s13 (B : Lo) (p : ShPass) (day fd fh : Int) : endT (srunT Tryz.prog (okFn Tryz.prog) J0 B 43 1 (entryC Tryz.prog 3 134 (([.agg (encPass p).toArray, .int .i64 day, callV fd fh]).map (pushT 0 4))) H00 1
 (wHours_q11 p day fd fh ++ [(21, HintT.pure wHours_z10 []), (29, HintT.pure (Value.bool true) []), (45, HintT.pure (Value.bool true) []), (50, HintT.pure (Value.bool false) []), (64, HintT.pure (Value.bool true) []), (69, HintT.pure (Value.bool true) []), (74, HintT.pure wHours_z11 []), (91, HintT.pure (Value.bool true) [])]) 0 [] []) [] = some (Value.bool true,
 [AllP [] ∧ PureC Tryz.prog J0 17 #[] (Value.bool true), AllP [] ∧ PureC Tryz.prog J0 26 (wHours_z0 p fd fh) wHours_z11, AllP [] ∧ PureC Tryz.prog J0 25 (wHours_z0 p fd fh) (Value.bool true), AllP [] ∧ PureC Tryz.prog J0 21 (wHours_z4 p) (Value.bool true), AllP [] ∧ PureC Tryz.prog J0 22 (wHours_z3 p day) (Value.bool false), AllP [] ∧ PureC Tryz.prog J0 21 (wHours_z4 p) (Value.bool true), AllP [] ∧ PureC Tryz.prog J0 21 (wHours_z4 p) (Value.bool true), AllP [] ∧ PureC Tryz.prog J0 20 (wHours_z0 p fd fh) wHours_z10] ++ wHours_p11 B p day fd fh) := by kernel_rfl
set_option maxRecDepth 100000 in
theorem wHours_s14 (B : Lo) (p : ShPass) (day fd fh : Int) : endT (srunT Tryz.prog (okFn Tryz.prog) J0 B 36 1 (entryC Tryz.prog 3 134 (([.agg (encPass p).toArray, .int .i64 day, callV fd fh]).map (pushT 0 4))) H00 1
 (wHours_q11 p day fd fh ++ [(21, HintT.pure wHours_z9 []), (29, HintT.pure (Value.bool true) []), (45, HintT.pure (Value.bool true) []), (50, HintT.pure (Value.bool false) []), (64, HintT.pure (Value.bool true) []), (69, HintT.pure (Value.bool false) []), (80, HintT.pure (Value.bool true) [])]) 0 [] []) [] = some (Value.bool true,
 [AllP [] ∧ PureC Tryz.prog J0 17 #[] (Value.bool true), AllP [] ∧ PureC Tryz.prog J0 25 (wHours_z0 p fd fh) (Value.bool false), AllP [] ∧ PureC Tryz.prog J0 21 (wHours_z4 p) (Value.bool true), AllP [] ∧ PureC Tryz.prog J0 22 (wHours_z3 p day) (Value.bool false), AllP [] ∧ PureC Tryz.prog J0 21 (wHours_z4 p) (Value.bool true), AllP [] ∧ PureC Tryz.prog J0 21 (wHours_z4 p) (Value.bool true), AllP [] ∧ PureC Tryz.prog J0 20 (wHours_z0 p fd fh) wHours_z9] ++ wHours_p11 B p day fd fh) := by kernel_rfl
set_option maxRecDepth 100000 in
theorem wHours_s15 (B : Lo) (p : ShPass) (day fd fh : Int) : endT (srunT Tryz.prog (okFn Tryz.prog) J0 B 36 1 (entryC Tryz.prog 3 134 (([.agg (encPass p).toArray, .int .i64 day, callV fd fh]).map (pushT 0 4))) H00 1
 (wHours_q11 p day fd fh ++ [(21, HintT.pure wHours_z9 []), (29, HintT.pure (Value.bool true) []), (45, HintT.pure (Value.bool true) []), (50, HintT.pure (Value.bool false) []), (64, HintT.pure (Value.bool true) []), (69, HintT.pure (Value.bool false) []), (80, HintT.pure (Value.bool true) [])]) 0 [] []) [] = some (Value.bool true,
 [AllP [] ∧ PureC Tryz.prog J0 17 #[] (Value.bool true), AllP [] ∧ PureC Tryz.prog J0 25 (wHours_z0 p fd fh) (Value.bool false), AllP [] ∧ PureC Tryz.prog J0 21 (wHours_z4 p) (Value.bool true), AllP [] ∧ PureC Tryz.prog J0 22 (wHours_z3 p day) (Value.bool false), AllP [] ∧ PureC Tryz.prog J0 21 (wHours_z4 p) (Value.bool true), AllP [] ∧ PureC Tryz.prog J0 21 (wHours_z4 p) (Value.bool true), AllP [] ∧ PureC Tryz.prog J0 20 (wHours_z0 p fd fh) wHours_z9] ++ wHours_p11 B p day fd fh) := by kernel_rfl
set_option maxRecDepth 100000 in
theorem wHours_s16 (B : Lo) (p : ShPass) (day fd fh : Int) : endT (srunT Tryz.prog (okFn Tryz.prog) J0 B 36 1 (entryC Tryz.prog 3 134 (([.agg (encPass p).toArray, .int .i64 day, callV fd fh]).map (pushT 0 4))) H00 1
 (wHours_q0 p day fd fh ++ [(7, HintT.pure (Value.int IntKind.i64 2) []), (11, HintT.pure (Value.tuple #[slT 0 #[], slT 0 #[], Value.int IntKind.i64 2]) []), (21, HintT.pure wHours_z9 []), (29, HintT.pure (Value.bool false) []), (45, HintT.pure (Value.bool false) []), (64, HintT.pure (Value.bool false) []), (80, HintT.pure (Value.bool true) [])]) 0 [] []) [] = some (Value.bool true,
 [AllP [] ∧ PureC Tryz.prog J0 17 #[] (Value.bool true), AllP [] ∧ PureC Tryz.prog J0 21 (wHours_z4 p) (Value.bool false), AllP [] ∧ PureC Tryz.prog J0 21 (wHours_z4 p) (Value.bool false), AllP [] ∧ PureC Tryz.prog J0 21 (wHours_z4 p) (Value.bool false), AllP [] ∧ PureC Tryz.prog J0 20 (wHours_z0 p fd fh) wHours_z9, AllP [] ∧ PureC Tryz.prog J0 19 (wHours_z3 p day) (Value.tuple #[slT 0 #[], slT 0 #[], Value.int IntKind.i64 2]), AllP [] ∧ PureC Tryz.prog J0 18 (wHours_z4 p) (Value.int IntKind.i64 2)] ++ wHours_p0 B p day fd fh) := by kernel_rfl
set_option maxRecDepth 100000 in
theorem wHours_s17 (B : Lo) (p : ShPass) (day fd fh : Int) : endT (srunT Tryz.prog (okFn Tryz.prog) J0 B 10 1 (entryC Tryz.prog 3 134 (([.agg (encPass p).toArray, .int .i64 day, callV fd fh]).map (pushT 0 4))) H00 1
 [(4, HintT.pure (Value.bool false) []), (6, HintT.pure (Value.bool true) [])] 0 [] []) [] = some (Value.bool true,
 [AllP [] ∧ PureC Tryz.prog J0 17 #[] (Value.bool true), AllP [] ∧ PureC Tryz.prog J0 16 (wHours_z4 p) (Value.bool false)]) := by kernel_rfl
set_option maxRecDepth 100000 in
theorem wHours_s18 (B : Lo) (p : ShPass) (day fd fh : Int) : endT (srunT Tryz.prog (okFn Tryz.prog) J0 B 10 1 (entryC Tryz.prog 3 134 (([.agg (encPass p).toArray, .int .i64 day, callV fd fh]).map (pushT 0 4))) H00 1
 [(4, HintT.pure (Value.bool false) []), (6, HintT.pure (Value.bool true) [])] 0 [] []) [] = some (Value.bool true,
 [AllP [] ∧ PureC Tryz.prog J0 17 #[] (Value.bool true), AllP [] ∧ PureC Tryz.prog J0 16 (wHours_z4 p) (Value.bool false)]) := by kernel_rfl
set_option maxHeartbeats 4000000 in
theorem wHours_e (p : ShPass) (day fd fh : Int)  {B : Lo} (hJ : ∀ w, B.has w → J0 w) : EndsT Tryz.prog B (entryC Tryz.prog 3 134 (([.agg (encPass p).toArray, .int .i64 day, callV fd fh]).map (pushT 0 4))) (.bool true) := by
 cases q0 : decide (List.length p.tides ≤ 60) with
 | true =>
   cases q1 : decide (List.length p.swell ≤ 70) with
   | true =>
     have hp0 : AllP (wHours_p0 B p day fd fh) := by
      try have g1 := inB_iff.1 ‹inB day 0 _ = true›
      try have g2 := inB_iff.1 ‹inB fd 0 _ = true›
      try have g3 := inB_iff.1 ‹inB fh 0 _ = true›
      exact ⟨⟨trivial, (by have t_ := lpass (p); rw [q0, q1] at t_; exact t_)⟩, trivial⟩
     cases q2 : passB p with
     | true =>
       have hp1 : AllP (wHours_p1 B p day fd fh) := by
        try have g1 := inB_iff.1 ‹inB day 0 _ = true›
        try have g2 := inB_iff.1 ‹inB fd 0 _ = true›
        try have g3 := inB_iff.1 ‹inB fh 0 _ = true›
        exact ⟨⟨trivial, (by have t_ := pCheckPass (p); rw [q2] at t_; exact t_)⟩, hp0⟩
       cases q3 : inB day 0 ((↑p.swell.length : Int) - 1) with
       | true =>
         have hp2 : AllP (wHours_p2 B p day fd fh) := by
          try have g1 := inB_iff.1 ‹inB day 0 _ = true›
          try have g2 := inB_iff.1 ‹inB fd 0 _ = true›
          try have g3 := inB_iff.1 ‹inB fh 0 _ = true›
          exact ⟨⟨trivial, (by have t_ := pHours (p) (day); rw [q2, q3] at t_; exact t_)⟩, hp1⟩
         cases q4 : inB fd 0 ((↑p.swell.length : Int) - 1) with
         | true =>
           cases q5 : inB fh 0 23 with
           | true =>
             cases q6 : Option.isSome (scanK p (fd * 24 + fh) 0) with
             | true =>
               have hp3 : AllP (wHours_p3 B p day fd fh) := by
                try have g1 := inB_iff.1 ‹inB day 0 _ = true›
                try have g2 := inB_iff.1 ‹inB fd 0 _ = true›
                try have g3 := inB_iff.1 ‹inB fh 0 _ = true›
                exact ⟨⟨trivial, rHours (p) (day) (true) (by first | with_reducible assumption | omega | simp_all) (by first | with_reducible assumption | omega | simp_all)⟩, ⟨⟨trivial, (by have t_ := rDay (p) (day); rw [q3] at t_; exact t_)⟩, ⟨⟨trivial, (by have t_ := rPass (p); rw [q2] at t_; exact t_)⟩, ⟨⟨trivial, (by have t_ := rPass (p); rw [q2] at t_; exact t_)⟩, ⟨⟨trivial, (by have t_ := pNext (p) (fd) (fh); rw [q2, q4, q5, q6] at t_; exact t_)⟩, hp2⟩⟩⟩⟩⟩
               cases q7 : decide (hoursL p day true 0 = hoursL p day true 0) with
               | true =>
                 have hp4 : AllP (wHours_p4 B p day fd fh) := by
                  try have g1 := inB_iff.1 ‹inB day 0 _ = true›
                  try have g2 := inB_iff.1 ‹inB fd 0 _ = true›
                  try have g3 := inB_iff.1 ‹inB fh 0 _ = true›
                  exact ⟨⟨trivial, rHours (p) (day) (false) (by first | with_reducible assumption | omega | simp_all) (by first | with_reducible assumption | omega | simp_all)⟩, ⟨⟨trivial, (by have t_ := rSame (hoursL p day true 0) (hoursL p day true 0); rw [q7] at t_; exact t_)⟩, hp3⟩⟩
                 cases q8 : decide (hoursL p day false 0 = hoursL p day false 0) with
                 | true =>
                   try have g1 := inB_iff.1 ‹inB day 0 _ = true›
                   try have g2 := inB_iff.1 ‹inB fd 0 _ = true›
                   try have g3 := inB_iff.1 ‹inB fh 0 _ = true›
                   exact (GoE.endsT okF hJ mixed_ok GoE.start (wHours_s0 B p day fd fh)
                    ⟨⟨trivial, known⟩, ⟨(by first | rfl | simp [eqq_eq]), ⟨⟨trivial, (by have t_ := rNext2 (p) (fd) (fh) (by first | with_reducible assumption | omega | simp_all) (by first | with_reducible assumption | omega | simp_all) (by first | with_reducible assumption | omega | simp_all); rw [q6] at t_; exact t_)⟩, ⟨⟨trivial, (by have t_ := rCall (p) (fd) (fh); rw [q4, q5] at t_; exact t_)⟩, ⟨⟨trivial, (by have t_ := rPass (p); rw [q2] at t_; exact t_)⟩, ⟨⟨trivial, (by have t_ := rSame (hoursL p day false 0) (hoursL p day false 0); rw [q8] at t_; exact t_)⟩, hp4⟩⟩⟩⟩⟩⟩).cast rfl
                 | false =>
                   try have g1 := inB_iff.1 ‹inB day 0 _ = true›
                   try have g2 := inB_iff.1 ‹inB fd 0 _ = true›
                   try have g3 := inB_iff.1 ‹inB fh 0 _ = true›
                   exact (GoE.endsT okF hJ mixed_ok GoE.start (wHours_s1 B p day fd fh)
                    ⟨⟨trivial, (by have t_ := rSame (hoursL p day false 0) (hoursL p day false 0); rw [q8] at t_; exact t_)⟩, hp4⟩).cast (by first | rfl | (simp [*]; done) | (simp_all []; done) | (simp_all []; omega))
               | false =>
                 try have g1 := inB_iff.1 ‹inB day 0 _ = true›
                 try have g2 := inB_iff.1 ‹inB fd 0 _ = true›
                 try have g3 := inB_iff.1 ‹inB fh 0 _ = true›
                 exact (GoE.endsT okF hJ mixed_ok GoE.start (wHours_s2 B p day fd fh)
                  ⟨⟨trivial, (by have t_ := rSame (hoursL p day true 0) (hoursL p day true 0); rw [q7] at t_; exact t_)⟩, hp3⟩).cast (by first | rfl | (simp [*]; done) | (simp_all []; done) | (simp_all []; omega))
             | false =>
               have hp5 : AllP (wHours_p5 B p day fd fh) := by
                try have g1 := inB_iff.1 ‹inB day 0 _ = true›
                try have g2 := inB_iff.1 ‹inB fd 0 _ = true›
                try have g3 := inB_iff.1 ‹inB fh 0 _ = true›
                exact ⟨⟨trivial, rHours (p) (day) (true) (by first | with_reducible assumption | omega | simp_all) (by first | with_reducible assumption | omega | simp_all)⟩, ⟨⟨trivial, (by have t_ := rDay (p) (day); rw [q3] at t_; exact t_)⟩, ⟨⟨trivial, (by have t_ := rPass (p); rw [q2] at t_; exact t_)⟩, ⟨⟨trivial, (by have t_ := rPass (p); rw [q2] at t_; exact t_)⟩, ⟨⟨trivial, (by have t_ := pNext (p) (fd) (fh); rw [q2, q4, q5, q6] at t_; exact t_)⟩, hp2⟩⟩⟩⟩⟩
               cases q7 : decide (hoursL p day true 0 = hoursL p day true 0) with
               | true =>
                 have hp6 : AllP (wHours_p6 B p day fd fh) := by
                  try have g1 := inB_iff.1 ‹inB day 0 _ = true›
                  try have g2 := inB_iff.1 ‹inB fd 0 _ = true›
                  try have g3 := inB_iff.1 ‹inB fh 0 _ = true›
                  exact ⟨⟨trivial, rHours (p) (day) (false) (by first | with_reducible assumption | omega | simp_all) (by first | with_reducible assumption | omega | simp_all)⟩, ⟨⟨trivial, (by have t_ := rSame (hoursL p day true 0) (hoursL p day true 0); rw [q7] at t_; exact t_)⟩, hp5⟩⟩
                 cases q8 : decide (hoursL p day false 0 = hoursL p day false 0) with
                 | true =>
                   try have g1 := inB_iff.1 ‹inB day 0 _ = true›
                   try have g2 := inB_iff.1 ‹inB fd 0 _ = true›
                   try have g3 := inB_iff.1 ‹inB fh 0 _ = true›
                   exact (GoE.endsT okF hJ mixed_ok GoE.start (wHours_s3 B p day fd fh)
                    ⟨⟨trivial, known⟩, ⟨⟨trivial, (by have t_ := rNext2 (p) (fd) (fh) (by first | with_reducible assumption | omega | simp_all) (by first | with_reducible assumption | omega | simp_all) (by first | with_reducible assumption | omega | simp_all); rw [q6] at t_; exact t_)⟩, ⟨⟨trivial, (by have t_ := rCall (p) (fd) (fh); rw [q4, q5] at t_; exact t_)⟩, ⟨⟨trivial, (by have t_ := rPass (p); rw [q2] at t_; exact t_)⟩, ⟨⟨trivial, (by have t_ := rSame (hoursL p day false 0) (hoursL p day false 0); rw [q8] at t_; exact t_)⟩, hp6⟩⟩⟩⟩⟩).cast rfl
                 | false =>
                   try have g1 := inB_iff.1 ‹inB day 0 _ = true›
                   try have g2 := inB_iff.1 ‹inB fd 0 _ = true›
                   try have g3 := inB_iff.1 ‹inB fh 0 _ = true›
                   exact (GoE.endsT okF hJ mixed_ok GoE.start (wHours_s4 B p day fd fh)
                    ⟨⟨trivial, (by have t_ := rSame (hoursL p day false 0) (hoursL p day false 0); rw [q8] at t_; exact t_)⟩, hp6⟩).cast (by first | rfl | (simp [*]; done) | (simp_all []; done) | (simp_all []; omega))
               | false =>
                 try have g1 := inB_iff.1 ‹inB day 0 _ = true›
                 try have g2 := inB_iff.1 ‹inB fd 0 _ = true›
                 try have g3 := inB_iff.1 ‹inB fh 0 _ = true›
                 exact (GoE.endsT okF hJ mixed_ok GoE.start (wHours_s5 B p day fd fh)
                  ⟨⟨trivial, (by have t_ := rSame (hoursL p day true 0) (hoursL p day true 0); rw [q7] at t_; exact t_)⟩, hp5⟩).cast (by first | rfl | (simp [*]; done) | (simp_all []; done) | (simp_all []; omega))
           | false =>
             have hp7 : AllP (wHours_p7 B p day fd fh) := by
              try have g1 := inB_iff.1 ‹inB day 0 _ = true›
              try have g2 := inB_iff.1 ‹inB fd 0 _ = true›
              try have g3 := inB_iff.1 ‹inB fh 0 _ = true›
              exact ⟨⟨trivial, rHours (p) (day) (true) (by first | with_reducible assumption | omega | simp_all) (by first | with_reducible assumption | omega | simp_all)⟩, ⟨⟨trivial, (by have t_ := rDay (p) (day); rw [q3] at t_; exact t_)⟩, ⟨⟨trivial, (by have t_ := rPass (p); rw [q2] at t_; exact t_)⟩, ⟨⟨trivial, (by have t_ := rPass (p); rw [q2] at t_; exact t_)⟩, ⟨⟨trivial, (by have t_ := pNext (p) (fd) (fh); rw [q2, q4, q5] at t_; exact t_)⟩, hp2⟩⟩⟩⟩⟩
             cases q6 : decide (hoursL p day true 0 = hoursL p day true 0) with
             | true =>
               have hp8 : AllP (wHours_p8 B p day fd fh) := by
                try have g1 := inB_iff.1 ‹inB day 0 _ = true›
                try have g2 := inB_iff.1 ‹inB fd 0 _ = true›
                try have g3 := inB_iff.1 ‹inB fh 0 _ = true›
                exact ⟨⟨trivial, rHours (p) (day) (false) (by first | with_reducible assumption | omega | simp_all) (by first | with_reducible assumption | omega | simp_all)⟩, ⟨⟨trivial, (by have t_ := rSame (hoursL p day true 0) (hoursL p day true 0); rw [q6] at t_; exact t_)⟩, hp7⟩⟩
               cases q7 : decide (hoursL p day false 0 = hoursL p day false 0) with
               | true =>
                 try have g1 := inB_iff.1 ‹inB day 0 _ = true›
                 try have g2 := inB_iff.1 ‹inB fd 0 _ = true›
                 try have g3 := inB_iff.1 ‹inB fh 0 _ = true›
                 exact (GoE.endsT okF hJ mixed_ok GoE.start (wHours_s6 B p day fd fh)
                  ⟨⟨trivial, known⟩, ⟨⟨trivial, (by have t_ := rCall (p) (fd) (fh); rw [q4, q5] at t_; exact t_)⟩, ⟨⟨trivial, (by have t_ := rPass (p); rw [q2] at t_; exact t_)⟩, ⟨⟨trivial, (by have t_ := rSame (hoursL p day false 0) (hoursL p day false 0); rw [q7] at t_; exact t_)⟩, hp8⟩⟩⟩⟩).cast rfl
               | false =>
                 try have g1 := inB_iff.1 ‹inB day 0 _ = true›
                 try have g2 := inB_iff.1 ‹inB fd 0 _ = true›
                 try have g3 := inB_iff.1 ‹inB fh 0 _ = true›
                 exact (GoE.endsT okF hJ mixed_ok GoE.start (wHours_s7 B p day fd fh)
                  ⟨⟨trivial, (by have t_ := rSame (hoursL p day false 0) (hoursL p day false 0); rw [q7] at t_; exact t_)⟩, hp8⟩).cast (by first | rfl | (simp [*]; done) | (simp_all []; done) | (simp_all []; omega))
             | false =>
               try have g1 := inB_iff.1 ‹inB day 0 _ = true›
               try have g2 := inB_iff.1 ‹inB fd 0 _ = true›
               try have g3 := inB_iff.1 ‹inB fh 0 _ = true›
               exact (GoE.endsT okF hJ mixed_ok GoE.start (wHours_s8 B p day fd fh)
                ⟨⟨trivial, (by have t_ := rSame (hoursL p day true 0) (hoursL p day true 0); rw [q6] at t_; exact t_)⟩, hp7⟩).cast (by first | rfl | (simp [*]; done) | (simp_all []; done) | (simp_all []; omega))
         | false =>
           have hp9 : AllP (wHours_p9 B p day fd fh) := by
            try have g1 := inB_iff.1 ‹inB day 0 _ = true›
            try have g2 := inB_iff.1 ‹inB fd 0 _ = true›
            try have g3 := inB_iff.1 ‹inB fh 0 _ = true›
            exact ⟨⟨trivial, rHours (p) (day) (true) (by first | with_reducible assumption | omega | simp_all) (by first | with_reducible assumption | omega | simp_all)⟩, ⟨⟨trivial, (by have t_ := rDay (p) (day); rw [q3] at t_; exact t_)⟩, ⟨⟨trivial, (by have t_ := rPass (p); rw [q2] at t_; exact t_)⟩, ⟨⟨trivial, (by have t_ := rPass (p); rw [q2] at t_; exact t_)⟩, ⟨⟨trivial, (by have t_ := pNext (p) (fd) (fh); rw [q2, q4] at t_; exact t_)⟩, hp2⟩⟩⟩⟩⟩
           cases q5 : decide (hoursL p day true 0 = hoursL p day true 0) with
           | true =>
             have hp10 : AllP (wHours_p10 B p day fd fh) := by
              try have g1 := inB_iff.1 ‹inB day 0 _ = true›
              try have g2 := inB_iff.1 ‹inB fd 0 _ = true›
              try have g3 := inB_iff.1 ‹inB fh 0 _ = true›
              exact ⟨⟨trivial, rHours (p) (day) (false) (by first | with_reducible assumption | omega | simp_all) (by first | with_reducible assumption | omega | simp_all)⟩, ⟨⟨trivial, (by have t_ := rSame (hoursL p day true 0) (hoursL p day true 0); rw [q5] at t_; exact t_)⟩, hp9⟩⟩
             cases q6 : decide (hoursL p day false 0 = hoursL p day false 0) with
             | true =>
               try have g1 := inB_iff.1 ‹inB day 0 _ = true›
               try have g2 := inB_iff.1 ‹inB fd 0 _ = true›
               try have g3 := inB_iff.1 ‹inB fh 0 _ = true›
               exact (GoE.endsT okF hJ mixed_ok GoE.start (wHours_s9 B p day fd fh)
                ⟨⟨trivial, known⟩, ⟨⟨trivial, (by have t_ := rCall (p) (fd) (fh); rw [q4] at t_; exact t_)⟩, ⟨⟨trivial, (by have t_ := rPass (p); rw [q2] at t_; exact t_)⟩, ⟨⟨trivial, (by have t_ := rSame (hoursL p day false 0) (hoursL p day false 0); rw [q6] at t_; exact t_)⟩, hp10⟩⟩⟩⟩).cast rfl
             | false =>
               try have g1 := inB_iff.1 ‹inB day 0 _ = true›
               try have g2 := inB_iff.1 ‹inB fd 0 _ = true›
               try have g3 := inB_iff.1 ‹inB fh 0 _ = true›
               exact (GoE.endsT okF hJ mixed_ok GoE.start (wHours_s10 B p day fd fh)
                ⟨⟨trivial, (by have t_ := rSame (hoursL p day false 0) (hoursL p day false 0); rw [q6] at t_; exact t_)⟩, hp10⟩).cast (by first | rfl | (simp [*]; done) | (simp_all []; done) | (simp_all []; omega))
           | false =>
             try have g1 := inB_iff.1 ‹inB day 0 _ = true›
             try have g2 := inB_iff.1 ‹inB fd 0 _ = true›
             try have g3 := inB_iff.1 ‹inB fh 0 _ = true›
             exact (GoE.endsT okF hJ mixed_ok GoE.start (wHours_s11 B p day fd fh)
              ⟨⟨trivial, (by have t_ := rSame (hoursL p day true 0) (hoursL p day true 0); rw [q5] at t_; exact t_)⟩, hp9⟩).cast (by first | rfl | (simp [*]; done) | (simp_all []; done) | (simp_all []; omega))
       | false =>
         have hp11 : AllP (wHours_p11 B p day fd fh) := by
          try have g1 := inB_iff.1 ‹inB day 0 _ = true›
          try have g2 := inB_iff.1 ‹inB fd 0 _ = true›
          try have g3 := inB_iff.1 ‹inB fh 0 _ = true›
          exact ⟨⟨trivial, (by have t_ := pHours (p) (day); rw [q2, q3] at t_; exact t_)⟩, hp1⟩
         cases q4 : inB fd 0 ((↑p.swell.length : Int) - 1) with
         | true =>
           cases q5 : inB fh 0 23 with
           | true =>
             cases q6 : Option.isSome (scanK p (fd * 24 + fh) 0) with
             | true =>
               try have g1 := inB_iff.1 ‹inB day 0 _ = true›
               try have g2 := inB_iff.1 ‹inB fd 0 _ = true›
               try have g3 := inB_iff.1 ‹inB fh 0 _ = true›
               exact (GoE.endsT okF hJ mixed_ok GoE.start (wHours_s12 B p day fd fh)
                ⟨⟨trivial, known⟩, ⟨(by first | rfl | simp [eqq_eq]), ⟨⟨trivial, (by have t_ := rNext2 (p) (fd) (fh) (by first | with_reducible assumption | omega | simp_all) (by first | with_reducible assumption | omega | simp_all) (by first | with_reducible assumption | omega | simp_all); rw [q6] at t_; exact t_)⟩, ⟨⟨trivial, (by have t_ := rCall (p) (fd) (fh); rw [q4, q5] at t_; exact t_)⟩, ⟨⟨trivial, (by have t_ := rPass (p); rw [q2] at t_; exact t_)⟩, ⟨⟨trivial, (by have t_ := rDay (p) (day); rw [q3] at t_; exact t_)⟩, ⟨⟨trivial, (by have t_ := rPass (p); rw [q2] at t_; exact t_)⟩, ⟨⟨trivial, (by have t_ := rPass (p); rw [q2] at t_; exact t_)⟩, ⟨⟨trivial, (by have t_ := pNext (p) (fd) (fh); rw [q2, q4, q5, q6] at t_; exact t_)⟩, hp11⟩⟩⟩⟩⟩⟩⟩⟩⟩).cast rfl
             | false =>
               try have g1 := inB_iff.1 ‹inB day 0 _ = true›
               try have g2 := inB_iff.1 ‹inB fd 0 _ = true›
               try have g3 := inB_iff.1 ‹inB fh 0 _ = true›
               exact (GoE.endsT okF hJ mixed_ok GoE.start (wHours_s13 B p day fd fh)
                ⟨⟨trivial, known⟩, ⟨⟨trivial, (by have t_ := rNext2 (p) (fd) (fh) (by first | with_reducible assumption | omega | simp_all) (by first | with_reducible assumption | omega | simp_all) (by first | with_reducible assumption | omega | simp_all); rw [q6] at t_; exact t_)⟩, ⟨⟨trivial, (by have t_ := rCall (p) (fd) (fh); rw [q4, q5] at t_; exact t_)⟩, ⟨⟨trivial, (by have t_ := rPass (p); rw [q2] at t_; exact t_)⟩, ⟨⟨trivial, (by have t_ := rDay (p) (day); rw [q3] at t_; exact t_)⟩, ⟨⟨trivial, (by have t_ := rPass (p); rw [q2] at t_; exact t_)⟩, ⟨⟨trivial, (by have t_ := rPass (p); rw [q2] at t_; exact t_)⟩, ⟨⟨trivial, (by have t_ := pNext (p) (fd) (fh); rw [q2, q4, q5, q6] at t_; exact t_)⟩, hp11⟩⟩⟩⟩⟩⟩⟩⟩).cast rfl
           | false =>
             try have g1 := inB_iff.1 ‹inB day 0 _ = true›
             try have g2 := inB_iff.1 ‹inB fd 0 _ = true›
             try have g3 := inB_iff.1 ‹inB fh 0 _ = true›
             exact (GoE.endsT okF hJ mixed_ok GoE.start (wHours_s14 B p day fd fh)
              ⟨⟨trivial, known⟩, ⟨⟨trivial, (by have t_ := rCall (p) (fd) (fh); rw [q4, q5] at t_; exact t_)⟩, ⟨⟨trivial, (by have t_ := rPass (p); rw [q2] at t_; exact t_)⟩, ⟨⟨trivial, (by have t_ := rDay (p) (day); rw [q3] at t_; exact t_)⟩, ⟨⟨trivial, (by have t_ := rPass (p); rw [q2] at t_; exact t_)⟩, ⟨⟨trivial, (by have t_ := rPass (p); rw [q2] at t_; exact t_)⟩, ⟨⟨trivial, (by have t_ := pNext (p) (fd) (fh); rw [q2, q4, q5] at t_; exact t_)⟩, hp11⟩⟩⟩⟩⟩⟩⟩).cast rfl
         | false =>
           try have g1 := inB_iff.1 ‹inB day 0 _ = true›
           try have g2 := inB_iff.1 ‹inB fd 0 _ = true›
           try have g3 := inB_iff.1 ‹inB fh 0 _ = true›
           exact (GoE.endsT okF hJ mixed_ok GoE.start (wHours_s15 B p day fd fh)
            ⟨⟨trivial, known⟩, ⟨⟨trivial, (by have t_ := rCall (p) (fd) (fh); rw [q4] at t_; exact t_)⟩, ⟨⟨trivial, (by have t_ := rPass (p); rw [q2] at t_; exact t_)⟩, ⟨⟨trivial, (by have t_ := rDay (p) (day); rw [q3] at t_; exact t_)⟩, ⟨⟨trivial, (by have t_ := rPass (p); rw [q2] at t_; exact t_)⟩, ⟨⟨trivial, (by have t_ := rPass (p); rw [q2] at t_; exact t_)⟩, ⟨⟨trivial, (by have t_ := pNext (p) (fd) (fh); rw [q2, q4] at t_; exact t_)⟩, hp11⟩⟩⟩⟩⟩⟩⟩).cast rfl
     | false =>
       try have g1 := inB_iff.1 ‹inB day 0 _ = true›
       try have g2 := inB_iff.1 ‹inB fd 0 _ = true›
       try have g3 := inB_iff.1 ‹inB fh 0 _ = true›
       exact (GoE.endsT okF hJ mixed_ok GoE.start (wHours_s16 B p day fd fh)
        ⟨⟨trivial, known⟩, ⟨⟨trivial, (by have t_ := rPass (p); rw [q2] at t_; exact t_)⟩, ⟨⟨trivial, (by have t_ := rPass (p); rw [q2] at t_; exact t_)⟩, ⟨⟨trivial, (by have t_ := rPass (p); rw [q2] at t_; exact t_)⟩, ⟨⟨trivial, (by have t_ := pNext (p) (fd) (fh); rw [q2] at t_; exact t_)⟩, ⟨⟨trivial, (by have t_ := pHours (p) (day); rw [q2] at t_; exact t_)⟩, ⟨⟨trivial, (by have t_ := pCheckPass (p); rw [q2] at t_; exact t_)⟩, hp0⟩⟩⟩⟩⟩⟩⟩).cast rfl
   | false =>
     try have g1 := inB_iff.1 ‹inB day 0 _ = true›
     try have g2 := inB_iff.1 ‹inB fd 0 _ = true›
     try have g3 := inB_iff.1 ‹inB fh 0 _ = true›
     exact (GoE.endsT okF hJ mixed_ok GoE.start (wHours_s17 B p day fd fh)
      ⟨⟨trivial, known⟩, ⟨⟨trivial, (by have t_ := lpass (p); rw [q0, q1] at t_; exact t_)⟩, trivial⟩⟩).cast rfl
 | false =>
   try have g1 := inB_iff.1 ‹inB day 0 _ = true›
   try have g2 := inB_iff.1 ‹inB fd 0 _ = true›
   try have g3 := inB_iff.1 ‹inB fh 0 _ = true›
   exact (GoE.endsT okF hJ mixed_ok GoE.start (wHours_s18 B p day fd fh)
    ⟨⟨trivial, known⟩, ⟨⟨trivial, (by have t_ := lpass (p); rw [q0] at t_; exact t_)⟩, trivial⟩⟩).cast rfl
theorem wHours (p : ShPass) (day fd fh : Int)  : PureC Tryz.prog J0 3 #[.agg (encPass p).toArray, .int .i64 day, callV fd fh] (.bool true) :=
 pureC_of (ts := [.agg (encPass p).toArray, .int .i64 day, callV fd fh]) J0_st (c0 := entryC Tryz.prog 3 134 (([.agg (encPass p).toArray, .int .i64 day, callV fd fh]).map (pushT 0 4))) (by kernel_rfl) (by kernel_rfl) fun B hJ => wHours_e p day fd fh  hJ
end Go.Proofs.YtiabgkiccaodmaaGreat

namespace Go.Proofs.YtiabgkiccaodmaaGreat
open Go Go.CE Go.RowKit
def shSpan : Sh := shS [.int, .int]
def shCall : Sh := shS [.int, .int]
def shPass : Sh := shS [.slice .int, .int, .int, .slice shSpan, shSpan]
theorem dec_span {cs : List Value} (h : shSpan.ok cs) : ∃ s : Span, cs = encSp s := by
 obtain ⟨_, _, rfl, ⟨a, _, rfl⟩, _, _, rfl, ⟨b, _, rfl⟩, rfl⟩ := h
 exact ⟨⟨a, b⟩, rfl⟩
theorem dec_pass {cs : List Value} (h : shPass.ok cs) : ∃ p : ShPass, cs = encPass p := by
 obtain ⟨_, _, rfl, h1, _, _, rfl, ⟨d, _, rfl⟩, _, _, rfl, ⟨f, _, rfl⟩, _, _, rfl, h4, _, _, rfl, h5, rfl⟩ := h
 obtain ⟨xs, rfl⟩ := sh_slice (fun _ => sh_int) h1
 obtain ⟨ss, rfl⟩ := sh_slice (fun _ => dec_span) h4
 obtain ⟨l, rfl⟩ := dec_span h5
 exact ⟨⟨xs, d, f, ss, l.lo, l.hi⟩, rfl⟩
theorem arg_pass {v : Value} (h : shPass.arg v) : ∃ p : ShPass, v = .agg (encPass p).toArray := by
 obtain ⟨cs, rfl, h⟩ := h
 obtain ⟨p, rfl⟩ := dec_pass h
 exact ⟨p, rfl⟩
theorem arg_span {v : Value} (h : shSpan.arg v) : ∃ a b : Int, v = callV a b := by
 obtain ⟨cs, rfl, h⟩ := h
 obtain ⟨s, rfl⟩ := dec_span h
 exact ⟨s.lo, s.hi, rfl⟩
theorem arg_int {v : Value} (h : Sh.arg .int v) : ∃ z : Int, v = .int .i64 z := by
 obtain ⟨z, _, h⟩ := h
 exact ⟨z, by simpa using h⟩
theorem hours_all : ∀ trs, ArgAll [shPass, .int, shCall] trs → PureC Tryz.prog J0 3 trs.toArray (.bool true) := by
 rintro trs ⟨t0, _, rfl, h0, t1, _, rfl, h1, t2, _, rfl, h2, rfl⟩
 obtain ⟨p, rfl⟩ := arg_pass h0
 obtain ⟨z, rfl⟩ := arg_int h1
 obtain ⟨a, b, rfl⟩ := arg_span h2
 exact wHours p z a b
end Go.Proofs.YtiabgkiccaodmaaGreat

namespace Go.Proofs.YtiabgkiccaodmaaGreat
open Go Go.CE Go.ChangeShapes Go.WideShapes Go.RowKit
set_option maxRecDepth 100000 in
theorem shipHours_lifted (os : Os) (started : os.Started) (H : Type) (enc : TypeId × Value → H) :
 ReturnsInHanded {} Tryz.checked os 3 .any (Rows.shipHoursSpec.pre6 enc Tryz.prog Tryz.f3 Rows.shipHoursRow.domain false) (Rows.shipHoursSpec.post enc Tryz.prog Tryz.f3 false true false false) := by
 refine returnsInHanded_of_change (C := Tryz.checked) (show ownKnob Tryz.prog.godebug = none by kernel_rfl) started (by kernel_rfl) Tryz.func3
  (ChangeSpec.witness6 (enc := enc) (C := Tryz.checked) false ⟨#[], #[Sh.zeroA shPass, Sh.zeroA .int, Sh.zeroA shCall], []⟩ 8 (by kernel_rfl) (by kernel_rfl) (by kernel_rfl) (by kernel_rfl)) ?_
 intro W base args ds gs before hval0 hW _ _
 have hval : ∀ (j : Nat) t v, Tryz.f3.params[j]? = some t → args[j]? = some v → Value.okWide Tryz.prog W .any base t v := hval0
 have hW' := hW
 obtain ⟨p, q, hA0, hV, rfl, _, _⟩ := hW
 obtain ⟨rfl, rfl⟩ := trodVars_none hV
 have hA1 : DataW.TrodAll enc Tryz.prog W 0 (fun _ => true) true Tryz.f3.params.toList args.toList ds p := hA0
 have hlt : ∀ x ∈ p, x.block < W.heap.size := fun x hx => hW'.lt x (by simpa using hx)
 have hch : chkAll Tryz.prog [shPass, .int, shCall] Tryz.f3.params.toList = true := by kernel_rfl
 have hrd : (Tryz.f3.params.toList.all fun t => Tryz.prog.readableRec t && decide (t < Tryz.prog.types.size)) = true := by kernel_rfl
 refine (law_call (J := J0) (ss := [shPass, .int, shCall]) trivial hch hA1 (fun j t v h1 h2 => hval j t v (by simpa using h1) h2) hours_all).mono fun e W' ⟨he, hB⟩ => ?_
 subst he
 have hB2 := trodAll_below (show laidOutB Tryz.prog = true by kernel_rfl) hB _ _ _ _ hrd hA1 hlt
 have hA : DataW.TrodAll enc Tryz.prog W 0 (fun _ => true) true Tryz.f3.params.toList args.toList ds p := hA1
 rw [Tryz.params3] at hA
 simp only [List.toList_toArray] at hA
 have hA := hA
 obtain ⟨v0, vs0, d0, ds0, p0, q0, _, rfl, _, h0, _⟩ := CE.trodAll_cons hA
 obtain ⟨v1, vs1, d1, ds1, p1, q1, _, rfl, _, h1, _⟩ := CE.trodAll_cons h0
 obtain ⟨v2, vs2, d2, ds2, p2, q2, _, rfl, _, h2, _⟩ := CE.trodAll_cons h1
 obtain ⟨_, rfl, _⟩ := CE.trodAll_nil h2
 exact ⟨_, rfl, _, _, _, [], _, [], hW', trodAll_mk1 (shut_bool Tryz.underlying4 _), hB2, rfl, hB.frame _, fun h => by cases h⟩
theorem shipHours_row : Rows.ShipHoursSaid :=
 OpenClaim.holds_of_wide 3 Tryz.f3 rfl rfl rfl rfl rfl rfl rfl ⟨rfl, rfl, rfl, rfl, rfl⟩ rfl rfl rfl rfl rfl (by kernel_rfl) Tryz.func3 (by kernel_rfl)
  (of_decide_eq_true (by kernel_rfl)) (by unfold Func.isWrapper; first | (rw [if_pos (by decide +kernel)]; kernel_rfl) | (rw [if_neg (by decide +kernel)]; exact ⟨rfl, rfl⟩))
  (fun os started H enc _ => shipHours_lifted os started H enc)
end Go.Proofs.YtiabgkiccaodmaaGreat
