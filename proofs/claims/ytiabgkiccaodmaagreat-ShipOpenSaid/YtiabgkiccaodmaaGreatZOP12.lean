/- ShipOpen: what the law returns. -/
import Derived.Test.YtiabgkiccaodmaaGreatZOP11
set_option linter.all false
namespace Go.Proofs.YtiabgkiccaodmaaGreat
open Go Go.CE Go.RowKit
abbrev hiB (p : ShPass) (d h : Int) : Bool := goesB p d h (p.swell.getD d.toNat default).hi
def atB (p : ShPass) (b j : Int) : Bool := hiB p ((b + j).tdiv 24) ((b + j).tmod 24)
theorem scan_spec (p : ShPass) (b : Int) : ∀ (m : Nat) (k0 : Int), (p.swell.length * 24 - b - k0).toNat = m → 
 (∀ k, scanK p b k0 = some k → k0 ≤ k ∧ k < p.swell.length * 24 - b ∧ atB p b k = true ∧ ∀ j, k0 ≤ j → j < k → atB p b j = false) ∧ (scanK p b k0 = none → ∀ j, k0 ≤ j → j < p.swell.length * 24 - b → atB p b j = false) := by
 intro m
 induction m with
 | zero =>
   intro k0 hm
   rw [scanK_nil (by omega)]
   exact ⟨fun k h => (by cases h), fun _ j h1 h2 => (by omega)⟩
 | succ m ih =>
   intro k0 hm
   rw [scanK_cons (by omega)]
   obtain ⟨h1, h2⟩ := ih (k0 + 1) (by omega)
   cases hq : atB p b k0 with
   | true =>
     have hq' : goesB p ((b + k0).tdiv 24) ((b + k0).tmod 24) (p.swell.getD ((b + k0).tdiv 24).toNat default).hi = true := hq
     rw [if_pos hq']
     exact ⟨fun k h => (by cases h; exact ⟨by omega, by omega, hq, fun j h1 h2 => (by omega)⟩), fun h => (by cases h)⟩
   | false =>
     have hq' : goesB p ((b + k0).tdiv 24) ((b + k0).tmod 24) (p.swell.getD ((b + k0).tdiv 24).toNat default).hi = false := hq
     rw [if_neg (by rw [hq']; decide)]
     refine ⟨fun k h => ?_, fun h j hj1 hj2 => ?_⟩
     ·obtain ⟨a1, a2, a3, a4⟩ := h1 k h
      refine ⟨by omega, a2, a3, fun j hj1 hj2 => ?_⟩
      by_cases e : j = k0
      ·rw [e]; exact hq
      ·exact a4 j (by omega) hj2
     ·by_cases e : j = k0
      ·rw [e]; exact hq
      ·exact h2 h j (by omega) hj2
def nF (p : ShPass) (fd fh : Int) : Bool := (scanK p (fd * 24 + fh) 0).isSome
def nD (p : ShPass) (fd fh : Int) : Int := (fd * 24 + fh + (scanK p (fd * 24 + fh) 0).getD 0).tdiv 24
def nH (p : ShPass) (fd fh : Int) : Int := (fd * 24 + fh + (scanK p (fd * 24 + fh) 0).getD 0).tmod 24
theorem atB_pos {p : ShPass} {b d h : Int} (hd : 0 ≤ d) (h0 : 0 ≤ h) (h1 : h ≤ 23) : atB p b (d * 24 + h - b) = hiB p d h := by
 obtain ⟨e1, e2⟩ := conv_pos (b := b) (k := d * 24 + h - b) (d := d) (h := h) (by omega) hd h0 (by omega)
 unfold atB
 rw [e1, e2]
theorem nx_facts {p : ShPass} {fd fh : Int} (hd : 0 ≤ fd ∧ fd < p.swell.length) (hh : 0 ≤ fh ∧ fh ≤ 23) (hf : nF p fd fh = true) : (0 ≤ nD p fd fh ∧ nD p fd fh < p.swell.length ∧ 0 ≤ nH p fd fh ∧ nH p fd fh ≤ 23 ∧ fd * 24 + fh ≤ nD p fd fh * 24 + nH p fd fh) ∧ hiB p (nD p fd fh) (nH p fd fh) = true ∧
 ∀ d h : Int, 0 ≤ d → 0 ≤ h → h ≤ 23 → fd * 24 + fh ≤ d * 24 + h → d * 24 + h < nD p fd fh * 24 + nH p fd fh → hiB p d h = false := by
 unfold nF at hf
 cases hs : scanK p (fd * 24 + fh) 0 with
 | none => rw [hs] at hf; cases hf
 | some k =>
   obtain ⟨a1, a2, a3, a4⟩ := (scan_spec p (fd * 24 + fh) _ 0 rfl).1 k hs
   have e1 : nD p fd fh = (fd * 24 + fh + k) / 24 := by unfold nD; rw [hs]; exact Int.tdiv_eq_ediv_of_nonneg (by simp; omega)
   have e2 : nH p fd fh = (fd * 24 + fh + k) % 24 := by unfold nH; rw [hs]; exact Int.tmod_eq_emod_of_nonneg (by simp; omega)
   refine ⟨by omega, ?_, fun d h h1 h2 h3 h4 h5 => ?_⟩
   ·have := a3
    unfold atB at this
    unfold nD nH
    rw [hs]
    exact this
   ·rw [← atB_pos (b := fd * 24 + fh) h1 h2 h3]
    exact a4 _ (by omega) (by omega)
theorem nx_none {p : ShPass} {fd fh : Int} (hf : nF p fd fh = false) {d h : Int} (h0 : 0 ≤ d) (hl : d < p.swell.length) (h1 : 0 ≤ h) (h2 : h ≤ 23) (h3 : fd * 24 + fh ≤ d * 24 + h) : hiB p d h = false := by
 unfold nF at hf
 cases hs : scanK p (fd * 24 + fh) 0 with
 | some k => rw [hs] at hf; cases hf
 | none =>
   rw [← atB_pos (b := fd * 24 + fh) h0 h1 h2]
   exact (scan_spec p (fd * 24 + fh) _ 0 rfl).2 hs _ (by omega) (by omega)
theorem goes_mono {p : ShPass} {d h s s' : Int} (hs : s ≤ s') (h1 : goesB p d h s' = true) : goesB p d h s = true := by
 unfold goesB at *
 simp only [Bool.and_eq_true, decide_eq_true_eq] at *
 exact ⟨h1.1, by omega⟩
theorem no_tf {b : Bool} (h1 : b = true) (h2 : b = false) : False := by rw [h1] at h2; cases h2
theorem hoursL_len (p : ShPass) (d : Int) (s : Bool) : (hoursL p d s 0).length ≤ 24 := by
 unfold hoursL
 refine Nat.le_trans (List.length_filter_le _ _) ?_
 simp [upI]
theorem hoursL_has (p : ShPass) (d h : Int) (s : Bool) (h0 : 0 ≤ h ∧ h ≤ 23) : (hoursL p d s 0).any (fun y => decide (y = h)) = goesB p d h (swellOf p d s) := by
 unfold hoursL
 cases hq : goesB p d h (swellOf p d s) with
 | true =>
   rw [List.any_eq_true]
   exact ⟨h, List.mem_filter.2 ⟨mem_upI.2 (by omega), hq⟩, by simp⟩
 | false =>
   rw [List.any_eq_false]
   intro x hx
   obtain ⟨_, h2⟩ := List.mem_filter.1 hx
   simp only [decide_eq_true_eq]
   intro e
   subst e
   rw [hq] at h2
   cases h2
theorem rHasH (p : ShPass) (d h : Int) (h0 : 0 ≤ h ∧ h ≤ 23) : PureC Tryz.prog J0 28 #[slI (hoursL p d true 0), .int .i64 h] (.bool (goesB p d h (p.swell.getD d.toNat default).hi)) := by
 have := rHas (hoursL p d true 0) h
 rw [hoursL_has p d h true h0] at this
 exact this
theorem rHasL (p : ShPass) (d h : Int) (h0 : 0 ≤ h ∧ h ≤ 23) : PureC Tryz.prog J0 28 #[slI (hoursL p d false 0), .int .i64 h] (.bool (goesB p d h (p.swell.getD d.toNat default).lo)) := by
 have := rHas (hoursL p d false 0) h
 rw [hoursL_has p d h false h0] at this
 exact this
theorem pNext3 (p : ShPass) (d h : Int) : PureC Tryz.prog J0 20 #[.agg (encPass p).toArray, callV d h] (.tuple #[callV (if (passB p && (inB d 0 (p.swell.length - 1) && inB h 0 23)) && nF p d h then nD p d h else 0) (if (passB p && (inB d 0 (p.swell.length - 1) && inB h 0 23)) && nF p d h then nH p d h else 0), .int .i64 (if (passB p && (inB d 0 (p.swell.length - 1) && inB h 0 23)) = true then (if nF p d h = true then 0 else 5) else 2)]) := pNext p d h
noncomputable def wOpen_z0 (p : ShPass) (cd ch swell : Int) : Array Value := #[Value.agg #[slT p.tides.length (rowL encI p.tides), Value.int IntKind.i64 p.depth, Value.int IntKind.i64 p.draft, slT p.swell.length (rowL encSp p.swell), Value.int IntKind.i64 p.llo, Value.int IntKind.i64 p.lhi], Value.agg #[Value.int IntKind.i64 cd, Value.int IntKind.i64 ch], Value.int IntKind.i64 swell]
noncomputable def wOpen_z1 (p : ShPass) (fd fh : Int) : Array Value := #[Value.agg #[slT p.tides.length (rowL encI p.tides), Value.int IntKind.i64 p.depth, Value.int IntKind.i64 p.draft, slT p.swell.length (rowL encSp p.swell), Value.int IntKind.i64 p.llo, Value.int IntKind.i64 p.lhi], Value.agg #[Value.int IntKind.i64 (nD p fd fh), Value.int IntKind.i64 (nH p fd fh)]]
noncomputable def wOpen_z2 (p : ShPass) (fd fh : Int) : Array Value := #[Value.agg #[slT p.tides.length (rowL encI p.tides), Value.int IntKind.i64 p.depth, Value.int IntKind.i64 p.draft, slT p.swell.length (rowL encSp p.swell), Value.int IntKind.i64 p.llo, Value.int IntKind.i64 p.lhi], Value.agg #[Value.int IntKind.i64 fd, Value.int IntKind.i64 fh]]
noncomputable def wOpen_z3 (p : ShPass) (cd ch : Int) : Array Value := #[Value.agg #[slT p.tides.length (rowL encI p.tides), Value.int IntKind.i64 p.depth, Value.int IntKind.i64 p.draft, slT p.swell.length (rowL encSp p.swell), Value.int IntKind.i64 p.llo, Value.int IntKind.i64 p.lhi], Value.agg #[Value.int IntKind.i64 cd, Value.int IntKind.i64 ch]]
noncomputable def wOpen_z4 (p : ShPass) (fd fh : Int) : Array Value := #[Value.agg #[slT p.tides.length (rowL encI p.tides), Value.int IntKind.i64 p.depth, Value.int IntKind.i64 p.draft, slT p.swell.length (rowL encSp p.swell), Value.int IntKind.i64 p.llo, Value.int IntKind.i64 p.lhi], Value.int IntKind.i64 (nD p fd fh)]
noncomputable def wOpen_z5 (p : ShPass) : Array Value := #[Value.agg #[slT p.tides.length (rowL encI p.tides), Value.int IntKind.i64 p.depth, Value.int IntKind.i64 p.draft, slT p.swell.length (rowL encSp p.swell), Value.int IntKind.i64 p.llo, Value.int IntKind.i64 p.lhi]]
noncomputable def wOpen_z6 (p : ShPass) (fd fh : Int) : Value := (Value.tuple #[slT (List.length (hoursL p (nD p fd fh) true 0)) (rowL encI (hoursL p (nD p fd fh) true 0)), slT (List.length (hoursL p (nD p fd fh) false 0)) (rowL encI (hoursL p (nD p fd fh) false 0)), Value.int IntKind.i64 0])
noncomputable def wOpen_z7 (p : ShPass) (cd : Int) : Value := (Value.tuple #[slT (List.length (hoursL p cd true 0)) (rowL encI (hoursL p cd true 0)), slT (List.length (hoursL p cd false 0)) (rowL encI (hoursL p cd false 0)), Value.int IntKind.i64 0])
noncomputable def wOpen_z8 (p : ShPass) (cd : Int) : Array Value := #[Value.int IntKind.i64 (Span.lo (List.getD p.swell cd.toNat default)), Value.int IntKind.i64 (Span.hi (List.getD p.swell cd.toNat default))]
noncomputable def wOpen_z9 (p : ShPass) (fd fh : Int) : Array Value := #[slT (List.length (hoursL p (nD p fd fh) true 0)) (rowL encI (hoursL p (nD p fd fh) true 0)), Value.int IntKind.i64 (nH p fd fh)]
noncomputable def wOpen_z10 (p : ShPass) (fd fh : Int) : Value := (Value.tuple #[Value.agg #[Value.int IntKind.i64 (nD p fd fh), Value.int IntKind.i64 (nH p fd fh)], Value.int IntKind.i64 0])
noncomputable def wOpen_z11  : Value := (Value.tuple #[Value.agg #[Value.int IntKind.i64 0, Value.int IntKind.i64 0], Value.int IntKind.i64 5])
noncomputable def wOpen_z12 (p : ShPass) (cd ch : Int) : Array Value := #[slT (List.length (hoursL p cd false 0)) (rowL encI (hoursL p cd false 0)), Value.int IntKind.i64 ch]
noncomputable def wOpen_z13 (p : ShPass) (cd ch : Int) : Array Value := #[slT (List.length (hoursL p cd true 0)) (rowL encI (hoursL p cd true 0)), Value.int IntKind.i64 ch]
noncomputable def wOpen_p0 (B : Lo) (p : ShPass) (cd ch swell fd fh : Int) : List Prop := [AllP [] ∧ PureC Tryz.prog J0 16 (wOpen_z5 p) (Value.bool true)] ++ ([] : List Prop)
noncomputable def wOpen_q0 (p : ShPass) (cd ch swell fd fh : Int) : ScriptT := [(5, HintT.pure (Value.bool true) [])]
noncomputable def wOpen_p1 (B : Lo) (p : ShPass) (cd ch swell fd fh : Int) : List Prop := [AllP [] ∧ PureC Tryz.prog J0 21 (wOpen_z5 p) (Value.bool true)] ++ wOpen_p0 B p cd ch swell fd fh
noncomputable def wOpen_q1 (p : ShPass) (cd ch swell fd fh : Int) : ScriptT := wOpen_q0 p cd ch swell fd fh ++ [(9, HintT.pure (Value.bool true) [])]
noncomputable def wOpen_p2 (B : Lo) (p : ShPass) (cd ch swell fd fh : Int) : List Prop := [AllP [] ∧ PureC Tryz.prog J0 25 (wOpen_z3 p cd ch) (Value.bool true)] ++ wOpen_p1 B p cd ch swell fd fh
noncomputable def wOpen_q2 (p : ShPass) (cd ch swell fd fh : Int) : ScriptT := wOpen_q1 p cd ch swell fd fh ++ [(15, HintT.pure (Value.bool true) [])]
noncomputable def wOpen_p3 (B : Lo) (p : ShPass) (cd ch swell fd fh : Int) : List Prop := [AllP [] ∧ PureC Tryz.prog J0 25 (wOpen_z2 p fd fh) (Value.bool true)] ++ wOpen_p2 B p cd ch swell fd fh
noncomputable def wOpen_q3 (p : ShPass) (cd ch swell fd fh : Int) : ScriptT := wOpen_q2 p cd ch swell fd fh ++ [(21, HintT.pure (Value.bool true) [])]
noncomputable def wOpen_p4 (B : Lo) (p : ShPass) (cd ch swell fd fh : Int) : List Prop := [cd = (↑cd.toNat : Int) ∧ Int.toNat cd < List.length p.swell ∧ Array.extract (rowL encSp p.swell) (Int.toNat cd * TypeInfo.size Tryz.t25) (Int.toNat cd * TypeInfo.size Tryz.t25 + TypeInfo.size Tryz.t25) = (wOpen_z8 p cd), AllP [] ∧ PureC Tryz.prog J0 27 (wOpen_z0 p cd ch swell) (Value.tuple #[Value.bool true, Value.int IntKind.i64 0])] ++ wOpen_p3 B p cd ch swell fd fh
noncomputable def wOpen_q4 (p : ShPass) (cd ch swell fd fh : Int) : ScriptT := wOpen_q3 p cd ch swell fd fh ++ [(27, HintT.pure (Value.tuple #[Value.bool true, Value.int IntKind.i64 0]) []), (38, HintT.tidx cd.toNat (wOpen_z8 p cd)), (41, hvF), (48, HintT.tidx cd.toNat (wOpen_z8 p cd)), (51, hvF), (56, HintT.pure (wOpen_z7 p cd) [])]
noncomputable def wOpen_p5 (B : Lo) (p : ShPass) (cd ch swell fd fh : Int) : List Prop := [cd = (↑cd.toNat : Int) ∧ Int.toNat cd < List.length p.swell ∧ Array.extract (rowL encSp p.swell) (Int.toNat cd * TypeInfo.size Tryz.t25) (Int.toNat cd * TypeInfo.size Tryz.t25 + TypeInfo.size Tryz.t25) = (wOpen_z8 p cd), ltq swell (Span.lo (List.getD p.swell cd.toNat default)) = false] ++ wOpen_p4 B p cd ch swell fd fh
noncomputable def wOpen_p6 (B : Lo) (p : ShPass) (cd ch swell fd fh : Int) : List Prop := [AllP [] ∧ PureC Tryz.prog J0 19 #[Value.agg #[slT p.tides.length (rowL encI p.tides), Value.int IntKind.i64 p.depth, Value.int IntKind.i64 p.draft, slT p.swell.length (rowL encSp p.swell), Value.int IntKind.i64 p.llo, Value.int IntKind.i64 p.lhi], Value.int IntKind.i64 cd] (wOpen_z7 p cd), ltq (Span.hi (List.getD p.swell cd.toNat default)) swell = false] ++ wOpen_p5 B p cd ch swell fd fh
noncomputable def wOpen_p7 (B : Lo) (p : ShPass) (cd ch swell fd fh : Int) : List Prop := [AllP [] ∧ PureC Tryz.prog J0 20 (wOpen_z2 p fd fh) (wOpen_z10 p fd fh)] ++ wOpen_p6 B p cd ch swell fd fh
noncomputable def wOpen_q7 (p : ShPass) (cd ch swell fd fh : Int) : ScriptT := wOpen_q4 p cd ch swell fd fh ++ [(66, HintT.pure (wOpen_z10 p fd fh) []), (82, hvF), (87, hvF)]
noncomputable def wOpen_p8 (B : Lo) (p : ShPass) (cd ch swell fd fh : Int) : List Prop := [ltq 24 (↑(List.length (hoursL p cd true 0)) : Int) = false] ++ wOpen_p7 B p cd ch swell fd fh
noncomputable def wOpen_p9 (B : Lo) (p : ShPass) (cd ch swell fd fh : Int) : List Prop := [ltq 24 (↑(List.length (hoursL p cd false 0)) : Int) = false] ++ wOpen_p8 B p cd ch swell fd fh
noncomputable def wOpen_p10 (B : Lo) (p : ShPass) (cd ch swell fd fh : Int) : List Prop := [AllP [] ∧ PureC Tryz.prog J0 28 (wOpen_z13 p cd ch) (Value.bool true)] ++ wOpen_p9 B p cd ch swell fd fh
noncomputable def wOpen_q10 (p : ShPass) (cd ch swell fd fh : Int) : ScriptT := wOpen_q7 p cd ch swell fd fh ++ [(92, HintT.pure (Value.bool true) []), (96, HintT.pure (Value.bool true) [])]
noncomputable def wOpen_p11 (B : Lo) (p : ShPass) (cd ch swell fd fh : Int) : List Prop := [AllP [] ∧ PureC Tryz.prog J0 28 (wOpen_z12 p cd ch) (Value.bool true)] ++ wOpen_p10 B p cd ch swell fd fh
noncomputable def wOpen_p12 (B : Lo) (p : ShPass) (cd ch swell fd fh : Int) : List Prop := [ltq fd cd = true] ++ wOpen_p11 B p cd ch swell fd fh
noncomputable def wOpen_q12 (p : ShPass) (cd ch swell fd fh : Int) : ScriptT := wOpen_q10 p cd ch swell fd fh ++ [(122, hvT), (142, HintT.pure (Value.bool true) []), (149, hvF)]
noncomputable def wOpen_p13 (B : Lo) (p : ShPass) (cd ch swell fd fh : Int) : List Prop := [AllP [] ∧ PureC Tryz.prog J0 25 (wOpen_z1 p fd fh) (Value.bool true)] ++ wOpen_p12 B p cd ch swell fd fh
noncomputable def wOpen_p14 (B : Lo) (p : ShPass) (cd ch swell fd fh : Int) : List Prop := [ltq (nD p fd fh) fd = false] ++ wOpen_p13 B p cd ch swell fd fh
set_option maxRecDepth 100000 in
theorem wOpen_s0 (B : Lo) (p : ShPass) (cd ch swell fd fh : Int) : endT (srunT Tryz.prog (okFn Tryz.prog) J0 B 50 1 (entryC Tryz.prog 4 248 (([.agg (encPass p).toArray, callV cd ch, .int .i64 swell, callV fd fh]).map (pushT 0 4))) H00 1
 (wOpen_q12 p cd ch swell fd fh ++ [(156, hvT), (162, hvF), (168, HintT.pure (wOpen_z6 p fd fh) []), (180, hvF), (186, hvF), (201, hvT), (207, HintT.pure (Value.bool true) []), (220, HintT.pure (Value.bool true) [])]) 0 [] []) [] = some (Value.bool true,
 [AllP [] ∧ PureC Tryz.prog J0 17 #[] (Value.bool true), AllP [] ∧ PureC Tryz.prog J0 28 (wOpen_z9 p fd fh) (Value.bool true), (!ltq 24 (↑(List.length (hoursL p (nD p fd fh) true 0)) : Int)) = true, eqq cd (nD p fd fh) = false, ltq cd (nD p fd fh) = false, AllP [] ∧ PureC Tryz.prog J0 19 (wOpen_z4 p fd fh) (wOpen_z6 p fd fh), ltq (nH p fd fh) fh = false, eqq (nD p fd fh) fd = true] ++ wOpen_p14 B p cd ch swell fd fh) := by kernel_rfl
noncomputable def wOpen_p15 (B : Lo) (p : ShPass) (cd ch swell fd fh : Int) : List Prop := [AllP [] ∧ PureC Tryz.prog J0 19 (wOpen_z4 p fd fh) (wOpen_z6 p fd fh), eqq (nD p fd fh) fd = false] ++ wOpen_p14 B p cd ch swell fd fh
noncomputable def wOpen_q15 (p : ShPass) (cd ch swell fd fh : Int) : ScriptT := wOpen_q12 p cd ch swell fd fh ++ [(156, hvF), (168, HintT.pure (wOpen_z6 p fd fh) []), (180, hvF)]
noncomputable def wOpen_p16 (B : Lo) (p : ShPass) (cd ch swell fd fh : Int) : List Prop := [ltq cd (nD p fd fh) = false] ++ wOpen_p15 B p cd ch swell fd fh
set_option maxRecDepth 100000 in
theorem wOpen_s1 (B : Lo) (p : ShPass) (cd ch swell fd fh : Int) : endT (srunT Tryz.prog (okFn Tryz.prog) J0 B 50 1 (entryC Tryz.prog 4 248 (([.agg (encPass p).toArray, callV cd ch, .int .i64 swell, callV fd fh]).map (pushT 0 4))) H00 1
 (wOpen_q15 p cd ch swell fd fh ++ [(186, hvT), (192, hvF), (201, hvT), (207, HintT.pure (Value.bool true) []), (220, HintT.pure (Value.bool true) [])]) 0 [] []) [] = some (Value.bool true,
 [AllP [] ∧ PureC Tryz.prog J0 17 #[] (Value.bool true), AllP [] ∧ PureC Tryz.prog J0 28 (wOpen_z9 p fd fh) (Value.bool true), (!ltq 24 (↑(List.length (hoursL p (nD p fd fh) true 0)) : Int)) = true, ltq ch (nH p fd fh) = false, eqq cd (nD p fd fh) = true] ++ wOpen_p16 B p cd ch swell fd fh) := by kernel_rfl
set_option maxRecDepth 100000 in
theorem wOpen_s2 (B : Lo) (p : ShPass) (cd ch swell fd fh : Int) : endT (srunT Tryz.prog (okFn Tryz.prog) J0 B 50 1 (entryC Tryz.prog 4 248 (([.agg (encPass p).toArray, callV cd ch, .int .i64 swell, callV fd fh]).map (pushT 0 4))) H00 1
 (wOpen_q15 p cd ch swell fd fh ++ [(186, hvF), (201, hvT), (207, HintT.pure (Value.bool true) []), (220, HintT.pure (Value.bool true) [])]) 0 [] []) [] = some (Value.bool true,
 [AllP [] ∧ PureC Tryz.prog J0 17 #[] (Value.bool true), AllP [] ∧ PureC Tryz.prog J0 28 (wOpen_z9 p fd fh) (Value.bool true), (!ltq 24 (↑(List.length (hoursL p (nD p fd fh) true 0)) : Int)) = true, eqq cd (nD p fd fh) = false] ++ wOpen_p16 B p cd ch swell fd fh) := by kernel_rfl
noncomputable def wOpen_p17 (B : Lo) (p : ShPass) (cd ch swell fd fh : Int) : List Prop := [ltq fd cd = false] ++ wOpen_p11 B p cd ch swell fd fh
noncomputable def wOpen_q17 (p : ShPass) (cd ch swell fd fh : Int) : ScriptT := wOpen_q10 p cd ch swell fd fh ++ [(122, hvF)]
noncomputable def wOpen_p18 (B : Lo) (p : ShPass) (cd ch swell fd fh : Int) : List Prop := [eqq cd fd = true] ++ wOpen_p17 B p cd ch swell fd fh
noncomputable def wOpen_q18 (p : ShPass) (cd ch swell fd fh : Int) : ScriptT := wOpen_q17 p cd ch swell fd fh ++ [(128, hvT)]
set_option maxRecDepth 100000 in
theorem wOpen_s3 (B : Lo) (p : ShPass) (cd ch swell fd fh : Int) : endT (srunT Tryz.prog (okFn Tryz.prog) J0 B 50 1 (entryC Tryz.prog 4 248 (([.agg (encPass p).toArray, callV cd ch, .int .i64 swell, callV fd fh]).map (pushT 0 4))) H00 1
 (wOpen_q18 p cd ch swell fd fh ++ [(134, hvT), (142, HintT.pure (Value.bool true) []), (149, hvF), (156, hvT), (162, hvF), (168, HintT.pure (wOpen_z6 p fd fh) []), (180, hvF), (186, hvT), (192, hvF), (201, hvT), (207, HintT.pure (Value.bool true) []), (220, HintT.pure (Value.bool true) [])]) 0 [] []) [] = some (Value.bool true,
 [AllP [] ∧ PureC Tryz.prog J0 17 #[] (Value.bool true), AllP [] ∧ PureC Tryz.prog J0 28 (wOpen_z9 p fd fh) (Value.bool true), (!ltq 24 (↑(List.length (hoursL p (nD p fd fh) true 0)) : Int)) = true, ltq ch (nH p fd fh) = false, eqq cd (nD p fd fh) = true, ltq cd (nD p fd fh) = false, AllP [] ∧ PureC Tryz.prog J0 19 (wOpen_z4 p fd fh) (wOpen_z6 p fd fh), ltq (nH p fd fh) fh = false, eqq (nD p fd fh) fd = true, ltq (nD p fd fh) fd = false, AllP [] ∧ PureC Tryz.prog J0 25 (wOpen_z1 p fd fh) (Value.bool true), (!ltq ch fh) = true] ++ wOpen_p18 B p cd ch swell fd fh) := by kernel_rfl
noncomputable def wOpen_p19 (B : Lo) (p : ShPass) (cd ch swell fd fh : Int) : List Prop := [(!ltq ch fh) = false] ++ wOpen_p18 B p cd ch swell fd fh
noncomputable def wOpen_q19 (p : ShPass) (cd ch swell fd fh : Int) : ScriptT := wOpen_q18 p cd ch swell fd fh ++ [(134, hvF), (142, HintT.pure (Value.bool true) []), (149, hvF)]
noncomputable def wOpen_p20 (B : Lo) (p : ShPass) (cd ch swell fd fh : Int) : List Prop := [AllP [] ∧ PureC Tryz.prog J0 25 (wOpen_z1 p fd fh) (Value.bool true)] ++ wOpen_p19 B p cd ch swell fd fh
noncomputable def wOpen_p21 (B : Lo) (p : ShPass) (cd ch swell fd fh : Int) : List Prop := [ltq (nD p fd fh) fd = false] ++ wOpen_p20 B p cd ch swell fd fh
set_option maxRecDepth 100000 in
theorem wOpen_s4 (B : Lo) (p : ShPass) (cd ch swell fd fh : Int) : endT (srunT Tryz.prog (okFn Tryz.prog) J0 B 50 1 (entryC Tryz.prog 4 248 (([.agg (encPass p).toArray, callV cd ch, .int .i64 swell, callV fd fh]).map (pushT 0 4))) H00 1
 (wOpen_q19 p cd ch swell fd fh ++ [(156, hvT), (162, hvF), (168, HintT.pure (wOpen_z6 p fd fh) []), (180, hvF), (186, hvT), (192, hvT), (201, hvT), (207, HintT.pure (Value.bool true) []), (220, HintT.pure (Value.bool true) [])]) 0 [] []) [] = some (Value.bool true,
 [AllP [] ∧ PureC Tryz.prog J0 17 #[] (Value.bool true), AllP [] ∧ PureC Tryz.prog J0 28 (wOpen_z9 p fd fh) (Value.bool true), (!ltq 24 (↑(List.length (hoursL p (nD p fd fh) true 0)) : Int)) = true, ltq ch (nH p fd fh) = true, eqq cd (nD p fd fh) = true, ltq cd (nD p fd fh) = false, AllP [] ∧ PureC Tryz.prog J0 19 (wOpen_z4 p fd fh) (wOpen_z6 p fd fh), ltq (nH p fd fh) fh = false, eqq (nD p fd fh) fd = true] ++ wOpen_p21 B p cd ch swell fd fh) := by kernel_rfl
set_option maxRecDepth 100000 in
theorem wOpen_s5 (B : Lo) (p : ShPass) (cd ch swell fd fh : Int) : endT (srunT Tryz.prog (okFn Tryz.prog) J0 B 50 1 (entryC Tryz.prog 4 248 (([.agg (encPass p).toArray, callV cd ch, .int .i64 swell, callV fd fh]).map (pushT 0 4))) H00 1
 (wOpen_q19 p cd ch swell fd fh ++ [(156, hvF), (168, HintT.pure (wOpen_z6 p fd fh) []), (180, hvT), (201, hvT), (207, HintT.pure (Value.bool true) []), (220, HintT.pure (Value.bool true) [])]) 0 [] []) [] = some (Value.bool true,
 [AllP [] ∧ PureC Tryz.prog J0 17 #[] (Value.bool true), AllP [] ∧ PureC Tryz.prog J0 28 (wOpen_z9 p fd fh) (Value.bool true), (!ltq 24 (↑(List.length (hoursL p (nD p fd fh) true 0)) : Int)) = true, ltq cd (nD p fd fh) = true, AllP [] ∧ PureC Tryz.prog J0 19 (wOpen_z4 p fd fh) (wOpen_z6 p fd fh), eqq (nD p fd fh) fd = false] ++ wOpen_p21 B p cd ch swell fd fh) := by kernel_rfl
noncomputable def wOpen_p22 (B : Lo) (p : ShPass) (cd ch swell fd fh : Int) : List Prop := [eqq cd fd = false] ++ wOpen_p17 B p cd ch swell fd fh
noncomputable def wOpen_q22 (p : ShPass) (cd ch swell fd fh : Int) : ScriptT := wOpen_q17 p cd ch swell fd fh ++ [(128, hvF), (142, HintT.pure (Value.bool true) []), (149, hvF)]
noncomputable def wOpen_p23 (B : Lo) (p : ShPass) (cd ch swell fd fh : Int) : List Prop := [AllP [] ∧ PureC Tryz.prog J0 25 (wOpen_z1 p fd fh) (Value.bool true)] ++ wOpen_p22 B p cd ch swell fd fh
noncomputable def wOpen_p24 (B : Lo) (p : ShPass) (cd ch swell fd fh : Int) : List Prop := [ltq (nD p fd fh) fd = false] ++ wOpen_p23 B p cd ch swell fd fh
set_option maxRecDepth 100000 in
theorem wOpen_s6 (B : Lo) (p : ShPass) (cd ch swell fd fh : Int) : endT (srunT Tryz.prog (okFn Tryz.prog) J0 B 50 1 (entryC Tryz.prog 4 248 (([.agg (encPass p).toArray, callV cd ch, .int .i64 swell, callV fd fh]).map (pushT 0 4))) H00 1
 (wOpen_q22 p cd ch swell fd fh ++ [(156, hvT), (162, hvF), (168, HintT.pure (wOpen_z6 p fd fh) []), (180, hvT), (201, hvT), (207, HintT.pure (Value.bool true) []), (220, HintT.pure (Value.bool true) [])]) 0 [] []) [] = some (Value.bool true,
 [AllP [] ∧ PureC Tryz.prog J0 17 #[] (Value.bool true), AllP [] ∧ PureC Tryz.prog J0 28 (wOpen_z9 p fd fh) (Value.bool true), (!ltq 24 (↑(List.length (hoursL p (nD p fd fh) true 0)) : Int)) = true, ltq cd (nD p fd fh) = true, AllP [] ∧ PureC Tryz.prog J0 19 (wOpen_z4 p fd fh) (wOpen_z6 p fd fh), ltq (nH p fd fh) fh = false, eqq (nD p fd fh) fd = true] ++ wOpen_p24 B p cd ch swell fd fh) := by kernel_rfl
set_option maxRecDepth 100000 in
theorem wOpen_s7 (B : Lo) (p : ShPass) (cd ch swell fd fh : Int) : endT (srunT Tryz.prog (okFn Tryz.prog) J0 B 50 1 (entryC Tryz.prog 4 248 (([.agg (encPass p).toArray, callV cd ch, .int .i64 swell, callV fd fh]).map (pushT 0 4))) H00 1
 (wOpen_q22 p cd ch swell fd fh ++ [(156, hvF), (168, HintT.pure (wOpen_z6 p fd fh) []), (180, hvT), (201, hvT), (207, HintT.pure (Value.bool true) []), (220, HintT.pure (Value.bool true) [])]) 0 [] []) [] = some (Value.bool true,
 [AllP [] ∧ PureC Tryz.prog J0 17 #[] (Value.bool true), AllP [] ∧ PureC Tryz.prog J0 28 (wOpen_z9 p fd fh) (Value.bool true), (!ltq 24 (↑(List.length (hoursL p (nD p fd fh) true 0)) : Int)) = true, ltq cd (nD p fd fh) = true, AllP [] ∧ PureC Tryz.prog J0 19 (wOpen_z4 p fd fh) (wOpen_z6 p fd fh), eqq (nD p fd fh) fd = false] ++ wOpen_p24 B p cd ch swell fd fh) := by kernel_rfl
noncomputable def wOpen_p25 (B : Lo) (p : ShPass) (cd ch swell fd fh : Int) : List Prop := [AllP [] ∧ PureC Tryz.prog J0 28 (wOpen_z13 p cd ch) (Value.bool false)] ++ wOpen_p9 B p cd ch swell fd fh
noncomputable def wOpen_q25 (p : ShPass) (cd ch swell fd fh : Int) : ScriptT := wOpen_q7 p cd ch swell fd fh ++ [(92, HintT.pure (Value.bool false) []), (96, HintT.pure (Value.bool true) [])]
noncomputable def wOpen_p26 (B : Lo) (p : ShPass) (cd ch swell fd fh : Int) : List Prop := [AllP [] ∧ PureC Tryz.prog J0 28 (wOpen_z12 p cd ch) (Value.bool true)] ++ wOpen_p25 B p cd ch swell fd fh
noncomputable def wOpen_p27 (B : Lo) (p : ShPass) (cd ch swell fd fh : Int) : List Prop := [ltq fd cd = true] ++ wOpen_p26 B p cd ch swell fd fh
noncomputable def wOpen_q27 (p : ShPass) (cd ch swell fd fh : Int) : ScriptT := wOpen_q25 p cd ch swell fd fh ++ [(122, hvT), (142, HintT.pure (Value.bool true) []), (149, hvF)]
noncomputable def wOpen_p28 (B : Lo) (p : ShPass) (cd ch swell fd fh : Int) : List Prop := [AllP [] ∧ PureC Tryz.prog J0 25 (wOpen_z1 p fd fh) (Value.bool true)] ++ wOpen_p27 B p cd ch swell fd fh
noncomputable def wOpen_p29 (B : Lo) (p : ShPass) (cd ch swell fd fh : Int) : List Prop := [ltq (nD p fd fh) fd = false] ++ wOpen_p28 B p cd ch swell fd fh
set_option maxRecDepth 100000 in
theorem wOpen_s8 (B : Lo) (p : ShPass) (cd ch swell fd fh : Int) : endT (srunT Tryz.prog (okFn Tryz.prog) J0 B 50 1 (entryC Tryz.prog 4 248 (([.agg (encPass p).toArray, callV cd ch, .int .i64 swell, callV fd fh]).map (pushT 0 4))) H00 1
 (wOpen_q27 p cd ch swell fd fh ++ [(156, hvT), (162, hvF), (168, HintT.pure (wOpen_z6 p fd fh) []), (180, hvF), (186, hvF), (201, hvT), (207, HintT.pure (Value.bool true) []), (220, HintT.pure (Value.bool true) [])]) 0 [] []) [] = some (Value.bool true,
 [AllP [] ∧ PureC Tryz.prog J0 17 #[] (Value.bool true), AllP [] ∧ PureC Tryz.prog J0 28 (wOpen_z9 p fd fh) (Value.bool true), (!ltq 24 (↑(List.length (hoursL p (nD p fd fh) true 0)) : Int)) = true, eqq cd (nD p fd fh) = false, ltq cd (nD p fd fh) = false, AllP [] ∧ PureC Tryz.prog J0 19 (wOpen_z4 p fd fh) (wOpen_z6 p fd fh), ltq (nH p fd fh) fh = false, eqq (nD p fd fh) fd = true] ++ wOpen_p29 B p cd ch swell fd fh) := by kernel_rfl
noncomputable def wOpen_p30 (B : Lo) (p : ShPass) (cd ch swell fd fh : Int) : List Prop := [AllP [] ∧ PureC Tryz.prog J0 19 (wOpen_z4 p fd fh) (wOpen_z6 p fd fh), eqq (nD p fd fh) fd = false] ++ wOpen_p29 B p cd ch swell fd fh
noncomputable def wOpen_q30 (p : ShPass) (cd ch swell fd fh : Int) : ScriptT := wOpen_q27 p cd ch swell fd fh ++ [(156, hvF), (168, HintT.pure (wOpen_z6 p fd fh) [])]
set_option maxRecDepth 100000 in
theorem wOpen_s9 (B : Lo) (p : ShPass) (cd ch swell fd fh : Int) : endT (srunT Tryz.prog (okFn Tryz.prog) J0 B 50 1 (entryC Tryz.prog 4 248 (([.agg (encPass p).toArray, callV cd ch, .int .i64 swell, callV fd fh]).map (pushT 0 4))) H00 1
 (wOpen_q30 p cd ch swell fd fh ++ [(180, hvT), (201, hvT), (207, HintT.pure (Value.bool true) []), (220, HintT.pure (Value.bool true) [])]) 0 [] []) [] = some (Value.bool true,
 [AllP [] ∧ PureC Tryz.prog J0 17 #[] (Value.bool true), AllP [] ∧ PureC Tryz.prog J0 28 (wOpen_z9 p fd fh) (Value.bool true), (!ltq 24 (↑(List.length (hoursL p (nD p fd fh) true 0)) : Int)) = true, ltq cd (nD p fd fh) = true] ++ wOpen_p30 B p cd ch swell fd fh) := by kernel_rfl
noncomputable def wOpen_p31 (B : Lo) (p : ShPass) (cd ch swell fd fh : Int) : List Prop := [ltq cd (nD p fd fh) = false] ++ wOpen_p30 B p cd ch swell fd fh
noncomputable def wOpen_q31 (p : ShPass) (cd ch swell fd fh : Int) : ScriptT := wOpen_q30 p cd ch swell fd fh ++ [(180, hvF)]
noncomputable def wOpen_p32 (B : Lo) (p : ShPass) (cd ch swell fd fh : Int) : List Prop := [eqq cd (nD p fd fh) = true] ++ wOpen_p31 B p cd ch swell fd fh
noncomputable def wOpen_q32 (p : ShPass) (cd ch swell fd fh : Int) : ScriptT := wOpen_q31 p cd ch swell fd fh ++ [(186, hvT)]
set_option maxRecDepth 100000 in
theorem wOpen_s10 (B : Lo) (p : ShPass) (cd ch swell fd fh : Int) : endT (srunT Tryz.prog (okFn Tryz.prog) J0 B 50 1 (entryC Tryz.prog 4 248 (([.agg (encPass p).toArray, callV cd ch, .int .i64 swell, callV fd fh]).map (pushT 0 4))) H00 1
 (wOpen_q32 p cd ch swell fd fh ++ [(192, hvT), (201, hvT), (207, HintT.pure (Value.bool true) []), (220, HintT.pure (Value.bool true) [])]) 0 [] []) [] = some (Value.bool true,
 [AllP [] ∧ PureC Tryz.prog J0 17 #[] (Value.bool true), AllP [] ∧ PureC Tryz.prog J0 28 (wOpen_z9 p fd fh) (Value.bool true), (!ltq 24 (↑(List.length (hoursL p (nD p fd fh) true 0)) : Int)) = true, ltq ch (nH p fd fh) = true] ++ wOpen_p32 B p cd ch swell fd fh) := by kernel_rfl
set_option maxRecDepth 100000 in
theorem wOpen_s11 (B : Lo) (p : ShPass) (cd ch swell fd fh : Int) : endT (srunT Tryz.prog (okFn Tryz.prog) J0 B 50 1 (entryC Tryz.prog 4 248 (([.agg (encPass p).toArray, callV cd ch, .int .i64 swell, callV fd fh]).map (pushT 0 4))) H00 1
 (wOpen_q32 p cd ch swell fd fh ++ [(192, hvF), (201, hvT), (207, HintT.pure (Value.bool true) []), (220, HintT.pure (Value.bool true) [])]) 0 [] []) [] = some (Value.bool true,
 [AllP [] ∧ PureC Tryz.prog J0 17 #[] (Value.bool true), AllP [] ∧ PureC Tryz.prog J0 28 (wOpen_z9 p fd fh) (Value.bool true), (!ltq 24 (↑(List.length (hoursL p (nD p fd fh) true 0)) : Int)) = true, ltq ch (nH p fd fh) = false] ++ wOpen_p32 B p cd ch swell fd fh) := by kernel_rfl
set_option maxRecDepth 100000 in
theorem wOpen_s12 (B : Lo) (p : ShPass) (cd ch swell fd fh : Int) : endT (srunT Tryz.prog (okFn Tryz.prog) J0 B 50 1 (entryC Tryz.prog 4 248 (([.agg (encPass p).toArray, callV cd ch, .int .i64 swell, callV fd fh]).map (pushT 0 4))) H00 1
 (wOpen_q31 p cd ch swell fd fh ++ [(186, hvF), (201, hvT), (207, HintT.pure (Value.bool true) []), (220, HintT.pure (Value.bool true) [])]) 0 [] []) [] = some (Value.bool true,
 [AllP [] ∧ PureC Tryz.prog J0 17 #[] (Value.bool true), AllP [] ∧ PureC Tryz.prog J0 28 (wOpen_z9 p fd fh) (Value.bool true), (!ltq 24 (↑(List.length (hoursL p (nD p fd fh) true 0)) : Int)) = true, eqq cd (nD p fd fh) = false] ++ wOpen_p31 B p cd ch swell fd fh) := by kernel_rfl
noncomputable def wOpen_p33 (B : Lo) (p : ShPass) (cd ch swell fd fh : Int) : List Prop := [ltq fd cd = false] ++ wOpen_p26 B p cd ch swell fd fh
noncomputable def wOpen_q33 (p : ShPass) (cd ch swell fd fh : Int) : ScriptT := wOpen_q25 p cd ch swell fd fh ++ [(122, hvF)]
noncomputable def wOpen_p34 (B : Lo) (p : ShPass) (cd ch swell fd fh : Int) : List Prop := [eqq cd fd = true] ++ wOpen_p33 B p cd ch swell fd fh
noncomputable def wOpen_q34 (p : ShPass) (cd ch swell fd fh : Int) : ScriptT := wOpen_q33 p cd ch swell fd fh ++ [(128, hvT)]
noncomputable def wOpen_p35 (B : Lo) (p : ShPass) (cd ch swell fd fh : Int) : List Prop := [(!ltq ch fh) = true] ++ wOpen_p34 B p cd ch swell fd fh
noncomputable def wOpen_q35 (p : ShPass) (cd ch swell fd fh : Int) : ScriptT := wOpen_q34 p cd ch swell fd fh ++ [(134, hvT), (142, HintT.pure (Value.bool true) []), (149, hvF)]
noncomputable def wOpen_p36 (B : Lo) (p : ShPass) (cd ch swell fd fh : Int) : List Prop := [AllP [] ∧ PureC Tryz.prog J0 25 (wOpen_z1 p fd fh) (Value.bool true)] ++ wOpen_p35 B p cd ch swell fd fh
noncomputable def wOpen_p37 (B : Lo) (p : ShPass) (cd ch swell fd fh : Int) : List Prop := [ltq (nD p fd fh) fd = false] ++ wOpen_p36 B p cd ch swell fd fh
noncomputable def wOpen_p38 (B : Lo) (p : ShPass) (cd ch swell fd fh : Int) : List Prop := [eqq (nD p fd fh) fd = true] ++ wOpen_p37 B p cd ch swell fd fh
noncomputable def wOpen_q38 (p : ShPass) (cd ch swell fd fh : Int) : ScriptT := wOpen_q35 p cd ch swell fd fh ++ [(156, hvT), (162, hvF), (168, HintT.pure (wOpen_z6 p fd fh) []), (180, hvF), (186, hvT)]
noncomputable def wOpen_p39 (B : Lo) (p : ShPass) (cd ch swell fd fh : Int) : List Prop := [AllP [] ∧ PureC Tryz.prog J0 19 (wOpen_z4 p fd fh) (wOpen_z6 p fd fh), ltq (nH p fd fh) fh = false] ++ wOpen_p38 B p cd ch swell fd fh
noncomputable def wOpen_p40 (B : Lo) (p : ShPass) (cd ch swell fd fh : Int) : List Prop := [ltq cd (nD p fd fh) = false] ++ wOpen_p39 B p cd ch swell fd fh
noncomputable def wOpen_p41 (B : Lo) (p : ShPass) (cd ch swell fd fh : Int) : List Prop := [eqq cd (nD p fd fh) = true] ++ wOpen_p40 B p cd ch swell fd fh
set_option maxRecDepth 100000 in
theorem wOpen_s13 (B : Lo) (p : ShPass) (cd ch swell fd fh : Int) : endT (srunT Tryz.prog (okFn Tryz.prog) J0 B 50 1 (entryC Tryz.prog 4 248 (([.agg (encPass p).toArray, callV cd ch, .int .i64 swell, callV fd fh]).map (pushT 0 4))) H00 1
 (wOpen_q38 p cd ch swell fd fh ++ [(192, hvT), (201, hvT), (207, HintT.pure (Value.bool true) []), (220, HintT.pure (Value.bool true) [])]) 0 [] []) [] = some (Value.bool true,
 [AllP [] ∧ PureC Tryz.prog J0 17 #[] (Value.bool true), AllP [] ∧ PureC Tryz.prog J0 28 (wOpen_z9 p fd fh) (Value.bool true), (!ltq 24 (↑(List.length (hoursL p (nD p fd fh) true 0)) : Int)) = true, ltq ch (nH p fd fh) = true] ++ wOpen_p41 B p cd ch swell fd fh) := by kernel_rfl
set_option maxRecDepth 100000 in
theorem wOpen_s14 (B : Lo) (p : ShPass) (cd ch swell fd fh : Int) : endT (srunT Tryz.prog (okFn Tryz.prog) J0 B 50 1 (entryC Tryz.prog 4 248 (([.agg (encPass p).toArray, callV cd ch, .int .i64 swell, callV fd fh]).map (pushT 0 4))) H00 1
 (wOpen_q38 p cd ch swell fd fh ++ [(192, hvF), (201, hvT), (207, HintT.pure (Value.bool true) []), (220, HintT.pure (Value.bool true) [])]) 0 [] []) [] = some (Value.bool true,
 [AllP [] ∧ PureC Tryz.prog J0 17 #[] (Value.bool true), AllP [] ∧ PureC Tryz.prog J0 28 (wOpen_z9 p fd fh) (Value.bool true), (!ltq 24 (↑(List.length (hoursL p (nD p fd fh) true 0)) : Int)) = true, ltq ch (nH p fd fh) = false] ++ wOpen_p41 B p cd ch swell fd fh) := by kernel_rfl
set_option maxRecDepth 100000 in
theorem wOpen_s15 (B : Lo) (p : ShPass) (cd ch swell fd fh : Int) : endT (srunT Tryz.prog (okFn Tryz.prog) J0 B 50 1 (entryC Tryz.prog 4 248 (([.agg (encPass p).toArray, callV cd ch, .int .i64 swell, callV fd fh]).map (pushT 0 4))) H00 1
 (wOpen_q35 p cd ch swell fd fh ++ [(156, hvF), (168, HintT.pure (wOpen_z6 p fd fh) []), (180, hvT), (201, hvT), (207, HintT.pure (Value.bool true) []), (220, HintT.pure (Value.bool true) [])]) 0 [] []) [] = some (Value.bool true,
 [AllP [] ∧ PureC Tryz.prog J0 17 #[] (Value.bool true), AllP [] ∧ PureC Tryz.prog J0 28 (wOpen_z9 p fd fh) (Value.bool true), (!ltq 24 (↑(List.length (hoursL p (nD p fd fh) true 0)) : Int)) = true, ltq cd (nD p fd fh) = true, AllP [] ∧ PureC Tryz.prog J0 19 (wOpen_z4 p fd fh) (wOpen_z6 p fd fh), eqq (nD p fd fh) fd = false] ++ wOpen_p37 B p cd ch swell fd fh) := by kernel_rfl
noncomputable def wOpen_p42 (B : Lo) (p : ShPass) (cd ch swell fd fh : Int) : List Prop := [(!ltq ch fh) = false] ++ wOpen_p34 B p cd ch swell fd fh
noncomputable def wOpen_q42 (p : ShPass) (cd ch swell fd fh : Int) : ScriptT := wOpen_q34 p cd ch swell fd fh ++ [(134, hvF), (142, HintT.pure (Value.bool true) []), (149, hvF)]
noncomputable def wOpen_p43 (B : Lo) (p : ShPass) (cd ch swell fd fh : Int) : List Prop := [AllP [] ∧ PureC Tryz.prog J0 25 (wOpen_z1 p fd fh) (Value.bool true)] ++ wOpen_p42 B p cd ch swell fd fh
noncomputable def wOpen_p44 (B : Lo) (p : ShPass) (cd ch swell fd fh : Int) : List Prop := [ltq (nD p fd fh) fd = false] ++ wOpen_p43 B p cd ch swell fd fh
set_option maxRecDepth 100000 in
theorem wOpen_s16 (B : Lo) (p : ShPass) (cd ch swell fd fh : Int) : endT (srunT Tryz.prog (okFn Tryz.prog) J0 B 50 1 (entryC Tryz.prog 4 248 (([.agg (encPass p).toArray, callV cd ch, .int .i64 swell, callV fd fh]).map (pushT 0 4))) H00 1
 (wOpen_q42 p cd ch swell fd fh ++ [(156, hvT), (162, hvF), (168, HintT.pure (wOpen_z6 p fd fh) []), (180, hvF), (186, hvT), (192, hvT), (201, hvT), (207, HintT.pure (Value.bool true) []), (220, HintT.pure (Value.bool true) [])]) 0 [] []) [] = some (Value.bool true,
 [AllP [] ∧ PureC Tryz.prog J0 17 #[] (Value.bool true), AllP [] ∧ PureC Tryz.prog J0 28 (wOpen_z9 p fd fh) (Value.bool true), (!ltq 24 (↑(List.length (hoursL p (nD p fd fh) true 0)) : Int)) = true, ltq ch (nH p fd fh) = true, eqq cd (nD p fd fh) = true, ltq cd (nD p fd fh) = false, AllP [] ∧ PureC Tryz.prog J0 19 (wOpen_z4 p fd fh) (wOpen_z6 p fd fh), ltq (nH p fd fh) fh = false, eqq (nD p fd fh) fd = true] ++ wOpen_p44 B p cd ch swell fd fh) := by kernel_rfl
set_option maxRecDepth 100000 in
theorem wOpen_s17 (B : Lo) (p : ShPass) (cd ch swell fd fh : Int) : endT (srunT Tryz.prog (okFn Tryz.prog) J0 B 50 1 (entryC Tryz.prog 4 248 (([.agg (encPass p).toArray, callV cd ch, .int .i64 swell, callV fd fh]).map (pushT 0 4))) H00 1
 (wOpen_q42 p cd ch swell fd fh ++ [(156, hvF), (168, HintT.pure (wOpen_z6 p fd fh) []), (180, hvT), (201, hvT), (207, HintT.pure (Value.bool true) []), (220, HintT.pure (Value.bool true) [])]) 0 [] []) [] = some (Value.bool true,
 [AllP [] ∧ PureC Tryz.prog J0 17 #[] (Value.bool true), AllP [] ∧ PureC Tryz.prog J0 28 (wOpen_z9 p fd fh) (Value.bool true), (!ltq 24 (↑(List.length (hoursL p (nD p fd fh) true 0)) : Int)) = true, ltq cd (nD p fd fh) = true, AllP [] ∧ PureC Tryz.prog J0 19 (wOpen_z4 p fd fh) (wOpen_z6 p fd fh), eqq (nD p fd fh) fd = false] ++ wOpen_p44 B p cd ch swell fd fh) := by kernel_rfl
noncomputable def wOpen_p45 (B : Lo) (p : ShPass) (cd ch swell fd fh : Int) : List Prop := [eqq cd fd = false] ++ wOpen_p33 B p cd ch swell fd fh
noncomputable def wOpen_q45 (p : ShPass) (cd ch swell fd fh : Int) : ScriptT := wOpen_q33 p cd ch swell fd fh ++ [(128, hvF), (142, HintT.pure (Value.bool true) []), (149, hvF)]
noncomputable def wOpen_p46 (B : Lo) (p : ShPass) (cd ch swell fd fh : Int) : List Prop := [AllP [] ∧ PureC Tryz.prog J0 25 (wOpen_z1 p fd fh) (Value.bool true)] ++ wOpen_p45 B p cd ch swell fd fh
noncomputable def wOpen_p47 (B : Lo) (p : ShPass) (cd ch swell fd fh : Int) : List Prop := [ltq (nD p fd fh) fd = false] ++ wOpen_p46 B p cd ch swell fd fh
set_option maxRecDepth 100000 in
theorem wOpen_s18 (B : Lo) (p : ShPass) (cd ch swell fd fh : Int) : endT (srunT Tryz.prog (okFn Tryz.prog) J0 B 50 1 (entryC Tryz.prog 4 248 (([.agg (encPass p).toArray, callV cd ch, .int .i64 swell, callV fd fh]).map (pushT 0 4))) H00 1
 (wOpen_q45 p cd ch swell fd fh ++ [(156, hvT), (162, hvF), (168, HintT.pure (wOpen_z6 p fd fh) []), (180, hvT), (201, hvT), (207, HintT.pure (Value.bool true) []), (220, HintT.pure (Value.bool true) [])]) 0 [] []) [] = some (Value.bool true,
 [AllP [] ∧ PureC Tryz.prog J0 17 #[] (Value.bool true), AllP [] ∧ PureC Tryz.prog J0 28 (wOpen_z9 p fd fh) (Value.bool true), (!ltq 24 (↑(List.length (hoursL p (nD p fd fh) true 0)) : Int)) = true, ltq cd (nD p fd fh) = true, AllP [] ∧ PureC Tryz.prog J0 19 (wOpen_z4 p fd fh) (wOpen_z6 p fd fh), ltq (nH p fd fh) fh = false, eqq (nD p fd fh) fd = true] ++ wOpen_p47 B p cd ch swell fd fh) := by kernel_rfl
set_option maxRecDepth 100000 in
theorem wOpen_s19 (B : Lo) (p : ShPass) (cd ch swell fd fh : Int) : endT (srunT Tryz.prog (okFn Tryz.prog) J0 B 50 1 (entryC Tryz.prog 4 248 (([.agg (encPass p).toArray, callV cd ch, .int .i64 swell, callV fd fh]).map (pushT 0 4))) H00 1
 (wOpen_q45 p cd ch swell fd fh ++ [(156, hvF), (168, HintT.pure (wOpen_z6 p fd fh) []), (180, hvT), (201, hvT), (207, HintT.pure (Value.bool true) []), (220, HintT.pure (Value.bool true) [])]) 0 [] []) [] = some (Value.bool true,
 [AllP [] ∧ PureC Tryz.prog J0 17 #[] (Value.bool true), AllP [] ∧ PureC Tryz.prog J0 28 (wOpen_z9 p fd fh) (Value.bool true), (!ltq 24 (↑(List.length (hoursL p (nD p fd fh) true 0)) : Int)) = true, ltq cd (nD p fd fh) = true, AllP [] ∧ PureC Tryz.prog J0 19 (wOpen_z4 p fd fh) (wOpen_z6 p fd fh), eqq (nD p fd fh) fd = false] ++ wOpen_p47 B p cd ch swell fd fh) := by kernel_rfl
noncomputable def wOpen_p48 (B : Lo) (p : ShPass) (cd ch swell fd fh : Int) : List Prop := [AllP [] ∧ PureC Tryz.prog J0 20 (wOpen_z2 p fd fh) wOpen_z11] ++ wOpen_p6 B p cd ch swell fd fh
noncomputable def wOpen_q48 (p : ShPass) (cd ch swell fd fh : Int) : ScriptT := wOpen_q4 p cd ch swell fd fh ++ [(66, HintT.pure wOpen_z11 []), (82, hvF), (87, hvF)]
noncomputable def wOpen_p49 (B : Lo) (p : ShPass) (cd ch swell fd fh : Int) : List Prop := [ltq 24 (↑(List.length (hoursL p cd true 0)) : Int) = false] ++ wOpen_p48 B p cd ch swell fd fh
noncomputable def wOpen_p50 (B : Lo) (p : ShPass) (cd ch swell fd fh : Int) : List Prop := [ltq 24 (↑(List.length (hoursL p cd false 0)) : Int) = false] ++ wOpen_p49 B p cd ch swell fd fh
noncomputable def wOpen_p51 (B : Lo) (p : ShPass) (cd ch swell fd fh : Int) : List Prop := [AllP [] ∧ PureC Tryz.prog J0 28 (wOpen_z13 p cd ch) (Value.bool true)] ++ wOpen_p50 B p cd ch swell fd fh
noncomputable def wOpen_q51 (p : ShPass) (cd ch swell fd fh : Int) : ScriptT := wOpen_q48 p cd ch swell fd fh ++ [(92, HintT.pure (Value.bool true) []), (96, HintT.pure (Value.bool true) []), (122, hvF)]
noncomputable def wOpen_p52 (B : Lo) (p : ShPass) (cd ch swell fd fh : Int) : List Prop := [AllP [] ∧ PureC Tryz.prog J0 28 (wOpen_z12 p cd ch) (Value.bool true)] ++ wOpen_p51 B p cd ch swell fd fh
noncomputable def wOpen_p53 (B : Lo) (p : ShPass) (cd ch swell fd fh : Int) : List Prop := [ltq fd cd = false] ++ wOpen_p52 B p cd ch swell fd fh
set_option maxRecDepth 100000 in
theorem wOpen_s20 (B : Lo) (p : ShPass) (cd ch swell fd fh : Int) : endT (srunT Tryz.prog (okFn Tryz.prog) J0 B 40 1 (entryC Tryz.prog 4 248 (([.agg (encPass p).toArray, callV cd ch, .int .i64 swell, callV fd fh]).map (pushT 0 4))) H00 1
 (wOpen_q51 p cd ch swell fd fh ++ [(128, hvT), (134, hvF), (150, HintT.pure (Value.bool true) [])]) 0 [] []) [] = some (Value.bool true,
 [AllP [] ∧ PureC Tryz.prog J0 17 #[] (Value.bool true), (!ltq ch fh) = false, eqq cd fd = true] ++ wOpen_p53 B p cd ch swell fd fh) := by kernel_rfl
set_option maxRecDepth 100000 in
theorem wOpen_s21 (B : Lo) (p : ShPass) (cd ch swell fd fh : Int) : endT (srunT Tryz.prog (okFn Tryz.prog) J0 B 40 1 (entryC Tryz.prog 4 248 (([.agg (encPass p).toArray, callV cd ch, .int .i64 swell, callV fd fh]).map (pushT 0 4))) H00 1
 (wOpen_q51 p cd ch swell fd fh ++ [(128, hvF), (150, HintT.pure (Value.bool true) [])]) 0 [] []) [] = some (Value.bool true,
 [AllP [] ∧ PureC Tryz.prog J0 17 #[] (Value.bool true), eqq cd fd = false] ++ wOpen_p53 B p cd ch swell fd fh) := by kernel_rfl
noncomputable def wOpen_p54 (B : Lo) (p : ShPass) (cd ch swell fd fh : Int) : List Prop := [AllP [] ∧ PureC Tryz.prog J0 28 (wOpen_z13 p cd ch) (Value.bool false)] ++ wOpen_p50 B p cd ch swell fd fh
noncomputable def wOpen_q54 (p : ShPass) (cd ch swell fd fh : Int) : ScriptT := wOpen_q48 p cd ch swell fd fh ++ [(92, HintT.pure (Value.bool false) []), (96, HintT.pure (Value.bool true) [])]
noncomputable def wOpen_p55 (B : Lo) (p : ShPass) (cd ch swell fd fh : Int) : List Prop := [AllP [] ∧ PureC Tryz.prog J0 28 (wOpen_z12 p cd ch) (Value.bool true)] ++ wOpen_p54 B p cd ch swell fd fh
set_option maxRecDepth 100000 in
theorem wOpen_s22 (B : Lo) (p : ShPass) (cd ch swell fd fh : Int) : endT (srunT Tryz.prog (okFn Tryz.prog) J0 B 40 1 (entryC Tryz.prog 4 248 (([.agg (encPass p).toArray, callV cd ch, .int .i64 swell, callV fd fh]).map (pushT 0 4))) H00 1
 (wOpen_q54 p cd ch swell fd fh ++ [(122, hvT), (150, HintT.pure (Value.bool true) [])]) 0 [] []) [] = some (Value.bool true,
 [AllP [] ∧ PureC Tryz.prog J0 17 #[] (Value.bool true), ltq fd cd = true] ++ wOpen_p55 B p cd ch swell fd fh) := by kernel_rfl
noncomputable def wOpen_p56 (B : Lo) (p : ShPass) (cd ch swell fd fh : Int) : List Prop := [ltq fd cd = false] ++ wOpen_p55 B p cd ch swell fd fh
noncomputable def wOpen_q56 (p : ShPass) (cd ch swell fd fh : Int) : ScriptT := wOpen_q54 p cd ch swell fd fh ++ [(122, hvF)]
noncomputable def wOpen_p57 (B : Lo) (p : ShPass) (cd ch swell fd fh : Int) : List Prop := [eqq cd fd = true] ++ wOpen_p56 B p cd ch swell fd fh
noncomputable def wOpen_q57 (p : ShPass) (cd ch swell fd fh : Int) : ScriptT := wOpen_q56 p cd ch swell fd fh ++ [(128, hvT)]
set_option maxRecDepth 100000 in
theorem wOpen_s23 (B : Lo) (p : ShPass) (cd ch swell fd fh : Int) : endT (srunT Tryz.prog (okFn Tryz.prog) J0 B 40 1 (entryC Tryz.prog 4 248 (([.agg (encPass p).toArray, callV cd ch, .int .i64 swell, callV fd fh]).map (pushT 0 4))) H00 1
 (wOpen_q57 p cd ch swell fd fh ++ [(134, hvT), (150, HintT.pure (Value.bool true) [])]) 0 [] []) [] = some (Value.bool true,
 [AllP [] ∧ PureC Tryz.prog J0 17 #[] (Value.bool true), (!ltq ch fh) = true] ++ wOpen_p57 B p cd ch swell fd fh) := by kernel_rfl
set_option maxRecDepth 100000 in
theorem wOpen_s24 (B : Lo) (p : ShPass) (cd ch swell fd fh : Int) : endT (srunT Tryz.prog (okFn Tryz.prog) J0 B 40 1 (entryC Tryz.prog 4 248 (([.agg (encPass p).toArray, callV cd ch, .int .i64 swell, callV fd fh]).map (pushT 0 4))) H00 1
 (wOpen_q57 p cd ch swell fd fh ++ [(134, hvF), (150, HintT.pure (Value.bool true) [])]) 0 [] []) [] = some (Value.bool true,
 [AllP [] ∧ PureC Tryz.prog J0 17 #[] (Value.bool true), (!ltq ch fh) = false] ++ wOpen_p57 B p cd ch swell fd fh) := by kernel_rfl
set_option maxRecDepth 100000 in
theorem wOpen_s25 (B : Lo) (p : ShPass) (cd ch swell fd fh : Int) : endT (srunT Tryz.prog (okFn Tryz.prog) J0 B 40 1 (entryC Tryz.prog 4 248 (([.agg (encPass p).toArray, callV cd ch, .int .i64 swell, callV fd fh]).map (pushT 0 4))) H00 1
 (wOpen_q56 p cd ch swell fd fh ++ [(128, hvF), (150, HintT.pure (Value.bool true) [])]) 0 [] []) [] = some (Value.bool true,
 [AllP [] ∧ PureC Tryz.prog J0 17 #[] (Value.bool true), eqq cd fd = false] ++ wOpen_p56 B p cd ch swell fd fh) := by kernel_rfl
noncomputable def wOpen_p58 (B : Lo) (p : ShPass) (cd ch swell fd fh : Int) : List Prop := [cd = (↑cd.toNat : Int) ∧ Int.toNat cd < List.length p.swell ∧ Array.extract (rowL encSp p.swell) (Int.toNat cd * TypeInfo.size Tryz.t25) (Int.toNat cd * TypeInfo.size Tryz.t25 + TypeInfo.size Tryz.t25) = (wOpen_z8 p cd), AllP [] ∧ PureC Tryz.prog J0 27 (wOpen_z0 p cd ch swell) (Value.tuple #[Value.bool false, Value.int IntKind.i64 0])] ++ wOpen_p3 B p cd ch swell fd fh
noncomputable def wOpen_q58 (p : ShPass) (cd ch swell fd fh : Int) : ScriptT := wOpen_q3 p cd ch swell fd fh ++ [(27, HintT.pure (Value.tuple #[Value.bool false, Value.int IntKind.i64 0]) []), (38, HintT.tidx cd.toNat (wOpen_z8 p cd)), (41, hvF), (48, HintT.tidx cd.toNat (wOpen_z8 p cd)), (51, hvF), (56, HintT.pure (wOpen_z7 p cd) [])]
noncomputable def wOpen_p59 (B : Lo) (p : ShPass) (cd ch swell fd fh : Int) : List Prop := [cd = (↑cd.toNat : Int) ∧ Int.toNat cd < List.length p.swell ∧ Array.extract (rowL encSp p.swell) (Int.toNat cd * TypeInfo.size Tryz.t25) (Int.toNat cd * TypeInfo.size Tryz.t25 + TypeInfo.size Tryz.t25) = (wOpen_z8 p cd), ltq swell (Span.lo (List.getD p.swell cd.toNat default)) = false] ++ wOpen_p58 B p cd ch swell fd fh
noncomputable def wOpen_p60 (B : Lo) (p : ShPass) (cd ch swell fd fh : Int) : List Prop := [AllP [] ∧ PureC Tryz.prog J0 19 #[Value.agg #[slT p.tides.length (rowL encI p.tides), Value.int IntKind.i64 p.depth, Value.int IntKind.i64 p.draft, slT p.swell.length (rowL encSp p.swell), Value.int IntKind.i64 p.llo, Value.int IntKind.i64 p.lhi], Value.int IntKind.i64 cd] (wOpen_z7 p cd), ltq (Span.hi (List.getD p.swell cd.toNat default)) swell = false] ++ wOpen_p59 B p cd ch swell fd fh
noncomputable def wOpen_p61 (B : Lo) (p : ShPass) (cd ch swell fd fh : Int) : List Prop := [AllP [] ∧ PureC Tryz.prog J0 20 (wOpen_z2 p fd fh) (wOpen_z10 p fd fh)] ++ wOpen_p60 B p cd ch swell fd fh
noncomputable def wOpen_q61 (p : ShPass) (cd ch swell fd fh : Int) : ScriptT := wOpen_q58 p cd ch swell fd fh ++ [(66, HintT.pure (wOpen_z10 p fd fh) []), (82, hvF), (87, hvF), (92, HintT.pure (Value.bool false) [])]
noncomputable def wOpen_p62 (B : Lo) (p : ShPass) (cd ch swell fd fh : Int) : List Prop := [ltq 24 (↑(List.length (hoursL p cd true 0)) : Int) = false] ++ wOpen_p61 B p cd ch swell fd fh
noncomputable def wOpen_p63 (B : Lo) (p : ShPass) (cd ch swell fd fh : Int) : List Prop := [ltq 24 (↑(List.length (hoursL p cd false 0)) : Int) = false] ++ wOpen_p62 B p cd ch swell fd fh
noncomputable def wOpen_p64 (B : Lo) (p : ShPass) (cd ch swell fd fh : Int) : List Prop := [AllP [] ∧ PureC Tryz.prog J0 28 (wOpen_z13 p cd ch) (Value.bool false)] ++ wOpen_p63 B p cd ch swell fd fh
noncomputable def wOpen_p65 (B : Lo) (p : ShPass) (cd ch swell fd fh : Int) : List Prop := [AllP [] ∧ PureC Tryz.prog J0 28 (wOpen_z12 p cd ch) (Value.bool true)] ++ wOpen_p64 B p cd ch swell fd fh
noncomputable def wOpen_q65 (p : ShPass) (cd ch swell fd fh : Int) : ScriptT := wOpen_q61 p cd ch swell fd fh ++ [(96, HintT.pure (Value.bool true) [])]
noncomputable def wOpen_p66 (B : Lo) (p : ShPass) (cd ch swell fd fh : Int) : List Prop := [ltq fd cd = true] ++ wOpen_p65 B p cd ch swell fd fh
noncomputable def wOpen_q66 (p : ShPass) (cd ch swell fd fh : Int) : ScriptT := wOpen_q65 p cd ch swell fd fh ++ [(122, hvT), (142, HintT.pure (Value.bool true) []), (149, hvF)]
noncomputable def wOpen_p67 (B : Lo) (p : ShPass) (cd ch swell fd fh : Int) : List Prop := [AllP [] ∧ PureC Tryz.prog J0 25 (wOpen_z1 p fd fh) (Value.bool true)] ++ wOpen_p66 B p cd ch swell fd fh
noncomputable def wOpen_p68 (B : Lo) (p : ShPass) (cd ch swell fd fh : Int) : List Prop := [ltq (nD p fd fh) fd = false] ++ wOpen_p67 B p cd ch swell fd fh
set_option maxRecDepth 100000 in
theorem wOpen_s26 (B : Lo) (p : ShPass) (cd ch swell fd fh : Int) : endT (srunT Tryz.prog (okFn Tryz.prog) J0 B 50 1 (entryC Tryz.prog 4 248 (([.agg (encPass p).toArray, callV cd ch, .int .i64 swell, callV fd fh]).map (pushT 0 4))) H00 1
 (wOpen_q66 p cd ch swell fd fh ++ [(156, hvT), (162, hvF), (168, HintT.pure (wOpen_z6 p fd fh) []), (180, hvF), (186, hvF), (201, hvT), (207, HintT.pure (Value.bool true) []), (220, HintT.pure (Value.bool true) [])]) 0 [] []) [] = some (Value.bool true,
 [AllP [] ∧ PureC Tryz.prog J0 17 #[] (Value.bool true), AllP [] ∧ PureC Tryz.prog J0 28 (wOpen_z9 p fd fh) (Value.bool true), (!ltq 24 (↑(List.length (hoursL p (nD p fd fh) true 0)) : Int)) = true, eqq cd (nD p fd fh) = false, ltq cd (nD p fd fh) = false, AllP [] ∧ PureC Tryz.prog J0 19 (wOpen_z4 p fd fh) (wOpen_z6 p fd fh), ltq (nH p fd fh) fh = false, eqq (nD p fd fh) fd = true] ++ wOpen_p68 B p cd ch swell fd fh) := by kernel_rfl
noncomputable def wOpen_p69 (B : Lo) (p : ShPass) (cd ch swell fd fh : Int) : List Prop := [AllP [] ∧ PureC Tryz.prog J0 19 (wOpen_z4 p fd fh) (wOpen_z6 p fd fh), eqq (nD p fd fh) fd = false] ++ wOpen_p68 B p cd ch swell fd fh
noncomputable def wOpen_q69 (p : ShPass) (cd ch swell fd fh : Int) : ScriptT := wOpen_q66 p cd ch swell fd fh ++ [(156, hvF), (168, HintT.pure (wOpen_z6 p fd fh) [])]
set_option maxRecDepth 100000 in
theorem wOpen_s27 (B : Lo) (p : ShPass) (cd ch swell fd fh : Int) : endT (srunT Tryz.prog (okFn Tryz.prog) J0 B 50 1 (entryC Tryz.prog 4 248 (([.agg (encPass p).toArray, callV cd ch, .int .i64 swell, callV fd fh]).map (pushT 0 4))) H00 1
 (wOpen_q69 p cd ch swell fd fh ++ [(180, hvT), (201, hvT), (207, HintT.pure (Value.bool true) []), (220, HintT.pure (Value.bool true) [])]) 0 [] []) [] = some (Value.bool true,
 [AllP [] ∧ PureC Tryz.prog J0 17 #[] (Value.bool true), AllP [] ∧ PureC Tryz.prog J0 28 (wOpen_z9 p fd fh) (Value.bool true), (!ltq 24 (↑(List.length (hoursL p (nD p fd fh) true 0)) : Int)) = true, ltq cd (nD p fd fh) = true] ++ wOpen_p69 B p cd ch swell fd fh) := by kernel_rfl
noncomputable def wOpen_p70 (B : Lo) (p : ShPass) (cd ch swell fd fh : Int) : List Prop := [ltq cd (nD p fd fh) = false] ++ wOpen_p69 B p cd ch swell fd fh
noncomputable def wOpen_q70 (p : ShPass) (cd ch swell fd fh : Int) : ScriptT := wOpen_q69 p cd ch swell fd fh ++ [(180, hvF)]
noncomputable def wOpen_p71 (B : Lo) (p : ShPass) (cd ch swell fd fh : Int) : List Prop := [eqq cd (nD p fd fh) = true] ++ wOpen_p70 B p cd ch swell fd fh
noncomputable def wOpen_q71 (p : ShPass) (cd ch swell fd fh : Int) : ScriptT := wOpen_q70 p cd ch swell fd fh ++ [(186, hvT)]
set_option maxRecDepth 100000 in
theorem wOpen_s28 (B : Lo) (p : ShPass) (cd ch swell fd fh : Int) : endT (srunT Tryz.prog (okFn Tryz.prog) J0 B 50 1 (entryC Tryz.prog 4 248 (([.agg (encPass p).toArray, callV cd ch, .int .i64 swell, callV fd fh]).map (pushT 0 4))) H00 1
 (wOpen_q71 p cd ch swell fd fh ++ [(192, hvT), (201, hvT), (207, HintT.pure (Value.bool true) []), (220, HintT.pure (Value.bool true) [])]) 0 [] []) [] = some (Value.bool true,
 [AllP [] ∧ PureC Tryz.prog J0 17 #[] (Value.bool true), AllP [] ∧ PureC Tryz.prog J0 28 (wOpen_z9 p fd fh) (Value.bool true), (!ltq 24 (↑(List.length (hoursL p (nD p fd fh) true 0)) : Int)) = true, ltq ch (nH p fd fh) = true] ++ wOpen_p71 B p cd ch swell fd fh) := by kernel_rfl
set_option maxRecDepth 100000 in
theorem wOpen_s29 (B : Lo) (p : ShPass) (cd ch swell fd fh : Int) : endT (srunT Tryz.prog (okFn Tryz.prog) J0 B 50 1 (entryC Tryz.prog 4 248 (([.agg (encPass p).toArray, callV cd ch, .int .i64 swell, callV fd fh]).map (pushT 0 4))) H00 1
 (wOpen_q71 p cd ch swell fd fh ++ [(192, hvF), (201, hvT), (207, HintT.pure (Value.bool true) []), (220, HintT.pure (Value.bool true) [])]) 0 [] []) [] = some (Value.bool true,
 [AllP [] ∧ PureC Tryz.prog J0 17 #[] (Value.bool true), AllP [] ∧ PureC Tryz.prog J0 28 (wOpen_z9 p fd fh) (Value.bool true), (!ltq 24 (↑(List.length (hoursL p (nD p fd fh) true 0)) : Int)) = true, ltq ch (nH p fd fh) = false] ++ wOpen_p71 B p cd ch swell fd fh) := by kernel_rfl
set_option maxRecDepth 100000 in
theorem wOpen_s30 (B : Lo) (p : ShPass) (cd ch swell fd fh : Int) : endT (srunT Tryz.prog (okFn Tryz.prog) J0 B 50 1 (entryC Tryz.prog 4 248 (([.agg (encPass p).toArray, callV cd ch, .int .i64 swell, callV fd fh]).map (pushT 0 4))) H00 1
 (wOpen_q70 p cd ch swell fd fh ++ [(186, hvF), (201, hvT), (207, HintT.pure (Value.bool true) []), (220, HintT.pure (Value.bool true) [])]) 0 [] []) [] = some (Value.bool true,
 [AllP [] ∧ PureC Tryz.prog J0 17 #[] (Value.bool true), AllP [] ∧ PureC Tryz.prog J0 28 (wOpen_z9 p fd fh) (Value.bool true), (!ltq 24 (↑(List.length (hoursL p (nD p fd fh) true 0)) : Int)) = true, eqq cd (nD p fd fh) = false] ++ wOpen_p70 B p cd ch swell fd fh) := by kernel_rfl
noncomputable def wOpen_p72 (B : Lo) (p : ShPass) (cd ch swell fd fh : Int) : List Prop := [ltq fd cd = false] ++ wOpen_p65 B p cd ch swell fd fh
noncomputable def wOpen_q72 (p : ShPass) (cd ch swell fd fh : Int) : ScriptT := wOpen_q65 p cd ch swell fd fh ++ [(122, hvF)]
noncomputable def wOpen_p73 (B : Lo) (p : ShPass) (cd ch swell fd fh : Int) : List Prop := [eqq cd fd = true] ++ wOpen_p72 B p cd ch swell fd fh
noncomputable def wOpen_q73 (p : ShPass) (cd ch swell fd fh : Int) : ScriptT := wOpen_q72 p cd ch swell fd fh ++ [(128, hvT)]
noncomputable def wOpen_p74 (B : Lo) (p : ShPass) (cd ch swell fd fh : Int) : List Prop := [(!ltq ch fh) = true] ++ wOpen_p73 B p cd ch swell fd fh
noncomputable def wOpen_q74 (p : ShPass) (cd ch swell fd fh : Int) : ScriptT := wOpen_q73 p cd ch swell fd fh ++ [(134, hvT), (142, HintT.pure (Value.bool true) []), (149, hvF)]
noncomputable def wOpen_p75 (B : Lo) (p : ShPass) (cd ch swell fd fh : Int) : List Prop := [AllP [] ∧ PureC Tryz.prog J0 25 (wOpen_z1 p fd fh) (Value.bool true)] ++ wOpen_p74 B p cd ch swell fd fh
noncomputable def wOpen_p76 (B : Lo) (p : ShPass) (cd ch swell fd fh : Int) : List Prop := [ltq (nD p fd fh) fd = false] ++ wOpen_p75 B p cd ch swell fd fh
noncomputable def wOpen_p77 (B : Lo) (p : ShPass) (cd ch swell fd fh : Int) : List Prop := [eqq (nD p fd fh) fd = true] ++ wOpen_p76 B p cd ch swell fd fh
noncomputable def wOpen_q77 (p : ShPass) (cd ch swell fd fh : Int) : ScriptT := wOpen_q74 p cd ch swell fd fh ++ [(156, hvT), (162, hvF), (168, HintT.pure (wOpen_z6 p fd fh) []), (180, hvF), (186, hvT)]
noncomputable def wOpen_p78 (B : Lo) (p : ShPass) (cd ch swell fd fh : Int) : List Prop := [AllP [] ∧ PureC Tryz.prog J0 19 (wOpen_z4 p fd fh) (wOpen_z6 p fd fh), ltq (nH p fd fh) fh = false] ++ wOpen_p77 B p cd ch swell fd fh
noncomputable def wOpen_p79 (B : Lo) (p : ShPass) (cd ch swell fd fh : Int) : List Prop := [ltq cd (nD p fd fh) = false] ++ wOpen_p78 B p cd ch swell fd fh
noncomputable def wOpen_p80 (B : Lo) (p : ShPass) (cd ch swell fd fh : Int) : List Prop := [eqq cd (nD p fd fh) = true] ++ wOpen_p79 B p cd ch swell fd fh
set_option maxRecDepth 100000 in
theorem wOpen_s31 (B : Lo) (p : ShPass) (cd ch swell fd fh : Int) : endT (srunT Tryz.prog (okFn Tryz.prog) J0 B 50 1 (entryC Tryz.prog 4 248 (([.agg (encPass p).toArray, callV cd ch, .int .i64 swell, callV fd fh]).map (pushT 0 4))) H00 1
 (wOpen_q77 p cd ch swell fd fh ++ [(192, hvT), (201, hvT), (207, HintT.pure (Value.bool true) []), (220, HintT.pure (Value.bool true) [])]) 0 [] []) [] = some (Value.bool true,
 [AllP [] ∧ PureC Tryz.prog J0 17 #[] (Value.bool true), AllP [] ∧ PureC Tryz.prog J0 28 (wOpen_z9 p fd fh) (Value.bool true), (!ltq 24 (↑(List.length (hoursL p (nD p fd fh) true 0)) : Int)) = true, ltq ch (nH p fd fh) = true] ++ wOpen_p80 B p cd ch swell fd fh) := by kernel_rfl
set_option maxRecDepth 100000 in
theorem wOpen_s32 (B : Lo) (p : ShPass) (cd ch swell fd fh : Int) : endT (srunT Tryz.prog (okFn Tryz.prog) J0 B 50 1 (entryC Tryz.prog 4 248 (([.agg (encPass p).toArray, callV cd ch, .int .i64 swell, callV fd fh]).map (pushT 0 4))) H00 1
 (wOpen_q77 p cd ch swell fd fh ++ [(192, hvF), (201, hvT), (207, HintT.pure (Value.bool true) []), (220, HintT.pure (Value.bool true) [])]) 0 [] []) [] = some (Value.bool true,
 [AllP [] ∧ PureC Tryz.prog J0 17 #[] (Value.bool true), AllP [] ∧ PureC Tryz.prog J0 28 (wOpen_z9 p fd fh) (Value.bool true), (!ltq 24 (↑(List.length (hoursL p (nD p fd fh) true 0)) : Int)) = true, ltq ch (nH p fd fh) = false] ++ wOpen_p80 B p cd ch swell fd fh) := by kernel_rfl
set_option maxRecDepth 100000 in
theorem wOpen_s33 (B : Lo) (p : ShPass) (cd ch swell fd fh : Int) : endT (srunT Tryz.prog (okFn Tryz.prog) J0 B 50 1 (entryC Tryz.prog 4 248 (([.agg (encPass p).toArray, callV cd ch, .int .i64 swell, callV fd fh]).map (pushT 0 4))) H00 1
 (wOpen_q74 p cd ch swell fd fh ++ [(156, hvF), (168, HintT.pure (wOpen_z6 p fd fh) []), (180, hvT), (201, hvT), (207, HintT.pure (Value.bool true) []), (220, HintT.pure (Value.bool true) [])]) 0 [] []) [] = some (Value.bool true,
 [AllP [] ∧ PureC Tryz.prog J0 17 #[] (Value.bool true), AllP [] ∧ PureC Tryz.prog J0 28 (wOpen_z9 p fd fh) (Value.bool true), (!ltq 24 (↑(List.length (hoursL p (nD p fd fh) true 0)) : Int)) = true, ltq cd (nD p fd fh) = true, AllP [] ∧ PureC Tryz.prog J0 19 (wOpen_z4 p fd fh) (wOpen_z6 p fd fh), eqq (nD p fd fh) fd = false] ++ wOpen_p76 B p cd ch swell fd fh) := by kernel_rfl
noncomputable def wOpen_p81 (B : Lo) (p : ShPass) (cd ch swell fd fh : Int) : List Prop := [(!ltq ch fh) = false] ++ wOpen_p73 B p cd ch swell fd fh
noncomputable def wOpen_q81 (p : ShPass) (cd ch swell fd fh : Int) : ScriptT := wOpen_q73 p cd ch swell fd fh ++ [(134, hvF), (142, HintT.pure (Value.bool true) []), (149, hvF)]
noncomputable def wOpen_p82 (B : Lo) (p : ShPass) (cd ch swell fd fh : Int) : List Prop := [AllP [] ∧ PureC Tryz.prog J0 25 (wOpen_z1 p fd fh) (Value.bool true)] ++ wOpen_p81 B p cd ch swell fd fh
noncomputable def wOpen_p83 (B : Lo) (p : ShPass) (cd ch swell fd fh : Int) : List Prop := [ltq (nD p fd fh) fd = false] ++ wOpen_p82 B p cd ch swell fd fh
set_option maxRecDepth 100000 in
theorem wOpen_s34 (B : Lo) (p : ShPass) (cd ch swell fd fh : Int) : endT (srunT Tryz.prog (okFn Tryz.prog) J0 B 50 1 (entryC Tryz.prog 4 248 (([.agg (encPass p).toArray, callV cd ch, .int .i64 swell, callV fd fh]).map (pushT 0 4))) H00 1
 (wOpen_q81 p cd ch swell fd fh ++ [(156, hvT), (162, hvF), (168, HintT.pure (wOpen_z6 p fd fh) []), (180, hvF), (186, hvT), (192, hvT), (201, hvT), (207, HintT.pure (Value.bool true) []), (220, HintT.pure (Value.bool true) [])]) 0 [] []) [] = some (Value.bool true,
 [AllP [] ∧ PureC Tryz.prog J0 17 #[] (Value.bool true), AllP [] ∧ PureC Tryz.prog J0 28 (wOpen_z9 p fd fh) (Value.bool true), (!ltq 24 (↑(List.length (hoursL p (nD p fd fh) true 0)) : Int)) = true, ltq ch (nH p fd fh) = true, eqq cd (nD p fd fh) = true, ltq cd (nD p fd fh) = false, AllP [] ∧ PureC Tryz.prog J0 19 (wOpen_z4 p fd fh) (wOpen_z6 p fd fh), ltq (nH p fd fh) fh = false, eqq (nD p fd fh) fd = true] ++ wOpen_p83 B p cd ch swell fd fh) := by kernel_rfl
set_option maxRecDepth 100000 in
theorem wOpen_s35 (B : Lo) (p : ShPass) (cd ch swell fd fh : Int) : endT (srunT Tryz.prog (okFn Tryz.prog) J0 B 50 1 (entryC Tryz.prog 4 248 (([.agg (encPass p).toArray, callV cd ch, .int .i64 swell, callV fd fh]).map (pushT 0 4))) H00 1
 (wOpen_q81 p cd ch swell fd fh ++ [(156, hvF), (168, HintT.pure (wOpen_z6 p fd fh) []), (180, hvT), (201, hvT), (207, HintT.pure (Value.bool true) []), (220, HintT.pure (Value.bool true) [])]) 0 [] []) [] = some (Value.bool true,
 [AllP [] ∧ PureC Tryz.prog J0 17 #[] (Value.bool true), AllP [] ∧ PureC Tryz.prog J0 28 (wOpen_z9 p fd fh) (Value.bool true), (!ltq 24 (↑(List.length (hoursL p (nD p fd fh) true 0)) : Int)) = true, ltq cd (nD p fd fh) = true, AllP [] ∧ PureC Tryz.prog J0 19 (wOpen_z4 p fd fh) (wOpen_z6 p fd fh), eqq (nD p fd fh) fd = false] ++ wOpen_p83 B p cd ch swell fd fh) := by kernel_rfl
noncomputable def wOpen_p84 (B : Lo) (p : ShPass) (cd ch swell fd fh : Int) : List Prop := [eqq cd fd = false] ++ wOpen_p72 B p cd ch swell fd fh
noncomputable def wOpen_q84 (p : ShPass) (cd ch swell fd fh : Int) : ScriptT := wOpen_q72 p cd ch swell fd fh ++ [(128, hvF), (142, HintT.pure (Value.bool true) []), (149, hvF)]
noncomputable def wOpen_p85 (B : Lo) (p : ShPass) (cd ch swell fd fh : Int) : List Prop := [AllP [] ∧ PureC Tryz.prog J0 25 (wOpen_z1 p fd fh) (Value.bool true)] ++ wOpen_p84 B p cd ch swell fd fh
noncomputable def wOpen_p86 (B : Lo) (p : ShPass) (cd ch swell fd fh : Int) : List Prop := [ltq (nD p fd fh) fd = false] ++ wOpen_p85 B p cd ch swell fd fh
set_option maxRecDepth 100000 in
theorem wOpen_s36 (B : Lo) (p : ShPass) (cd ch swell fd fh : Int) : endT (srunT Tryz.prog (okFn Tryz.prog) J0 B 50 1 (entryC Tryz.prog 4 248 (([.agg (encPass p).toArray, callV cd ch, .int .i64 swell, callV fd fh]).map (pushT 0 4))) H00 1
 (wOpen_q84 p cd ch swell fd fh ++ [(156, hvT), (162, hvF), (168, HintT.pure (wOpen_z6 p fd fh) []), (180, hvT), (201, hvT), (207, HintT.pure (Value.bool true) []), (220, HintT.pure (Value.bool true) [])]) 0 [] []) [] = some (Value.bool true,
 [AllP [] ∧ PureC Tryz.prog J0 17 #[] (Value.bool true), AllP [] ∧ PureC Tryz.prog J0 28 (wOpen_z9 p fd fh) (Value.bool true), (!ltq 24 (↑(List.length (hoursL p (nD p fd fh) true 0)) : Int)) = true, ltq cd (nD p fd fh) = true, AllP [] ∧ PureC Tryz.prog J0 19 (wOpen_z4 p fd fh) (wOpen_z6 p fd fh), ltq (nH p fd fh) fh = false, eqq (nD p fd fh) fd = true] ++ wOpen_p86 B p cd ch swell fd fh) := by kernel_rfl
set_option maxRecDepth 100000 in
theorem wOpen_s37 (B : Lo) (p : ShPass) (cd ch swell fd fh : Int) : endT (srunT Tryz.prog (okFn Tryz.prog) J0 B 50 1 (entryC Tryz.prog 4 248 (([.agg (encPass p).toArray, callV cd ch, .int .i64 swell, callV fd fh]).map (pushT 0 4))) H00 1
 (wOpen_q84 p cd ch swell fd fh ++ [(156, hvF), (168, HintT.pure (wOpen_z6 p fd fh) []), (180, hvT), (201, hvT), (207, HintT.pure (Value.bool true) []), (220, HintT.pure (Value.bool true) [])]) 0 [] []) [] = some (Value.bool true,
 [AllP [] ∧ PureC Tryz.prog J0 17 #[] (Value.bool true), AllP [] ∧ PureC Tryz.prog J0 28 (wOpen_z9 p fd fh) (Value.bool true), (!ltq 24 (↑(List.length (hoursL p (nD p fd fh) true 0)) : Int)) = true, ltq cd (nD p fd fh) = true, AllP [] ∧ PureC Tryz.prog J0 19 (wOpen_z4 p fd fh) (wOpen_z6 p fd fh), eqq (nD p fd fh) fd = false] ++ wOpen_p86 B p cd ch swell fd fh) := by kernel_rfl
noncomputable def wOpen_p87 (B : Lo) (p : ShPass) (cd ch swell fd fh : Int) : List Prop := [AllP [] ∧ PureC Tryz.prog J0 28 (wOpen_z12 p cd ch) (Value.bool false)] ++ wOpen_p64 B p cd ch swell fd fh
noncomputable def wOpen_q87 (p : ShPass) (cd ch swell fd fh : Int) : ScriptT := wOpen_q61 p cd ch swell fd fh ++ [(96, HintT.pure (Value.bool false) [])]
noncomputable def wOpen_p88 (B : Lo) (p : ShPass) (cd ch swell fd fh : Int) : List Prop := [ltq fd cd = true] ++ wOpen_p87 B p cd ch swell fd fh
noncomputable def wOpen_q88 (p : ShPass) (cd ch swell fd fh : Int) : ScriptT := wOpen_q87 p cd ch swell fd fh ++ [(122, hvT), (142, HintT.pure (Value.bool true) []), (149, hvF)]
noncomputable def wOpen_p89 (B : Lo) (p : ShPass) (cd ch swell fd fh : Int) : List Prop := [AllP [] ∧ PureC Tryz.prog J0 25 (wOpen_z1 p fd fh) (Value.bool true)] ++ wOpen_p88 B p cd ch swell fd fh
noncomputable def wOpen_p90 (B : Lo) (p : ShPass) (cd ch swell fd fh : Int) : List Prop := [ltq (nD p fd fh) fd = false] ++ wOpen_p89 B p cd ch swell fd fh
set_option maxRecDepth 100000 in
theorem wOpen_s38 (B : Lo) (p : ShPass) (cd ch swell fd fh : Int) : endT (srunT Tryz.prog (okFn Tryz.prog) J0 B 50 1 (entryC Tryz.prog 4 248 (([.agg (encPass p).toArray, callV cd ch, .int .i64 swell, callV fd fh]).map (pushT 0 4))) H00 1
 (wOpen_q88 p cd ch swell fd fh ++ [(156, hvT), (162, hvF), (168, HintT.pure (wOpen_z6 p fd fh) []), (180, hvF), (186, hvF), (201, hvT), (207, HintT.pure (Value.bool true) []), (220, HintT.pure (Value.bool true) [])]) 0 [] []) [] = some (Value.bool true,
 [AllP [] ∧ PureC Tryz.prog J0 17 #[] (Value.bool true), AllP [] ∧ PureC Tryz.prog J0 28 (wOpen_z9 p fd fh) (Value.bool true), (!ltq 24 (↑(List.length (hoursL p (nD p fd fh) true 0)) : Int)) = true, eqq cd (nD p fd fh) = false, ltq cd (nD p fd fh) = false, AllP [] ∧ PureC Tryz.prog J0 19 (wOpen_z4 p fd fh) (wOpen_z6 p fd fh), ltq (nH p fd fh) fh = false, eqq (nD p fd fh) fd = true] ++ wOpen_p90 B p cd ch swell fd fh) := by kernel_rfl
noncomputable def wOpen_p91 (B : Lo) (p : ShPass) (cd ch swell fd fh : Int) : List Prop := [AllP [] ∧ PureC Tryz.prog J0 19 (wOpen_z4 p fd fh) (wOpen_z6 p fd fh), eqq (nD p fd fh) fd = false] ++ wOpen_p90 B p cd ch swell fd fh
noncomputable def wOpen_q91 (p : ShPass) (cd ch swell fd fh : Int) : ScriptT := wOpen_q88 p cd ch swell fd fh ++ [(156, hvF), (168, HintT.pure (wOpen_z6 p fd fh) [])]
set_option maxRecDepth 100000 in
theorem wOpen_s39 (B : Lo) (p : ShPass) (cd ch swell fd fh : Int) : endT (srunT Tryz.prog (okFn Tryz.prog) J0 B 50 1 (entryC Tryz.prog 4 248 (([.agg (encPass p).toArray, callV cd ch, .int .i64 swell, callV fd fh]).map (pushT 0 4))) H00 1
 (wOpen_q91 p cd ch swell fd fh ++ [(180, hvT), (201, hvT), (207, HintT.pure (Value.bool true) []), (220, HintT.pure (Value.bool true) [])]) 0 [] []) [] = some (Value.bool true,
 [AllP [] ∧ PureC Tryz.prog J0 17 #[] (Value.bool true), AllP [] ∧ PureC Tryz.prog J0 28 (wOpen_z9 p fd fh) (Value.bool true), (!ltq 24 (↑(List.length (hoursL p (nD p fd fh) true 0)) : Int)) = true, ltq cd (nD p fd fh) = true] ++ wOpen_p91 B p cd ch swell fd fh) := by kernel_rfl
noncomputable def wOpen_p92 (B : Lo) (p : ShPass) (cd ch swell fd fh : Int) : List Prop := [ltq cd (nD p fd fh) = false] ++ wOpen_p91 B p cd ch swell fd fh
noncomputable def wOpen_q92 (p : ShPass) (cd ch swell fd fh : Int) : ScriptT := wOpen_q91 p cd ch swell fd fh ++ [(180, hvF)]
noncomputable def wOpen_p93 (B : Lo) (p : ShPass) (cd ch swell fd fh : Int) : List Prop := [eqq cd (nD p fd fh) = true] ++ wOpen_p92 B p cd ch swell fd fh
noncomputable def wOpen_q93 (p : ShPass) (cd ch swell fd fh : Int) : ScriptT := wOpen_q92 p cd ch swell fd fh ++ [(186, hvT)]
set_option maxRecDepth 100000 in
theorem wOpen_s40 (B : Lo) (p : ShPass) (cd ch swell fd fh : Int) : endT (srunT Tryz.prog (okFn Tryz.prog) J0 B 50 1 (entryC Tryz.prog 4 248 (([.agg (encPass p).toArray, callV cd ch, .int .i64 swell, callV fd fh]).map (pushT 0 4))) H00 1
 (wOpen_q93 p cd ch swell fd fh ++ [(192, hvT), (201, hvT), (207, HintT.pure (Value.bool true) []), (220, HintT.pure (Value.bool true) [])]) 0 [] []) [] = some (Value.bool true,
 [AllP [] ∧ PureC Tryz.prog J0 17 #[] (Value.bool true), AllP [] ∧ PureC Tryz.prog J0 28 (wOpen_z9 p fd fh) (Value.bool true), (!ltq 24 (↑(List.length (hoursL p (nD p fd fh) true 0)) : Int)) = true, ltq ch (nH p fd fh) = true] ++ wOpen_p93 B p cd ch swell fd fh) := by kernel_rfl
set_option maxRecDepth 100000 in
theorem wOpen_s41 (B : Lo) (p : ShPass) (cd ch swell fd fh : Int) : endT (srunT Tryz.prog (okFn Tryz.prog) J0 B 50 1 (entryC Tryz.prog 4 248 (([.agg (encPass p).toArray, callV cd ch, .int .i64 swell, callV fd fh]).map (pushT 0 4))) H00 1
 (wOpen_q93 p cd ch swell fd fh ++ [(192, hvF), (201, hvT), (207, HintT.pure (Value.bool true) []), (220, HintT.pure (Value.bool true) [])]) 0 [] []) [] = some (Value.bool true,
 [AllP [] ∧ PureC Tryz.prog J0 17 #[] (Value.bool true), AllP [] ∧ PureC Tryz.prog J0 28 (wOpen_z9 p fd fh) (Value.bool true), (!ltq 24 (↑(List.length (hoursL p (nD p fd fh) true 0)) : Int)) = true, ltq ch (nH p fd fh) = false] ++ wOpen_p93 B p cd ch swell fd fh) := by kernel_rfl
set_option maxRecDepth 100000 in
theorem wOpen_s42 (B : Lo) (p : ShPass) (cd ch swell fd fh : Int) : endT (srunT Tryz.prog (okFn Tryz.prog) J0 B 50 1 (entryC Tryz.prog 4 248 (([.agg (encPass p).toArray, callV cd ch, .int .i64 swell, callV fd fh]).map (pushT 0 4))) H00 1
 (wOpen_q92 p cd ch swell fd fh ++ [(186, hvF), (201, hvT), (207, HintT.pure (Value.bool true) []), (220, HintT.pure (Value.bool true) [])]) 0 [] []) [] = some (Value.bool true,
 [AllP [] ∧ PureC Tryz.prog J0 17 #[] (Value.bool true), AllP [] ∧ PureC Tryz.prog J0 28 (wOpen_z9 p fd fh) (Value.bool true), (!ltq 24 (↑(List.length (hoursL p (nD p fd fh) true 0)) : Int)) = true, eqq cd (nD p fd fh) = false] ++ wOpen_p92 B p cd ch swell fd fh) := by kernel_rfl
noncomputable def wOpen_p94 (B : Lo) (p : ShPass) (cd ch swell fd fh : Int) : List Prop := [ltq fd cd = false] ++ wOpen_p87 B p cd ch swell fd fh
noncomputable def wOpen_q94 (p : ShPass) (cd ch swell fd fh : Int) : ScriptT := wOpen_q87 p cd ch swell fd fh ++ [(122, hvF)]
noncomputable def wOpen_p95 (B : Lo) (p : ShPass) (cd ch swell fd fh : Int) : List Prop := [eqq cd fd = true] ++ wOpen_p94 B p cd ch swell fd fh
noncomputable def wOpen_q95 (p : ShPass) (cd ch swell fd fh : Int) : ScriptT := wOpen_q94 p cd ch swell fd fh ++ [(128, hvT)]
noncomputable def wOpen_p96 (B : Lo) (p : ShPass) (cd ch swell fd fh : Int) : List Prop := [(!ltq ch fh) = true] ++ wOpen_p95 B p cd ch swell fd fh
noncomputable def wOpen_q96 (p : ShPass) (cd ch swell fd fh : Int) : ScriptT := wOpen_q95 p cd ch swell fd fh ++ [(134, hvT), (142, HintT.pure (Value.bool true) []), (149, hvF)]
noncomputable def wOpen_p97 (B : Lo) (p : ShPass) (cd ch swell fd fh : Int) : List Prop := [AllP [] ∧ PureC Tryz.prog J0 25 (wOpen_z1 p fd fh) (Value.bool true)] ++ wOpen_p96 B p cd ch swell fd fh
noncomputable def wOpen_p98 (B : Lo) (p : ShPass) (cd ch swell fd fh : Int) : List Prop := [ltq (nD p fd fh) fd = false] ++ wOpen_p97 B p cd ch swell fd fh
noncomputable def wOpen_p99 (B : Lo) (p : ShPass) (cd ch swell fd fh : Int) : List Prop := [eqq (nD p fd fh) fd = true] ++ wOpen_p98 B p cd ch swell fd fh
noncomputable def wOpen_q99 (p : ShPass) (cd ch swell fd fh : Int) : ScriptT := wOpen_q96 p cd ch swell fd fh ++ [(156, hvT), (162, hvF), (168, HintT.pure (wOpen_z6 p fd fh) []), (180, hvF), (186, hvT)]
noncomputable def wOpen_p100 (B : Lo) (p : ShPass) (cd ch swell fd fh : Int) : List Prop := [AllP [] ∧ PureC Tryz.prog J0 19 (wOpen_z4 p fd fh) (wOpen_z6 p fd fh), ltq (nH p fd fh) fh = false] ++ wOpen_p99 B p cd ch swell fd fh
noncomputable def wOpen_p101 (B : Lo) (p : ShPass) (cd ch swell fd fh : Int) : List Prop := [ltq cd (nD p fd fh) = false] ++ wOpen_p100 B p cd ch swell fd fh
noncomputable def wOpen_p102 (B : Lo) (p : ShPass) (cd ch swell fd fh : Int) : List Prop := [eqq cd (nD p fd fh) = true] ++ wOpen_p101 B p cd ch swell fd fh
set_option maxRecDepth 100000 in
theorem wOpen_s43 (B : Lo) (p : ShPass) (cd ch swell fd fh : Int) : endT (srunT Tryz.prog (okFn Tryz.prog) J0 B 50 1 (entryC Tryz.prog 4 248 (([.agg (encPass p).toArray, callV cd ch, .int .i64 swell, callV fd fh]).map (pushT 0 4))) H00 1
 (wOpen_q99 p cd ch swell fd fh ++ [(192, hvT), (201, hvT), (207, HintT.pure (Value.bool true) []), (220, HintT.pure (Value.bool true) [])]) 0 [] []) [] = some (Value.bool true,
 [AllP [] ∧ PureC Tryz.prog J0 17 #[] (Value.bool true), AllP [] ∧ PureC Tryz.prog J0 28 (wOpen_z9 p fd fh) (Value.bool true), (!ltq 24 (↑(List.length (hoursL p (nD p fd fh) true 0)) : Int)) = true, ltq ch (nH p fd fh) = true] ++ wOpen_p102 B p cd ch swell fd fh) := by kernel_rfl
set_option maxRecDepth 100000 in
theorem wOpen_s44 (B : Lo) (p : ShPass) (cd ch swell fd fh : Int) : endT (srunT Tryz.prog (okFn Tryz.prog) J0 B 50 1 (entryC Tryz.prog 4 248 (([.agg (encPass p).toArray, callV cd ch, .int .i64 swell, callV fd fh]).map (pushT 0 4))) H00 1
 (wOpen_q99 p cd ch swell fd fh ++ [(192, hvF), (201, hvT), (207, HintT.pure (Value.bool true) []), (220, HintT.pure (Value.bool true) [])]) 0 [] []) [] = some (Value.bool true,
 [AllP [] ∧ PureC Tryz.prog J0 17 #[] (Value.bool true), AllP [] ∧ PureC Tryz.prog J0 28 (wOpen_z9 p fd fh) (Value.bool true), (!ltq 24 (↑(List.length (hoursL p (nD p fd fh) true 0)) : Int)) = true, ltq ch (nH p fd fh) = false] ++ wOpen_p102 B p cd ch swell fd fh) := by kernel_rfl
set_option maxRecDepth 100000 in
theorem wOpen_s45 (B : Lo) (p : ShPass) (cd ch swell fd fh : Int) : endT (srunT Tryz.prog (okFn Tryz.prog) J0 B 50 1 (entryC Tryz.prog 4 248 (([.agg (encPass p).toArray, callV cd ch, .int .i64 swell, callV fd fh]).map (pushT 0 4))) H00 1
 (wOpen_q96 p cd ch swell fd fh ++ [(156, hvF), (168, HintT.pure (wOpen_z6 p fd fh) []), (180, hvT), (201, hvT), (207, HintT.pure (Value.bool true) []), (220, HintT.pure (Value.bool true) [])]) 0 [] []) [] = some (Value.bool true,
 [AllP [] ∧ PureC Tryz.prog J0 17 #[] (Value.bool true), AllP [] ∧ PureC Tryz.prog J0 28 (wOpen_z9 p fd fh) (Value.bool true), (!ltq 24 (↑(List.length (hoursL p (nD p fd fh) true 0)) : Int)) = true, ltq cd (nD p fd fh) = true, AllP [] ∧ PureC Tryz.prog J0 19 (wOpen_z4 p fd fh) (wOpen_z6 p fd fh), eqq (nD p fd fh) fd = false] ++ wOpen_p98 B p cd ch swell fd fh) := by kernel_rfl
noncomputable def wOpen_p103 (B : Lo) (p : ShPass) (cd ch swell fd fh : Int) : List Prop := [(!ltq ch fh) = false] ++ wOpen_p95 B p cd ch swell fd fh
noncomputable def wOpen_q103 (p : ShPass) (cd ch swell fd fh : Int) : ScriptT := wOpen_q95 p cd ch swell fd fh ++ [(134, hvF), (142, HintT.pure (Value.bool true) []), (149, hvF)]
noncomputable def wOpen_p104 (B : Lo) (p : ShPass) (cd ch swell fd fh : Int) : List Prop := [AllP [] ∧ PureC Tryz.prog J0 25 (wOpen_z1 p fd fh) (Value.bool true)] ++ wOpen_p103 B p cd ch swell fd fh
noncomputable def wOpen_p105 (B : Lo) (p : ShPass) (cd ch swell fd fh : Int) : List Prop := [ltq (nD p fd fh) fd = false] ++ wOpen_p104 B p cd ch swell fd fh
set_option maxRecDepth 100000 in
theorem wOpen_s46 (B : Lo) (p : ShPass) (cd ch swell fd fh : Int) : endT (srunT Tryz.prog (okFn Tryz.prog) J0 B 50 1 (entryC Tryz.prog 4 248 (([.agg (encPass p).toArray, callV cd ch, .int .i64 swell, callV fd fh]).map (pushT 0 4))) H00 1
 (wOpen_q103 p cd ch swell fd fh ++ [(156, hvT), (162, hvF), (168, HintT.pure (wOpen_z6 p fd fh) []), (180, hvF), (186, hvT), (192, hvT), (201, hvT), (207, HintT.pure (Value.bool true) []), (220, HintT.pure (Value.bool true) [])]) 0 [] []) [] = some (Value.bool true,
 [AllP [] ∧ PureC Tryz.prog J0 17 #[] (Value.bool true), AllP [] ∧ PureC Tryz.prog J0 28 (wOpen_z9 p fd fh) (Value.bool true), (!ltq 24 (↑(List.length (hoursL p (nD p fd fh) true 0)) : Int)) = true, ltq ch (nH p fd fh) = true, eqq cd (nD p fd fh) = true, ltq cd (nD p fd fh) = false, AllP [] ∧ PureC Tryz.prog J0 19 (wOpen_z4 p fd fh) (wOpen_z6 p fd fh), ltq (nH p fd fh) fh = false, eqq (nD p fd fh) fd = true] ++ wOpen_p105 B p cd ch swell fd fh) := by kernel_rfl
set_option maxRecDepth 100000 in
theorem wOpen_s47 (B : Lo) (p : ShPass) (cd ch swell fd fh : Int) : endT (srunT Tryz.prog (okFn Tryz.prog) J0 B 50 1 (entryC Tryz.prog 4 248 (([.agg (encPass p).toArray, callV cd ch, .int .i64 swell, callV fd fh]).map (pushT 0 4))) H00 1
 (wOpen_q103 p cd ch swell fd fh ++ [(156, hvF), (168, HintT.pure (wOpen_z6 p fd fh) []), (180, hvT), (201, hvT), (207, HintT.pure (Value.bool true) []), (220, HintT.pure (Value.bool true) [])]) 0 [] []) [] = some (Value.bool true,
 [AllP [] ∧ PureC Tryz.prog J0 17 #[] (Value.bool true), AllP [] ∧ PureC Tryz.prog J0 28 (wOpen_z9 p fd fh) (Value.bool true), (!ltq 24 (↑(List.length (hoursL p (nD p fd fh) true 0)) : Int)) = true, ltq cd (nD p fd fh) = true, AllP [] ∧ PureC Tryz.prog J0 19 (wOpen_z4 p fd fh) (wOpen_z6 p fd fh), eqq (nD p fd fh) fd = false] ++ wOpen_p105 B p cd ch swell fd fh) := by kernel_rfl
noncomputable def wOpen_p106 (B : Lo) (p : ShPass) (cd ch swell fd fh : Int) : List Prop := [eqq cd fd = false] ++ wOpen_p94 B p cd ch swell fd fh
noncomputable def wOpen_q106 (p : ShPass) (cd ch swell fd fh : Int) : ScriptT := wOpen_q94 p cd ch swell fd fh ++ [(128, hvF), (142, HintT.pure (Value.bool true) []), (149, hvF)]
noncomputable def wOpen_p107 (B : Lo) (p : ShPass) (cd ch swell fd fh : Int) : List Prop := [AllP [] ∧ PureC Tryz.prog J0 25 (wOpen_z1 p fd fh) (Value.bool true)] ++ wOpen_p106 B p cd ch swell fd fh
noncomputable def wOpen_p108 (B : Lo) (p : ShPass) (cd ch swell fd fh : Int) : List Prop := [ltq (nD p fd fh) fd = false] ++ wOpen_p107 B p cd ch swell fd fh
set_option maxRecDepth 100000 in
theorem wOpen_s48 (B : Lo) (p : ShPass) (cd ch swell fd fh : Int) : endT (srunT Tryz.prog (okFn Tryz.prog) J0 B 50 1 (entryC Tryz.prog 4 248 (([.agg (encPass p).toArray, callV cd ch, .int .i64 swell, callV fd fh]).map (pushT 0 4))) H00 1
 (wOpen_q106 p cd ch swell fd fh ++ [(156, hvT), (162, hvF), (168, HintT.pure (wOpen_z6 p fd fh) []), (180, hvT), (201, hvT), (207, HintT.pure (Value.bool true) []), (220, HintT.pure (Value.bool true) [])]) 0 [] []) [] = some (Value.bool true,
 [AllP [] ∧ PureC Tryz.prog J0 17 #[] (Value.bool true), AllP [] ∧ PureC Tryz.prog J0 28 (wOpen_z9 p fd fh) (Value.bool true), (!ltq 24 (↑(List.length (hoursL p (nD p fd fh) true 0)) : Int)) = true, ltq cd (nD p fd fh) = true, AllP [] ∧ PureC Tryz.prog J0 19 (wOpen_z4 p fd fh) (wOpen_z6 p fd fh), ltq (nH p fd fh) fh = false, eqq (nD p fd fh) fd = true] ++ wOpen_p108 B p cd ch swell fd fh) := by kernel_rfl
set_option maxRecDepth 100000 in
theorem wOpen_s49 (B : Lo) (p : ShPass) (cd ch swell fd fh : Int) : endT (srunT Tryz.prog (okFn Tryz.prog) J0 B 50 1 (entryC Tryz.prog 4 248 (([.agg (encPass p).toArray, callV cd ch, .int .i64 swell, callV fd fh]).map (pushT 0 4))) H00 1
 (wOpen_q106 p cd ch swell fd fh ++ [(156, hvF), (168, HintT.pure (wOpen_z6 p fd fh) []), (180, hvT), (201, hvT), (207, HintT.pure (Value.bool true) []), (220, HintT.pure (Value.bool true) [])]) 0 [] []) [] = some (Value.bool true,
 [AllP [] ∧ PureC Tryz.prog J0 17 #[] (Value.bool true), AllP [] ∧ PureC Tryz.prog J0 28 (wOpen_z9 p fd fh) (Value.bool true), (!ltq 24 (↑(List.length (hoursL p (nD p fd fh) true 0)) : Int)) = true, ltq cd (nD p fd fh) = true, AllP [] ∧ PureC Tryz.prog J0 19 (wOpen_z4 p fd fh) (wOpen_z6 p fd fh), eqq (nD p fd fh) fd = false] ++ wOpen_p108 B p cd ch swell fd fh) := by kernel_rfl
noncomputable def wOpen_p109 (B : Lo) (p : ShPass) (cd ch swell fd fh : Int) : List Prop := [AllP [] ∧ PureC Tryz.prog J0 20 (wOpen_z2 p fd fh) wOpen_z11] ++ wOpen_p60 B p cd ch swell fd fh
noncomputable def wOpen_q109 (p : ShPass) (cd ch swell fd fh : Int) : ScriptT := wOpen_q58 p cd ch swell fd fh ++ [(66, HintT.pure wOpen_z11 []), (82, hvF), (87, hvF), (92, HintT.pure (Value.bool false) [])]
noncomputable def wOpen_p110 (B : Lo) (p : ShPass) (cd ch swell fd fh : Int) : List Prop := [ltq 24 (↑(List.length (hoursL p cd true 0)) : Int) = false] ++ wOpen_p109 B p cd ch swell fd fh
noncomputable def wOpen_p111 (B : Lo) (p : ShPass) (cd ch swell fd fh : Int) : List Prop := [ltq 24 (↑(List.length (hoursL p cd false 0)) : Int) = false] ++ wOpen_p110 B p cd ch swell fd fh
noncomputable def wOpen_p112 (B : Lo) (p : ShPass) (cd ch swell fd fh : Int) : List Prop := [AllP [] ∧ PureC Tryz.prog J0 28 (wOpen_z13 p cd ch) (Value.bool false)] ++ wOpen_p111 B p cd ch swell fd fh
noncomputable def wOpen_p113 (B : Lo) (p : ShPass) (cd ch swell fd fh : Int) : List Prop := [AllP [] ∧ PureC Tryz.prog J0 28 (wOpen_z12 p cd ch) (Value.bool true)] ++ wOpen_p112 B p cd ch swell fd fh
noncomputable def wOpen_q113 (p : ShPass) (cd ch swell fd fh : Int) : ScriptT := wOpen_q109 p cd ch swell fd fh ++ [(96, HintT.pure (Value.bool true) [])]
set_option maxRecDepth 100000 in
theorem wOpen_s50 (B : Lo) (p : ShPass) (cd ch swell fd fh : Int) : endT (srunT Tryz.prog (okFn Tryz.prog) J0 B 40 1 (entryC Tryz.prog 4 248 (([.agg (encPass p).toArray, callV cd ch, .int .i64 swell, callV fd fh]).map (pushT 0 4))) H00 1
 (wOpen_q113 p cd ch swell fd fh ++ [(122, hvT), (150, HintT.pure (Value.bool true) [])]) 0 [] []) [] = some (Value.bool true,
 [AllP [] ∧ PureC Tryz.prog J0 17 #[] (Value.bool true), ltq fd cd = true] ++ wOpen_p113 B p cd ch swell fd fh) := by kernel_rfl
noncomputable def wOpen_p114 (B : Lo) (p : ShPass) (cd ch swell fd fh : Int) : List Prop := [ltq fd cd = false] ++ wOpen_p113 B p cd ch swell fd fh
noncomputable def wOpen_q114 (p : ShPass) (cd ch swell fd fh : Int) : ScriptT := wOpen_q113 p cd ch swell fd fh ++ [(122, hvF)]
noncomputable def wOpen_p115 (B : Lo) (p : ShPass) (cd ch swell fd fh : Int) : List Prop := [eqq cd fd = true] ++ wOpen_p114 B p cd ch swell fd fh
noncomputable def wOpen_q115 (p : ShPass) (cd ch swell fd fh : Int) : ScriptT := wOpen_q114 p cd ch swell fd fh ++ [(128, hvT)]
set_option maxRecDepth 100000 in
theorem wOpen_s51 (B : Lo) (p : ShPass) (cd ch swell fd fh : Int) : endT (srunT Tryz.prog (okFn Tryz.prog) J0 B 40 1 (entryC Tryz.prog 4 248 (([.agg (encPass p).toArray, callV cd ch, .int .i64 swell, callV fd fh]).map (pushT 0 4))) H00 1
 (wOpen_q115 p cd ch swell fd fh ++ [(134, hvT), (150, HintT.pure (Value.bool true) [])]) 0 [] []) [] = some (Value.bool true,
 [AllP [] ∧ PureC Tryz.prog J0 17 #[] (Value.bool true), (!ltq ch fh) = true] ++ wOpen_p115 B p cd ch swell fd fh) := by kernel_rfl
set_option maxRecDepth 100000 in
theorem wOpen_s52 (B : Lo) (p : ShPass) (cd ch swell fd fh : Int) : endT (srunT Tryz.prog (okFn Tryz.prog) J0 B 40 1 (entryC Tryz.prog 4 248 (([.agg (encPass p).toArray, callV cd ch, .int .i64 swell, callV fd fh]).map (pushT 0 4))) H00 1
 (wOpen_q115 p cd ch swell fd fh ++ [(134, hvF), (150, HintT.pure (Value.bool true) [])]) 0 [] []) [] = some (Value.bool true,
 [AllP [] ∧ PureC Tryz.prog J0 17 #[] (Value.bool true), (!ltq ch fh) = false] ++ wOpen_p115 B p cd ch swell fd fh) := by kernel_rfl
set_option maxRecDepth 100000 in
theorem wOpen_s53 (B : Lo) (p : ShPass) (cd ch swell fd fh : Int) : endT (srunT Tryz.prog (okFn Tryz.prog) J0 B 40 1 (entryC Tryz.prog 4 248 (([.agg (encPass p).toArray, callV cd ch, .int .i64 swell, callV fd fh]).map (pushT 0 4))) H00 1
 (wOpen_q114 p cd ch swell fd fh ++ [(128, hvF), (150, HintT.pure (Value.bool true) [])]) 0 [] []) [] = some (Value.bool true,
 [AllP [] ∧ PureC Tryz.prog J0 17 #[] (Value.bool true), eqq cd fd = false] ++ wOpen_p114 B p cd ch swell fd fh) := by kernel_rfl
noncomputable def wOpen_p116 (B : Lo) (p : ShPass) (cd ch swell fd fh : Int) : List Prop := [AllP [] ∧ PureC Tryz.prog J0 28 (wOpen_z12 p cd ch) (Value.bool false)] ++ wOpen_p112 B p cd ch swell fd fh
noncomputable def wOpen_q116 (p : ShPass) (cd ch swell fd fh : Int) : ScriptT := wOpen_q109 p cd ch swell fd fh ++ [(96, HintT.pure (Value.bool false) [])]
set_option maxRecDepth 100000 in
theorem wOpen_s54 (B : Lo) (p : ShPass) (cd ch swell fd fh : Int) : endT (srunT Tryz.prog (okFn Tryz.prog) J0 B 40 1 (entryC Tryz.prog 4 248 (([.agg (encPass p).toArray, callV cd ch, .int .i64 swell, callV fd fh]).map (pushT 0 4))) H00 1
 (wOpen_q116 p cd ch swell fd fh ++ [(122, hvT), (150, HintT.pure (Value.bool true) [])]) 0 [] []) [] = some (Value.bool true,
 [AllP [] ∧ PureC Tryz.prog J0 17 #[] (Value.bool true), ltq fd cd = true] ++ wOpen_p116 B p cd ch swell fd fh) := by kernel_rfl
noncomputable def wOpen_p117 (B : Lo) (p : ShPass) (cd ch swell fd fh : Int) : List Prop := [ltq fd cd = false] ++ wOpen_p116 B p cd ch swell fd fh
noncomputable def wOpen_q117 (p : ShPass) (cd ch swell fd fh : Int) : ScriptT := wOpen_q116 p cd ch swell fd fh ++ [(122, hvF)]
noncomputable def wOpen_p118 (B : Lo) (p : ShPass) (cd ch swell fd fh : Int) : List Prop := [eqq cd fd = true] ++ wOpen_p117 B p cd ch swell fd fh
noncomputable def wOpen_q118 (p : ShPass) (cd ch swell fd fh : Int) : ScriptT := wOpen_q117 p cd ch swell fd fh ++ [(128, hvT)]
set_option maxRecDepth 100000 in
theorem wOpen_s55 (B : Lo) (p : ShPass) (cd ch swell fd fh : Int) : endT (srunT Tryz.prog (okFn Tryz.prog) J0 B 40 1 (entryC Tryz.prog 4 248 (([.agg (encPass p).toArray, callV cd ch, .int .i64 swell, callV fd fh]).map (pushT 0 4))) H00 1
 (wOpen_q118 p cd ch swell fd fh ++ [(134, hvT), (150, HintT.pure (Value.bool true) [])]) 0 [] []) [] = some (Value.bool true,
 [AllP [] ∧ PureC Tryz.prog J0 17 #[] (Value.bool true), (!ltq ch fh) = true] ++ wOpen_p118 B p cd ch swell fd fh) := by kernel_rfl
set_option maxRecDepth 100000 in
theorem wOpen_s56 (B : Lo) (p : ShPass) (cd ch swell fd fh : Int) : endT (srunT Tryz.prog (okFn Tryz.prog) J0 B 40 1 (entryC Tryz.prog 4 248 (([.agg (encPass p).toArray, callV cd ch, .int .i64 swell, callV fd fh]).map (pushT 0 4))) H00 1
 (wOpen_q118 p cd ch swell fd fh ++ [(134, hvF), (150, HintT.pure (Value.bool true) [])]) 0 [] []) [] = some (Value.bool true,
 [AllP [] ∧ PureC Tryz.prog J0 17 #[] (Value.bool true), (!ltq ch fh) = false] ++ wOpen_p118 B p cd ch swell fd fh) := by kernel_rfl
set_option maxRecDepth 100000 in
theorem wOpen_s57 (B : Lo) (p : ShPass) (cd ch swell fd fh : Int) : endT (srunT Tryz.prog (okFn Tryz.prog) J0 B 40 1 (entryC Tryz.prog 4 248 (([.agg (encPass p).toArray, callV cd ch, .int .i64 swell, callV fd fh]).map (pushT 0 4))) H00 1
 (wOpen_q117 p cd ch swell fd fh ++ [(128, hvF), (150, HintT.pure (Value.bool true) [])]) 0 [] []) [] = some (Value.bool true,
 [AllP [] ∧ PureC Tryz.prog J0 17 #[] (Value.bool true), eqq cd fd = false] ++ wOpen_p117 B p cd ch swell fd fh) := by kernel_rfl
noncomputable def wOpen_p119 (B : Lo) (p : ShPass) (cd ch swell fd fh : Int) : List Prop := [cd = (↑cd.toNat : Int) ∧ Int.toNat cd < List.length p.swell ∧ Array.extract (rowL encSp p.swell) (Int.toNat cd * TypeInfo.size Tryz.t25) (Int.toNat cd * TypeInfo.size Tryz.t25 + TypeInfo.size Tryz.t25) = (wOpen_z8 p cd), AllP [] ∧ PureC Tryz.prog J0 27 (wOpen_z0 p cd ch swell) (Value.tuple #[Value.bool false, Value.int IntKind.i64 2])] ++ wOpen_p3 B p cd ch swell fd fh
noncomputable def wOpen_q119 (p : ShPass) (cd ch swell fd fh : Int) : ScriptT := wOpen_q3 p cd ch swell fd fh ++ [(27, HintT.pure (Value.tuple #[Value.bool false, Value.int IntKind.i64 2]) []), (38, HintT.tidx cd.toNat (wOpen_z8 p cd))]
set_option maxRecDepth 100000 in
theorem wOpen_s58 (B : Lo) (p : ShPass) (cd ch swell fd fh : Int) : endT (srunT Tryz.prog (okFn Tryz.prog) J0 B 17 1 (entryC Tryz.prog 4 248 (([.agg (encPass p).toArray, callV cd ch, .int .i64 swell, callV fd fh]).map (pushT 0 4))) H00 1
 (wOpen_q119 p cd ch swell fd fh ++ [(41, hvT), (60, HintT.pure (Value.bool true) [])]) 0 [] []) [] = some (Value.bool true,
 [AllP [] ∧ PureC Tryz.prog J0 17 #[] (Value.bool true), ltq swell (Span.lo (List.getD p.swell cd.toNat default)) = true] ++ wOpen_p119 B p cd ch swell fd fh) := by kernel_rfl
set_option maxRecDepth 100000 in
theorem wOpen_s59 (B : Lo) (p : ShPass) (cd ch swell fd fh : Int) : endT (srunT Tryz.prog (okFn Tryz.prog) J0 B 17 1 (entryC Tryz.prog 4 248 (([.agg (encPass p).toArray, callV cd ch, .int .i64 swell, callV fd fh]).map (pushT 0 4))) H00 1
 (wOpen_q119 p cd ch swell fd fh ++ [(41, hvF), (48, HintT.tidx cd.toNat (wOpen_z8 p cd)), (51, hvT), (60, HintT.pure (Value.bool true) [])]) 0 [] []) [] = some (Value.bool true,
 [AllP [] ∧ PureC Tryz.prog J0 17 #[] (Value.bool true), ltq (Span.hi (List.getD p.swell cd.toNat default)) swell = true, cd = (↑cd.toNat : Int) ∧ Int.toNat cd < List.length p.swell ∧ Array.extract (rowL encSp p.swell) (Int.toNat cd * TypeInfo.size Tryz.t25) (Int.toNat cd * TypeInfo.size Tryz.t25 + TypeInfo.size Tryz.t25) = (wOpen_z8 p cd), ltq swell (Span.lo (List.getD p.swell cd.toNat default)) = false] ++ wOpen_p119 B p cd ch swell fd fh) := by kernel_rfl
set_option maxRecDepth 100000 in
theorem wOpen_s60 (B : Lo) (p : ShPass) (cd ch swell fd fh : Int) : endT (srunT Tryz.prog (okFn Tryz.prog) J0 B 10 1 (entryC Tryz.prog 4 248 (([.agg (encPass p).toArray, callV cd ch, .int .i64 swell, callV fd fh]).map (pushT 0 4))) H00 1
 (wOpen_q2 p cd ch swell fd fh ++ [(21, HintT.pure (Value.bool false) []), (24, HintT.pure (Value.bool true) [])]) 0 [] []) [] = some (Value.bool true,
 [AllP [] ∧ PureC Tryz.prog J0 17 #[] (Value.bool true), AllP [] ∧ PureC Tryz.prog J0 25 (wOpen_z2 p fd fh) (Value.bool false)] ++ wOpen_p2 B p cd ch swell fd fh) := by kernel_rfl
set_option maxRecDepth 100000 in
theorem wOpen_s61 (B : Lo) (p : ShPass) (cd ch swell fd fh : Int) : endT (srunT Tryz.prog (okFn Tryz.prog) J0 B 10 1 (entryC Tryz.prog 4 248 (([.agg (encPass p).toArray, callV cd ch, .int .i64 swell, callV fd fh]).map (pushT 0 4))) H00 1
 (wOpen_q2 p cd ch swell fd fh ++ [(21, HintT.pure (Value.bool false) []), (24, HintT.pure (Value.bool true) [])]) 0 [] []) [] = some (Value.bool true,
 [AllP [] ∧ PureC Tryz.prog J0 17 #[] (Value.bool true), AllP [] ∧ PureC Tryz.prog J0 25 (wOpen_z2 p fd fh) (Value.bool false)] ++ wOpen_p2 B p cd ch swell fd fh) := by kernel_rfl
set_option maxRecDepth 100000 in
theorem wOpen_s62 (B : Lo) (p : ShPass) (cd ch swell fd fh : Int) : endT (srunT Tryz.prog (okFn Tryz.prog) J0 B 10 1 (entryC Tryz.prog 4 248 (([.agg (encPass p).toArray, callV cd ch, .int .i64 swell, callV fd fh]).map (pushT 0 4))) H00 1
 (wOpen_q1 p cd ch swell fd fh ++ [(15, HintT.pure (Value.bool false) []), (24, HintT.pure (Value.bool true) [])]) 0 [] []) [] = some (Value.bool true,
 [AllP [] ∧ PureC Tryz.prog J0 17 #[] (Value.bool true), AllP [] ∧ PureC Tryz.prog J0 25 (wOpen_z3 p cd ch) (Value.bool false)] ++ wOpen_p1 B p cd ch swell fd fh) := by kernel_rfl
set_option maxRecDepth 100000 in
theorem wOpen_s63 (B : Lo) (p : ShPass) (cd ch swell fd fh : Int) : endT (srunT Tryz.prog (okFn Tryz.prog) J0 B 10 1 (entryC Tryz.prog 4 248 (([.agg (encPass p).toArray, callV cd ch, .int .i64 swell, callV fd fh]).map (pushT 0 4))) H00 1
 (wOpen_q1 p cd ch swell fd fh ++ [(15, HintT.pure (Value.bool false) []), (24, HintT.pure (Value.bool true) [])]) 0 [] []) [] = some (Value.bool true,
 [AllP [] ∧ PureC Tryz.prog J0 17 #[] (Value.bool true), AllP [] ∧ PureC Tryz.prog J0 25 (wOpen_z3 p cd ch) (Value.bool false)] ++ wOpen_p1 B p cd ch swell fd fh) := by kernel_rfl
set_option maxRecDepth 100000 in
theorem wOpen_s64 (B : Lo) (p : ShPass) (cd ch swell fd fh : Int) : endT (srunT Tryz.prog (okFn Tryz.prog) J0 B 10 1 (entryC Tryz.prog 4 248 (([.agg (encPass p).toArray, callV cd ch, .int .i64 swell, callV fd fh]).map (pushT 0 4))) H00 1
 (wOpen_q0 p cd ch swell fd fh ++ [(9, HintT.pure (Value.bool false) []), (24, HintT.pure (Value.bool true) [])]) 0 [] []) [] = some (Value.bool true,
 [AllP [] ∧ PureC Tryz.prog J0 17 #[] (Value.bool true), AllP [] ∧ PureC Tryz.prog J0 21 (wOpen_z5 p) (Value.bool false)] ++ wOpen_p0 B p cd ch swell fd fh) := by kernel_rfl
set_option maxRecDepth 100000 in
theorem wOpen_s65 (B : Lo) (p : ShPass) (cd ch swell fd fh : Int) : endT (srunT Tryz.prog (okFn Tryz.prog) J0 B 10 1 (entryC Tryz.prog 4 248 (([.agg (encPass p).toArray, callV cd ch, .int .i64 swell, callV fd fh]).map (pushT 0 4))) H00 1
 [(5, HintT.pure (Value.bool false) []), (24, HintT.pure (Value.bool true) [])] 0 [] []) [] = some (Value.bool true,
 [AllP [] ∧ PureC Tryz.prog J0 17 #[] (Value.bool true), AllP [] ∧ PureC Tryz.prog J0 16 (wOpen_z5 p) (Value.bool false)]) := by kernel_rfl
set_option maxRecDepth 100000 in
theorem wOpen_s66 (B : Lo) (p : ShPass) (cd ch swell fd fh : Int) : endT (srunT Tryz.prog (okFn Tryz.prog) J0 B 10 1 (entryC Tryz.prog 4 248 (([.agg (encPass p).toArray, callV cd ch, .int .i64 swell, callV fd fh]).map (pushT 0 4))) H00 1
 [(5, HintT.pure (Value.bool false) []), (24, HintT.pure (Value.bool true) [])] 0 [] []) [] = some (Value.bool true,
 [AllP [] ∧ PureC Tryz.prog J0 17 #[] (Value.bool true), AllP [] ∧ PureC Tryz.prog J0 16 (wOpen_z5 p) (Value.bool false)]) := by kernel_rfl
end Go.Proofs.YtiabgkiccaodmaaGreat