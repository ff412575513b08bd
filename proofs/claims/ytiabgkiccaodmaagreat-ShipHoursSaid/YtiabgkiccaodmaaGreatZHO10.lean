/- The reference's passes. -/
import Derived.Test.YtiabgkiccaodmaaGreatZHO09
set_option linter.all false
namespace Go.Proofs.YtiabgkiccaodmaaGreat
open Go Go.CE Go.RowKit
theorem inB_iff {x lo hi : Int} : inB x lo hi = true ↔ lo ≤ x ∧ x ≤ hi := by simp [inB]
theorem spanB_iff {a b lo hi : Int} : spanB a b lo hi = true ↔ lo ≤ a ∧ a ≤ b ∧ b ≤ hi := by simp [spanB]
theorem pass_facts {p : ShPass} (h : passB p = true) : (1 ≤ p.tides.length ∧ p.tides.length ≤ 50) ∧ (0 ≤ p.depth ∧ p.depth ≤ 1000) ∧ (0 ≤ p.draft ∧ p.draft ≤ 1000) ∧ (1 ≤ p.swell.length ∧ p.swell.length ≤ 60) ∧ 0 ≤ p.llo ∧ p.llo ≤ p.lhi ∧ p.lhi ≤ 23 := by
 simp only [passB, passC, passD, Bool.and_eq_true, inB_iff, spanB_iff] at h
 omega
theorem tide_in {p : ShPass} (h : passB p = true) {k : Nat} (hk : k < p.tides.length) : -1000 ≤ p.tides.getD k default ∧ p.tides.getD k default ≤ 1000 := by
 simp only [passB, Bool.and_eq_true, List.all_eq_true] at h
 have := h.1 _ (List.getElem_mem hk)
 simp only [inB_iff] at this
 simpa [hk] using this
theorem swell_in {p : ShPass} (h : passB p = true) {k : Nat} (hk : k < p.swell.length) : 0 ≤ (p.swell.getD k default).lo ∧ (p.swell.getD k default).lo ≤ (p.swell.getD k default).hi ∧ (p.swell.getD k default).hi ≤ 1000 := by
 simp only [passB, passC, Bool.and_eq_true, List.all_eq_true] at h
 have := h.2.1 _ (List.getElem_mem hk)
 simp only [spanB_iff] at this
 simpa [hk] using this
def tideK (p : ShPass) (d h : Int) : Nat := (Int.tmod (d * 24 + h) p.tides.length).toNat
theorem tideK_lt {p : ShPass} (hp : passB p = true) {d h : Int} (hd : 0 ≤ d) (hh : 0 ≤ h) : 0 ≤ Int.tmod (d * 24 + h) p.tides.length ∧ Int.tmod (d * 24 + h) p.tides.length < p.tides.length ∧ tideK p d h < p.tides.length := by
 have := pass_facts hp
 have h1 : 0 ≤ Int.tmod (d * 24 + h) p.tides.length := Int.tmod_nonneg _ (by omega)
 have h2 : Int.tmod (d * 24 + h) p.tides.length < p.tides.length := Int.tmod_lt_of_pos _ (by omega)
 refine ⟨h1, h2, ?_⟩
 unfold tideK
 omega
def goesB (p : ShPass) (d h s : Int) : Bool := inB h p.llo p.lhi && decide (p.draft ≤ p.depth + p.tides.getD (tideK p d h) default - s)
noncomputable def rGoes_p0 (B : Lo) (p : ShPass) (d h s : Int) : List Prop := [Int.tmod (d * 24 + h) (↑p.tides.length : Int) = (↑(Int.toNat (Int.tmod (d * 24 + h) (↑p.tides.length : Int))) : Int) ∧ Int.toNat (Int.tmod (d * 24 + h) (↑p.tides.length : Int)) < List.length p.tides ∧ Array.extract (rowL encI p.tides) (Int.toNat (Int.tmod (d * 24 + h) (↑p.tides.length : Int)) * TypeInfo.size Tryz.t3) (Int.toNat (Int.tmod (d * 24 + h) (↑p.tides.length : Int)) * TypeInfo.size Tryz.t3 + TypeInfo.size Tryz.t3) = #[Value.int IntKind.i64 (List.getD p.tides (Int.toNat (Int.tmod (d * 24 + h) (↑p.tides.length : Int))) default)], BinTo Tryz.prog BinOp.rem 3 (tget { len := 16000, tr := Tri.set 14 (Tri.set 14 Tri.lf 18 (Value.int IntKind.i64 (↑p.tides.length : Int))) 15 (Value.int IntKind.i64 (d * 24 + h)) } 15) (tget { len := 16000, tr := Tri.set 14 (Tri.set 14 Tri.lf 18 (Value.int IntKind.i64 (↑p.tides.length : Int))) 15 (Value.int IntKind.i64 (d * 24 + h)) } 18) (Value.int IntKind.i64 (Int.tmod (d * 24 + h) (↑p.tides.length : Int))), wq (d * 24 + h) = d * 24 + h, wq (d * 24) = d * 24] ++ ([] : List Prop)
noncomputable def rGoes_q0 (p : ShPass) (d h s : Int) : ScriptT := [(7, hvI (d * 24)), (10, hvI (d * 24 + h)), (14, HintT.bin (Value.int IntKind.i64 (Int.tmod (d * 24 + h) (↑p.tides.length : Int)))), (15, HintT.tidx (Int.toNat (Int.tmod (d * 24 + h) (↑p.tides.length : Int))) #[Value.int IntKind.i64 (List.getD p.tides (Int.toNat (Int.tmod (d * 24 + h) (↑p.tides.length : Int))) default)])]
noncomputable def rGoes_p1 (B : Lo) (p : ShPass) (d h s : Int) : List Prop := [wq (p.depth + List.getD p.tides (Int.toNat (Int.tmod (d * 24 + h) (↑p.tides.length : Int))) default - s) = p.depth + List.getD p.tides (Int.toNat (Int.tmod (d * 24 + h) (↑p.tides.length : Int))) default - s, wq (p.depth + List.getD p.tides (Int.toNat (Int.tmod (d * 24 + h) (↑p.tides.length : Int))) default) = p.depth + List.getD p.tides (Int.toNat (Int.tmod (d * 24 + h) (↑p.tides.length : Int))) default, AllP [] ∧ PureC Tryz.prog J0 69 #[Value.int IntKind.i64 h, Value.int IntKind.i64 p.llo, Value.int IntKind.i64 p.lhi] (Value.bool true)] ++ rGoes_p0 B p d h s
noncomputable def rGoes_q1 (p : ShPass) (d h s : Int) : ScriptT := rGoes_q0 p d h s ++ [(26, HintT.pure (Value.bool true) []), (31, hvI (p.depth + List.getD p.tides (Int.toNat (Int.tmod (d * 24 + h) (↑p.tides.length : Int))) default)), (33, hvI (p.depth + List.getD p.tides (Int.toNat (Int.tmod (d * 24 + h) (↑p.tides.length : Int))) default - s))]
set_option maxRecDepth 100000 in
theorem rGoes_s0 (B : Lo) (p : ShPass) (d h s : Int) : endT (srunT Tryz.prog (okFn Tryz.prog) J0 B 8 1 (entryC Tryz.prog 71 42 (([.agg (encPass p).toArray, .agg #[.int .i64 d, .int .i64 h], .int .i64 s]).map (pushT 0 4))) H00 1
 (rGoes_q1 p d h s ++ [(36, hvT)]) 0 [] []) [] = some (Value.bool true,
 [(!ltq (p.depth + List.getD p.tides (Int.toNat (Int.tmod (d * 24 + h) (↑p.tides.length : Int))) default - s) p.draft) = true] ++ rGoes_p1 B p d h s) := by kernel_rfl
set_option maxRecDepth 100000 in
theorem rGoes_s1 (B : Lo) (p : ShPass) (d h s : Int) : endT (srunT Tryz.prog (okFn Tryz.prog) J0 B 8 1 (entryC Tryz.prog 71 42 (([.agg (encPass p).toArray, .agg #[.int .i64 d, .int .i64 h], .int .i64 s]).map (pushT 0 4))) H00 1
 (rGoes_q1 p d h s ++ [(36, hvF)]) 0 [] []) [] = some (Value.bool false,
 [(!ltq (p.depth + List.getD p.tides (Int.toNat (Int.tmod (d * 24 + h) (↑p.tides.length : Int))) default - s) p.draft) = false] ++ rGoes_p1 B p d h s) := by kernel_rfl
set_option maxRecDepth 100000 in
theorem rGoes_s2 (B : Lo) (p : ShPass) (d h s : Int) : endT (srunT Tryz.prog (okFn Tryz.prog) J0 B 8 1 (entryC Tryz.prog 71 42 (([.agg (encPass p).toArray, .agg #[.int .i64 d, .int .i64 h], .int .i64 s]).map (pushT 0 4))) H00 1
 (rGoes_q0 p d h s ++ [(26, HintT.pure (Value.bool false) [])]) 0 [] []) [] = some (Value.bool false,
 [AllP [] ∧ PureC Tryz.prog J0 69 #[Value.int IntKind.i64 h, Value.int IntKind.i64 p.llo, Value.int IntKind.i64 p.lhi] (Value.bool false)] ++ rGoes_p0 B p d h s) := by kernel_rfl
set_option maxHeartbeats 4000000 in
theorem rGoes_e (p : ShPass) (d h s : Int) (hp : passB p = true) (hd : 0 ≤ d ∧ d ≤ 100) (hh : 0 ≤ h ∧ h ≤ 100) (hs : -100000 ≤ s ∧ s ≤ 100000) {B : Lo} (hJ : ∀ w, B.has w → J0 w) : EndsT Tryz.prog B (entryC Tryz.prog 71 42 (([.agg (encPass p).toArray, .agg #[.int .i64 d, .int .i64 h], .int .i64 s]).map (pushT 0 4))) (.bool (goesB p d h s)) := by
 have hP := pass_facts hp
 have hT := tideK_lt hp hd.1 hh.1
 have hU := tide_in hp hT.2.2
 have hp0 : AllP (rGoes_p0 B p d h s) := by
  unfold tideK at hT hU
  exact ⟨⟨by omega, by omega, (rowL_extract (z := 1) (fun _ => rfl) (by omega))⟩, ⟨(bin_rem (by omega)), ⟨(wq_in (by omega) (by omega)), ⟨(wq_in (by omega) (by omega)), trivial⟩⟩⟩⟩
 cases q0 : inB h p.llo p.lhi with
 | true =>
   have hp1 : AllP (rGoes_p1 B p d h s) := by
    unfold tideK at hT hU
    exact ⟨(wq_in (by omega) (by omega)), ⟨(wq_in (by omega) (by omega)), ⟨⟨trivial, (by have t_ := rin (h) p.llo p.lhi; rw [q0] at t_; exact t_)⟩, hp0⟩⟩⟩
   by_cases q1 : (p.draft : Int) ≤ (p.depth + List.getD p.tides (Int.toNat (Int.tmod (d * 24 + h) (↑p.tides.length : Int))) default - s)
   ·
    unfold tideK at hT hU
    exact (GoE.endsT okF hJ mixed_ok GoE.start (rGoes_s0 B p d h s)
     ⟨(nltq_t q1), hp1⟩).cast (by first | rfl | (simp [goesB, tideK, *]; done) | (simp_all [goesB, tideK]; done) | (simp_all [goesB, tideK]; omega))
   ·
    unfold tideK at hT hU
    exact (GoE.endsT okF hJ mixed_ok GoE.start (rGoes_s1 B p d h s)
     ⟨(nltq_f (Int.not_le.1 q1)), hp1⟩).cast (by first | rfl | (simp [goesB, tideK, *]; done) | (simp_all [goesB, tideK]; done) | (simp_all [goesB, tideK]; omega))
 | false =>
   unfold tideK at hT hU
   exact (GoE.endsT okF hJ mixed_ok GoE.start (rGoes_s2 B p d h s)
    ⟨⟨trivial, (by have t_ := rin (h) p.llo p.lhi; rw [q0] at t_; exact t_)⟩, hp0⟩).cast (by first | rfl | (simp [goesB, tideK, *]; done) | (simp_all [goesB, tideK]; done) | (simp_all [goesB, tideK]; omega))
theorem rGoes (p : ShPass) (d h s : Int) (hp : passB p = true) (hd : 0 ≤ d ∧ d ≤ 100) (hh : 0 ≤ h ∧ h ≤ 100) (hs : -100000 ≤ s ∧ s ≤ 100000) : PureC Tryz.prog J0 71 #[.agg (encPass p).toArray, .agg #[.int .i64 d, .int .i64 h], .int .i64 s] (.bool (goesB p d h s)) :=
 pureC_of (ts := [.agg (encPass p).toArray, .agg #[.int .i64 d, .int .i64 h], .int .i64 s]) J0_st (c0 := entryC Tryz.prog 71 42 (([.agg (encPass p).toArray, .agg #[.int .i64 d, .int .i64 h], .int .i64 s]).map (pushT 0 4))) (by kernel_rfl) (by kernel_rfl) fun B hJ => rGoes_e p d h s hp hd hh hs hJ
noncomputable def rSurely_p0 (B : Lo) (p : ShPass) (d h : Int) : List Prop := [d = (↑d.toNat : Int) ∧ Int.toNat d < List.length p.swell ∧ Array.extract (rowL encSp p.swell) (Int.toNat d * TypeInfo.size Tryz.t25) (Int.toNat d * TypeInfo.size Tryz.t25 + TypeInfo.size Tryz.t25) = #[Value.int IntKind.i64 (Span.lo (List.getD p.swell d.toNat default)), Value.int IntKind.i64 (Span.hi (List.getD p.swell d.toNat default))]] ++ ([] : List Prop)
noncomputable def rSurely_q0 (p : ShPass) (d h : Int) : ScriptT := [(9, HintT.tidx d.toNat #[Value.int IntKind.i64 (Span.lo (List.getD p.swell d.toNat default)), Value.int IntKind.i64 (Span.hi (List.getD p.swell d.toNat default))])]
set_option maxRecDepth 100000 in
theorem rSurely_s0 (B : Lo) (p : ShPass) (d h : Int) : endT (srunT Tryz.prog (okFn Tryz.prog) J0 B 6 1 (entryC Tryz.prog 72 15 (([.agg (encPass p).toArray, .agg #[.int .i64 d, .int .i64 h]]).map (pushT 0 4))) H00 1
 (rSurely_q0 p d h ++ [(12, HintT.pure (Value.bool true) [])]) 0 [] []) [] = some (Value.bool true,
 [AllP [] ∧ PureC Tryz.prog J0 71 #[Value.agg #[slT p.tides.length (rowL encI p.tides), Value.int IntKind.i64 p.depth, Value.int IntKind.i64 p.draft, slT p.swell.length (rowL encSp p.swell), Value.int IntKind.i64 p.llo, Value.int IntKind.i64 p.lhi], Value.agg #[Value.int IntKind.i64 d, Value.int IntKind.i64 h], Value.int IntKind.i64 (Span.hi (List.getD p.swell d.toNat default))] (Value.bool true)] ++ rSurely_p0 B p d h) := by kernel_rfl
set_option maxRecDepth 100000 in
theorem rSurely_s1 (B : Lo) (p : ShPass) (d h : Int) : endT (srunT Tryz.prog (okFn Tryz.prog) J0 B 6 1 (entryC Tryz.prog 72 15 (([.agg (encPass p).toArray, .agg #[.int .i64 d, .int .i64 h]]).map (pushT 0 4))) H00 1
 (rSurely_q0 p d h ++ [(12, HintT.pure (Value.bool false) [])]) 0 [] []) [] = some (Value.bool false,
 [AllP [] ∧ PureC Tryz.prog J0 71 #[Value.agg #[slT p.tides.length (rowL encI p.tides), Value.int IntKind.i64 p.depth, Value.int IntKind.i64 p.draft, slT p.swell.length (rowL encSp p.swell), Value.int IntKind.i64 p.llo, Value.int IntKind.i64 p.lhi], Value.agg #[Value.int IntKind.i64 d, Value.int IntKind.i64 h], Value.int IntKind.i64 (Span.hi (List.getD p.swell d.toNat default))] (Value.bool false)] ++ rSurely_p0 B p d h) := by kernel_rfl
set_option maxHeartbeats 4000000 in
theorem rSurely_e (p : ShPass) (d h : Int) (hp : passB p = true) (hd : 0 ≤ d ∧ d < p.swell.length) (hh : 0 ≤ h ∧ h ≤ 100) {B : Lo} (hJ : ∀ w, B.has w → J0 w) : EndsT Tryz.prog B (entryC Tryz.prog 72 15 (([.agg (encPass p).toArray, .agg #[.int .i64 d, .int .i64 h]]).map (pushT 0 4))) (.bool (goesB p d h (p.swell.getD d.toNat default).hi)) := by
 have hP := pass_facts hp
 have hS := swell_in hp (k := d.toNat) (by omega)
 have hp0 : AllP (rSurely_p0 B p d h) := by
  exact ⟨⟨by omega, by omega, (rowL_extract (z := 2) (fun _ => rfl) (by omega))⟩, trivial⟩
 cases q0 : goesB p d h (Span.hi (List.getD p.swell d.toNat default)) with
 | true =>
   exact (GoE.endsT okF hJ mixed_ok GoE.start (rSurely_s0 B p d h)
    ⟨⟨trivial, (by have t_ := rGoes (p) (d) (h) (Span.hi (List.getD p.swell d.toNat default)) (by first | with_reducible assumption | omega | simp_all) (by first | with_reducible assumption | omega | simp_all) (by first | with_reducible assumption | omega | simp_all) (by first | with_reducible assumption | omega | simp_all); rw [q0] at t_; exact t_)⟩, hp0⟩).cast (by first | rfl | (simp [*]; done) | (simp_all []; done) | (simp_all []; omega))
 | false =>
   exact (GoE.endsT okF hJ mixed_ok GoE.start (rSurely_s1 B p d h)
    ⟨⟨trivial, (by have t_ := rGoes (p) (d) (h) (Span.hi (List.getD p.swell d.toNat default)) (by first | with_reducible assumption | omega | simp_all) (by first | with_reducible assumption | omega | simp_all) (by first | with_reducible assumption | omega | simp_all) (by first | with_reducible assumption | omega | simp_all); rw [q0] at t_; exact t_)⟩, hp0⟩).cast (by first | rfl | (simp [*]; done) | (simp_all []; done) | (simp_all []; omega))
theorem rSurely (p : ShPass) (d h : Int) (hp : passB p = true) (hd : 0 ≤ d ∧ d < p.swell.length) (hh : 0 ≤ h ∧ h ≤ 100) : PureC Tryz.prog J0 72 #[.agg (encPass p).toArray, .agg #[.int .i64 d, .int .i64 h]] (.bool (goesB p d h (p.swell.getD d.toNat default).hi)) :=
 pureC_of (ts := [.agg (encPass p).toArray, .agg #[.int .i64 d, .int .i64 h]]) J0_st (c0 := entryC Tryz.prog 72 15 (([.agg (encPass p).toArray, .agg #[.int .i64 d, .int .i64 h]]).map (pushT 0 4))) (by kernel_rfl) (by kernel_rfl) fun B hJ => rSurely_e p d h hp hd hh hJ
def swellOf (p : ShPass) (d : Int) (surely : Bool) : Int := bif surely then (p.swell.getD d.toNat default).hi else (p.swell.getD d.toNat default).lo
def hoursL (p : ShPass) (d : Int) (surely : Bool) (h : Int) : List Int := (upI h 24).filter fun h => goesB p d h (swellOf p d surely)
theorem hoursL_cons {p : ShPass} {d h : Int} {s : Bool} (hl : h < 24) : hoursL p d s h = if goesB p d h (swellOf p d s) = true then h :: hoursL p d s (h + 1) else hoursL p d s (h + 1) := by
 unfold hoursL
 rw [upI_cons hl, List.filter_cons]
theorem hoursL_nil {p : ShPass} {d h : Int} {s : Bool} (hl : 24 ≤ h) : hoursL p d s h = [] := by
 unfold hoursL
 rw [upI_nil hl]; rfl
def rHours_v0 (p : ShPass) (d : Int) (s : Bool) (h : Int) : List Value := [Value.int IntKind.i64 d, .bool s, pA 2 0, Value.slice none 0 0, .int .i64 h]
def rHours_o0 (p : ShPass) (d : Int) (s : Bool) (h : Int) : List Obj := [Obj.cells #[topV 1 (slT p.tides.length (rowL encI p.tides)), Value.int IntKind.i64 p.depth, Value.int IntKind.i64 p.draft, topV 1 (slT p.swell.length (rowL encSp p.swell)), Value.int IntKind.i64 p.llo, Value.int IntKind.i64 p.lhi] 27]
noncomputable def rHours_t0 : List Item := ([.code [1, 1, 0, 1, 0, 0], .inLoop [1, 1, 0, 1, 0, 0], .inBlock 0, .code [1, 1, 1]]).map (it (bodyOf Tryz.prog 24))
def rHours_h0 (B : Lo) (c0 : CF) (p : ShPass) (d : Int) (s : Bool) (h : Int) : Prop := ∃ dJ : Nat → Value, (∀ t, Loose (dJ t)) ∧ GoE Tryz.prog B c0 H00 1 (headC 24 38 (([1, 2, 3, 7, 8] : List Nat).zip (rHours_v0 p d s h)) dJ rHours_t0) (headH (rHours_o0 p d s h)) (2 + (rHours_o0 p d s h).length) []
def rHours_v1 (p : ShPass) (d : Int) (s : Bool) (h : Int) (out : List Int) (n : Nat) : List Value := [Value.int IntKind.i64 d, .bool s, pA 2 0, .slice (some ⟨3, 0, none⟩) n 1, .int .i64 h]
def rHours_o1 (p : ShPass) (d : Int) (s : Bool) (h : Int) (out : List Int) (n : Nat) : List Obj := [Obj.cells #[topV 1 (slT p.tides.length (rowL encI p.tides)), Value.int IntKind.i64 p.depth, Value.int IntKind.i64 p.draft, topV 1 (slT p.swell.length (rowL encSp p.swell)), Value.int IntKind.i64 p.llo, Value.int IntKind.i64 p.lhi] 27, .cells (rowL encI out) 3 (0, 0)]
noncomputable def rHours_t1 : List Item := ([.code [1, 1, 0, 1, 0, 0], .inLoop [1, 1, 0, 1, 0, 0], .inBlock 0, .code [1, 1, 1]]).map (it (bodyOf Tryz.prog 24))
def rHours_h1 (B : Lo) (c0 : CF) (p : ShPass) (d : Int) (s : Bool) (h : Int) (out : List Int) (n : Nat) : Prop := ∃ dJ : Nat → Value, (∀ t, Loose (dJ t)) ∧ GoE Tryz.prog B c0 H00 1 (headC 24 38 (([1, 2, 3, 7, 8] : List Nat).zip (rHours_v1 p d s h out n)) dJ rHours_t1) (headH (rHours_o1 p d s h out n)) (2 + (rHours_o1 p d s h out n).length) []
noncomputable def rHours_z0 (p : ShPass) (d : Int) (h : Int) : Array Value := #[Value.agg #[slT p.tides.length (rowL encI p.tides), Value.int IntKind.i64 p.depth, Value.int IntKind.i64 p.draft, slT p.swell.length (rowL encSp p.swell), Value.int IntKind.i64 p.llo, Value.int IntKind.i64 p.lhi], Value.agg #[Value.int IntKind.i64 d, Value.int IntKind.i64 h], Value.int IntKind.i64 (Span.hi (List.getD p.swell d.toNat default))]
noncomputable def rHours_z1 (p : ShPass) (d : Int) (h : Int) : Array Value := #[Value.agg #[slT p.tides.length (rowL encI p.tides), Value.int IntKind.i64 p.depth, Value.int IntKind.i64 p.draft, slT p.swell.length (rowL encSp p.swell), Value.int IntKind.i64 p.llo, Value.int IntKind.i64 p.lhi], Value.agg #[Value.int IntKind.i64 d, Value.int IntKind.i64 h], Value.int IntKind.i64 (Span.lo (List.getD p.swell d.toNat default))]
noncomputable def rHours_z2 (p : ShPass) (d : Int) : Array Value := #[Value.int IntKind.i64 (Span.lo (List.getD p.swell d.toNat default)), Value.int IntKind.i64 (Span.hi (List.getD p.swell d.toNat default))]
noncomputable def rHours_p0 (B : Lo) (p : ShPass) (d : Int)  (h : Int) (dJ0 : Nat → Value) : List Prop := [d = (↑d.toNat : Int) ∧ Int.toNat d < List.length p.swell ∧ Array.extract (rowL encSp p.swell) (Int.toNat d * TypeInfo.size Tryz.t25) (Int.toNat d * TypeInfo.size Tryz.t25 + TypeInfo.size Tryz.t25) = (rHours_z2 p d), d = (↑d.toNat : Int) ∧ Int.toNat d < List.length p.swell ∧ Array.extract (rowL encSp p.swell) (Int.toNat d * TypeInfo.size Tryz.t25) (Int.toNat d * TypeInfo.size Tryz.t25 + TypeInfo.size Tryz.t25) = (rHours_z2 p d), ltq h 24 = true] ++ ([] : List Prop)
noncomputable def rHours_q0 (p : ShPass) (d : Int)  (h : Int) (dJ0 : Nat → Value) : ScriptT := [(1, hvT), (5, HintT.tidx d.toNat (rHours_z2 p d)), (13, HintT.tidx d.toNat (rHours_z2 p d))]
set_option maxRecDepth 100000 in
theorem rHours_s0 (B : Lo) (p : ShPass) (d : Int)  (h : Int) (dJ0 : Nat → Value) : landM (srunT Tryz.prog (okFn Tryz.prog) J0 B 21 1 (headC 24 38 (([1, 2, 3, 7, 8] : List Nat).zip (rHours_v0 p d true h)) dJ0 rHours_t0) (headH (rHours_o0 p d true h)) (2 + (rHours_o0 p d true h).length)
 (rHours_q0 p d h dJ0 ++ [(22, HintT.pure (Value.bool true) []), (29, hvI (h + 1))]) 0 [] []) [1, 2, 3, 7, 8] [(2, KS.auto), (4, KS.cells [] (rowL encI [h]))] [] = some ⟨24, 38, rHours_t1, [], .run, none, rHours_v1 p d true (h + 1) ([h]) (1), rHours_o1 p d true (h + 1) ([h]) (1),
 [CellsM 1 [] (#[Value.int IntKind.i64 h]) (rowL encI [h]), wq (h + 1) = h + 1, AllP [] ∧ PureC Tryz.prog J0 71 (rHours_z0 p d h) (Value.bool true)] ++ rHours_p0 B p d h dJ0⟩ := by kernel_rfl
set_option maxRecDepth 100000 in
theorem rHours_s1 (B : Lo) (p : ShPass) (d : Int)  (h : Int) (dJ0 : Nat → Value) : landM (srunT Tryz.prog (okFn Tryz.prog) J0 B 21 1 (headC 24 38 (([1, 2, 3, 7, 8] : List Nat).zip (rHours_v0 p d true h)) dJ0 rHours_t0) (headH (rHours_o0 p d true h)) (2 + (rHours_o0 p d true h).length)
 (rHours_q0 p d h dJ0 ++ [(22, HintT.pure (Value.bool false) []), (24, hvI (h + 1))]) 0 [] []) [1, 2, 3, 7, 8] [(2, KS.auto)] [] = some ⟨24, 38, rHours_t0, [], .run, none, rHours_v0 p d true (h + 1), rHours_o0 p d true (h + 1),
 [wq (h + 1) = h + 1, AllP [] ∧ PureC Tryz.prog J0 71 (rHours_z0 p d h) (Value.bool false)] ++ rHours_p0 B p d h dJ0⟩ := by kernel_rfl
set_option maxRecDepth 100000 in
theorem rHours_s2 (B : Lo) (p : ShPass) (d : Int)  (h : Int) (dJ0 : Nat → Value) : endT (srunT Tryz.prog (okFn Tryz.prog) J0 B 9 1 (headC 24 38 (([1, 2, 3, 7, 8] : List Nat).zip (rHours_v0 p d true h)) dJ0 rHours_t0) (headH (rHours_o0 p d true h)) (2 + (rHours_o0 p d true h).length)
 [(1, hvF)] 0 [] []) [] = some (slT 0 #[],
 [ltq h 24 = false]) := by kernel_rfl
noncomputable def rHours_p1 (B : Lo) (p : ShPass) (d : Int)  (h : Int) (dJ0 : Nat → Value) : List Prop := [d = (↑d.toNat : Int) ∧ Int.toNat d < List.length p.swell ∧ Array.extract (rowL encSp p.swell) (Int.toNat d * TypeInfo.size Tryz.t25) (Int.toNat d * TypeInfo.size Tryz.t25 + TypeInfo.size Tryz.t25) = (rHours_z2 p d), ltq h 24 = true] ++ ([] : List Prop)
noncomputable def rHours_q1 (p : ShPass) (d : Int)  (h : Int) (dJ0 : Nat → Value) : ScriptT := [(1, hvT), (5, HintT.tidx d.toNat (rHours_z2 p d))]
set_option maxRecDepth 100000 in
theorem rHours_s3 (B : Lo) (p : ShPass) (d : Int)  (h : Int) (dJ0 : Nat → Value) : landM (srunT Tryz.prog (okFn Tryz.prog) J0 B 21 1 (headC 24 38 (([1, 2, 3, 7, 8] : List Nat).zip (rHours_v0 p d false h)) dJ0 rHours_t0) (headH (rHours_o0 p d false h)) (2 + (rHours_o0 p d false h).length)
 (rHours_q1 p d h dJ0 ++ [(15, HintT.pure (Value.bool true) []), (22, hvI (h + 1))]) 0 [] []) [1, 2, 3, 7, 8] [(2, KS.auto), (4, KS.cells [] (rowL encI [h]))] [] = some ⟨24, 38, rHours_t1, [], .run, none, rHours_v1 p d false (h + 1) ([h]) (1), rHours_o1 p d false (h + 1) ([h]) (1),
 [CellsM 1 [] (#[Value.int IntKind.i64 h]) (rowL encI [h]), wq (h + 1) = h + 1, AllP [] ∧ PureC Tryz.prog J0 71 (rHours_z1 p d h) (Value.bool true)] ++ rHours_p1 B p d h dJ0⟩ := by kernel_rfl
set_option maxRecDepth 100000 in
theorem rHours_s4 (B : Lo) (p : ShPass) (d : Int)  (h : Int) (dJ0 : Nat → Value) : landM (srunT Tryz.prog (okFn Tryz.prog) J0 B 21 1 (headC 24 38 (([1, 2, 3, 7, 8] : List Nat).zip (rHours_v0 p d false h)) dJ0 rHours_t0) (headH (rHours_o0 p d false h)) (2 + (rHours_o0 p d false h).length)
 (rHours_q1 p d h dJ0 ++ [(15, HintT.pure (Value.bool false) []), (17, hvI (h + 1))]) 0 [] []) [1, 2, 3, 7, 8] [(2, KS.auto)] [] = some ⟨24, 38, rHours_t0, [], .run, none, rHours_v0 p d false (h + 1), rHours_o0 p d false (h + 1),
 [wq (h + 1) = h + 1, AllP [] ∧ PureC Tryz.prog J0 71 (rHours_z1 p d h) (Value.bool false)] ++ rHours_p1 B p d h dJ0⟩ := by kernel_rfl
set_option maxRecDepth 100000 in
theorem rHours_s5 (B : Lo) (p : ShPass) (d : Int)  (h : Int) (dJ0 : Nat → Value) : endT (srunT Tryz.prog (okFn Tryz.prog) J0 B 9 1 (headC 24 38 (([1, 2, 3, 7, 8] : List Nat).zip (rHours_v0 p d false h)) dJ0 rHours_t0) (headH (rHours_o0 p d false h)) (2 + (rHours_o0 p d false h).length)
 [(1, hvF)] 0 [] []) [] = some (slT 0 #[],
 [ltq h 24 = false]) := by kernel_rfl
noncomputable def rHours_p2 (B : Lo) (p : ShPass) (d : Int)  (h : Int) (out : List Int) (n : Nat) (dJ0 : Nat → Value) : List Prop := [d = (↑d.toNat : Int) ∧ Int.toNat d < List.length p.swell ∧ Array.extract (rowL encSp p.swell) (Int.toNat d * TypeInfo.size Tryz.t25) (Int.toNat d * TypeInfo.size Tryz.t25 + TypeInfo.size Tryz.t25) = (rHours_z2 p d), d = (↑d.toNat : Int) ∧ Int.toNat d < List.length p.swell ∧ Array.extract (rowL encSp p.swell) (Int.toNat d * TypeInfo.size Tryz.t25) (Int.toNat d * TypeInfo.size Tryz.t25 + TypeInfo.size Tryz.t25) = (rHours_z2 p d), ltq h 24 = true] ++ ([] : List Prop)
noncomputable def rHours_q2 (p : ShPass) (d : Int)  (h : Int) (out : List Int) (n : Nat) (dJ0 : Nat → Value) : ScriptT := [(1, hvT), (5, HintT.tidx d.toNat (rHours_z2 p d)), (13, HintT.tidx d.toNat (rHours_z2 p d))]
set_option maxRecDepth 100000 in
theorem rHours_s6 (B : Lo) (p : ShPass) (d : Int)  (h : Int) (out : List Int) (n : Nat) (dJ0 : Nat → Value) : landM (srunT Tryz.prog (okFn Tryz.prog) J0 B 21 1 (headC 24 38 (([1, 2, 3, 7, 8] : List Nat).zip (rHours_v1 p d true h out n)) dJ0 rHours_t1) (headH (rHours_o1 p d true h out n)) (2 + (rHours_o1 p d true h out n).length)
 (rHours_q2 p d h out n dJ0 ++ [(22, HintT.pure (Value.bool true) []), (26, HintT.old (Hint.app (rowL encI (out ++ [h])))), (29, hvI (h + 1))]) 0 [] []) [1, 2, 3, 7, 8] [(2, KS.auto), (5, KS.cells [] (rowL encI (out ++ [h])))] [] = some ⟨24, 38, rHours_t1, [], .run, none, rHours_v1 p d true (h + 1) (out ++ [h]) (n + 1), rHours_o1 p d true (h + 1) (out ++ [h]) (n + 1),
 [CellsM 1 [] (rowL encI (out ++ [h])) (rowL encI (out ++ [h])), wq (h + 1) = h + 1, Array.size (rowL encI out) = n * (0 + 1) ∧ n + 1 ≤ maxLen ∧ (n + 1) * 8 ≤ 140737488355328 ∧ rowL encI out ++ #[Value.int IntKind.i64 h] = rowL encI (out ++ [h]), AllP [] ∧ PureC Tryz.prog J0 71 (rHours_z0 p d h) (Value.bool true)] ++ rHours_p2 B p d h out n dJ0⟩ := by kernel_rfl
set_option maxRecDepth 100000 in
theorem rHours_s7 (B : Lo) (p : ShPass) (d : Int)  (h : Int) (out : List Int) (n : Nat) (dJ0 : Nat → Value) : landM (srunT Tryz.prog (okFn Tryz.prog) J0 B 21 1 (headC 24 38 (([1, 2, 3, 7, 8] : List Nat).zip (rHours_v1 p d true h out n)) dJ0 rHours_t1) (headH (rHours_o1 p d true h out n)) (2 + (rHours_o1 p d true h out n).length)
 (rHours_q2 p d h out n dJ0 ++ [(22, HintT.pure (Value.bool false) []), (24, hvI (h + 1))]) 0 [] []) [1, 2, 3, 7, 8] [(2, KS.auto), (3, KS.cells [] (rowL encI out))] [] = some ⟨24, 38, rHours_t1, [], .run, none, rHours_v1 p d true (h + 1) (out) (n), rHours_o1 p d true (h + 1) (out) (n),
 [CellsM 1 [] (rowL encI out) (rowL encI out), wq (h + 1) = h + 1, AllP [] ∧ PureC Tryz.prog J0 71 (rHours_z0 p d h) (Value.bool false)] ++ rHours_p2 B p d h out n dJ0⟩ := by kernel_rfl
set_option maxRecDepth 100000 in
theorem rHours_s8 (B : Lo) (p : ShPass) (d : Int)  (h : Int) (out : List Int) (n : Nat) (dJ0 : Nat → Value) : endT (srunT Tryz.prog (okFn Tryz.prog) J0 B 9 1 (headC 24 38 (([1, 2, 3, 7, 8] : List Nat).zip (rHours_v1 p d true h out n)) dJ0 rHours_t1) (headH (rHours_o1 p d true h out n)) (2 + (rHours_o1 p d true h out n).length)
 [(1, hvF)] 0 [] []) [{ k := 3, rs := [], cs := rowL encI out }] = some (slT n (Fz.cs { k := 3, rs := [], cs := rowL encI out }),
 [CellsT (Fz.rs { k := 3, rs := [], cs := rowL encI out }) (rowL encI out) (Fz.cs { k := 3, rs := [], cs := rowL encI out }), ltq h 24 = false]) := by kernel_rfl
noncomputable def rHours_p3 (B : Lo) (p : ShPass) (d : Int)  (h : Int) (out : List Int) (n : Nat) (dJ0 : Nat → Value) : List Prop := [d = (↑d.toNat : Int) ∧ Int.toNat d < List.length p.swell ∧ Array.extract (rowL encSp p.swell) (Int.toNat d * TypeInfo.size Tryz.t25) (Int.toNat d * TypeInfo.size Tryz.t25 + TypeInfo.size Tryz.t25) = (rHours_z2 p d), ltq h 24 = true] ++ ([] : List Prop)
noncomputable def rHours_q3 (p : ShPass) (d : Int)  (h : Int) (out : List Int) (n : Nat) (dJ0 : Nat → Value) : ScriptT := [(1, hvT), (5, HintT.tidx d.toNat (rHours_z2 p d))]
set_option maxRecDepth 100000 in
theorem rHours_s9 (B : Lo) (p : ShPass) (d : Int)  (h : Int) (out : List Int) (n : Nat) (dJ0 : Nat → Value) : landM (srunT Tryz.prog (okFn Tryz.prog) J0 B 21 1 (headC 24 38 (([1, 2, 3, 7, 8] : List Nat).zip (rHours_v1 p d false h out n)) dJ0 rHours_t1) (headH (rHours_o1 p d false h out n)) (2 + (rHours_o1 p d false h out n).length)
 (rHours_q3 p d h out n dJ0 ++ [(15, HintT.pure (Value.bool true) []), (19, HintT.old (Hint.app (rowL encI (out ++ [h])))), (22, hvI (h + 1))]) 0 [] []) [1, 2, 3, 7, 8] [(2, KS.auto), (5, KS.cells [] (rowL encI (out ++ [h])))] [] = some ⟨24, 38, rHours_t1, [], .run, none, rHours_v1 p d false (h + 1) (out ++ [h]) (n + 1), rHours_o1 p d false (h + 1) (out ++ [h]) (n + 1),
 [CellsM 1 [] (rowL encI (out ++ [h])) (rowL encI (out ++ [h])), wq (h + 1) = h + 1, Array.size (rowL encI out) = n * (0 + 1) ∧ n + 1 ≤ maxLen ∧ (n + 1) * 8 ≤ 140737488355328 ∧ rowL encI out ++ #[Value.int IntKind.i64 h] = rowL encI (out ++ [h]), AllP [] ∧ PureC Tryz.prog J0 71 (rHours_z1 p d h) (Value.bool true)] ++ rHours_p3 B p d h out n dJ0⟩ := by kernel_rfl
set_option maxRecDepth 100000 in
theorem rHours_s10 (B : Lo) (p : ShPass) (d : Int)  (h : Int) (out : List Int) (n : Nat) (dJ0 : Nat → Value) : landM (srunT Tryz.prog (okFn Tryz.prog) J0 B 21 1 (headC 24 38 (([1, 2, 3, 7, 8] : List Nat).zip (rHours_v1 p d false h out n)) dJ0 rHours_t1) (headH (rHours_o1 p d false h out n)) (2 + (rHours_o1 p d false h out n).length)
 (rHours_q3 p d h out n dJ0 ++ [(15, HintT.pure (Value.bool false) []), (17, hvI (h + 1))]) 0 [] []) [1, 2, 3, 7, 8] [(2, KS.auto), (3, KS.cells [] (rowL encI out))] [] = some ⟨24, 38, rHours_t1, [], .run, none, rHours_v1 p d false (h + 1) (out) (n), rHours_o1 p d false (h + 1) (out) (n),
 [CellsM 1 [] (rowL encI out) (rowL encI out), wq (h + 1) = h + 1, AllP [] ∧ PureC Tryz.prog J0 71 (rHours_z1 p d h) (Value.bool false)] ++ rHours_p3 B p d h out n dJ0⟩ := by kernel_rfl
set_option maxRecDepth 100000 in
theorem rHours_s11 (B : Lo) (p : ShPass) (d : Int)  (h : Int) (out : List Int) (n : Nat) (dJ0 : Nat → Value) : endT (srunT Tryz.prog (okFn Tryz.prog) J0 B 9 1 (headC 24 38 (([1, 2, 3, 7, 8] : List Nat).zip (rHours_v1 p d false h out n)) dJ0 rHours_t1) (headH (rHours_o1 p d false h out n)) (2 + (rHours_o1 p d false h out n).length)
 [(1, hvF)] 0 [] []) [{ k := 3, rs := [], cs := rowL encI out }] = some (slT n (Fz.cs { k := 3, rs := [], cs := rowL encI out }),
 [CellsT (Fz.rs { k := 3, rs := [], cs := rowL encI out }) (rowL encI out) (Fz.cs { k := 3, rs := [], cs := rowL encI out }), ltq h 24 = false]) := by kernel_rfl
set_option maxRecDepth 100000 in
theorem rHours_s12 (B : Lo) (p : ShPass) (d : Int)  : landM (srunT Tryz.prog (okFn Tryz.prog) J0 B 9 1 (entryC Tryz.prog 24 38 (([.agg (encPass p).toArray, .int .i64 d, .bool true]).map (pushT 0 4))) H00 1
 [] 0 [] []) [1, 2, 3, 7, 8] [(1, KS.auto)] [] = some ⟨24, 38, rHours_t0, [], .run, none, rHours_v0 p d true (0), rHours_o0 p d true (0),
 []⟩ := by kernel_rfl
set_option maxRecDepth 100000 in
theorem rHours_s13 (B : Lo) (p : ShPass) (d : Int)  : landM (srunT Tryz.prog (okFn Tryz.prog) J0 B 9 1 (entryC Tryz.prog 24 38 (([.agg (encPass p).toArray, .int .i64 d, .bool false]).map (pushT 0 4))) H00 1
 [] 0 [] []) [1, 2, 3, 7, 8] [(1, KS.auto)] [] = some ⟨24, 38, rHours_t0, [], .run, none, rHours_v0 p d false (0), rHours_o0 p d false (0),
 []⟩ := by kernel_rfl
set_option maxHeartbeats 4000000 in
theorem rHours_ls (p : ShPass) (d : Int) (s : Bool) (hp : passB p = true) (hd : 0 ≤ d ∧ d < p.swell.length) {B : Lo} (hJ : ∀ w, B.has w → J0 w) {c0 : CF} : ∀ m : Nat, (∀ (h : Int), 24 - h.toNat = m → ∀ (h0 : 0 ≤ h), rHours_h0 B c0 p d s h → EndsT Tryz.prog B c0 (slI (hoursL p d s h))) ∧ (∀ (h : Int) (out : List Int) (n : Nat), 24 - h.toNat = m → ∀ (h0 : 0 ≤ h) (hn : n = out.length) (hx : (n : Int) ≤ h), rHours_h1 B c0 p d s h out n → EndsT Tryz.prog B c0 (slI (out ++ hoursL p d s h))) := by
 intro m0
 induction m0 using Nat.strongRecOn with
 | _ m0 ih0 =>
   refine ⟨?_, ?_⟩
   ·intro h hm0 h0 ⟨dJ0, hdJ0, hg0⟩
    have hP := pass_facts hp
    have hS := swell_in hp (k := d.toNat) (by omega)
    have hP := pass_facts hp
    have hS := swell_in hp (k := d.toNat) (by omega)
    cases s with
    | true =>
      by_cases q0 : (h : Int) < (24)
      ·
       have hp0 : AllP (rHours_p0 B p d h dJ0) := by
        exact ⟨⟨by omega, by omega, (rowL_extract (z := 2) (fun _ => rfl) (by omega))⟩, ⟨⟨by omega, by omega, (rowL_extract (z := 2) (fun _ => rfl) (by omega))⟩, ⟨(ltq_t q0), trivial⟩⟩⟩
       cases q1 : goesB p d h (Span.hi (List.getD p.swell d.toNat default)) with
       | true =>
         exact ((ih0 _ (by omega)).2 (h + 1) ([h]) (1) rfl (by first | with_reducible assumption | omega | (simp_all; done)) (by first | with_reducible assumption | omega | (simp_all; done)) (by first | with_reducible assumption | omega | (simp_all; done))
          (hg0.landM okF hJ mixed_ok (rHours_s0 B p d h dJ0)
          ⟨(cellsM_lit (by kernel_rfl)), ⟨(wq_in (by omega) (by omega)), ⟨⟨trivial, (by have t_ := rGoes (p) (d) (h) (Span.hi (List.getD p.swell d.toNat default)) (by first | with_reducible assumption | omega | simp_all) (by first | with_reducible assumption | omega | simp_all) (by first | with_reducible assumption | omega | simp_all) (by first | with_reducible assumption | omega | simp_all); rw [q1] at t_; exact t_)⟩, hp0⟩⟩⟩ (by kernel_rfl) (by kernel_rfl))).cast (by first | rfl | (rw [hoursL_cons (h := h) (by omega)]; simp_all [swellOf]; done) | (rw [hoursL_nil (h := h) (by omega)]; rfl) | (rw [hoursL_nil (h := h) (by omega), List.append_nil, hn]; done))
       | false =>
         exact ((ih0 _ (by omega)).1 (h + 1) rfl (by first | with_reducible assumption | omega | (simp_all; done))
          (hg0.landM okF hJ mixed_ok (rHours_s1 B p d h dJ0)
          ⟨(wq_in (by omega) (by omega)), ⟨⟨trivial, (by have t_ := rGoes (p) (d) (h) (Span.hi (List.getD p.swell d.toNat default)) (by first | with_reducible assumption | omega | simp_all) (by first | with_reducible assumption | omega | simp_all) (by first | with_reducible assumption | omega | simp_all) (by first | with_reducible assumption | omega | simp_all); rw [q1] at t_; exact t_)⟩, hp0⟩⟩ (by kernel_rfl) (by kernel_rfl))).cast (by first | rfl | (rw [hoursL_cons (h := h) (by omega)]; simp_all [swellOf]; done) | (rw [hoursL_nil (h := h) (by omega)]; rfl) | (rw [hoursL_nil (h := h) (by omega), List.append_nil, hn]; done))
      ·
       exact (GoE.endsT okF hJ mixed_ok hg0 (rHours_s2 B p d h dJ0)
        ⟨(ltq_f (Int.not_lt.1 q0)), trivial⟩).cast (by first | rfl | (rw [hoursL_cons (h := h) (by omega)]; simp_all [swellOf]; done) | (rw [hoursL_nil (h := h) (by omega)]; rfl) | (rw [hoursL_nil (h := h) (by omega), List.append_nil, hn]; done))
    | false =>
      by_cases q0 : (h : Int) < (24)
      ·
       have hp1 : AllP (rHours_p1 B p d h dJ0) := by
        exact ⟨⟨by omega, by omega, (rowL_extract (z := 2) (fun _ => rfl) (by omega))⟩, ⟨(ltq_t q0), trivial⟩⟩
       cases q1 : goesB p d h (Span.lo (List.getD p.swell d.toNat default)) with
       | true =>
         exact ((ih0 _ (by omega)).2 (h + 1) ([h]) (1) rfl (by first | with_reducible assumption | omega | (simp_all; done)) (by first | with_reducible assumption | omega | (simp_all; done)) (by first | with_reducible assumption | omega | (simp_all; done))
          (hg0.landM okF hJ mixed_ok (rHours_s3 B p d h dJ0)
          ⟨(cellsM_lit (by kernel_rfl)), ⟨(wq_in (by omega) (by omega)), ⟨⟨trivial, (by have t_ := rGoes (p) (d) (h) (Span.lo (List.getD p.swell d.toNat default)) (by first | with_reducible assumption | omega | simp_all) (by first | with_reducible assumption | omega | simp_all) (by first | with_reducible assumption | omega | simp_all) (by first | with_reducible assumption | omega | simp_all); rw [q1] at t_; exact t_)⟩, hp1⟩⟩⟩ (by kernel_rfl) (by kernel_rfl))).cast (by first | rfl | (rw [hoursL_cons (h := h) (by omega)]; simp_all [swellOf]; done) | (rw [hoursL_nil (h := h) (by omega)]; rfl) | (rw [hoursL_nil (h := h) (by omega), List.append_nil, hn]; done))
       | false =>
         exact ((ih0 _ (by omega)).1 (h + 1) rfl (by first | with_reducible assumption | omega | (simp_all; done))
          (hg0.landM okF hJ mixed_ok (rHours_s4 B p d h dJ0)
          ⟨(wq_in (by omega) (by omega)), ⟨⟨trivial, (by have t_ := rGoes (p) (d) (h) (Span.lo (List.getD p.swell d.toNat default)) (by first | with_reducible assumption | omega | simp_all) (by first | with_reducible assumption | omega | simp_all) (by first | with_reducible assumption | omega | simp_all) (by first | with_reducible assumption | omega | simp_all); rw [q1] at t_; exact t_)⟩, hp1⟩⟩ (by kernel_rfl) (by kernel_rfl))).cast (by first | rfl | (rw [hoursL_cons (h := h) (by omega)]; simp_all [swellOf]; done) | (rw [hoursL_nil (h := h) (by omega)]; rfl) | (rw [hoursL_nil (h := h) (by omega), List.append_nil, hn]; done))
      ·
       exact (GoE.endsT okF hJ mixed_ok hg0 (rHours_s5 B p d h dJ0)
        ⟨(ltq_f (Int.not_lt.1 q0)), trivial⟩).cast (by first | rfl | (rw [hoursL_cons (h := h) (by omega)]; simp_all [swellOf]; done) | (rw [hoursL_nil (h := h) (by omega)]; rfl) | (rw [hoursL_nil (h := h) (by omega), List.append_nil, hn]; done))
   ·intro h out n hm0 h0 hn hx ⟨dJ0, hdJ0, hg0⟩
    have hP := pass_facts hp
    have hS := swell_in hp (k := d.toNat) (by omega)
    have hP := pass_facts hp
    have hS := swell_in hp (k := d.toNat) (by omega)
    cases s with
    | true =>
      by_cases q0 : (h : Int) < (24)
      ·
       have hp2 : AllP (rHours_p2 B p d h out n dJ0) := by
        exact ⟨⟨by omega, by omega, (rowL_extract (z := 2) (fun _ => rfl) (by omega))⟩, ⟨⟨by omega, by omega, (rowL_extract (z := 2) (fun _ => rfl) (by omega))⟩, ⟨(ltq_t q0), trivial⟩⟩⟩
       cases q1 : goesB p d h (Span.hi (List.getD p.swell d.toNat default)) with
       | true =>
         exact ((ih0 _ (by omega)).2 (h + 1) (out ++ [h]) (n + 1) rfl (by first | with_reducible assumption | omega | (simp_all; done)) (by first | with_reducible assumption | omega | (simp_all; done)) (by first | with_reducible assumption | omega | (simp_all; done))
          (hg0.landM okF hJ mixed_ok (rHours_s6 B p d h out n dJ0)
          ⟨(cellsM_simple (rowL_simple (fun x => List.all_eq_true.1 (by first | rfl | (cases x <;> rfl))))), ⟨(wq_in (by omega) (by omega)), ⟨⟨(by first | rfl | exact rowL_size (z := 1) (fun _ => rfl) | (rw [rowL_size (z := 1) (fun _ => rfl)]; first | omega | (simp; omega) | (simp_all; done))), (by unfold maxLen; omega), by omega, by first | exact rowL_push | exact rowL_pushC rfl⟩, ⟨⟨trivial, (by have t_ := rGoes (p) (d) (h) (Span.hi (List.getD p.swell d.toNat default)) (by first | with_reducible assumption | omega | simp_all) (by first | with_reducible assumption | omega | simp_all) (by first | with_reducible assumption | omega | simp_all) (by first | with_reducible assumption | omega | simp_all); rw [q1] at t_; exact t_)⟩, hp2⟩⟩⟩⟩ (by kernel_rfl) (by kernel_rfl))).cast (by first | rfl | (rw [hoursL_cons (h := h) (by omega)]; simp_all [swellOf]; done) | (rw [hoursL_nil (h := h) (by omega)]; rfl) | (rw [hoursL_nil (h := h) (by omega), List.append_nil, hn]; done))
       | false =>
         exact ((ih0 _ (by omega)).2 (h + 1) (out) (n) rfl (by first | with_reducible assumption | omega | (simp_all; done)) (by first | with_reducible assumption | omega | (simp_all; done)) (by first | with_reducible assumption | omega | (simp_all; done))
          (hg0.landM okF hJ mixed_ok (rHours_s7 B p d h out n dJ0)
          ⟨(cellsM_simple (rowL_simple (fun x => List.all_eq_true.1 (by first | rfl | (cases x <;> rfl))))), ⟨(wq_in (by omega) (by omega)), ⟨⟨trivial, (by have t_ := rGoes (p) (d) (h) (Span.hi (List.getD p.swell d.toNat default)) (by first | with_reducible assumption | omega | simp_all) (by first | with_reducible assumption | omega | simp_all) (by first | with_reducible assumption | omega | simp_all) (by first | with_reducible assumption | omega | simp_all); rw [q1] at t_; exact t_)⟩, hp2⟩⟩⟩ (by kernel_rfl) (by kernel_rfl))).cast (by first | rfl | (rw [hoursL_cons (h := h) (by omega)]; simp_all [swellOf]; done) | (rw [hoursL_nil (h := h) (by omega)]; rfl) | (rw [hoursL_nil (h := h) (by omega), List.append_nil, hn]; done))
      ·
       exact (GoE.endsT okF hJ mixed_ok hg0 (rHours_s8 B p d h out n dJ0)
        ⟨(rowL_cellsT (fun x => List.all_eq_true.1 (by first | rfl | (cases x <;> rfl)))), ⟨(ltq_f (Int.not_lt.1 q0)), trivial⟩⟩).cast (by first | rfl | (rw [hoursL_cons (h := h) (by omega)]; simp_all [swellOf]; done) | (rw [hoursL_nil (h := h) (by omega)]; rfl) | (rw [hoursL_nil (h := h) (by omega), List.append_nil, hn]; done))
    | false =>
      by_cases q0 : (h : Int) < (24)
      ·
       have hp3 : AllP (rHours_p3 B p d h out n dJ0) := by
        exact ⟨⟨by omega, by omega, (rowL_extract (z := 2) (fun _ => rfl) (by omega))⟩, ⟨(ltq_t q0), trivial⟩⟩
       cases q1 : goesB p d h (Span.lo (List.getD p.swell d.toNat default)) with
       | true =>
         exact ((ih0 _ (by omega)).2 (h + 1) (out ++ [h]) (n + 1) rfl (by first | with_reducible assumption | omega | (simp_all; done)) (by first | with_reducible assumption | omega | (simp_all; done)) (by first | with_reducible assumption | omega | (simp_all; done))
          (hg0.landM okF hJ mixed_ok (rHours_s9 B p d h out n dJ0)
          ⟨(cellsM_simple (rowL_simple (fun x => List.all_eq_true.1 (by first | rfl | (cases x <;> rfl))))), ⟨(wq_in (by omega) (by omega)), ⟨⟨(by first | rfl | exact rowL_size (z := 1) (fun _ => rfl) | (rw [rowL_size (z := 1) (fun _ => rfl)]; first | omega | (simp; omega) | (simp_all; done))), (by unfold maxLen; omega), by omega, by first | exact rowL_push | exact rowL_pushC rfl⟩, ⟨⟨trivial, (by have t_ := rGoes (p) (d) (h) (Span.lo (List.getD p.swell d.toNat default)) (by first | with_reducible assumption | omega | simp_all) (by first | with_reducible assumption | omega | simp_all) (by first | with_reducible assumption | omega | simp_all) (by first | with_reducible assumption | omega | simp_all); rw [q1] at t_; exact t_)⟩, hp3⟩⟩⟩⟩ (by kernel_rfl) (by kernel_rfl))).cast (by first | rfl | (rw [hoursL_cons (h := h) (by omega)]; simp_all [swellOf]; done) | (rw [hoursL_nil (h := h) (by omega)]; rfl) | (rw [hoursL_nil (h := h) (by omega), List.append_nil, hn]; done))
       | false =>
         exact ((ih0 _ (by omega)).2 (h + 1) (out) (n) rfl (by first | with_reducible assumption | omega | (simp_all; done)) (by first | with_reducible assumption | omega | (simp_all; done)) (by first | with_reducible assumption | omega | (simp_all; done))
          (hg0.landM okF hJ mixed_ok (rHours_s10 B p d h out n dJ0)
          ⟨(cellsM_simple (rowL_simple (fun x => List.all_eq_true.1 (by first | rfl | (cases x <;> rfl))))), ⟨(wq_in (by omega) (by omega)), ⟨⟨trivial, (by have t_ := rGoes (p) (d) (h) (Span.lo (List.getD p.swell d.toNat default)) (by first | with_reducible assumption | omega | simp_all) (by first | with_reducible assumption | omega | simp_all) (by first | with_reducible assumption | omega | simp_all) (by first | with_reducible assumption | omega | simp_all); rw [q1] at t_; exact t_)⟩, hp3⟩⟩⟩ (by kernel_rfl) (by kernel_rfl))).cast (by first | rfl | (rw [hoursL_cons (h := h) (by omega)]; simp_all [swellOf]; done) | (rw [hoursL_nil (h := h) (by omega)]; rfl) | (rw [hoursL_nil (h := h) (by omega), List.append_nil, hn]; done))
      ·
       exact (GoE.endsT okF hJ mixed_ok hg0 (rHours_s11 B p d h out n dJ0)
        ⟨(rowL_cellsT (fun x => List.all_eq_true.1 (by first | rfl | (cases x <;> rfl)))), ⟨(ltq_f (Int.not_lt.1 q0)), trivial⟩⟩).cast (by first | rfl | (rw [hoursL_cons (h := h) (by omega)]; simp_all [swellOf]; done) | (rw [hoursL_nil (h := h) (by omega)]; rfl) | (rw [hoursL_nil (h := h) (by omega), List.append_nil, hn]; done))
set_option maxHeartbeats 4000000 in
theorem rHours_e (p : ShPass) (d : Int) (s : Bool) (hp : passB p = true) (hd : 0 ≤ d ∧ d < p.swell.length) {B : Lo} (hJ : ∀ w, B.has w → J0 w) : EndsT Tryz.prog B (entryC Tryz.prog 24 38 (([.agg (encPass p).toArray, .int .i64 d, .bool s]).map (pushT 0 4))) (slI (hoursL p d s 0)) := by
 have hP := pass_facts hp
 have hS := swell_in hp (k := d.toNat) (by omega)
 cases s with
 | true =>
   exact ((rHours_ls p d true hp hd hJ _).1 (0) rfl (by first | with_reducible assumption | omega | (simp_all; done))
    (GoE.start.landM okF hJ mixed_ok (rHours_s12 B p d)
    trivial (by kernel_rfl) (by kernel_rfl))).cast (by first | rfl | (simp [*]; done) | (simp_all []; done) | (simp_all []; omega))
 | false =>
   exact ((rHours_ls p d false hp hd hJ _).1 (0) rfl (by first | with_reducible assumption | omega | (simp_all; done))
    (GoE.start.landM okF hJ mixed_ok (rHours_s13 B p d)
    trivial (by kernel_rfl) (by kernel_rfl))).cast (by first | rfl | (simp [*]; done) | (simp_all []; done) | (simp_all []; omega))
theorem rHours (p : ShPass) (d : Int) (s : Bool) (hp : passB p = true) (hd : 0 ≤ d ∧ d < p.swell.length) : PureC Tryz.prog J0 24 #[.agg (encPass p).toArray, .int .i64 d, .bool s] (slI (hoursL p d s 0)) :=
 pureC_of (ts := [.agg (encPass p).toArray, .int .i64 d, .bool s]) J0_st (c0 := entryC Tryz.prog 24 38 (([.agg (encPass p).toArray, .int .i64 d, .bool s]).map (pushT 0 4))) (by kernel_rfl) (by kernel_rfl) fun B hJ => rHours_e p d s hp hd hJ
end Go.Proofs.YtiabgkiccaodmaaGreat

namespace Go.Proofs.YtiabgkiccaodmaaGreat
open Go Go.CE Go.RowKit
def rSame_v0 (xs ys : List Int) (i : Int) : List Value := [topV 1 (slT xs.length (rowL encI xs)), topV 1 (slT ys.length (rowL encI ys)), .int .i64 i]
def rSame_o0 (xs ys : List Int) (i : Int) : List Obj := []
noncomputable def rSame_t0 : List Item := ([.code [1, 1, 0, 1, 0, 0], .inLoop [1, 1, 0, 1, 0, 0], .inBlock 0, .code [1, 1, 1]]).map (it (bodyOf Tryz.prog 23))
def rSame_h0 (B : Lo) (c0 : CF) (xs ys : List Int) (i : Int) : Prop := ∃ dJ : Nat → Value, (∀ t, Loose (dJ t)) ∧ GoE Tryz.prog B c0 H00 1 (headC 23 26 (([0, 1, 5] : List Nat).zip (rSame_v0 xs ys i)) dJ rSame_t0) (headH (rSame_o0 xs ys i)) (2 + (rSame_o0 xs ys i).length) []
noncomputable def rSame_p0 (B : Lo) (xs ys : List Int) (i : Int) (dJ0 : Nat → Value) : List Prop := [i = (↑i.toNat : Int) ∧ Int.toNat i < List.length ys ∧ Array.extract (rowL encI ys) (Int.toNat i * TypeInfo.size Tryz.t3) (Int.toNat i * TypeInfo.size Tryz.t3 + TypeInfo.size Tryz.t3) = #[Value.int IntKind.i64 (List.getD ys i.toNat default)], i = (↑i.toNat : Int) ∧ Int.toNat i < List.length xs ∧ Array.extract (rowL encI xs) (Int.toNat i * TypeInfo.size Tryz.t3) (Int.toNat i * TypeInfo.size Tryz.t3 + TypeInfo.size Tryz.t3) = #[Value.int IntKind.i64 (List.getD xs i.toNat default)], ltq i (↑xs.length : Int) = true] ++ ([] : List Prop)
noncomputable def rSame_q0 (xs ys : List Int) (i : Int) (dJ0 : Nat → Value) : ScriptT := [(3, hvT), (6, HintT.tidx i.toNat #[Value.int IntKind.i64 (List.getD xs i.toNat default)]), (10, HintT.tidx i.toNat #[Value.int IntKind.i64 (List.getD ys i.toNat default)])]
set_option maxRecDepth 100000 in
theorem rSame_s0 (B : Lo) (xs ys : List Int) (i : Int) (dJ0 : Nat → Value) : endT (srunT Tryz.prog (okFn Tryz.prog) J0 B 14 1 (headC 23 26 (([0, 1, 5] : List Nat).zip (rSame_v0 xs ys i)) dJ0 rSame_t0) (headH (rSame_o0 xs ys i)) (2 + (rSame_o0 xs ys i).length)
 (rSame_q0 xs ys i dJ0 ++ [(12, hvT)]) 0 [] []) [] = some (Value.bool false,
 [(!eqq (List.getD xs i.toNat default) (List.getD ys i.toNat default)) = true] ++ rSame_p0 B xs ys i dJ0) := by kernel_rfl
set_option maxRecDepth 100000 in
theorem rSame_s1 (B : Lo) (xs ys : List Int) (i : Int) (dJ0 : Nat → Value) : landM (srunT Tryz.prog (okFn Tryz.prog) J0 B 14 1 (headC 23 26 (([0, 1, 5] : List Nat).zip (rSame_v0 xs ys i)) dJ0 rSame_t0) (headH (rSame_o0 xs ys i)) (2 + (rSame_o0 xs ys i).length)
 (rSame_q0 xs ys i dJ0 ++ [(12, hvF), (14, hvI (i + 1))]) 0 [] []) [0, 1, 5] [] [] = some ⟨23, 26, rSame_t0, [], .run, none, rSame_v0 xs ys (i + 1), rSame_o0 xs ys (i + 1),
 [wq (i + 1) = i + 1, (!eqq (List.getD xs i.toNat default) (List.getD ys i.toNat default)) = false] ++ rSame_p0 B xs ys i dJ0⟩ := by kernel_rfl
set_option maxRecDepth 100000 in
theorem rSame_s2 (B : Lo) (xs ys : List Int) (i : Int) (dJ0 : Nat → Value) : endT (srunT Tryz.prog (okFn Tryz.prog) J0 B 9 1 (headC 23 26 (([0, 1, 5] : List Nat).zip (rSame_v0 xs ys i)) dJ0 rSame_t0) (headH (rSame_o0 xs ys i)) (2 + (rSame_o0 xs ys i).length)
 [(3, hvF)] 0 [] []) [] = some (Value.bool true,
 [ltq i (↑xs.length : Int) = false]) := by kernel_rfl
set_option maxRecDepth 100000 in
theorem rSame_s3 (B : Lo) (xs ys : List Int) : endT (srunT Tryz.prog (okFn Tryz.prog) J0 B 10 1 (entryC Tryz.prog 23 26 (([slI xs, slI ys]).map (pushT 0 4))) H00 1
 [(5, hvT)] 0 [] []) [] = some (Value.bool false,
 [(!eqq (↑xs.length : Int) (↑ys.length : Int)) = true]) := by kernel_rfl
set_option maxRecDepth 100000 in
theorem rSame_s4 (B : Lo) (xs ys : List Int) : landM (srunT Tryz.prog (okFn Tryz.prog) J0 B 12 1 (entryC Tryz.prog 23 26 (([slI xs, slI ys]).map (pushT 0 4))) H00 1
 [(5, hvF)] 0 [] []) [0, 1, 5] [] [] = some ⟨23, 26, rSame_t0, [], .run, none, rSame_v0 xs ys (0), rSame_o0 xs ys (0),
 [(!eqq (↑xs.length : Int) (↑ys.length : Int)) = false]⟩ := by kernel_rfl
set_option maxHeartbeats 4000000 in
theorem rSame_ls (xs ys : List Int)  (hfacts : xs.length ≤ 9223372036854775807 ∧ ys.length ≤ 9223372036854775807) {B : Lo} (hJ : ∀ w, B.has w → J0 w) {c0 : CF} : ∀ m : Nat, (∀ (i : Int), xs.length - i.toNat = m → ∀ (h0 : 0 ≤ i) (hl : xs.length = ys.length), rSame_h0 B c0 xs ys i → EndsT Tryz.prog B c0 (.bool (decide (xs.drop i.toNat = ys.drop i.toNat)))) := by
 intro m0
 induction m0 using Nat.strongRecOn with
 | _ m0 ih0 =>
   intro i hm0 h0 hl ⟨dJ0, hdJ0, hg0⟩
   by_cases q0 : (i : Int) < ((↑xs.length : Int))
   ·
    have hp0 : AllP (rSame_p0 B xs ys i dJ0) := by
     exact ⟨⟨by omega, by omega, (rowL_extract (z := 1) (fun _ => rfl) (by omega))⟩, ⟨⟨by omega, by omega, (rowL_extract (z := 1) (fun _ => rfl) (by omega))⟩, ⟨(ltq_t q0), trivial⟩⟩⟩
    by_cases q1 : (List.getD xs i.toNat default : Int) ≠ (List.getD ys i.toNat default)
    ·
     exact (GoE.endsT okF hJ mixed_ok hg0 (rSame_s0 B xs ys i dJ0)
      ⟨(neqq_t q1), hp0⟩).cast (by first | (rw [drop_cons (i := i) (xs := xs) (by omega) (by omega), drop_cons (i := i) (xs := ys) (by omega) (by omega)]; simp_all; done) | (rw [drop_end (i := i) (xs := xs) (by omega), drop_end (i := i) (xs := ys) (by omega)]; simp; done))
    ·
     exact ((ih0 _ (by omega)) (i + 1) rfl (by first | with_reducible assumption | omega | (simp_all; done)) (by first | with_reducible assumption | omega | (simp_all; done))
      (hg0.landM okF hJ mixed_ok (rSame_s1 B xs ys i dJ0)
      ⟨(wq_in (by omega) (by omega)), ⟨(neqq_f (Decidable.of_not_not q1)), hp0⟩⟩ (by kernel_rfl) (by kernel_rfl))).cast (by first | (rw [drop_cons (i := i) (xs := xs) (by omega) (by omega), drop_cons (i := i) (xs := ys) (by omega) (by omega)]; simp_all; done) | (rw [drop_end (i := i) (xs := xs) (by omega), drop_end (i := i) (xs := ys) (by omega)]; simp; done))
   ·
    exact (GoE.endsT okF hJ mixed_ok hg0 (rSame_s2 B xs ys i dJ0)
     ⟨(ltq_f (Int.not_lt.1 q0)), trivial⟩).cast (by first | (rw [drop_cons (i := i) (xs := xs) (by omega) (by omega), drop_cons (i := i) (xs := ys) (by omega) (by omega)]; simp_all; done) | (rw [drop_end (i := i) (xs := xs) (by omega), drop_end (i := i) (xs := ys) (by omega)]; simp; done))
set_option maxHeartbeats 4000000 in
theorem rSame_e (xs ys : List Int)  (hfacts : xs.length ≤ 9223372036854775807 ∧ ys.length ≤ 9223372036854775807) {B : Lo} (hJ : ∀ w, B.has w → J0 w) : EndsT Tryz.prog B (entryC Tryz.prog 23 26 (([slI xs, slI ys]).map (pushT 0 4))) (.bool (decide (xs = ys))) := by
 by_cases q0 : ((↑xs.length : Int) : Int) ≠ ((↑ys.length : Int))
 ·
  exact (GoE.endsT okF hJ mixed_ok GoE.start (rSame_s3 B xs ys)
   ⟨(neqq_t q0), trivial⟩).cast (by first | rfl | (simp; done) | (simp; intro h; subst h; omega))
 ·
  exact ((rSame_ls xs ys hfacts hJ _) (0) rfl (by first | with_reducible assumption | omega | (simp_all; done)) (by first | with_reducible assumption | omega | (simp_all; done))
   (GoE.start.landM okF hJ mixed_ok (rSame_s4 B xs ys)
   ⟨(neqq_f (Decidable.of_not_not q0)), trivial⟩ (by kernel_rfl) (by kernel_rfl))).cast (by first | rfl | (simp; done) | (simp; intro h; subst h; omega))
theorem rSame (xs ys : List Int)  : PureC Tryz.prog J0 23 #[slI xs, slI ys] (.bool (decide (xs = ys))) :=
 pureC_ofF (ts := [slI xs, slI ys]) (xs.length ≤ 9223372036854775807 ∧ ys.length ≤ 9223372036854775807) (fun _ _ ht => ⟨ht.ln (i := 0) rfl, ht.ln (i := 1) rfl⟩) J0_st (c0 := entryC Tryz.prog 23 26 (([slI xs, slI ys]).map (pushT 0 4))) (by kernel_rfl) (by kernel_rfl) fun hfacts B hJ => rSame_e xs ys  hfacts hJ
abbrev callV (d h : Int) : Value := .agg #[.int .i64 d, .int .i64 h]
abbrev optV (o : Option (Int × Int)) : Value := .tuple #[callV (o.getD (0, 0)).1 (o.getD (0, 0)).2, .bool o.isSome]
def sureB (p : ShPass) (d h : Int) : Bool := goesB p d h (p.swell.getD d.toNat default).hi
def okC (p : ShPass) (fd fh d h : Int) : Bool := (decide (fd < d) || decide (fh ≤ h)) && sureB p d h
def nextH (p : ShPass) (fd fh d h : Int) : Option (Int × Int) := (upI h 24).findSome? fun h => if okC p fd fh d h = true then some (d, h) else none
def nextD (p : ShPass) (fd fh d : Int) : Option (Int × Int) := (upI d p.swell.length).findSome? fun d => nextH p fd fh d 0
theorem nextH_cons {p : ShPass} {fd fh d h : Int} (hl : h < 24) : nextH p fd fh d h = if okC p fd fh d h = true then some (d, h) else nextH p fd fh d (h + 1) := by
 unfold nextH
 rw [upI_cons hl, List.findSome?_cons]
 cases okC p fd fh d h <;> rfl
theorem nextH_nil {p : ShPass} {fd fh d h : Int} (hl : 24 ≤ h) : nextH p fd fh d h = none := by unfold nextH; rw [upI_nil hl]; rfl
theorem nextD_cons {p : ShPass} {fd fh d : Int} (hl : d < p.swell.length) : nextD p fd fh d = (nextH p fd fh d 0).or (nextD p fd fh (d + 1)) := by
 unfold nextD
 rw [upI_cons hl, List.findSome?_cons]
 cases nextH p fd fh d 0 <;> rfl
theorem nextD_nil {p : ShPass} {fd fh d : Int} (hl : p.swell.length ≤ d) : nextD p fd fh d = none := by unfold nextD; rw [upI_nil hl]; rfl
def rNext_v0 (p : ShPass) (fd fh : Int) (d : Int) : List Value := [pA 2 0, pA 3 0, pA 4 0, .int .i64 d]
def rNext_o0 (p : ShPass) (fd fh : Int) (d : Int) : List Obj := [Obj.cells #[topV 1 (slT p.tides.length (rowL encI p.tides)), Value.int IntKind.i64 p.depth, Value.int IntKind.i64 p.draft, topV 1 (slT p.swell.length (rowL encSp p.swell)), Value.int IntKind.i64 p.llo, Value.int IntKind.i64 p.lhi] 27, Obj.cells #[Value.int IntKind.i64 fd, Value.int IntKind.i64 fh] 29, Obj.cells #[Value.int IntKind.i64 0, Value.int IntKind.i64 0] 29]
noncomputable def rNext_t0 : List Item := ([.code [1, 0, 1, 0, 0], .inLoop [1, 0, 1, 0, 0], .inBlock 0, .code [1, 1]]).map (it (bodyOf Tryz.prog 26))
def rNext_h0 (B : Lo) (c0 : CF) (p : ShPass) (fd fh : Int) (d : Int) : Prop := ∃ dJ : Nat → Value, (∀ t, Loose (dJ t)) ∧ GoE Tryz.prog B c0 H00 1 (headC 26 42 (([2, 3, 4, 6] : List Nat).zip (rNext_v0 p fd fh d)) dJ rNext_t0) (headH (rNext_o0 p fd fh d)) (2 + (rNext_o0 p fd fh d).length) []
def rNext_v1 (p : ShPass) (fd fh : Int) (d h : Int) : List Value := [pA 2 0, pA 3 0, pA 4 0, .int .i64 d, .int .i64 h]
def rNext_o1 (p : ShPass) (fd fh : Int) (d h : Int) : List Obj := [Obj.cells #[topV 1 (slT p.tides.length (rowL encI p.tides)), Value.int IntKind.i64 p.depth, Value.int IntKind.i64 p.draft, topV 1 (slT p.swell.length (rowL encSp p.swell)), Value.int IntKind.i64 p.llo, Value.int IntKind.i64 p.lhi] 27, Obj.cells #[Value.int IntKind.i64 fd, Value.int IntKind.i64 fh] 29, Obj.cells #[Value.int IntKind.i64 0, Value.int IntKind.i64 0] 29]
noncomputable def rNext_t1 : List Item := ([.code [1, 0, 1, 0, 0, 1, 0, 0, 1, 0, 0], .inLoop [1, 0, 1, 0, 0, 1, 0, 0, 1, 0, 0], .inBlock 2, .inBlock 1, .code [1, 0, 1, 0, 0, 1, 1], .inLoop [1, 0, 1, 0, 0], .inBlock 0, .code [1, 1]]).map (it (bodyOf Tryz.prog 26))
def rNext_h1 (B : Lo) (c0 : CF) (p : ShPass) (fd fh : Int) (d h : Int) : Prop := ∃ dJ : Nat → Value, (∀ t, Loose (dJ t)) ∧ GoE Tryz.prog B c0 H00 1 (headC 26 42 (([2, 3, 4, 6, 7] : List Nat).zip (rNext_v1 p fd fh d h)) dJ rNext_t1) (headH (rNext_o1 p fd fh d h)) (2 + (rNext_o1 p fd fh d h).length) []
noncomputable def rNext_z0 (p : ShPass) : Array Value := #[slT p.tides.length (rowL encI p.tides), Value.int IntKind.i64 p.depth, Value.int IntKind.i64 p.draft, slT p.swell.length (rowL encSp p.swell), Value.int IntKind.i64 p.llo, Value.int IntKind.i64 p.lhi]
set_option maxRecDepth 100000 in
theorem rNext_s0 (B : Lo) (p : ShPass) (fd fh : Int) (d : Int) (dJ0 : Nat → Value) : landM (srunT Tryz.prog (okFn Tryz.prog) J0 B 11 1 (headC 26 42 (([2, 3, 4, 6] : List Nat).zip (rNext_v0 p fd fh d)) dJ0 rNext_t0) (headH (rNext_o0 p fd fh d)) (2 + (rNext_o0 p fd fh d).length)
 [(4, hvT)] 0 [] []) [2, 3, 4, 6, 7] [(2, KS.auto), (3, KS.auto), (4, KS.auto)] [] = some ⟨26, 42, rNext_t1, [], .run, none, rNext_v1 p fd fh (d) (0), rNext_o1 p fd fh (d) (0),
 [ltq d (↑p.swell.length : Int) = true]⟩ := by kernel_rfl
set_option maxRecDepth 100000 in
theorem rNext_s1 (B : Lo) (p : ShPass) (fd fh : Int) (d : Int) (dJ0 : Nat → Value) : endT (srunT Tryz.prog (okFn Tryz.prog) J0 B 9 1 (headC 26 42 (([2, 3, 4, 6] : List Nat).zip (rNext_v0 p fd fh d)) dJ0 rNext_t0) (headH (rNext_o0 p fd fh d)) (2 + (rNext_o0 p fd fh d).length)
 [(4, hvF)] 0 [] []) [] = some (Value.tuple #[Value.agg #[Value.int IntKind.i64 0, Value.int IntKind.i64 0], Value.bool false],
 [ltq d (↑p.swell.length : Int) = false]) := by kernel_rfl
noncomputable def rNext_p0 (B : Lo) (p : ShPass) (fd fh : Int) (d h : Int) (dJ0 : Nat → Value) : List Prop := [ltq h 24 = true] ++ ([] : List Prop)
noncomputable def rNext_q0 (p : ShPass) (fd fh : Int) (d h : Int) (dJ0 : Nat → Value) : ScriptT := [(1, hvT)]
noncomputable def rNext_p1 (B : Lo) (p : ShPass) (fd fh : Int) (d h : Int) (dJ0 : Nat → Value) : List Prop := [ltq fd d = true] ++ rNext_p0 B p fd fh d h dJ0
noncomputable def rNext_q1 (p : ShPass) (fd fh : Int) (d h : Int) (dJ0 : Nat → Value) : ScriptT := rNext_q0 p fd fh d h dJ0 ++ [(10, hvT)]
set_option maxRecDepth 100000 in
theorem rNext_s2 (B : Lo) (p : ShPass) (fd fh : Int) (d h : Int) (dJ0 : Nat → Value) : endT (srunT Tryz.prog (okFn Tryz.prog) J0 B 16 1 (headC 26 42 (([2, 3, 4, 6, 7] : List Nat).zip (rNext_v1 p fd fh d h)) dJ0 rNext_t1) (headH (rNext_o1 p fd fh d h)) (2 + (rNext_o1 p fd fh d h).length)
 (rNext_q1 p fd fh d h dJ0 ++ [(20, HintT.pure (Value.bool true) [])]) 0 [] []) [] = some (Value.tuple #[Value.agg #[Value.int IntKind.i64 d, Value.int IntKind.i64 h], Value.bool true],
 [AllP [] ∧ PureC Tryz.prog J0 72 #[Value.agg (rNext_z0 p), Value.agg #[Value.int IntKind.i64 d, Value.int IntKind.i64 h]] (Value.bool true)] ++ rNext_p1 B p fd fh d h dJ0) := by kernel_rfl
set_option maxRecDepth 100000 in
theorem rNext_s3 (B : Lo) (p : ShPass) (fd fh : Int) (d h : Int) (dJ0 : Nat → Value) : landM (srunT Tryz.prog (okFn Tryz.prog) J0 B 16 1 (headC 26 42 (([2, 3, 4, 6, 7] : List Nat).zip (rNext_v1 p fd fh d h)) dJ0 rNext_t1) (headH (rNext_o1 p fd fh d h)) (2 + (rNext_o1 p fd fh d h).length)
 (rNext_q1 p fd fh d h dJ0 ++ [(20, HintT.pure (Value.bool false) []), (23, hvI (h + 1))]) 0 [] []) [2, 3, 4, 6, 7] [(2, KS.auto), (3, KS.auto), (4, KS.auto)] [] = some ⟨26, 42, rNext_t1, [], .run, none, rNext_v1 p fd fh (d) (h + 1), rNext_o1 p fd fh (d) (h + 1),
 [wq (h + 1) = h + 1, AllP [] ∧ PureC Tryz.prog J0 72 #[Value.agg (rNext_z0 p), Value.agg #[Value.int IntKind.i64 d, Value.int IntKind.i64 h]] (Value.bool false)] ++ rNext_p1 B p fd fh d h dJ0⟩ := by kernel_rfl
noncomputable def rNext_p2 (B : Lo) (p : ShPass) (fd fh : Int) (d h : Int) (dJ0 : Nat → Value) : List Prop := [ltq fd d = false] ++ rNext_p0 B p fd fh d h dJ0
noncomputable def rNext_q2 (p : ShPass) (fd fh : Int) (d h : Int) (dJ0 : Nat → Value) : ScriptT := rNext_q0 p fd fh d h dJ0 ++ [(10, hvF)]
noncomputable def rNext_p3 (B : Lo) (p : ShPass) (fd fh : Int) (d h : Int) (dJ0 : Nat → Value) : List Prop := [(!ltq h fh) = true] ++ rNext_p2 B p fd fh d h dJ0
noncomputable def rNext_q3 (p : ShPass) (fd fh : Int) (d h : Int) (dJ0 : Nat → Value) : ScriptT := rNext_q2 p fd fh d h dJ0 ++ [(15, hvT)]
set_option maxRecDepth 100000 in
theorem rNext_s4 (B : Lo) (p : ShPass) (fd fh : Int) (d h : Int) (dJ0 : Nat → Value) : endT (srunT Tryz.prog (okFn Tryz.prog) J0 B 16 1 (headC 26 42 (([2, 3, 4, 6, 7] : List Nat).zip (rNext_v1 p fd fh d h)) dJ0 rNext_t1) (headH (rNext_o1 p fd fh d h)) (2 + (rNext_o1 p fd fh d h).length)
 (rNext_q3 p fd fh d h dJ0 ++ [(20, HintT.pure (Value.bool true) [])]) 0 [] []) [] = some (Value.tuple #[Value.agg #[Value.int IntKind.i64 d, Value.int IntKind.i64 h], Value.bool true],
 [AllP [] ∧ PureC Tryz.prog J0 72 #[Value.agg (rNext_z0 p), Value.agg #[Value.int IntKind.i64 d, Value.int IntKind.i64 h]] (Value.bool true)] ++ rNext_p3 B p fd fh d h dJ0) := by kernel_rfl
set_option maxRecDepth 100000 in
theorem rNext_s5 (B : Lo) (p : ShPass) (fd fh : Int) (d h : Int) (dJ0 : Nat → Value) : landM (srunT Tryz.prog (okFn Tryz.prog) J0 B 16 1 (headC 26 42 (([2, 3, 4, 6, 7] : List Nat).zip (rNext_v1 p fd fh d h)) dJ0 rNext_t1) (headH (rNext_o1 p fd fh d h)) (2 + (rNext_o1 p fd fh d h).length)
 (rNext_q3 p fd fh d h dJ0 ++ [(20, HintT.pure (Value.bool false) []), (23, hvI (h + 1))]) 0 [] []) [2, 3, 4, 6, 7] [(2, KS.auto), (3, KS.auto), (4, KS.auto)] [] = some ⟨26, 42, rNext_t1, [], .run, none, rNext_v1 p fd fh (d) (h + 1), rNext_o1 p fd fh (d) (h + 1),
 [wq (h + 1) = h + 1, AllP [] ∧ PureC Tryz.prog J0 72 #[Value.agg (rNext_z0 p), Value.agg #[Value.int IntKind.i64 d, Value.int IntKind.i64 h]] (Value.bool false)] ++ rNext_p3 B p fd fh d h dJ0⟩ := by kernel_rfl
set_option maxRecDepth 100000 in
theorem rNext_s6 (B : Lo) (p : ShPass) (fd fh : Int) (d h : Int) (dJ0 : Nat → Value) : landM (srunT Tryz.prog (okFn Tryz.prog) J0 B 16 1 (headC 26 42 (([2, 3, 4, 6, 7] : List Nat).zip (rNext_v1 p fd fh d h)) dJ0 rNext_t1) (headH (rNext_o1 p fd fh d h)) (2 + (rNext_o1 p fd fh d h).length)
 (rNext_q2 p fd fh d h dJ0 ++ [(15, hvF), (23, hvI (h + 1))]) 0 [] []) [2, 3, 4, 6, 7] [(2, KS.auto), (3, KS.auto), (4, KS.auto)] [] = some ⟨26, 42, rNext_t1, [], .run, none, rNext_v1 p fd fh (d) (h + 1), rNext_o1 p fd fh (d) (h + 1),
 [wq (h + 1) = h + 1, (!ltq h fh) = false] ++ rNext_p2 B p fd fh d h dJ0⟩ := by kernel_rfl
set_option maxRecDepth 100000 in
theorem rNext_s7 (B : Lo) (p : ShPass) (fd fh : Int) (d h : Int) (dJ0 : Nat → Value) : landM (srunT Tryz.prog (okFn Tryz.prog) J0 B 8 1 (headC 26 42 (([2, 3, 4, 6, 7] : List Nat).zip (rNext_v1 p fd fh d h)) dJ0 rNext_t1) (headH (rNext_o1 p fd fh d h)) (2 + (rNext_o1 p fd fh d h).length)
 [(1, hvF), (3, hvI (d + 1))] 0 [] []) [2, 3, 4, 6] [(2, KS.auto), (3, KS.auto), (4, KS.auto)] [] = some ⟨26, 42, rNext_t0, [], .run, none, rNext_v0 p fd fh (d + 1), rNext_o0 p fd fh (d + 1),
 [wq (d + 1) = d + 1, ltq h 24 = false]⟩ := by kernel_rfl
set_option maxRecDepth 100000 in
theorem rNext_s8 (B : Lo) (p : ShPass) (fd fh : Int) : landM (srunT Tryz.prog (okFn Tryz.prog) J0 B 7 1 (entryC Tryz.prog 26 42 (([.agg (encPass p).toArray, callV fd fh]).map (pushT 0 4))) H00 1
 [] 0 [] []) [2, 3, 4, 6] [(1, KS.auto), (2, KS.auto), (3, KS.auto)] [] = some ⟨26, 42, rNext_t0, [], .run, none, rNext_v0 p fd fh (fd), rNext_o0 p fd fh (fd),
 []⟩ := by kernel_rfl
set_option maxHeartbeats 4000000 in
theorem rNext_ls (p : ShPass) (fd fh : Int) (hp : passB p = true) (hd : 0 ≤ fd ∧ fd < p.swell.length) (hh : 0 ≤ fh ∧ fh ≤ 23) {B : Lo} (hJ : ∀ w, B.has w → J0 w) {c0 : CF} : ∀ m : Nat, (∀ (d : Int), (p.swell.length - d.toNat) * 100 = m → ∀ (h0 : 0 ≤ d) (h1 : fd ≤ d), rNext_h0 B c0 p fd fh d → EndsT Tryz.prog B c0 (optV (nextD p fd fh d))) ∧ (∀ (d h : Int), (p.swell.length - d.toNat) * 100 - 1 - h.toNat = m → ∀ (h0 : 0 ≤ d) (h1 : fd ≤ d) (h2 : d < p.swell.length) (h3 : 0 ≤ h) (h4 : h ≤ 24), rNext_h1 B c0 p fd fh d h → EndsT Tryz.prog B c0 (optV ((nextH p fd fh d h).or (nextD p fd fh (d + 1))))) := by
 intro m0
 induction m0 using Nat.strongRecOn with
 | _ m0 ih0 =>
   refine ⟨?_, ?_⟩
   ·intro d hm0 h0 h1 ⟨dJ0, hdJ0, hg0⟩
    have hP := pass_facts hp
    have hP := pass_facts hp
    by_cases q0 : (d : Int) < ((↑p.swell.length : Int))
    ·
     exact ((ih0 _ (by omega)).2 (d) (0) rfl (by first | with_reducible assumption | omega | (simp_all; done)) (by first | with_reducible assumption | omega | (simp_all; done)) (by first | with_reducible assumption | omega | (simp_all; done)) (by first | with_reducible assumption | omega | (simp_all; done)) (by first | with_reducible assumption | omega | (simp_all; done))
      (hg0.landM okF hJ mixed_ok (rNext_s0 B p fd fh d dJ0)
      ⟨(ltq_t q0), trivial⟩ (by kernel_rfl) (by kernel_rfl))).cast (by first | (rw [nextD_nil (d := d) (by omega)]; rfl) | (rw [nextD_cons (d := d) (by omega)]; done))
    ·
     exact (GoE.endsT okF hJ mixed_ok hg0 (rNext_s1 B p fd fh d dJ0)
      ⟨(ltq_f (Int.not_lt.1 q0)), trivial⟩).cast (by first | (rw [nextD_nil (d := d) (by omega)]; rfl) | (rw [nextD_cons (d := d) (by omega)]; done))
   ·intro d h hm0 h0 h1 h2 h3 h4 ⟨dJ0, hdJ0, hg0⟩
    have hP := pass_facts hp
    have hP := pass_facts hp
    by_cases q0 : (h : Int) < (24)
    ·
     have hp0 : AllP (rNext_p0 B p fd fh d h dJ0) := by
      exact ⟨(ltq_t q0), trivial⟩
     by_cases q1 : (fd : Int) < (d)
     ·
      have hp1 : AllP (rNext_p1 B p fd fh d h dJ0) := by
       exact ⟨(ltq_t q1), hp0⟩
      cases q2 : goesB p d h (Span.hi (List.getD p.swell d.toNat default)) with
      | true =>
        exact (GoE.endsT okF hJ mixed_ok hg0 (rNext_s2 B p fd fh d h dJ0)
         ⟨⟨trivial, (by have t_ := rSurely (p) (d) (h) (by first | with_reducible assumption | omega | simp_all) (by first | with_reducible assumption | omega | simp_all) (by first | with_reducible assumption | omega | simp_all); rw [q2] at t_; exact t_)⟩, hp1⟩).cast (by first | (rw [nextH_nil (h := h) (by omega)]; rfl) | (rw [nextH_cons (h := h) (by omega), okC, sureB]; simp [optV, callV, *]; done) | (rw [nextH_cons (h := h) (by omega), okC, sureB]; simp_all [optV, callV]; done))
      | false =>
        exact ((ih0 _ (by omega)).2 (d) (h + 1) rfl (by first | with_reducible assumption | omega | (simp_all; done)) (by first | with_reducible assumption | omega | (simp_all; done)) (by first | with_reducible assumption | omega | (simp_all; done)) (by first | with_reducible assumption | omega | (simp_all; done)) (by first | with_reducible assumption | omega | (simp_all; done))
         (hg0.landM okF hJ mixed_ok (rNext_s3 B p fd fh d h dJ0)
         ⟨(wq_in (by omega) (by omega)), ⟨⟨trivial, (by have t_ := rSurely (p) (d) (h) (by first | with_reducible assumption | omega | simp_all) (by first | with_reducible assumption | omega | simp_all) (by first | with_reducible assumption | omega | simp_all); rw [q2] at t_; exact t_)⟩, hp1⟩⟩ (by kernel_rfl) (by kernel_rfl))).cast (by first | (rw [nextH_nil (h := h) (by omega)]; rfl) | (rw [nextH_cons (h := h) (by omega), okC, sureB]; simp [optV, callV, *]; done) | (rw [nextH_cons (h := h) (by omega), okC, sureB]; simp_all [optV, callV]; done))
     ·
      have hp2 : AllP (rNext_p2 B p fd fh d h dJ0) := by
       exact ⟨(ltq_f (Int.not_lt.1 q1)), hp0⟩
      by_cases q2 : (fh : Int) ≤ (h)
      ·
       have hp3 : AllP (rNext_p3 B p fd fh d h dJ0) := by
        exact ⟨(nltq_t q2), hp2⟩
       cases q3 : goesB p d h (Span.hi (List.getD p.swell d.toNat default)) with
       | true =>
         exact (GoE.endsT okF hJ mixed_ok hg0 (rNext_s4 B p fd fh d h dJ0)
          ⟨⟨trivial, (by have t_ := rSurely (p) (d) (h) (by first | with_reducible assumption | omega | simp_all) (by first | with_reducible assumption | omega | simp_all) (by first | with_reducible assumption | omega | simp_all); rw [q3] at t_; exact t_)⟩, hp3⟩).cast (by first | (rw [nextH_nil (h := h) (by omega)]; rfl) | (rw [nextH_cons (h := h) (by omega), okC, sureB]; simp [optV, callV, *]; done) | (rw [nextH_cons (h := h) (by omega), okC, sureB]; simp_all [optV, callV]; done))
       | false =>
         exact ((ih0 _ (by omega)).2 (d) (h + 1) rfl (by first | with_reducible assumption | omega | (simp_all; done)) (by first | with_reducible assumption | omega | (simp_all; done)) (by first | with_reducible assumption | omega | (simp_all; done)) (by first | with_reducible assumption | omega | (simp_all; done)) (by first | with_reducible assumption | omega | (simp_all; done))
          (hg0.landM okF hJ mixed_ok (rNext_s5 B p fd fh d h dJ0)
          ⟨(wq_in (by omega) (by omega)), ⟨⟨trivial, (by have t_ := rSurely (p) (d) (h) (by first | with_reducible assumption | omega | simp_all) (by first | with_reducible assumption | omega | simp_all) (by first | with_reducible assumption | omega | simp_all); rw [q3] at t_; exact t_)⟩, hp3⟩⟩ (by kernel_rfl) (by kernel_rfl))).cast (by first | (rw [nextH_nil (h := h) (by omega)]; rfl) | (rw [nextH_cons (h := h) (by omega), okC, sureB]; simp [optV, callV, *]; done) | (rw [nextH_cons (h := h) (by omega), okC, sureB]; simp_all [optV, callV]; done))
      ·
       exact ((ih0 _ (by omega)).2 (d) (h + 1) rfl (by first | with_reducible assumption | omega | (simp_all; done)) (by first | with_reducible assumption | omega | (simp_all; done)) (by first | with_reducible assumption | omega | (simp_all; done)) (by first | with_reducible assumption | omega | (simp_all; done)) (by first | with_reducible assumption | omega | (simp_all; done))
        (hg0.landM okF hJ mixed_ok (rNext_s6 B p fd fh d h dJ0)
        ⟨(wq_in (by omega) (by omega)), ⟨(nltq_f (Int.not_le.1 q2)), hp2⟩⟩ (by kernel_rfl) (by kernel_rfl))).cast (by first | (rw [nextH_nil (h := h) (by omega)]; rfl) | (rw [nextH_cons (h := h) (by omega), okC, sureB]; simp [optV, callV, *]; done) | (rw [nextH_cons (h := h) (by omega), okC, sureB]; simp_all [optV, callV]; done))
    ·
     exact ((ih0 _ (by omega)).1 (d + 1) rfl (by first | with_reducible assumption | omega | (simp_all; done)) (by first | with_reducible assumption | omega | (simp_all; done))
      (hg0.landM okF hJ mixed_ok (rNext_s7 B p fd fh d h dJ0)
      ⟨(wq_in (by omega) (by omega)), ⟨(ltq_f (Int.not_lt.1 q0)), trivial⟩⟩ (by kernel_rfl) (by kernel_rfl))).cast (by first | (rw [nextH_nil (h := h) (by omega)]; rfl) | (rw [nextH_cons (h := h) (by omega), okC, sureB]; simp [optV, callV, *]; done) | (rw [nextH_cons (h := h) (by omega), okC, sureB]; simp_all [optV, callV]; done))
set_option maxHeartbeats 4000000 in
theorem rNext_e (p : ShPass) (fd fh : Int) (hp : passB p = true) (hd : 0 ≤ fd ∧ fd < p.swell.length) (hh : 0 ≤ fh ∧ fh ≤ 23) {B : Lo} (hJ : ∀ w, B.has w → J0 w) : EndsT Tryz.prog B (entryC Tryz.prog 26 42 (([.agg (encPass p).toArray, callV fd fh]).map (pushT 0 4))) (optV (nextD p fd fh fd)) := by
 have hP := pass_facts hp
 exact ((rNext_ls p fd fh hp hd hh hJ _).1 (fd) rfl (by first | with_reducible assumption | omega | (simp_all; done)) (by first | with_reducible assumption | omega | (simp_all; done))
  (GoE.start.landM okF hJ mixed_ok (rNext_s8 B p fd fh)
  trivial (by kernel_rfl) (by kernel_rfl))).cast (by first | rfl | (simp [*]; done) | (simp_all []; done) | (simp_all []; omega))
theorem rNext (p : ShPass) (fd fh : Int) (hp : passB p = true) (hd : 0 ≤ fd ∧ fd < p.swell.length) (hh : 0 ≤ fh ∧ fh ≤ 23) : PureC Tryz.prog J0 26 #[.agg (encPass p).toArray, callV fd fh] (optV (nextD p fd fh fd)) :=
 pureC_of (ts := [.agg (encPass p).toArray, callV fd fh]) J0_st (c0 := entryC Tryz.prog 26 42 (([.agg (encPass p).toArray, callV fd fh]).map (pushT 0 4))) (by kernel_rfl) (by kernel_rfl) fun B hJ => rNext_e p fd fh hp hd hh hJ
end Go.Proofs.YtiabgkiccaodmaaGreat

