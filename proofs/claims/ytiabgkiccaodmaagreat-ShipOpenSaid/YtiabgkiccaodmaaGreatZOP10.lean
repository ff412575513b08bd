/- The program's passes with some swell. -/
import Derived.Test.YtiabgkiccaodmaaGreatZOP09
set_option linter.all false
namespace Go.Proofs.YtiabgkiccaodmaaGreat
open Go Go.CE Go.RowKit
def fHi : Value := .func (.func 103) #[] #[]
def fLo : Value := .func (.func 104) #[] #[]
def fAt (s : Int) : Value := .func (.func 74) #[] #[ptT 0 #[.int .i64 s]]
theorem call_facts {p : ShPass} {d h : Int} (e : (inB d 0 (p.swell.length - 1) && inB h 0 23) = true) : (0 ≤ d ∧ d < p.swell.length) ∧ (0 ≤ h ∧ h ≤ 23) := by
 simp only [Bool.and_eq_true, inB_iff] at e; omega
theorem swell_facts {p : ShPass} {d s : Int} (e1 : passB p = true) (e2 : 0 ≤ d ∧ d < p.swell.length) (e3 : inB s (p.swell.getD d.toNat default).lo (p.swell.getD d.toNat default).hi = true) : -100000 ≤ s ∧ s ≤ 100000 := by
 have := swell_in e1 (k := d.toNat) (by omega)
 simp only [inB_iff] at e3; omega
def goOk (p : ShPass) (d h s : Int) : Bool := passB p && (inB d 0 (p.swell.length - 1) && inB h 0 23) && inB s (p.swell.getD d.toNat default).lo (p.swell.getD d.toNat default).hi
def swV (p : ShPass) (f : Value) : Value := .agg (encPass p ++ [f]).toArray
set_option maxRecDepth 100000 in
theorem pHigh_s0 (B : Lo) (a b : Int) : endT (srunT Tryz.prog (okFn Tryz.prog) J0 B 6 1 (entryC Tryz.prog 103 5 (([.agg #[.int .i64 a, .int .i64 b]]).map (pushT 0 4))) H00 1
 [] 0 [] []) [] = some (Value.int IntKind.i64 b,
 []) := by kernel_rfl
set_option maxHeartbeats 4000000 in
theorem pHigh_e (a b : Int)  {B : Lo} (hJ : ∀ w, B.has w → J0 w) : EndsT Tryz.prog B (entryC Tryz.prog 103 5 (([.agg #[.int .i64 a, .int .i64 b]]).map (pushT 0 4))) (.int .i64 b) := by
 exact (GoE.endsT okF hJ mixed_ok GoE.start (pHigh_s0 B a b)
  trivial).cast (by first | rfl | (simp [*]; done) | (simp_all []; done) | (simp_all []; omega))
theorem pHigh (a b : Int)  : PureC Tryz.prog J0 103 #[.agg #[.int .i64 a, .int .i64 b]] (.int .i64 b) :=
 pureC_of (ts := [.agg #[.int .i64 a, .int .i64 b]]) J0_st (c0 := entryC Tryz.prog 103 5 (([.agg #[.int .i64 a, .int .i64 b]]).map (pushT 0 4))) (by kernel_rfl) (by kernel_rfl) fun B hJ => pHigh_e a b  hJ
set_option maxRecDepth 100000 in
theorem pLow_s0 (B : Lo) (a b : Int) : endT (srunT Tryz.prog (okFn Tryz.prog) J0 B 6 1 (entryC Tryz.prog 104 5 (([.agg #[.int .i64 a, .int .i64 b]]).map (pushT 0 4))) H00 1
 [] 0 [] []) [] = some (Value.int IntKind.i64 a,
 []) := by kernel_rfl
set_option maxHeartbeats 4000000 in
theorem pLow_e (a b : Int)  {B : Lo} (hJ : ∀ w, B.has w → J0 w) : EndsT Tryz.prog B (entryC Tryz.prog 104 5 (([.agg #[.int .i64 a, .int .i64 b]]).map (pushT 0 4))) (.int .i64 a) := by
 exact (GoE.endsT okF hJ mixed_ok GoE.start (pLow_s0 B a b)
  trivial).cast (by first | rfl | (simp [*]; done) | (simp_all []; done) | (simp_all []; omega))
theorem pLow (a b : Int)  : PureC Tryz.prog J0 104 #[.agg #[.int .i64 a, .int .i64 b]] (.int .i64 a) :=
 pureC_of (ts := [.agg #[.int .i64 a, .int .i64 b]]) J0_st (c0 := entryC Tryz.prog 104 5 (([.agg #[.int .i64 a, .int .i64 b]]).map (pushT 0 4))) (by kernel_rfl) (by kernel_rfl) fun B hJ => pLow_e a b  hJ
set_option maxRecDepth 100000 in
theorem pGoes1_s0 (B : Lo) (a b s : Int) : endT (srunT Tryz.prog (okFn Tryz.prog) J0 B 6 1 (entryC Tryz.prog 74 5 (([.agg #[.int .i64 a, .int .i64 b], ptT 0 #[.int .i64 s]]).map (pushT 0 4))) H00 1
 [] 0 [] []) [] = some (Value.int IntKind.i64 s,
 []) := by kernel_rfl
set_option maxHeartbeats 4000000 in
theorem pGoes1_e (a b s : Int)  {B : Lo} (hJ : ∀ w, B.has w → J0 w) : EndsT Tryz.prog B (entryC Tryz.prog 74 5 (([.agg #[.int .i64 a, .int .i64 b], ptT 0 #[.int .i64 s]]).map (pushT 0 4))) (.int .i64 s) := by
 exact (GoE.endsT okF hJ mixed_ok GoE.start (pGoes1_s0 B a b s)
  trivial).cast (by first | rfl | (simp [*]; done) | (simp_all []; done) | (simp_all []; omega))
theorem pGoes1 (a b s : Int)  : PureC Tryz.prog J0 74 #[.agg #[.int .i64 a, .int .i64 b], ptT 0 #[.int .i64 s]] (.int .i64 s) :=
 pureC_of (ts := [.agg #[.int .i64 a, .int .i64 b], ptT 0 #[.int .i64 s]]) J0_st (c0 := entryC Tryz.prog 74 5 (([.agg #[.int .i64 a, .int .i64 b], ptT 0 #[.int .i64 s]]).map (pushT 0 4))) (by kernel_rfl) (by kernel_rfl) fun B hJ => pGoes1_e a b s  hJ
set_option maxRecDepth 100000 in
theorem pmost_s0 (B : Lo) (p : ShPass) : endT (srunT Tryz.prog (okFn Tryz.prog) J0 B 6 1 (entryC Tryz.prog 62 5 (([.agg (encPass p).toArray]).map (pushT 0 4))) H00 1
 [] 0 [] []) [] = some (Value.agg #[slT p.tides.length (rowL encI p.tides), Value.int IntKind.i64 p.depth, Value.int IntKind.i64 p.draft, slT p.swell.length (rowL encSp p.swell), Value.int IntKind.i64 p.llo, Value.int IntKind.i64 p.lhi, Value.func (Fn.func 103) #[] #[]],
 []) := by kernel_rfl
set_option maxHeartbeats 4000000 in
theorem pmost_e (p : ShPass)  {B : Lo} (hJ : ∀ w, B.has w → J0 w) : EndsT Tryz.prog B (entryC Tryz.prog 62 5 (([.agg (encPass p).toArray]).map (pushT 0 4))) (swV p fHi) := by
 exact (GoE.endsT okF hJ mixed_ok GoE.start (pmost_s0 B p)
  trivial).cast (by first | rfl | (simp [*]; done) | (simp_all []; done) | (simp_all []; omega))
theorem pmost (p : ShPass)  : PureC Tryz.prog J0 62 #[.agg (encPass p).toArray] (swV p fHi) :=
 pureC_of (ts := [.agg (encPass p).toArray]) J0_st (c0 := entryC Tryz.prog 62 5 (([.agg (encPass p).toArray]).map (pushT 0 4))) (by kernel_rfl) (by kernel_rfl) fun B hJ => pmost_e p  hJ
set_option maxRecDepth 100000 in
theorem pleast_s0 (B : Lo) (p : ShPass) : endT (srunT Tryz.prog (okFn Tryz.prog) J0 B 6 1 (entryC Tryz.prog 64 5 (([.agg (encPass p).toArray]).map (pushT 0 4))) H00 1
 [] 0 [] []) [] = some (Value.agg #[slT p.tides.length (rowL encI p.tides), Value.int IntKind.i64 p.depth, Value.int IntKind.i64 p.draft, slT p.swell.length (rowL encSp p.swell), Value.int IntKind.i64 p.llo, Value.int IntKind.i64 p.lhi, Value.func (Fn.func 104) #[] #[]],
 []) := by kernel_rfl
set_option maxHeartbeats 4000000 in
theorem pleast_e (p : ShPass)  {B : Lo} (hJ : ∀ w, B.has w → J0 w) : EndsT Tryz.prog B (entryC Tryz.prog 64 5 (([.agg (encPass p).toArray]).map (pushT 0 4))) (swV p fLo) := by
 exact (GoE.endsT okF hJ mixed_ok GoE.start (pleast_s0 B p)
  trivial).cast (by first | rfl | (simp [*]; done) | (simp_all []; done) | (simp_all []; omega))
theorem pleast (p : ShPass)  : PureC Tryz.prog J0 64 #[.agg (encPass p).toArray] (swV p fLo) :=
 pureC_of (ts := [.agg (encPass p).toArray]) J0_st (c0 := entryC Tryz.prog 64 5 (([.agg (encPass p).toArray]).map (pushT 0 4))) (by kernel_rfl) (by kernel_rfl) fun B hJ => pleast_e p  hJ
set_option maxRecDepth 100000 in
theorem phourOf_s0 (B : Lo) (d h : Int) : endT (srunT Tryz.prog (okFn Tryz.prog) J0 B 6 1 (entryC Tryz.prog 106 9 (([callV d h]).map (pushT 0 4))) H00 1
 [(4, hvI (d * 24)), (7, hvI (d * 24 + h))] 0 [] []) [] = some (Value.int IntKind.i64 (d * 24 + h),
 [wq (d * 24 + h) = d * 24 + h, wq (d * 24) = d * 24]) := by kernel_rfl
set_option maxHeartbeats 4000000 in
theorem phourOf_e (d h : Int) (hd : 0 ≤ d ∧ d ≤ 100) (hh : 0 ≤ h ∧ h ≤ 100) {B : Lo} (hJ : ∀ w, B.has w → J0 w) : EndsT Tryz.prog B (entryC Tryz.prog 106 9 (([callV d h]).map (pushT 0 4))) (.int .i64 (d * 24 + h)) := by
 exact (GoE.endsT okF hJ mixed_ok GoE.start (phourOf_s0 B d h)
  ⟨(wq_in (by omega) (by omega)), ⟨(wq_in (by omega) (by omega)), trivial⟩⟩).cast (by first | rfl | (simp [*]; done) | (simp_all []; done) | (simp_all []; omega))
theorem phourOf (d h : Int) (hd : 0 ≤ d ∧ d ≤ 100) (hh : 0 ≤ h ∧ h ≤ 100) : PureC Tryz.prog J0 106 #[callV d h] (.int .i64 (d * 24 + h)) :=
 pureC_of (ts := [callV d h]) J0_st (c0 := entryC Tryz.prog 106 9 (([callV d h]).map (pushT 0 4))) (by kernel_rfl) (by kernel_rfl) fun B hJ => phourOf_e d h hd hh hJ
set_option maxRecDepth 100000 in
theorem pisLightH_s0 (B : Lo) (p : ShPass) (d h : Int)  : endT (srunT Tryz.prog (okFn Tryz.prog) J0 B 6 1 (entryC Tryz.prog 107 11 (([swV p fHi, callV d h]).map (pushT 0 4))) H00 1
 [(8, HintT.pure (Value.bool true) [])] 0 [] []) [] = some (Value.bool true,
 [AllP [] ∧ PureC Tryz.prog J0 73 #[Value.int IntKind.i64 h, Value.agg #[Value.int IntKind.i64 p.llo, Value.int IntKind.i64 p.lhi]] (Value.bool true)]) := by kernel_rfl
set_option maxRecDepth 100000 in
theorem pisLightH_s1 (B : Lo) (p : ShPass) (d h : Int)  : endT (srunT Tryz.prog (okFn Tryz.prog) J0 B 6 1 (entryC Tryz.prog 107 11 (([swV p fHi, callV d h]).map (pushT 0 4))) H00 1
 [(8, HintT.pure (Value.bool false) [])] 0 [] []) [] = some (Value.bool false,
 [AllP [] ∧ PureC Tryz.prog J0 73 #[Value.int IntKind.i64 h, Value.agg #[Value.int IntKind.i64 p.llo, Value.int IntKind.i64 p.lhi]] (Value.bool false)]) := by kernel_rfl
set_option maxHeartbeats 4000000 in
theorem pisLightH_e (p : ShPass) (d h : Int)   {B : Lo} (hJ : ∀ w, B.has w → J0 w) : EndsT Tryz.prog B (entryC Tryz.prog 107 11 (([swV p fHi, callV d h]).map (pushT 0 4))) (.bool (inB h p.llo p.lhi)) := by
 cases q0 : inB h p.llo p.lhi with
 | true =>
   exact (GoE.endsT okF hJ mixed_ok GoE.start (pisLightH_s0 B p d h)
    ⟨⟨trivial, (by have t_ := pInSpan (h) p.llo p.lhi; rw [q0] at t_; exact t_)⟩, trivial⟩).cast (by first | rfl | (simp [*]; done) | (simp_all []; done) | (simp_all []; omega))
 | false =>
   exact (GoE.endsT okF hJ mixed_ok GoE.start (pisLightH_s1 B p d h)
    ⟨⟨trivial, (by have t_ := pInSpan (h) p.llo p.lhi; rw [q0] at t_; exact t_)⟩, trivial⟩).cast (by first | rfl | (simp [*]; done) | (simp_all []; done) | (simp_all []; omega))
theorem pisLightH (p : ShPass) (d h : Int)   : PureC Tryz.prog J0 107 #[swV p fHi, callV d h] (.bool (inB h p.llo p.lhi)) :=
 pureC_of (ts := [swV p fHi, callV d h]) J0_st (c0 := entryC Tryz.prog 107 11 (([swV p fHi, callV d h]).map (pushT 0 4))) (by kernel_rfl) (by kernel_rfl) fun B hJ => pisLightH_e p d h  hJ
noncomputable def pisDeepH_z0 (p : ShPass) (d : Int) : Array Value := #[Value.int IntKind.i64 (Span.lo (List.getD p.swell d.toNat default)), Value.int IntKind.i64 (Span.hi (List.getD p.swell d.toNat default))]
noncomputable def pisDeepH_p0 (B : Lo) (p : ShPass) (d h : Int)  : List Prop := [wq (p.depth + List.getD p.tides (Int.toNat (Int.tmod (d * 24 + h) (↑p.tides.length : Int))) default - Span.hi (List.getD p.swell d.toNat default)) = p.depth + List.getD p.tides (Int.toNat (Int.tmod (d * 24 + h) (↑p.tides.length : Int))) default - Span.hi (List.getD p.swell d.toNat default), AllP [] ∧ PureC Tryz.prog J0 103 #[Value.agg (pisDeepH_z0 p d)] (Value.int IntKind.i64 (Span.hi (List.getD p.swell d.toNat default))), d = (↑d.toNat : Int) ∧ Int.toNat d < List.length p.swell ∧ Array.extract (rowL encSp p.swell) (Int.toNat d * TypeInfo.size Tryz.t25) (Int.toNat d * TypeInfo.size Tryz.t25 + TypeInfo.size Tryz.t25) = (pisDeepH_z0 p d), wq (p.depth + List.getD p.tides (Int.toNat (Int.tmod (d * 24 + h) (↑p.tides.length : Int))) default) = p.depth + List.getD p.tides (Int.toNat (Int.tmod (d * 24 + h) (↑p.tides.length : Int))) default, Int.tmod (d * 24 + h) (↑p.tides.length : Int) = (↑(Int.toNat (Int.tmod (d * 24 + h) (↑p.tides.length : Int))) : Int) ∧ Int.toNat (Int.tmod (d * 24 + h) (↑p.tides.length : Int)) < List.length p.tides ∧ Array.extract (rowL encI p.tides) (Int.toNat (Int.tmod (d * 24 + h) (↑p.tides.length : Int)) * TypeInfo.size Tryz.t3) (Int.toNat (Int.tmod (d * 24 + h) (↑p.tides.length : Int)) * TypeInfo.size Tryz.t3 + TypeInfo.size Tryz.t3) = #[Value.int IntKind.i64 (List.getD p.tides (Int.toNat (Int.tmod (d * 24 + h) (↑p.tides.length : Int))) default)], BinTo Tryz.prog BinOp.rem 3 (tget { len := 16000, tr := Tri.set 14 (Tri.set 14 Tri.lf 14 (Value.int IntKind.i64 (↑p.tides.length : Int))) 10 (Value.int IntKind.i64 (d * 24 + h)) } 10) (tget { len := 16000, tr := Tri.set 14 (Tri.set 14 Tri.lf 14 (Value.int IntKind.i64 (↑p.tides.length : Int))) 10 (Value.int IntKind.i64 (d * 24 + h)) } 14) (Value.int IntKind.i64 (Int.tmod (d * 24 + h) (↑p.tides.length : Int))), AllP [] ∧ PureC Tryz.prog J0 106 #[Value.agg #[Value.int IntKind.i64 d, Value.int IntKind.i64 h]] (Value.int IntKind.i64 (d * 24 + h))] ++ ([] : List Prop)
noncomputable def pisDeepH_q0 (p : ShPass) (d h : Int)  : ScriptT := [(7, HintT.pure (Value.int IntKind.i64 (d * 24 + h)) []), (12, HintT.bin (Value.int IntKind.i64 (Int.tmod (d * 24 + h) (↑p.tides.length : Int)))), (13, HintT.tidx (Int.toNat (Int.tmod (d * 24 + h) (↑p.tides.length : Int))) #[Value.int IntKind.i64 (List.getD p.tides (Int.toNat (Int.tmod (d * 24 + h) (↑p.tides.length : Int))) default)]), (20, hvI (p.depth + List.getD p.tides (Int.toNat (Int.tmod (d * 24 + h) (↑p.tides.length : Int))) default)), (28, HintT.tidx d.toNat (pisDeepH_z0 p d)), (30, HintT.pure (Value.int IntKind.i64 (Span.hi (List.getD p.swell d.toNat default))) []), (31, hvI (p.depth + List.getD p.tides (Int.toNat (Int.tmod (d * 24 + h) (↑p.tides.length : Int))) default - Span.hi (List.getD p.swell d.toNat default)))]
set_option maxRecDepth 100000 in
theorem pisDeepH_s0 (B : Lo) (p : ShPass) (d h : Int)  : endT (srunT Tryz.prog (okFn Tryz.prog) J0 B 8 1 (entryC Tryz.prog 108 38 (([swV p fHi, callV d h]).map (pushT 0 4))) H00 1
 (pisDeepH_q0 p d h ++ [(35, hvT)]) 0 [] []) [] = some (Value.bool true,
 [(!ltq (p.depth + List.getD p.tides (Int.toNat (Int.tmod (d * 24 + h) (↑p.tides.length : Int))) default - Span.hi (List.getD p.swell d.toNat default)) p.draft) = true] ++ pisDeepH_p0 B p d h) := by kernel_rfl
set_option maxRecDepth 100000 in
theorem pisDeepH_s1 (B : Lo) (p : ShPass) (d h : Int)  : endT (srunT Tryz.prog (okFn Tryz.prog) J0 B 8 1 (entryC Tryz.prog 108 38 (([swV p fHi, callV d h]).map (pushT 0 4))) H00 1
 (pisDeepH_q0 p d h ++ [(35, hvF)]) 0 [] []) [] = some (Value.bool false,
 [(!ltq (p.depth + List.getD p.tides (Int.toNat (Int.tmod (d * 24 + h) (↑p.tides.length : Int))) default - Span.hi (List.getD p.swell d.toNat default)) p.draft) = false] ++ pisDeepH_p0 B p d h) := by kernel_rfl
set_option maxHeartbeats 4000000 in
theorem pisDeepH_e (p : ShPass) (d h : Int)  (hp : passB p = true) (hd : 0 ≤ d ∧ d < p.swell.length) (hh : 0 ≤ h ∧ h ≤ 100)  {B : Lo} (hJ : ∀ w, B.has w → J0 w) : EndsT Tryz.prog B (entryC Tryz.prog 108 38 (([swV p fHi, callV d h]).map (pushT 0 4))) (.bool (decide (p.draft ≤ p.depth + p.tides.getD (tideK p d h) default - (p.swell.getD d.toNat default).hi))) := by
 have hP := pass_facts hp
 have hT := tideK_lt hp hd.1 hh.1
 have hU := tide_in hp hT.2.2
 have hS := swell_in hp (k := d.toNat) (by omega)
 have hp0 : AllP (pisDeepH_p0 B p d h) := by
  unfold tideK at hT hU
  exact ⟨(wq_in (by omega) (by omega)), ⟨⟨trivial, pHigh (Span.lo (List.getD p.swell d.toNat default)) (Span.hi (List.getD p.swell d.toNat default))⟩, ⟨⟨by omega, by omega, (rowL_extract (z := 2) (fun _ => rfl) (by omega))⟩, ⟨(wq_in (by omega) (by omega)), ⟨⟨by omega, by omega, (rowL_extract (z := 1) (fun _ => rfl) (by omega))⟩, ⟨(bin_rem (by omega)), ⟨⟨trivial, phourOf (d) (h) (by first | with_reducible assumption | omega | simp_all) (by first | with_reducible assumption | omega | simp_all)⟩, trivial⟩⟩⟩⟩⟩⟩⟩
 by_cases q0 : (p.draft : Int) ≤ (p.depth + List.getD p.tides (Int.toNat (Int.tmod (d * 24 + h) (↑p.tides.length : Int))) default - Span.hi (List.getD p.swell d.toNat default))
 ·
  unfold tideK at hT hU
  exact (GoE.endsT okF hJ mixed_ok GoE.start (pisDeepH_s0 B p d h)
   ⟨(nltq_t q0), hp0⟩).cast (by first | rfl | (simp [tideK, *]; done) | (simp_all [tideK]; done) | (simp_all [tideK]; omega))
 ·
  unfold tideK at hT hU
  exact (GoE.endsT okF hJ mixed_ok GoE.start (pisDeepH_s1 B p d h)
   ⟨(nltq_f (Int.not_le.1 q0)), hp0⟩).cast (by first | rfl | (simp [tideK, *]; done) | (simp_all [tideK]; done) | (simp_all [tideK]; omega))
theorem pisDeepH (p : ShPass) (d h : Int)  (hp : passB p = true) (hd : 0 ≤ d ∧ d < p.swell.length) (hh : 0 ≤ h ∧ h ≤ 100)  : PureC Tryz.prog J0 108 #[swV p fHi, callV d h] (.bool (decide (p.draft ≤ p.depth + p.tides.getD (tideK p d h) default - (p.swell.getD d.toNat default).hi))) :=
 pureC_of (ts := [swV p fHi, callV d h]) J0_st (c0 := entryC Tryz.prog 108 38 (([swV p fHi, callV d h]).map (pushT 0 4))) (by kernel_rfl) (by kernel_rfl) fun B hJ => pisDeepH_e p d h hp hd hh hJ
noncomputable def pisOpenH_z0 (p : ShPass) (d h : Int) : Array Value := #[Value.agg #[slT p.tides.length (rowL encI p.tides), Value.int IntKind.i64 p.depth, Value.int IntKind.i64 p.draft, slT p.swell.length (rowL encSp p.swell), Value.int IntKind.i64 p.llo, Value.int IntKind.i64 p.lhi, Value.func (Fn.func 103) #[] #[]], Value.agg #[Value.int IntKind.i64 d, Value.int IntKind.i64 h]]
noncomputable def pisOpenH_p0 (B : Lo) (p : ShPass) (d h : Int)  : List Prop := [AllP [] ∧ PureC Tryz.prog J0 107 (pisOpenH_z0 p d h) (Value.bool true)] ++ ([] : List Prop)
noncomputable def pisOpenH_q0 (p : ShPass) (d h : Int)  : ScriptT := [(17, HintT.pure (Value.bool true) [])]
set_option maxRecDepth 100000 in
theorem pisOpenH_s0 (B : Lo) (p : ShPass) (d h : Int)  : endT (srunT Tryz.prog (okFn Tryz.prog) J0 B 50 1 (entryC Tryz.prog 68 22 (([swV p fHi, callV d h]).map (pushT 0 4))) H00 1
 (pisOpenH_q0 p d h ++ [(26, HintT.pure (Value.bool true) [])]) 0 [] []) [] = some (Value.bool true,
 [AllP [] ∧ PureC Tryz.prog J0 108 (pisOpenH_z0 p d h) (Value.bool true)] ++ pisOpenH_p0 B p d h) := by kernel_rfl
set_option maxRecDepth 100000 in
theorem pisOpenH_s1 (B : Lo) (p : ShPass) (d h : Int)  : endT (srunT Tryz.prog (okFn Tryz.prog) J0 B 41 1 (entryC Tryz.prog 68 22 (([swV p fHi, callV d h]).map (pushT 0 4))) H00 1
 (pisOpenH_q0 p d h ++ [(26, HintT.pure (Value.bool false) [])]) 0 [] []) [] = some (Value.bool false,
 [AllP [] ∧ PureC Tryz.prog J0 108 (pisOpenH_z0 p d h) (Value.bool false)] ++ pisOpenH_p0 B p d h) := by kernel_rfl
set_option maxRecDepth 100000 in
theorem pisOpenH_s2 (B : Lo) (p : ShPass) (d h : Int)  : endT (srunT Tryz.prog (okFn Tryz.prog) J0 B 25 1 (entryC Tryz.prog 68 22 (([swV p fHi, callV d h]).map (pushT 0 4))) H00 1
 [(17, HintT.pure (Value.bool false) [])] 0 [] []) [] = some (Value.bool false,
 [AllP [] ∧ PureC Tryz.prog J0 107 (pisOpenH_z0 p d h) (Value.bool false)]) := by kernel_rfl
set_option maxHeartbeats 4000000 in
theorem pisOpenH_e (p : ShPass) (d h : Int)  (hp : passB p = true) (hd : 0 ≤ d ∧ d < p.swell.length) (hh : 0 ≤ h ∧ h ≤ 100)  {B : Lo} (hJ : ∀ w, B.has w → J0 w) : EndsT Tryz.prog B (entryC Tryz.prog 68 22 (([swV p fHi, callV d h]).map (pushT 0 4))) (.bool (goesB p d h (p.swell.getD d.toNat default).hi)) := by
 cases q0 : inB h p.llo p.lhi with
 | true =>
   have hp0 : AllP (pisOpenH_p0 B p d h) := by
    exact ⟨⟨trivial, (by have t_ := pisLightH (p) (d) (h); rw [q0] at t_; exact t_)⟩, trivial⟩
   cases q1 : decide (p.draft ≤ p.depth + List.getD p.tides (tideK p d h) default - Span.hi (List.getD p.swell d.toNat default)) with
   | true =>
     exact (GoE.endsT okF hJ mixed_ok GoE.start (pisOpenH_s0 B p d h)
      ⟨⟨trivial, (by have t_ := pisDeepH (p) (d) (h) (by first | with_reducible assumption | omega | simp_all) (by first | with_reducible assumption | omega | simp_all) (by first | with_reducible assumption | omega | simp_all); rw [q1] at t_; exact t_)⟩, hp0⟩).cast (by first | rfl | (simp [goesB, *]; done) | (simp_all [goesB]; done) | (simp_all [goesB]; omega))
   | false =>
     exact (GoE.endsT okF hJ mixed_ok GoE.start (pisOpenH_s1 B p d h)
      ⟨⟨trivial, (by have t_ := pisDeepH (p) (d) (h) (by first | with_reducible assumption | omega | simp_all) (by first | with_reducible assumption | omega | simp_all) (by first | with_reducible assumption | omega | simp_all); rw [q1] at t_; exact t_)⟩, hp0⟩).cast (by first | rfl | (simp [goesB, *]; done) | (simp_all [goesB]; done) | (simp_all [goesB]; omega))
 | false =>
   exact (GoE.endsT okF hJ mixed_ok GoE.start (pisOpenH_s2 B p d h)
    ⟨⟨trivial, (by have t_ := pisLightH (p) (d) (h); rw [q0] at t_; exact t_)⟩, trivial⟩).cast (by first | rfl | (simp [goesB, *]; done) | (simp_all [goesB]; done) | (simp_all [goesB]; omega))
theorem pisOpenH (p : ShPass) (d h : Int)  (hp : passB p = true) (hd : 0 ≤ d ∧ d < p.swell.length) (hh : 0 ≤ h ∧ h ≤ 100)  : PureC Tryz.prog J0 68 #[swV p fHi, callV d h] (.bool (goesB p d h (p.swell.getD d.toNat default).hi)) :=
 pureC_of (ts := [swV p fHi, callV d h]) J0_st (c0 := entryC Tryz.prog 68 22 (([swV p fHi, callV d h]).map (pushT 0 4))) (by kernel_rfl) (by kernel_rfl) fun B hJ => pisOpenH_e p d h hp hd hh hJ
set_option maxRecDepth 100000 in
theorem pisLightL_s0 (B : Lo) (p : ShPass) (d h : Int)  : endT (srunT Tryz.prog (okFn Tryz.prog) J0 B 6 1 (entryC Tryz.prog 107 11 (([swV p fLo, callV d h]).map (pushT 0 4))) H00 1
 [(8, HintT.pure (Value.bool true) [])] 0 [] []) [] = some (Value.bool true,
 [AllP [] ∧ PureC Tryz.prog J0 73 #[Value.int IntKind.i64 h, Value.agg #[Value.int IntKind.i64 p.llo, Value.int IntKind.i64 p.lhi]] (Value.bool true)]) := by kernel_rfl
set_option maxRecDepth 100000 in
theorem pisLightL_s1 (B : Lo) (p : ShPass) (d h : Int)  : endT (srunT Tryz.prog (okFn Tryz.prog) J0 B 6 1 (entryC Tryz.prog 107 11 (([swV p fLo, callV d h]).map (pushT 0 4))) H00 1
 [(8, HintT.pure (Value.bool false) [])] 0 [] []) [] = some (Value.bool false,
 [AllP [] ∧ PureC Tryz.prog J0 73 #[Value.int IntKind.i64 h, Value.agg #[Value.int IntKind.i64 p.llo, Value.int IntKind.i64 p.lhi]] (Value.bool false)]) := by kernel_rfl
set_option maxHeartbeats 4000000 in
theorem pisLightL_e (p : ShPass) (d h : Int)   {B : Lo} (hJ : ∀ w, B.has w → J0 w) : EndsT Tryz.prog B (entryC Tryz.prog 107 11 (([swV p fLo, callV d h]).map (pushT 0 4))) (.bool (inB h p.llo p.lhi)) := by
 cases q0 : inB h p.llo p.lhi with
 | true =>
   exact (GoE.endsT okF hJ mixed_ok GoE.start (pisLightL_s0 B p d h)
    ⟨⟨trivial, (by have t_ := pInSpan (h) p.llo p.lhi; rw [q0] at t_; exact t_)⟩, trivial⟩).cast (by first | rfl | (simp [*]; done) | (simp_all []; done) | (simp_all []; omega))
 | false =>
   exact (GoE.endsT okF hJ mixed_ok GoE.start (pisLightL_s1 B p d h)
    ⟨⟨trivial, (by have t_ := pInSpan (h) p.llo p.lhi; rw [q0] at t_; exact t_)⟩, trivial⟩).cast (by first | rfl | (simp [*]; done) | (simp_all []; done) | (simp_all []; omega))
theorem pisLightL (p : ShPass) (d h : Int)   : PureC Tryz.prog J0 107 #[swV p fLo, callV d h] (.bool (inB h p.llo p.lhi)) :=
 pureC_of (ts := [swV p fLo, callV d h]) J0_st (c0 := entryC Tryz.prog 107 11 (([swV p fLo, callV d h]).map (pushT 0 4))) (by kernel_rfl) (by kernel_rfl) fun B hJ => pisLightL_e p d h  hJ
noncomputable def pisDeepL_z0 (p : ShPass) (d : Int) : Array Value := #[Value.int IntKind.i64 (Span.lo (List.getD p.swell d.toNat default)), Value.int IntKind.i64 (Span.hi (List.getD p.swell d.toNat default))]
noncomputable def pisDeepL_p0 (B : Lo) (p : ShPass) (d h : Int)  : List Prop := [wq (p.depth + List.getD p.tides (Int.toNat (Int.tmod (d * 24 + h) (↑p.tides.length : Int))) default - Span.lo (List.getD p.swell d.toNat default)) = p.depth + List.getD p.tides (Int.toNat (Int.tmod (d * 24 + h) (↑p.tides.length : Int))) default - Span.lo (List.getD p.swell d.toNat default), AllP [] ∧ PureC Tryz.prog J0 104 #[Value.agg (pisDeepL_z0 p d)] (Value.int IntKind.i64 (Span.lo (List.getD p.swell d.toNat default))), d = (↑d.toNat : Int) ∧ Int.toNat d < List.length p.swell ∧ Array.extract (rowL encSp p.swell) (Int.toNat d * TypeInfo.size Tryz.t25) (Int.toNat d * TypeInfo.size Tryz.t25 + TypeInfo.size Tryz.t25) = (pisDeepL_z0 p d), wq (p.depth + List.getD p.tides (Int.toNat (Int.tmod (d * 24 + h) (↑p.tides.length : Int))) default) = p.depth + List.getD p.tides (Int.toNat (Int.tmod (d * 24 + h) (↑p.tides.length : Int))) default, Int.tmod (d * 24 + h) (↑p.tides.length : Int) = (↑(Int.toNat (Int.tmod (d * 24 + h) (↑p.tides.length : Int))) : Int) ∧ Int.toNat (Int.tmod (d * 24 + h) (↑p.tides.length : Int)) < List.length p.tides ∧ Array.extract (rowL encI p.tides) (Int.toNat (Int.tmod (d * 24 + h) (↑p.tides.length : Int)) * TypeInfo.size Tryz.t3) (Int.toNat (Int.tmod (d * 24 + h) (↑p.tides.length : Int)) * TypeInfo.size Tryz.t3 + TypeInfo.size Tryz.t3) = #[Value.int IntKind.i64 (List.getD p.tides (Int.toNat (Int.tmod (d * 24 + h) (↑p.tides.length : Int))) default)], BinTo Tryz.prog BinOp.rem 3 (tget { len := 16000, tr := Tri.set 14 (Tri.set 14 Tri.lf 14 (Value.int IntKind.i64 (↑p.tides.length : Int))) 10 (Value.int IntKind.i64 (d * 24 + h)) } 10) (tget { len := 16000, tr := Tri.set 14 (Tri.set 14 Tri.lf 14 (Value.int IntKind.i64 (↑p.tides.length : Int))) 10 (Value.int IntKind.i64 (d * 24 + h)) } 14) (Value.int IntKind.i64 (Int.tmod (d * 24 + h) (↑p.tides.length : Int))), AllP [] ∧ PureC Tryz.prog J0 106 #[Value.agg #[Value.int IntKind.i64 d, Value.int IntKind.i64 h]] (Value.int IntKind.i64 (d * 24 + h))] ++ ([] : List Prop)
noncomputable def pisDeepL_q0 (p : ShPass) (d h : Int)  : ScriptT := [(7, HintT.pure (Value.int IntKind.i64 (d * 24 + h)) []), (12, HintT.bin (Value.int IntKind.i64 (Int.tmod (d * 24 + h) (↑p.tides.length : Int)))), (13, HintT.tidx (Int.toNat (Int.tmod (d * 24 + h) (↑p.tides.length : Int))) #[Value.int IntKind.i64 (List.getD p.tides (Int.toNat (Int.tmod (d * 24 + h) (↑p.tides.length : Int))) default)]), (20, hvI (p.depth + List.getD p.tides (Int.toNat (Int.tmod (d * 24 + h) (↑p.tides.length : Int))) default)), (28, HintT.tidx d.toNat (pisDeepL_z0 p d)), (30, HintT.pure (Value.int IntKind.i64 (Span.lo (List.getD p.swell d.toNat default))) []), (31, hvI (p.depth + List.getD p.tides (Int.toNat (Int.tmod (d * 24 + h) (↑p.tides.length : Int))) default - Span.lo (List.getD p.swell d.toNat default)))]
set_option maxRecDepth 100000 in
theorem pisDeepL_s0 (B : Lo) (p : ShPass) (d h : Int)  : endT (srunT Tryz.prog (okFn Tryz.prog) J0 B 8 1 (entryC Tryz.prog 108 38 (([swV p fLo, callV d h]).map (pushT 0 4))) H00 1
 (pisDeepL_q0 p d h ++ [(35, hvT)]) 0 [] []) [] = some (Value.bool true,
 [(!ltq (p.depth + List.getD p.tides (Int.toNat (Int.tmod (d * 24 + h) (↑p.tides.length : Int))) default - Span.lo (List.getD p.swell d.toNat default)) p.draft) = true] ++ pisDeepL_p0 B p d h) := by kernel_rfl
set_option maxRecDepth 100000 in
theorem pisDeepL_s1 (B : Lo) (p : ShPass) (d h : Int)  : endT (srunT Tryz.prog (okFn Tryz.prog) J0 B 8 1 (entryC Tryz.prog 108 38 (([swV p fLo, callV d h]).map (pushT 0 4))) H00 1
 (pisDeepL_q0 p d h ++ [(35, hvF)]) 0 [] []) [] = some (Value.bool false,
 [(!ltq (p.depth + List.getD p.tides (Int.toNat (Int.tmod (d * 24 + h) (↑p.tides.length : Int))) default - Span.lo (List.getD p.swell d.toNat default)) p.draft) = false] ++ pisDeepL_p0 B p d h) := by kernel_rfl
set_option maxHeartbeats 4000000 in
theorem pisDeepL_e (p : ShPass) (d h : Int)  (hp : passB p = true) (hd : 0 ≤ d ∧ d < p.swell.length) (hh : 0 ≤ h ∧ h ≤ 100)  {B : Lo} (hJ : ∀ w, B.has w → J0 w) : EndsT Tryz.prog B (entryC Tryz.prog 108 38 (([swV p fLo, callV d h]).map (pushT 0 4))) (.bool (decide (p.draft ≤ p.depth + p.tides.getD (tideK p d h) default - (p.swell.getD d.toNat default).lo))) := by
 have hP := pass_facts hp
 have hT := tideK_lt hp hd.1 hh.1
 have hU := tide_in hp hT.2.2
 have hS := swell_in hp (k := d.toNat) (by omega)
 have hp0 : AllP (pisDeepL_p0 B p d h) := by
  unfold tideK at hT hU
  exact ⟨(wq_in (by omega) (by omega)), ⟨⟨trivial, pLow (Span.lo (List.getD p.swell d.toNat default)) (Span.hi (List.getD p.swell d.toNat default))⟩, ⟨⟨by omega, by omega, (rowL_extract (z := 2) (fun _ => rfl) (by omega))⟩, ⟨(wq_in (by omega) (by omega)), ⟨⟨by omega, by omega, (rowL_extract (z := 1) (fun _ => rfl) (by omega))⟩, ⟨(bin_rem (by omega)), ⟨⟨trivial, phourOf (d) (h) (by first | with_reducible assumption | omega | simp_all) (by first | with_reducible assumption | omega | simp_all)⟩, trivial⟩⟩⟩⟩⟩⟩⟩
 by_cases q0 : (p.draft : Int) ≤ (p.depth + List.getD p.tides (Int.toNat (Int.tmod (d * 24 + h) (↑p.tides.length : Int))) default - Span.lo (List.getD p.swell d.toNat default))
 ·
  unfold tideK at hT hU
  exact (GoE.endsT okF hJ mixed_ok GoE.start (pisDeepL_s0 B p d h)
   ⟨(nltq_t q0), hp0⟩).cast (by first | rfl | (simp [tideK, *]; done) | (simp_all [tideK]; done) | (simp_all [tideK]; omega))
 ·
  unfold tideK at hT hU
  exact (GoE.endsT okF hJ mixed_ok GoE.start (pisDeepL_s1 B p d h)
   ⟨(nltq_f (Int.not_le.1 q0)), hp0⟩).cast (by first | rfl | (simp [tideK, *]; done) | (simp_all [tideK]; done) | (simp_all [tideK]; omega))
theorem pisDeepL (p : ShPass) (d h : Int)  (hp : passB p = true) (hd : 0 ≤ d ∧ d < p.swell.length) (hh : 0 ≤ h ∧ h ≤ 100)  : PureC Tryz.prog J0 108 #[swV p fLo, callV d h] (.bool (decide (p.draft ≤ p.depth + p.tides.getD (tideK p d h) default - (p.swell.getD d.toNat default).lo))) :=
 pureC_of (ts := [swV p fLo, callV d h]) J0_st (c0 := entryC Tryz.prog 108 38 (([swV p fLo, callV d h]).map (pushT 0 4))) (by kernel_rfl) (by kernel_rfl) fun B hJ => pisDeepL_e p d h hp hd hh hJ
noncomputable def pisOpenL_z0 (p : ShPass) (d h : Int) : Array Value := #[Value.agg #[slT p.tides.length (rowL encI p.tides), Value.int IntKind.i64 p.depth, Value.int IntKind.i64 p.draft, slT p.swell.length (rowL encSp p.swell), Value.int IntKind.i64 p.llo, Value.int IntKind.i64 p.lhi, Value.func (Fn.func 104) #[] #[]], Value.agg #[Value.int IntKind.i64 d, Value.int IntKind.i64 h]]
noncomputable def pisOpenL_p0 (B : Lo) (p : ShPass) (d h : Int)  : List Prop := [AllP [] ∧ PureC Tryz.prog J0 107 (pisOpenL_z0 p d h) (Value.bool true)] ++ ([] : List Prop)
noncomputable def pisOpenL_q0 (p : ShPass) (d h : Int)  : ScriptT := [(17, HintT.pure (Value.bool true) [])]
set_option maxRecDepth 100000 in
theorem pisOpenL_s0 (B : Lo) (p : ShPass) (d h : Int)  : endT (srunT Tryz.prog (okFn Tryz.prog) J0 B 50 1 (entryC Tryz.prog 68 22 (([swV p fLo, callV d h]).map (pushT 0 4))) H00 1
 (pisOpenL_q0 p d h ++ [(26, HintT.pure (Value.bool true) [])]) 0 [] []) [] = some (Value.bool true,
 [AllP [] ∧ PureC Tryz.prog J0 108 (pisOpenL_z0 p d h) (Value.bool true)] ++ pisOpenL_p0 B p d h) := by kernel_rfl
set_option maxRecDepth 100000 in
theorem pisOpenL_s1 (B : Lo) (p : ShPass) (d h : Int)  : endT (srunT Tryz.prog (okFn Tryz.prog) J0 B 41 1 (entryC Tryz.prog 68 22 (([swV p fLo, callV d h]).map (pushT 0 4))) H00 1
 (pisOpenL_q0 p d h ++ [(26, HintT.pure (Value.bool false) [])]) 0 [] []) [] = some (Value.bool false,
 [AllP [] ∧ PureC Tryz.prog J0 108 (pisOpenL_z0 p d h) (Value.bool false)] ++ pisOpenL_p0 B p d h) := by kernel_rfl
set_option maxRecDepth 100000 in
theorem pisOpenL_s2 (B : Lo) (p : ShPass) (d h : Int)  : endT (srunT Tryz.prog (okFn Tryz.prog) J0 B 25 1 (entryC Tryz.prog 68 22 (([swV p fLo, callV d h]).map (pushT 0 4))) H00 1
 [(17, HintT.pure (Value.bool false) [])] 0 [] []) [] = some (Value.bool false,
 [AllP [] ∧ PureC Tryz.prog J0 107 (pisOpenL_z0 p d h) (Value.bool false)]) := by kernel_rfl
set_option maxHeartbeats 4000000 in
theorem pisOpenL_e (p : ShPass) (d h : Int)  (hp : passB p = true) (hd : 0 ≤ d ∧ d < p.swell.length) (hh : 0 ≤ h ∧ h ≤ 100)  {B : Lo} (hJ : ∀ w, B.has w → J0 w) : EndsT Tryz.prog B (entryC Tryz.prog 68 22 (([swV p fLo, callV d h]).map (pushT 0 4))) (.bool (goesB p d h (p.swell.getD d.toNat default).lo)) := by
 cases q0 : inB h p.llo p.lhi with
 | true =>
   have hp0 : AllP (pisOpenL_p0 B p d h) := by
    exact ⟨⟨trivial, (by have t_ := pisLightL (p) (d) (h); rw [q0] at t_; exact t_)⟩, trivial⟩
   cases q1 : decide (p.draft ≤ p.depth + List.getD p.tides (tideK p d h) default - Span.lo (List.getD p.swell d.toNat default)) with
   | true =>
     exact (GoE.endsT okF hJ mixed_ok GoE.start (pisOpenL_s0 B p d h)
      ⟨⟨trivial, (by have t_ := pisDeepL (p) (d) (h) (by first | with_reducible assumption | omega | simp_all) (by first | with_reducible assumption | omega | simp_all) (by first | with_reducible assumption | omega | simp_all); rw [q1] at t_; exact t_)⟩, hp0⟩).cast (by first | rfl | (simp [goesB, *]; done) | (simp_all [goesB]; done) | (simp_all [goesB]; omega))
   | false =>
     exact (GoE.endsT okF hJ mixed_ok GoE.start (pisOpenL_s1 B p d h)
      ⟨⟨trivial, (by have t_ := pisDeepL (p) (d) (h) (by first | with_reducible assumption | omega | simp_all) (by first | with_reducible assumption | omega | simp_all) (by first | with_reducible assumption | omega | simp_all); rw [q1] at t_; exact t_)⟩, hp0⟩).cast (by first | rfl | (simp [goesB, *]; done) | (simp_all [goesB]; done) | (simp_all [goesB]; omega))
 | false =>
   exact (GoE.endsT okF hJ mixed_ok GoE.start (pisOpenL_s2 B p d h)
    ⟨⟨trivial, (by have t_ := pisLightL (p) (d) (h); rw [q0] at t_; exact t_)⟩, trivial⟩).cast (by first | rfl | (simp [goesB, *]; done) | (simp_all [goesB]; done) | (simp_all [goesB]; omega))
theorem pisOpenL (p : ShPass) (d h : Int)  (hp : passB p = true) (hd : 0 ≤ d ∧ d < p.swell.length) (hh : 0 ≤ h ∧ h ≤ 100)  : PureC Tryz.prog J0 68 #[swV p fLo, callV d h] (.bool (goesB p d h (p.swell.getD d.toNat default).lo)) :=
 pureC_of (ts := [swV p fLo, callV d h]) J0_st (c0 := entryC Tryz.prog 68 22 (([swV p fLo, callV d h]).map (pushT 0 4))) (by kernel_rfl) (by kernel_rfl) fun B hJ => pisOpenL_e p d h hp hd hh hJ
set_option maxRecDepth 100000 in
theorem pisLightS_s0 (B : Lo) (p : ShPass) (d h : Int) (s : Int) : endT (srunT Tryz.prog (okFn Tryz.prog) J0 B 6 1 (entryC Tryz.prog 107 11 (([swV p (fAt s), callV d h]).map (pushT 0 4))) H00 1
 [(8, HintT.pure (Value.bool true) [])] 0 [] []) [] = some (Value.bool true,
 [AllP [] ∧ PureC Tryz.prog J0 73 #[Value.int IntKind.i64 h, Value.agg #[Value.int IntKind.i64 p.llo, Value.int IntKind.i64 p.lhi]] (Value.bool true)]) := by kernel_rfl
set_option maxRecDepth 100000 in
theorem pisLightS_s1 (B : Lo) (p : ShPass) (d h : Int) (s : Int) : endT (srunT Tryz.prog (okFn Tryz.prog) J0 B 6 1 (entryC Tryz.prog 107 11 (([swV p (fAt s), callV d h]).map (pushT 0 4))) H00 1
 [(8, HintT.pure (Value.bool false) [])] 0 [] []) [] = some (Value.bool false,
 [AllP [] ∧ PureC Tryz.prog J0 73 #[Value.int IntKind.i64 h, Value.agg #[Value.int IntKind.i64 p.llo, Value.int IntKind.i64 p.lhi]] (Value.bool false)]) := by kernel_rfl
set_option maxHeartbeats 4000000 in
theorem pisLightS_e (p : ShPass) (d h : Int) (s : Int)  {B : Lo} (hJ : ∀ w, B.has w → J0 w) : EndsT Tryz.prog B (entryC Tryz.prog 107 11 (([swV p (fAt s), callV d h]).map (pushT 0 4))) (.bool (inB h p.llo p.lhi)) := by
 cases q0 : inB h p.llo p.lhi with
 | true =>
   exact (GoE.endsT okF hJ mixed_ok GoE.start (pisLightS_s0 B p d h s)
    ⟨⟨trivial, (by have t_ := pInSpan (h) p.llo p.lhi; rw [q0] at t_; exact t_)⟩, trivial⟩).cast (by first | rfl | (simp [*]; done) | (simp_all []; done) | (simp_all []; omega))
 | false =>
   exact (GoE.endsT okF hJ mixed_ok GoE.start (pisLightS_s1 B p d h s)
    ⟨⟨trivial, (by have t_ := pInSpan (h) p.llo p.lhi; rw [q0] at t_; exact t_)⟩, trivial⟩).cast (by first | rfl | (simp [*]; done) | (simp_all []; done) | (simp_all []; omega))
theorem pisLightS (p : ShPass) (d h : Int) (s : Int)  : PureC Tryz.prog J0 107 #[swV p (fAt s), callV d h] (.bool (inB h p.llo p.lhi)) :=
 pureC_of (ts := [swV p (fAt s), callV d h]) J0_st (c0 := entryC Tryz.prog 107 11 (([swV p (fAt s), callV d h]).map (pushT 0 4))) (by kernel_rfl) (by kernel_rfl) fun B hJ => pisLightS_e p d h s  hJ
noncomputable def pisDeepS_z0 (p : ShPass) (d : Int) : Array Value := #[Value.int IntKind.i64 (Span.lo (List.getD p.swell d.toNat default)), Value.int IntKind.i64 (Span.hi (List.getD p.swell d.toNat default))]
noncomputable def pisDeepS_p0 (B : Lo) (p : ShPass) (d h : Int) (s : Int) : List Prop := [wq (p.depth + List.getD p.tides (Int.toNat (Int.tmod (d * 24 + h) (↑p.tides.length : Int))) default - s) = p.depth + List.getD p.tides (Int.toNat (Int.tmod (d * 24 + h) (↑p.tides.length : Int))) default - s, AllP [] ∧ PureC Tryz.prog J0 74 #[Value.agg (pisDeepS_z0 p d), ptT 0 #[Value.int IntKind.i64 s]] (Value.int IntKind.i64 s), d = (↑d.toNat : Int) ∧ Int.toNat d < List.length p.swell ∧ Array.extract (rowL encSp p.swell) (Int.toNat d * TypeInfo.size Tryz.t25) (Int.toNat d * TypeInfo.size Tryz.t25 + TypeInfo.size Tryz.t25) = (pisDeepS_z0 p d), wq (p.depth + List.getD p.tides (Int.toNat (Int.tmod (d * 24 + h) (↑p.tides.length : Int))) default) = p.depth + List.getD p.tides (Int.toNat (Int.tmod (d * 24 + h) (↑p.tides.length : Int))) default, Int.tmod (d * 24 + h) (↑p.tides.length : Int) = (↑(Int.toNat (Int.tmod (d * 24 + h) (↑p.tides.length : Int))) : Int) ∧ Int.toNat (Int.tmod (d * 24 + h) (↑p.tides.length : Int)) < List.length p.tides ∧ Array.extract (rowL encI p.tides) (Int.toNat (Int.tmod (d * 24 + h) (↑p.tides.length : Int)) * TypeInfo.size Tryz.t3) (Int.toNat (Int.tmod (d * 24 + h) (↑p.tides.length : Int)) * TypeInfo.size Tryz.t3 + TypeInfo.size Tryz.t3) = #[Value.int IntKind.i64 (List.getD p.tides (Int.toNat (Int.tmod (d * 24 + h) (↑p.tides.length : Int))) default)], BinTo Tryz.prog BinOp.rem 3 (tget { len := 16000, tr := Tri.set 14 (Tri.set 14 Tri.lf 14 (Value.int IntKind.i64 (↑p.tides.length : Int))) 10 (Value.int IntKind.i64 (d * 24 + h)) } 10) (tget { len := 16000, tr := Tri.set 14 (Tri.set 14 Tri.lf 14 (Value.int IntKind.i64 (↑p.tides.length : Int))) 10 (Value.int IntKind.i64 (d * 24 + h)) } 14) (Value.int IntKind.i64 (Int.tmod (d * 24 + h) (↑p.tides.length : Int))), AllP [] ∧ PureC Tryz.prog J0 106 #[Value.agg #[Value.int IntKind.i64 d, Value.int IntKind.i64 h]] (Value.int IntKind.i64 (d * 24 + h))] ++ ([] : List Prop)
noncomputable def pisDeepS_q0 (p : ShPass) (d h : Int) (s : Int) : ScriptT := [(7, HintT.pure (Value.int IntKind.i64 (d * 24 + h)) []), (12, HintT.bin (Value.int IntKind.i64 (Int.tmod (d * 24 + h) (↑p.tides.length : Int)))), (13, HintT.tidx (Int.toNat (Int.tmod (d * 24 + h) (↑p.tides.length : Int))) #[Value.int IntKind.i64 (List.getD p.tides (Int.toNat (Int.tmod (d * 24 + h) (↑p.tides.length : Int))) default)]), (20, hvI (p.depth + List.getD p.tides (Int.toNat (Int.tmod (d * 24 + h) (↑p.tides.length : Int))) default)), (28, HintT.tidx d.toNat (pisDeepS_z0 p d)), (30, HintT.pure (Value.int IntKind.i64 s) []), (31, hvI (p.depth + List.getD p.tides (Int.toNat (Int.tmod (d * 24 + h) (↑p.tides.length : Int))) default - s))]
set_option maxRecDepth 100000 in
theorem pisDeepS_s0 (B : Lo) (p : ShPass) (d h : Int) (s : Int) : endT (srunT Tryz.prog (okFn Tryz.prog) J0 B 8 1 (entryC Tryz.prog 108 38 (([swV p (fAt s), callV d h]).map (pushT 0 4))) H00 1
 (pisDeepS_q0 p d h s ++ [(35, hvT)]) 0 [] []) [] = some (Value.bool true,
 [(!ltq (p.depth + List.getD p.tides (Int.toNat (Int.tmod (d * 24 + h) (↑p.tides.length : Int))) default - s) p.draft) = true] ++ pisDeepS_p0 B p d h s) := by kernel_rfl
set_option maxRecDepth 100000 in
theorem pisDeepS_s1 (B : Lo) (p : ShPass) (d h : Int) (s : Int) : endT (srunT Tryz.prog (okFn Tryz.prog) J0 B 8 1 (entryC Tryz.prog 108 38 (([swV p (fAt s), callV d h]).map (pushT 0 4))) H00 1
 (pisDeepS_q0 p d h s ++ [(35, hvF)]) 0 [] []) [] = some (Value.bool false,
 [(!ltq (p.depth + List.getD p.tides (Int.toNat (Int.tmod (d * 24 + h) (↑p.tides.length : Int))) default - s) p.draft) = false] ++ pisDeepS_p0 B p d h s) := by kernel_rfl
set_option maxHeartbeats 4000000 in
theorem pisDeepS_e (p : ShPass) (d h : Int) (s : Int) (hp : passB p = true) (hd : 0 ≤ d ∧ d < p.swell.length) (hh : 0 ≤ h ∧ h ≤ 100) (hs : -100000 ≤ s ∧ s ≤ 100000) {B : Lo} (hJ : ∀ w, B.has w → J0 w) : EndsT Tryz.prog B (entryC Tryz.prog 108 38 (([swV p (fAt s), callV d h]).map (pushT 0 4))) (.bool (decide (p.draft ≤ p.depth + p.tides.getD (tideK p d h) default - s))) := by
 have hP := pass_facts hp
 have hT := tideK_lt hp hd.1 hh.1
 have hU := tide_in hp hT.2.2
 have hS := swell_in hp (k := d.toNat) (by omega)
 have hp0 : AllP (pisDeepS_p0 B p d h s) := by
  unfold tideK at hT hU
  exact ⟨(wq_in (by omega) (by omega)), ⟨⟨trivial, pGoes1 (Span.lo (List.getD p.swell d.toNat default)) (Span.hi (List.getD p.swell d.toNat default)) (s)⟩, ⟨⟨by omega, by omega, (rowL_extract (z := 2) (fun _ => rfl) (by omega))⟩, ⟨(wq_in (by omega) (by omega)), ⟨⟨by omega, by omega, (rowL_extract (z := 1) (fun _ => rfl) (by omega))⟩, ⟨(bin_rem (by omega)), ⟨⟨trivial, phourOf (d) (h) (by first | with_reducible assumption | omega | simp_all) (by first | with_reducible assumption | omega | simp_all)⟩, trivial⟩⟩⟩⟩⟩⟩⟩
 by_cases q0 : (p.draft : Int) ≤ (p.depth + List.getD p.tides (Int.toNat (Int.tmod (d * 24 + h) (↑p.tides.length : Int))) default - s)
 ·
  unfold tideK at hT hU
  exact (GoE.endsT okF hJ mixed_ok GoE.start (pisDeepS_s0 B p d h s)
   ⟨(nltq_t q0), hp0⟩).cast (by first | rfl | (simp [tideK, *]; done) | (simp_all [tideK]; done) | (simp_all [tideK]; omega))
 ·
  unfold tideK at hT hU
  exact (GoE.endsT okF hJ mixed_ok GoE.start (pisDeepS_s1 B p d h s)
   ⟨(nltq_f (Int.not_le.1 q0)), hp0⟩).cast (by first | rfl | (simp [tideK, *]; done) | (simp_all [tideK]; done) | (simp_all [tideK]; omega))
theorem pisDeepS (p : ShPass) (d h : Int) (s : Int) (hp : passB p = true) (hd : 0 ≤ d ∧ d < p.swell.length) (hh : 0 ≤ h ∧ h ≤ 100) (hs : -100000 ≤ s ∧ s ≤ 100000) : PureC Tryz.prog J0 108 #[swV p (fAt s), callV d h] (.bool (decide (p.draft ≤ p.depth + p.tides.getD (tideK p d h) default - s))) :=
 pureC_of (ts := [swV p (fAt s), callV d h]) J0_st (c0 := entryC Tryz.prog 108 38 (([swV p (fAt s), callV d h]).map (pushT 0 4))) (by kernel_rfl) (by kernel_rfl) fun B hJ => pisDeepS_e p d h s hp hd hh hs hJ
noncomputable def pisOpenS_z0 (p : ShPass) (d h : Int) (s : Int) : Array Value := #[Value.agg #[slT p.tides.length (rowL encI p.tides), Value.int IntKind.i64 p.depth, Value.int IntKind.i64 p.draft, slT p.swell.length (rowL encSp p.swell), Value.int IntKind.i64 p.llo, Value.int IntKind.i64 p.lhi, Value.func (Fn.func 74) #[] #[ptT 0 #[Value.int IntKind.i64 s]]], Value.agg #[Value.int IntKind.i64 d, Value.int IntKind.i64 h]]
noncomputable def pisOpenS_p0 (B : Lo) (p : ShPass) (d h : Int) (s : Int) : List Prop := [AllP [] ∧ PureC Tryz.prog J0 107 (pisOpenS_z0 p d h s) (Value.bool true)] ++ ([] : List Prop)
noncomputable def pisOpenS_q0 (p : ShPass) (d h : Int) (s : Int) : ScriptT := [(17, HintT.pure (Value.bool true) [])]
set_option maxRecDepth 100000 in
theorem pisOpenS_s0 (B : Lo) (p : ShPass) (d h : Int) (s : Int) : endT (srunT Tryz.prog (okFn Tryz.prog) J0 B 50 1 (entryC Tryz.prog 68 22 (([swV p (fAt s), callV d h]).map (pushT 0 4))) H00 1
 (pisOpenS_q0 p d h s ++ [(26, HintT.pure (Value.bool true) [])]) 0 [] []) [] = some (Value.bool true,
 [AllP [] ∧ PureC Tryz.prog J0 108 (pisOpenS_z0 p d h s) (Value.bool true)] ++ pisOpenS_p0 B p d h s) := by kernel_rfl
set_option maxRecDepth 100000 in
theorem pisOpenS_s1 (B : Lo) (p : ShPass) (d h : Int) (s : Int) : endT (srunT Tryz.prog (okFn Tryz.prog) J0 B 41 1 (entryC Tryz.prog 68 22 (([swV p (fAt s), callV d h]).map (pushT 0 4))) H00 1
 (pisOpenS_q0 p d h s ++ [(26, HintT.pure (Value.bool false) [])]) 0 [] []) [] = some (Value.bool false,
 [AllP [] ∧ PureC Tryz.prog J0 108 (pisOpenS_z0 p d h s) (Value.bool false)] ++ pisOpenS_p0 B p d h s) := by kernel_rfl
set_option maxRecDepth 100000 in
theorem pisOpenS_s2 (B : Lo) (p : ShPass) (d h : Int) (s : Int) : endT (srunT Tryz.prog (okFn Tryz.prog) J0 B 25 1 (entryC Tryz.prog 68 22 (([swV p (fAt s), callV d h]).map (pushT 0 4))) H00 1
 [(17, HintT.pure (Value.bool false) [])] 0 [] []) [] = some (Value.bool false,
 [AllP [] ∧ PureC Tryz.prog J0 107 (pisOpenS_z0 p d h s) (Value.bool false)]) := by kernel_rfl
set_option maxHeartbeats 4000000 in
theorem pisOpenS_e (p : ShPass) (d h : Int) (s : Int) (hp : passB p = true) (hd : 0 ≤ d ∧ d < p.swell.length) (hh : 0 ≤ h ∧ h ≤ 100) (hs : -100000 ≤ s ∧ s ≤ 100000) {B : Lo} (hJ : ∀ w, B.has w → J0 w) : EndsT Tryz.prog B (entryC Tryz.prog 68 22 (([swV p (fAt s), callV d h]).map (pushT 0 4))) (.bool (goesB p d h s)) := by
 cases q0 : inB h p.llo p.lhi with
 | true =>
   have hp0 : AllP (pisOpenS_p0 B p d h s) := by
    exact ⟨⟨trivial, (by have t_ := pisLightS (p) (d) (h) (s); rw [q0] at t_; exact t_)⟩, trivial⟩
   cases q1 : decide (p.draft ≤ p.depth + List.getD p.tides (tideK p d h) default - s) with
   | true =>
     exact (GoE.endsT okF hJ mixed_ok GoE.start (pisOpenS_s0 B p d h s)
      ⟨⟨trivial, (by have t_ := pisDeepS (p) (d) (h) (s) (by first | with_reducible assumption | omega | simp_all) (by first | with_reducible assumption | omega | simp_all) (by first | with_reducible assumption | omega | simp_all) (by first | with_reducible assumption | omega | simp_all); rw [q1] at t_; exact t_)⟩, hp0⟩).cast (by first | rfl | (simp [goesB, *]; done) | (simp_all [goesB]; done) | (simp_all [goesB]; omega))
   | false =>
     exact (GoE.endsT okF hJ mixed_ok GoE.start (pisOpenS_s1 B p d h s)
      ⟨⟨trivial, (by have t_ := pisDeepS (p) (d) (h) (s) (by first | with_reducible assumption | omega | simp_all) (by first | with_reducible assumption | omega | simp_all) (by first | with_reducible assumption | omega | simp_all) (by first | with_reducible assumption | omega | simp_all); rw [q1] at t_; exact t_)⟩, hp0⟩).cast (by first | rfl | (simp [goesB, *]; done) | (simp_all [goesB]; done) | (simp_all [goesB]; omega))
 | false =>
   exact (GoE.endsT okF hJ mixed_ok GoE.start (pisOpenS_s2 B p d h s)
    ⟨⟨trivial, (by have t_ := pisLightS (p) (d) (h) (s); rw [q0] at t_; exact t_)⟩, trivial⟩).cast (by first | rfl | (simp [goesB, *]; done) | (simp_all [goesB]; done) | (simp_all [goesB]; omega))
theorem pisOpenS (p : ShPass) (d h : Int) (s : Int) (hp : passB p = true) (hd : 0 ≤ d ∧ d < p.swell.length) (hh : 0 ≤ h ∧ h ≤ 100) (hs : -100000 ≤ s ∧ s ≤ 100000) : PureC Tryz.prog J0 68 #[swV p (fAt s), callV d h] (.bool (goesB p d h s)) :=
 pureC_of (ts := [swV p (fAt s), callV d h]) J0_st (c0 := entryC Tryz.prog 68 22 (([swV p (fAt s), callV d h]).map (pushT 0 4))) (by kernel_rfl) (by kernel_rfl) fun B hJ => pisOpenS_e p d h s hp hd hh hs hJ
noncomputable def pGoes_z0 (p : ShPass) (d h : Int) : Array Value := #[Value.agg #[slT p.tides.length (rowL encI p.tides), Value.int IntKind.i64 p.depth, Value.int IntKind.i64 p.draft, slT p.swell.length (rowL encSp p.swell), Value.int IntKind.i64 p.llo, Value.int IntKind.i64 p.lhi], Value.agg #[Value.int IntKind.i64 d, Value.int IntKind.i64 h]]
noncomputable def pGoes_z1 (p : ShPass) (d : Int) : Array Value := #[Value.int IntKind.i64 (Span.lo (List.getD p.swell d.toNat default)), Value.int IntKind.i64 (Span.hi (List.getD p.swell d.toNat default))]
noncomputable def pGoes_p0 (B : Lo) (p : ShPass) (d h s : Int) : List Prop := [AllP [] ∧ PureC Tryz.prog J0 60 #[Value.agg #[slT p.tides.length (rowL encI p.tides), Value.int IntKind.i64 p.depth, Value.int IntKind.i64 p.draft, slT p.swell.length (rowL encSp p.swell), Value.int IntKind.i64 p.llo, Value.int IntKind.i64 p.lhi]] (Value.bool true)] ++ ([] : List Prop)
noncomputable def pGoes_q0 (p : ShPass) (d h s : Int) : ScriptT := [(6, HintT.pure (Value.bool true) [])]
noncomputable def pGoes_p1 (B : Lo) (p : ShPass) (d h s : Int) : List Prop := [d = (↑d.toNat : Int) ∧ Int.toNat d < List.length p.swell ∧ Array.extract (rowL encSp p.swell) (Int.toNat d * TypeInfo.size Tryz.t25) (Int.toNat d * TypeInfo.size Tryz.t25 + TypeInfo.size Tryz.t25) = (pGoes_z1 p d), AllP [] ∧ PureC Tryz.prog J0 65 (pGoes_z0 p d h) (Value.bool true)] ++ pGoes_p0 B p d h s
noncomputable def pGoes_q1 (p : ShPass) (d h s : Int) : ScriptT := pGoes_q0 p d h s ++ [(11, HintT.pure (Value.bool true) []), (20, HintT.tidx d.toNat (pGoes_z1 p d))]
noncomputable def pGoes_p2 (B : Lo) (p : ShPass) (d h s : Int) : List Prop := [AllP [] ∧ PureC Tryz.prog J0 73 #[Value.int IntKind.i64 s, Value.agg (pGoes_z1 p d)] (Value.bool true)] ++ pGoes_p1 B p d h s
noncomputable def pGoes_q2 (p : ShPass) (d h s : Int) : ScriptT := pGoes_q1 p d h s ++ [(22, HintT.pure (Value.bool true) [])]
set_option maxRecDepth 100000 in
theorem pGoes_s0 (B : Lo) (p : ShPass) (d h s : Int) : endT (srunT Tryz.prog (okFn Tryz.prog) J0 B 11 1 (entryC Tryz.prog 27 33 (([.agg (encPass p).toArray, callV d h, .int .i64 s]).map (pushT 0 4))) H00 1
 (pGoes_q2 p d h s ++ [(29, HintT.pure (Value.bool true) [{ k := 3, rs := [], cs := #[Value.int IntKind.i64 s] }])]) 0 [] []) [] = some (Value.tuple #[Value.bool true, Value.int IntKind.i64 0],
 [AllP [CellsT (Fz.rs { k := 3, rs := [], cs := #[Value.int IntKind.i64 s] }) #[Value.int IntKind.i64 s] (Fz.cs { k := 3, rs := [], cs := #[Value.int IntKind.i64 s] })] ∧ PureC Tryz.prog J0 68 #[Value.agg #[slT p.tides.length (rowL encI p.tides), Value.int IntKind.i64 p.depth, Value.int IntKind.i64 p.draft, slT p.swell.length (rowL encSp p.swell), Value.int IntKind.i64 p.llo, Value.int IntKind.i64 p.lhi, Value.func (Fn.func 74) #[] #[ptT 0 #[Value.int IntKind.i64 s]]], Value.agg #[Value.int IntKind.i64 d, Value.int IntKind.i64 h]] (Value.bool true)] ++ pGoes_p2 B p d h s) := by kernel_rfl
set_option maxRecDepth 100000 in
theorem pGoes_s1 (B : Lo) (p : ShPass) (d h s : Int) : endT (srunT Tryz.prog (okFn Tryz.prog) J0 B 11 1 (entryC Tryz.prog 27 33 (([.agg (encPass p).toArray, callV d h, .int .i64 s]).map (pushT 0 4))) H00 1
 (pGoes_q2 p d h s ++ [(29, HintT.pure (Value.bool false) [{ k := 3, rs := [], cs := #[Value.int IntKind.i64 s] }])]) 0 [] []) [] = some (Value.tuple #[Value.bool false, Value.int IntKind.i64 0],
 [AllP [CellsT (Fz.rs { k := 3, rs := [], cs := #[Value.int IntKind.i64 s] }) #[Value.int IntKind.i64 s] (Fz.cs { k := 3, rs := [], cs := #[Value.int IntKind.i64 s] })] ∧ PureC Tryz.prog J0 68 #[Value.agg #[slT p.tides.length (rowL encI p.tides), Value.int IntKind.i64 p.depth, Value.int IntKind.i64 p.draft, slT p.swell.length (rowL encSp p.swell), Value.int IntKind.i64 p.llo, Value.int IntKind.i64 p.lhi, Value.func (Fn.func 74) #[] #[ptT 0 #[Value.int IntKind.i64 s]]], Value.agg #[Value.int IntKind.i64 d, Value.int IntKind.i64 h]] (Value.bool false)] ++ pGoes_p2 B p d h s) := by kernel_rfl
set_option maxRecDepth 100000 in
theorem pGoes_s2 (B : Lo) (p : ShPass) (d h s : Int) : endT (srunT Tryz.prog (okFn Tryz.prog) J0 B 10 1 (entryC Tryz.prog 27 33 (([.agg (encPass p).toArray, callV d h, .int .i64 s]).map (pushT 0 4))) H00 1
 (pGoes_q1 p d h s ++ [(22, HintT.pure (Value.bool false) [])]) 0 [] []) [] = some (Value.tuple #[Value.bool false, Value.int IntKind.i64 2],
 [AllP [] ∧ PureC Tryz.prog J0 73 #[Value.int IntKind.i64 s, Value.agg (pGoes_z1 p d)] (Value.bool false)] ++ pGoes_p1 B p d h s) := by kernel_rfl
set_option maxRecDepth 100000 in
theorem pGoes_s3 (B : Lo) (p : ShPass) (d h s : Int) : endT (srunT Tryz.prog (okFn Tryz.prog) J0 B 10 1 (entryC Tryz.prog 27 33 (([.agg (encPass p).toArray, callV d h, .int .i64 s]).map (pushT 0 4))) H00 1
 (pGoes_q0 p d h s ++ [(11, HintT.pure (Value.bool false) [])]) 0 [] []) [] = some (Value.tuple #[Value.bool false, Value.int IntKind.i64 2],
 [AllP [] ∧ PureC Tryz.prog J0 65 (pGoes_z0 p d h) (Value.bool false)] ++ pGoes_p0 B p d h s) := by kernel_rfl
set_option maxRecDepth 100000 in
theorem pGoes_s4 (B : Lo) (p : ShPass) (d h s : Int) : endT (srunT Tryz.prog (okFn Tryz.prog) J0 B 10 1 (entryC Tryz.prog 27 33 (([.agg (encPass p).toArray, callV d h, .int .i64 s]).map (pushT 0 4))) H00 1
 (pGoes_q0 p d h s ++ [(11, HintT.pure (Value.bool false) [])]) 0 [] []) [] = some (Value.tuple #[Value.bool false, Value.int IntKind.i64 2],
 [AllP [] ∧ PureC Tryz.prog J0 65 (pGoes_z0 p d h) (Value.bool false)] ++ pGoes_p0 B p d h s) := by kernel_rfl
set_option maxRecDepth 100000 in
theorem pGoes_s5 (B : Lo) (p : ShPass) (d h s : Int) : endT (srunT Tryz.prog (okFn Tryz.prog) J0 B 10 1 (entryC Tryz.prog 27 33 (([.agg (encPass p).toArray, callV d h, .int .i64 s]).map (pushT 0 4))) H00 1
 [(6, HintT.pure (Value.bool false) [])] 0 [] []) [] = some (Value.tuple #[Value.bool false, Value.int IntKind.i64 2],
 [AllP [] ∧ PureC Tryz.prog J0 60 #[Value.agg #[slT p.tides.length (rowL encI p.tides), Value.int IntKind.i64 p.depth, Value.int IntKind.i64 p.draft, slT p.swell.length (rowL encSp p.swell), Value.int IntKind.i64 p.llo, Value.int IntKind.i64 p.lhi]] (Value.bool false)]) := by kernel_rfl
set_option maxHeartbeats 4000000 in
theorem pGoes_e (p : ShPass) (d h s : Int)  {B : Lo} (hJ : ∀ w, B.has w → J0 w) : EndsT Tryz.prog B (entryC Tryz.prog 27 33 (([.agg (encPass p).toArray, callV d h, .int .i64 s]).map (pushT 0 4))) (.tuple #[.bool ((passB p && (inB d 0 (p.swell.length - 1) && inB h 0 23) && inB s (p.swell.getD d.toNat default).lo (p.swell.getD d.toNat default).hi) && goesB p d h s), .int .i64 (if (passB p && (inB d 0 (p.swell.length - 1) && inB h 0 23) && inB s (p.swell.getD d.toNat default).lo (p.swell.getD d.toNat default).hi) = true then 0 else 2)]) := by
 cases q0 : passB p with
 | true =>
   have hp0 : AllP (pGoes_p0 B p d h s) := by
    try have g1 := inB_iff.1 ‹inB d 0 _ = true›
    try have g2 := inB_iff.1 ‹inB h 0 _ = true›
    try have g4 := swell_facts (d := d) (s := s) ‹passB p = true› (by omega) ‹inB s _ _ = true›
    exact ⟨⟨trivial, (by have t_ := pisPass (p); rw [q0] at t_; exact t_)⟩, trivial⟩
   cases q1 : inB d 0 ((↑p.swell.length : Int) - 1) with
   | true =>
     cases q2 : inB h 0 23 with
     | true =>
       have hp1 : AllP (pGoes_p1 B p d h s) := by
        try have g1 := inB_iff.1 ‹inB d 0 _ = true›
        try have g2 := inB_iff.1 ‹inB h 0 _ = true›
        try have g4 := swell_facts (d := d) (s := s) ‹passB p = true› (by omega) ‹inB s _ _ = true›
        exact ⟨⟨by omega, by omega, (rowL_extract (z := 2) (fun _ => rfl) (by omega))⟩, ⟨⟨trivial, (by have t_ := pisCall (p) (d) (h); rw [q1, q2] at t_; exact t_)⟩, hp0⟩⟩
       cases q3 : inB s (Span.lo (List.getD p.swell d.toNat default)) (Span.hi (List.getD p.swell d.toNat default)) with
       | true =>
         have hp2 : AllP (pGoes_p2 B p d h s) := by
          try have g1 := inB_iff.1 ‹inB d 0 _ = true›
          try have g2 := inB_iff.1 ‹inB h 0 _ = true›
          try have g4 := swell_facts (d := d) (s := s) ‹passB p = true› (by omega) ‹inB s _ _ = true›
          exact ⟨⟨trivial, (by have t_ := pInSpan (s) (Span.lo (List.getD p.swell d.toNat default)) (Span.hi (List.getD p.swell d.toNat default)); rw [q3] at t_; exact t_)⟩, hp1⟩
         cases q4 : goesB p d h s with
         | true =>
           try have g1 := inB_iff.1 ‹inB d 0 _ = true›
           try have g2 := inB_iff.1 ‹inB h 0 _ = true›
           try have g4 := swell_facts (d := d) (s := s) ‹passB p = true› (by omega) ‹inB s _ _ = true›
           exact (GoE.endsT okF hJ mixed_ok GoE.start (pGoes_s0 B p d h s)
            ⟨⟨⟨(cellsT_simple (by kernel_rfl)), trivial⟩, (by have t_ := pisOpenS (p) (d) (h) (s) (by first | with_reducible assumption | omega | simp_all) (by first | with_reducible assumption | omega | simp_all) (by first | with_reducible assumption | omega | simp_all) (by first | with_reducible assumption | omega | simp_all); rw [q4] at t_; exact t_)⟩, hp2⟩).cast (by first | rfl | (simp [goOk, *]; done) | (simp_all [goOk]; done) | (simp_all [goOk]; omega))
         | false =>
           try have g1 := inB_iff.1 ‹inB d 0 _ = true›
           try have g2 := inB_iff.1 ‹inB h 0 _ = true›
           try have g4 := swell_facts (d := d) (s := s) ‹passB p = true› (by omega) ‹inB s _ _ = true›
           exact (GoE.endsT okF hJ mixed_ok GoE.start (pGoes_s1 B p d h s)
            ⟨⟨⟨(cellsT_simple (by kernel_rfl)), trivial⟩, (by have t_ := pisOpenS (p) (d) (h) (s) (by first | with_reducible assumption | omega | simp_all) (by first | with_reducible assumption | omega | simp_all) (by first | with_reducible assumption | omega | simp_all) (by first | with_reducible assumption | omega | simp_all); rw [q4] at t_; exact t_)⟩, hp2⟩).cast (by first | rfl | (simp [goOk, *]; done) | (simp_all [goOk]; done) | (simp_all [goOk]; omega))
       | false =>
         try have g1 := inB_iff.1 ‹inB d 0 _ = true›
         try have g2 := inB_iff.1 ‹inB h 0 _ = true›
         try have g4 := swell_facts (d := d) (s := s) ‹passB p = true› (by omega) ‹inB s _ _ = true›
         exact (GoE.endsT okF hJ mixed_ok GoE.start (pGoes_s2 B p d h s)
          ⟨⟨trivial, (by have t_ := pInSpan (s) (Span.lo (List.getD p.swell d.toNat default)) (Span.hi (List.getD p.swell d.toNat default)); rw [q3] at t_; exact t_)⟩, hp1⟩).cast (by first | rfl | (simp [goOk, *]; done) | (simp_all [goOk]; done) | (simp_all [goOk]; omega))
     | false =>
       try have g1 := inB_iff.1 ‹inB d 0 _ = true›
       try have g2 := inB_iff.1 ‹inB h 0 _ = true›
       try have g4 := swell_facts (d := d) (s := s) ‹passB p = true› (by omega) ‹inB s _ _ = true›
       exact (GoE.endsT okF hJ mixed_ok GoE.start (pGoes_s3 B p d h s)
        ⟨⟨trivial, (by have t_ := pisCall (p) (d) (h); rw [q1, q2] at t_; exact t_)⟩, hp0⟩).cast (by first | rfl | (simp [goOk, *]; done) | (simp_all [goOk]; done) | (simp_all [goOk]; omega))
   | false =>
     try have g1 := inB_iff.1 ‹inB d 0 _ = true›
     try have g2 := inB_iff.1 ‹inB h 0 _ = true›
     try have g4 := swell_facts (d := d) (s := s) ‹passB p = true› (by omega) ‹inB s _ _ = true›
     exact (GoE.endsT okF hJ mixed_ok GoE.start (pGoes_s4 B p d h s)
      ⟨⟨trivial, (by have t_ := pisCall (p) (d) (h); rw [q1] at t_; exact t_)⟩, hp0⟩).cast (by first | rfl | (simp [goOk, *]; done) | (simp_all [goOk]; done) | (simp_all [goOk]; omega))
 | false =>
   try have g1 := inB_iff.1 ‹inB d 0 _ = true›
   try have g2 := inB_iff.1 ‹inB h 0 _ = true›
   try have g4 := swell_facts (d := d) (s := s) ‹passB p = true› (by omega) ‹inB s _ _ = true›
   exact (GoE.endsT okF hJ mixed_ok GoE.start (pGoes_s5 B p d h s)
    ⟨⟨trivial, (by have t_ := pisPass (p); rw [q0] at t_; exact t_)⟩, trivial⟩).cast (by first | rfl | (simp [goOk, *]; done) | (simp_all [goOk]; done) | (simp_all [goOk]; omega))
theorem pGoes (p : ShPass) (d h s : Int)  : PureC Tryz.prog J0 27 #[.agg (encPass p).toArray, callV d h, .int .i64 s] (.tuple #[.bool ((passB p && (inB d 0 (p.swell.length - 1) && inB h 0 23) && inB s (p.swell.getD d.toNat default).lo (p.swell.getD d.toNat default).hi) && goesB p d h s), .int .i64 (if (passB p && (inB d 0 (p.swell.length - 1) && inB h 0 23) && inB s (p.swell.getD d.toNat default).lo (p.swell.getD d.toNat default).hi) = true then 0 else 2)]) :=
 pureC_of (ts := [.agg (encPass p).toArray, callV d h, .int .i64 s]) J0_st (c0 := entryC Tryz.prog 27 33 (([.agg (encPass p).toArray, callV d h, .int .i64 s]).map (pushT 0 4))) (by kernel_rfl) (by kernel_rfl) fun B hJ => pGoes_e p d h s  hJ
def phoursH_v0 (p : ShPass) (d : Int) (h : Int) : List Value := [Value.int IntKind.i64 d, pA 2 0, .slice none 0 0, .int .i64 h]
def phoursH_o0 (p : ShPass) (d : Int) (h : Int) : List Obj := [Obj.cells #[topV 1 (slT p.tides.length (rowL encI p.tides)), Value.int IntKind.i64 p.depth, Value.int IntKind.i64 p.draft, topV 1 (slT p.swell.length (rowL encSp p.swell)), Value.int IntKind.i64 p.llo, Value.int IntKind.i64 p.lhi, Value.func (Fn.func 103) #[] #[]] 103]
noncomputable def phoursH_t0 : List Item := ([.code [1, 1, 0, 1, 0, 0], .inLoop [1, 1, 0, 1, 0, 0], .inBlock 0, .code [1, 1, 1]]).map (it (bodyOf Tryz.prog 63))
def phoursH_h0 (B : Lo) (c0 : CF) (p : ShPass) (d : Int) (h : Int) : Prop := ∃ dJ : Nat → Value, (∀ t, Loose (dJ t)) ∧ GoE Tryz.prog B c0 H00 1 (headC 63 21 (([1, 2, 5, 7] : List Nat).zip (phoursH_v0 p d h)) dJ phoursH_t0) (headH (phoursH_o0 p d h)) (2 + (phoursH_o0 p d h).length) []
def phoursH_v1 (p : ShPass) (d : Int) (h : Int) (out : List Int) (out_n : Nat) : List Value := [Value.int IntKind.i64 d, pA 2 0, .slice (some ⟨3, 0, none⟩) out_n 1, .int .i64 h]
def phoursH_o1 (p : ShPass) (d : Int) (h : Int) (out : List Int) (out_n : Nat) : List Obj := [Obj.cells #[topV 1 (slT p.tides.length (rowL encI p.tides)), Value.int IntKind.i64 p.depth, Value.int IntKind.i64 p.draft, topV 1 (slT p.swell.length (rowL encSp p.swell)), Value.int IntKind.i64 p.llo, Value.int IntKind.i64 p.lhi, Value.func (Fn.func 103) #[] #[]] 103, Obj.cells (rowL encI out) 3 (0, 0)]
noncomputable def phoursH_t1 : List Item := ([.code [1, 1, 0, 1, 0, 0], .inLoop [1, 1, 0, 1, 0, 0], .inBlock 0, .code [1, 1, 1]]).map (it (bodyOf Tryz.prog 63))
def phoursH_h1 (B : Lo) (c0 : CF) (p : ShPass) (d : Int) (h : Int) (out : List Int) (out_n : Nat) : Prop := ∃ dJ : Nat → Value, (∀ t, Loose (dJ t)) ∧ GoE Tryz.prog B c0 H00 1 (headC 63 21 (([1, 2, 5, 7] : List Nat).zip (phoursH_v1 p d h out out_n)) dJ phoursH_t1) (headH (phoursH_o1 p d h out out_n)) (2 + (phoursH_o1 p d h out out_n).length) []
noncomputable def phoursH_z0 (p : ShPass) (d : Int) (h : Int) : Array Value := #[Value.agg #[slT p.tides.length (rowL encI p.tides), Value.int IntKind.i64 p.depth, Value.int IntKind.i64 p.draft, slT p.swell.length (rowL encSp p.swell), Value.int IntKind.i64 p.llo, Value.int IntKind.i64 p.lhi, Value.func (Fn.func 103) #[] #[]], Value.agg #[Value.int IntKind.i64 d, Value.int IntKind.i64 h]]
noncomputable def phoursH_p0 (B : Lo) (p : ShPass) (d : Int) (h : Int) (dJ0 : Nat → Value) : List Prop := [ltq h 24 = true] ++ ([] : List Prop)
noncomputable def phoursH_q0 (p : ShPass) (d : Int) (h : Int) (dJ0 : Nat → Value) : ScriptT := [(0, hvT)]
set_option maxRecDepth 100000 in
theorem phoursH_s0 (B : Lo) (p : ShPass) (d : Int) (h : Int) (dJ0 : Nat → Value) : landM (srunT Tryz.prog (okFn Tryz.prog) J0 B 16 1 (headC 63 21 (([1, 2, 5, 7] : List Nat).zip (phoursH_v0 p d h)) dJ0 phoursH_t0) (headH (phoursH_o0 p d h)) (2 + (phoursH_o0 p d h).length)
 (phoursH_q0 p d h dJ0 ++ [(7, HintT.pure (Value.bool true) []), (13, hvI (h + 1))]) 0 [] []) [1, 2, 5, 7] [(2, KS.auto), (4, KS.cells [] (rowL encI [h]))] [] = some ⟨63, 21, phoursH_t1, [], .run, none, phoursH_v1 p d (h + 1) ([h]) (1), phoursH_o1 p d (h + 1) ([h]) (1),
 [CellsM 1 [] (#[Value.int IntKind.i64 h]) (rowL encI [h]), wq (h + 1) = h + 1, AllP [] ∧ PureC Tryz.prog J0 68 (phoursH_z0 p d h) (Value.bool true)] ++ phoursH_p0 B p d h dJ0⟩ := by kernel_rfl
set_option maxRecDepth 100000 in
theorem phoursH_s1 (B : Lo) (p : ShPass) (d : Int) (h : Int) (dJ0 : Nat → Value) : landM (srunT Tryz.prog (okFn Tryz.prog) J0 B 16 1 (headC 63 21 (([1, 2, 5, 7] : List Nat).zip (phoursH_v0 p d h)) dJ0 phoursH_t0) (headH (phoursH_o0 p d h)) (2 + (phoursH_o0 p d h).length)
 (phoursH_q0 p d h dJ0 ++ [(7, HintT.pure (Value.bool false) []), (8, hvI (h + 1))]) 0 [] []) [1, 2, 5, 7] [(2, KS.auto)] [] = some ⟨63, 21, phoursH_t0, [], .run, none, phoursH_v0 p d (h + 1), phoursH_o0 p d (h + 1),
 [wq (h + 1) = h + 1, AllP [] ∧ PureC Tryz.prog J0 68 (phoursH_z0 p d h) (Value.bool false)] ++ phoursH_p0 B p d h dJ0⟩ := by kernel_rfl
set_option maxRecDepth 100000 in
theorem phoursH_s2 (B : Lo) (p : ShPass) (d : Int) (h : Int) (dJ0 : Nat → Value) : endT (srunT Tryz.prog (okFn Tryz.prog) J0 B 9 1 (headC 63 21 (([1, 2, 5, 7] : List Nat).zip (phoursH_v0 p d h)) dJ0 phoursH_t0) (headH (phoursH_o0 p d h)) (2 + (phoursH_o0 p d h).length)
 [(0, hvF)] 0 [] []) [] = some (slT 0 #[],
 [ltq h 24 = false]) := by kernel_rfl
noncomputable def phoursH_p1 (B : Lo) (p : ShPass) (d : Int) (h : Int) (out : List Int) (out_n : Nat) (dJ0 : Nat → Value) : List Prop := [ltq h 24 = true] ++ ([] : List Prop)
noncomputable def phoursH_q1 (p : ShPass) (d : Int) (h : Int) (out : List Int) (out_n : Nat) (dJ0 : Nat → Value) : ScriptT := [(0, hvT)]
set_option maxRecDepth 100000 in
theorem phoursH_s3 (B : Lo) (p : ShPass) (d : Int) (h : Int) (out : List Int) (out_n : Nat) (dJ0 : Nat → Value) : landM (srunT Tryz.prog (okFn Tryz.prog) J0 B 16 1 (headC 63 21 (([1, 2, 5, 7] : List Nat).zip (phoursH_v1 p d h out out_n)) dJ0 phoursH_t1) (headH (phoursH_o1 p d h out out_n)) (2 + (phoursH_o1 p d h out out_n).length)
 (phoursH_q1 p d h out out_n dJ0 ++ [(7, HintT.pure (Value.bool true) []), (11, HintT.old (Hint.app (rowL encI (out ++ [h])))), (13, hvI (h + 1))]) 0 [] []) [1, 2, 5, 7] [(2, KS.auto), (5, KS.cells [] (rowL encI (out ++ [h])))] [] = some ⟨63, 21, phoursH_t1, [], .run, none, phoursH_v1 p d (h + 1) (out ++ [h]) (out_n + 1), phoursH_o1 p d (h + 1) (out ++ [h]) (out_n + 1),
 [CellsM 1 [] (rowL encI (out ++ [h])) (rowL encI (out ++ [h])), wq (h + 1) = h + 1, Array.size (rowL encI out) = out_n * (0 + 1) ∧ out_n + 1 ≤ maxLen ∧ (out_n + 1) * 8 ≤ 140737488355328 ∧ rowL encI out ++ #[Value.int IntKind.i64 h] = rowL encI (out ++ [h]), AllP [] ∧ PureC Tryz.prog J0 68 (phoursH_z0 p d h) (Value.bool true)] ++ phoursH_p1 B p d h out out_n dJ0⟩ := by kernel_rfl
set_option maxRecDepth 100000 in
theorem phoursH_s4 (B : Lo) (p : ShPass) (d : Int) (h : Int) (out : List Int) (out_n : Nat) (dJ0 : Nat → Value) : landM (srunT Tryz.prog (okFn Tryz.prog) J0 B 16 1 (headC 63 21 (([1, 2, 5, 7] : List Nat).zip (phoursH_v1 p d h out out_n)) dJ0 phoursH_t1) (headH (phoursH_o1 p d h out out_n)) (2 + (phoursH_o1 p d h out out_n).length)
 (phoursH_q1 p d h out out_n dJ0 ++ [(7, HintT.pure (Value.bool false) []), (8, hvI (h + 1))]) 0 [] []) [1, 2, 5, 7] [(2, KS.auto), (3, KS.cells [] (rowL encI out))] [] = some ⟨63, 21, phoursH_t1, [], .run, none, phoursH_v1 p d (h + 1) (out) (out_n), phoursH_o1 p d (h + 1) (out) (out_n),
 [CellsM 1 [] (rowL encI out) (rowL encI out), wq (h + 1) = h + 1, AllP [] ∧ PureC Tryz.prog J0 68 (phoursH_z0 p d h) (Value.bool false)] ++ phoursH_p1 B p d h out out_n dJ0⟩ := by kernel_rfl
set_option maxRecDepth 100000 in
theorem phoursH_s5 (B : Lo) (p : ShPass) (d : Int) (h : Int) (out : List Int) (out_n : Nat) (dJ0 : Nat → Value) : endT (srunT Tryz.prog (okFn Tryz.prog) J0 B 9 1 (headC 63 21 (([1, 2, 5, 7] : List Nat).zip (phoursH_v1 p d h out out_n)) dJ0 phoursH_t1) (headH (phoursH_o1 p d h out out_n)) (2 + (phoursH_o1 p d h out out_n).length)
 [(0, hvF)] 0 [] []) [{ k := 3, rs := [], cs := rowL encI out }] = some (slT out_n (Fz.cs { k := 3, rs := [], cs := rowL encI out }),
 [CellsT (Fz.rs { k := 3, rs := [], cs := rowL encI out }) (rowL encI out) (Fz.cs { k := 3, rs := [], cs := rowL encI out }), ltq h 24 = false]) := by kernel_rfl
set_option maxRecDepth 100000 in
theorem phoursH_s6 (B : Lo) (p : ShPass) (d : Int) : landM (srunT Tryz.prog (okFn Tryz.prog) J0 B 9 1 (entryC Tryz.prog 63 21 (([swV p fHi, .int .i64 d]).map (pushT 0 4))) H00 1
 [] 0 [] []) [1, 2, 5, 7] [(1, KS.auto)] [] = some ⟨63, 21, phoursH_t0, [], .run, none, phoursH_v0 p d (0), phoursH_o0 p d (0),
 []⟩ := by kernel_rfl
set_option maxHeartbeats 4000000 in
theorem phoursH_ls (p : ShPass) (d : Int) (hp : passB p = true) (hd : 0 ≤ d ∧ d < p.swell.length) {B : Lo} (hJ : ∀ w, B.has w → J0 w) {c0 : CF} : ∀ m : Nat, (∀ (h : Int), 24 - h.toNat = m → ∀ (h0 : 0 ≤ h), phoursH_h0 B c0 p d h → EndsT Tryz.prog B c0 (slI (([] : List Int) ++ hoursL p d true h))) ∧ (∀ (h : Int) (out : List Int) (out_n : Nat), 24 - h.toNat = m → ∀ (h0 : 0 ≤ h) (hout : out_n = out.length) (houtb : (out_n : Int) ≤ h), phoursH_h1 B c0 p d h out out_n → EndsT Tryz.prog B c0 (slI (out ++ hoursL p d true h))) := by
 intro m0
 induction m0 using Nat.strongRecOn with
 | _ m0 ih0 =>
   refine ⟨?_, ?_⟩
   ·intro h hm0 h0 ⟨dJ0, hdJ0, hg0⟩
    by_cases q0 : (h : Int) < (24)
    ·
     have hp0 : AllP (phoursH_p0 B p d h dJ0) := by
      exact ⟨(ltq_t q0), trivial⟩
     cases q1 : goesB p d h (Span.hi (List.getD p.swell d.toNat default)) with
     | true =>
       exact ((ih0 _ (by omega)).2 (h + 1) ([h]) (1) rfl (by first | with_reducible assumption | omega | (simp_all; done)) (by first | with_reducible assumption | omega | (simp_all; done)) (by first | with_reducible assumption | omega | (simp_all; done))
        (hg0.landM okF hJ mixed_ok (phoursH_s0 B p d h dJ0)
        ⟨(cellsM_lit (by kernel_rfl)), ⟨(wq_in (by omega) (by omega)), ⟨⟨trivial, (by have t_ := pisOpenH (p) (d) (h) (by first | with_reducible assumption | omega | simp_all) (by first | with_reducible assumption | omega | simp_all) (by first | with_reducible assumption | omega | simp_all); rw [q1] at t_; exact t_)⟩, hp0⟩⟩⟩ (by kernel_rfl) (by kernel_rfl))).cast (by first | (rw [hoursL_cons (h := h) (by omega)]; simp_all [swellOf]; done) | (rw [hoursL_nil (h := h) (by omega)]; rfl) | (rw [hoursL_nil (h := h) (by omega), List.append_nil, hout]; done))
     | false =>
       exact ((ih0 _ (by omega)).1 (h + 1) rfl (by first | with_reducible assumption | omega | (simp_all; done))
        (hg0.landM okF hJ mixed_ok (phoursH_s1 B p d h dJ0)
        ⟨(wq_in (by omega) (by omega)), ⟨⟨trivial, (by have t_ := pisOpenH (p) (d) (h) (by first | with_reducible assumption | omega | simp_all) (by first | with_reducible assumption | omega | simp_all) (by first | with_reducible assumption | omega | simp_all); rw [q1] at t_; exact t_)⟩, hp0⟩⟩ (by kernel_rfl) (by kernel_rfl))).cast (by first | (rw [hoursL_cons (h := h) (by omega)]; simp_all [swellOf]; done) | (rw [hoursL_nil (h := h) (by omega)]; rfl) | (rw [hoursL_nil (h := h) (by omega), List.append_nil, hout]; done))
    ·
     exact (GoE.endsT okF hJ mixed_ok hg0 (phoursH_s2 B p d h dJ0)
      ⟨(ltq_f (Int.not_lt.1 q0)), trivial⟩).cast (by first | (rw [hoursL_cons (h := h) (by omega)]; simp_all [swellOf]; done) | (rw [hoursL_nil (h := h) (by omega)]; rfl) | (rw [hoursL_nil (h := h) (by omega), List.append_nil, hout]; done))
   ·intro h out out_n hm0 h0 hout houtb ⟨dJ0, hdJ0, hg0⟩
    by_cases q0 : (h : Int) < (24)
    ·
     have hp1 : AllP (phoursH_p1 B p d h out out_n dJ0) := by
      exact ⟨(ltq_t q0), trivial⟩
     cases q1 : goesB p d h (Span.hi (List.getD p.swell d.toNat default)) with
     | true =>
       exact ((ih0 _ (by omega)).2 (h + 1) (out ++ [h]) (out_n + 1) rfl (by first | with_reducible assumption | omega | (simp_all; done)) (by first | with_reducible assumption | omega | (simp_all; done)) (by first | with_reducible assumption | omega | (simp_all; done))
        (hg0.landM okF hJ mixed_ok (phoursH_s3 B p d h out out_n dJ0)
        ⟨(cellsM_simple (rowL_simple (fun x => List.all_eq_true.1 (by first | rfl | (cases x <;> rfl))))), ⟨(wq_in (by omega) (by omega)), ⟨⟨(by first | rfl | exact rowL_size (z := 1) (fun _ => rfl) | (rw [rowL_size (z := 1) (fun _ => rfl)]; first | omega | (simp; omega) | (simp_all; done))), (by unfold maxLen; omega), by omega, by first | exact rowL_push | exact rowL_pushC rfl⟩, ⟨⟨trivial, (by have t_ := pisOpenH (p) (d) (h) (by first | with_reducible assumption | omega | simp_all) (by first | with_reducible assumption | omega | simp_all) (by first | with_reducible assumption | omega | simp_all); rw [q1] at t_; exact t_)⟩, hp1⟩⟩⟩⟩ (by kernel_rfl) (by kernel_rfl))).cast (by first | (rw [hoursL_cons (h := h) (by omega)]; simp_all [swellOf]; done) | (rw [hoursL_nil (h := h) (by omega)]; rfl) | (rw [hoursL_nil (h := h) (by omega), List.append_nil, hout]; done))
     | false =>
       exact ((ih0 _ (by omega)).2 (h + 1) (out) (out_n) rfl (by first | with_reducible assumption | omega | (simp_all; done)) (by first | with_reducible assumption | omega | (simp_all; done)) (by first | with_reducible assumption | omega | (simp_all; done))
        (hg0.landM okF hJ mixed_ok (phoursH_s4 B p d h out out_n dJ0)
        ⟨(cellsM_simple (rowL_simple (fun x => List.all_eq_true.1 (by first | rfl | (cases x <;> rfl))))), ⟨(wq_in (by omega) (by omega)), ⟨⟨trivial, (by have t_ := pisOpenH (p) (d) (h) (by first | with_reducible assumption | omega | simp_all) (by first | with_reducible assumption | omega | simp_all) (by first | with_reducible assumption | omega | simp_all); rw [q1] at t_; exact t_)⟩, hp1⟩⟩⟩ (by kernel_rfl) (by kernel_rfl))).cast (by first | (rw [hoursL_cons (h := h) (by omega)]; simp_all [swellOf]; done) | (rw [hoursL_nil (h := h) (by omega)]; rfl) | (rw [hoursL_nil (h := h) (by omega), List.append_nil, hout]; done))
    ·
     exact (GoE.endsT okF hJ mixed_ok hg0 (phoursH_s5 B p d h out out_n dJ0)
      ⟨(rowL_cellsT (fun x => List.all_eq_true.1 (by first | rfl | (cases x <;> rfl)))), ⟨(ltq_f (Int.not_lt.1 q0)), trivial⟩⟩).cast (by first | (rw [hoursL_cons (h := h) (by omega)]; simp_all [swellOf]; done) | (rw [hoursL_nil (h := h) (by omega)]; rfl) | (rw [hoursL_nil (h := h) (by omega), List.append_nil, hout]; done))
set_option maxHeartbeats 4000000 in
theorem phoursH_e (p : ShPass) (d : Int) (hp : passB p = true) (hd : 0 ≤ d ∧ d < p.swell.length) {B : Lo} (hJ : ∀ w, B.has w → J0 w) : EndsT Tryz.prog B (entryC Tryz.prog 63 21 (([swV p fHi, .int .i64 d]).map (pushT 0 4))) (slI (hoursL p d true 0)) := by
 exact ((phoursH_ls p d hp hd hJ _).1 (0) rfl (by first | with_reducible assumption | omega | (simp_all; done))
  (GoE.start.landM okF hJ mixed_ok (phoursH_s6 B p d)
  trivial (by kernel_rfl) (by kernel_rfl))).cast (by first | rfl | (simp [*]; done) | (simp_all []; done) | (simp_all []; omega))
theorem phoursH (p : ShPass) (d : Int) (hp : passB p = true) (hd : 0 ≤ d ∧ d < p.swell.length) : PureC Tryz.prog J0 63 #[swV p fHi, .int .i64 d] (slI (hoursL p d true 0)) :=
 pureC_of (ts := [swV p fHi, .int .i64 d]) J0_st (c0 := entryC Tryz.prog 63 21 (([swV p fHi, .int .i64 d]).map (pushT 0 4))) (by kernel_rfl) (by kernel_rfl) fun B hJ => phoursH_e p d hp hd hJ
def phoursL_v0 (p : ShPass) (d : Int) (h : Int) : List Value := [Value.int IntKind.i64 d, pA 2 0, .slice none 0 0, .int .i64 h]
def phoursL_o0 (p : ShPass) (d : Int) (h : Int) : List Obj := [Obj.cells #[topV 1 (slT p.tides.length (rowL encI p.tides)), Value.int IntKind.i64 p.depth, Value.int IntKind.i64 p.draft, topV 1 (slT p.swell.length (rowL encSp p.swell)), Value.int IntKind.i64 p.llo, Value.int IntKind.i64 p.lhi, Value.func (Fn.func 104) #[] #[]] 103]
noncomputable def phoursL_t0 : List Item := ([.code [1, 1, 0, 1, 0, 0], .inLoop [1, 1, 0, 1, 0, 0], .inBlock 0, .code [1, 1, 1]]).map (it (bodyOf Tryz.prog 63))
def phoursL_h0 (B : Lo) (c0 : CF) (p : ShPass) (d : Int) (h : Int) : Prop := ∃ dJ : Nat → Value, (∀ t, Loose (dJ t)) ∧ GoE Tryz.prog B c0 H00 1 (headC 63 21 (([1, 2, 5, 7] : List Nat).zip (phoursL_v0 p d h)) dJ phoursL_t0) (headH (phoursL_o0 p d h)) (2 + (phoursL_o0 p d h).length) []
def phoursL_v1 (p : ShPass) (d : Int) (h : Int) (out : List Int) (out_n : Nat) : List Value := [Value.int IntKind.i64 d, pA 2 0, .slice (some ⟨3, 0, none⟩) out_n 1, .int .i64 h]
def phoursL_o1 (p : ShPass) (d : Int) (h : Int) (out : List Int) (out_n : Nat) : List Obj := [Obj.cells #[topV 1 (slT p.tides.length (rowL encI p.tides)), Value.int IntKind.i64 p.depth, Value.int IntKind.i64 p.draft, topV 1 (slT p.swell.length (rowL encSp p.swell)), Value.int IntKind.i64 p.llo, Value.int IntKind.i64 p.lhi, Value.func (Fn.func 104) #[] #[]] 103, Obj.cells (rowL encI out) 3 (0, 0)]
noncomputable def phoursL_t1 : List Item := ([.code [1, 1, 0, 1, 0, 0], .inLoop [1, 1, 0, 1, 0, 0], .inBlock 0, .code [1, 1, 1]]).map (it (bodyOf Tryz.prog 63))
def phoursL_h1 (B : Lo) (c0 : CF) (p : ShPass) (d : Int) (h : Int) (out : List Int) (out_n : Nat) : Prop := ∃ dJ : Nat → Value, (∀ t, Loose (dJ t)) ∧ GoE Tryz.prog B c0 H00 1 (headC 63 21 (([1, 2, 5, 7] : List Nat).zip (phoursL_v1 p d h out out_n)) dJ phoursL_t1) (headH (phoursL_o1 p d h out out_n)) (2 + (phoursL_o1 p d h out out_n).length) []
noncomputable def phoursL_z0 (p : ShPass) (d : Int) (h : Int) : Array Value := #[Value.agg #[slT p.tides.length (rowL encI p.tides), Value.int IntKind.i64 p.depth, Value.int IntKind.i64 p.draft, slT p.swell.length (rowL encSp p.swell), Value.int IntKind.i64 p.llo, Value.int IntKind.i64 p.lhi, Value.func (Fn.func 104) #[] #[]], Value.agg #[Value.int IntKind.i64 d, Value.int IntKind.i64 h]]
noncomputable def phoursL_p0 (B : Lo) (p : ShPass) (d : Int) (h : Int) (dJ0 : Nat → Value) : List Prop := [ltq h 24 = true] ++ ([] : List Prop)
noncomputable def phoursL_q0 (p : ShPass) (d : Int) (h : Int) (dJ0 : Nat → Value) : ScriptT := [(0, hvT)]
set_option maxRecDepth 100000 in
theorem phoursL_s0 (B : Lo) (p : ShPass) (d : Int) (h : Int) (dJ0 : Nat → Value) : landM (srunT Tryz.prog (okFn Tryz.prog) J0 B 16 1 (headC 63 21 (([1, 2, 5, 7] : List Nat).zip (phoursL_v0 p d h)) dJ0 phoursL_t0) (headH (phoursL_o0 p d h)) (2 + (phoursL_o0 p d h).length)
 (phoursL_q0 p d h dJ0 ++ [(7, HintT.pure (Value.bool true) []), (13, hvI (h + 1))]) 0 [] []) [1, 2, 5, 7] [(2, KS.auto), (4, KS.cells [] (rowL encI [h]))] [] = some ⟨63, 21, phoursL_t1, [], .run, none, phoursL_v1 p d (h + 1) ([h]) (1), phoursL_o1 p d (h + 1) ([h]) (1),
 [CellsM 1 [] (#[Value.int IntKind.i64 h]) (rowL encI [h]), wq (h + 1) = h + 1, AllP [] ∧ PureC Tryz.prog J0 68 (phoursL_z0 p d h) (Value.bool true)] ++ phoursL_p0 B p d h dJ0⟩ := by kernel_rfl
set_option maxRecDepth 100000 in
theorem phoursL_s1 (B : Lo) (p : ShPass) (d : Int) (h : Int) (dJ0 : Nat → Value) : landM (srunT Tryz.prog (okFn Tryz.prog) J0 B 16 1 (headC 63 21 (([1, 2, 5, 7] : List Nat).zip (phoursL_v0 p d h)) dJ0 phoursL_t0) (headH (phoursL_o0 p d h)) (2 + (phoursL_o0 p d h).length)
 (phoursL_q0 p d h dJ0 ++ [(7, HintT.pure (Value.bool false) []), (8, hvI (h + 1))]) 0 [] []) [1, 2, 5, 7] [(2, KS.auto)] [] = some ⟨63, 21, phoursL_t0, [], .run, none, phoursL_v0 p d (h + 1), phoursL_o0 p d (h + 1),
 [wq (h + 1) = h + 1, AllP [] ∧ PureC Tryz.prog J0 68 (phoursL_z0 p d h) (Value.bool false)] ++ phoursL_p0 B p d h dJ0⟩ := by kernel_rfl
set_option maxRecDepth 100000 in
theorem phoursL_s2 (B : Lo) (p : ShPass) (d : Int) (h : Int) (dJ0 : Nat → Value) : endT (srunT Tryz.prog (okFn Tryz.prog) J0 B 9 1 (headC 63 21 (([1, 2, 5, 7] : List Nat).zip (phoursL_v0 p d h)) dJ0 phoursL_t0) (headH (phoursL_o0 p d h)) (2 + (phoursL_o0 p d h).length)
 [(0, hvF)] 0 [] []) [] = some (slT 0 #[],
 [ltq h 24 = false]) := by kernel_rfl
noncomputable def phoursL_p1 (B : Lo) (p : ShPass) (d : Int) (h : Int) (out : List Int) (out_n : Nat) (dJ0 : Nat → Value) : List Prop := [ltq h 24 = true] ++ ([] : List Prop)
noncomputable def phoursL_q1 (p : ShPass) (d : Int) (h : Int) (out : List Int) (out_n : Nat) (dJ0 : Nat → Value) : ScriptT := [(0, hvT)]
set_option maxRecDepth 100000 in
theorem phoursL_s3 (B : Lo) (p : ShPass) (d : Int) (h : Int) (out : List Int) (out_n : Nat) (dJ0 : Nat → Value) : landM (srunT Tryz.prog (okFn Tryz.prog) J0 B 16 1 (headC 63 21 (([1, 2, 5, 7] : List Nat).zip (phoursL_v1 p d h out out_n)) dJ0 phoursL_t1) (headH (phoursL_o1 p d h out out_n)) (2 + (phoursL_o1 p d h out out_n).length)
 (phoursL_q1 p d h out out_n dJ0 ++ [(7, HintT.pure (Value.bool true) []), (11, HintT.old (Hint.app (rowL encI (out ++ [h])))), (13, hvI (h + 1))]) 0 [] []) [1, 2, 5, 7] [(2, KS.auto), (5, KS.cells [] (rowL encI (out ++ [h])))] [] = some ⟨63, 21, phoursL_t1, [], .run, none, phoursL_v1 p d (h + 1) (out ++ [h]) (out_n + 1), phoursL_o1 p d (h + 1) (out ++ [h]) (out_n + 1),
 [CellsM 1 [] (rowL encI (out ++ [h])) (rowL encI (out ++ [h])), wq (h + 1) = h + 1, Array.size (rowL encI out) = out_n * (0 + 1) ∧ out_n + 1 ≤ maxLen ∧ (out_n + 1) * 8 ≤ 140737488355328 ∧ rowL encI out ++ #[Value.int IntKind.i64 h] = rowL encI (out ++ [h]), AllP [] ∧ PureC Tryz.prog J0 68 (phoursL_z0 p d h) (Value.bool true)] ++ phoursL_p1 B p d h out out_n dJ0⟩ := by kernel_rfl
set_option maxRecDepth 100000 in
theorem phoursL_s4 (B : Lo) (p : ShPass) (d : Int) (h : Int) (out : List Int) (out_n : Nat) (dJ0 : Nat → Value) : landM (srunT Tryz.prog (okFn Tryz.prog) J0 B 16 1 (headC 63 21 (([1, 2, 5, 7] : List Nat).zip (phoursL_v1 p d h out out_n)) dJ0 phoursL_t1) (headH (phoursL_o1 p d h out out_n)) (2 + (phoursL_o1 p d h out out_n).length)
 (phoursL_q1 p d h out out_n dJ0 ++ [(7, HintT.pure (Value.bool false) []), (8, hvI (h + 1))]) 0 [] []) [1, 2, 5, 7] [(2, KS.auto), (3, KS.cells [] (rowL encI out))] [] = some ⟨63, 21, phoursL_t1, [], .run, none, phoursL_v1 p d (h + 1) (out) (out_n), phoursL_o1 p d (h + 1) (out) (out_n),
 [CellsM 1 [] (rowL encI out) (rowL encI out), wq (h + 1) = h + 1, AllP [] ∧ PureC Tryz.prog J0 68 (phoursL_z0 p d h) (Value.bool false)] ++ phoursL_p1 B p d h out out_n dJ0⟩ := by kernel_rfl
set_option maxRecDepth 100000 in
theorem phoursL_s5 (B : Lo) (p : ShPass) (d : Int) (h : Int) (out : List Int) (out_n : Nat) (dJ0 : Nat → Value) : endT (srunT Tryz.prog (okFn Tryz.prog) J0 B 9 1 (headC 63 21 (([1, 2, 5, 7] : List Nat).zip (phoursL_v1 p d h out out_n)) dJ0 phoursL_t1) (headH (phoursL_o1 p d h out out_n)) (2 + (phoursL_o1 p d h out out_n).length)
 [(0, hvF)] 0 [] []) [{ k := 3, rs := [], cs := rowL encI out }] = some (slT out_n (Fz.cs { k := 3, rs := [], cs := rowL encI out }),
 [CellsT (Fz.rs { k := 3, rs := [], cs := rowL encI out }) (rowL encI out) (Fz.cs { k := 3, rs := [], cs := rowL encI out }), ltq h 24 = false]) := by kernel_rfl
set_option maxRecDepth 100000 in
theorem phoursL_s6 (B : Lo) (p : ShPass) (d : Int) : landM (srunT Tryz.prog (okFn Tryz.prog) J0 B 9 1 (entryC Tryz.prog 63 21 (([swV p fLo, .int .i64 d]).map (pushT 0 4))) H00 1
 [] 0 [] []) [1, 2, 5, 7] [(1, KS.auto)] [] = some ⟨63, 21, phoursL_t0, [], .run, none, phoursL_v0 p d (0), phoursL_o0 p d (0),
 []⟩ := by kernel_rfl
set_option maxHeartbeats 4000000 in
theorem phoursL_ls (p : ShPass) (d : Int) (hp : passB p = true) (hd : 0 ≤ d ∧ d < p.swell.length) {B : Lo} (hJ : ∀ w, B.has w → J0 w) {c0 : CF} : ∀ m : Nat, (∀ (h : Int), 24 - h.toNat = m → ∀ (h0 : 0 ≤ h), phoursL_h0 B c0 p d h → EndsT Tryz.prog B c0 (slI (([] : List Int) ++ hoursL p d false h))) ∧ (∀ (h : Int) (out : List Int) (out_n : Nat), 24 - h.toNat = m → ∀ (h0 : 0 ≤ h) (hout : out_n = out.length) (houtb : (out_n : Int) ≤ h), phoursL_h1 B c0 p d h out out_n → EndsT Tryz.prog B c0 (slI (out ++ hoursL p d false h))) := by
 intro m0
 induction m0 using Nat.strongRecOn with
 | _ m0 ih0 =>
   refine ⟨?_, ?_⟩
   ·intro h hm0 h0 ⟨dJ0, hdJ0, hg0⟩
    by_cases q0 : (h : Int) < (24)
    ·
     have hp0 : AllP (phoursL_p0 B p d h dJ0) := by
      exact ⟨(ltq_t q0), trivial⟩
     cases q1 : goesB p d h (Span.lo (List.getD p.swell d.toNat default)) with
     | true =>
       exact ((ih0 _ (by omega)).2 (h + 1) ([h]) (1) rfl (by first | with_reducible assumption | omega | (simp_all; done)) (by first | with_reducible assumption | omega | (simp_all; done)) (by first | with_reducible assumption | omega | (simp_all; done))
        (hg0.landM okF hJ mixed_ok (phoursL_s0 B p d h dJ0)
        ⟨(cellsM_lit (by kernel_rfl)), ⟨(wq_in (by omega) (by omega)), ⟨⟨trivial, (by have t_ := pisOpenL (p) (d) (h) (by first | with_reducible assumption | omega | simp_all) (by first | with_reducible assumption | omega | simp_all) (by first | with_reducible assumption | omega | simp_all); rw [q1] at t_; exact t_)⟩, hp0⟩⟩⟩ (by kernel_rfl) (by kernel_rfl))).cast (by first | (rw [hoursL_cons (h := h) (by omega)]; simp_all [swellOf]; done) | (rw [hoursL_nil (h := h) (by omega)]; rfl) | (rw [hoursL_nil (h := h) (by omega), List.append_nil, hout]; done))
     | false =>
       exact ((ih0 _ (by omega)).1 (h + 1) rfl (by first | with_reducible assumption | omega | (simp_all; done))
        (hg0.landM okF hJ mixed_ok (phoursL_s1 B p d h dJ0)
        ⟨(wq_in (by omega) (by omega)), ⟨⟨trivial, (by have t_ := pisOpenL (p) (d) (h) (by first | with_reducible assumption | omega | simp_all) (by first | with_reducible assumption | omega | simp_all) (by first | with_reducible assumption | omega | simp_all); rw [q1] at t_; exact t_)⟩, hp0⟩⟩ (by kernel_rfl) (by kernel_rfl))).cast (by first | (rw [hoursL_cons (h := h) (by omega)]; simp_all [swellOf]; done) | (rw [hoursL_nil (h := h) (by omega)]; rfl) | (rw [hoursL_nil (h := h) (by omega), List.append_nil, hout]; done))
    ·
     exact (GoE.endsT okF hJ mixed_ok hg0 (phoursL_s2 B p d h dJ0)
      ⟨(ltq_f (Int.not_lt.1 q0)), trivial⟩).cast (by first | (rw [hoursL_cons (h := h) (by omega)]; simp_all [swellOf]; done) | (rw [hoursL_nil (h := h) (by omega)]; rfl) | (rw [hoursL_nil (h := h) (by omega), List.append_nil, hout]; done))
   ·intro h out out_n hm0 h0 hout houtb ⟨dJ0, hdJ0, hg0⟩
    by_cases q0 : (h : Int) < (24)
    ·
     have hp1 : AllP (phoursL_p1 B p d h out out_n dJ0) := by
      exact ⟨(ltq_t q0), trivial⟩
     cases q1 : goesB p d h (Span.lo (List.getD p.swell d.toNat default)) with
     | true =>
       exact ((ih0 _ (by omega)).2 (h + 1) (out ++ [h]) (out_n + 1) rfl (by first | with_reducible assumption | omega | (simp_all; done)) (by first | with_reducible assumption | omega | (simp_all; done)) (by first | with_reducible assumption | omega | (simp_all; done))
        (hg0.landM okF hJ mixed_ok (phoursL_s3 B p d h out out_n dJ0)
        ⟨(cellsM_simple (rowL_simple (fun x => List.all_eq_true.1 (by first | rfl | (cases x <;> rfl))))), ⟨(wq_in (by omega) (by omega)), ⟨⟨(by first | rfl | exact rowL_size (z := 1) (fun _ => rfl) | (rw [rowL_size (z := 1) (fun _ => rfl)]; first | omega | (simp; omega) | (simp_all; done))), (by unfold maxLen; omega), by omega, by first | exact rowL_push | exact rowL_pushC rfl⟩, ⟨⟨trivial, (by have t_ := pisOpenL (p) (d) (h) (by first | with_reducible assumption | omega | simp_all) (by first | with_reducible assumption | omega | simp_all) (by first | with_reducible assumption | omega | simp_all); rw [q1] at t_; exact t_)⟩, hp1⟩⟩⟩⟩ (by kernel_rfl) (by kernel_rfl))).cast (by first | (rw [hoursL_cons (h := h) (by omega)]; simp_all [swellOf]; done) | (rw [hoursL_nil (h := h) (by omega)]; rfl) | (rw [hoursL_nil (h := h) (by omega), List.append_nil, hout]; done))
     | false =>
       exact ((ih0 _ (by omega)).2 (h + 1) (out) (out_n) rfl (by first | with_reducible assumption | omega | (simp_all; done)) (by first | with_reducible assumption | omega | (simp_all; done)) (by first | with_reducible assumption | omega | (simp_all; done))
        (hg0.landM okF hJ mixed_ok (phoursL_s4 B p d h out out_n dJ0)
        ⟨(cellsM_simple (rowL_simple (fun x => List.all_eq_true.1 (by first | rfl | (cases x <;> rfl))))), ⟨(wq_in (by omega) (by omega)), ⟨⟨trivial, (by have t_ := pisOpenL (p) (d) (h) (by first | with_reducible assumption | omega | simp_all) (by first | with_reducible assumption | omega | simp_all) (by first | with_reducible assumption | omega | simp_all); rw [q1] at t_; exact t_)⟩, hp1⟩⟩⟩ (by kernel_rfl) (by kernel_rfl))).cast (by first | (rw [hoursL_cons (h := h) (by omega)]; simp_all [swellOf]; done) | (rw [hoursL_nil (h := h) (by omega)]; rfl) | (rw [hoursL_nil (h := h) (by omega), List.append_nil, hout]; done))
    ·
     exact (GoE.endsT okF hJ mixed_ok hg0 (phoursL_s5 B p d h out out_n dJ0)
      ⟨(rowL_cellsT (fun x => List.all_eq_true.1 (by first | rfl | (cases x <;> rfl)))), ⟨(ltq_f (Int.not_lt.1 q0)), trivial⟩⟩).cast (by first | (rw [hoursL_cons (h := h) (by omega)]; simp_all [swellOf]; done) | (rw [hoursL_nil (h := h) (by omega)]; rfl) | (rw [hoursL_nil (h := h) (by omega), List.append_nil, hout]; done))
set_option maxHeartbeats 4000000 in
theorem phoursL_e (p : ShPass) (d : Int) (hp : passB p = true) (hd : 0 ≤ d ∧ d < p.swell.length) {B : Lo} (hJ : ∀ w, B.has w → J0 w) : EndsT Tryz.prog B (entryC Tryz.prog 63 21 (([swV p fLo, .int .i64 d]).map (pushT 0 4))) (slI (hoursL p d false 0)) := by
 exact ((phoursL_ls p d hp hd hJ _).1 (0) rfl (by first | with_reducible assumption | omega | (simp_all; done))
  (GoE.start.landM okF hJ mixed_ok (phoursL_s6 B p d)
  trivial (by kernel_rfl) (by kernel_rfl))).cast (by first | rfl | (simp [*]; done) | (simp_all []; done) | (simp_all []; omega))
theorem phoursL (p : ShPass) (d : Int) (hp : passB p = true) (hd : 0 ≤ d ∧ d < p.swell.length) : PureC Tryz.prog J0 63 #[swV p fLo, .int .i64 d] (slI (hoursL p d false 0)) :=
 pureC_of (ts := [swV p fLo, .int .i64 d]) J0_st (c0 := entryC Tryz.prog 63 21 (([swV p fLo, .int .i64 d]).map (pushT 0 4))) (by kernel_rfl) (by kernel_rfl) fun B hJ => phoursL_e p d hp hd hJ
end Go.Proofs.YtiabgkiccaodmaaGreat

namespace Go.Proofs.YtiabgkiccaodmaaGreat
open Go Go.CE Go.RowKit
def hrsOk (p : ShPass) (d : Int) : Bool := passB p && inB d 0 (p.swell.length - 1)
noncomputable def pHours_z0 (p : ShPass) : Array Value := #[slT p.tides.length (rowL encI p.tides), Value.int IntKind.i64 p.depth, Value.int IntKind.i64 p.draft, slT p.swell.length (rowL encSp p.swell), Value.int IntKind.i64 p.llo, Value.int IntKind.i64 p.lhi, Value.func (Fn.func 103) #[] #[]]
noncomputable def pHours_z1 (p : ShPass) : Array Value := #[slT p.tides.length (rowL encI p.tides), Value.int IntKind.i64 p.depth, Value.int IntKind.i64 p.draft, slT p.swell.length (rowL encSp p.swell), Value.int IntKind.i64 p.llo, Value.int IntKind.i64 p.lhi, Value.func (Fn.func 104) #[] #[]]
noncomputable def pHours_z2 (p : ShPass) : Array Value := #[Value.agg #[slT p.tides.length (rowL encI p.tides), Value.int IntKind.i64 p.depth, Value.int IntKind.i64 p.draft, slT p.swell.length (rowL encSp p.swell), Value.int IntKind.i64 p.llo, Value.int IntKind.i64 p.lhi]]
noncomputable def pHours_p0 (B : Lo) (p : ShPass) (d : Int) : List Prop := [AllP [] ∧ PureC Tryz.prog J0 60 (pHours_z2 p) (Value.bool true)] ++ ([] : List Prop)
noncomputable def pHours_q0 (p : ShPass) (d : Int) : ScriptT := [(5, HintT.pure (Value.bool true) [])]
set_option maxRecDepth 100000 in
theorem pHours_s0 (B : Lo) (p : ShPass) (d : Int) : endT (srunT Tryz.prog (okFn Tryz.prog) J0 B 11 1 (entryC Tryz.prog 19 24 (([.agg (encPass p).toArray, .int .i64 d]).map (pushT 0 4))) H00 1
 (pHours_q0 p d ++ [(10, HintT.pure (Value.bool true) []), (14, HintT.pure (Value.agg (pHours_z0 p)) []), (16, HintT.pure (slT (List.length (hoursL p d true 0)) (rowL encI (hoursL p d true 0))) []), (18, HintT.pure (Value.agg (pHours_z1 p)) []), (20, HintT.pure (slT (List.length (hoursL p d false 0)) (rowL encI (hoursL p d false 0))) [])]) 0 [] []) [] = some (Value.tuple #[slT (List.length (hoursL p d true 0)) (rowL encI (hoursL p d true 0)), slT (List.length (hoursL p d false 0)) (rowL encI (hoursL p d false 0)), Value.int IntKind.i64 0],
 [AllP [] ∧ PureC Tryz.prog J0 63 #[Value.agg (pHours_z1 p), Value.int IntKind.i64 d] (slT (List.length (hoursL p d false 0)) (rowL encI (hoursL p d false 0))), AllP [] ∧ PureC Tryz.prog J0 64 (pHours_z2 p) (Value.agg (pHours_z1 p)), AllP [] ∧ PureC Tryz.prog J0 63 #[Value.agg (pHours_z0 p), Value.int IntKind.i64 d] (slT (List.length (hoursL p d true 0)) (rowL encI (hoursL p d true 0))), AllP [] ∧ PureC Tryz.prog J0 62 (pHours_z2 p) (Value.agg (pHours_z0 p)), AllP [] ∧ PureC Tryz.prog J0 61 #[Value.agg #[slT p.tides.length (rowL encI p.tides), Value.int IntKind.i64 p.depth, Value.int IntKind.i64 p.draft, slT p.swell.length (rowL encSp p.swell), Value.int IntKind.i64 p.llo, Value.int IntKind.i64 p.lhi], Value.int IntKind.i64 d] (Value.bool true)] ++ pHours_p0 B p d) := by kernel_rfl
set_option maxRecDepth 100000 in
theorem pHours_s1 (B : Lo) (p : ShPass) (d : Int) : endT (srunT Tryz.prog (okFn Tryz.prog) J0 B 10 1 (entryC Tryz.prog 19 24 (([.agg (encPass p).toArray, .int .i64 d]).map (pushT 0 4))) H00 1
 (pHours_q0 p d ++ [(10, HintT.pure (Value.bool false) [])]) 0 [] []) [] = some (Value.tuple #[slT 0 #[], slT 0 #[], Value.int IntKind.i64 2],
 [AllP [] ∧ PureC Tryz.prog J0 61 #[Value.agg #[slT p.tides.length (rowL encI p.tides), Value.int IntKind.i64 p.depth, Value.int IntKind.i64 p.draft, slT p.swell.length (rowL encSp p.swell), Value.int IntKind.i64 p.llo, Value.int IntKind.i64 p.lhi], Value.int IntKind.i64 d] (Value.bool false)] ++ pHours_p0 B p d) := by kernel_rfl
set_option maxRecDepth 100000 in
theorem pHours_s2 (B : Lo) (p : ShPass) (d : Int) : endT (srunT Tryz.prog (okFn Tryz.prog) J0 B 10 1 (entryC Tryz.prog 19 24 (([.agg (encPass p).toArray, .int .i64 d]).map (pushT 0 4))) H00 1
 [(5, HintT.pure (Value.bool false) [])] 0 [] []) [] = some (Value.tuple #[slT 0 #[], slT 0 #[], Value.int IntKind.i64 2],
 [AllP [] ∧ PureC Tryz.prog J0 60 (pHours_z2 p) (Value.bool false)]) := by kernel_rfl
set_option maxHeartbeats 4000000 in
theorem pHours_e (p : ShPass) (d : Int)  {B : Lo} (hJ : ∀ w, B.has w → J0 w) : EndsT Tryz.prog B (entryC Tryz.prog 19 24 (([.agg (encPass p).toArray, .int .i64 d]).map (pushT 0 4))) (.tuple #[slI (if (passB p && inB d 0 (p.swell.length - 1)) = true then hoursL p d true 0 else []), slI (if (passB p && inB d 0 (p.swell.length - 1)) = true then hoursL p d false 0 else []), .int .i64 (if (passB p && inB d 0 (p.swell.length - 1)) = true then 0 else 2)]) := by
 cases q0 : passB p with
 | true =>
   have hp0 : AllP (pHours_p0 B p d) := by
    try have g2 := inB_iff.1 ‹inB d 0 _ = true›
    exact ⟨⟨trivial, (by have t_ := pisPass (p); rw [q0] at t_; exact t_)⟩, trivial⟩
   cases q1 : inB d 0 ((↑p.swell.length : Int) - 1) with
   | true =>
     try have g2 := inB_iff.1 ‹inB d 0 _ = true›
     exact (GoE.endsT okF hJ mixed_ok GoE.start (pHours_s0 B p d)
      ⟨⟨trivial, phoursL (p) (d) (by first | with_reducible assumption | omega | simp_all) (by first | with_reducible assumption | omega | simp_all)⟩, ⟨⟨trivial, pleast (p)⟩, ⟨⟨trivial, phoursH (p) (d) (by first | with_reducible assumption | omega | simp_all) (by first | with_reducible assumption | omega | simp_all)⟩, ⟨⟨trivial, pmost (p)⟩, ⟨⟨trivial, (by have t_ := pisDay (p) (d); rw [q1] at t_; exact t_)⟩, hp0⟩⟩⟩⟩⟩).cast (by first | (simp [hrsOk, *]; done) | (simp [hrsOk, *]; rfl))
   | false =>
     try have g2 := inB_iff.1 ‹inB d 0 _ = true›
     exact (GoE.endsT okF hJ mixed_ok GoE.start (pHours_s1 B p d)
      ⟨⟨trivial, (by have t_ := pisDay (p) (d); rw [q1] at t_; exact t_)⟩, hp0⟩).cast (by first | (simp [hrsOk, *]; done) | (simp [hrsOk, *]; rfl))
 | false =>
   try have g2 := inB_iff.1 ‹inB d 0 _ = true›
   exact (GoE.endsT okF hJ mixed_ok GoE.start (pHours_s2 B p d)
    ⟨⟨trivial, (by have t_ := pisPass (p); rw [q0] at t_; exact t_)⟩, trivial⟩).cast (by first | (simp [hrsOk, *]; done) | (simp [hrsOk, *]; rfl))
theorem pHours (p : ShPass) (d : Int)  : PureC Tryz.prog J0 19 #[.agg (encPass p).toArray, .int .i64 d] (.tuple #[slI (if (passB p && inB d 0 (p.swell.length - 1)) = true then hoursL p d true 0 else []), slI (if (passB p && inB d 0 (p.swell.length - 1)) = true then hoursL p d false 0 else []), .int .i64 (if (passB p && inB d 0 (p.swell.length - 1)) = true then 0 else 2)]) :=
 pureC_of (ts := [.agg (encPass p).toArray, .int .i64 d]) J0_st (c0 := entryC Tryz.prog 19 24 (([.agg (encPass p).toArray, .int .i64 d]).map (pushT 0 4))) (by kernel_rfl) (by kernel_rfl) fun B hJ => pHours_e p d  hJ
end Go.Proofs.YtiabgkiccaodmaaGreat

