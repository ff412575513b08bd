/- The reference's small functions. -/
import Derived.Test.YtiabgkiccaodmaaGreatZOP08
set_option linter.all false
namespace Go.Proofs.YtiabgkiccaodmaaGreat
open Go Go.CE Go.RowKit
def inB (x lo hi : Int) : Bool := decide (lo ≤ x) && decide (x ≤ hi)
structure Span where
 lo : Int
 hi : Int
deriving Inhabited
def encSp (s : Span) : List Value := [.int .i64 s.lo, .int .i64 s.hi]
def spanB (a b lo hi : Int) : Bool := decide (lo ≤ a) && (decide (a ≤ b) && decide (b ≤ hi))
noncomputable def rin_p0 (B : Lo) (x lo hi : Int) : List Prop := [(!ltq x lo) = true] ++ ([] : List Prop)
noncomputable def rin_q0 (x lo hi : Int) : ScriptT := [(3, hvT)]
set_option maxRecDepth 100000 in
theorem rin_s0 (B : Lo) (x lo hi : Int) : endT (srunT Tryz.prog (okFn Tryz.prog) J0 B 6 1 (entryC Tryz.prog 69 15 (([.int .i64 x, .int .i64 lo, .int .i64 hi]).map (pushT 0 4))) H00 1
 (rin_q0 x lo hi ++ [(7, hvT)]) 0 [] []) [] = some (Value.bool true,
 [(!ltq hi x) = true] ++ rin_p0 B x lo hi) := by kernel_rfl
set_option maxRecDepth 100000 in
theorem rin_s1 (B : Lo) (x lo hi : Int) : endT (srunT Tryz.prog (okFn Tryz.prog) J0 B 6 1 (entryC Tryz.prog 69 15 (([.int .i64 x, .int .i64 lo, .int .i64 hi]).map (pushT 0 4))) H00 1
 (rin_q0 x lo hi ++ [(7, hvF)]) 0 [] []) [] = some (Value.bool false,
 [(!ltq hi x) = false] ++ rin_p0 B x lo hi) := by kernel_rfl
set_option maxRecDepth 100000 in
theorem rin_s2 (B : Lo) (x lo hi : Int) : endT (srunT Tryz.prog (okFn Tryz.prog) J0 B 6 1 (entryC Tryz.prog 69 15 (([.int .i64 x, .int .i64 lo, .int .i64 hi]).map (pushT 0 4))) H00 1
 [(3, hvF)] 0 [] []) [] = some (Value.bool false,
 [(!ltq x lo) = false]) := by kernel_rfl
set_option maxHeartbeats 4000000 in
theorem rin_e (x lo hi : Int)  {B : Lo} (hJ : ∀ w, B.has w → J0 w) : EndsT Tryz.prog B (entryC Tryz.prog 69 15 (([.int .i64 x, .int .i64 lo, .int .i64 hi]).map (pushT 0 4))) (.bool (inB x lo hi)) := by
 by_cases q0 : (lo : Int) ≤ (x)
 ·
  have hp0 : AllP (rin_p0 B x lo hi) := by
   exact ⟨(nltq_t q0), trivial⟩
  by_cases q1 : (x : Int) ≤ (hi)
  ·
   exact (GoE.endsT okF hJ mixed_ok GoE.start (rin_s0 B x lo hi)
    ⟨(nltq_t q1), hp0⟩).cast (by first | rfl | (simp [inB, *]; done) | (simp_all [inB]; done) | (simp_all [inB]; omega))
  ·
   exact (GoE.endsT okF hJ mixed_ok GoE.start (rin_s1 B x lo hi)
    ⟨(nltq_f (Int.not_le.1 q1)), hp0⟩).cast (by first | rfl | (simp [inB, *]; done) | (simp_all [inB]; done) | (simp_all [inB]; omega))
 ·
  exact (GoE.endsT okF hJ mixed_ok GoE.start (rin_s2 B x lo hi)
   ⟨(nltq_f (Int.not_le.1 q0)), trivial⟩).cast (by first | rfl | (simp [inB, *]; done) | (simp_all [inB]; done) | (simp_all [inB]; omega))
theorem rin (x lo hi : Int)  : PureC Tryz.prog J0 69 #[.int .i64 x, .int .i64 lo, .int .i64 hi] (.bool (inB x lo hi)) :=
 pureC_of (ts := [.int .i64 x, .int .i64 lo, .int .i64 hi]) J0_st (c0 := entryC Tryz.prog 69 15 (([.int .i64 x, .int .i64 lo, .int .i64 hi]).map (pushT 0 4))) (by kernel_rfl) (by kernel_rfl) fun B hJ => rin_e x lo hi  hJ
noncomputable def rSpan_p0 (B : Lo) (a b lo hi : Int) : List Prop := [(!ltq a lo) = true] ++ ([] : List Prop)
noncomputable def rSpan_q0 (a b lo hi : Int) : ScriptT := [(5, hvT)]
noncomputable def rSpan_p1 (B : Lo) (a b lo hi : Int) : List Prop := [(!ltq b a) = true] ++ rSpan_p0 B a b lo hi
noncomputable def rSpan_q1 (a b lo hi : Int) : ScriptT := rSpan_q0 a b lo hi ++ [(11, hvT)]
set_option maxRecDepth 100000 in
theorem rSpan_s0 (B : Lo) (a b lo hi : Int) : endT (srunT Tryz.prog (okFn Tryz.prog) J0 B 6 1 (entryC Tryz.prog 70 24 (([.agg #[.int .i64 a, .int .i64 b], .int .i64 lo, .int .i64 hi]).map (pushT 0 4))) H00 1
 (rSpan_q1 a b lo hi ++ [(17, hvT)]) 0 [] []) [] = some (Value.bool true,
 [(!ltq hi b) = true] ++ rSpan_p1 B a b lo hi) := by kernel_rfl
set_option maxRecDepth 100000 in
theorem rSpan_s1 (B : Lo) (a b lo hi : Int) : endT (srunT Tryz.prog (okFn Tryz.prog) J0 B 6 1 (entryC Tryz.prog 70 24 (([.agg #[.int .i64 a, .int .i64 b], .int .i64 lo, .int .i64 hi]).map (pushT 0 4))) H00 1
 (rSpan_q1 a b lo hi ++ [(17, hvF)]) 0 [] []) [] = some (Value.bool false,
 [(!ltq hi b) = false] ++ rSpan_p1 B a b lo hi) := by kernel_rfl
set_option maxRecDepth 100000 in
theorem rSpan_s2 (B : Lo) (a b lo hi : Int) : endT (srunT Tryz.prog (okFn Tryz.prog) J0 B 6 1 (entryC Tryz.prog 70 24 (([.agg #[.int .i64 a, .int .i64 b], .int .i64 lo, .int .i64 hi]).map (pushT 0 4))) H00 1
 (rSpan_q0 a b lo hi ++ [(11, hvF)]) 0 [] []) [] = some (Value.bool false,
 [(!ltq b a) = false] ++ rSpan_p0 B a b lo hi) := by kernel_rfl
set_option maxRecDepth 100000 in
theorem rSpan_s3 (B : Lo) (a b lo hi : Int) : endT (srunT Tryz.prog (okFn Tryz.prog) J0 B 6 1 (entryC Tryz.prog 70 24 (([.agg #[.int .i64 a, .int .i64 b], .int .i64 lo, .int .i64 hi]).map (pushT 0 4))) H00 1
 [(5, hvF)] 0 [] []) [] = some (Value.bool false,
 [(!ltq a lo) = false]) := by kernel_rfl
set_option maxHeartbeats 4000000 in
theorem rSpan_e (a b lo hi : Int)  {B : Lo} (hJ : ∀ w, B.has w → J0 w) : EndsT Tryz.prog B (entryC Tryz.prog 70 24 (([.agg #[.int .i64 a, .int .i64 b], .int .i64 lo, .int .i64 hi]).map (pushT 0 4))) (.bool (spanB a b lo hi)) := by
 by_cases q0 : (lo : Int) ≤ (a)
 ·
  have hp0 : AllP (rSpan_p0 B a b lo hi) := by
   exact ⟨(nltq_t q0), trivial⟩
  by_cases q1 : (a : Int) ≤ (b)
  ·
   have hp1 : AllP (rSpan_p1 B a b lo hi) := by
    exact ⟨(nltq_t q1), hp0⟩
   by_cases q2 : (b : Int) ≤ (hi)
   ·
    exact (GoE.endsT okF hJ mixed_ok GoE.start (rSpan_s0 B a b lo hi)
     ⟨(nltq_t q2), hp1⟩).cast (by first | rfl | (simp [spanB, *]; done) | (simp_all [spanB]; done) | (simp_all [spanB]; omega))
   ·
    exact (GoE.endsT okF hJ mixed_ok GoE.start (rSpan_s1 B a b lo hi)
     ⟨(nltq_f (Int.not_le.1 q2)), hp1⟩).cast (by first | rfl | (simp [spanB, *]; done) | (simp_all [spanB]; done) | (simp_all [spanB]; omega))
  ·
   exact (GoE.endsT okF hJ mixed_ok GoE.start (rSpan_s2 B a b lo hi)
    ⟨(nltq_f (Int.not_le.1 q1)), hp0⟩).cast (by first | rfl | (simp [spanB, *]; done) | (simp_all [spanB]; done) | (simp_all [spanB]; omega))
 ·
  exact (GoE.endsT okF hJ mixed_ok GoE.start (rSpan_s3 B a b lo hi)
   ⟨(nltq_f (Int.not_le.1 q0)), trivial⟩).cast (by first | rfl | (simp [spanB, *]; done) | (simp_all [spanB]; done) | (simp_all [spanB]; omega))
theorem rSpan (a b lo hi : Int)  : PureC Tryz.prog J0 70 #[.agg #[.int .i64 a, .int .i64 b], .int .i64 lo, .int .i64 hi] (.bool (spanB a b lo hi)) :=
 pureC_of (ts := [.agg #[.int .i64 a, .int .i64 b], .int .i64 lo, .int .i64 hi]) J0_st (c0 := entryC Tryz.prog 70 24 (([.agg #[.int .i64 a, .int .i64 b], .int .i64 lo, .int .i64 hi]).map (pushT 0 4))) (by kernel_rfl) (by kernel_rfl) fun B hJ => rSpan_e a b lo hi  hJ
structure ShPass where
 tides : List Int
 depth : Int
 draft : Int
 swell : List Span
 llo : Int
 lhi : Int
deriving Inhabited
abbrev slSp (xs : List Span) : Value := slT xs.length (rowL encSp xs)
def encPass (p : ShPass) : List Value := [slI p.tides, .int .i64 p.depth, .int .i64 p.draft, slSp p.swell, .int .i64 p.llo, .int .i64 p.lhi]
def passD (p : ShPass) : Bool := inB p.tides.length 1 50 && (inB p.depth 0 1000 && (inB p.draft 0 1000 && (inB p.swell.length 1 60 && spanB p.llo p.lhi 0 23)))
def passC (p : ShPass) : Bool := p.swell.all (fun s => spanB s.lo s.hi 0 1000) && passD p
def passB (p : ShPass) : Bool := p.tides.all (fun x => inB x (-1000) 1000) && passC p
def rPass_v0 (p : ShPass) (i : Int) : List Value := [pA 2 0, .int .i64 i]
def rPass_o0 (p : ShPass) (i : Int) : List Obj := [Obj.cells #[topV 1 (slT p.tides.length (rowL encI p.tides)), Value.int IntKind.i64 p.depth, Value.int IntKind.i64 p.draft, topV 1 (slT p.swell.length (rowL encSp p.swell)), Value.int IntKind.i64 p.llo, Value.int IntKind.i64 p.lhi] 27]
noncomputable def rPass_t0 : List Item := ([.code [1, 0, 1, 0, 0], .inLoop [1, 0, 1, 0, 0], .inBlock 0, .code [1, 1]]).map (it (bodyOf Tryz.prog 21))
def rPass_h0 (B : Lo) (c0 : CF) (p : ShPass) (i : Int) : Prop := ∃ dJ : Nat → Value, (∀ t, Loose (dJ t)) ∧ GoE Tryz.prog B c0 H00 1 (headC 21 58 (([1, 3] : List Nat).zip (rPass_v0 p i)) dJ rPass_t0) (headH (rPass_o0 p i)) (2 + (rPass_o0 p i).length) []
def rPass_v1 (p : ShPass) (i : Int) : List Value := [pA 2 0, .int .i64 i]
def rPass_o1 (p : ShPass) (i : Int) : List Obj := [Obj.cells #[topV 1 (slT p.tides.length (rowL encI p.tides)), Value.int IntKind.i64 p.depth, Value.int IntKind.i64 p.draft, topV 1 (slT p.swell.length (rowL encSp p.swell)), Value.int IntKind.i64 p.llo, Value.int IntKind.i64 p.lhi] 27]
noncomputable def rPass_t1 : List Item := ([.code [1, 1, 0, 1, 0, 0], .inLoop [1, 1, 0, 1, 0, 0], .inBlock 2, .code [1, 1, 1]]).map (it (bodyOf Tryz.prog 21))
def rPass_h1 (B : Lo) (c0 : CF) (p : ShPass) (i : Int) : Prop := ∃ dJ : Nat → Value, (∀ t, Loose (dJ t)) ∧ GoE Tryz.prog B c0 H00 1 (headC 21 58 (([1, 4] : List Nat).zip (rPass_v1 p i)) dJ rPass_t1) (headH (rPass_o1 p i)) (2 + (rPass_o1 p i).length) []
noncomputable def rPass_z0 (p : ShPass) (i : Int) : Array Value := #[Value.int IntKind.i64 (Span.lo (List.getD p.swell i.toNat default)), Value.int IntKind.i64 (Span.hi (List.getD p.swell i.toNat default))]
noncomputable def rPass_p0 (B : Lo) (p : ShPass) (i : Int) (dJ0 : Nat → Value) : List Prop := [i = (↑i.toNat : Int) ∧ Int.toNat i < List.length p.tides ∧ Array.extract (rowL encI p.tides) (Int.toNat i * TypeInfo.size Tryz.t3) (Int.toNat i * TypeInfo.size Tryz.t3 + TypeInfo.size Tryz.t3) = #[Value.int IntKind.i64 (List.getD p.tides i.toNat default)], ltq i (↑p.tides.length : Int) = true] ++ ([] : List Prop)
noncomputable def rPass_q0 (p : ShPass) (i : Int) (dJ0 : Nat → Value) : ScriptT := [(4, hvT), (8, HintT.tidx i.toNat #[Value.int IntKind.i64 (List.getD p.tides i.toNat default)])]
set_option maxRecDepth 100000 in
theorem rPass_s0 (B : Lo) (p : ShPass) (i : Int) (dJ0 : Nat → Value) : landM (srunT Tryz.prog (okFn Tryz.prog) J0 B 14 1 (headC 21 58 (([1, 3] : List Nat).zip (rPass_v0 p i)) dJ0 rPass_t0) (headH (rPass_o0 p i)) (2 + (rPass_o0 p i).length)
 (rPass_q0 p i dJ0 ++ [(10, HintT.pure (Value.bool true) []), (13, hvI (i + 1))]) 0 [] []) [1, 3] [(2, KS.auto)] [] = some ⟨21, 58, rPass_t0, [], .run, none, rPass_v0 p (i + 1), rPass_o0 p (i + 1),
 [wq (i + 1) = i + 1, AllP [] ∧ PureC Tryz.prog J0 69 #[Value.int IntKind.i64 (List.getD p.tides i.toNat default), Value.int IntKind.i64 (-1000), Value.int IntKind.i64 1000] (Value.bool true)] ++ rPass_p0 B p i dJ0⟩ := by kernel_rfl
set_option maxRecDepth 100000 in
theorem rPass_s1 (B : Lo) (p : ShPass) (i : Int) (dJ0 : Nat → Value) : endT (srunT Tryz.prog (okFn Tryz.prog) J0 B 14 1 (headC 21 58 (([1, 3] : List Nat).zip (rPass_v0 p i)) dJ0 rPass_t0) (headH (rPass_o0 p i)) (2 + (rPass_o0 p i).length)
 (rPass_q0 p i dJ0 ++ [(10, HintT.pure (Value.bool false) [])]) 0 [] []) [] = some (Value.bool false,
 [AllP [] ∧ PureC Tryz.prog J0 69 #[Value.int IntKind.i64 (List.getD p.tides i.toNat default), Value.int IntKind.i64 (-1000), Value.int IntKind.i64 1000] (Value.bool false)] ++ rPass_p0 B p i dJ0) := by kernel_rfl
set_option maxRecDepth 100000 in
theorem rPass_s2 (B : Lo) (p : ShPass) (i : Int) (dJ0 : Nat → Value) : landM (srunT Tryz.prog (okFn Tryz.prog) J0 B 10 1 (headC 21 58 (([1, 3] : List Nat).zip (rPass_v0 p i)) dJ0 rPass_t0) (headH (rPass_o0 p i)) (2 + (rPass_o0 p i).length)
 [(4, hvF)] 0 [] []) [1, 4] [(2, KS.auto)] [] = some ⟨21, 58, rPass_t1, [], .run, none, rPass_v1 p (0), rPass_o1 p (0),
 [ltq i (↑p.tides.length : Int) = false]⟩ := by kernel_rfl
noncomputable def rPass_p1 (B : Lo) (p : ShPass) (i : Int) (dJ0 : Nat → Value) : List Prop := [i = (↑i.toNat : Int) ∧ Int.toNat i < List.length p.swell ∧ Array.extract (rowL encSp p.swell) (Int.toNat i * TypeInfo.size Tryz.t25) (Int.toNat i * TypeInfo.size Tryz.t25 + TypeInfo.size Tryz.t25) = (rPass_z0 p i), ltq i (↑p.swell.length : Int) = true] ++ ([] : List Prop)
noncomputable def rPass_q1 (p : ShPass) (i : Int) (dJ0 : Nat → Value) : ScriptT := [(4, hvT), (8, HintT.tidx i.toNat (rPass_z0 p i))]
set_option maxRecDepth 100000 in
theorem rPass_s3 (B : Lo) (p : ShPass) (i : Int) (dJ0 : Nat → Value) : landM (srunT Tryz.prog (okFn Tryz.prog) J0 B 14 1 (headC 21 58 (([1, 4] : List Nat).zip (rPass_v1 p i)) dJ0 rPass_t1) (headH (rPass_o1 p i)) (2 + (rPass_o1 p i).length)
 (rPass_q1 p i dJ0 ++ [(10, HintT.pure (Value.bool true) []), (13, hvI (i + 1))]) 0 [] []) [1, 4] [(2, KS.auto)] [] = some ⟨21, 58, rPass_t1, [], .run, none, rPass_v1 p (i + 1), rPass_o1 p (i + 1),
 [wq (i + 1) = i + 1, AllP [] ∧ PureC Tryz.prog J0 70 #[Value.agg (rPass_z0 p i), Value.int IntKind.i64 0, Value.int IntKind.i64 1000] (Value.bool true)] ++ rPass_p1 B p i dJ0⟩ := by kernel_rfl
set_option maxRecDepth 100000 in
theorem rPass_s4 (B : Lo) (p : ShPass) (i : Int) (dJ0 : Nat → Value) : endT (srunT Tryz.prog (okFn Tryz.prog) J0 B 14 1 (headC 21 58 (([1, 4] : List Nat).zip (rPass_v1 p i)) dJ0 rPass_t1) (headH (rPass_o1 p i)) (2 + (rPass_o1 p i).length)
 (rPass_q1 p i dJ0 ++ [(10, HintT.pure (Value.bool false) [])]) 0 [] []) [] = some (Value.bool false,
 [AllP [] ∧ PureC Tryz.prog J0 70 #[Value.agg (rPass_z0 p i), Value.int IntKind.i64 0, Value.int IntKind.i64 1000] (Value.bool false)] ++ rPass_p1 B p i dJ0) := by kernel_rfl
noncomputable def rPass_p2 (B : Lo) (p : ShPass) (i : Int) (dJ0 : Nat → Value) : List Prop := [ltq i (↑p.swell.length : Int) = false] ++ ([] : List Prop)
noncomputable def rPass_q2 (p : ShPass) (i : Int) (dJ0 : Nat → Value) : ScriptT := [(4, hvF)]
noncomputable def rPass_p3 (B : Lo) (p : ShPass) (i : Int) (dJ0 : Nat → Value) : List Prop := [AllP [] ∧ PureC Tryz.prog J0 69 #[Value.int IntKind.i64 (↑p.tides.length : Int), Value.int IntKind.i64 1, Value.int IntKind.i64 50] (Value.bool true)] ++ rPass_p2 B p i dJ0
noncomputable def rPass_q3 (p : ShPass) (i : Int) (dJ0 : Nat → Value) : ScriptT := rPass_q2 p i dJ0 ++ [(8, HintT.pure (Value.bool true) [])]
noncomputable def rPass_p4 (B : Lo) (p : ShPass) (i : Int) (dJ0 : Nat → Value) : List Prop := [AllP [] ∧ PureC Tryz.prog J0 69 #[Value.int IntKind.i64 p.depth, Value.int IntKind.i64 0, Value.int IntKind.i64 1000] (Value.bool true)] ++ rPass_p3 B p i dJ0
noncomputable def rPass_q4 (p : ShPass) (i : Int) (dJ0 : Nat → Value) : ScriptT := rPass_q3 p i dJ0 ++ [(12, HintT.pure (Value.bool true) [])]
noncomputable def rPass_p5 (B : Lo) (p : ShPass) (i : Int) (dJ0 : Nat → Value) : List Prop := [AllP [] ∧ PureC Tryz.prog J0 69 #[Value.int IntKind.i64 p.draft, Value.int IntKind.i64 0, Value.int IntKind.i64 1000] (Value.bool true)] ++ rPass_p4 B p i dJ0
noncomputable def rPass_q5 (p : ShPass) (i : Int) (dJ0 : Nat → Value) : ScriptT := rPass_q4 p i dJ0 ++ [(17, HintT.pure (Value.bool true) [])]
noncomputable def rPass_p6 (B : Lo) (p : ShPass) (i : Int) (dJ0 : Nat → Value) : List Prop := [AllP [] ∧ PureC Tryz.prog J0 69 #[Value.int IntKind.i64 (↑p.swell.length : Int), Value.int IntKind.i64 1, Value.int IntKind.i64 60] (Value.bool true)] ++ rPass_p5 B p i dJ0
noncomputable def rPass_q6 (p : ShPass) (i : Int) (dJ0 : Nat → Value) : ScriptT := rPass_q5 p i dJ0 ++ [(23, HintT.pure (Value.bool true) [])]
set_option maxRecDepth 100000 in
theorem rPass_s5 (B : Lo) (p : ShPass) (i : Int) (dJ0 : Nat → Value) : endT (srunT Tryz.prog (okFn Tryz.prog) J0 B 9 1 (headC 21 58 (([1, 4] : List Nat).zip (rPass_v1 p i)) dJ0 rPass_t1) (headH (rPass_o1 p i)) (2 + (rPass_o1 p i).length)
 (rPass_q6 p i dJ0 ++ [(28, HintT.pure (Value.bool true) [])]) 0 [] []) [] = some (Value.bool true,
 [AllP [] ∧ PureC Tryz.prog J0 70 #[Value.agg #[Value.int IntKind.i64 p.llo, Value.int IntKind.i64 p.lhi], Value.int IntKind.i64 0, Value.int IntKind.i64 23] (Value.bool true)] ++ rPass_p6 B p i dJ0) := by kernel_rfl
set_option maxRecDepth 100000 in
theorem rPass_s6 (B : Lo) (p : ShPass) (i : Int) (dJ0 : Nat → Value) : endT (srunT Tryz.prog (okFn Tryz.prog) J0 B 9 1 (headC 21 58 (([1, 4] : List Nat).zip (rPass_v1 p i)) dJ0 rPass_t1) (headH (rPass_o1 p i)) (2 + (rPass_o1 p i).length)
 (rPass_q6 p i dJ0 ++ [(28, HintT.pure (Value.bool false) [])]) 0 [] []) [] = some (Value.bool false,
 [AllP [] ∧ PureC Tryz.prog J0 70 #[Value.agg #[Value.int IntKind.i64 p.llo, Value.int IntKind.i64 p.lhi], Value.int IntKind.i64 0, Value.int IntKind.i64 23] (Value.bool false)] ++ rPass_p6 B p i dJ0) := by kernel_rfl
set_option maxRecDepth 100000 in
theorem rPass_s7 (B : Lo) (p : ShPass) (i : Int) (dJ0 : Nat → Value) : endT (srunT Tryz.prog (okFn Tryz.prog) J0 B 9 1 (headC 21 58 (([1, 4] : List Nat).zip (rPass_v1 p i)) dJ0 rPass_t1) (headH (rPass_o1 p i)) (2 + (rPass_o1 p i).length)
 (rPass_q5 p i dJ0 ++ [(23, HintT.pure (Value.bool false) [])]) 0 [] []) [] = some (Value.bool false,
 [AllP [] ∧ PureC Tryz.prog J0 69 #[Value.int IntKind.i64 (↑p.swell.length : Int), Value.int IntKind.i64 1, Value.int IntKind.i64 60] (Value.bool false)] ++ rPass_p5 B p i dJ0) := by kernel_rfl
set_option maxRecDepth 100000 in
theorem rPass_s8 (B : Lo) (p : ShPass) (i : Int) (dJ0 : Nat → Value) : endT (srunT Tryz.prog (okFn Tryz.prog) J0 B 9 1 (headC 21 58 (([1, 4] : List Nat).zip (rPass_v1 p i)) dJ0 rPass_t1) (headH (rPass_o1 p i)) (2 + (rPass_o1 p i).length)
 (rPass_q4 p i dJ0 ++ [(17, HintT.pure (Value.bool false) [])]) 0 [] []) [] = some (Value.bool false,
 [AllP [] ∧ PureC Tryz.prog J0 69 #[Value.int IntKind.i64 p.draft, Value.int IntKind.i64 0, Value.int IntKind.i64 1000] (Value.bool false)] ++ rPass_p4 B p i dJ0) := by kernel_rfl
set_option maxRecDepth 100000 in
theorem rPass_s9 (B : Lo) (p : ShPass) (i : Int) (dJ0 : Nat → Value) : endT (srunT Tryz.prog (okFn Tryz.prog) J0 B 9 1 (headC 21 58 (([1, 4] : List Nat).zip (rPass_v1 p i)) dJ0 rPass_t1) (headH (rPass_o1 p i)) (2 + (rPass_o1 p i).length)
 (rPass_q3 p i dJ0 ++ [(12, HintT.pure (Value.bool false) [])]) 0 [] []) [] = some (Value.bool false,
 [AllP [] ∧ PureC Tryz.prog J0 69 #[Value.int IntKind.i64 p.depth, Value.int IntKind.i64 0, Value.int IntKind.i64 1000] (Value.bool false)] ++ rPass_p3 B p i dJ0) := by kernel_rfl
set_option maxRecDepth 100000 in
theorem rPass_s10 (B : Lo) (p : ShPass) (i : Int) (dJ0 : Nat → Value) : endT (srunT Tryz.prog (okFn Tryz.prog) J0 B 9 1 (headC 21 58 (([1, 4] : List Nat).zip (rPass_v1 p i)) dJ0 rPass_t1) (headH (rPass_o1 p i)) (2 + (rPass_o1 p i).length)
 (rPass_q2 p i dJ0 ++ [(8, HintT.pure (Value.bool false) [])]) 0 [] []) [] = some (Value.bool false,
 [AllP [] ∧ PureC Tryz.prog J0 69 #[Value.int IntKind.i64 (↑p.tides.length : Int), Value.int IntKind.i64 1, Value.int IntKind.i64 50] (Value.bool false)] ++ rPass_p2 B p i dJ0) := by kernel_rfl
set_option maxRecDepth 100000 in
theorem rPass_s11 (B : Lo) (p : ShPass) : landM (srunT Tryz.prog (okFn Tryz.prog) J0 B 7 1 (entryC Tryz.prog 21 58 (([.agg (encPass p).toArray]).map (pushT 0 4))) H00 1
 [] 0 [] []) [1, 3] [(1, KS.auto)] [] = some ⟨21, 58, rPass_t0, [], .run, none, rPass_v0 p (0), rPass_o0 p (0),
 []⟩ := by kernel_rfl
set_option maxHeartbeats 4000000 in
theorem rPass_ls (p : ShPass)  (hfacts : p.tides.length ≤ 9223372036854775807 ∧ p.swell.length ≤ 9223372036854775807) {B : Lo} (hJ : ∀ w, B.has w → J0 w) {c0 : CF} : ∀ m : Nat, (∀ (i : Int), (p.tides.length - i.toNat) + p.swell.length + 1 = m → ∀ (h0 : 0 ≤ i), rPass_h0 B c0 p i → EndsT Tryz.prog B c0 (.bool ((p.tides.drop i.toNat).all (fun x => inB x (-1000) 1000) && passC p))) ∧ (∀ (i : Int), (p.swell.length - i.toNat) = m → ∀ (h0 : 0 ≤ i), rPass_h1 B c0 p i → EndsT Tryz.prog B c0 (.bool ((p.swell.drop i.toNat).all (fun s => spanB s.lo s.hi 0 1000) && passD p))) := by
 intro m0
 induction m0 using Nat.strongRecOn with
 | _ m0 ih0 =>
   refine ⟨?_, ?_⟩
   ·intro i hm0 h0 ⟨dJ0, hdJ0, hg0⟩
    by_cases q0 : (i : Int) < ((↑p.tides.length : Int))
    ·
     have hp0 : AllP (rPass_p0 B p i dJ0) := by
      exact ⟨⟨by omega, by omega, (rowL_extract (z := 1) (fun _ => rfl) (by omega))⟩, ⟨(ltq_t q0), trivial⟩⟩
     cases q1 : inB (List.getD p.tides i.toNat default) (-1000) 1000 with
     | true =>
       exact ((ih0 _ (by omega)).1 (i + 1) rfl (by first | with_reducible assumption | omega | (simp_all; done))
        (hg0.landM okF hJ mixed_ok (rPass_s0 B p i dJ0)
        ⟨(wq_in (by omega) (by omega)), ⟨⟨trivial, (by have t_ := rin (List.getD p.tides i.toNat default) (-1000) (1000); rw [q1] at t_; exact t_)⟩, hp0⟩⟩ (by kernel_rfl) (by kernel_rfl))).cast (by first | (rw [drop_all (i := i)]; (· simp_all [passC, passD]); (· omega); (· omega)) | (rw [drop_end (i := i)]; (· simp_all [passC, passD]); (· omega)))
     | false =>
       exact (GoE.endsT okF hJ mixed_ok hg0 (rPass_s1 B p i dJ0)
        ⟨⟨trivial, (by have t_ := rin (List.getD p.tides i.toNat default) (-1000) (1000); rw [q1] at t_; exact t_)⟩, hp0⟩).cast (by first | (rw [drop_all (i := i)]; (· simp_all [passC, passD]); (· omega); (· omega)) | (rw [drop_end (i := i)]; (· simp_all [passC, passD]); (· omega)))
    ·
     exact ((ih0 _ (by omega)).2 (0) rfl (by first | with_reducible assumption | omega | (simp_all; done))
      (hg0.landM okF hJ mixed_ok (rPass_s2 B p i dJ0)
      ⟨(ltq_f (Int.not_lt.1 q0)), trivial⟩ (by kernel_rfl) (by kernel_rfl))).cast (by first | (rw [drop_all (i := i)]; (· simp_all [passC, passD]); (· omega); (· omega)) | (rw [drop_end (i := i)]; (· simp_all [passC, passD]); (· omega)))
   ·intro i hm0 h0 ⟨dJ0, hdJ0, hg0⟩
    by_cases q0 : (i : Int) < ((↑p.swell.length : Int))
    ·
     have hp1 : AllP (rPass_p1 B p i dJ0) := by
      exact ⟨⟨by omega, by omega, (rowL_extract (z := 2) (fun _ => rfl) (by omega))⟩, ⟨(ltq_t q0), trivial⟩⟩
     cases q1 : spanB (Span.lo (List.getD p.swell i.toNat default)) (Span.hi (List.getD p.swell i.toNat default)) 0 1000 with
     | true =>
       exact ((ih0 _ (by omega)).2 (i + 1) rfl (by first | with_reducible assumption | omega | (simp_all; done))
        (hg0.landM okF hJ mixed_ok (rPass_s3 B p i dJ0)
        ⟨(wq_in (by omega) (by omega)), ⟨⟨trivial, (by have t_ := rSpan (Span.lo (List.getD p.swell i.toNat default)) (Span.hi (List.getD p.swell i.toNat default)) (0) (1000); rw [q1] at t_; exact t_)⟩, hp1⟩⟩ (by kernel_rfl) (by kernel_rfl))).cast (by first | (rw [drop_all (i := i)]; (· simp_all [passD]); (· omega); (· omega)) | (rw [drop_end (i := i)]; (· simp_all [passD]); (· omega)))
     | false =>
       exact (GoE.endsT okF hJ mixed_ok hg0 (rPass_s4 B p i dJ0)
        ⟨⟨trivial, (by have t_ := rSpan (Span.lo (List.getD p.swell i.toNat default)) (Span.hi (List.getD p.swell i.toNat default)) (0) (1000); rw [q1] at t_; exact t_)⟩, hp1⟩).cast (by first | (rw [drop_all (i := i)]; (· simp_all [passD]); (· omega); (· omega)) | (rw [drop_end (i := i)]; (· simp_all [passD]); (· omega)))
    ·
     have hp2 : AllP (rPass_p2 B p i dJ0) := by
      exact ⟨(ltq_f (Int.not_lt.1 q0)), trivial⟩
     cases q1 : inB (↑p.tides.length : Int) 1 50 with
     | true =>
       have hp3 : AllP (rPass_p3 B p i dJ0) := by
        exact ⟨⟨trivial, (by have t_ := rin ((↑p.tides.length : Int)) (1) (50); rw [q1] at t_; exact t_)⟩, hp2⟩
       cases q2 : inB p.depth 0 1000 with
       | true =>
         have hp4 : AllP (rPass_p4 B p i dJ0) := by
          exact ⟨⟨trivial, (by have t_ := rin p.depth (0) (1000); rw [q2] at t_; exact t_)⟩, hp3⟩
         cases q3 : inB p.draft 0 1000 with
         | true =>
           have hp5 : AllP (rPass_p5 B p i dJ0) := by
            exact ⟨⟨trivial, (by have t_ := rin p.draft (0) (1000); rw [q3] at t_; exact t_)⟩, hp4⟩
           cases q4 : inB (↑p.swell.length : Int) 1 60 with
           | true =>
             have hp6 : AllP (rPass_p6 B p i dJ0) := by
              exact ⟨⟨trivial, (by have t_ := rin ((↑p.swell.length : Int)) (1) (60); rw [q4] at t_; exact t_)⟩, hp5⟩
             cases q5 : spanB p.llo p.lhi 0 23 with
             | true =>
               exact (GoE.endsT okF hJ mixed_ok hg0 (rPass_s5 B p i dJ0)
                ⟨⟨trivial, (by have t_ := rSpan p.llo p.lhi (0) (23); rw [q5] at t_; exact t_)⟩, hp6⟩).cast (by first | (rw [drop_all (i := i)]; (· simp_all [passD]); (· omega); (· omega)) | (rw [drop_end (i := i)]; (· simp_all [passD]); (· omega)))
             | false =>
               exact (GoE.endsT okF hJ mixed_ok hg0 (rPass_s6 B p i dJ0)
                ⟨⟨trivial, (by have t_ := rSpan p.llo p.lhi (0) (23); rw [q5] at t_; exact t_)⟩, hp6⟩).cast (by first | (rw [drop_all (i := i)]; (· simp_all [passD]); (· omega); (· omega)) | (rw [drop_end (i := i)]; (· simp_all [passD]); (· omega)))
           | false =>
             exact (GoE.endsT okF hJ mixed_ok hg0 (rPass_s7 B p i dJ0)
              ⟨⟨trivial, (by have t_ := rin ((↑p.swell.length : Int)) (1) (60); rw [q4] at t_; exact t_)⟩, hp5⟩).cast (by first | (rw [drop_all (i := i)]; (· simp_all [passD]); (· omega); (· omega)) | (rw [drop_end (i := i)]; (· simp_all [passD]); (· omega)))
         | false =>
           exact (GoE.endsT okF hJ mixed_ok hg0 (rPass_s8 B p i dJ0)
            ⟨⟨trivial, (by have t_ := rin p.draft (0) (1000); rw [q3] at t_; exact t_)⟩, hp4⟩).cast (by first | (rw [drop_all (i := i)]; (· simp_all [passD]); (· omega); (· omega)) | (rw [drop_end (i := i)]; (· simp_all [passD]); (· omega)))
       | false =>
         exact (GoE.endsT okF hJ mixed_ok hg0 (rPass_s9 B p i dJ0)
          ⟨⟨trivial, (by have t_ := rin p.depth (0) (1000); rw [q2] at t_; exact t_)⟩, hp3⟩).cast (by first | (rw [drop_all (i := i)]; (· simp_all [passD]); (· omega); (· omega)) | (rw [drop_end (i := i)]; (· simp_all [passD]); (· omega)))
     | false =>
       exact (GoE.endsT okF hJ mixed_ok hg0 (rPass_s10 B p i dJ0)
        ⟨⟨trivial, (by have t_ := rin ((↑p.tides.length : Int)) (1) (50); rw [q1] at t_; exact t_)⟩, hp2⟩).cast (by first | (rw [drop_all (i := i)]; (· simp_all [passD]); (· omega); (· omega)) | (rw [drop_end (i := i)]; (· simp_all [passD]); (· omega)))
set_option maxHeartbeats 4000000 in
theorem rPass_e (p : ShPass)  (hfacts : p.tides.length ≤ 9223372036854775807 ∧ p.swell.length ≤ 9223372036854775807) {B : Lo} (hJ : ∀ w, B.has w → J0 w) : EndsT Tryz.prog B (entryC Tryz.prog 21 58 (([.agg (encPass p).toArray]).map (pushT 0 4))) (.bool (passB p)) := by
 exact ((rPass_ls p hfacts hJ _).1 (0) rfl (by first | with_reducible assumption | omega | (simp_all; done))
  (GoE.start.landM okF hJ mixed_ok (rPass_s11 B p)
  trivial (by kernel_rfl) (by kernel_rfl))).cast (by simp_all [passB])
theorem rPass (p : ShPass)  : PureC Tryz.prog J0 21 #[.agg (encPass p).toArray] (.bool (passB p)) :=
 pureC_ofF (ts := [.agg (encPass p).toArray]) (p.tides.length ≤ 9223372036854775807 ∧ p.swell.length ≤ 9223372036854775807) (fun _ _ ht => ⟨ht.ln2 (i := 0) (j := 0) rfl rfl, ht.ln2 (i := 0) (j := 3) rfl rfl⟩) J0_st (c0 := entryC Tryz.prog 21 58 (([.agg (encPass p).toArray]).map (pushT 0 4))) (by kernel_rfl) (by kernel_rfl) fun hfacts B hJ => rPass_e p  hfacts hJ
end Go.Proofs.YtiabgkiccaodmaaGreat

namespace Go.Proofs.YtiabgkiccaodmaaGreat
open Go Go.CE Go.RowKit
noncomputable def pIn_p0 (B : Lo) (n lo hi : Int) : List Prop := [(!ltq n lo) = true] ++ ([] : List Prop)
noncomputable def pIn_q0 (n lo hi : Int) : ScriptT := [(3, hvT)]
set_option maxRecDepth 100000 in
theorem pIn_s0 (B : Lo) (n lo hi : Int) : endT (srunT Tryz.prog (okFn Tryz.prog) J0 B 6 1 (entryC Tryz.prog 76 15 (([.int .i64 n, .int .i64 lo, .int .i64 hi]).map (pushT 0 4))) H00 1
 (pIn_q0 n lo hi ++ [(7, hvT)]) 0 [] []) [] = some (Value.bool true,
 [(!ltq hi n) = true] ++ pIn_p0 B n lo hi) := by kernel_rfl
set_option maxRecDepth 100000 in
theorem pIn_s1 (B : Lo) (n lo hi : Int) : endT (srunT Tryz.prog (okFn Tryz.prog) J0 B 6 1 (entryC Tryz.prog 76 15 (([.int .i64 n, .int .i64 lo, .int .i64 hi]).map (pushT 0 4))) H00 1
 (pIn_q0 n lo hi ++ [(7, hvF)]) 0 [] []) [] = some (Value.bool false,
 [(!ltq hi n) = false] ++ pIn_p0 B n lo hi) := by kernel_rfl
set_option maxRecDepth 100000 in
theorem pIn_s2 (B : Lo) (n lo hi : Int) : endT (srunT Tryz.prog (okFn Tryz.prog) J0 B 6 1 (entryC Tryz.prog 76 15 (([.int .i64 n, .int .i64 lo, .int .i64 hi]).map (pushT 0 4))) H00 1
 [(3, hvF)] 0 [] []) [] = some (Value.bool false,
 [(!ltq n lo) = false]) := by kernel_rfl
set_option maxHeartbeats 4000000 in
theorem pIn_e (n lo hi : Int)  {B : Lo} (hJ : ∀ w, B.has w → J0 w) : EndsT Tryz.prog B (entryC Tryz.prog 76 15 (([.int .i64 n, .int .i64 lo, .int .i64 hi]).map (pushT 0 4))) (.bool (inB n lo hi)) := by
 by_cases q0 : (lo : Int) ≤ (n)
 ·
  have hp0 : AllP (pIn_p0 B n lo hi) := by
   exact ⟨(nltq_t q0), trivial⟩
  by_cases q1 : (n : Int) ≤ (hi)
  ·
   exact (GoE.endsT okF hJ mixed_ok GoE.start (pIn_s0 B n lo hi)
    ⟨(nltq_t q1), hp0⟩).cast (by first | rfl | (simp [inB, *]; done) | (simp_all [inB]; done) | (simp_all [inB]; omega))
  ·
   exact (GoE.endsT okF hJ mixed_ok GoE.start (pIn_s1 B n lo hi)
    ⟨(nltq_f (Int.not_le.1 q1)), hp0⟩).cast (by first | rfl | (simp [inB, *]; done) | (simp_all [inB]; done) | (simp_all [inB]; omega))
 ·
  exact (GoE.endsT okF hJ mixed_ok GoE.start (pIn_s2 B n lo hi)
   ⟨(nltq_f (Int.not_le.1 q0)), trivial⟩).cast (by first | rfl | (simp [inB, *]; done) | (simp_all [inB]; done) | (simp_all [inB]; omega))
theorem pIn (n lo hi : Int)  : PureC Tryz.prog J0 76 #[.int .i64 n, .int .i64 lo, .int .i64 hi] (.bool (inB n lo hi)) :=
 pureC_of (ts := [.int .i64 n, .int .i64 lo, .int .i64 hi]) J0_st (c0 := entryC Tryz.prog 76 15 (([.int .i64 n, .int .i64 lo, .int .i64 hi]).map (pushT 0 4))) (by kernel_rfl) (by kernel_rfl) fun B hJ => pIn_e n lo hi  hJ
def pAllIn_v0 (xs : List Int) (lo hi : Int) (i : Int) : List Value := [Value.int IntKind.i64 lo, Value.int IntKind.i64 hi, topV 1 (slT xs.length (rowL encI xs)), Value.int IntKind.i64 (↑xs.length : Int), .int .i64 i]
def pAllIn_o0 (xs : List Int) (lo hi : Int) (i : Int) : List Obj := []
noncomputable def pAllIn_t0 : List Item := ([.code [1, 0, 1, 0, 0], .inLoop [1, 0, 1, 0, 0], .inBlock 0, .code [1, 1]]).map (it (bodyOf Tryz.prog 100))
def pAllIn_h0 (B : Lo) (c0 : CF) (xs : List Int) (lo hi : Int) (i : Int) : Prop := ∃ dJ : Nat → Value, (∀ t, Loose (dJ t)) ∧ GoE Tryz.prog B c0 H00 1 (headC 100 21 (([1, 2, 9, 10, 11] : List Nat).zip (pAllIn_v0 xs lo hi i)) dJ pAllIn_t0) (headH (pAllIn_o0 xs lo hi i)) (2 + (pAllIn_o0 xs lo hi i).length) []
noncomputable def pAllIn_p0 (B : Lo) (xs : List Int) (lo hi : Int) (i : Int) (dJ0 : Nat → Value) : List Prop := [i = (↑i.toNat : Int) ∧ Int.toNat i < List.length xs ∧ Array.extract (rowL encI xs) (Int.toNat i * TypeInfo.size Tryz.t3) (Int.toNat i * TypeInfo.size Tryz.t3 + TypeInfo.size Tryz.t3) = #[Value.int IntKind.i64 (List.getD xs i.toNat default)], ltq i (↑xs.length : Int) = true] ++ ([] : List Prop)
noncomputable def pAllIn_q0 (xs : List Int) (lo hi : Int) (i : Int) (dJ0 : Nat → Value) : ScriptT := [(0, hvT), (1, HintT.tidx i.toNat #[Value.int IntKind.i64 (List.getD xs i.toNat default)])]
set_option maxRecDepth 100000 in
theorem pAllIn_s0 (B : Lo) (xs : List Int) (lo hi : Int) (i : Int) (dJ0 : Nat → Value) : landM (srunT Tryz.prog (okFn Tryz.prog) J0 B 16 1 (headC 100 21 (([1, 2, 9, 10, 11] : List Nat).zip (pAllIn_v0 xs lo hi i)) dJ0 pAllIn_t0) (headH (pAllIn_o0 xs lo hi i)) (2 + (pAllIn_o0 xs lo hi i).length)
 (pAllIn_q0 xs lo hi i dJ0 ++ [(7, HintT.pure (Value.bool true) []), (9, hvI (i + 1))]) 0 [] []) [1, 2, 9, 10, 11] [] [] = some ⟨100, 21, pAllIn_t0, [], .run, none, pAllIn_v0 xs lo hi (i + 1), pAllIn_o0 xs lo hi (i + 1),
 [wq (i + 1) = i + 1, AllP [] ∧ PureC Tryz.prog J0 76 #[Value.int IntKind.i64 (List.getD xs i.toNat default), Value.int IntKind.i64 lo, Value.int IntKind.i64 hi] (Value.bool true)] ++ pAllIn_p0 B xs lo hi i dJ0⟩ := by kernel_rfl
set_option maxRecDepth 100000 in
theorem pAllIn_s1 (B : Lo) (xs : List Int) (lo hi : Int) (i : Int) (dJ0 : Nat → Value) : endT (srunT Tryz.prog (okFn Tryz.prog) J0 B 16 1 (headC 100 21 (([1, 2, 9, 10, 11] : List Nat).zip (pAllIn_v0 xs lo hi i)) dJ0 pAllIn_t0) (headH (pAllIn_o0 xs lo hi i)) (2 + (pAllIn_o0 xs lo hi i).length)
 (pAllIn_q0 xs lo hi i dJ0 ++ [(7, HintT.pure (Value.bool false) [])]) 0 [] []) [] = some (Value.bool false,
 [AllP [] ∧ PureC Tryz.prog J0 76 #[Value.int IntKind.i64 (List.getD xs i.toNat default), Value.int IntKind.i64 lo, Value.int IntKind.i64 hi] (Value.bool false)] ++ pAllIn_p0 B xs lo hi i dJ0) := by kernel_rfl
set_option maxRecDepth 100000 in
theorem pAllIn_s2 (B : Lo) (xs : List Int) (lo hi : Int) (i : Int) (dJ0 : Nat → Value) : endT (srunT Tryz.prog (okFn Tryz.prog) J0 B 9 1 (headC 100 21 (([1, 2, 9, 10, 11] : List Nat).zip (pAllIn_v0 xs lo hi i)) dJ0 pAllIn_t0) (headH (pAllIn_o0 xs lo hi i)) (2 + (pAllIn_o0 xs lo hi i).length)
 [(0, hvF)] 0 [] []) [] = some (Value.bool true,
 [ltq i (↑xs.length : Int) = false]) := by kernel_rfl
set_option maxRecDepth 100000 in
theorem pAllIn_s3 (B : Lo) (xs : List Int) (lo hi : Int) : landM (srunT Tryz.prog (okFn Tryz.prog) J0 B 7 1 (entryC Tryz.prog 100 21 (([slI xs, .int .i64 lo, .int .i64 hi]).map (pushT 0 4))) H00 1
 [] 0 [] []) [1, 2, 9, 10, 11] [] [] = some ⟨100, 21, pAllIn_t0, [], .run, none, pAllIn_v0 xs lo hi (0), pAllIn_o0 xs lo hi (0),
 []⟩ := by kernel_rfl
set_option maxHeartbeats 4000000 in
theorem pAllIn_ls (xs : List Int) (lo hi : Int)  (hfacts : xs.length ≤ 9223372036854775807) {B : Lo} (hJ : ∀ w, B.has w → J0 w) {c0 : CF} : ∀ m : Nat, (∀ (i : Int), xs.length - i.toNat = m → ∀ (h0 : 0 ≤ i), pAllIn_h0 B c0 xs lo hi i → EndsT Tryz.prog B c0 (.bool ((xs.drop i.toNat).all (fun x => inB x lo hi)))) := by
 intro m0
 induction m0 using Nat.strongRecOn with
 | _ m0 ih0 =>
   intro i hm0 h0 ⟨dJ0, hdJ0, hg0⟩
   by_cases q0 : (i : Int) < ((↑xs.length : Int))
   ·
    have hp0 : AllP (pAllIn_p0 B xs lo hi i dJ0) := by
     exact ⟨⟨by omega, by omega, (rowL_extract (z := 1) (fun _ => rfl) (by omega))⟩, ⟨(ltq_t q0), trivial⟩⟩
    cases q1 : inB (List.getD xs i.toNat default) lo hi with
    | true =>
      exact ((ih0 _ (by omega)) (i + 1) rfl (by first | with_reducible assumption | omega | (simp_all; done))
       (hg0.landM okF hJ mixed_ok (pAllIn_s0 B xs lo hi i dJ0)
       ⟨(wq_in (by omega) (by omega)), ⟨⟨trivial, (by have t_ := pIn (List.getD xs i.toNat default) (lo) (hi); rw [q1] at t_; exact t_)⟩, hp0⟩⟩ (by kernel_rfl) (by kernel_rfl))).cast (by first | (rw [drop_all (i := i)]; (· simp_all); (· omega); (· omega)) | (rw [drop_end (i := i)]; (· simp_all); (· omega)))
    | false =>
      exact (GoE.endsT okF hJ mixed_ok hg0 (pAllIn_s1 B xs lo hi i dJ0)
       ⟨⟨trivial, (by have t_ := pIn (List.getD xs i.toNat default) (lo) (hi); rw [q1] at t_; exact t_)⟩, hp0⟩).cast (by first | (rw [drop_all (i := i)]; (· simp_all); (· omega); (· omega)) | (rw [drop_end (i := i)]; (· simp_all); (· omega)))
   ·
    exact (GoE.endsT okF hJ mixed_ok hg0 (pAllIn_s2 B xs lo hi i dJ0)
     ⟨(ltq_f (Int.not_lt.1 q0)), trivial⟩).cast (by first | (rw [drop_all (i := i)]; (· simp_all); (· omega); (· omega)) | (rw [drop_end (i := i)]; (· simp_all); (· omega)))
set_option maxHeartbeats 4000000 in
theorem pAllIn_e (xs : List Int) (lo hi : Int)  (hfacts : xs.length ≤ 9223372036854775807) {B : Lo} (hJ : ∀ w, B.has w → J0 w) : EndsT Tryz.prog B (entryC Tryz.prog 100 21 (([slI xs, .int .i64 lo, .int .i64 hi]).map (pushT 0 4))) (.bool (xs.all (fun x => inB x lo hi))) := by
 exact ((pAllIn_ls xs lo hi hfacts hJ _) (0) rfl (by first | with_reducible assumption | omega | (simp_all; done))
  (GoE.start.landM okF hJ mixed_ok (pAllIn_s3 B xs lo hi)
  trivial (by kernel_rfl) (by kernel_rfl))).cast (by first | rfl | (simp [*]; done) | (simp_all []; done) | (simp_all []; omega))
theorem pAllIn (xs : List Int) (lo hi : Int)  : PureC Tryz.prog J0 100 #[slI xs, .int .i64 lo, .int .i64 hi] (.bool (xs.all (fun x => inB x lo hi))) :=
 pureC_ofF (ts := [slI xs, .int .i64 lo, .int .i64 hi]) (xs.length ≤ 9223372036854775807) (fun _ _ ht => ht.ln (i := 0) rfl) J0_st (c0 := entryC Tryz.prog 100 21 (([slI xs, .int .i64 lo, .int .i64 hi]).map (pushT 0 4))) (by kernel_rfl) (by kernel_rfl) fun hfacts B hJ => pAllIn_e xs lo hi  hfacts hJ
set_option maxRecDepth 100000 in
theorem pInSpan_s0 (B : Lo) (n a b : Int) : endT (srunT Tryz.prog (okFn Tryz.prog) J0 B 6 1 (entryC Tryz.prog 73 11 (([.int .i64 n, .agg #[.int .i64 a, .int .i64 b]]).map (pushT 0 4))) H00 1
 [(7, HintT.pure (Value.bool true) [])] 0 [] []) [] = some (Value.bool true,
 [AllP [] ∧ PureC Tryz.prog J0 76 #[Value.int IntKind.i64 n, Value.int IntKind.i64 a, Value.int IntKind.i64 b] (Value.bool true)]) := by kernel_rfl
set_option maxRecDepth 100000 in
theorem pInSpan_s1 (B : Lo) (n a b : Int) : endT (srunT Tryz.prog (okFn Tryz.prog) J0 B 6 1 (entryC Tryz.prog 73 11 (([.int .i64 n, .agg #[.int .i64 a, .int .i64 b]]).map (pushT 0 4))) H00 1
 [(7, HintT.pure (Value.bool false) [])] 0 [] []) [] = some (Value.bool false,
 [AllP [] ∧ PureC Tryz.prog J0 76 #[Value.int IntKind.i64 n, Value.int IntKind.i64 a, Value.int IntKind.i64 b] (Value.bool false)]) := by kernel_rfl
set_option maxHeartbeats 4000000 in
theorem pInSpan_e (n a b : Int)  {B : Lo} (hJ : ∀ w, B.has w → J0 w) : EndsT Tryz.prog B (entryC Tryz.prog 73 11 (([.int .i64 n, .agg #[.int .i64 a, .int .i64 b]]).map (pushT 0 4))) (.bool (inB n a b)) := by
 cases q0 : inB n a b with
 | true =>
   exact (GoE.endsT okF hJ mixed_ok GoE.start (pInSpan_s0 B n a b)
    ⟨⟨trivial, (by have t_ := pIn (n) (a) (b); rw [q0] at t_; exact t_)⟩, trivial⟩).cast (by first | rfl | (simp [*]; done) | (simp_all []; done) | (simp_all []; omega))
 | false =>
   exact (GoE.endsT okF hJ mixed_ok GoE.start (pInSpan_s1 B n a b)
    ⟨⟨trivial, (by have t_ := pIn (n) (a) (b); rw [q0] at t_; exact t_)⟩, trivial⟩).cast (by first | rfl | (simp [*]; done) | (simp_all []; done) | (simp_all []; omega))
theorem pInSpan (n a b : Int)  : PureC Tryz.prog J0 73 #[.int .i64 n, .agg #[.int .i64 a, .int .i64 b]] (.bool (inB n a b)) :=
 pureC_of (ts := [.int .i64 n, .agg #[.int .i64 a, .int .i64 b]]) J0_st (c0 := entryC Tryz.prog 73 11 (([.int .i64 n, .agg #[.int .i64 a, .int .i64 b]]).map (pushT 0 4))) (by kernel_rfl) (by kernel_rfl) fun B hJ => pInSpan_e n a b  hJ
noncomputable def pIsWithin_p0 (B : Lo) (a b lo hi : Int) : List Prop := [(!ltq a lo) = true] ++ ([] : List Prop)
noncomputable def pIsWithin_q0 (a b lo hi : Int) : ScriptT := [(5, hvT)]
noncomputable def pIsWithin_p1 (B : Lo) (a b lo hi : Int) : List Prop := [(!ltq b a) = true] ++ pIsWithin_p0 B a b lo hi
noncomputable def pIsWithin_q1 (a b lo hi : Int) : ScriptT := pIsWithin_q0 a b lo hi ++ [(11, hvT)]
set_option maxRecDepth 100000 in
theorem pIsWithin_s0 (B : Lo) (a b lo hi : Int) : endT (srunT Tryz.prog (okFn Tryz.prog) J0 B 6 1 (entryC Tryz.prog 109 24 (([.agg #[.int .i64 a, .int .i64 b], .int .i64 lo, .int .i64 hi]).map (pushT 0 4))) H00 1
 (pIsWithin_q1 a b lo hi ++ [(17, hvT)]) 0 [] []) [] = some (Value.bool true,
 [(!ltq hi b) = true] ++ pIsWithin_p1 B a b lo hi) := by kernel_rfl
set_option maxRecDepth 100000 in
theorem pIsWithin_s1 (B : Lo) (a b lo hi : Int) : endT (srunT Tryz.prog (okFn Tryz.prog) J0 B 6 1 (entryC Tryz.prog 109 24 (([.agg #[.int .i64 a, .int .i64 b], .int .i64 lo, .int .i64 hi]).map (pushT 0 4))) H00 1
 (pIsWithin_q1 a b lo hi ++ [(17, hvF)]) 0 [] []) [] = some (Value.bool false,
 [(!ltq hi b) = false] ++ pIsWithin_p1 B a b lo hi) := by kernel_rfl
set_option maxRecDepth 100000 in
theorem pIsWithin_s2 (B : Lo) (a b lo hi : Int) : endT (srunT Tryz.prog (okFn Tryz.prog) J0 B 6 1 (entryC Tryz.prog 109 24 (([.agg #[.int .i64 a, .int .i64 b], .int .i64 lo, .int .i64 hi]).map (pushT 0 4))) H00 1
 (pIsWithin_q0 a b lo hi ++ [(11, hvF)]) 0 [] []) [] = some (Value.bool false,
 [(!ltq b a) = false] ++ pIsWithin_p0 B a b lo hi) := by kernel_rfl
set_option maxRecDepth 100000 in
theorem pIsWithin_s3 (B : Lo) (a b lo hi : Int) : endT (srunT Tryz.prog (okFn Tryz.prog) J0 B 6 1 (entryC Tryz.prog 109 24 (([.agg #[.int .i64 a, .int .i64 b], .int .i64 lo, .int .i64 hi]).map (pushT 0 4))) H00 1
 [(5, hvF)] 0 [] []) [] = some (Value.bool false,
 [(!ltq a lo) = false]) := by kernel_rfl
set_option maxHeartbeats 4000000 in
theorem pIsWithin_e (a b lo hi : Int)  {B : Lo} (hJ : ∀ w, B.has w → J0 w) : EndsT Tryz.prog B (entryC Tryz.prog 109 24 (([.agg #[.int .i64 a, .int .i64 b], .int .i64 lo, .int .i64 hi]).map (pushT 0 4))) (.bool (spanB a b lo hi)) := by
 by_cases q0 : (lo : Int) ≤ (a)
 ·
  have hp0 : AllP (pIsWithin_p0 B a b lo hi) := by
   exact ⟨(nltq_t q0), trivial⟩
  by_cases q1 : (a : Int) ≤ (b)
  ·
   have hp1 : AllP (pIsWithin_p1 B a b lo hi) := by
    exact ⟨(nltq_t q1), hp0⟩
   by_cases q2 : (b : Int) ≤ (hi)
   ·
    exact (GoE.endsT okF hJ mixed_ok GoE.start (pIsWithin_s0 B a b lo hi)
     ⟨(nltq_t q2), hp1⟩).cast (by first | rfl | (simp [spanB, *]; done) | (simp_all [spanB]; done) | (simp_all [spanB]; omega))
   ·
    exact (GoE.endsT okF hJ mixed_ok GoE.start (pIsWithin_s1 B a b lo hi)
     ⟨(nltq_f (Int.not_le.1 q2)), hp1⟩).cast (by first | rfl | (simp [spanB, *]; done) | (simp_all [spanB]; done) | (simp_all [spanB]; omega))
  ·
   exact (GoE.endsT okF hJ mixed_ok GoE.start (pIsWithin_s2 B a b lo hi)
    ⟨(nltq_f (Int.not_le.1 q1)), hp0⟩).cast (by first | rfl | (simp [spanB, *]; done) | (simp_all [spanB]; done) | (simp_all [spanB]; omega))
 ·
  exact (GoE.endsT okF hJ mixed_ok GoE.start (pIsWithin_s3 B a b lo hi)
   ⟨(nltq_f (Int.not_le.1 q0)), trivial⟩).cast (by first | rfl | (simp [spanB, *]; done) | (simp_all [spanB]; done) | (simp_all [spanB]; omega))
theorem pIsWithin (a b lo hi : Int)  : PureC Tryz.prog J0 109 #[.agg #[.int .i64 a, .int .i64 b], .int .i64 lo, .int .i64 hi] (.bool (spanB a b lo hi)) :=
 pureC_of (ts := [.agg #[.int .i64 a, .int .i64 b], .int .i64 lo, .int .i64 hi]) J0_st (c0 := entryC Tryz.prog 109 24 (([.agg #[.int .i64 a, .int .i64 b], .int .i64 lo, .int .i64 hi]).map (pushT 0 4))) (by kernel_rfl) (by kernel_rfl) fun B hJ => pIsWithin_e a b lo hi  hJ
set_option maxRecDepth 100000 in
theorem pIsSpan_s0 (B : Lo) (a b most : Int) : endT (srunT Tryz.prog (okFn Tryz.prog) J0 B 6 1 (entryC Tryz.prog 102 8 (([.agg #[.int .i64 a, .int .i64 b], .int .i64 most]).map (pushT 0 4))) H00 1
 [(4, HintT.pure (Value.bool true) [])] 0 [] []) [] = some (Value.bool true,
 [AllP [] ∧ PureC Tryz.prog J0 109 #[Value.agg #[Value.int IntKind.i64 a, Value.int IntKind.i64 b], Value.int IntKind.i64 0, Value.int IntKind.i64 most] (Value.bool true)]) := by kernel_rfl
set_option maxRecDepth 100000 in
theorem pIsSpan_s1 (B : Lo) (a b most : Int) : endT (srunT Tryz.prog (okFn Tryz.prog) J0 B 6 1 (entryC Tryz.prog 102 8 (([.agg #[.int .i64 a, .int .i64 b], .int .i64 most]).map (pushT 0 4))) H00 1
 [(4, HintT.pure (Value.bool false) [])] 0 [] []) [] = some (Value.bool false,
 [AllP [] ∧ PureC Tryz.prog J0 109 #[Value.agg #[Value.int IntKind.i64 a, Value.int IntKind.i64 b], Value.int IntKind.i64 0, Value.int IntKind.i64 most] (Value.bool false)]) := by kernel_rfl
set_option maxHeartbeats 4000000 in
theorem pIsSpan_e (a b most : Int)  {B : Lo} (hJ : ∀ w, B.has w → J0 w) : EndsT Tryz.prog B (entryC Tryz.prog 102 8 (([.agg #[.int .i64 a, .int .i64 b], .int .i64 most]).map (pushT 0 4))) (.bool (spanB a b 0 most)) := by
 cases q0 : spanB a b 0 most with
 | true =>
   exact (GoE.endsT okF hJ mixed_ok GoE.start (pIsSpan_s0 B a b most)
    ⟨⟨trivial, (by have t_ := pIsWithin (a) (b) (0) (most); rw [q0] at t_; exact t_)⟩, trivial⟩).cast (by first | rfl | (simp [spanB, *]; done) | (simp_all [spanB]; done) | (simp_all [spanB]; omega))
 | false =>
   exact (GoE.endsT okF hJ mixed_ok GoE.start (pIsSpan_s1 B a b most)
    ⟨⟨trivial, (by have t_ := pIsWithin (a) (b) (0) (most); rw [q0] at t_; exact t_)⟩, trivial⟩).cast (by first | rfl | (simp [spanB, *]; done) | (simp_all [spanB]; done) | (simp_all [spanB]; omega))
theorem pIsSpan (a b most : Int)  : PureC Tryz.prog J0 102 #[.agg #[.int .i64 a, .int .i64 b], .int .i64 most] (.bool (spanB a b 0 most)) :=
 pureC_of (ts := [.agg #[.int .i64 a, .int .i64 b], .int .i64 most]) J0_st (c0 := entryC Tryz.prog 102 8 (([.agg #[.int .i64 a, .int .i64 b], .int .i64 most]).map (pushT 0 4))) (by kernel_rfl) (by kernel_rfl) fun B hJ => pIsSpan_e a b most  hJ
def pAreSpans_v0 (xs : List Span) (most : Int) (i : Int) : List Value := [Value.int IntKind.i64 most, topV 1 (slT xs.length (rowL encSp xs)), Value.int IntKind.i64 (↑xs.length : Int), .int .i64 i]
def pAreSpans_o0 (xs : List Span) (most : Int) (i : Int) : List Obj := []
noncomputable def pAreSpans_t0 : List Item := ([.code [1, 0, 1, 0, 0], .inLoop [1, 0, 1, 0, 0], .inBlock 0, .code [1, 1]]).map (it (bodyOf Tryz.prog 101))
def pAreSpans_h0 (B : Lo) (c0 : CF) (xs : List Span) (most : Int) (i : Int) : Prop := ∃ dJ : Nat → Value, (∀ t, Loose (dJ t)) ∧ GoE Tryz.prog B c0 H00 1 (headC 101 18 (([1, 7, 8, 9] : List Nat).zip (pAreSpans_v0 xs most i)) dJ pAreSpans_t0) (headH (pAreSpans_o0 xs most i)) (2 + (pAreSpans_o0 xs most i).length) []
noncomputable def pAreSpans_z0 (xs : List Span) (i : Int) : Array Value := #[Value.int IntKind.i64 (Span.lo (List.getD xs i.toNat default)), Value.int IntKind.i64 (Span.hi (List.getD xs i.toNat default))]
noncomputable def pAreSpans_p0 (B : Lo) (xs : List Span) (most : Int) (i : Int) (dJ0 : Nat → Value) : List Prop := [i = (↑i.toNat : Int) ∧ Int.toNat i < List.length xs ∧ Array.extract (rowL encSp xs) (Int.toNat i * TypeInfo.size Tryz.t25) (Int.toNat i * TypeInfo.size Tryz.t25 + TypeInfo.size Tryz.t25) = (pAreSpans_z0 xs i), ltq i (↑xs.length : Int) = true] ++ ([] : List Prop)
noncomputable def pAreSpans_q0 (xs : List Span) (most : Int) (i : Int) (dJ0 : Nat → Value) : ScriptT := [(0, hvT), (1, HintT.tidx i.toNat (pAreSpans_z0 xs i))]
set_option maxRecDepth 100000 in
theorem pAreSpans_s0 (B : Lo) (xs : List Span) (most : Int) (i : Int) (dJ0 : Nat → Value) : landM (srunT Tryz.prog (okFn Tryz.prog) J0 B 16 1 (headC 101 18 (([1, 7, 8, 9] : List Nat).zip (pAreSpans_v0 xs most i)) dJ0 pAreSpans_t0) (headH (pAreSpans_o0 xs most i)) (2 + (pAreSpans_o0 xs most i).length)
 (pAreSpans_q0 xs most i dJ0 ++ [(7, HintT.pure (Value.bool true) []), (9, hvI (i + 1))]) 0 [] []) [1, 7, 8, 9] [] [] = some ⟨101, 18, pAreSpans_t0, [], .run, none, pAreSpans_v0 xs most (i + 1), pAreSpans_o0 xs most (i + 1),
 [wq (i + 1) = i + 1, AllP [] ∧ PureC Tryz.prog J0 102 #[Value.agg (pAreSpans_z0 xs i), Value.int IntKind.i64 most] (Value.bool true)] ++ pAreSpans_p0 B xs most i dJ0⟩ := by kernel_rfl
set_option maxRecDepth 100000 in
theorem pAreSpans_s1 (B : Lo) (xs : List Span) (most : Int) (i : Int) (dJ0 : Nat → Value) : endT (srunT Tryz.prog (okFn Tryz.prog) J0 B 16 1 (headC 101 18 (([1, 7, 8, 9] : List Nat).zip (pAreSpans_v0 xs most i)) dJ0 pAreSpans_t0) (headH (pAreSpans_o0 xs most i)) (2 + (pAreSpans_o0 xs most i).length)
 (pAreSpans_q0 xs most i dJ0 ++ [(7, HintT.pure (Value.bool false) [])]) 0 [] []) [] = some (Value.bool false,
 [AllP [] ∧ PureC Tryz.prog J0 102 #[Value.agg (pAreSpans_z0 xs i), Value.int IntKind.i64 most] (Value.bool false)] ++ pAreSpans_p0 B xs most i dJ0) := by kernel_rfl
set_option maxRecDepth 100000 in
theorem pAreSpans_s2 (B : Lo) (xs : List Span) (most : Int) (i : Int) (dJ0 : Nat → Value) : endT (srunT Tryz.prog (okFn Tryz.prog) J0 B 9 1 (headC 101 18 (([1, 7, 8, 9] : List Nat).zip (pAreSpans_v0 xs most i)) dJ0 pAreSpans_t0) (headH (pAreSpans_o0 xs most i)) (2 + (pAreSpans_o0 xs most i).length)
 [(0, hvF)] 0 [] []) [] = some (Value.bool true,
 [ltq i (↑xs.length : Int) = false]) := by kernel_rfl
set_option maxRecDepth 100000 in
theorem pAreSpans_s3 (B : Lo) (xs : List Span) (most : Int) : landM (srunT Tryz.prog (okFn Tryz.prog) J0 B 7 1 (entryC Tryz.prog 101 18 (([slSp xs, .int .i64 most]).map (pushT 0 4))) H00 1
 [] 0 [] []) [1, 7, 8, 9] [] [] = some ⟨101, 18, pAreSpans_t0, [], .run, none, pAreSpans_v0 xs most (0), pAreSpans_o0 xs most (0),
 []⟩ := by kernel_rfl
set_option maxHeartbeats 4000000 in
theorem pAreSpans_ls (xs : List Span) (most : Int)  (hfacts : xs.length ≤ 9223372036854775807) {B : Lo} (hJ : ∀ w, B.has w → J0 w) {c0 : CF} : ∀ m : Nat, (∀ (i : Int), xs.length - i.toNat = m → ∀ (h0 : 0 ≤ i), pAreSpans_h0 B c0 xs most i → EndsT Tryz.prog B c0 (.bool ((xs.drop i.toNat).all (fun s => spanB s.lo s.hi 0 most)))) := by
 intro m0
 induction m0 using Nat.strongRecOn with
 | _ m0 ih0 =>
   intro i hm0 h0 ⟨dJ0, hdJ0, hg0⟩
   by_cases q0 : (i : Int) < ((↑xs.length : Int))
   ·
    have hp0 : AllP (pAreSpans_p0 B xs most i dJ0) := by
     exact ⟨⟨by omega, by omega, (rowL_extract (z := 2) (fun _ => rfl) (by omega))⟩, ⟨(ltq_t q0), trivial⟩⟩
    cases q1 : spanB (Span.lo (List.getD xs i.toNat default)) (Span.hi (List.getD xs i.toNat default)) 0 most with
    | true =>
      exact ((ih0 _ (by omega)) (i + 1) rfl (by first | with_reducible assumption | omega | (simp_all; done))
       (hg0.landM okF hJ mixed_ok (pAreSpans_s0 B xs most i dJ0)
       ⟨(wq_in (by omega) (by omega)), ⟨⟨trivial, (by have t_ := pIsSpan (Span.lo (List.getD xs i.toNat default)) (Span.hi (List.getD xs i.toNat default)) (most); rw [q1] at t_; exact t_)⟩, hp0⟩⟩ (by kernel_rfl) (by kernel_rfl))).cast (by first | (rw [drop_all (i := i)]; (· simp_all); (· omega); (· omega)) | (rw [drop_end (i := i)]; (· simp_all); (· omega)))
    | false =>
      exact (GoE.endsT okF hJ mixed_ok hg0 (pAreSpans_s1 B xs most i dJ0)
       ⟨⟨trivial, (by have t_ := pIsSpan (Span.lo (List.getD xs i.toNat default)) (Span.hi (List.getD xs i.toNat default)) (most); rw [q1] at t_; exact t_)⟩, hp0⟩).cast (by first | (rw [drop_all (i := i)]; (· simp_all); (· omega); (· omega)) | (rw [drop_end (i := i)]; (· simp_all); (· omega)))
   ·
    exact (GoE.endsT okF hJ mixed_ok hg0 (pAreSpans_s2 B xs most i dJ0)
     ⟨(ltq_f (Int.not_lt.1 q0)), trivial⟩).cast (by first | (rw [drop_all (i := i)]; (· simp_all); (· omega); (· omega)) | (rw [drop_end (i := i)]; (· simp_all); (· omega)))
set_option maxHeartbeats 4000000 in
theorem pAreSpans_e (xs : List Span) (most : Int)  (hfacts : xs.length ≤ 9223372036854775807) {B : Lo} (hJ : ∀ w, B.has w → J0 w) : EndsT Tryz.prog B (entryC Tryz.prog 101 18 (([slSp xs, .int .i64 most]).map (pushT 0 4))) (.bool (xs.all (fun s => spanB s.lo s.hi 0 most))) := by
 exact ((pAreSpans_ls xs most hfacts hJ _) (0) rfl (by first | with_reducible assumption | omega | (simp_all; done))
  (GoE.start.landM okF hJ mixed_ok (pAreSpans_s3 B xs most)
  trivial (by kernel_rfl) (by kernel_rfl))).cast (by first | rfl | (simp [*]; done) | (simp_all []; done) | (simp_all []; omega))
theorem pAreSpans (xs : List Span) (most : Int)  : PureC Tryz.prog J0 101 #[slSp xs, .int .i64 most] (.bool (xs.all (fun s => spanB s.lo s.hi 0 most))) :=
 pureC_ofF (ts := [slSp xs, .int .i64 most]) (xs.length ≤ 9223372036854775807) (fun _ _ ht => ht.ln (i := 0) rfl) J0_st (c0 := entryC Tryz.prog 101 18 (([slSp xs, .int .i64 most]).map (pushT 0 4))) (by kernel_rfl) (by kernel_rfl) fun hfacts B hJ => pAreSpans_e xs most  hfacts hJ
noncomputable def pisPass_p0 (B : Lo) (p : ShPass) : List Prop := [AllP [] ∧ PureC Tryz.prog J0 76 #[Value.int IntKind.i64 (↑p.tides.length : Int), Value.int IntKind.i64 1, Value.int IntKind.i64 50] (Value.bool true)] ++ ([] : List Prop)
noncomputable def pisPass_q0 (p : ShPass) : ScriptT := [(5, HintT.pure (Value.bool true) [])]
noncomputable def pisPass_p1 (B : Lo) (p : ShPass) : List Prop := [AllP [] ∧ PureC Tryz.prog J0 100 #[slT p.tides.length (rowL encI p.tides), Value.int IntKind.i64 (-1000), Value.int IntKind.i64 1000] (Value.bool true)] ++ pisPass_p0 B p
noncomputable def pisPass_q1 (p : ShPass) : ScriptT := pisPass_q0 p ++ [(9, HintT.pure (Value.bool true) [])]
noncomputable def pisPass_p2 (B : Lo) (p : ShPass) : List Prop := [AllP [] ∧ PureC Tryz.prog J0 76 #[Value.int IntKind.i64 p.depth, Value.int IntKind.i64 0, Value.int IntKind.i64 1000] (Value.bool true)] ++ pisPass_p1 B p
noncomputable def pisPass_q2 (p : ShPass) : ScriptT := pisPass_q1 p ++ [(14, HintT.pure (Value.bool true) [])]
noncomputable def pisPass_p3 (B : Lo) (p : ShPass) : List Prop := [AllP [] ∧ PureC Tryz.prog J0 76 #[Value.int IntKind.i64 p.draft, Value.int IntKind.i64 0, Value.int IntKind.i64 1000] (Value.bool true)] ++ pisPass_p2 B p
noncomputable def pisPass_q3 (p : ShPass) : ScriptT := pisPass_q2 p ++ [(19, HintT.pure (Value.bool true) [])]
noncomputable def pisPass_p4 (B : Lo) (p : ShPass) : List Prop := [AllP [] ∧ PureC Tryz.prog J0 76 #[Value.int IntKind.i64 (↑p.swell.length : Int), Value.int IntKind.i64 1, Value.int IntKind.i64 60] (Value.bool true)] ++ pisPass_p3 B p
noncomputable def pisPass_q4 (p : ShPass) : ScriptT := pisPass_q3 p ++ [(25, HintT.pure (Value.bool true) [])]
noncomputable def pisPass_p5 (B : Lo) (p : ShPass) : List Prop := [AllP [] ∧ PureC Tryz.prog J0 101 #[slT p.swell.length (rowL encSp p.swell), Value.int IntKind.i64 1000] (Value.bool true)] ++ pisPass_p4 B p
noncomputable def pisPass_q5 (p : ShPass) : ScriptT := pisPass_q4 p ++ [(30, HintT.pure (Value.bool true) [])]
set_option maxRecDepth 100000 in
theorem pisPass_s0 (B : Lo) (p : ShPass) : endT (srunT Tryz.prog (okFn Tryz.prog) J0 B 6 1 (entryC Tryz.prog 60 38 (([.agg (encPass p).toArray]).map (pushT 0 4))) H00 1
 (pisPass_q5 p ++ [(35, HintT.pure (Value.bool true) [])]) 0 [] []) [] = some (Value.bool true,
 [AllP [] ∧ PureC Tryz.prog J0 102 #[Value.agg #[Value.int IntKind.i64 p.llo, Value.int IntKind.i64 p.lhi], Value.int IntKind.i64 23] (Value.bool true)] ++ pisPass_p5 B p) := by kernel_rfl
set_option maxRecDepth 100000 in
theorem pisPass_s1 (B : Lo) (p : ShPass) : endT (srunT Tryz.prog (okFn Tryz.prog) J0 B 6 1 (entryC Tryz.prog 60 38 (([.agg (encPass p).toArray]).map (pushT 0 4))) H00 1
 (pisPass_q5 p ++ [(35, HintT.pure (Value.bool false) [])]) 0 [] []) [] = some (Value.bool false,
 [AllP [] ∧ PureC Tryz.prog J0 102 #[Value.agg #[Value.int IntKind.i64 p.llo, Value.int IntKind.i64 p.lhi], Value.int IntKind.i64 23] (Value.bool false)] ++ pisPass_p5 B p) := by kernel_rfl
set_option maxRecDepth 100000 in
theorem pisPass_s2 (B : Lo) (p : ShPass) : endT (srunT Tryz.prog (okFn Tryz.prog) J0 B 6 1 (entryC Tryz.prog 60 38 (([.agg (encPass p).toArray]).map (pushT 0 4))) H00 1
 (pisPass_q4 p ++ [(30, HintT.pure (Value.bool false) [])]) 0 [] []) [] = some (Value.bool false,
 [AllP [] ∧ PureC Tryz.prog J0 101 #[slT p.swell.length (rowL encSp p.swell), Value.int IntKind.i64 1000] (Value.bool false)] ++ pisPass_p4 B p) := by kernel_rfl
set_option maxRecDepth 100000 in
theorem pisPass_s3 (B : Lo) (p : ShPass) : endT (srunT Tryz.prog (okFn Tryz.prog) J0 B 6 1 (entryC Tryz.prog 60 38 (([.agg (encPass p).toArray]).map (pushT 0 4))) H00 1
 (pisPass_q3 p ++ [(25, HintT.pure (Value.bool false) [])]) 0 [] []) [] = some (Value.bool false,
 [AllP [] ∧ PureC Tryz.prog J0 76 #[Value.int IntKind.i64 (↑p.swell.length : Int), Value.int IntKind.i64 1, Value.int IntKind.i64 60] (Value.bool false)] ++ pisPass_p3 B p) := by kernel_rfl
set_option maxRecDepth 100000 in
theorem pisPass_s4 (B : Lo) (p : ShPass) : endT (srunT Tryz.prog (okFn Tryz.prog) J0 B 6 1 (entryC Tryz.prog 60 38 (([.agg (encPass p).toArray]).map (pushT 0 4))) H00 1
 (pisPass_q2 p ++ [(19, HintT.pure (Value.bool false) [])]) 0 [] []) [] = some (Value.bool false,
 [AllP [] ∧ PureC Tryz.prog J0 76 #[Value.int IntKind.i64 p.draft, Value.int IntKind.i64 0, Value.int IntKind.i64 1000] (Value.bool false)] ++ pisPass_p2 B p) := by kernel_rfl
set_option maxRecDepth 100000 in
theorem pisPass_s5 (B : Lo) (p : ShPass) : endT (srunT Tryz.prog (okFn Tryz.prog) J0 B 6 1 (entryC Tryz.prog 60 38 (([.agg (encPass p).toArray]).map (pushT 0 4))) H00 1
 (pisPass_q1 p ++ [(14, HintT.pure (Value.bool false) [])]) 0 [] []) [] = some (Value.bool false,
 [AllP [] ∧ PureC Tryz.prog J0 76 #[Value.int IntKind.i64 p.depth, Value.int IntKind.i64 0, Value.int IntKind.i64 1000] (Value.bool false)] ++ pisPass_p1 B p) := by kernel_rfl
set_option maxRecDepth 100000 in
theorem pisPass_s6 (B : Lo) (p : ShPass) : endT (srunT Tryz.prog (okFn Tryz.prog) J0 B 6 1 (entryC Tryz.prog 60 38 (([.agg (encPass p).toArray]).map (pushT 0 4))) H00 1
 (pisPass_q0 p ++ [(9, HintT.pure (Value.bool false) [])]) 0 [] []) [] = some (Value.bool false,
 [AllP [] ∧ PureC Tryz.prog J0 100 #[slT p.tides.length (rowL encI p.tides), Value.int IntKind.i64 (-1000), Value.int IntKind.i64 1000] (Value.bool false)] ++ pisPass_p0 B p) := by kernel_rfl
set_option maxRecDepth 100000 in
theorem pisPass_s7 (B : Lo) (p : ShPass) : endT (srunT Tryz.prog (okFn Tryz.prog) J0 B 6 1 (entryC Tryz.prog 60 38 (([.agg (encPass p).toArray]).map (pushT 0 4))) H00 1
 [(5, HintT.pure (Value.bool false) [])] 0 [] []) [] = some (Value.bool false,
 [AllP [] ∧ PureC Tryz.prog J0 76 #[Value.int IntKind.i64 (↑p.tides.length : Int), Value.int IntKind.i64 1, Value.int IntKind.i64 50] (Value.bool false)]) := by kernel_rfl
set_option maxHeartbeats 4000000 in
theorem pisPass_e (p : ShPass)  {B : Lo} (hJ : ∀ w, B.has w → J0 w) : EndsT Tryz.prog B (entryC Tryz.prog 60 38 (([.agg (encPass p).toArray]).map (pushT 0 4))) (.bool (passB p)) := by
 cases q0 : inB (↑p.tides.length : Int) 1 50 with
 | true =>
   have hp0 : AllP (pisPass_p0 B p) := by
    exact ⟨⟨trivial, (by have t_ := pIn ((↑p.tides.length : Int)) (1) (50); rw [q0] at t_; exact t_)⟩, trivial⟩
   cases q1 : List.all p.tides fun x => inB x (-1000) 1000 with
   | true =>
     have hp1 : AllP (pisPass_p1 B p) := by
      exact ⟨⟨trivial, (by have t_ := pAllIn p.tides (-1000) (1000); rw [q1] at t_; exact t_)⟩, hp0⟩
     cases q2 : inB p.depth 0 1000 with
     | true =>
       have hp2 : AllP (pisPass_p2 B p) := by
        exact ⟨⟨trivial, (by have t_ := pIn p.depth (0) (1000); rw [q2] at t_; exact t_)⟩, hp1⟩
       cases q3 : inB p.draft 0 1000 with
       | true =>
         have hp3 : AllP (pisPass_p3 B p) := by
          exact ⟨⟨trivial, (by have t_ := pIn p.draft (0) (1000); rw [q3] at t_; exact t_)⟩, hp2⟩
         cases q4 : inB (↑p.swell.length : Int) 1 60 with
         | true =>
           have hp4 : AllP (pisPass_p4 B p) := by
            exact ⟨⟨trivial, (by have t_ := pIn ((↑p.swell.length : Int)) (1) (60); rw [q4] at t_; exact t_)⟩, hp3⟩
           cases q5 : List.all p.swell fun s => spanB s.lo s.hi 0 1000 with
           | true =>
             have hp5 : AllP (pisPass_p5 B p) := by
              exact ⟨⟨trivial, (by have t_ := pAreSpans p.swell (1000); rw [q5] at t_; exact t_)⟩, hp4⟩
             cases q6 : spanB p.llo p.lhi 0 23 with
             | true =>
               exact (GoE.endsT okF hJ mixed_ok GoE.start (pisPass_s0 B p)
                ⟨⟨trivial, (by have t_ := pIsSpan p.llo p.lhi (23); rw [q6] at t_; exact t_)⟩, hp5⟩).cast (by first | rfl | (simp [passB, passC, passD, *]; done) | (simp_all [passB, passC, passD]; done) | (simp_all [passB, passC, passD]; omega))
             | false =>
               exact (GoE.endsT okF hJ mixed_ok GoE.start (pisPass_s1 B p)
                ⟨⟨trivial, (by have t_ := pIsSpan p.llo p.lhi (23); rw [q6] at t_; exact t_)⟩, hp5⟩).cast (by first | rfl | (simp [passB, passC, passD, *]; done) | (simp_all [passB, passC, passD]; done) | (simp_all [passB, passC, passD]; omega))
           | false =>
             exact (GoE.endsT okF hJ mixed_ok GoE.start (pisPass_s2 B p)
              ⟨⟨trivial, (by have t_ := pAreSpans p.swell (1000); rw [q5] at t_; exact t_)⟩, hp4⟩).cast (by first | rfl | (simp [passB, passC, passD, *]; done) | (simp_all [passB, passC, passD]; done) | (simp_all [passB, passC, passD]; omega))
         | false =>
           exact (GoE.endsT okF hJ mixed_ok GoE.start (pisPass_s3 B p)
            ⟨⟨trivial, (by have t_ := pIn ((↑p.swell.length : Int)) (1) (60); rw [q4] at t_; exact t_)⟩, hp3⟩).cast (by first | rfl | (simp [passB, passC, passD, *]; done) | (simp_all [passB, passC, passD]; done) | (simp_all [passB, passC, passD]; omega))
       | false =>
         exact (GoE.endsT okF hJ mixed_ok GoE.start (pisPass_s4 B p)
          ⟨⟨trivial, (by have t_ := pIn p.draft (0) (1000); rw [q3] at t_; exact t_)⟩, hp2⟩).cast (by first | rfl | (simp [passB, passC, passD, *]; done) | (simp_all [passB, passC, passD]; done) | (simp_all [passB, passC, passD]; omega))
     | false =>
       exact (GoE.endsT okF hJ mixed_ok GoE.start (pisPass_s5 B p)
        ⟨⟨trivial, (by have t_ := pIn p.depth (0) (1000); rw [q2] at t_; exact t_)⟩, hp1⟩).cast (by first | rfl | (simp [passB, passC, passD, *]; done) | (simp_all [passB, passC, passD]; done) | (simp_all [passB, passC, passD]; omega))
   | false =>
     exact (GoE.endsT okF hJ mixed_ok GoE.start (pisPass_s6 B p)
      ⟨⟨trivial, (by have t_ := pAllIn p.tides (-1000) (1000); rw [q1] at t_; exact t_)⟩, hp0⟩).cast (by first | rfl | (simp [passB, passC, passD, *]; done) | (simp_all [passB, passC, passD]; done) | (simp_all [passB, passC, passD]; omega))
 | false =>
   exact (GoE.endsT okF hJ mixed_ok GoE.start (pisPass_s7 B p)
    ⟨⟨trivial, (by have t_ := pIn ((↑p.tides.length : Int)) (1) (50); rw [q0] at t_; exact t_)⟩, trivial⟩).cast (by first | rfl | (simp [passB, passC, passD, *]; done) | (simp_all [passB, passC, passD]; done) | (simp_all [passB, passC, passD]; omega))
theorem pisPass (p : ShPass)  : PureC Tryz.prog J0 60 #[.agg (encPass p).toArray] (.bool (passB p)) :=
 pureC_of (ts := [.agg (encPass p).toArray]) J0_st (c0 := entryC Tryz.prog 60 38 (([.agg (encPass p).toArray]).map (pushT 0 4))) (by kernel_rfl) (by kernel_rfl) fun B hJ => pisPass_e p  hJ
noncomputable def pisDay_p0 (B : Lo) (p : ShPass) (day : Int) : List Prop := [wq ((↑p.swell.length : Int) - 1) = (↑p.swell.length : Int) - 1] ++ ([] : List Prop)
noncomputable def pisDay_q0 (p : ShPass) (day : Int) : ScriptT := [(6, hvI ((↑p.swell.length : Int) - 1))]
set_option maxRecDepth 100000 in
theorem pisDay_s0 (B : Lo) (p : ShPass) (day : Int) : endT (srunT Tryz.prog (okFn Tryz.prog) J0 B 6 1 (entryC Tryz.prog 61 11 (([.agg (encPass p).toArray, .int .i64 day]).map (pushT 0 4))) H00 1
 (pisDay_q0 p day ++ [(7, HintT.pure (Value.bool true) [])]) 0 [] []) [] = some (Value.bool true,
 [AllP [] ∧ PureC Tryz.prog J0 76 #[Value.int IntKind.i64 day, Value.int IntKind.i64 0, Value.int IntKind.i64 ((↑p.swell.length : Int) - 1)] (Value.bool true)] ++ pisDay_p0 B p day) := by kernel_rfl
set_option maxRecDepth 100000 in
theorem pisDay_s1 (B : Lo) (p : ShPass) (day : Int) : endT (srunT Tryz.prog (okFn Tryz.prog) J0 B 6 1 (entryC Tryz.prog 61 11 (([.agg (encPass p).toArray, .int .i64 day]).map (pushT 0 4))) H00 1
 (pisDay_q0 p day ++ [(7, HintT.pure (Value.bool false) [])]) 0 [] []) [] = some (Value.bool false,
 [AllP [] ∧ PureC Tryz.prog J0 76 #[Value.int IntKind.i64 day, Value.int IntKind.i64 0, Value.int IntKind.i64 ((↑p.swell.length : Int) - 1)] (Value.bool false)] ++ pisDay_p0 B p day) := by kernel_rfl
set_option maxHeartbeats 4000000 in
theorem pisDay_e (p : ShPass) (day : Int)  (hfacts : p.swell.length ≤ 9223372036854775807) {B : Lo} (hJ : ∀ w, B.has w → J0 w) : EndsT Tryz.prog B (entryC Tryz.prog 61 11 (([.agg (encPass p).toArray, .int .i64 day]).map (pushT 0 4))) (.bool (inB day 0 (p.swell.length - 1))) := by
 have hp0 : AllP (pisDay_p0 B p day) := by
  exact ⟨(wq_in (by omega) (by omega)), trivial⟩
 cases q0 : inB day 0 ((↑p.swell.length : Int) - 1) with
 | true =>
   exact (GoE.endsT okF hJ mixed_ok GoE.start (pisDay_s0 B p day)
    ⟨⟨trivial, (by have t_ := pIn (day) (0) ((↑p.swell.length : Int) - 1); rw [q0] at t_; exact t_)⟩, hp0⟩).cast (by first | rfl | (simp [*]; done) | (simp_all []; done) | (simp_all []; omega))
 | false =>
   exact (GoE.endsT okF hJ mixed_ok GoE.start (pisDay_s1 B p day)
    ⟨⟨trivial, (by have t_ := pIn (day) (0) ((↑p.swell.length : Int) - 1); rw [q0] at t_; exact t_)⟩, hp0⟩).cast (by first | rfl | (simp [*]; done) | (simp_all []; done) | (simp_all []; omega))
theorem pisDay (p : ShPass) (day : Int)  : PureC Tryz.prog J0 61 #[.agg (encPass p).toArray, .int .i64 day] (.bool (inB day 0 (p.swell.length - 1))) :=
 pureC_ofF (ts := [.agg (encPass p).toArray, .int .i64 day]) (p.swell.length ≤ 9223372036854775807) (fun _ _ ht => ht.ln2 (i := 0) (j := 3) rfl rfl) J0_st (c0 := entryC Tryz.prog 61 11 (([.agg (encPass p).toArray, .int .i64 day]).map (pushT 0 4))) (by kernel_rfl) (by kernel_rfl) fun hfacts B hJ => pisDay_e p day  hfacts hJ
noncomputable def pisCall_p0 (B : Lo) (p : ShPass) (d h : Int) : List Prop := [AllP [] ∧ PureC Tryz.prog J0 61 #[Value.agg #[slT p.tides.length (rowL encI p.tides), Value.int IntKind.i64 p.depth, Value.int IntKind.i64 p.draft, slT p.swell.length (rowL encSp p.swell), Value.int IntKind.i64 p.llo, Value.int IntKind.i64 p.lhi], Value.int IntKind.i64 d] (Value.bool true)] ++ ([] : List Prop)
noncomputable def pisCall_q0 (p : ShPass) (d h : Int) : ScriptT := [(6, HintT.pure (Value.bool true) [])]
set_option maxRecDepth 100000 in
theorem pisCall_s0 (B : Lo) (p : ShPass) (d h : Int) : endT (srunT Tryz.prog (okFn Tryz.prog) J0 B 6 1 (entryC Tryz.prog 65 14 (([.agg (encPass p).toArray, .agg #[.int .i64 d, .int .i64 h]]).map (pushT 0 4))) H00 1
 (pisCall_q0 p d h ++ [(10, HintT.pure (Value.bool true) [])]) 0 [] []) [] = some (Value.bool true,
 [AllP [] ∧ PureC Tryz.prog J0 76 #[Value.int IntKind.i64 h, Value.int IntKind.i64 0, Value.int IntKind.i64 23] (Value.bool true)] ++ pisCall_p0 B p d h) := by kernel_rfl
set_option maxRecDepth 100000 in
theorem pisCall_s1 (B : Lo) (p : ShPass) (d h : Int) : endT (srunT Tryz.prog (okFn Tryz.prog) J0 B 6 1 (entryC Tryz.prog 65 14 (([.agg (encPass p).toArray, .agg #[.int .i64 d, .int .i64 h]]).map (pushT 0 4))) H00 1
 (pisCall_q0 p d h ++ [(10, HintT.pure (Value.bool false) [])]) 0 [] []) [] = some (Value.bool false,
 [AllP [] ∧ PureC Tryz.prog J0 76 #[Value.int IntKind.i64 h, Value.int IntKind.i64 0, Value.int IntKind.i64 23] (Value.bool false)] ++ pisCall_p0 B p d h) := by kernel_rfl
set_option maxRecDepth 100000 in
theorem pisCall_s2 (B : Lo) (p : ShPass) (d h : Int) : endT (srunT Tryz.prog (okFn Tryz.prog) J0 B 6 1 (entryC Tryz.prog 65 14 (([.agg (encPass p).toArray, .agg #[.int .i64 d, .int .i64 h]]).map (pushT 0 4))) H00 1
 [(6, HintT.pure (Value.bool false) [])] 0 [] []) [] = some (Value.bool false,
 [AllP [] ∧ PureC Tryz.prog J0 61 #[Value.agg #[slT p.tides.length (rowL encI p.tides), Value.int IntKind.i64 p.depth, Value.int IntKind.i64 p.draft, slT p.swell.length (rowL encSp p.swell), Value.int IntKind.i64 p.llo, Value.int IntKind.i64 p.lhi], Value.int IntKind.i64 d] (Value.bool false)]) := by kernel_rfl
set_option maxHeartbeats 4000000 in
theorem pisCall_e (p : ShPass) (d h : Int)  {B : Lo} (hJ : ∀ w, B.has w → J0 w) : EndsT Tryz.prog B (entryC Tryz.prog 65 14 (([.agg (encPass p).toArray, .agg #[.int .i64 d, .int .i64 h]]).map (pushT 0 4))) (.bool (inB d 0 (p.swell.length - 1) && inB h 0 23)) := by
 cases q0 : inB d 0 ((↑p.swell.length : Int) - 1) with
 | true =>
   have hp0 : AllP (pisCall_p0 B p d h) := by
    exact ⟨⟨trivial, (by have t_ := pisDay (p) (d); rw [q0] at t_; exact t_)⟩, trivial⟩
   cases q1 : inB h 0 23 with
   | true =>
     exact (GoE.endsT okF hJ mixed_ok GoE.start (pisCall_s0 B p d h)
      ⟨⟨trivial, (by have t_ := pIn (h) (0) (23); rw [q1] at t_; exact t_)⟩, hp0⟩).cast (by first | rfl | (simp [*]; done) | (simp_all []; done) | (simp_all []; omega))
   | false =>
     exact (GoE.endsT okF hJ mixed_ok GoE.start (pisCall_s1 B p d h)
      ⟨⟨trivial, (by have t_ := pIn (h) (0) (23); rw [q1] at t_; exact t_)⟩, hp0⟩).cast (by first | rfl | (simp [*]; done) | (simp_all []; done) | (simp_all []; omega))
 | false =>
   exact (GoE.endsT okF hJ mixed_ok GoE.start (pisCall_s2 B p d h)
    ⟨⟨trivial, (by have t_ := pisDay (p) (d); rw [q0] at t_; exact t_)⟩, trivial⟩).cast (by first | rfl | (simp [*]; done) | (simp_all []; done) | (simp_all []; omega))
theorem pisCall (p : ShPass) (d h : Int)  : PureC Tryz.prog J0 65 #[.agg (encPass p).toArray, .agg #[.int .i64 d, .int .i64 h]] (.bool (inB d 0 (p.swell.length - 1) && inB h 0 23)) :=
 pureC_of (ts := [.agg (encPass p).toArray, .agg #[.int .i64 d, .int .i64 h]]) J0_st (c0 := entryC Tryz.prog 65 14 (([.agg (encPass p).toArray, .agg #[.int .i64 d, .int .i64 h]]).map (pushT 0 4))) (by kernel_rfl) (by kernel_rfl) fun B hJ => pisCall_e p d h  hJ
noncomputable def rDay_p0 (B : Lo) (p : ShPass) (day : Int) : List Prop := [wq ((↑p.swell.length : Int) - 1) = (↑p.swell.length : Int) - 1] ++ ([] : List Prop)
noncomputable def rDay_q0 (p : ShPass) (day : Int) : ScriptT := [(6, hvI ((↑p.swell.length : Int) - 1))]
set_option maxRecDepth 100000 in
theorem rDay_s0 (B : Lo) (p : ShPass) (day : Int) : endT (srunT Tryz.prog (okFn Tryz.prog) J0 B 6 1 (entryC Tryz.prog 22 11 (([.agg (encPass p).toArray, .int .i64 day]).map (pushT 0 4))) H00 1
 (rDay_q0 p day ++ [(7, HintT.pure (Value.bool true) [])]) 0 [] []) [] = some (Value.bool true,
 [AllP [] ∧ PureC Tryz.prog J0 69 #[Value.int IntKind.i64 day, Value.int IntKind.i64 0, Value.int IntKind.i64 ((↑p.swell.length : Int) - 1)] (Value.bool true)] ++ rDay_p0 B p day) := by kernel_rfl
set_option maxRecDepth 100000 in
theorem rDay_s1 (B : Lo) (p : ShPass) (day : Int) : endT (srunT Tryz.prog (okFn Tryz.prog) J0 B 6 1 (entryC Tryz.prog 22 11 (([.agg (encPass p).toArray, .int .i64 day]).map (pushT 0 4))) H00 1
 (rDay_q0 p day ++ [(7, HintT.pure (Value.bool false) [])]) 0 [] []) [] = some (Value.bool false,
 [AllP [] ∧ PureC Tryz.prog J0 69 #[Value.int IntKind.i64 day, Value.int IntKind.i64 0, Value.int IntKind.i64 ((↑p.swell.length : Int) - 1)] (Value.bool false)] ++ rDay_p0 B p day) := by kernel_rfl
set_option maxHeartbeats 4000000 in
theorem rDay_e (p : ShPass) (day : Int)  (hfacts : p.swell.length ≤ 9223372036854775807) {B : Lo} (hJ : ∀ w, B.has w → J0 w) : EndsT Tryz.prog B (entryC Tryz.prog 22 11 (([.agg (encPass p).toArray, .int .i64 day]).map (pushT 0 4))) (.bool (inB day 0 (p.swell.length - 1))) := by
 have hp0 : AllP (rDay_p0 B p day) := by
  exact ⟨(wq_in (by omega) (by omega)), trivial⟩
 cases q0 : inB day 0 ((↑p.swell.length : Int) - 1) with
 | true =>
   exact (GoE.endsT okF hJ mixed_ok GoE.start (rDay_s0 B p day)
    ⟨⟨trivial, (by have t_ := rin (day) (0) ((↑p.swell.length : Int) - 1); rw [q0] at t_; exact t_)⟩, hp0⟩).cast (by first | rfl | (simp [*]; done) | (simp_all []; done) | (simp_all []; omega))
 | false =>
   exact (GoE.endsT okF hJ mixed_ok GoE.start (rDay_s1 B p day)
    ⟨⟨trivial, (by have t_ := rin (day) (0) ((↑p.swell.length : Int) - 1); rw [q0] at t_; exact t_)⟩, hp0⟩).cast (by first | rfl | (simp [*]; done) | (simp_all []; done) | (simp_all []; omega))
theorem rDay (p : ShPass) (day : Int)  : PureC Tryz.prog J0 22 #[.agg (encPass p).toArray, .int .i64 day] (.bool (inB day 0 (p.swell.length - 1))) :=
 pureC_ofF (ts := [.agg (encPass p).toArray, .int .i64 day]) (p.swell.length ≤ 9223372036854775807) (fun _ _ ht => ht.ln2 (i := 0) (j := 3) rfl rfl) J0_st (c0 := entryC Tryz.prog 22 11 (([.agg (encPass p).toArray, .int .i64 day]).map (pushT 0 4))) (by kernel_rfl) (by kernel_rfl) fun hfacts B hJ => rDay_e p day  hfacts hJ
noncomputable def rCall_p0 (B : Lo) (p : ShPass) (d h : Int) : List Prop := [AllP [] ∧ PureC Tryz.prog J0 22 #[Value.agg #[slT p.tides.length (rowL encI p.tides), Value.int IntKind.i64 p.depth, Value.int IntKind.i64 p.draft, slT p.swell.length (rowL encSp p.swell), Value.int IntKind.i64 p.llo, Value.int IntKind.i64 p.lhi], Value.int IntKind.i64 d] (Value.bool true)] ++ ([] : List Prop)
noncomputable def rCall_q0 (p : ShPass) (d h : Int) : ScriptT := [(6, HintT.pure (Value.bool true) [])]
set_option maxRecDepth 100000 in
theorem rCall_s0 (B : Lo) (p : ShPass) (d h : Int) : endT (srunT Tryz.prog (okFn Tryz.prog) J0 B 6 1 (entryC Tryz.prog 25 14 (([.agg (encPass p).toArray, .agg #[.int .i64 d, .int .i64 h]]).map (pushT 0 4))) H00 1
 (rCall_q0 p d h ++ [(10, HintT.pure (Value.bool true) [])]) 0 [] []) [] = some (Value.bool true,
 [AllP [] ∧ PureC Tryz.prog J0 69 #[Value.int IntKind.i64 h, Value.int IntKind.i64 0, Value.int IntKind.i64 23] (Value.bool true)] ++ rCall_p0 B p d h) := by kernel_rfl
set_option maxRecDepth 100000 in
theorem rCall_s1 (B : Lo) (p : ShPass) (d h : Int) : endT (srunT Tryz.prog (okFn Tryz.prog) J0 B 6 1 (entryC Tryz.prog 25 14 (([.agg (encPass p).toArray, .agg #[.int .i64 d, .int .i64 h]]).map (pushT 0 4))) H00 1
 (rCall_q0 p d h ++ [(10, HintT.pure (Value.bool false) [])]) 0 [] []) [] = some (Value.bool false,
 [AllP [] ∧ PureC Tryz.prog J0 69 #[Value.int IntKind.i64 h, Value.int IntKind.i64 0, Value.int IntKind.i64 23] (Value.bool false)] ++ rCall_p0 B p d h) := by kernel_rfl
set_option maxRecDepth 100000 in
theorem rCall_s2 (B : Lo) (p : ShPass) (d h : Int) : endT (srunT Tryz.prog (okFn Tryz.prog) J0 B 6 1 (entryC Tryz.prog 25 14 (([.agg (encPass p).toArray, .agg #[.int .i64 d, .int .i64 h]]).map (pushT 0 4))) H00 1
 [(6, HintT.pure (Value.bool false) [])] 0 [] []) [] = some (Value.bool false,
 [AllP [] ∧ PureC Tryz.prog J0 22 #[Value.agg #[slT p.tides.length (rowL encI p.tides), Value.int IntKind.i64 p.depth, Value.int IntKind.i64 p.draft, slT p.swell.length (rowL encSp p.swell), Value.int IntKind.i64 p.llo, Value.int IntKind.i64 p.lhi], Value.int IntKind.i64 d] (Value.bool false)]) := by kernel_rfl
set_option maxHeartbeats 4000000 in
theorem rCall_e (p : ShPass) (d h : Int)  {B : Lo} (hJ : ∀ w, B.has w → J0 w) : EndsT Tryz.prog B (entryC Tryz.prog 25 14 (([.agg (encPass p).toArray, .agg #[.int .i64 d, .int .i64 h]]).map (pushT 0 4))) (.bool (inB d 0 (p.swell.length - 1) && inB h 0 23)) := by
 cases q0 : inB d 0 ((↑p.swell.length : Int) - 1) with
 | true =>
   have hp0 : AllP (rCall_p0 B p d h) := by
    exact ⟨⟨trivial, (by have t_ := rDay (p) (d); rw [q0] at t_; exact t_)⟩, trivial⟩
   cases q1 : inB h 0 23 with
   | true =>
     exact (GoE.endsT okF hJ mixed_ok GoE.start (rCall_s0 B p d h)
      ⟨⟨trivial, (by have t_ := rin (h) (0) (23); rw [q1] at t_; exact t_)⟩, hp0⟩).cast (by first | rfl | (simp [*]; done) | (simp_all []; done) | (simp_all []; omega))
   | false =>
     exact (GoE.endsT okF hJ mixed_ok GoE.start (rCall_s1 B p d h)
      ⟨⟨trivial, (by have t_ := rin (h) (0) (23); rw [q1] at t_; exact t_)⟩, hp0⟩).cast (by first | rfl | (simp [*]; done) | (simp_all []; done) | (simp_all []; omega))
 | false =>
   exact (GoE.endsT okF hJ mixed_ok GoE.start (rCall_s2 B p d h)
    ⟨⟨trivial, (by have t_ := rDay (p) (d); rw [q0] at t_; exact t_)⟩, trivial⟩).cast (by first | rfl | (simp [*]; done) | (simp_all []; done) | (simp_all []; omega))
theorem rCall (p : ShPass) (d h : Int)  : PureC Tryz.prog J0 25 #[.agg (encPass p).toArray, .agg #[.int .i64 d, .int .i64 h]] (.bool (inB d 0 (p.swell.length - 1) && inB h 0 23)) :=
 pureC_of (ts := [.agg (encPass p).toArray, .agg #[.int .i64 d, .int .i64 h]]) J0_st (c0 := entryC Tryz.prog 25 14 (([.agg (encPass p).toArray, .agg #[.int .i64 d, .int .i64 h]]).map (pushT 0 4))) (by kernel_rfl) (by kernel_rfl) fun B hJ => rCall_e p d h  hJ
noncomputable def lpass_p0 (B : Lo) (p : ShPass) : List Prop := [(!ltq 60 (↑p.tides.length : Int)) = true] ++ ([] : List Prop)
noncomputable def lpass_q0 (p : ShPass) : ScriptT := [(5, hvT)]
set_option maxRecDepth 100000 in
theorem lpass_s0 (B : Lo) (p : ShPass) : endT (srunT Tryz.prog (okFn Tryz.prog) J0 B 6 1 (entryC Tryz.prog 16 13 (([.agg (encPass p).toArray]).map (pushT 0 4))) H00 1
 (lpass_q0 p ++ [(10, hvT)]) 0 [] []) [] = some (Value.bool true,
 [(!ltq 70 (↑p.swell.length : Int)) = true] ++ lpass_p0 B p) := by kernel_rfl
set_option maxRecDepth 100000 in
theorem lpass_s1 (B : Lo) (p : ShPass) : endT (srunT Tryz.prog (okFn Tryz.prog) J0 B 6 1 (entryC Tryz.prog 16 13 (([.agg (encPass p).toArray]).map (pushT 0 4))) H00 1
 (lpass_q0 p ++ [(10, hvF)]) 0 [] []) [] = some (Value.bool false,
 [(!ltq 70 (↑p.swell.length : Int)) = false] ++ lpass_p0 B p) := by kernel_rfl
set_option maxRecDepth 100000 in
theorem lpass_s2 (B : Lo) (p : ShPass) : endT (srunT Tryz.prog (okFn Tryz.prog) J0 B 6 1 (entryC Tryz.prog 16 13 (([.agg (encPass p).toArray]).map (pushT 0 4))) H00 1
 [(5, hvF)] 0 [] []) [] = some (Value.bool false,
 [(!ltq 60 (↑p.tides.length : Int)) = false]) := by kernel_rfl
set_option maxHeartbeats 4000000 in
theorem lpass_e (p : ShPass)  {B : Lo} (hJ : ∀ w, B.has w → J0 w) : EndsT Tryz.prog B (entryC Tryz.prog 16 13 (([.agg (encPass p).toArray]).map (pushT 0 4))) (.bool (decide (p.tides.length ≤ 60) && decide (p.swell.length ≤ 70))) := by
 by_cases q0 : ((↑p.tides.length : Int) : Int) ≤ (60)
 ·
  have hp0 : AllP (lpass_p0 B p) := by
   exact ⟨(nltq_t q0), trivial⟩
  by_cases q1 : ((↑p.swell.length : Int) : Int) ≤ (70)
  ·
   exact (GoE.endsT okF hJ mixed_ok GoE.start (lpass_s0 B p)
    ⟨(nltq_t q1), hp0⟩).cast (by first | rfl | (simp [*]; done) | (simp_all []; done) | (simp_all []; omega))
  ·
   exact (GoE.endsT okF hJ mixed_ok GoE.start (lpass_s1 B p)
    ⟨(nltq_f (Int.not_le.1 q1)), hp0⟩).cast (by first | rfl | (simp [*]; done) | (simp_all []; done) | (simp_all []; omega))
 ·
  exact (GoE.endsT okF hJ mixed_ok GoE.start (lpass_s2 B p)
   ⟨(nltq_f (Int.not_le.1 q0)), trivial⟩).cast (by first | rfl | (simp [*]; done) | (simp_all []; done) | (simp_all []; omega))
theorem lpass (p : ShPass)  : PureC Tryz.prog J0 16 #[.agg (encPass p).toArray] (.bool (decide (p.tides.length ≤ 60) && decide (p.swell.length ≤ 70))) :=
 pureC_of (ts := [.agg (encPass p).toArray]) J0_st (c0 := entryC Tryz.prog 16 13 (([.agg (encPass p).toArray]).map (pushT 0 4))) (by kernel_rfl) (by kernel_rfl) fun B hJ => lpass_e p  hJ
end Go.Proofs.YtiabgkiccaodmaaGreat

namespace Go.Proofs.YtiabgkiccaodmaaGreat
open Go Go.CE Go.RowKit
theorem inB_iff {x lo hi : Int} : inB x lo hi = true ↔ lo ≤ x ∧ x ≤ hi := by simp [inB]
theorem notIn {x lo hi : Int} (q : inB x lo hi = false) : ¬ (lo ≤ x ∧ x ≤ hi) := fun h => by rw [inB_iff.2 h] at q; cases q
theorem spanB_iff {a b lo hi : Int} : spanB a b lo hi = true ↔ lo ≤ a ∧ a ≤ b ∧ b ≤ hi := by simp [spanB]
theorem pass_facts {p : ShPass} (h : passB p = true) : (1 ≤ p.tides.length ∧ p.tides.length ≤ 50) ∧ (0 ≤ p.depth ∧ p.depth ≤ 1000) ∧ (0 ≤ p.draft ∧ p.draft ≤ 1000) ∧ (1 ≤ p.swell.length ∧ p.swell.length ≤ 60) ∧ 0 ≤ p.llo ∧ p.llo ≤ p.lhi ∧ p.lhi ≤ 23 := by
 simp only [passB, passC, passD, Bool.and_eq_true, inB_iff, spanB_iff] at h
 omega
theorem tide_in {p : ShPass} (h : passB p = true) {k : Nat} (hk : k < p.tides.length) : -1000 ≤ p.tides.getD k default ∧ p.tides.getD k default ≤ 1000 := by
 simp only [passB, Bool.and_eq_true, List.all_eq_true] at h
 have := h.1 _ (List.getElem_mem hk)
 simp only [inB_iff] at this
 simpa [hk] using this
theorem swell_in {p : ShPass} (h : passB p = true) {k : Nat} (hk : k < p.swell.length) : 0 ≤ (p.swell.getD k default).lo ∧ (p.swell.getD k default).lo ≤ (p.swell.getD k default).hi ∧ (p.swell.getD k default).hi ≤ 1000 := by
 simp only [passB, passC, Bool.and_eq_true, List.all_eq_true] at h
 have := h.2.1 _ (List.getElem_mem hk)
 simp only [spanB_iff] at this
 simpa [hk] using this
def tideK (p : ShPass) (d h : Int) : Nat := (Int.tmod (d * 24 + h) p.tides.length).toNat
theorem tideK_lt {p : ShPass} (hp : passB p = true) {d h : Int} (hd : 0 ≤ d) (hh : 0 ≤ h) : 0 ≤ Int.tmod (d * 24 + h) p.tides.length ∧ Int.tmod (d * 24 + h) p.tides.length < p.tides.length ∧ tideK p d h < p.tides.length := by
 have := pass_facts hp
 have h1 : 0 ≤ Int.tmod (d * 24 + h) p.tides.length := Int.tmod_nonneg _ (by omega)
 have h2 : Int.tmod (d * 24 + h) p.tides.length < p.tides.length := Int.tmod_lt_of_pos _ (by omega)
 refine ⟨h1, h2, ?_⟩
 unfold tideK
 omega
def goesB (p : ShPass) (d h s : Int) : Bool := inB h p.llo p.lhi && decide (p.draft ≤ p.depth + p.tides.getD (tideK p d h) default - s)
def swellOf (p : ShPass) (d : Int) (surely : Bool) : Int := bif surely then (p.swell.getD d.toNat default).hi else (p.swell.getD d.toNat default).lo
def hoursL (p : ShPass) (d : Int) (surely : Bool) (h : Int) : List Int := (upI h 24).filter fun h => goesB p d h (swellOf p d surely)
theorem hoursL_cons {p : ShPass} {d h : Int} {s : Bool} (hl : h < 24) : hoursL p d s h = if goesB p d h (swellOf p d s) = true then h :: hoursL p d s (h + 1) else hoursL p d s (h + 1) := by
 unfold hoursL
 rw [upI_cons hl, List.filter_cons]
theorem hoursL_nil {p : ShPass} {d h : Int} {s : Bool} (hl : 24 ≤ h) : hoursL p d s h = [] := by
 unfold hoursL
 rw [upI_nil hl]; rfl
end Go.Proofs.YtiabgkiccaodmaaGreat

namespace Go.Proofs.YtiabgkiccaodmaaGreat
open Go Go.CE Go.RowKit
def rHas_v0 (xs : List Int) (x : Int) (i : Int) : List Value := [topV 1 (slT xs.length (rowL encI xs)), Value.int IntKind.i64 x, .int .i64 i]
def rHas_o0 (xs : List Int) (x : Int) (i : Int) : List Obj := []
noncomputable def rHas_t0 : List Item := ([.code [1, 0, 1, 0, 0], .inLoop [1, 0, 1, 0, 0], .inBlock 0, .code [1, 1]]).map (it (bodyOf Tryz.prog 28))
def rHas_h0 (B : Lo) (c0 : CF) (xs : List Int) (x : Int) (i : Int) : Prop := ∃ dJ : Nat → Value, (∀ t, Loose (dJ t)) ∧ GoE Tryz.prog B c0 H00 1 (headC 28 18 (([0, 1, 5] : List Nat).zip (rHas_v0 xs x i)) dJ rHas_t0) (headH (rHas_o0 xs x i)) (2 + (rHas_o0 xs x i).length) []
noncomputable def rHas_p0 (B : Lo) (xs : List Int) (x : Int) (i : Int) (dJ0 : Nat → Value) : List Prop := [i = (↑i.toNat : Int) ∧ Int.toNat i < List.length xs ∧ Array.extract (rowL encI xs) (Int.toNat i * TypeInfo.size Tryz.t3) (Int.toNat i * TypeInfo.size Tryz.t3 + TypeInfo.size Tryz.t3) = #[Value.int IntKind.i64 (List.getD xs i.toNat default)], ltq i (↑xs.length : Int) = true] ++ ([] : List Prop)
noncomputable def rHas_q0 (xs : List Int) (x : Int) (i : Int) (dJ0 : Nat → Value) : ScriptT := [(3, hvT), (6, HintT.tidx i.toNat #[Value.int IntKind.i64 (List.getD xs i.toNat default)])]
set_option maxRecDepth 100000 in
theorem rHas_s0 (B : Lo) (xs : List Int) (x : Int) (i : Int) (dJ0 : Nat → Value) : endT (srunT Tryz.prog (okFn Tryz.prog) J0 B 14 1 (headC 28 18 (([0, 1, 5] : List Nat).zip (rHas_v0 xs x i)) dJ0 rHas_t0) (headH (rHas_o0 xs x i)) (2 + (rHas_o0 xs x i).length)
 (rHas_q0 xs x i dJ0 ++ [(9, hvT)]) 0 [] []) [] = some (Value.bool true,
 [eqq (List.getD xs i.toNat default) x = true] ++ rHas_p0 B xs x i dJ0) := by kernel_rfl
set_option maxRecDepth 100000 in
theorem rHas_s1 (B : Lo) (xs : List Int) (x : Int) (i : Int) (dJ0 : Nat → Value) : landM (srunT Tryz.prog (okFn Tryz.prog) J0 B 14 1 (headC 28 18 (([0, 1, 5] : List Nat).zip (rHas_v0 xs x i)) dJ0 rHas_t0) (headH (rHas_o0 xs x i)) (2 + (rHas_o0 xs x i).length)
 (rHas_q0 xs x i dJ0 ++ [(9, hvF), (11, hvI (i + 1))]) 0 [] []) [0, 1, 5] [] [] = some ⟨28, 18, rHas_t0, [], .run, none, rHas_v0 xs x (i + 1), rHas_o0 xs x (i + 1),
 [wq (i + 1) = i + 1, eqq (List.getD xs i.toNat default) x = false] ++ rHas_p0 B xs x i dJ0⟩ := by kernel_rfl
set_option maxRecDepth 100000 in
theorem rHas_s2 (B : Lo) (xs : List Int) (x : Int) (i : Int) (dJ0 : Nat → Value) : endT (srunT Tryz.prog (okFn Tryz.prog) J0 B 9 1 (headC 28 18 (([0, 1, 5] : List Nat).zip (rHas_v0 xs x i)) dJ0 rHas_t0) (headH (rHas_o0 xs x i)) (2 + (rHas_o0 xs x i).length)
 [(3, hvF)] 0 [] []) [] = some (Value.bool false,
 [ltq i (↑xs.length : Int) = false]) := by kernel_rfl
set_option maxRecDepth 100000 in
theorem rHas_s3 (B : Lo) (xs : List Int) (x : Int) : landM (srunT Tryz.prog (okFn Tryz.prog) J0 B 7 1 (entryC Tryz.prog 28 18 (([slI xs, .int .i64 x]).map (pushT 0 4))) H00 1
 [] 0 [] []) [0, 1, 5] [] [] = some ⟨28, 18, rHas_t0, [], .run, none, rHas_v0 xs x (0), rHas_o0 xs x (0),
 []⟩ := by kernel_rfl
set_option maxHeartbeats 4000000 in
theorem rHas_ls (xs : List Int) (x : Int)  (hfacts : xs.length ≤ 9223372036854775807) {B : Lo} (hJ : ∀ w, B.has w → J0 w) {c0 : CF} : ∀ m : Nat, (∀ (i : Int), xs.length - i.toNat = m → ∀ (h0 : 0 ≤ i), rHas_h0 B c0 xs x i → EndsT Tryz.prog B c0 (.bool ((xs.drop i.toNat).any (fun y => decide (y = x))))) := by
 intro m0
 induction m0 using Nat.strongRecOn with
 | _ m0 ih0 =>
   intro i hm0 h0 ⟨dJ0, hdJ0, hg0⟩
   by_cases q0 : (i : Int) < ((↑xs.length : Int))
   ·
    have hp0 : AllP (rHas_p0 B xs x i dJ0) := by
     exact ⟨⟨by omega, by omega, (rowL_extract (z := 1) (fun _ => rfl) (by omega))⟩, ⟨(ltq_t q0), trivial⟩⟩
    by_cases q1 : (List.getD xs i.toNat default : Int) = (x)
    ·
     exact (GoE.endsT okF hJ mixed_ok hg0 (rHas_s0 B xs x i dJ0)
      ⟨(eqq_t q1), hp0⟩).cast (by first | (rw [drop_any (i := i) (by omega) (by omega)]; simp_all; done) | (rw [drop_end (i := i) (by omega)]; simp; done))
    ·
     exact ((ih0 _ (by omega)) (i + 1) rfl (by first | with_reducible assumption | omega | (simp_all; done))
      (hg0.landM okF hJ mixed_ok (rHas_s1 B xs x i dJ0)
      ⟨(wq_in (by omega) (by omega)), ⟨(eqq_f q1), hp0⟩⟩ (by kernel_rfl) (by kernel_rfl))).cast (by first | (rw [drop_any (i := i) (by omega) (by omega)]; simp_all; done) | (rw [drop_end (i := i) (by omega)]; simp; done))
   ·
    exact (GoE.endsT okF hJ mixed_ok hg0 (rHas_s2 B xs x i dJ0)
     ⟨(ltq_f (Int.not_lt.1 q0)), trivial⟩).cast (by first | (rw [drop_any (i := i) (by omega) (by omega)]; simp_all; done) | (rw [drop_end (i := i) (by omega)]; simp; done))
set_option maxHeartbeats 4000000 in
theorem rHas_e (xs : List Int) (x : Int)  (hfacts : xs.length ≤ 9223372036854775807) {B : Lo} (hJ : ∀ w, B.has w → J0 w) : EndsT Tryz.prog B (entryC Tryz.prog 28 18 (([slI xs, .int .i64 x]).map (pushT 0 4))) (.bool (xs.any (fun y => decide (y = x)))) := by
 exact ((rHas_ls xs x hfacts hJ _) (0) rfl (by first | with_reducible assumption | omega | (simp_all; done))
  (GoE.start.landM okF hJ mixed_ok (rHas_s3 B xs x)
  trivial (by kernel_rfl) (by kernel_rfl))).cast (by first | rfl | (simp [*]; done) | (simp_all []; done) | (simp_all []; omega))
theorem rHas (xs : List Int) (x : Int)  : PureC Tryz.prog J0 28 #[slI xs, .int .i64 x] (.bool (xs.any (fun y => decide (y = x)))) :=
 pureC_ofF (ts := [slI xs, .int .i64 x]) (xs.length ≤ 9223372036854775807) (fun _ _ ht => ht.ln (i := 0) rfl) J0_st (c0 := entryC Tryz.prog 28 18 (([slI xs, .int .i64 x]).map (pushT 0 4))) (by kernel_rfl) (by kernel_rfl) fun hfacts B hJ => rHas_e xs x  hfacts hJ
abbrev callV (d h : Int) : Value := .agg #[.int .i64 d, .int .i64 h]
end Go.Proofs.YtiabgkiccaodmaaGreat

