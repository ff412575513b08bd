/- Stores as defined. -/
import Derived.Test.YtiabgkiccaodmaaGreatZPL11
set_option linter.all false
namespace Go.Proofs.YtiabgkiccaodmaaGreat
open Go Go.CE Go.RowKit
set_option maxRecDepth 100000
structure ShStore where
 stock : List Int
 use : List Span
 glo : Int
 ghi : Int
 lots : List ShLot
 hold : Int
deriving Inhabited
abbrev slLot (xs : List ShLot) : Value := slT xs.length (rowL encLot xs)
def encStore (s : ShStore) : List Value := [slI s.stock, slSp s.use, .int .i64 s.glo, .int .i64 s.ghi, slLot s.lots, .int .i64 s.hold]
def spansB (xs : List Span) (most : Int) : Bool := xs.all (fun s => spanB s.lo s.hi 0 most)
def lotB (k : Nat) (l : ShLot) : Bool := decide (l.goods.length = k) && (spansB l.goods 100000 && (inB l.weight 0 100000 && inB l.cost 0 1000000))
def lotsB (s : ShStore) : Bool := decide (s.lots.length ≤ 6) && s.lots.all (lotB s.stock.length)
def storeB (s : ShStore) : Bool := inB s.stock.length 1 4 && (s.stock.all (fun x => inB x 0 100000) && (decide (s.use.length = s.stock.length) && (spansB s.use 1000 && (spanB s.glo s.ghi 1 60 && (lotsB s && inB s.hold 0 100000)))))
theorem pisGap_s0 (B : Lo) (a b : Int) : endT (srunT Tryz.prog (okFn Tryz.prog) J0 B 6 1 (entryC Tryz.prog 75 5 (([.agg #[.int .i64 a, .int .i64 b]]).map (pushT 0 4))) H00 1
 [(3, HintT.pure (Value.bool true) [])] 0 [] []) [] = some (Value.bool true,
 [AllP [] ∧ PureC Tryz.prog J0 109 #[Value.agg #[.int .i64 a, .int .i64 b], .int .i64 1, .int .i64 60] (Value.bool true)]) := by kernel_rfl
theorem pisGap_s1 (B : Lo) (a b : Int) : endT (srunT Tryz.prog (okFn Tryz.prog) J0 B 6 1 (entryC Tryz.prog 75 5 (([.agg #[.int .i64 a, .int .i64 b]]).map (pushT 0 4))) H00 1
 [(3, HintT.pure (Value.bool false) [])] 0 [] []) [] = some (Value.bool false,
 [AllP [] ∧ PureC Tryz.prog J0 109 #[Value.agg #[.int .i64 a, .int .i64 b], .int .i64 1, .int .i64 60] (Value.bool false)]) := by kernel_rfl
set_option maxHeartbeats 4000000 in
theorem pisGap_e (a b : Int)  {B : Lo} (hJ : ∀ w, B.has w → J0 w) : EndsT Tryz.prog B (entryC Tryz.prog 75 5 (([.agg #[.int .i64 a, .int .i64 b]]).map (pushT 0 4))) (.bool (spanB a b 1 60)) := by
 cases q0 : spanB a b 1 60 with
 | true =>
   exact (GoE.endsT okF hJ mixed_ok GoE.start (pisGap_s0 B a b)
    ⟨⟨trivial, (by have t_ := pIsWithin (a) (b) (1) (60); rw [q0] at t_; exact t_)⟩, trivial⟩).cast (by rfl)
 | false =>
   exact (GoE.endsT okF hJ mixed_ok GoE.start (pisGap_s1 B a b)
    ⟨⟨trivial, (by have t_ := pIsWithin (a) (b) (1) (60); rw [q0] at t_; exact t_)⟩, trivial⟩).cast (by rfl)
theorem pisGap (a b : Int)  : PureC Tryz.prog J0 75 #[.agg #[.int .i64 a, .int .i64 b]] (.bool (spanB a b 1 60)) :=
 pureC_of (ts := [.agg #[.int .i64 a, .int .i64 b]]) J0_st (c0 := entryC Tryz.prog 75 5 (([.agg #[.int .i64 a, .int .i64 b]]).map (pushT 0 4))) (by kernel_rfl) (by kernel_rfl) fun B hJ => pisGap_e a b  hJ
theorem pisWeight_s0 (B : Lo) (n : Int) : endT (srunT Tryz.prog (okFn Tryz.prog) J0 B 6 1 (entryC Tryz.prog 114 5 (([.int .i64 n]).map (pushT 0 4))) H00 1
 [(2, HintT.pure (Value.bool true) [])] 0 [] []) [] = some (Value.bool true,
 [AllP [] ∧ PureC Tryz.prog J0 76 #[.int .i64 n, .int .i64 0, .int .i64 100000] (Value.bool true)]) := by kernel_rfl
theorem pisWeight_s1 (B : Lo) (n : Int) : endT (srunT Tryz.prog (okFn Tryz.prog) J0 B 6 1 (entryC Tryz.prog 114 5 (([.int .i64 n]).map (pushT 0 4))) H00 1
 [(2, HintT.pure (Value.bool false) [])] 0 [] []) [] = some (Value.bool false,
 [AllP [] ∧ PureC Tryz.prog J0 76 #[.int .i64 n, .int .i64 0, .int .i64 100000] (Value.bool false)]) := by kernel_rfl
set_option maxHeartbeats 4000000 in
theorem pisWeight_e (n : Int)  {B : Lo} (hJ : ∀ w, B.has w → J0 w) : EndsT Tryz.prog B (entryC Tryz.prog 114 5 (([.int .i64 n]).map (pushT 0 4))) (.bool (inB n 0 100000)) := by
 cases q0 : inB n 0 100000 with
 | true =>
   exact (GoE.endsT okF hJ mixed_ok GoE.start (pisWeight_s0 B n)
    ⟨⟨trivial, (by have t_ := pIn (n) (0) (100000); rw [q0] at t_; exact t_)⟩, trivial⟩).cast (by rfl)
 | false =>
   exact (GoE.endsT okF hJ mixed_ok GoE.start (pisWeight_s1 B n)
    ⟨⟨trivial, (by have t_ := pIn (n) (0) (100000); rw [q0] at t_; exact t_)⟩, trivial⟩).cast (by rfl)
theorem pisWeight (n : Int)  : PureC Tryz.prog J0 114 #[.int .i64 n] (.bool (inB n 0 100000)) :=
 pureC_of (ts := [.int .i64 n]) J0_st (c0 := entryC Tryz.prog 114 5 (([.int .i64 n]).map (pushT 0 4))) (by kernel_rfl) (by kernel_rfl) fun B hJ => pisWeight_e n  hJ
noncomputable def pisLot_p0 (B : Lo) (s : ShStore) (l : ShLot) : List Prop := [eqq (↑l.goods.length : Int) (↑s.stock.length : Int) = true] ++ ([] : List Prop)
noncomputable def pisLot_q0 (s : ShStore) (l : ShLot) : ScriptT := [(9, hvT)]
noncomputable def pisLot_p1 (B : Lo) (s : ShStore) (l : ShLot) : List Prop := [AllP [] ∧ PureC Tryz.prog J0 101 #[slT l.goods.length (rowL encSp l.goods), .int .i64 100000] (Value.bool true)] ++ pisLot_p0 B s l
noncomputable def pisLot_q1 (s : ShStore) (l : ShLot) : ScriptT := pisLot_q0 s l ++ [(13, HintT.pure (Value.bool true) [])]
noncomputable def pisLot_p2 (B : Lo) (s : ShStore) (l : ShLot) : List Prop := [AllP [] ∧ PureC Tryz.prog J0 114 #[.int .i64 l.weight] (Value.bool true)] ++ pisLot_p1 B s l
noncomputable def pisLot_q2 (s : ShStore) (l : ShLot) : ScriptT := pisLot_q1 s l ++ [(18, HintT.pure (Value.bool true) [])]
theorem pisLot_s0 (B : Lo) (s : ShStore) (l : ShLot) : endT (srunT Tryz.prog (okFn Tryz.prog) J0 B 6 1 (entryC Tryz.prog 145 27 (([.agg (encStore s).toArray, .agg (encLot l).toArray]).map (pushT 0 4))) H00 1
 (pisLot_q2 s l ++ [(23, HintT.pure (Value.bool true) [])]) 0 [] []) [] = some (Value.bool true,
 [AllP [] ∧ PureC Tryz.prog J0 76 #[.int .i64 l.cost, .int .i64 0, .int .i64 1000000] (Value.bool true)] ++ pisLot_p2 B s l) := by kernel_rfl
theorem pisLot_s1 (B : Lo) (s : ShStore) (l : ShLot) : endT (srunT Tryz.prog (okFn Tryz.prog) J0 B 6 1 (entryC Tryz.prog 145 27 (([.agg (encStore s).toArray, .agg (encLot l).toArray]).map (pushT 0 4))) H00 1
 (pisLot_q2 s l ++ [(23, HintT.pure (Value.bool false) [])]) 0 [] []) [] = some (Value.bool false,
 [AllP [] ∧ PureC Tryz.prog J0 76 #[.int .i64 l.cost, .int .i64 0, .int .i64 1000000] (Value.bool false)] ++ pisLot_p2 B s l) := by kernel_rfl
theorem pisLot_s2 (B : Lo) (s : ShStore) (l : ShLot) : endT (srunT Tryz.prog (okFn Tryz.prog) J0 B 6 1 (entryC Tryz.prog 145 27 (([.agg (encStore s).toArray, .agg (encLot l).toArray]).map (pushT 0 4))) H00 1
 (pisLot_q1 s l ++ [(18, HintT.pure (Value.bool false) [])]) 0 [] []) [] = some (Value.bool false,
 [AllP [] ∧ PureC Tryz.prog J0 114 #[.int .i64 l.weight] (Value.bool false)] ++ pisLot_p1 B s l) := by kernel_rfl
theorem pisLot_s3 (B : Lo) (s : ShStore) (l : ShLot) : endT (srunT Tryz.prog (okFn Tryz.prog) J0 B 6 1 (entryC Tryz.prog 145 27 (([.agg (encStore s).toArray, .agg (encLot l).toArray]).map (pushT 0 4))) H00 1
 (pisLot_q0 s l ++ [(13, HintT.pure (Value.bool false) [])]) 0 [] []) [] = some (Value.bool false,
 [AllP [] ∧ PureC Tryz.prog J0 101 #[slT l.goods.length (rowL encSp l.goods), .int .i64 100000] (Value.bool false)] ++ pisLot_p0 B s l) := by kernel_rfl
theorem pisLot_s4 (B : Lo) (s : ShStore) (l : ShLot) : endT (srunT Tryz.prog (okFn Tryz.prog) J0 B 6 1 (entryC Tryz.prog 145 27 (([.agg (encStore s).toArray, .agg (encLot l).toArray]).map (pushT 0 4))) H00 1
 [(9, hvF)] 0 [] []) [] = some (Value.bool false,
 [eqq (↑l.goods.length : Int) (↑s.stock.length : Int) = false]) := by kernel_rfl
set_option maxHeartbeats 4000000 in
theorem pisLot_e (s : ShStore) (l : ShLot)  {B : Lo} (hJ : ∀ w, B.has w → J0 w) : EndsT Tryz.prog B (entryC Tryz.prog 145 27 (([.agg (encStore s).toArray, .agg (encLot l).toArray]).map (pushT 0 4))) (.bool (lotB s.stock.length l)) := by
 by_cases q0 : ((↑l.goods.length : Int) : Int) = ((↑s.stock.length : Int))
 ·
  have hp0 : AllP (pisLot_p0 B s l) := by
   exact ⟨(eqq_t q0), trivial⟩
  cases q1 : List.all l.goods fun s => spanB s.lo s.hi 0 100000 with
  | true =>
    have hp1 : AllP (pisLot_p1 B s l) := by
     exact ⟨⟨trivial, (by have t_ := pAreSpans l.goods (100000); rw [q1] at t_; exact t_)⟩, hp0⟩
    cases q2 : inB l.weight 0 100000 with
    | true =>
      have hp2 : AllP (pisLot_p2 B s l) := by
       exact ⟨⟨trivial, (by have t_ := pisWeight l.weight; rw [q2] at t_; exact t_)⟩, hp1⟩
      cases q3 : inB l.cost 0 1000000 with
      | true =>
        exact (GoE.endsT okF hJ mixed_ok GoE.start (pisLot_s0 B s l)
         ⟨⟨trivial, (by have t_ := pIn l.cost (0) (1000000); rw [q3] at t_; exact t_)⟩, hp2⟩).cast (by (simp_all [lotB, spansB]; omega))
      | false =>
        exact (GoE.endsT okF hJ mixed_ok GoE.start (pisLot_s1 B s l)
         ⟨⟨trivial, (by have t_ := pIn l.cost (0) (1000000); rw [q3] at t_; exact t_)⟩, hp2⟩).cast (by (simp [lotB, spansB, *]; done))
    | false =>
      exact (GoE.endsT okF hJ mixed_ok GoE.start (pisLot_s2 B s l)
       ⟨⟨trivial, (by have t_ := pisWeight l.weight; rw [q2] at t_; exact t_)⟩, hp1⟩).cast (by (simp [lotB, spansB, *]; done))
  | false =>
    exact (GoE.endsT okF hJ mixed_ok GoE.start (pisLot_s3 B s l)
     ⟨⟨trivial, (by have t_ := pAreSpans l.goods (100000); rw [q1] at t_; exact t_)⟩, hp0⟩).cast (by (simp [lotB, spansB, *]; done))
 ·
  exact (GoE.endsT okF hJ mixed_ok GoE.start (pisLot_s4 B s l)
   ⟨(eqq_f q0), trivial⟩).cast (by (simp_all [lotB, spansB]; omega))
theorem pisLot (s : ShStore) (l : ShLot)  : PureC Tryz.prog J0 145 #[.agg (encStore s).toArray, .agg (encLot l).toArray] (.bool (lotB s.stock.length l)) :=
 pureC_of (ts := [.agg (encStore s).toArray, .agg (encLot l).toArray]) J0_st (c0 := entryC Tryz.prog 145 27 (([.agg (encStore s).toArray, .agg (encLot l).toArray]).map (pushT 0 4))) (by kernel_rfl) (by kernel_rfl) fun B hJ => pisLot_e s l  hJ
def pareLots_v0 (s : ShStore) (i : Int) : List Value := [pA 2 0, topV 1 (slT s.lots.length (rowL encLot s.lots)), .int .i64 (↑s.lots.length : Int), .int .i64 i]
def pareLots_o0 (s : ShStore) (i : Int) : List Obj := [Obj.cells #[topV 1 (slT s.stock.length (rowL encI s.stock)), topV 1 (slT s.use.length (rowL encSp s.use)), .int .i64 s.glo, .int .i64 s.ghi, topV 1 (slT s.lots.length (rowL encLot s.lots)), .int .i64 s.hold] 62]
noncomputable def pareLots_t0 : List Item := ([.code [1, 1, 0, 1, 0, 0], .inLoop [1, 1, 0, 1, 0, 0], .inBlock 0, .code [1, 1, 1]]).map (it (bodyOf Tryz.prog 113))
def pareLots_h0 (B : Lo) (c0 : CF) (s : ShStore) (i : Int) : Prop := ∃ dJ : Nat → Value, (∀ t, Loose (dJ t)) ∧ GoE Tryz.prog B c0 H00 1 (headC 113 21 (([1, 10, 11, 12] : List Nat).zip (pareLots_v0 s i)) dJ pareLots_t0) (headH (pareLots_o0 s i)) (2 + (pareLots_o0 s i).length) []
noncomputable def pareLots_z0 (s : ShStore) (i : Int) : Array Value := #[slT (List.length (ShLot.goods (List.getD s.lots i.toNat default))) (rowL encSp (ShLot.goods (List.getD s.lots i.toNat default))), .int .i64 (ShLot.weight (List.getD s.lots i.toNat default)), .int .i64 (ShLot.cost (List.getD s.lots i.toNat default))]
noncomputable def pareLots_p0 (B : Lo) (s : ShStore) (i : Int) (dJ0 : Nat → Value) : List Prop := [i = (↑i.toNat : Int) ∧ Int.toNat i < List.length s.lots ∧ Array.extract (rowL encLot s.lots) (Int.toNat i * TypeInfo.size Tryz.t118) (Int.toNat i * TypeInfo.size Tryz.t118 + TypeInfo.size Tryz.t118) = (pareLots_z0 s i), ltq i (↑s.lots.length : Int) = true] ++ ([] : List Prop)
noncomputable def pareLots_q0 (s : ShStore) (i : Int) (dJ0 : Nat → Value) : ScriptT := [(0, hvT), (1, HintT.tidx i.toNat (pareLots_z0 s i))]
theorem pareLots_s0 (B : Lo) (s : ShStore) (i : Int) (dJ0 : Nat → Value) : landM (srunT Tryz.prog (okFn Tryz.prog) J0 B 16 1 (headC 113 21 (([1, 10, 11, 12] : List Nat).zip (pareLots_v0 s i)) dJ0 pareLots_t0) (headH (pareLots_o0 s i)) (2 + (pareLots_o0 s i).length)
 (pareLots_q0 s i dJ0 ++ [(7, HintT.pure (Value.bool true) []), (9, hvI (i + 1))]) 0 [] []) [1, 10, 11, 12] [(2, KS.auto)] [] = some ⟨113, 21, pareLots_t0, [], .run, none, pareLots_v0 s (i + 1), pareLots_o0 s (i + 1),
 [wq (i + 1) = i + 1, AllP [] ∧ PureC Tryz.prog J0 145 #[Value.agg #[slT s.stock.length (rowL encI s.stock), slT s.use.length (rowL encSp s.use), .int .i64 s.glo, .int .i64 s.ghi, slT s.lots.length (rowL encLot s.lots), .int .i64 s.hold], Value.agg (pareLots_z0 s i)] (Value.bool true)] ++ pareLots_p0 B s i dJ0⟩ := by kernel_rfl
theorem pareLots_s1 (B : Lo) (s : ShStore) (i : Int) (dJ0 : Nat → Value) : endT (srunT Tryz.prog (okFn Tryz.prog) J0 B 16 1 (headC 113 21 (([1, 10, 11, 12] : List Nat).zip (pareLots_v0 s i)) dJ0 pareLots_t0) (headH (pareLots_o0 s i)) (2 + (pareLots_o0 s i).length)
 (pareLots_q0 s i dJ0 ++ [(7, HintT.pure (Value.bool false) [])]) 0 [] []) [] = some (Value.bool false,
 [AllP [] ∧ PureC Tryz.prog J0 145 #[Value.agg #[slT s.stock.length (rowL encI s.stock), slT s.use.length (rowL encSp s.use), .int .i64 s.glo, .int .i64 s.ghi, slT s.lots.length (rowL encLot s.lots), .int .i64 s.hold], Value.agg (pareLots_z0 s i)] (Value.bool false)] ++ pareLots_p0 B s i dJ0) := by kernel_rfl
theorem pareLots_s2 (B : Lo) (s : ShStore) (i : Int) (dJ0 : Nat → Value) : endT (srunT Tryz.prog (okFn Tryz.prog) J0 B 9 1 (headC 113 21 (([1, 10, 11, 12] : List Nat).zip (pareLots_v0 s i)) dJ0 pareLots_t0) (headH (pareLots_o0 s i)) (2 + (pareLots_o0 s i).length)
 [(0, hvF)] 0 [] []) [] = some (Value.bool true,
 [ltq i (↑s.lots.length : Int) = false]) := by kernel_rfl
theorem pareLots_s3 (B : Lo) (s : ShStore) : endT (srunT Tryz.prog (okFn Tryz.prog) J0 B 10 1 (entryC Tryz.prog 113 21 (([.agg (encStore s).toArray]).map (pushT 0 4))) H00 1
 [(5, hvT)] 0 [] []) [] = some (Value.bool false,
 [ltq 6 (↑s.lots.length : Int) = true]) := by kernel_rfl
theorem pareLots_s4 (B : Lo) (s : ShStore) : landM (srunT Tryz.prog (okFn Tryz.prog) J0 B 12 1 (entryC Tryz.prog 113 21 (([.agg (encStore s).toArray]).map (pushT 0 4))) H00 1
 [(5, hvF)] 0 [] []) [1, 10, 11, 12] [(1, KS.auto)] [] = some ⟨113, 21, pareLots_t0, [], .run, none, pareLots_v0 s (0), pareLots_o0 s (0),
 [ltq 6 (↑s.lots.length : Int) = false]⟩ := by kernel_rfl
set_option maxHeartbeats 4000000 in
theorem pareLots_ls (s : ShStore)  (hfacts : s.lots.length ≤ 9223372036854775807) {B : Lo} (hJ : ∀ w, B.has w → J0 w) {c0 : CF} : ∀ m : Nat, (∀ (i : Int), s.lots.length - i.toNat = m → ∀ (h0 : 0 ≤ i) (h6 : s.lots.length ≤ 6), pareLots_h0 B c0 s i → EndsT Tryz.prog B c0 (.bool ((s.lots.drop i.toNat).all (lotB s.stock.length)))) := by
 intro m0
 induction m0 using Nat.strongRecOn with
 | _ m0 ih0 =>
   intro i hm0 h0 h6 ⟨dJ0, hdJ0, hg0⟩
   by_cases q0 : (i : Int) < ((↑s.lots.length : Int))
   ·
    have hp0 : AllP (pareLots_p0 B s i dJ0) := by
     exact ⟨⟨by omega, by omega, (rowL_extract (z := 3) (fun _ => rfl) (by omega))⟩, ⟨(ltq_t q0), trivial⟩⟩
    cases q1 : lotB s.stock.length (List.getD s.lots i.toNat default) with
    | true =>
      exact ((ih0 _ (by omega)) (i + 1) rfl (by omega) (by with_reducible assumption)
       (hg0.landM okF hJ mixed_ok (pareLots_s0 B s i dJ0)
       ⟨(wq_in (by omega) (by omega)), ⟨⟨trivial, (by have t_ := pisLot (s) (List.getD s.lots i.toNat default); rw [q1] at t_; exact t_)⟩, hp0⟩⟩ (by kernel_rfl) (by kernel_rfl))).cast (by (rw [drop_all (i := i)]; (· simp_all); (· omega); (· omega)))
    | false =>
      exact (GoE.endsT okF hJ mixed_ok hg0 (pareLots_s1 B s i dJ0)
       ⟨⟨trivial, (by have t_ := pisLot (s) (List.getD s.lots i.toNat default); rw [q1] at t_; exact t_)⟩, hp0⟩).cast (by (rw [drop_all (i := i)]; (· simp_all); (· omega); (· omega)))
   ·
    exact (GoE.endsT okF hJ mixed_ok hg0 (pareLots_s2 B s i dJ0)
     ⟨(ltq_f (Int.not_lt.1 q0)), trivial⟩).cast (by (rw [drop_end (i := i)]; (· simp_all); (· omega)))
set_option maxHeartbeats 4000000 in
theorem pareLots_e (s : ShStore)  (hfacts : s.lots.length ≤ 9223372036854775807) {B : Lo} (hJ : ∀ w, B.has w → J0 w) : EndsT Tryz.prog B (entryC Tryz.prog 113 21 (([.agg (encStore s).toArray]).map (pushT 0 4))) (.bool (lotsB s)) := by
 by_cases q0 : (6 : Int) < ((↑s.lots.length : Int))
 ·
  exact (GoE.endsT okF hJ mixed_ok GoE.start (pareLots_s3 B s)
   ⟨(ltq_t q0), trivial⟩).cast (by (simp_all [lotsB]; omega))
 ·
  exact ((pareLots_ls s hfacts hJ _) (0) rfl (by omega) (by omega)
   (GoE.start.landM okF hJ mixed_ok (pareLots_s4 B s)
   ⟨(ltq_f (Int.not_lt.1 q0)), trivial⟩ (by kernel_rfl) (by kernel_rfl))).cast (by (simp_all [lotsB]; omega))
theorem pareLots (s : ShStore)  : PureC Tryz.prog J0 113 #[.agg (encStore s).toArray] (.bool (lotsB s)) :=
 pureC_ofF (ts := [.agg (encStore s).toArray]) (s.lots.length ≤ 9223372036854775807) (fun _ _ ht => ht.ln2 (i := 0) (j := 4) rfl rfl) J0_st (c0 := entryC Tryz.prog 113 21 (([.agg (encStore s).toArray]).map (pushT 0 4))) (by kernel_rfl) (by kernel_rfl) fun hfacts B hJ => pareLots_e s  hfacts hJ
noncomputable def pisStore_p0 (B : Lo) (s : ShStore) : List Prop := [AllP [] ∧ PureC Tryz.prog J0 76 #[.int .i64 (↑s.stock.length : Int), .int .i64 1, .int .i64 4] (Value.bool true)] ++ ([] : List Prop)
noncomputable def pisStore_q0 (s : ShStore) : ScriptT := [(5, HintT.pure (Value.bool true) [])]
noncomputable def pisStore_p1 (B : Lo) (s : ShStore) : List Prop := [AllP [] ∧ PureC Tryz.prog J0 100 #[slT s.stock.length (rowL encI s.stock), .int .i64 0, .int .i64 100000] (Value.bool true)] ++ pisStore_p0 B s
noncomputable def pisStore_q1 (s : ShStore) : ScriptT := pisStore_q0 s ++ [(9, HintT.pure (Value.bool true) [])]
noncomputable def pisStore_p2 (B : Lo) (s : ShStore) : List Prop := [eqq (↑s.use.length : Int) (↑s.stock.length : Int) = true] ++ pisStore_p1 B s
noncomputable def pisStore_q2 (s : ShStore) : ScriptT := pisStore_q1 s ++ [(18, hvT)]
noncomputable def pisStore_p3 (B : Lo) (s : ShStore) : List Prop := [AllP [] ∧ PureC Tryz.prog J0 101 #[slT s.use.length (rowL encSp s.use), .int .i64 1000] (Value.bool true)] ++ pisStore_p2 B s
noncomputable def pisStore_q3 (s : ShStore) : ScriptT := pisStore_q2 s ++ [(23, HintT.pure (Value.bool true) [])]
noncomputable def pisStore_p4 (B : Lo) (s : ShStore) : List Prop := [AllP [] ∧ PureC Tryz.prog J0 75 #[Value.agg #[.int .i64 s.glo, .int .i64 s.ghi]] (Value.bool true)] ++ pisStore_p3 B s
noncomputable def pisStore_q4 (s : ShStore) : ScriptT := pisStore_q3 s ++ [(28, HintT.pure (Value.bool true) [])]
noncomputable def pisStore_p5 (B : Lo) (s : ShStore) : List Prop := [AllP [] ∧ PureC Tryz.prog J0 113 #[Value.agg #[slT s.stock.length (rowL encI s.stock), slT s.use.length (rowL encSp s.use), .int .i64 s.glo, .int .i64 s.ghi, slT s.lots.length (rowL encLot s.lots), .int .i64 s.hold]] (Value.bool true)] ++ pisStore_p4 B s
noncomputable def pisStore_q5 (s : ShStore) : ScriptT := pisStore_q4 s ++ [(32, HintT.pure (Value.bool true) [])]
theorem pisStore_s0 (B : Lo) (s : ShStore) : endT (srunT Tryz.prog (okFn Tryz.prog) J0 B 6 1 (entryC Tryz.prog 79 40 (([.agg (encStore s).toArray]).map (pushT 0 4))) H00 1
 (pisStore_q5 s ++ [(37, HintT.pure (Value.bool true) [])]) 0 [] []) [] = some (Value.bool true,
 [AllP [] ∧ PureC Tryz.prog J0 114 #[.int .i64 s.hold] (Value.bool true)] ++ pisStore_p5 B s) := by kernel_rfl
theorem pisStore_s1 (B : Lo) (s : ShStore) : endT (srunT Tryz.prog (okFn Tryz.prog) J0 B 6 1 (entryC Tryz.prog 79 40 (([.agg (encStore s).toArray]).map (pushT 0 4))) H00 1
 (pisStore_q5 s ++ [(37, HintT.pure (Value.bool false) [])]) 0 [] []) [] = some (Value.bool false,
 [AllP [] ∧ PureC Tryz.prog J0 114 #[.int .i64 s.hold] (Value.bool false)] ++ pisStore_p5 B s) := by kernel_rfl
theorem pisStore_s2 (B : Lo) (s : ShStore) : endT (srunT Tryz.prog (okFn Tryz.prog) J0 B 6 1 (entryC Tryz.prog 79 40 (([.agg (encStore s).toArray]).map (pushT 0 4))) H00 1
 (pisStore_q4 s ++ [(32, HintT.pure (Value.bool false) [])]) 0 [] []) [] = some (Value.bool false,
 [AllP [] ∧ PureC Tryz.prog J0 113 #[Value.agg #[slT s.stock.length (rowL encI s.stock), slT s.use.length (rowL encSp s.use), .int .i64 s.glo, .int .i64 s.ghi, slT s.lots.length (rowL encLot s.lots), .int .i64 s.hold]] (Value.bool false)] ++ pisStore_p4 B s) := by kernel_rfl
theorem pisStore_s3 (B : Lo) (s : ShStore) : endT (srunT Tryz.prog (okFn Tryz.prog) J0 B 6 1 (entryC Tryz.prog 79 40 (([.agg (encStore s).toArray]).map (pushT 0 4))) H00 1
 (pisStore_q3 s ++ [(28, HintT.pure (Value.bool false) [])]) 0 [] []) [] = some (Value.bool false,
 [AllP [] ∧ PureC Tryz.prog J0 75 #[Value.agg #[.int .i64 s.glo, .int .i64 s.ghi]] (Value.bool false)] ++ pisStore_p3 B s) := by kernel_rfl
theorem pisStore_s4 (B : Lo) (s : ShStore) : endT (srunT Tryz.prog (okFn Tryz.prog) J0 B 6 1 (entryC Tryz.prog 79 40 (([.agg (encStore s).toArray]).map (pushT 0 4))) H00 1
 (pisStore_q2 s ++ [(23, HintT.pure (Value.bool false) [])]) 0 [] []) [] = some (Value.bool false,
 [AllP [] ∧ PureC Tryz.prog J0 101 #[slT s.use.length (rowL encSp s.use), .int .i64 1000] (Value.bool false)] ++ pisStore_p2 B s) := by kernel_rfl
theorem pisStore_s5 (B : Lo) (s : ShStore) : endT (srunT Tryz.prog (okFn Tryz.prog) J0 B 6 1 (entryC Tryz.prog 79 40 (([.agg (encStore s).toArray]).map (pushT 0 4))) H00 1
 (pisStore_q1 s ++ [(18, hvF)]) 0 [] []) [] = some (Value.bool false,
 [eqq (↑s.use.length : Int) (↑s.stock.length : Int) = false] ++ pisStore_p1 B s) := by kernel_rfl
theorem pisStore_s6 (B : Lo) (s : ShStore) : endT (srunT Tryz.prog (okFn Tryz.prog) J0 B 6 1 (entryC Tryz.prog 79 40 (([.agg (encStore s).toArray]).map (pushT 0 4))) H00 1
 (pisStore_q0 s ++ [(9, HintT.pure (Value.bool false) [])]) 0 [] []) [] = some (Value.bool false,
 [AllP [] ∧ PureC Tryz.prog J0 100 #[slT s.stock.length (rowL encI s.stock), .int .i64 0, .int .i64 100000] (Value.bool false)] ++ pisStore_p0 B s) := by kernel_rfl
theorem pisStore_s7 (B : Lo) (s : ShStore) : endT (srunT Tryz.prog (okFn Tryz.prog) J0 B 6 1 (entryC Tryz.prog 79 40 (([.agg (encStore s).toArray]).map (pushT 0 4))) H00 1
 [(5, HintT.pure (Value.bool false) [])] 0 [] []) [] = some (Value.bool false,
 [AllP [] ∧ PureC Tryz.prog J0 76 #[.int .i64 (↑s.stock.length : Int), .int .i64 1, .int .i64 4] (Value.bool false)]) := by kernel_rfl
set_option maxHeartbeats 4000000 in
theorem pisStore_e (s : ShStore)  (hfacts : s.stock.length ≤ 9223372036854775807 ∧ s.use.length ≤ 9223372036854775807) {B : Lo} (hJ : ∀ w, B.has w → J0 w) : EndsT Tryz.prog B (entryC Tryz.prog 79 40 (([.agg (encStore s).toArray]).map (pushT 0 4))) (.bool (storeB s)) := by
 cases q0 : inB (↑s.stock.length : Int) 1 4 with
 | true =>
   have hp0 : AllP (pisStore_p0 B s) := by
    exact ⟨⟨trivial, (by have t_ := pIn ((↑s.stock.length : Int)) (1) (4); rw [q0] at t_; exact t_)⟩, trivial⟩
   cases q1 : List.all s.stock fun x => inB x 0 100000 with
   | true =>
     have hp1 : AllP (pisStore_p1 B s) := by
      exact ⟨⟨trivial, (by have t_ := pAllIn s.stock (0) (100000); rw [q1] at t_; exact t_)⟩, hp0⟩
     by_cases q2 : ((↑s.use.length : Int) : Int) = ((↑s.stock.length : Int))
     ·
      have hp2 : AllP (pisStore_p2 B s) := by
       exact ⟨(eqq_t q2), hp1⟩
      cases q3 : List.all s.use fun s => spanB s.lo s.hi 0 1000 with
      | true =>
        have hp3 : AllP (pisStore_p3 B s) := by
         exact ⟨⟨trivial, (by have t_ := pAreSpans s.use (1000); rw [q3] at t_; exact t_)⟩, hp2⟩
        cases q4 : spanB s.glo s.ghi 1 60 with
        | true =>
          have hp4 : AllP (pisStore_p4 B s) := by
           exact ⟨⟨trivial, (by have t_ := pisGap s.glo s.ghi; rw [q4] at t_; exact t_)⟩, hp3⟩
          cases q5 : lotsB s with
          | true =>
            have hp5 : AllP (pisStore_p5 B s) := by
             exact ⟨⟨trivial, (by have t_ := pareLots (s); rw [q5] at t_; exact t_)⟩, hp4⟩
            cases q6 : inB s.hold 0 100000 with
            | true =>
              exact (GoE.endsT okF hJ mixed_ok GoE.start (pisStore_s0 B s)
               ⟨⟨trivial, (by have t_ := pisWeight s.hold; rw [q6] at t_; exact t_)⟩, hp5⟩).cast (by (simp_all [storeB, spansB]; omega))
            | false =>
              exact (GoE.endsT okF hJ mixed_ok GoE.start (pisStore_s1 B s)
               ⟨⟨trivial, (by have t_ := pisWeight s.hold; rw [q6] at t_; exact t_)⟩, hp5⟩).cast (by (simp [storeB, spansB, *]; done))
          | false =>
            exact (GoE.endsT okF hJ mixed_ok GoE.start (pisStore_s2 B s)
             ⟨⟨trivial, (by have t_ := pareLots (s); rw [q5] at t_; exact t_)⟩, hp4⟩).cast (by (simp [storeB, spansB, *]; done))
        | false =>
          exact (GoE.endsT okF hJ mixed_ok GoE.start (pisStore_s3 B s)
           ⟨⟨trivial, (by have t_ := pisGap s.glo s.ghi; rw [q4] at t_; exact t_)⟩, hp3⟩).cast (by (simp [storeB, spansB, *]; done))
      | false =>
        exact (GoE.endsT okF hJ mixed_ok GoE.start (pisStore_s4 B s)
         ⟨⟨trivial, (by have t_ := pAreSpans s.use (1000); rw [q3] at t_; exact t_)⟩, hp2⟩).cast (by (simp [storeB, spansB, *]; done))
     ·
      exact (GoE.endsT okF hJ mixed_ok GoE.start (pisStore_s5 B s)
       ⟨(eqq_f q2), hp1⟩).cast (by (simp_all [storeB, spansB]; omega))
   | false =>
     exact (GoE.endsT okF hJ mixed_ok GoE.start (pisStore_s6 B s)
      ⟨⟨trivial, (by have t_ := pAllIn s.stock (0) (100000); rw [q1] at t_; exact t_)⟩, hp0⟩).cast (by (simp [storeB, spansB, *]; done))
 | false =>
   exact (GoE.endsT okF hJ mixed_ok GoE.start (pisStore_s7 B s)
    ⟨⟨trivial, (by have t_ := pIn ((↑s.stock.length : Int)) (1) (4); rw [q0] at t_; exact t_)⟩, trivial⟩).cast (by (simp [storeB, spansB, *]; done))
theorem pisStore (s : ShStore)  : PureC Tryz.prog J0 79 #[.agg (encStore s).toArray] (.bool (storeB s)) :=
 pureC_ofF (ts := [.agg (encStore s).toArray]) (s.stock.length ≤ 9223372036854775807 ∧ s.use.length ≤ 9223372036854775807) (fun _ _ ht => ⟨ht.ln2 (i := 0) (j := 0) rfl rfl, ht.ln2 (i := 0) (j := 1) rfl rfl⟩) J0_st (c0 := entryC Tryz.prog 79 40 (([.agg (encStore s).toArray]).map (pushT 0 4))) (by kernel_rfl) (by kernel_rfl) fun hfacts B hJ => pisStore_e s  hfacts hJ
theorem pareDays_s0 (B : Lo) (n : Int) : endT (srunT Tryz.prog (okFn Tryz.prog) J0 B 6 1 (entryC Tryz.prog 81 5 (([.int .i64 n]).map (pushT 0 4))) H00 1
 [(2, HintT.pure (Value.bool true) [])] 0 [] []) [] = some (Value.bool true,
 [AllP [] ∧ PureC Tryz.prog J0 76 #[.int .i64 n, .int .i64 0, .int .i64 300] (Value.bool true)]) := by kernel_rfl
theorem pareDays_s1 (B : Lo) (n : Int) : endT (srunT Tryz.prog (okFn Tryz.prog) J0 B 6 1 (entryC Tryz.prog 81 5 (([.int .i64 n]).map (pushT 0 4))) H00 1
 [(2, HintT.pure (Value.bool false) [])] 0 [] []) [] = some (Value.bool false,
 [AllP [] ∧ PureC Tryz.prog J0 76 #[.int .i64 n, .int .i64 0, .int .i64 300] (Value.bool false)]) := by kernel_rfl
set_option maxHeartbeats 4000000 in
theorem pareDays_e (n : Int)  {B : Lo} (hJ : ∀ w, B.has w → J0 w) : EndsT Tryz.prog B (entryC Tryz.prog 81 5 (([.int .i64 n]).map (pushT 0 4))) (.bool (inB n 0 300)) := by
 cases q0 : inB n 0 300 with
 | true =>
   exact (GoE.endsT okF hJ mixed_ok GoE.start (pareDays_s0 B n)
    ⟨⟨trivial, (by have t_ := pIn (n) (0) (300); rw [q0] at t_; exact t_)⟩, trivial⟩).cast (by rfl)
 | false =>
   exact (GoE.endsT okF hJ mixed_ok GoE.start (pareDays_s1 B n)
    ⟨⟨trivial, (by have t_ := pIn (n) (0) (300); rw [q0] at t_; exact t_)⟩, trivial⟩).cast (by rfl)
theorem pareDays (n : Int)  : PureC Tryz.prog J0 81 #[.int .i64 n] (.bool (inB n 0 300)) :=
 pureC_of (ts := [.int .i64 n]) J0_st (c0 := entryC Tryz.prog 81 5 (([.int .i64 n]).map (pushT 0 4))) (by kernel_rfl) (by kernel_rfl) fun B hJ => pareDays_e n  hJ
end Go.Proofs.YtiabgkiccaodmaaGreat

namespace Go.Proofs.YtiabgkiccaodmaaGreat
open Go Go.CE Go.RowKit
set_option maxRecDepth 100000
def numsB (things : Int) : List Int → Int → Bool
 | [], _ => true
 | n :: l, least => inB n least (things - 1) && numsB things l (n + 1)
def sumL : List Int → Int
 | [] => 0
 | x :: l => x + sumL l
theorem numsB_cons {things least i : Int} {l : List Int} (h0 : 0 ≤ i) (h : i < l.length) : numsB things (l.drop i.toNat) least = (inB (l.getD i.toNat default) least (things - 1) && numsB things (l.drop (i + 1).toNat) (l.getD i.toNat default + 1)) := by
 obtain ⟨k, rfl⟩ : ∃ k : Nat, i = k := ⟨i.toNat, by omega⟩
 have hk : k < l.length := by omega
 have e1 : ((k : Int)).toNat = k := by omega
 have e2 : ((k : Int) + 1).toNat = k + 1 := by omega
 rw [e1, e2, List.drop_eq_getElem_cons hk]
 simp [numsB, List.getD_eq_getElem?_getD, hk]
theorem numsB_nil {things least i : Int} {l : List Int} (h : l.length ≤ i) : numsB things (l.drop i.toNat) least = true := by
 rw [List.drop_eq_nil_of_le (by omega)]; rfl
theorem sumL_cons {i : Int} {l : List Int} (h0 : 0 ≤ i) (h : i < l.length) : sumL (l.drop i.toNat) = l.getD i.toNat default + sumL (l.drop (i + 1).toNat) := by
 obtain ⟨k, rfl⟩ : ∃ k : Nat, i = k := ⟨i.toNat, by omega⟩
 have hk : k < l.length := by omega
 have e1 : ((k : Int)).toNat = k := by omega
 have e2 : ((k : Int) + 1).toNat = k + 1 := by omega
 rw [e1, e2, List.drop_eq_getElem_cons hk]
 simp [sumL, List.getD_eq_getElem?_getD, hk]
theorem sumL_nil {i : Int} {l : List Int} (h : l.length ≤ i) : sumL (l.drop i.toNat) = 0 := by
 rw [List.drop_eq_nil_of_le (by omega)]; rfl
theorem getD_mem {α : Type} [Inhabited α] {l : List α} {i : Int} (h0 : 0 ≤ i) (h : i < l.length) : l.getD i.toNat default ∈ l := by
 have hk : i.toNat < l.length := by omega
 rw [List.getD_eq_getElem?_getD, List.getElem?_eq_getElem hk]; exact List.getElem_mem hk
theorem nums_in {things : Int} : ∀ {l : List Int} {least : Int}, numsB things l least = true → 0 ≤ least → ∀ x ∈ l, 0 ≤ x ∧ x < things
 | [], _, _, _, x, hx => by simp at hx
 | n :: l, least, h, h0, x, hx => by
   simp only [numsB, Bool.and_eq_true, inB_iff] at h
   rcases List.mem_cons.1 hx with rfl | hx
   ·omega
   ·exact nums_in h.2 (by omega) x hx
theorem setL_lt {k : Nat} (hk : k ≤ 61) : ∀ (l : List Int) (s : Int), (∀ x ∈ l, 0 ≤ x ∧ x < k) → 0 ≤ s → s < 2 ^ k → 0 ≤ setL l s ∧ setL l s < 2 ^ k
 | [], s, _, h0, h1 => ⟨h0, h1⟩
 | n :: l, s, h, h0, h1 => by
   have hn := h n (by simp)
   exact setL_lt hk l (setW s n) (fun x hx => h x (by simp [hx])) (Int.natCast_nonneg _) (setW_lt h0 h1 (by omega))
theorem lenI_lt {s : Int} {k : Nat} (h0 : 0 ≤ s) (h1 : s < 2 ^ k) : lenI s ≤ k := by
 unfold lenI
 by_cases hs : s = 0
 ·rw [if_pos hs]; omega
 ·rw [if_neg hs]
  obtain ⟨b, rfl⟩ : ∃ b : Nat, s = b := ⟨s.toNat, by omega⟩
  have hb : b ≠ 0 := by omega
  have h2 : b < 2 ^ k := by
   have e : (2 : Int) ^ k = ((2 ^ k : Nat) : Int) := by rw [Int.natCast_pow]; rfl
   rw [e] at h1; exact_mod_cast h1
  have := (Nat.log2_lt hb).2 h2
  rw [Int.toNat_natCast]; omega
theorem pick_mem {α : Type} [Inhabited α] {s n : Int} {xs : List α} (hn : 0 ≤ n) (hx : lenI s ≤ xs.length) : ∀ x ∈ pickL s xs n, x ∈ xs := by
 intro x h
 unfold pickL at h
 obtain ⟨k, hk, rfl⟩ := List.mem_map.1 h
 have hk := (List.mem_filter.1 hk).1
 unfold upI at hk
 obtain ⟨j, hj, rfl⟩ := List.mem_map.1 hk
 have := List.mem_range.1 hj
 exact getD_mem (by omega) (by omega)
theorem pick_len {α : Type} [Inhabited α] {s n : Int} {xs : List α} (hn : 0 ≤ n) : ((pickL s xs n).length : Int) ≤ max 0 (lenI s - n) := by
 unfold pickL
 rw [List.length_map]
 have := List.length_filter_le (setB s) (upI n (lenI s))
 have e : (upI n (lenI s)).length = (lenI s - n).toNat := by simp [upI]
 omega
theorem store_lots {s : ShStore} (h : storeB s = true) : s.lots.length ≤ 6 ∧ ∀ l ∈ s.lots, lotB s.stock.length l = true := by
 simp only [storeB, lotsB, Bool.and_eq_true, decide_eq_true_iff, List.all_eq_true] at h
 exact ⟨h.2.2.2.2.2.1.1, h.2.2.2.2.2.1.2⟩
theorem lot_facts {k : Nat} {l : ShLot} (h : lotB k l = true) : l.goods.length = k ∧ (∀ g ∈ l.goods, 0 ≤ g.lo ∧ g.lo ≤ g.hi ∧ g.hi ≤ 100000) ∧ 0 ≤ l.weight ∧ l.weight ≤ 100000 ∧ 0 ≤ l.cost ∧ l.cost ≤ 1000000 := by
 simp only [lotB, spansB, spanB, Bool.and_eq_true, decide_eq_true_iff, List.all_eq_true, inB_iff] at h
 exact ⟨h.1, h.2.1, h.2.2.1.1, h.2.2.1.2, h.2.2.2.1, h.2.2.2.2⟩
def fitsB (s : ShStore) (load : Int) : Bool := decide (sumL ((pickL load s.lots 0).map ShLot.weight) ≤ s.hold)
def loadB (s : ShStore) (load : List Int) : Bool := numsB s.lots.length load 0 && fitsB s (setL load 0)
def pareNumbers_v0 (xs : List Int) (things : Int) (least i : Int) : List Value := [.int .i64 things, .int .i64 least, topV 1 (slT xs.length (rowL encI xs)), .int .i64 (↑xs.length : Int), .int .i64 i]
def pareNumbers_o0 (xs : List Int) (things : Int) (least i : Int) : List Obj := []
noncomputable def pareNumbers_t0 : List Item := ([.code [1, 1, 0, 1, 0, 0], .inLoop [1, 1, 0, 1, 0, 0], .inBlock 0, .code [1, 1, 1]]).map (it (bodyOf Tryz.prog 115))
def pareNumbers_h0 (B : Lo) (c0 : CF) (xs : List Int) (things : Int) (least i : Int) : Prop := ∃ dJ : Nat → Value, (∀ t, Loose (dJ t)) ∧ GoE Tryz.prog B c0 H00 1 (headC 115 23 (([1, 5, 8, 9, 10] : List Nat).zip (pareNumbers_v0 xs things least i)) dJ pareNumbers_t0) (headH (pareNumbers_o0 xs things least i)) (2 + (pareNumbers_o0 xs things least i).length) []
noncomputable def pareNumbers_p0 (B : Lo) (xs : List Int) (things : Int) (least i : Int) (dJ0 : Nat → Value) : List Prop := [wq (things - 1) = things - 1, i = (↑i.toNat : Int) ∧ Int.toNat i < List.length xs ∧ Array.extract (rowL encI xs) (Int.toNat i * TypeInfo.size Tryz.t3) (Int.toNat i * TypeInfo.size Tryz.t3 + TypeInfo.size Tryz.t3) = #[.int .i64 (List.getD xs i.toNat default)], ltq i (↑xs.length : Int) = true] ++ ([] : List Prop)
noncomputable def pareNumbers_q0 (xs : List Int) (things : Int) (least i : Int) (dJ0 : Nat → Value) : ScriptT := [(0, hvT), (1, HintT.tidx i.toNat #[.int .i64 (List.getD xs i.toNat default)]), (7, hvI (things - 1))]
theorem pareNumbers_s0 (B : Lo) (xs : List Int) (things : Int) (least i : Int) (dJ0 : Nat → Value) : landM (srunT Tryz.prog (okFn Tryz.prog) J0 B 18 1 (headC 115 23 (([1, 5, 8, 9, 10] : List Nat).zip (pareNumbers_v0 xs things least i)) dJ0 pareNumbers_t0) (headH (pareNumbers_o0 xs things least i)) (2 + (pareNumbers_o0 xs things least i).length)
 (pareNumbers_q0 xs things least i dJ0 ++ [(8, HintT.pure (Value.bool true) []), (11, hvI (List.getD xs i.toNat default + 1)), (13, hvI (i + 1))]) 0 [] []) [1, 5, 8, 9, 10] [] [] = some ⟨115, 23, pareNumbers_t0, [], .run, none, pareNumbers_v0 xs things (List.getD xs i.toNat default + 1) (i + 1), pareNumbers_o0 xs things (List.getD xs i.toNat default + 1) (i + 1),
 [wq (i + 1) = i + 1, wq (List.getD xs i.toNat default + 1) = List.getD xs i.toNat default + 1, AllP [] ∧ PureC Tryz.prog J0 76 #[.int .i64 (List.getD xs i.toNat default), .int .i64 least, .int .i64 (things - 1)] (Value.bool true)] ++ pareNumbers_p0 B xs things least i dJ0⟩ := by kernel_rfl
theorem pareNumbers_s1 (B : Lo) (xs : List Int) (things : Int) (least i : Int) (dJ0 : Nat → Value) : endT (srunT Tryz.prog (okFn Tryz.prog) J0 B 17 1 (headC 115 23 (([1, 5, 8, 9, 10] : List Nat).zip (pareNumbers_v0 xs things least i)) dJ0 pareNumbers_t0) (headH (pareNumbers_o0 xs things least i)) (2 + (pareNumbers_o0 xs things least i).length)
 (pareNumbers_q0 xs things least i dJ0 ++ [(8, HintT.pure (Value.bool false) [])]) 0 [] []) [] = some (Value.bool false,
 [AllP [] ∧ PureC Tryz.prog J0 76 #[.int .i64 (List.getD xs i.toNat default), .int .i64 least, .int .i64 (things - 1)] (Value.bool false)] ++ pareNumbers_p0 B xs things least i dJ0) := by kernel_rfl
theorem pareNumbers_s2 (B : Lo) (xs : List Int) (things : Int) (least i : Int) (dJ0 : Nat → Value) : endT (srunT Tryz.prog (okFn Tryz.prog) J0 B 9 1 (headC 115 23 (([1, 5, 8, 9, 10] : List Nat).zip (pareNumbers_v0 xs things least i)) dJ0 pareNumbers_t0) (headH (pareNumbers_o0 xs things least i)) (2 + (pareNumbers_o0 xs things least i).length)
 [(0, hvF)] 0 [] []) [] = some (Value.bool true,
 [ltq i (↑xs.length : Int) = false]) := by kernel_rfl
theorem pareNumbers_s3 (B : Lo) (xs : List Int) (things : Int) : landM (srunT Tryz.prog (okFn Tryz.prog) J0 B 9 1 (entryC Tryz.prog 115 23 (([slI xs, .int .i64 things]).map (pushT 0 4))) H00 1
 [] 0 [] []) [1, 5, 8, 9, 10] [] [] = some ⟨115, 23, pareNumbers_t0, [], .run, none, pareNumbers_v0 xs things (0) (0), pareNumbers_o0 xs things (0) (0),
 []⟩ := by kernel_rfl
set_option maxHeartbeats 4000000 in
theorem pareNumbers_ls (xs : List Int) (things : Int) (ht0 : 0 ≤ things ∧ things ≤ 1000000) (hfacts : xs.length ≤ 9223372036854775807) {B : Lo} (hJ : ∀ w, B.has w → J0 w) {c0 : CF} : ∀ m : Nat, (∀ (least i : Int), xs.length - i.toNat = m → ∀ (h0 : 0 ≤ i) (h1 : 0 ≤ least ∧ least ≤ 1000000), pareNumbers_h0 B c0 xs things least i → EndsT Tryz.prog B c0 (.bool (numsB things (xs.drop i.toNat) least))) := by
 intro m0
 induction m0 using Nat.strongRecOn with
 | _ m0 ih0 =>
   intro least i hm0 h0 h1 ⟨dJ0, hdJ0, hg0⟩
   by_cases q0 : (i : Int) < ((↑xs.length : Int))
   ·
    have hp0 : AllP (pareNumbers_p0 B xs things least i dJ0) := by
     have s2 := numsB_cons (things := things) (least := least) (l := xs) h0 q0
     exact ⟨(wq_in (by omega) (by omega)), ⟨⟨by omega, by omega, (rowL_extract (z := 1) (fun _ => rfl) (by omega))⟩, ⟨(ltq_t q0), trivial⟩⟩⟩
    cases q1 : inB (List.getD xs i.toNat default) least (things - 1) with
    | true =>
      have s2 := numsB_cons (things := things) (least := least) (l := xs) h0 q0
      have g1 := inB_iff.1 ‹inB _ least _ = true›
      exact ((ih0 _ (by omega)) (List.getD xs i.toNat default + 1) (i + 1) rfl (by omega) (by omega)
       (hg0.landM okF hJ mixed_ok (pareNumbers_s0 B xs things least i dJ0)
       ⟨(wq_in (by omega) (by omega)), ⟨(wq_in (by omega) (by omega)), ⟨⟨trivial, (by have t_ := pIn (List.getD xs i.toNat default) (least) (things - 1); rw [q1] at t_; exact t_)⟩, hp0⟩⟩⟩ (by kernel_rfl) (by kernel_rfl))).cast (by (rw [s2]; simp_all; done))
    | false =>
      have s2 := numsB_cons (things := things) (least := least) (l := xs) h0 q0
      exact (GoE.endsT okF hJ mixed_ok hg0 (pareNumbers_s1 B xs things least i dJ0)
       ⟨⟨trivial, (by have t_ := pIn (List.getD xs i.toNat default) (least) (things - 1); rw [q1] at t_; exact t_)⟩, hp0⟩).cast (by (rw [s2]; simp_all; done))
   ·
    have s2 := numsB_nil (things := things) (least := least) (l := xs) (i := i) (by omega)
    exact (GoE.endsT okF hJ mixed_ok hg0 (pareNumbers_s2 B xs things least i dJ0)
     ⟨(ltq_f (Int.not_lt.1 q0)), trivial⟩).cast (by (rw [s2]; done))
set_option maxHeartbeats 4000000 in
theorem pareNumbers_e (xs : List Int) (things : Int) (ht0 : 0 ≤ things ∧ things ≤ 1000000) (hfacts : xs.length ≤ 9223372036854775807) {B : Lo} (hJ : ∀ w, B.has w → J0 w) : EndsT Tryz.prog B (entryC Tryz.prog 115 23 (([slI xs, .int .i64 things]).map (pushT 0 4))) (.bool (numsB things xs 0)) := by
 exact ((pareNumbers_ls xs things ht0 hfacts hJ _) (0) (0) rfl (by omega) (by omega)
  (GoE.start.landM okF hJ mixed_ok (pareNumbers_s3 B xs things)
  trivial (by kernel_rfl) (by kernel_rfl))).cast (by rfl)
theorem pareNumbers (xs : List Int) (things : Int) (ht0 : 0 ≤ things ∧ things ≤ 1000000) : PureC Tryz.prog J0 115 #[slI xs, .int .i64 things] (.bool (numsB things xs 0)) :=
 pureC_ofF (ts := [slI xs, .int .i64 things]) (xs.length ≤ 9223372036854775807) (fun _ _ ht => ht.ln (i := 0) rfl) J0_st (c0 := entryC Tryz.prog 115 23 (([slI xs, .int .i64 things]).map (pushT 0 4))) (by kernel_rfl) (by kernel_rfl) fun hfacts B hJ => pareNumbers_e xs things ht0 hfacts hJ
def pSum_v0 (xs : List Int) (acc i : Int) : List Value := [.int .i64 acc, topV 1 (slT xs.length (rowL encI xs)), .int .i64 (↑xs.length : Int), .int .i64 i]
def pSum_o0 (xs : List Int) (acc i : Int) : List Obj := []
noncomputable def pSum_t0 : List Item := ([.code [1, 1, 0, 1, 0, 0], .inLoop [1, 1, 0, 1, 0, 0], .inBlock 0, .code [1, 1, 1]]).map (it (bodyOf Tryz.prog 124))
def pSum_h0 (B : Lo) (c0 : CF) (xs : List Int) (acc i : Int) : Prop := ∃ dJ : Nat → Value, (∀ t, Loose (dJ t)) ∧ GoE Tryz.prog B c0 H00 1 (headC 124 17 (([3, 6, 7, 8] : List Nat).zip (pSum_v0 xs acc i)) dJ pSum_t0) (headH (pSum_o0 xs acc i)) (2 + (pSum_o0 xs acc i).length) []
theorem pSum_s0 (B : Lo) (xs : List Int) (acc i : Int) (dJ0 : Nat → Value) : landM (srunT Tryz.prog (okFn Tryz.prog) J0 B 13 1 (headC 124 17 (([3, 6, 7, 8] : List Nat).zip (pSum_v0 xs acc i)) dJ0 pSum_t0) (headH (pSum_o0 xs acc i)) (2 + (pSum_o0 xs acc i).length)
 [(0, hvT), (1, HintT.tidx i.toNat #[.int .i64 (List.getD xs i.toNat default)]), (6, hvI (acc + List.getD xs i.toNat default)), (8, hvI (i + 1))] 0 [] []) [3, 6, 7, 8] [] [] = some ⟨124, 17, pSum_t0, [], .run, none, pSum_v0 xs (acc + List.getD xs i.toNat default) (i + 1), pSum_o0 xs (acc + List.getD xs i.toNat default) (i + 1),
 [wq (i + 1) = i + 1, wq (acc + List.getD xs i.toNat default) = acc + List.getD xs i.toNat default, i = (↑i.toNat : Int) ∧ Int.toNat i < List.length xs ∧ Array.extract (rowL encI xs) (Int.toNat i * TypeInfo.size Tryz.t3) (Int.toNat i * TypeInfo.size Tryz.t3 + TypeInfo.size Tryz.t3) = #[.int .i64 (List.getD xs i.toNat default)], ltq i (↑xs.length : Int) = true]⟩ := by kernel_rfl
theorem pSum_s1 (B : Lo) (xs : List Int) (acc i : Int) (dJ0 : Nat → Value) : endT (srunT Tryz.prog (okFn Tryz.prog) J0 B 9 1 (headC 124 17 (([3, 6, 7, 8] : List Nat).zip (pSum_v0 xs acc i)) dJ0 pSum_t0) (headH (pSum_o0 xs acc i)) (2 + (pSum_o0 xs acc i).length)
 [(0, hvF)] 0 [] []) [] = some (.int .i64 acc,
 [ltq i (↑xs.length : Int) = false]) := by kernel_rfl
theorem pSum_s2 (B : Lo) (xs : List Int) : landM (srunT Tryz.prog (okFn Tryz.prog) J0 B 9 1 (entryC Tryz.prog 124 17 (([slI xs]).map (pushT 0 4))) H00 1
 [] 0 [] []) [3, 6, 7, 8] [] [] = some ⟨124, 17, pSum_t0, [], .run, none, pSum_v0 xs (0) (0), pSum_o0 xs (0) (0),
 []⟩ := by kernel_rfl
set_option maxHeartbeats 4000000 in
theorem pSum_ls (xs : List Int) (hx : ∀ x ∈ xs, -1000000000 ≤ x ∧ x ≤ 1000000000) (hl : xs.length ≤ 1000) {B : Lo} (hJ : ∀ w, B.has w → J0 w) {c0 : CF} : ∀ m : Nat, (∀ (acc i : Int), xs.length - i.toNat = m → ∀ (h0 : 0 ≤ i) (h1 : -1000000000 * i ≤ acc ∧ acc ≤ 1000000000 * i), pSum_h0 B c0 xs acc i → EndsT Tryz.prog B c0 (.int .i64 (acc + sumL (xs.drop i.toNat)))) := by
 intro m0
 induction m0 using Nat.strongRecOn with
 | _ m0 ih0 =>
   intro acc i hm0 h0 h1 ⟨dJ0, hdJ0, hg0⟩
   by_cases q0 : (i : Int) < ((↑xs.length : Int))
   ·
    have s2 := sumL_cons (l := xs) h0 q0
    have g1 := hx _ (getD_mem h0 q0)
    exact ((ih0 _ (by omega)) (acc + List.getD xs i.toNat default) (i + 1) rfl (by omega) (by omega)
     (hg0.landM okF hJ mixed_ok (pSum_s0 B xs acc i dJ0)
     ⟨(wq_in (by omega) (by omega)), ⟨(wq_in (by omega) (by omega)), ⟨⟨by omega, by omega, (rowL_extract (z := 1) (fun _ => rfl) (by omega))⟩, ⟨(ltq_t q0), trivial⟩⟩⟩⟩ (by kernel_rfl) (by kernel_rfl))).cast (by (rw [s2, Int.add_assoc]; done))
   ·
    have s2 := sumL_nil (l := xs) (i := i) (by omega)
    exact (GoE.endsT okF hJ mixed_ok hg0 (pSum_s1 B xs acc i dJ0)
     ⟨(ltq_f (Int.not_lt.1 q0)), trivial⟩).cast (by (rw [s2]; simp; done))
set_option maxHeartbeats 4000000 in
theorem pSum_e (xs : List Int) (hx : ∀ x ∈ xs, -1000000000 ≤ x ∧ x ≤ 1000000000) (hl : xs.length ≤ 1000) {B : Lo} (hJ : ∀ w, B.has w → J0 w) : EndsT Tryz.prog B (entryC Tryz.prog 124 17 (([slI xs]).map (pushT 0 4))) (.int .i64 (sumL xs)) := by
 exact ((pSum_ls xs hx hl hJ _) (0) (0) rfl (by omega) (by omega)
  (GoE.start.landM okF hJ mixed_ok (pSum_s2 B xs)
  trivial (by kernel_rfl) (by kernel_rfl))).cast (by (simp [*]; done))
theorem pSum (xs : List Int) (hx : ∀ x ∈ xs, -1000000000 ≤ x ∧ x ≤ 1000000000) (hl : xs.length ≤ 1000) : PureC Tryz.prog J0 124 #[slI xs] (.int .i64 (sumL xs)) :=
 pureC_of (ts := [slI xs]) J0_st (c0 := entryC Tryz.prog 124 17 (([slI xs]).map (pushT 0 4))) (by kernel_rfl) (by kernel_rfl) fun B hJ => pSum_e xs hx hl hJ
noncomputable def pfits_p0 (B : Lo) (s : ShStore) (load : Int) : List Prop := [AllP [] ∧ PureC Tryz.prog J0 124 #[slT (List.length (List.map ShLot.weight (pickL load s.lots 0))) (rowL encI (List.map ShLot.weight (pickL load s.lots 0)))] (.int .i64 (sumL (List.map ShLot.weight (pickL load s.lots 0)))), AllP [] ∧ PureC Tryz.prog J0 92 #[slT (List.length (pickL load s.lots 0)) (rowL encLot (pickL load s.lots 0)), Value.func (Fn.func 140) #[] #[]] (slT (List.length (List.map ShLot.weight (pickL load s.lots 0))) (rowL encI (List.map ShLot.weight (pickL load s.lots 0)))), AllP [] ∧ PureC Tryz.prog J0 139 #[.int .i64 load, slT s.lots.length (rowL encLot s.lots)] (slT (List.length (pickL load s.lots 0)) (rowL encLot (pickL load s.lots 0)))] ++ ([] : List Prop)
noncomputable def pfits_q0 (s : ShStore) (load : Int) : ScriptT := [(5, HintT.pure (slT (List.length (pickL load s.lots 0)) (rowL encLot (pickL load s.lots 0))) []), (6, HintT.pure (slT (List.length (List.map ShLot.weight (pickL load s.lots 0))) (rowL encI (List.map ShLot.weight (pickL load s.lots 0)))) []), (9, HintT.pure (.int .i64 (sumL (List.map ShLot.weight (pickL load s.lots 0)))) [])]
theorem pfits_s0 (B : Lo) (s : ShStore) (load : Int) : endT (srunT Tryz.prog (okFn Tryz.prog) J0 B 8 1 (entryC Tryz.prog 96 16 (([.agg (encStore s).toArray, .int .i64 load]).map (pushT 0 4))) H00 1
 (pfits_q0 s load ++ [(12, hvT)]) 0 [] []) [] = some (Value.bool true,
 [(!ltq s.hold (sumL (List.map ShLot.weight (pickL load s.lots 0)))) = true] ++ pfits_p0 B s load) := by kernel_rfl
theorem pfits_s1 (B : Lo) (s : ShStore) (load : Int) : endT (srunT Tryz.prog (okFn Tryz.prog) J0 B 8 1 (entryC Tryz.prog 96 16 (([.agg (encStore s).toArray, .int .i64 load]).map (pushT 0 4))) H00 1
 (pfits_q0 s load ++ [(12, hvF)]) 0 [] []) [] = some (Value.bool false,
 [(!ltq s.hold (sumL (List.map ShLot.weight (pickL load s.lots 0)))) = false] ++ pfits_p0 B s load) := by kernel_rfl
set_option maxHeartbeats 4000000 in
theorem pfits_e (s : ShStore) (load : Int) (hs : storeB s = true) (h0 : 0 ≤ load) (h1 : load < 64) (hx : lenI load ≤ s.lots.length) {B : Lo} (hJ : ∀ w, B.has w → J0 w) : EndsT Tryz.prog B (entryC Tryz.prog 96 16 (([.agg (encStore s).toArray, .int .i64 load]).map (pushT 0 4))) (.bool (fitsB s load)) := by
 have hm := store_lots hs
 have hw : ∀ x ∈ (pickL load s.lots 0).map ShLot.weight, -1000000000 ≤ x ∧ x ≤ 1000000000 := fun x h => by obtain ⟨l, hl, rfl⟩ := List.mem_map.1 h; have := lot_facts (hm.2 l (pick_mem (Int.le_refl _) hx l hl)); omega
 have hll := pick_len (s := load) (n := 0) (xs := s.lots) (Int.le_refl _)
 have hw2 : ((pickL load s.lots 0).map ShLot.weight).length ≤ 1000 := by rw [List.length_map]; omega
 have hp0 : AllP (pfits_p0 B s load) := by
  exact ⟨⟨trivial, pSum (List.map ShLot.weight (pickL load s.lots 0)) (by with_reducible assumption) (by with_reducible assumption)⟩, ⟨⟨trivial, pEachW (pickL load s.lots 0) (by omega)⟩, ⟨⟨trivial, pPickL (load) s.lots (by with_reducible assumption) (by with_reducible assumption) (by with_reducible assumption)⟩, trivial⟩⟩⟩
 by_cases q0 : (sumL (List.map ShLot.weight (pickL load s.lots 0)) : Int) ≤ s.hold
 ·
  exact (GoE.endsT okF hJ mixed_ok GoE.start (pfits_s0 B s load)
   ⟨(nltq_t q0), hp0⟩).cast (by (simp [fitsB, *]; done))
 ·
  exact (GoE.endsT okF hJ mixed_ok GoE.start (pfits_s1 B s load)
   ⟨(nltq_f (Int.not_le.1 q0)), hp0⟩).cast (by (simp [fitsB, *]; done))
theorem pfits (s : ShStore) (load : Int) (hs : storeB s = true) (h0 : 0 ≤ load) (h1 : load < 64) (hx : lenI load ≤ s.lots.length) : PureC Tryz.prog J0 96 #[.agg (encStore s).toArray, .int .i64 load] (.bool (fitsB s load)) :=
 pureC_of (ts := [.agg (encStore s).toArray, .int .i64 load]) J0_st (c0 := entryC Tryz.prog 96 16 (([.agg (encStore s).toArray, .int .i64 load]).map (pushT 0 4))) (by kernel_rfl) (by kernel_rfl) fun B hJ => pfits_e s load hs h0 h1 hx hJ
noncomputable def pisLoad_p0 (B : Lo) (s : ShStore) (load : List Int) : List Prop := [AllP [] ∧ PureC Tryz.prog J0 116 #[slT load.length (rowL encI load)] (.int .i64 (setL load 0)), AllP [] ∧ PureC Tryz.prog J0 115 #[slT load.length (rowL encI load), .int .i64 (↑s.lots.length : Int)] (Value.bool true)] ++ ([] : List Prop)
noncomputable def pisLoad_q0 (s : ShStore) (load : List Int) : ScriptT := [(6, HintT.pure (Value.bool true) []), (10, HintT.pure (.int .i64 (setL load 0)) [])]
theorem pisLoad_s0 (B : Lo) (s : ShStore) (load : List Int) : endT (srunT Tryz.prog (okFn Tryz.prog) J0 B 6 1 (entryC Tryz.prog 80 16 (([.agg (encStore s).toArray, slI load]).map (pushT 0 4))) H00 1
 (pisLoad_q0 s load ++ [(11, HintT.pure (Value.bool true) [])]) 0 [] []) [] = some (Value.bool true,
 [AllP [] ∧ PureC Tryz.prog J0 96 #[Value.agg #[slT s.stock.length (rowL encI s.stock), slT s.use.length (rowL encSp s.use), .int .i64 s.glo, .int .i64 s.ghi, slT s.lots.length (rowL encLot s.lots), .int .i64 s.hold], .int .i64 (setL load 0)] (Value.bool true)] ++ pisLoad_p0 B s load) := by kernel_rfl
theorem pisLoad_s1 (B : Lo) (s : ShStore) (load : List Int) : endT (srunT Tryz.prog (okFn Tryz.prog) J0 B 6 1 (entryC Tryz.prog 80 16 (([.agg (encStore s).toArray, slI load]).map (pushT 0 4))) H00 1
 (pisLoad_q0 s load ++ [(11, HintT.pure (Value.bool false) [])]) 0 [] []) [] = some (Value.bool false,
 [AllP [] ∧ PureC Tryz.prog J0 96 #[Value.agg #[slT s.stock.length (rowL encI s.stock), slT s.use.length (rowL encSp s.use), .int .i64 s.glo, .int .i64 s.ghi, slT s.lots.length (rowL encLot s.lots), .int .i64 s.hold], .int .i64 (setL load 0)] (Value.bool false)] ++ pisLoad_p0 B s load) := by kernel_rfl
theorem pisLoad_s2 (B : Lo) (s : ShStore) (load : List Int) : endT (srunT Tryz.prog (okFn Tryz.prog) J0 B 6 1 (entryC Tryz.prog 80 16 (([.agg (encStore s).toArray, slI load]).map (pushT 0 4))) H00 1
 [(6, HintT.pure (Value.bool false) [])] 0 [] []) [] = some (Value.bool false,
 [AllP [] ∧ PureC Tryz.prog J0 115 #[slT load.length (rowL encI load), .int .i64 (↑s.lots.length : Int)] (Value.bool false)]) := by kernel_rfl
set_option maxHeartbeats 4000000 in
theorem pisLoad_e (s : ShStore) (load : List Int) (hs : storeB s = true) {B : Lo} (hJ : ∀ w, B.has w → J0 w) : EndsT Tryz.prog B (entryC Tryz.prog 80 16 (([.agg (encStore s).toArray, slI load]).map (pushT 0 4))) (.bool (loadB s load)) := by
 have hm := store_lots hs
 cases q0 : numsB (↑s.lots.length : Int) load 0 with
 | true =>
   have hp0 : AllP (pisLoad_p0 B s load) := by
    have g1 := nums_in ‹numsB s.lots.length load 0 = true› (Int.le_refl 0)
    have g2 : ∀ x ∈ load, 0 ≤ x ∧ x ≤ 61 := fun x h => by have := g1 x h; omega
    have g3 := setL_lt (k := s.lots.length) (by omega) load 0 g1 (Int.le_refl 0) (Int.pow_pos (by decide))
    have g4 : setL load 0 < 64 := Int.lt_of_lt_of_le g3.2 (by have : (2 : Nat) ^ s.lots.length ≤ 2 ^ 6 := Nat.pow_le_pow_right (by decide) (by omega); have e : (2 : Int) ^ s.lots.length = ((2 ^ s.lots.length : Nat) : Int) := by { rw [Int.natCast_pow]; rfl }; rw [e]; omega)
    have g5 := lenI_lt g3.1 g3.2
    have g6 := g3.1
    exact ⟨⟨trivial, pOf (load) (by with_reducible assumption)⟩, ⟨⟨trivial, (by have t_ := pareNumbers (load) ((↑s.lots.length : Int)) (by omega); rw [q0] at t_; exact t_)⟩, trivial⟩⟩
   cases q1 : fitsB s (setL load 0) with
   | true =>
     have g1 := nums_in ‹numsB s.lots.length load 0 = true› (Int.le_refl 0)
     have g2 : ∀ x ∈ load, 0 ≤ x ∧ x ≤ 61 := fun x h => by have := g1 x h; omega
     have g3 := setL_lt (k := s.lots.length) (by omega) load 0 g1 (Int.le_refl 0) (Int.pow_pos (by decide))
     have g4 : setL load 0 < 64 := Int.lt_of_lt_of_le g3.2 (by have : (2 : Nat) ^ s.lots.length ≤ 2 ^ 6 := Nat.pow_le_pow_right (by decide) (by omega); have e : (2 : Int) ^ s.lots.length = ((2 ^ s.lots.length : Nat) : Int) := by { rw [Int.natCast_pow]; rfl }; rw [e]; omega)
     have g5 := lenI_lt g3.1 g3.2
     have g6 := g3.1
     exact (GoE.endsT okF hJ mixed_ok GoE.start (pisLoad_s0 B s load)
      ⟨⟨trivial, (by have t_ := pfits (s) (setL load 0) (by with_reducible assumption) (by with_reducible assumption) (by with_reducible assumption) (by with_reducible assumption); rw [q1] at t_; exact t_)⟩, hp0⟩).cast (by (simp [loadB, *]; done))
   | false =>
     have g1 := nums_in ‹numsB s.lots.length load 0 = true› (Int.le_refl 0)
     have g2 : ∀ x ∈ load, 0 ≤ x ∧ x ≤ 61 := fun x h => by have := g1 x h; omega
     have g3 := setL_lt (k := s.lots.length) (by omega) load 0 g1 (Int.le_refl 0) (Int.pow_pos (by decide))
     have g4 : setL load 0 < 64 := Int.lt_of_lt_of_le g3.2 (by have : (2 : Nat) ^ s.lots.length ≤ 2 ^ 6 := Nat.pow_le_pow_right (by decide) (by omega); have e : (2 : Int) ^ s.lots.length = ((2 ^ s.lots.length : Nat) : Int) := by { rw [Int.natCast_pow]; rfl }; rw [e]; omega)
     have g5 := lenI_lt g3.1 g3.2
     have g6 := g3.1
     exact (GoE.endsT okF hJ mixed_ok GoE.start (pisLoad_s1 B s load)
      ⟨⟨trivial, (by have t_ := pfits (s) (setL load 0) (by with_reducible assumption) (by with_reducible assumption) (by with_reducible assumption) (by with_reducible assumption); rw [q1] at t_; exact t_)⟩, hp0⟩).cast (by (simp [loadB, *]; done))
 | false =>
   exact (GoE.endsT okF hJ mixed_ok GoE.start (pisLoad_s2 B s load)
    ⟨⟨trivial, (by have t_ := pareNumbers (load) ((↑s.lots.length : Int)) (by omega); rw [q0] at t_; exact t_)⟩, trivial⟩).cast (by (simp [loadB, *]; done))
theorem pisLoad (s : ShStore) (load : List Int) (hs : storeB s = true) : PureC Tryz.prog J0 80 #[.agg (encStore s).toArray, slI load] (.bool (loadB s load)) :=
 pureC_of (ts := [.agg (encStore s).toArray, slI load]) J0_st (c0 := entryC Tryz.prog 80 16 (([.agg (encStore s).toArray, slI load]).map (pushT 0 4))) (by kernel_rfl) (by kernel_rfl) fun B hJ => pisLoad_e s load hs hJ
end Go.Proofs.YtiabgkiccaodmaaGreat

namespace Go.Proofs.YtiabgkiccaodmaaGreat
open Go Go.CE Go.RowKit
set_option maxRecDepth 100000
structure ShTruth where
 uses : List Int
 gaps : List Int
 goods : List Row
deriving Inhabited
abbrev slR (xs : List Row) : Value := slT xs.length (rowL encRow xs)
def encTruth (t : ShTruth) : List Value := [slI t.uses, slI t.gaps, slR t.goods]
def allU (ns : List Int) (ss : List Span) (i : Int) : Bool := (upI i ns.length).all fun k => inB (ns.getD k.toNat default) (ss.getD k.toNat default).lo (ss.getD k.toNat default).hi
theorem allU_cons {ns : List Int} {ss : List Span} {i : Int} (h : i < ns.length) : allU ns ss i = (inB (ns.getD i.toNat default) (ss.getD i.toNat default).lo (ss.getD i.toNat default).hi && allU ns ss (i + 1)) := by
 unfold allU; rw [upI_cons h]; rfl
theorem allU_nil {ns : List Int} {ss : List Span} {i : Int} (h : ns.length ≤ i) : allU ns ss i = true := by unfold allU; rw [upI_nil h]; rfl
def inSpansB (ns : List Int) (ss : List Span) : Bool := decide (ns.length = ss.length) && allU ns ss 0
def allG (s : ShStore) (all : List Row) (i : Int) : Bool := (upI i s.lots.length).all fun k => inSpansB (all.getD k.toNat default) (s.lots.getD k.toNat default).goods
theorem allG_cons {s : ShStore} {all : List Row} {i : Int} (h : i < s.lots.length) : allG s all i = (inSpansB (all.getD i.toNat default) (s.lots.getD i.toNat default).goods && allG s all (i + 1)) := by
 unfold allG; rw [upI_cons h]; rfl
theorem allG_nil {s : ShStore} {all : List Row} {i : Int} (h : s.lots.length ≤ i) : allG s all i = true := by unfold allG; rw [upI_nil h]; rfl
def goodsB (s : ShStore) (all : List Row) : Bool := decide (all.length = s.lots.length) && allG s all 0
def gapsB (s : ShStore) (days : Int) (gaps : List Int) : Bool := decide (gaps.length ≤ 300) && (gaps.all (fun x => inB x s.glo s.ghi) && decide (days ≤ sumL gaps))
def truthB (s : ShStore) (days : Int) (t : ShTruth) : Bool := inSpansB t.uses s.use && (gapsB s days t.gaps && goodsB s t.goods)
theorem store_gap {s : ShStore} (h : storeB s = true) : 1 ≤ s.glo ∧ s.glo ≤ s.ghi ∧ s.ghi ≤ 60 := by
 simp only [storeB, spanB, Bool.and_eq_true, decide_eq_true_iff] at h
 exact ⟨h.2.2.2.2.1.1, h.2.2.2.2.1.2.1, h.2.2.2.2.1.2.2⟩
def pInSpans_v0 (ns : List Int) (ss : List Span) (i : Int) : List Value := [topV 1 (slT ss.length (rowL encSp ss)), topV 1 (slT ns.length (rowL encI ns)), .int .i64 (↑ns.length : Int), .int .i64 i]
def pInSpans_o0 (ns : List Int) (ss : List Span) (i : Int) : List Obj := []
noncomputable def pInSpans_t0 : List Item := ([.code [1, 1, 0, 1, 0, 0], .inLoop [1, 1, 0, 1, 0, 0], .inBlock 0, .code [1, 1, 1]]).map (it (bodyOf Tryz.prog 117))
def pInSpans_h0 (B : Lo) (c0 : CF) (ns : List Int) (ss : List Span) (i : Int) : Prop := ∃ dJ : Nat → Value, (∀ t, Loose (dJ t)) ∧ GoE Tryz.prog B c0 H00 1 (headC 117 27 (([1, 12, 13, 14] : List Nat).zip (pInSpans_v0 ns ss i)) dJ pInSpans_t0) (headH (pInSpans_o0 ns ss i)) (2 + (pInSpans_o0 ns ss i).length) []
noncomputable def pInSpans_z0 (ss : List Span) (i : Int) : Array Value := #[.int .i64 (Span.lo (List.getD ss i.toNat default)), .int .i64 (Span.hi (List.getD ss i.toNat default))]
noncomputable def pInSpans_p0 (B : Lo) (ns : List Int) (ss : List Span) (i : Int) (dJ0 : Nat → Value) : List Prop := [i = (↑i.toNat : Int) ∧ Int.toNat i < List.length ss ∧ Array.extract (rowL encSp ss) (Int.toNat i * TypeInfo.size Tryz.t25) (Int.toNat i * TypeInfo.size Tryz.t25 + TypeInfo.size Tryz.t25) = (pInSpans_z0 ss i), i = (↑i.toNat : Int) ∧ Int.toNat i < List.length ns ∧ Array.extract (rowL encI ns) (Int.toNat i * TypeInfo.size Tryz.t3) (Int.toNat i * TypeInfo.size Tryz.t3 + TypeInfo.size Tryz.t3) = #[.int .i64 (List.getD ns i.toNat default)], ltq i (↑ns.length : Int) = true] ++ ([] : List Prop)
noncomputable def pInSpans_q0 (ns : List Int) (ss : List Span) (i : Int) (dJ0 : Nat → Value) : ScriptT := [(0, hvT), (2, HintT.tidx i.toNat #[.int .i64 (List.getD ns i.toNat default)]), (9, HintT.tidx i.toNat (pInSpans_z0 ss i))]
theorem pInSpans_s0 (B : Lo) (ns : List Int) (ss : List Span) (i : Int) (dJ0 : Nat → Value) : landM (srunT Tryz.prog (okFn Tryz.prog) J0 B 16 1 (headC 117 27 (([1, 12, 13, 14] : List Nat).zip (pInSpans_v0 ns ss i)) dJ0 pInSpans_t0) (headH (pInSpans_o0 ns ss i)) (2 + (pInSpans_o0 ns ss i).length)
 (pInSpans_q0 ns ss i dJ0 ++ [(11, HintT.pure (Value.bool true) []), (13, hvI (i + 1))]) 0 [] []) [1, 12, 13, 14] [] [] = some ⟨117, 27, pInSpans_t0, [], .run, none, pInSpans_v0 ns ss (i + 1), pInSpans_o0 ns ss (i + 1),
 [wq (i + 1) = i + 1, AllP [] ∧ PureC Tryz.prog J0 73 #[.int .i64 (List.getD ns i.toNat default), Value.agg (pInSpans_z0 ss i)] (Value.bool true)] ++ pInSpans_p0 B ns ss i dJ0⟩ := by kernel_rfl
theorem pInSpans_s1 (B : Lo) (ns : List Int) (ss : List Span) (i : Int) (dJ0 : Nat → Value) : endT (srunT Tryz.prog (okFn Tryz.prog) J0 B 16 1 (headC 117 27 (([1, 12, 13, 14] : List Nat).zip (pInSpans_v0 ns ss i)) dJ0 pInSpans_t0) (headH (pInSpans_o0 ns ss i)) (2 + (pInSpans_o0 ns ss i).length)
 (pInSpans_q0 ns ss i dJ0 ++ [(11, HintT.pure (Value.bool false) [])]) 0 [] []) [] = some (Value.bool false,
 [AllP [] ∧ PureC Tryz.prog J0 73 #[.int .i64 (List.getD ns i.toNat default), Value.agg (pInSpans_z0 ss i)] (Value.bool false)] ++ pInSpans_p0 B ns ss i dJ0) := by kernel_rfl
theorem pInSpans_s2 (B : Lo) (ns : List Int) (ss : List Span) (i : Int) (dJ0 : Nat → Value) : endT (srunT Tryz.prog (okFn Tryz.prog) J0 B 9 1 (headC 117 27 (([1, 12, 13, 14] : List Nat).zip (pInSpans_v0 ns ss i)) dJ0 pInSpans_t0) (headH (pInSpans_o0 ns ss i)) (2 + (pInSpans_o0 ns ss i).length)
 [(0, hvF)] 0 [] []) [] = some (Value.bool true,
 [ltq i (↑ns.length : Int) = false]) := by kernel_rfl
theorem pInSpans_s3 (B : Lo) (ns : List Int) (ss : List Span) : endT (srunT Tryz.prog (okFn Tryz.prog) J0 B 10 1 (entryC Tryz.prog 117 27 (([slI ns, slSp ss]).map (pushT 0 4))) H00 1
 [(5, hvT)] 0 [] []) [] = some (Value.bool false,
 [(!eqq (↑ns.length : Int) (↑ss.length : Int)) = true]) := by kernel_rfl
theorem pInSpans_s4 (B : Lo) (ns : List Int) (ss : List Span) : landM (srunT Tryz.prog (okFn Tryz.prog) J0 B 12 1 (entryC Tryz.prog 117 27 (([slI ns, slSp ss]).map (pushT 0 4))) H00 1
 [(5, hvF)] 0 [] []) [1, 12, 13, 14] [] [] = some ⟨117, 27, pInSpans_t0, [], .run, none, pInSpans_v0 ns ss (0), pInSpans_o0 ns ss (0),
 [(!eqq (↑ns.length : Int) (↑ss.length : Int)) = false]⟩ := by kernel_rfl
set_option maxHeartbeats 4000000 in
theorem pInSpans_ls (ns : List Int) (ss : List Span)  (hfacts : ns.length ≤ 9223372036854775807 ∧ ss.length ≤ 9223372036854775807) {B : Lo} (hJ : ∀ w, B.has w → J0 w) {c0 : CF} : ∀ m : Nat, (∀ (i : Int), ns.length - i.toNat = m → ∀ (h0 : 0 ≤ i) (hl : ns.length = ss.length), pInSpans_h0 B c0 ns ss i → EndsT Tryz.prog B c0 (.bool (allU ns ss i))) := by
 intro m0
 induction m0 using Nat.strongRecOn with
 | _ m0 ih0 =>
   intro i hm0 h0 hl ⟨dJ0, hdJ0, hg0⟩
   by_cases q0 : (i : Int) < ((↑ns.length : Int))
   ·
    have hp0 : AllP (pInSpans_p0 B ns ss i dJ0) := by
     have s2 := allU_cons (ns := ns) (ss := ss) q0
     exact ⟨⟨by omega, by omega, (rowL_extract (z := 2) (fun _ => rfl) (by omega))⟩, ⟨⟨by omega, by omega, (rowL_extract (z := 1) (fun _ => rfl) (by omega))⟩, ⟨(ltq_t q0), trivial⟩⟩⟩
    cases q1 : inB (List.getD ns i.toNat default) (Span.lo (List.getD ss i.toNat default)) (Span.hi (List.getD ss i.toNat default)) with
    | true =>
      have s2 := allU_cons (ns := ns) (ss := ss) q0
      exact ((ih0 _ (by omega)) (i + 1) rfl (by omega) (by with_reducible assumption)
       (hg0.landM okF hJ mixed_ok (pInSpans_s0 B ns ss i dJ0)
       ⟨(wq_in (by omega) (by omega)), ⟨⟨trivial, (by have t_ := pInSpan (List.getD ns i.toNat default) (Span.lo (List.getD ss i.toNat default)) (Span.hi (List.getD ss i.toNat default)); rw [q1] at t_; exact t_)⟩, hp0⟩⟩ (by kernel_rfl) (by kernel_rfl))).cast (by (rw [s2]; simp_all; done))
    | false =>
      have s2 := allU_cons (ns := ns) (ss := ss) q0
      exact (GoE.endsT okF hJ mixed_ok hg0 (pInSpans_s1 B ns ss i dJ0)
       ⟨⟨trivial, (by have t_ := pInSpan (List.getD ns i.toNat default) (Span.lo (List.getD ss i.toNat default)) (Span.hi (List.getD ss i.toNat default)); rw [q1] at t_; exact t_)⟩, hp0⟩).cast (by (rw [s2]; simp_all; done))
   ·
    have s2 := allU_nil (ns := ns) (ss := ss) (i := i) (by omega)
    exact (GoE.endsT okF hJ mixed_ok hg0 (pInSpans_s2 B ns ss i dJ0)
     ⟨(ltq_f (Int.not_lt.1 q0)), trivial⟩).cast (by (rw [s2]; done))
set_option maxHeartbeats 4000000 in
theorem pInSpans_e (ns : List Int) (ss : List Span)  (hfacts : ns.length ≤ 9223372036854775807 ∧ ss.length ≤ 9223372036854775807) {B : Lo} (hJ : ∀ w, B.has w → J0 w) : EndsT Tryz.prog B (entryC Tryz.prog 117 27 (([slI ns, slSp ss]).map (pushT 0 4))) (.bool (inSpansB ns ss)) := by
 by_cases q0 : ((↑ns.length : Int) : Int) ≠ ((↑ss.length : Int))
 ·
  exact (GoE.endsT okF hJ mixed_ok GoE.start (pInSpans_s3 B ns ss)
   ⟨(neqq_t q0), trivial⟩).cast (by (simp only [inSpansB]; rw [decide_eq_false (by omega)]; rfl))
 ·
  exact ((pInSpans_ls ns ss hfacts hJ _) (0) rfl (by omega) (by omega)
   (GoE.start.landM okF hJ mixed_ok (pInSpans_s4 B ns ss)
   ⟨(neqq_f (Decidable.of_not_not q0)), trivial⟩ (by kernel_rfl) (by kernel_rfl))).cast (by (simp only [inSpansB]; rw [decide_eq_true (by omega)]; rfl))
theorem pInSpans (ns : List Int) (ss : List Span)  : PureC Tryz.prog J0 117 #[slI ns, slSp ss] (.bool (inSpansB ns ss)) :=
 pureC_ofF (ts := [slI ns, slSp ss]) (ns.length ≤ 9223372036854775807 ∧ ss.length ≤ 9223372036854775807) (fun _ _ ht => ⟨ht.ln (i := 0) rfl, ht.ln (i := 1) rfl⟩) J0_st (c0 := entryC Tryz.prog 117 27 (([slI ns, slSp ss]).map (pushT 0 4))) (by kernel_rfl) (by kernel_rfl) fun hfacts B hJ => pInSpans_e ns ss  hfacts hJ
noncomputable def pareGaps_p0 (B : Lo) (s : ShStore) (days : Int) (gaps : List Int) : List Prop := [(!ltq 300 (↑gaps.length : Int)) = true] ++ ([] : List Prop)
noncomputable def pareGaps_q0 (s : ShStore) (days : Int) (gaps : List Int) : ScriptT := [(4, hvT)]
noncomputable def pareGaps_p1 (B : Lo) (s : ShStore) (days : Int) (gaps : List Int) : List Prop := [AllP [] ∧ PureC Tryz.prog J0 124 #[slT gaps.length (rowL encI gaps)] (.int .i64 (sumL gaps)), AllP [] ∧ PureC Tryz.prog J0 100 #[slT gaps.length (rowL encI gaps), .int .i64 s.glo, .int .i64 s.ghi] (Value.bool true)] ++ pareGaps_p0 B s days gaps
noncomputable def pareGaps_q1 (s : ShStore) (days : Int) (gaps : List Int) : ScriptT := pareGaps_q0 s days gaps ++ [(13, HintT.pure (Value.bool true) []), (17, HintT.pure (.int .i64 (sumL gaps)) [])]
theorem pareGaps_s0 (B : Lo) (s : ShStore) (days : Int) (gaps : List Int) : endT (srunT Tryz.prog (okFn Tryz.prog) J0 B 6 1 (entryC Tryz.prog 118 26 (([.agg (encStore s).toArray, .int .i64 days, slI gaps]).map (pushT 0 4))) H00 1
 (pareGaps_q1 s days gaps ++ [(19, hvT)]) 0 [] []) [] = some (Value.bool true,
 [(!ltq (sumL gaps) days) = true] ++ pareGaps_p1 B s days gaps) := by kernel_rfl
theorem pareGaps_s1 (B : Lo) (s : ShStore) (days : Int) (gaps : List Int) : endT (srunT Tryz.prog (okFn Tryz.prog) J0 B 6 1 (entryC Tryz.prog 118 26 (([.agg (encStore s).toArray, .int .i64 days, slI gaps]).map (pushT 0 4))) H00 1
 (pareGaps_q1 s days gaps ++ [(19, hvF)]) 0 [] []) [] = some (Value.bool false,
 [(!ltq (sumL gaps) days) = false] ++ pareGaps_p1 B s days gaps) := by kernel_rfl
theorem pareGaps_s2 (B : Lo) (s : ShStore) (days : Int) (gaps : List Int) : endT (srunT Tryz.prog (okFn Tryz.prog) J0 B 6 1 (entryC Tryz.prog 118 26 (([.agg (encStore s).toArray, .int .i64 days, slI gaps]).map (pushT 0 4))) H00 1
 (pareGaps_q0 s days gaps ++ [(13, HintT.pure (Value.bool false) [])]) 0 [] []) [] = some (Value.bool false,
 [AllP [] ∧ PureC Tryz.prog J0 100 #[slT gaps.length (rowL encI gaps), .int .i64 s.glo, .int .i64 s.ghi] (Value.bool false)] ++ pareGaps_p0 B s days gaps) := by kernel_rfl
theorem pareGaps_s3 (B : Lo) (s : ShStore) (days : Int) (gaps : List Int) : endT (srunT Tryz.prog (okFn Tryz.prog) J0 B 6 1 (entryC Tryz.prog 118 26 (([.agg (encStore s).toArray, .int .i64 days, slI gaps]).map (pushT 0 4))) H00 1
 [(4, hvF)] 0 [] []) [] = some (Value.bool false,
 [(!ltq 300 (↑gaps.length : Int)) = false]) := by kernel_rfl
set_option maxHeartbeats 4000000 in
theorem pareGaps_e (s : ShStore) (days : Int) (gaps : List Int) (hs : storeB s = true) (hfacts : gaps.length ≤ 9223372036854775807) {B : Lo} (hJ : ∀ w, B.has w → J0 w) : EndsT Tryz.prog B (entryC Tryz.prog 118 26 (([.agg (encStore s).toArray, .int .i64 days, slI gaps]).map (pushT 0 4))) (.bool (gapsB s days gaps)) := by
 have hg := store_gap hs
 by_cases q0 : ((↑gaps.length : Int) : Int) ≤ (300)
 ·
  have hp0 : AllP (pareGaps_p0 B s days gaps) := by
   exact ⟨(nltq_t q0), trivial⟩
  cases q1 : List.all gaps fun x => inB x s.glo s.ghi with
  | true =>
    have hp1 : AllP (pareGaps_p1 B s days gaps) := by
     have hx : ∀ x ∈ gaps, -1000000000 ≤ x ∧ x ≤ 1000000000 := fun x h => by have := inB_iff.1 (List.all_eq_true.1 ‹gaps.all (fun x => inB x s.glo s.ghi) = true› x h); omega
     exact ⟨⟨trivial, pSum (gaps) (by with_reducible assumption) (by omega)⟩, ⟨⟨trivial, (by have t_ := pAllIn (gaps) s.glo s.ghi; rw [q1] at t_; exact t_)⟩, hp0⟩⟩
    by_cases q2 : (days : Int) ≤ (sumL gaps)
    ·
     have hx : ∀ x ∈ gaps, -1000000000 ≤ x ∧ x ≤ 1000000000 := fun x h => by have := inB_iff.1 (List.all_eq_true.1 ‹gaps.all (fun x => inB x s.glo s.ghi) = true› x h); omega
     exact (GoE.endsT okF hJ mixed_ok GoE.start (pareGaps_s0 B s days gaps)
      ⟨(nltq_t q2), hp1⟩).cast (by (simp_all [gapsB]; omega))
    ·
     have hx : ∀ x ∈ gaps, -1000000000 ≤ x ∧ x ≤ 1000000000 := fun x h => by have := inB_iff.1 (List.all_eq_true.1 ‹gaps.all (fun x => inB x s.glo s.ghi) = true› x h); omega
     exact (GoE.endsT okF hJ mixed_ok GoE.start (pareGaps_s1 B s days gaps)
      ⟨(nltq_f (Int.not_le.1 q2)), hp1⟩).cast (by (simp [gapsB, *]; done))
  | false =>
    exact (GoE.endsT okF hJ mixed_ok GoE.start (pareGaps_s2 B s days gaps)
     ⟨⟨trivial, (by have t_ := pAllIn (gaps) s.glo s.ghi; rw [q1] at t_; exact t_)⟩, hp0⟩).cast (by (simp [gapsB, *]; done))
 ·
  exact (GoE.endsT okF hJ mixed_ok GoE.start (pareGaps_s3 B s days gaps)
   ⟨(nltq_f (Int.not_le.1 q0)), trivial⟩).cast (by (simp_all [gapsB]; omega))
theorem pareGaps (s : ShStore) (days : Int) (gaps : List Int) (hs : storeB s = true) : PureC Tryz.prog J0 118 #[.agg (encStore s).toArray, .int .i64 days, slI gaps] (.bool (gapsB s days gaps)) :=
 pureC_ofF (ts := [.agg (encStore s).toArray, .int .i64 days, slI gaps]) (gaps.length ≤ 9223372036854775807) (fun _ _ ht => ht.ln (i := 2) rfl) J0_st (c0 := entryC Tryz.prog 118 26 (([.agg (encStore s).toArray, .int .i64 days, slI gaps]).map (pushT 0 4))) (by kernel_rfl) (by kernel_rfl) fun hfacts B hJ => pareGaps_e s days gaps hs hfacts hJ
def pareGoods_v0 (s : ShStore) (all : List Row) (i : Int) : List Value := [topV 1 (slT all.length (rowL encRow all)), topV 1 (slT s.lots.length (rowL encLot s.lots)), .int .i64 (↑s.lots.length : Int), .int .i64 i]
def pareGoods_o0 (s : ShStore) (all : List Row) (i : Int) : List Obj := []
noncomputable def pareGoods_t0 : List Item := ([.code [1, 1, 0, 1, 0, 0], .inLoop [1, 1, 0, 1, 0, 0], .inBlock 0, .code [1, 1, 1]]).map (it (bodyOf Tryz.prog 119))
def pareGoods_h0 (B : Lo) (c0 : CF) (s : ShStore) (all : List Row) (i : Int) : Prop := ∃ dJ : Nat → Value, (∀ t, Loose (dJ t)) ∧ GoE Tryz.prog B c0 H00 1 (headC 119 30 (([1, 14, 15, 16] : List Nat).zip (pareGoods_v0 s all i)) dJ pareGoods_t0) (headH (pareGoods_o0 s all i)) (2 + (pareGoods_o0 s all i).length) []
noncomputable def pareGoods_p0 (B : Lo) (s : ShStore) (all : List Row) (i : Int) (dJ0 : Nat → Value) : List Prop := [i = (↑i.toNat : Int) ∧ Int.toNat i < List.length all ∧ Array.extract (rowL encRow all) (Int.toNat i * TypeInfo.size Tryz.t22) (Int.toNat i * TypeInfo.size Tryz.t22 + TypeInfo.size Tryz.t22) = #[slT (List.length (List.getD all i.toNat default)) (rowL encI (List.getD all i.toNat default))], i = (↑i.toNat : Int) ∧ Int.toNat i < List.length s.lots ∧ Array.extract (rowL encLot s.lots) (Int.toNat i * TypeInfo.size Tryz.t118) (Int.toNat i * TypeInfo.size Tryz.t118 + TypeInfo.size Tryz.t118) = #[slT (List.length (ShLot.goods (List.getD s.lots i.toNat default))) (rowL encSp (ShLot.goods (List.getD s.lots i.toNat default))), .int .i64 (ShLot.weight (List.getD s.lots i.toNat default)), .int .i64 (ShLot.cost (List.getD s.lots i.toNat default))], ltq i (↑s.lots.length : Int) = true] ++ ([] : List Prop)
noncomputable def pareGoods_q0 (s : ShStore) (all : List Row) (i : Int) (dJ0 : Nat → Value) : ScriptT := [(0, hvT), (2, HintT.tidx i.toNat #[slT (List.length (ShLot.goods (List.getD s.lots i.toNat default))) (rowL encSp (ShLot.goods (List.getD s.lots i.toNat default))), .int .i64 (ShLot.weight (List.getD s.lots i.toNat default)), .int .i64 (ShLot.cost (List.getD s.lots i.toNat default))]), (9, HintT.tidx i.toNat #[slT (List.length (List.getD all i.toNat default)) (rowL encI (List.getD all i.toNat default))])]
theorem pareGoods_s0 (B : Lo) (s : ShStore) (all : List Row) (i : Int) (dJ0 : Nat → Value) : landM (srunT Tryz.prog (okFn Tryz.prog) J0 B 16 1 (headC 119 30 (([1, 14, 15, 16] : List Nat).zip (pareGoods_v0 s all i)) dJ0 pareGoods_t0) (headH (pareGoods_o0 s all i)) (2 + (pareGoods_o0 s all i).length)
 (pareGoods_q0 s all i dJ0 ++ [(13, HintT.pure (Value.bool true) []), (15, hvI (i + 1))]) 0 [] []) [1, 14, 15, 16] [] [] = some ⟨119, 30, pareGoods_t0, [], .run, none, pareGoods_v0 s all (i + 1), pareGoods_o0 s all (i + 1),
 [wq (i + 1) = i + 1, AllP [] ∧ PureC Tryz.prog J0 117 #[slT (List.length (List.getD all i.toNat default)) (rowL encI (List.getD all i.toNat default)), slT (List.length (ShLot.goods (List.getD s.lots i.toNat default))) (rowL encSp (ShLot.goods (List.getD s.lots i.toNat default)))] (Value.bool true)] ++ pareGoods_p0 B s all i dJ0⟩ := by kernel_rfl
theorem pareGoods_s1 (B : Lo) (s : ShStore) (all : List Row) (i : Int) (dJ0 : Nat → Value) : endT (srunT Tryz.prog (okFn Tryz.prog) J0 B 16 1 (headC 119 30 (([1, 14, 15, 16] : List Nat).zip (pareGoods_v0 s all i)) dJ0 pareGoods_t0) (headH (pareGoods_o0 s all i)) (2 + (pareGoods_o0 s all i).length)
 (pareGoods_q0 s all i dJ0 ++ [(13, HintT.pure (Value.bool false) [])]) 0 [] []) [] = some (Value.bool false,
 [AllP [] ∧ PureC Tryz.prog J0 117 #[slT (List.length (List.getD all i.toNat default)) (rowL encI (List.getD all i.toNat default)), slT (List.length (ShLot.goods (List.getD s.lots i.toNat default))) (rowL encSp (ShLot.goods (List.getD s.lots i.toNat default)))] (Value.bool false)] ++ pareGoods_p0 B s all i dJ0) := by kernel_rfl
theorem pareGoods_s2 (B : Lo) (s : ShStore) (all : List Row) (i : Int) (dJ0 : Nat → Value) : endT (srunT Tryz.prog (okFn Tryz.prog) J0 B 9 1 (headC 119 30 (([1, 14, 15, 16] : List Nat).zip (pareGoods_v0 s all i)) dJ0 pareGoods_t0) (headH (pareGoods_o0 s all i)) (2 + (pareGoods_o0 s all i).length)
 [(0, hvF)] 0 [] []) [] = some (Value.bool true,
 [ltq i (↑s.lots.length : Int) = false]) := by kernel_rfl
theorem pareGoods_s3 (B : Lo) (s : ShStore) (all : List Row) : endT (srunT Tryz.prog (okFn Tryz.prog) J0 B 10 1 (entryC Tryz.prog 119 30 (([.agg (encStore s).toArray, slR all]).map (pushT 0 4))) H00 1
 [(7, hvT)] 0 [] []) [] = some (Value.bool false,
 [(!eqq (↑all.length : Int) (↑s.lots.length : Int)) = true]) := by kernel_rfl
theorem pareGoods_s4 (B : Lo) (s : ShStore) (all : List Row) : landM (srunT Tryz.prog (okFn Tryz.prog) J0 B 12 1 (entryC Tryz.prog 119 30 (([.agg (encStore s).toArray, slR all]).map (pushT 0 4))) H00 1
 [(7, hvF)] 0 [] []) [1, 14, 15, 16] [] [] = some ⟨119, 30, pareGoods_t0, [], .run, none, pareGoods_v0 s all (0), pareGoods_o0 s all (0),
 [(!eqq (↑all.length : Int) (↑s.lots.length : Int)) = false]⟩ := by kernel_rfl
set_option maxHeartbeats 4000000 in
theorem pareGoods_ls (s : ShStore) (all : List Row)  (hfacts : all.length ≤ 9223372036854775807 ∧ s.lots.length ≤ 9223372036854775807) {B : Lo} (hJ : ∀ w, B.has w → J0 w) {c0 : CF} : ∀ m : Nat, (∀ (i : Int), s.lots.length - i.toNat = m → ∀ (h0 : 0 ≤ i) (hl : all.length = s.lots.length), pareGoods_h0 B c0 s all i → EndsT Tryz.prog B c0 (.bool (allG s all i))) := by
 intro m0
 induction m0 using Nat.strongRecOn with
 | _ m0 ih0 =>
   intro i hm0 h0 hl ⟨dJ0, hdJ0, hg0⟩
   by_cases q0 : (i : Int) < ((↑s.lots.length : Int))
   ·
    have hp0 : AllP (pareGoods_p0 B s all i dJ0) := by
     have s2 := allG_cons (s := s) (all := all) q0
     exact ⟨⟨by omega, by omega, (rowL_extract (z := 1) (fun _ => rfl) (by omega))⟩, ⟨⟨by omega, by omega, (rowL_extract (z := 3) (fun _ => rfl) (by omega))⟩, ⟨(ltq_t q0), trivial⟩⟩⟩
    cases q1 : inSpansB (List.getD all i.toNat default) (ShLot.goods (List.getD s.lots i.toNat default)) with
    | true =>
      have s2 := allG_cons (s := s) (all := all) q0
      exact ((ih0 _ (by omega)) (i + 1) rfl (by omega) (by with_reducible assumption)
       (hg0.landM okF hJ mixed_ok (pareGoods_s0 B s all i dJ0)
       ⟨(wq_in (by omega) (by omega)), ⟨⟨trivial, (by have t_ := pInSpans (List.getD all i.toNat default) (ShLot.goods (List.getD s.lots i.toNat default)); rw [q1] at t_; exact t_)⟩, hp0⟩⟩ (by kernel_rfl) (by kernel_rfl))).cast (by (rw [s2]; simp_all; done))
    | false =>
      have s2 := allG_cons (s := s) (all := all) q0
      exact (GoE.endsT okF hJ mixed_ok hg0 (pareGoods_s1 B s all i dJ0)
       ⟨⟨trivial, (by have t_ := pInSpans (List.getD all i.toNat default) (ShLot.goods (List.getD s.lots i.toNat default)); rw [q1] at t_; exact t_)⟩, hp0⟩).cast (by (rw [s2]; simp_all; done))
   ·
    have s2 := allG_nil (s := s) (all := all) (i := i) (by omega)
    exact (GoE.endsT okF hJ mixed_ok hg0 (pareGoods_s2 B s all i dJ0)
     ⟨(ltq_f (Int.not_lt.1 q0)), trivial⟩).cast (by (rw [s2]; done))
set_option maxHeartbeats 4000000 in
theorem pareGoods_e (s : ShStore) (all : List Row)  (hfacts : all.length ≤ 9223372036854775807 ∧ s.lots.length ≤ 9223372036854775807) {B : Lo} (hJ : ∀ w, B.has w → J0 w) : EndsT Tryz.prog B (entryC Tryz.prog 119 30 (([.agg (encStore s).toArray, slR all]).map (pushT 0 4))) (.bool (goodsB s all)) := by
 by_cases q0 : ((↑all.length : Int) : Int) ≠ ((↑s.lots.length : Int))
 ·
  exact (GoE.endsT okF hJ mixed_ok GoE.start (pareGoods_s3 B s all)
   ⟨(neqq_t q0), trivial⟩).cast (by (simp only [goodsB]; rw [decide_eq_false (by omega)]; rfl))
 ·
  exact ((pareGoods_ls s all hfacts hJ _) (0) rfl (by omega) (by omega)
   (GoE.start.landM okF hJ mixed_ok (pareGoods_s4 B s all)
   ⟨(neqq_f (Decidable.of_not_not q0)), trivial⟩ (by kernel_rfl) (by kernel_rfl))).cast (by (simp only [goodsB]; rw [decide_eq_true (by omega)]; rfl))
theorem pareGoods (s : ShStore) (all : List Row)  : PureC Tryz.prog J0 119 #[.agg (encStore s).toArray, slR all] (.bool (goodsB s all)) :=
 pureC_ofF (ts := [.agg (encStore s).toArray, slR all]) (all.length ≤ 9223372036854775807 ∧ s.lots.length ≤ 9223372036854775807) (fun _ _ ht => ⟨ht.ln (i := 1) rfl, ht.ln2 (i := 0) (j := 4) rfl rfl⟩) J0_st (c0 := entryC Tryz.prog 119 30 (([.agg (encStore s).toArray, slR all]).map (pushT 0 4))) (by kernel_rfl) (by kernel_rfl) fun hfacts B hJ => pareGoods_e s all  hfacts hJ
noncomputable def pisTruth_z0 (s : ShStore) : Array Value := #[slT s.stock.length (rowL encI s.stock), slT s.use.length (rowL encSp s.use), .int .i64 s.glo, .int .i64 s.ghi, slT s.lots.length (rowL encLot s.lots), .int .i64 s.hold]
noncomputable def pisTruth_p0 (B : Lo) (s : ShStore) (days : Int) (t : ShTruth) : List Prop := [AllP [] ∧ PureC Tryz.prog J0 117 #[slT t.uses.length (rowL encI t.uses), slT s.use.length (rowL encSp s.use)] (Value.bool true)] ++ ([] : List Prop)
noncomputable def pisTruth_q0 (s : ShStore) (days : Int) (t : ShTruth) : ScriptT := [(7, HintT.pure (Value.bool true) [])]
noncomputable def pisTruth_p1 (B : Lo) (s : ShStore) (days : Int) (t : ShTruth) : List Prop := [AllP [] ∧ PureC Tryz.prog J0 118 #[Value.agg (pisTruth_z0 s), .int .i64 days, slT t.gaps.length (rowL encI t.gaps)] (Value.bool true)] ++ pisTruth_p0 B s days t
noncomputable def pisTruth_q1 (s : ShStore) (days : Int) (t : ShTruth) : ScriptT := pisTruth_q0 s days t ++ [(13, HintT.pure (Value.bool true) [])]
theorem pisTruth_s0 (B : Lo) (s : ShStore) (days : Int) (t : ShTruth) : endT (srunT Tryz.prog (okFn Tryz.prog) J0 B 6 1 (entryC Tryz.prog 82 25 (([.agg (encStore s).toArray, .int .i64 days, .agg (encTruth t).toArray]).map (pushT 0 4))) H00 1
 (pisTruth_q1 s days t ++ [(19, HintT.pure (Value.bool true) [])]) 0 [] []) [] = some (Value.bool true,
 [AllP [] ∧ PureC Tryz.prog J0 119 #[Value.agg (pisTruth_z0 s), slT t.goods.length (rowL encRow t.goods)] (Value.bool true)] ++ pisTruth_p1 B s days t) := by kernel_rfl
theorem pisTruth_s1 (B : Lo) (s : ShStore) (days : Int) (t : ShTruth) : endT (srunT Tryz.prog (okFn Tryz.prog) J0 B 6 1 (entryC Tryz.prog 82 25 (([.agg (encStore s).toArray, .int .i64 days, .agg (encTruth t).toArray]).map (pushT 0 4))) H00 1
 (pisTruth_q1 s days t ++ [(19, HintT.pure (Value.bool false) [])]) 0 [] []) [] = some (Value.bool false,
 [AllP [] ∧ PureC Tryz.prog J0 119 #[Value.agg (pisTruth_z0 s), slT t.goods.length (rowL encRow t.goods)] (Value.bool false)] ++ pisTruth_p1 B s days t) := by kernel_rfl
theorem pisTruth_s2 (B : Lo) (s : ShStore) (days : Int) (t : ShTruth) : endT (srunT Tryz.prog (okFn Tryz.prog) J0 B 6 1 (entryC Tryz.prog 82 25 (([.agg (encStore s).toArray, .int .i64 days, .agg (encTruth t).toArray]).map (pushT 0 4))) H00 1
 (pisTruth_q0 s days t ++ [(13, HintT.pure (Value.bool false) [])]) 0 [] []) [] = some (Value.bool false,
 [AllP [] ∧ PureC Tryz.prog J0 118 #[Value.agg (pisTruth_z0 s), .int .i64 days, slT t.gaps.length (rowL encI t.gaps)] (Value.bool false)] ++ pisTruth_p0 B s days t) := by kernel_rfl
theorem pisTruth_s3 (B : Lo) (s : ShStore) (days : Int) (t : ShTruth) : endT (srunT Tryz.prog (okFn Tryz.prog) J0 B 6 1 (entryC Tryz.prog 82 25 (([.agg (encStore s).toArray, .int .i64 days, .agg (encTruth t).toArray]).map (pushT 0 4))) H00 1
 [(7, HintT.pure (Value.bool false) [])] 0 [] []) [] = some (Value.bool false,
 [AllP [] ∧ PureC Tryz.prog J0 117 #[slT t.uses.length (rowL encI t.uses), slT s.use.length (rowL encSp s.use)] (Value.bool false)]) := by kernel_rfl
set_option maxHeartbeats 4000000 in
theorem pisTruth_e (s : ShStore) (days : Int) (t : ShTruth) (hs : storeB s = true) {B : Lo} (hJ : ∀ w, B.has w → J0 w) : EndsT Tryz.prog B (entryC Tryz.prog 82 25 (([.agg (encStore s).toArray, .int .i64 days, .agg (encTruth t).toArray]).map (pushT 0 4))) (.bool (truthB s days t)) := by
 cases q0 : inSpansB t.uses s.use with
 | true =>
   have hp0 : AllP (pisTruth_p0 B s days t) := by
    exact ⟨⟨trivial, (by have t_ := pInSpans t.uses s.use; rw [q0] at t_; exact t_)⟩, trivial⟩
   cases q1 : gapsB s days t.gaps with
   | true =>
     have hp1 : AllP (pisTruth_p1 B s days t) := by
      exact ⟨⟨trivial, (by have t_ := pareGaps (s) (days) t.gaps (by with_reducible assumption); rw [q1] at t_; exact t_)⟩, hp0⟩
     cases q2 : goodsB s t.goods with
     | true =>
       exact (GoE.endsT okF hJ mixed_ok GoE.start (pisTruth_s0 B s days t)
        ⟨⟨trivial, (by have t_ := pareGoods (s) t.goods; rw [q2] at t_; exact t_)⟩, hp1⟩).cast (by (simp [truthB, *]; done))
     | false =>
       exact (GoE.endsT okF hJ mixed_ok GoE.start (pisTruth_s1 B s days t)
        ⟨⟨trivial, (by have t_ := pareGoods (s) t.goods; rw [q2] at t_; exact t_)⟩, hp1⟩).cast (by (simp [truthB, *]; done))
   | false =>
     exact (GoE.endsT okF hJ mixed_ok GoE.start (pisTruth_s2 B s days t)
      ⟨⟨trivial, (by have t_ := pareGaps (s) (days) t.gaps (by with_reducible assumption); rw [q1] at t_; exact t_)⟩, hp0⟩).cast (by (simp [truthB, *]; done))
 | false =>
   exact (GoE.endsT okF hJ mixed_ok GoE.start (pisTruth_s3 B s days t)
    ⟨⟨trivial, (by have t_ := pInSpans t.uses s.use; rw [q0] at t_; exact t_)⟩, trivial⟩).cast (by (simp [truthB, *]; done))
theorem pisTruth (s : ShStore) (days : Int) (t : ShTruth) (hs : storeB s = true) : PureC Tryz.prog J0 82 #[.agg (encStore s).toArray, .int .i64 days, .agg (encTruth t).toArray] (.bool (truthB s days t)) :=
 pureC_of (ts := [.agg (encStore s).toArray, .int .i64 days, .agg (encTruth t).toArray]) J0_st (c0 := entryC Tryz.prog 82 25 (([.agg (encStore s).toArray, .int .i64 days, .agg (encTruth t).toArray]).map (pushT 0 4))) (by kernel_rfl) (by kernel_rfl) fun B hJ => pisTruth_e s days t hs hJ
end Go.Proofs.YtiabgkiccaodmaaGreat

namespace Go.Proofs.YtiabgkiccaodmaaGreat
open Go Go.CE Go.RowKit
set_option maxRecDepth 100000
def encLoaded (s : ShStore) (load days : Int) : List Value := encStore s ++ [.int .i64 load, .int .i64 days]
def shipsL (days : Int) : List Int → Int → List Bool → List Bool
 | [], _, bs => bs
 | g :: l, day, bs => shipsL days l (day + g) (bif decide (day + g < days) then bs.set (day + g).toNat true else bs)
theorem shipsL_len {days : Int} : ∀ (l : List Int) (day : Int) (bs : List Bool), (shipsL days l day bs).length = bs.length
 | [], _, _ => rfl
 | g :: l, day, bs => by
   simp only [shipsL]; rw [shipsL_len l]
   cases decide (day + g < days) <;> simp
theorem shipsL_cons {days day : Int} {l : List Int} {i : Int} {bs : List Bool} (h0 : 0 ≤ i) (h : i < l.length) : shipsL days (l.drop i.toNat) day bs = shipsL days (l.drop (i + 1).toNat) (day + l.getD i.toNat default) (bif decide (day + l.getD i.toNat default < days) then bs.set (day + l.getD i.toNat default).toNat true else bs) := by
 obtain ⟨k, rfl⟩ : ∃ k : Nat, i = k := ⟨i.toNat, by omega⟩
 have hk : k < l.length := by omega
 have e1 : ((k : Int)).toNat = k := by omega
 have e2 : ((k : Int) + 1).toNat = k + 1 := by omega
 rw [e1, e2, List.drop_eq_getElem_cons hk]
 simp [shipsL, List.getD_eq_getElem?_getD, hk]
theorem shipsL_nil {days day : Int} {l : List Int} {i : Int} {bs : List Bool} (h : l.length ≤ i) : shipsL days (l.drop i.toNat) day bs = bs := by
 rw [List.drop_eq_nil_of_le (by omega)]; rfl
def ships0 (days : Int) (gaps : List Int) : List Bool := shipsL days gaps 0 (List.replicate days.toNat false)
theorem pwithLoad_s0 (B : Lo) (s : ShStore) (load : List Int) (days : Int) : endT (srunT Tryz.prog (okFn Tryz.prog) J0 B 6 1 (entryC Tryz.prog 83 12 (([.agg (encStore s).toArray, slI load, .int .i64 days]).map (pushT 0 4))) H00 1
 [(4, HintT.pure (.int .i64 (setL load 0)) [])] 0 [] []) [] = some (Value.agg #[slT s.stock.length (rowL encI s.stock), slT s.use.length (rowL encSp s.use), .int .i64 s.glo, .int .i64 s.ghi, slT s.lots.length (rowL encLot s.lots), .int .i64 s.hold, .int .i64 (setL load 0), .int .i64 days],
 [AllP [] ∧ PureC Tryz.prog J0 116 #[slT load.length (rowL encI load)] (.int .i64 (setL load 0))]) := by kernel_rfl
set_option maxHeartbeats 4000000 in
theorem pwithLoad_e (s : ShStore) (load : List Int) (days : Int) (hx : ∀ x ∈ load, 0 ≤ x ∧ x ≤ 61) {B : Lo} (hJ : ∀ w, B.has w → J0 w) : EndsT Tryz.prog B (entryC Tryz.prog 83 12 (([.agg (encStore s).toArray, slI load, .int .i64 days]).map (pushT 0 4))) (.agg (encLoaded s (setL load 0) days).toArray) := by
 exact (GoE.endsT okF hJ mixed_ok GoE.start (pwithLoad_s0 B s load days)
  ⟨⟨trivial, pOf (load) (by with_reducible assumption)⟩, trivial⟩).cast (by rfl)
theorem pwithLoad (s : ShStore) (load : List Int) (days : Int) (hx : ∀ x ∈ load, 0 ≤ x ∧ x ≤ 61) : PureC Tryz.prog J0 83 #[.agg (encStore s).toArray, slI load, .int .i64 days] (.agg (encLoaded s (setL load 0) days).toArray) :=
 pureC_of (ts := [.agg (encStore s).toArray, slI load, .int .i64 days]) J0_st (c0 := entryC Tryz.prog 83 12 (([.agg (encStore s).toArray, slI load, .int .i64 days]).map (pushT 0 4))) (by kernel_rfl) (by kernel_rfl) fun B hJ => pwithLoad_e s load days hx hJ
def pships_v0 (s : ShStore) (load days : Int) (gaps : List Int) (day i : Int) (bs : List Bool) : List Value := [pA 2 0, Value.slice (some { block := 3, off := 0 }) days.toNat 1, .int .i64 day, topV 1 (slT gaps.length (rowL encI gaps)), .int .i64 (↑gaps.length : Int), .int .i64 i]
def pships_o0 (s : ShStore) (load days : Int) (gaps : List Int) (day i : Int) (bs : List Bool) : List Obj := [Obj.cells #[topV 1 (slT s.stock.length (rowL encI s.stock)), topV 1 (slT s.use.length (rowL encSp s.use)), .int .i64 s.glo, .int .i64 s.ghi, topV 1 (slT s.lots.length (rowL encLot s.lots)), .int .i64 s.hold, .int .i64 load, .int .i64 days] 122, .cells (rowL encB bs) 4 (0, 0)]
noncomputable def pships_t0 : List Item := ([.code [1, 1, 1, 0, 1, 0, 0], .inLoop [1, 1, 1, 0, 1, 0, 0], .inBlock 0, .code [1, 1, 1, 1]]).map (it (bodyOf Tryz.prog 120))
def pships_h0 (B : Lo) (c0 : CF) (s : ShStore) (load days : Int) (gaps : List Int) (day i : Int) (bs : List Bool) : Prop := ∃ dJ : Nat → Value, (∀ t, Loose (dJ t)) ∧ GoE Tryz.prog B c0 H00 1 (headC 120 30 (([2, 5, 6, 12, 13, 14] : List Nat).zip (pships_v0 s load days gaps day i bs)) dJ pships_t0) (headH (pships_o0 s load days gaps day i bs)) (2 + (pships_o0 s load days gaps day i bs).length) []
noncomputable def pships_p0 (B : Lo) (s : ShStore) (load days : Int) (gaps : List Int) (day i : Int) (bs : List Bool) (dJ0 : Nat → Value) : List Prop := [wq (day + List.getD gaps i.toNat default) = day + List.getD gaps i.toNat default, i = (↑i.toNat : Int) ∧ Int.toNat i < List.length gaps ∧ Array.extract (rowL encI gaps) (Int.toNat i * TypeInfo.size Tryz.t3) (Int.toNat i * TypeInfo.size Tryz.t3 + TypeInfo.size Tryz.t3) = #[.int .i64 (List.getD gaps i.toNat default)], ltq i (↑gaps.length : Int) = true] ++ ([] : List Prop)
noncomputable def pships_q0 (s : ShStore) (load days : Int) (gaps : List Int) (day i : Int) (bs : List Bool) (dJ0 : Nat → Value) : ScriptT := [(0, hvT), (1, HintT.tidx i.toNat #[.int .i64 (List.getD gaps i.toNat default)]), (6, hvI (day + List.getD gaps i.toNat default))]
theorem pships_s0 (B : Lo) (s : ShStore) (load days : Int) (gaps : List Int) (day i : Int) (bs : List Bool) (dJ0 : Nat → Value) : landM (srunT Tryz.prog (okFn Tryz.prog) J0 B 18 1 (headC 120 30 (([2, 5, 6, 12, 13, 14] : List Nat).zip (pships_v0 s load days gaps day i bs)) dJ0 pships_t0) (headH (pships_o0 s load days gaps day i bs)) (2 + (pships_o0 s load days gaps day i bs).length)
 (pships_q0 s load days gaps day i bs dJ0 ++ [(11, hvT), (14, HintT.old (Hint.idx (Int.toNat (day + List.getD gaps i.toNat default)))), (15, HintT.old (Hint.st (rowL encB (List.set bs (Int.toNat (day + List.getD gaps i.toNat default)) true)))), (16, hvI (i + 1))]) 0 [] []) [2, 5, 6, 12, 13, 14] [(2, KS.auto), (3, KS.cells [] (rowL encB (List.set bs (Int.toNat (day + List.getD gaps i.toNat default)) true)))] [] = some ⟨120, 30, pships_t0, [], .run, none, pships_v0 s load days gaps (day + List.getD gaps i.toNat default) (i + 1) (List.set bs (Int.toNat (day + List.getD gaps i.toNat default)) true), pships_o0 s load days gaps (day + List.getD gaps i.toNat default) (i + 1) (List.set bs (Int.toNat (day + List.getD gaps i.toNat default)) true),
 [CellsM 1 [] (rowL encB (List.set bs (Int.toNat (day + List.getD gaps i.toNat default)) true)) (rowL encB (List.set bs (Int.toNat (day + List.getD gaps i.toNat default)) true)), wq (i + 1) = i + 1, 0 + Int.toNat (day + List.getD gaps i.toNat default) * 1 + TypeInfo.size Tryz.t4 ≤ Array.size (rowL encB bs) ∧ splice (rowL encB bs) (0 + Int.toNat (day + List.getD gaps i.toNat default) * 1) (Value.cells (Value.bool true)) = rowL encB (List.set bs (Int.toNat (day + List.getD gaps i.toNat default)) true), day + List.getD gaps i.toNat default = (↑(Int.toNat (day + List.getD gaps i.toNat default)) : Int) ∧ Int.toNat (day + List.getD gaps i.toNat default) < Int.toNat days, ltq (day + List.getD gaps i.toNat default) days = true] ++ pships_p0 B s load days gaps day i bs dJ0⟩ := by kernel_rfl
theorem pships_s1 (B : Lo) (s : ShStore) (load days : Int) (gaps : List Int) (day i : Int) (bs : List Bool) (dJ0 : Nat → Value) : landM (srunT Tryz.prog (okFn Tryz.prog) J0 B 18 1 (headC 120 30 (([2, 5, 6, 12, 13, 14] : List Nat).zip (pships_v0 s load days gaps day i bs)) dJ0 pships_t0) (headH (pships_o0 s load days gaps day i bs)) (2 + (pships_o0 s load days gaps day i bs).length)
 (pships_q0 s load days gaps day i bs dJ0 ++ [(11, hvF), (12, hvI (i + 1))]) 0 [] []) [2, 5, 6, 12, 13, 14] [(2, KS.auto), (3, KS.cells [] (rowL encB bs))] [] = some ⟨120, 30, pships_t0, [], .run, none, pships_v0 s load days gaps (day + List.getD gaps i.toNat default) (i + 1) (bs), pships_o0 s load days gaps (day + List.getD gaps i.toNat default) (i + 1) (bs),
 [CellsM 1 [] (rowL encB bs) (rowL encB bs), wq (i + 1) = i + 1, ltq (day + List.getD gaps i.toNat default) days = false] ++ pships_p0 B s load days gaps day i bs dJ0⟩ := by kernel_rfl
theorem pships_s2 (B : Lo) (s : ShStore) (load days : Int) (gaps : List Int) (day i : Int) (bs : List Bool) (dJ0 : Nat → Value) : endT (srunT Tryz.prog (okFn Tryz.prog) J0 B 9 1 (headC 120 30 (([2, 5, 6, 12, 13, 14] : List Nat).zip (pships_v0 s load days gaps day i bs)) dJ0 pships_t0) (headH (pships_o0 s load days gaps day i bs)) (2 + (pships_o0 s load days gaps day i bs).length)
 [(0, hvF)] 0 [] []) [{ k := 3, rs := [], cs := rowL encB bs }] = some (slT days.toNat (Fz.cs { k := 3, rs := [], cs := rowL encB bs }),
 [CellsT (Fz.rs { k := 3, rs := [], cs := rowL encB bs }) (rowL encB bs) (Fz.cs { k := 3, rs := [], cs := rowL encB bs }), ltq i (↑gaps.length : Int) = false]) := by kernel_rfl
theorem pships_s3 (B : Lo) (s : ShStore) (load days : Int) (gaps : List Int) : landM (srunT Tryz.prog (okFn Tryz.prog) J0 B 11 1 (entryC Tryz.prog 120 30 (([.agg (encLoaded s load days).toArray, slI gaps]).map (pushT 0 4))) H00 1
 [(4, HintT.old (Hint.mk days.toNat (rowL (zeroE [Value.bool false]) (List.replicate days.toNat ()))))] 0 [] []) [2, 5, 6, 12, 13, 14] [(1, KS.auto), (2, KS.rows [] [] (rowL encB (List.replicate days.toNat false)))] [] = some ⟨120, 30, pships_t0, [], .run, none, pships_v0 s load days gaps (0) (0) (List.replicate days.toNat false), pships_o0 s load days gaps (0) (0) (List.replicate days.toNat false),
 [CellsX 1 [] [] (rowL (zeroE [Value.bool false]) (List.replicate days.toNat ())) (rowL encB (List.replicate days.toNat false)), cMake Tryz.prog 127 (tget { len := 16000, tr := Tri.set 14 Tri.lf 10 (.int .i64 days) } 10) (tget { len := 16000, tr := Tri.set 14 Tri.lf 10 (.int .i64 days) } 10) = some (4, rowL (zeroE [Value.bool false]) (List.replicate days.toNat ()), Int.toNat days, TypeInfo.size Tryz.t4)]⟩ := by kernel_rfl
set_option maxHeartbeats 4000000 in
theorem pships_ls (s : ShStore) (load days : Int) (gaps : List Int) (hd : 0 ≤ days ∧ days ≤ 300) (hg : ∀ x ∈ gaps, 0 ≤ x ∧ x ≤ 60) (hl : gaps.length ≤ 300) {B : Lo} (hJ : ∀ w, B.has w → J0 w) {c0 : CF} : ∀ m : Nat, (∀ (day i : Int) (bs : List Bool), gaps.length - i.toNat = m → ∀ (h0 : 0 ≤ i) (h1 : 0 ≤ day ∧ day ≤ 60 * i) (hb : bs.length = days.toNat), pships_h0 B c0 s load days gaps day i bs → EndsT Tryz.prog B c0 (slB (shipsL days (gaps.drop i.toNat) day bs))) := by
 intro m0
 induction m0 using Nat.strongRecOn with
 | _ m0 ih0 =>
   intro day i bs hm0 h0 h1 hb ⟨dJ0, hdJ0, hg0⟩
   by_cases q0 : (i : Int) < ((↑gaps.length : Int))
   ·
    have hp0 : AllP (pships_p0 B s load days gaps day i bs dJ0) := by
     have s2 := shipsL_cons (days := days) (day := day) (bs := bs) (l := gaps) h0 q0
     have g1 := hg _ (getD_mem h0 q0)
     exact ⟨(wq_in (by omega) (by omega)), ⟨⟨by omega, by omega, (rowL_extract (z := 1) (fun _ => rfl) (by omega))⟩, ⟨(ltq_t q0), trivial⟩⟩⟩
    by_cases q1 : (day + List.getD gaps i.toNat default : Int) < (days)
    ·
     have s2 := shipsL_cons (days := days) (day := day) (bs := bs) (l := gaps) h0 q0
     have g1 := hg _ (getD_mem h0 q0)
     rw [decide_eq_true q1, cond_true] at s2
     exact ((ih0 _ (by omega)) (day + List.getD gaps i.toNat default) (i + 1) (List.set bs (Int.toNat (day + List.getD gaps i.toNat default)) true) rfl (by omega) (by omega) (by (rw [List.length_set]; exact hb))
      (hg0.landM okF hJ mixed_ok (pships_s0 B s load days gaps day i bs dJ0)
      ⟨(cellsM_simple (rowL_simple (fun x => List.all_eq_true.1 (by rfl)))), ⟨(wq_in (by omega) (by omega)), ⟨(by exact rowL_st0 (z := 1) (fun _ => rfl) (by omega) rfl rfl), ⟨⟨by omega, by omega⟩, ⟨(ltq_t q1), hp0⟩⟩⟩⟩⟩ (by kernel_rfl) (by kernel_rfl))).cast (by (rw [s2]; done))
    ·
     have s2 := shipsL_cons (days := days) (day := day) (bs := bs) (l := gaps) h0 q0
     have g1 := hg _ (getD_mem h0 q0)
     rw [decide_eq_false q1, cond_false] at s2
     exact ((ih0 _ (by omega)) (day + List.getD gaps i.toNat default) (i + 1) (bs) rfl (by omega) (by omega) (by with_reducible assumption)
      (hg0.landM okF hJ mixed_ok (pships_s1 B s load days gaps day i bs dJ0)
      ⟨(cellsM_simple (rowL_simple (fun x => List.all_eq_true.1 (by rfl)))), ⟨(wq_in (by omega) (by omega)), ⟨(ltq_f (Int.not_lt.1 q1)), hp0⟩⟩⟩ (by kernel_rfl) (by kernel_rfl))).cast (by (rw [s2]; done))
   ·
    have s2 := shipsL_nil (days := days) (day := day) (bs := bs) (l := gaps) (i := i) (by omega)
    exact (GoE.endsT okF hJ mixed_ok hg0 (pships_s2 B s load days gaps day i bs dJ0)
     ⟨(rowL_cellsT (fun x => List.all_eq_true.1 (by rfl))), ⟨(ltq_f (Int.not_lt.1 q0)), trivial⟩⟩).cast (by (rw [s2]; exact row_len rfl (by omega)))
set_option maxHeartbeats 4000000 in
theorem pships_e (s : ShStore) (load days : Int) (gaps : List Int) (hd : 0 ≤ days ∧ days ≤ 300) (hg : ∀ x ∈ gaps, 0 ≤ x ∧ x ≤ 60) (hl : gaps.length ≤ 300) {B : Lo} (hJ : ∀ w, B.has w → J0 w) : EndsT Tryz.prog B (entryC Tryz.prog 120 30 (([.agg (encLoaded s load days).toArray, slI gaps]).map (pushT 0 4))) (slB (ships0 days gaps)) := by
 exact ((pships_ls s load days gaps hd hg hl hJ _) (0) (0) (List.replicate days.toNat false) rfl (by omega) (by omega) (by (rw [List.length_replicate]; done))
  (GoE.start.landM okF hJ mixed_ok (pships_s3 B s load days gaps)
  ⟨(by exact (cellsX_zero (by exact ⟨(.simple rfl), trivial⟩) _)), ⟨(cMakeL (bytes := 1) (by kernel_rfl) (by omega) (by omega) (by omega)), trivial⟩⟩ (by kernel_rfl) (by kernel_rfl))).cast (by rfl)
theorem pships (s : ShStore) (load days : Int) (gaps : List Int) (hd : 0 ≤ days ∧ days ≤ 300) (hg : ∀ x ∈ gaps, 0 ≤ x ∧ x ≤ 60) (hl : gaps.length ≤ 300) : PureC Tryz.prog J0 120 #[.agg (encLoaded s load days).toArray, slI gaps] (slB (ships0 days gaps)) :=
 pureC_of (ts := [.agg (encLoaded s load days).toArray, slI gaps]) J0_st (c0 := entryC Tryz.prog 120 30 (([.agg (encLoaded s load days).toArray, slI gaps]).map (pushT 0 4))) (by kernel_rfl) (by kernel_rfl) fun B hJ => pships_e s load days gaps hd hg hl hJ
end Go.Proofs.YtiabgkiccaodmaaGreat

