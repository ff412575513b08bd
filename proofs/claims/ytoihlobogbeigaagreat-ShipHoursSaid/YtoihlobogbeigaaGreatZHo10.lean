/- The program's small functions. -/
import Derived.Test.YtoihlobogbeigaaGreatZHo09
set_option linter.all false
namespace Go.Proofs.YtoihlobogbeigaaGreat
open Go Go.CE Go.RowKit
noncomputable def pIn_p0 (B : Lo) (n lo hi : Int) : List Prop := [(!ltq n lo) = true] ++ ([] : List Prop)
noncomputable def pIn_q0 (n lo hi : Int) : ScriptT := [(3, hvT)]
set_option maxRecDepth 100000 in
theorem pIn_s0 (B : Lo) (n lo hi : Int) : endT (srunT Tryz.prog (okFn Tryz.prog) J0 B 6 1 (entryC Tryz.prog 76 15 (([.int .i64 n, .int .i64 lo, .int .i64 hi]).map (pushT 0 4))) H00 1
    (pIn_q0 n lo hi ++ [(7, hvT)]) 0 [] []) [] = some (Value.bool true,
    [(!ltq hi n) = true] ++ pIn_p0 B n lo hi) := by kernel_rfl
set_option maxRecDepth 100000 in
theorem pIn_s1 (B : Lo) (n lo hi : Int) : endT (srunT Tryz.prog (okFn Tryz.prog) J0 B 6 1 (entryC Tryz.prog 76 15 (([.int .i64 n, .int .i64 lo, .int .i64 hi]).map (pushT 0 4))) H00 1
    (pIn_q0 n lo hi ++ [(7, hvF)]) 0 [] []) [] = some (Value.bool false,
    [(!ltq hi n) = false] ++ pIn_p0 B n lo hi) := by kernel_rfl
set_option maxRecDepth 100000 in
theorem pIn_s2 (B : Lo) (n lo hi : Int) : endT (srunT Tryz.prog (okFn Tryz.prog) J0 B 6 1 (entryC Tryz.prog 76 15 (([.int .i64 n, .int .i64 lo, .int .i64 hi]).map (pushT 0 4))) H00 1
    [(3, hvF)] 0 [] []) [] = some (Value.bool false,
    [(!ltq n lo) = false]) := by kernel_rfl
set_option maxHeartbeats 4000000 in
theorem pIn_e (n lo hi : Int)  {B : Lo} (hJ : ∀ w, B.has w → J0 w) : EndsT Tryz.prog B (entryC Tryz.prog 76 15 (([.int .i64 n, .int .i64 lo, .int .i64 hi]).map (pushT 0 4))) (.bool (inB n lo hi)) := by
  by_cases q0 : (lo : Int) ≤ (n)
  ·
    have hp0 : AllP (pIn_p0 B n lo hi) := by
      exact ⟨(nltq_t q0), trivial⟩
    by_cases q1 : (n : Int) ≤ (hi)
    ·
      exact (GoE.endsT okF hJ mixed_ok GoE.start (pIn_s0 B n lo hi)
        ⟨(nltq_t q1), hp0⟩).cast (by first | rfl | (simp [inB, *]; done) | (simp_all [inB]; done) | (simp_all [inB]; omega))
    ·
      exact (GoE.endsT okF hJ mixed_ok GoE.start (pIn_s1 B n lo hi)
        ⟨(nltq_f (Int.not_le.1 q1)), hp0⟩).cast (by first | rfl | (simp [inB, *]; done) | (simp_all [inB]; done) | (simp_all [inB]; omega))
  ·
    exact (GoE.endsT okF hJ mixed_ok GoE.start (pIn_s2 B n lo hi)
      ⟨(nltq_f (Int.not_le.1 q0)), trivial⟩).cast (by first | rfl | (simp [inB, *]; done) | (simp_all [inB]; done) | (simp_all [inB]; omega))
theorem pIn (n lo hi : Int)  : PureC Tryz.prog J0 76 #[.int .i64 n, .int .i64 lo, .int .i64 hi] (.bool (inB n lo hi)) :=
  pureC_of (ts := [.int .i64 n, .int .i64 lo, .int .i64 hi]) J0_st (c0 := entryC Tryz.prog 76 15 (([.int .i64 n, .int .i64 lo, .int .i64 hi]).map (pushT 0 4))) (by kernel_rfl) (by kernel_rfl) fun B hJ => pIn_e n lo hi  hJ
def pAllIn_v0 (xs : List Int) (lo hi : Int) (i : Int) : List Value := [Value.int IntKind.i64 lo, Value.int IntKind.i64 hi, topV 1 (slT (List.length xs) (rowL encI xs)), Value.int IntKind.i64 (↑(List.length xs) : Int), .int .i64 i]
def pAllIn_o0 (xs : List Int) (lo hi : Int) (i : Int) : List Obj := []
noncomputable def pAllIn_t0 : List Item := ([.code [1, 0, 1, 0, 0], .inLoop [1, 0, 1, 0, 0], .inBlock 0, .code [1, 1]]).map (it (bodyOf Tryz.prog 100))
def pAllIn_h0 (B : Lo) (c0 : CF) (xs : List Int) (lo hi : Int) (i : Int) : Prop := ∃ dJ : Nat → Value, (∀ t, Loose (dJ t)) ∧ GoE Tryz.prog B c0 H00 1 (headC 100 21 (([1, 2, 9, 10, 11] : List Nat).zip (pAllIn_v0 xs lo hi i)) dJ pAllIn_t0) (headH (pAllIn_o0 xs lo hi i)) (2 + (pAllIn_o0 xs lo hi i).length) []
noncomputable def pAllIn_p0 (B : Lo) (xs : List Int) (lo hi : Int) (i : Int) (dJ0 : Nat → Value) : List Prop := [i = (↑(Int.toNat i) : Int) ∧ Int.toNat i < List.length xs ∧ Array.extract (rowL encI xs) (Int.toNat i * TypeInfo.size Tryz.t3) (Int.toNat i * TypeInfo.size Tryz.t3 + TypeInfo.size Tryz.t3) = #[Value.int IntKind.i64 (List.getD xs (Int.toNat i) default)], ltq i (↑(List.length xs) : Int) = true] ++ ([] : List Prop)
noncomputable def pAllIn_q0 (xs : List Int) (lo hi : Int) (i : Int) (dJ0 : Nat → Value) : ScriptT := [(0, hvT), (1, HintT.tidx (Int.toNat i) #[Value.int IntKind.i64 (List.getD xs (Int.toNat i) default)])]
set_option maxRecDepth 100000 in
theorem pAllIn_s0 (B : Lo) (xs : List Int) (lo hi : Int) (i : Int) (dJ0 : Nat → Value) : landM (srunT Tryz.prog (okFn Tryz.prog) J0 B 16 1 (headC 100 21 (([1, 2, 9, 10, 11] : List Nat).zip (pAllIn_v0 xs lo hi i)) dJ0 pAllIn_t0) (headH (pAllIn_o0 xs lo hi i)) (2 + (pAllIn_o0 xs lo hi i).length)
    (pAllIn_q0 xs lo hi i dJ0 ++ [(7, HintT.pure (Value.bool true) []), (9, hvI (i + 1))]) 0 [] []) [1, 2, 9, 10, 11] [] [] = some ⟨100, 21, pAllIn_t0, [], .run, none, pAllIn_v0 xs lo hi (i + 1), pAllIn_o0 xs lo hi (i + 1),
    [wq (i + 1) = i + 1, AllP [] ∧ PureC Tryz.prog J0 76 #[Value.int IntKind.i64 (List.getD xs (Int.toNat i) default), Value.int IntKind.i64 lo, Value.int IntKind.i64 hi] (Value.bool true)] ++ pAllIn_p0 B xs lo hi i dJ0⟩ := by kernel_rfl
set_option maxRecDepth 100000 in
theorem pAllIn_s1 (B : Lo) (xs : List Int) (lo hi : Int) (i : Int) (dJ0 : Nat → Value) : endT (srunT Tryz.prog (okFn Tryz.prog) J0 B 16 1 (headC 100 21 (([1, 2, 9, 10, 11] : List Nat).zip (pAllIn_v0 xs lo hi i)) dJ0 pAllIn_t0) (headH (pAllIn_o0 xs lo hi i)) (2 + (pAllIn_o0 xs lo hi i).length)
    (pAllIn_q0 xs lo hi i dJ0 ++ [(7, HintT.pure (Value.bool false) [])]) 0 [] []) [] = some (Value.bool false,
    [AllP [] ∧ PureC Tryz.prog J0 76 #[Value.int IntKind.i64 (List.getD xs (Int.toNat i) default), Value.int IntKind.i64 lo, Value.int IntKind.i64 hi] (Value.bool false)] ++ pAllIn_p0 B xs lo hi i dJ0) := by kernel_rfl
set_option maxRecDepth 100000 in
theorem pAllIn_s2 (B : Lo) (xs : List Int) (lo hi : Int) (i : Int) (dJ0 : Nat → Value) : endT (srunT Tryz.prog (okFn Tryz.prog) J0 B 9 1 (headC 100 21 (([1, 2, 9, 10, 11] : List Nat).zip (pAllIn_v0 xs lo hi i)) dJ0 pAllIn_t0) (headH (pAllIn_o0 xs lo hi i)) (2 + (pAllIn_o0 xs lo hi i).length)
    [(0, hvF)] 0 [] []) [] = some (Value.bool true,
    [ltq i (↑(List.length xs) : Int) = false]) := by kernel_rfl
set_option maxRecDepth 100000 in
theorem pAllIn_s3 (B : Lo) (xs : List Int) (lo hi : Int) : landM (srunT Tryz.prog (okFn Tryz.prog) J0 B 7 1 (entryC Tryz.prog 100 21 (([slI xs, .int .i64 lo, .int .i64 hi]).map (pushT 0 4))) H00 1
    [] 0 [] []) [1, 2, 9, 10, 11] [] [] = some ⟨100, 21, pAllIn_t0, [], .run, none, pAllIn_v0 xs lo hi (0), pAllIn_o0 xs lo hi (0),
    []⟩ := by kernel_rfl
set_option maxHeartbeats 4000000 in
theorem pAllIn_ls (xs : List Int) (lo hi : Int)  (hfacts : xs.length ≤ 9223372036854775807) {B : Lo} (hJ : ∀ w, B.has w → J0 w) {c0 : CF} : ∀ m : Nat, (∀ (i : Int), xs.length - i.toNat = m → ∀ (h0 : 0 ≤ i), pAllIn_h0 B c0 xs lo hi i → EndsT Tryz.prog B c0 (.bool ((xs.drop i.toNat).all (fun x => inB x lo hi)))) := by
  intro m0
  induction m0 using Nat.strongRecOn with
  | _ m0 ih0 =>
    intro i hm0 h0 ⟨dJ0, hdJ0, hg0⟩
    by_cases q0 : (i : Int) < ((↑(List.length xs) : Int))
    ·
      have hp0 : AllP (pAllIn_p0 B xs lo hi i dJ0) := by
        exact ⟨⟨by omega, by omega, (rowL_extract (z := 1) (fun _ => rfl) (by omega))⟩, ⟨(ltq_t q0), trivial⟩⟩
      cases q1 : inB (List.getD xs (Int.toNat i) default) lo hi with
      | true =>
        exact ((ih0 _ (by omega)) (i + 1) rfl (by first | assumption | omega | (simp_all; done))
          (hg0.landM okF hJ mixed_ok (pAllIn_s0 B xs lo hi i dJ0)
          ⟨(wq_in (by omega) (by omega)), ⟨⟨trivial, (by have t_ := pIn (List.getD xs (Int.toNat i) default) (lo) (hi); rw [q1] at t_; exact t_)⟩, hp0⟩⟩ (by kernel_rfl) (by kernel_rfl))).cast (by first | (rw [drop_all (i := i)]; (· simp_all); (· omega); (· omega)) | (rw [drop_end (i := i)]; (· simp_all); (· omega)))
      | false =>
        exact (GoE.endsT okF hJ mixed_ok hg0 (pAllIn_s1 B xs lo hi i dJ0)
          ⟨⟨trivial, (by have t_ := pIn (List.getD xs (Int.toNat i) default) (lo) (hi); rw [q1] at t_; exact t_)⟩, hp0⟩).cast (by first | (rw [drop_all (i := i)]; (· simp_all); (· omega); (· omega)) | (rw [drop_end (i := i)]; (· simp_all); (· omega)))
    ·
      exact (GoE.endsT okF hJ mixed_ok hg0 (pAllIn_s2 B xs lo hi i dJ0)
        ⟨(ltq_f (Int.not_lt.1 q0)), trivial⟩).cast (by first | (rw [drop_all (i := i)]; (· simp_all); (· omega); (· omega)) | (rw [drop_end (i := i)]; (· simp_all); (· omega)))
set_option maxHeartbeats 4000000 in
theorem pAllIn_e (xs : List Int) (lo hi : Int)  (hfacts : xs.length ≤ 9223372036854775807) {B : Lo} (hJ : ∀ w, B.has w → J0 w) : EndsT Tryz.prog B (entryC Tryz.prog 100 21 (([slI xs, .int .i64 lo, .int .i64 hi]).map (pushT 0 4))) (.bool (xs.all (fun x => inB x lo hi))) := by
  exact ((pAllIn_ls xs lo hi hfacts hJ _) (0) rfl (by first | assumption | omega | (simp_all; done))
    (GoE.start.landM okF hJ mixed_ok (pAllIn_s3 B xs lo hi)
    trivial (by kernel_rfl) (by kernel_rfl))).cast (by first | rfl | (simp [*]; done) | (simp_all []; done) | (simp_all []; omega))
theorem pAllIn (xs : List Int) (lo hi : Int)  : PureC Tryz.prog J0 100 #[slI xs, .int .i64 lo, .int .i64 hi] (.bool (xs.all (fun x => inB x lo hi))) :=
  pureC_ofF (ts := [slI xs, .int .i64 lo, .int .i64 hi]) (xs.length ≤ 9223372036854775807) (fun _ _ ht => ht.ln (i := 0) rfl) J0_st (c0 := entryC Tryz.prog 100 21 (([slI xs, .int .i64 lo, .int .i64 hi]).map (pushT 0 4))) (by kernel_rfl) (by kernel_rfl) fun hfacts B hJ => pAllIn_e xs lo hi  hfacts hJ
set_option maxRecDepth 100000 in
theorem pInSpan_s0 (B : Lo) (n a b : Int) : endT (srunT Tryz.prog (okFn Tryz.prog) J0 B 6 1 (entryC Tryz.prog 73 11 (([.int .i64 n, .agg #[.int .i64 a, .int .i64 b]]).map (pushT 0 4))) H00 1
    [(7, HintT.pure (Value.bool true) [])] 0 [] []) [] = some (Value.bool true,
    [AllP [] ∧ PureC Tryz.prog J0 76 #[Value.int IntKind.i64 n, Value.int IntKind.i64 a, Value.int IntKind.i64 b] (Value.bool true)]) := by kernel_rfl
set_option maxRecDepth 100000 in
theorem pInSpan_s1 (B : Lo) (n a b : Int) : endT (srunT Tryz.prog (okFn Tryz.prog) J0 B 6 1 (entryC Tryz.prog 73 11 (([.int .i64 n, .agg #[.int .i64 a, .int .i64 b]]).map (pushT 0 4))) H00 1
    [(7, HintT.pure (Value.bool false) [])] 0 [] []) [] = some (Value.bool false,
    [AllP [] ∧ PureC Tryz.prog J0 76 #[Value.int IntKind.i64 n, Value.int IntKind.i64 a, Value.int IntKind.i64 b] (Value.bool false)]) := by kernel_rfl
set_option maxHeartbeats 4000000 in
theorem pInSpan_e (n a b : Int)  {B : Lo} (hJ : ∀ w, B.has w → J0 w) : EndsT Tryz.prog B (entryC Tryz.prog 73 11 (([.int .i64 n, .agg #[.int .i64 a, .int .i64 b]]).map (pushT 0 4))) (.bool (inB n a b)) := by
  cases q0 : inB n a b with
  | true =>
    exact (GoE.endsT okF hJ mixed_ok GoE.start (pInSpan_s0 B n a b)
      ⟨⟨trivial, (by have t_ := pIn (n) (a) (b); rw [q0] at t_; exact t_)⟩, trivial⟩).cast (by first | rfl | (simp [*]; done) | (simp_all []; done) | (simp_all []; omega))
  | false =>
    exact (GoE.endsT okF hJ mixed_ok GoE.start (pInSpan_s1 B n a b)
      ⟨⟨trivial, (by have t_ := pIn (n) (a) (b); rw [q0] at t_; exact t_)⟩, trivial⟩).cast (by first | rfl | (simp [*]; done) | (simp_all []; done) | (simp_all []; omega))
theorem pInSpan (n a b : Int)  : PureC Tryz.prog J0 73 #[.int .i64 n, .agg #[.int .i64 a, .int .i64 b]] (.bool (inB n a b)) :=
  pureC_of (ts := [.int .i64 n, .agg #[.int .i64 a, .int .i64 b]]) J0_st (c0 := entryC Tryz.prog 73 11 (([.int .i64 n, .agg #[.int .i64 a, .int .i64 b]]).map (pushT 0 4))) (by kernel_rfl) (by kernel_rfl) fun B hJ => pInSpan_e n a b  hJ
noncomputable def pIsWithin_p0 (B : Lo) (a b lo hi : Int) : List Prop := [(!ltq a lo) = true] ++ ([] : List Prop)
noncomputable def pIsWithin_q0 (a b lo hi : Int) : ScriptT := [(5, hvT)]
noncomputable def pIsWithin_p1 (B : Lo) (a b lo hi : Int) : List Prop := [(!ltq b a) = true] ++ pIsWithin_p0 B a b lo hi
noncomputable def pIsWithin_q1 (a b lo hi : Int) : ScriptT := pIsWithin_q0 a b lo hi ++ [(11, hvT)]
set_option maxRecDepth 100000 in
theorem pIsWithin_s0 (B : Lo) (a b lo hi : Int) : endT (srunT Tryz.prog (okFn Tryz.prog) J0 B 6 1 (entryC Tryz.prog 109 24 (([.agg #[.int .i64 a, .int .i64 b], .int .i64 lo, .int .i64 hi]).map (pushT 0 4))) H00 1
    (pIsWithin_q1 a b lo hi ++ [(17, hvT)]) 0 [] []) [] = some (Value.bool true,
    [(!ltq hi b) = true] ++ pIsWithin_p1 B a b lo hi) := by kernel_rfl
set_option maxRecDepth 100000 in
theorem pIsWithin_s1 (B : Lo) (a b lo hi : Int) : endT (srunT Tryz.prog (okFn Tryz.prog) J0 B 6 1 (entryC Tryz.prog 109 24 (([.agg #[.int .i64 a, .int .i64 b], .int .i64 lo, .int .i64 hi]).map (pushT 0 4))) H00 1
    (pIsWithin_q1 a b lo hi ++ [(17, hvF)]) 0 [] []) [] = some (Value.bool false,
    [(!ltq hi b) = false] ++ pIsWithin_p1 B a b lo hi) := by kernel_rfl
set_option maxRecDepth 100000 in
theorem pIsWithin_s2 (B : Lo) (a b lo hi : Int) : endT (srunT Tryz.prog (okFn Tryz.prog) J0 B 6 1 (entryC Tryz.prog 109 24 (([.agg #[.int .i64 a, .int .i64 b], .int .i64 lo, .int .i64 hi]).map (pushT 0 4))) H00 1
    (pIsWithin_q0 a b lo hi ++ [(11, hvF)]) 0 [] []) [] = some (Value.bool false,
    [(!ltq b a) = false] ++ pIsWithin_p0 B a b lo hi) := by kernel_rfl
set_option maxRecDepth 100000 in
theorem pIsWithin_s3 (B : Lo) (a b lo hi : Int) : endT (srunT Tryz.prog (okFn Tryz.prog) J0 B 6 1 (entryC Tryz.prog 109 24 (([.agg #[.int .i64 a, .int .i64 b], .int .i64 lo, .int .i64 hi]).map (pushT 0 4))) H00 1
    [(5, hvF)] 0 [] []) [] = some (Value.bool false,
    [(!ltq a lo) = false]) := by kernel_rfl
set_option maxHeartbeats 4000000 in
theorem pIsWithin_e (a b lo hi : Int)  {B : Lo} (hJ : ∀ w, B.has w → J0 w) : EndsT Tryz.prog B (entryC Tryz.prog 109 24 (([.agg #[.int .i64 a, .int .i64 b], .int .i64 lo, .int .i64 hi]).map (pushT 0 4))) (.bool (spanB a b lo hi)) := by
  by_cases q0 : (lo : Int) ≤ (a)
  ·
    have hp0 : AllP (pIsWithin_p0 B a b lo hi) := by
      exact ⟨(nltq_t q0), trivial⟩
    by_cases q1 : (a : Int) ≤ (b)
    ·
      have hp1 : AllP (pIsWithin_p1 B a b lo hi) := by
        exact ⟨(nltq_t q1), hp0⟩
      by_cases q2 : (b : Int) ≤ (hi)
      ·
        exact (GoE.endsT okF hJ mixed_ok GoE.start (pIsWithin_s0 B a b lo hi)
          ⟨(nltq_t q2), hp1⟩).cast (by first | rfl | (simp [spanB, *]; done) | (simp_all [spanB]; done) | (simp_all [spanB]; omega))
      ·
        exact (GoE.endsT okF hJ mixed_ok GoE.start (pIsWithin_s1 B a b lo hi)
          ⟨(nltq_f (Int.not_le.1 q2)), hp1⟩).cast (by first | rfl | (simp [spanB, *]; done) | (simp_all [spanB]; done) | (simp_all [spanB]; omega))
    ·
      exact (GoE.endsT okF hJ mixed_ok GoE.start (pIsWithin_s2 B a b lo hi)
        ⟨(nltq_f (Int.not_le.1 q1)), hp0⟩).cast (by first | rfl | (simp [spanB, *]; done) | (simp_all [spanB]; done) | (simp_all [spanB]; omega))
  ·
    exact (GoE.endsT okF hJ mixed_ok GoE.start (pIsWithin_s3 B a b lo hi)
      ⟨(nltq_f (Int.not_le.1 q0)), trivial⟩).cast (by first | rfl | (simp [spanB, *]; done) | (simp_all [spanB]; done) | (simp_all [spanB]; omega))
theorem pIsWithin (a b lo hi : Int)  : PureC Tryz.prog J0 109 #[.agg #[.int .i64 a, .int .i64 b], .int .i64 lo, .int .i64 hi] (.bool (spanB a b lo hi)) :=
  pureC_of (ts := [.agg #[.int .i64 a, .int .i64 b], .int .i64 lo, .int .i64 hi]) J0_st (c0 := entryC Tryz.prog 109 24 (([.agg #[.int .i64 a, .int .i64 b], .int .i64 lo, .int .i64 hi]).map (pushT 0 4))) (by kernel_rfl) (by kernel_rfl) fun B hJ => pIsWithin_e a b lo hi  hJ
set_option maxRecDepth 100000 in
theorem pIsSpan_s0 (B : Lo) (a b most : Int) : endT (srunT Tryz.prog (okFn Tryz.prog) J0 B 6 1 (entryC Tryz.prog 102 8 (([.agg #[.int .i64 a, .int .i64 b], .int .i64 most]).map (pushT 0 4))) H00 1
    [(4, HintT.pure (Value.bool true) [])] 0 [] []) [] = some (Value.bool true,
    [AllP [] ∧ PureC Tryz.prog J0 109 #[Value.agg #[Value.int IntKind.i64 a, Value.int IntKind.i64 b], Value.int IntKind.i64 0, Value.int IntKind.i64 most] (Value.bool true)]) := by kernel_rfl
set_option maxRecDepth 100000 in
theorem pIsSpan_s1 (B : Lo) (a b most : Int) : endT (srunT Tryz.prog (okFn Tryz.prog) J0 B 6 1 (entryC Tryz.prog 102 8 (([.agg #[.int .i64 a, .int .i64 b], .int .i64 most]).map (pushT 0 4))) H00 1
    [(4, HintT.pure (Value.bool false) [])] 0 [] []) [] = some (Value.bool false,
    [AllP [] ∧ PureC Tryz.prog J0 109 #[Value.agg #[Value.int IntKind.i64 a, Value.int IntKind.i64 b], Value.int IntKind.i64 0, Value.int IntKind.i64 most] (Value.bool false)]) := by kernel_rfl
set_option maxHeartbeats 4000000 in
theorem pIsSpan_e (a b most : Int)  {B : Lo} (hJ : ∀ w, B.has w → J0 w) : EndsT Tryz.prog B (entryC Tryz.prog 102 8 (([.agg #[.int .i64 a, .int .i64 b], .int .i64 most]).map (pushT 0 4))) (.bool (spanB a b 0 most)) := by
  cases q0 : spanB a b 0 most with
  | true =>
    exact (GoE.endsT okF hJ mixed_ok GoE.start (pIsSpan_s0 B a b most)
      ⟨⟨trivial, (by have t_ := pIsWithin (a) (b) (0) (most); rw [q0] at t_; exact t_)⟩, trivial⟩).cast (by first | rfl | (simp [spanB, *]; done) | (simp_all [spanB]; done) | (simp_all [spanB]; omega))
  | false =>
    exact (GoE.endsT okF hJ mixed_ok GoE.start (pIsSpan_s1 B a b most)
      ⟨⟨trivial, (by have t_ := pIsWithin (a) (b) (0) (most); rw [q0] at t_; exact t_)⟩, trivial⟩).cast (by first | rfl | (simp [spanB, *]; done) | (simp_all [spanB]; done) | (simp_all [spanB]; omega))
theorem pIsSpan (a b most : Int)  : PureC Tryz.prog J0 102 #[.agg #[.int .i64 a, .int .i64 b], .int .i64 most] (.bool (spanB a b 0 most)) :=
  pureC_of (ts := [.agg #[.int .i64 a, .int .i64 b], .int .i64 most]) J0_st (c0 := entryC Tryz.prog 102 8 (([.agg #[.int .i64 a, .int .i64 b], .int .i64 most]).map (pushT 0 4))) (by kernel_rfl) (by kernel_rfl) fun B hJ => pIsSpan_e a b most  hJ
def pAreSpans_v0 (xs : List Span) (most : Int) (i : Int) : List Value := [Value.int IntKind.i64 most, topV 1 (slT (List.length xs) (rowL encSp xs)), Value.int IntKind.i64 (↑(List.length xs) : Int), .int .i64 i]
def pAreSpans_o0 (xs : List Span) (most : Int) (i : Int) : List Obj := []
noncomputable def pAreSpans_t0 : List Item := ([.code [1, 0, 1, 0, 0], .inLoop [1, 0, 1, 0, 0], .inBlock 0, .code [1, 1]]).map (it (bodyOf Tryz.prog 101))
def pAreSpans_h0 (B : Lo) (c0 : CF) (xs : List Span) (most : Int) (i : Int) : Prop := ∃ dJ : Nat → Value, (∀ t, Loose (dJ t)) ∧ GoE Tryz.prog B c0 H00 1 (headC 101 18 (([1, 7, 8, 9] : List Nat).zip (pAreSpans_v0 xs most i)) dJ pAreSpans_t0) (headH (pAreSpans_o0 xs most i)) (2 + (pAreSpans_o0 xs most i).length) []
noncomputable def pAreSpans_z0 (xs : List Span) (i : Int) : Array Value := #[Value.int IntKind.i64 (Span.lo (List.getD xs (Int.toNat i) default)), Value.int IntKind.i64 (Span.hi (List.getD xs (Int.toNat i) default))]
noncomputable def pAreSpans_p0 (B : Lo) (xs : List Span) (most : Int) (i : Int) (dJ0 : Nat → Value) : List Prop := [i = (↑(Int.toNat i) : Int) ∧ Int.toNat i < List.length xs ∧ Array.extract (rowL encSp xs) (Int.toNat i * TypeInfo.size Tryz.t25) (Int.toNat i * TypeInfo.size Tryz.t25 + TypeInfo.size Tryz.t25) = (pAreSpans_z0 xs i), ltq i (↑(List.length xs) : Int) = true] ++ ([] : List Prop)
noncomputable def pAreSpans_q0 (xs : List Span) (most : Int) (i : Int) (dJ0 : Nat → Value) : ScriptT := [(0, hvT), (1, HintT.tidx (Int.toNat i) (pAreSpans_z0 xs i))]
set_option maxRecDepth 100000 in
theorem pAreSpans_s0 (B : Lo) (xs : List Span) (most : Int) (i : Int) (dJ0 : Nat → Value) : landM (srunT Tryz.prog (okFn Tryz.prog) J0 B 16 1 (headC 101 18 (([1, 7, 8, 9] : List Nat).zip (pAreSpans_v0 xs most i)) dJ0 pAreSpans_t0) (headH (pAreSpans_o0 xs most i)) (2 + (pAreSpans_o0 xs most i).length)
    (pAreSpans_q0 xs most i dJ0 ++ [(7, HintT.pure (Value.bool true) []), (9, hvI (i + 1))]) 0 [] []) [1, 7, 8, 9] [] [] = some ⟨101, 18, pAreSpans_t0, [], .run, none, pAreSpans_v0 xs most (i + 1), pAreSpans_o0 xs most (i + 1),
    [wq (i + 1) = i + 1, AllP [] ∧ PureC Tryz.prog J0 102 #[Value.agg (pAreSpans_z0 xs i), Value.int IntKind.i64 most] (Value.bool true)] ++ pAreSpans_p0 B xs most i dJ0⟩ := by kernel_rfl
set_option maxRecDepth 100000 in
theorem pAreSpans_s1 (B : Lo) (xs : List Span) (most : Int) (i : Int) (dJ0 : Nat → Value) : endT (srunT Tryz.prog (okFn Tryz.prog) J0 B 16 1 (headC 101 18 (([1, 7, 8, 9] : List Nat).zip (pAreSpans_v0 xs most i)) dJ0 pAreSpans_t0) (headH (pAreSpans_o0 xs most i)) (2 + (pAreSpans_o0 xs most i).length)
    (pAreSpans_q0 xs most i dJ0 ++ [(7, HintT.pure (Value.bool false) [])]) 0 [] []) [] = some (Value.bool false,
    [AllP [] ∧ PureC Tryz.prog J0 102 #[Value.agg (pAreSpans_z0 xs i), Value.int IntKind.i64 most] (Value.bool false)] ++ pAreSpans_p0 B xs most i dJ0) := by kernel_rfl
set_option maxRecDepth 100000 in
theorem pAreSpans_s2 (B : Lo) (xs : List Span) (most : Int) (i : Int) (dJ0 : Nat → Value) : endT (srunT Tryz.prog (okFn Tryz.prog) J0 B 9 1 (headC 101 18 (([1, 7, 8, 9] : List Nat).zip (pAreSpans_v0 xs most i)) dJ0 pAreSpans_t0) (headH (pAreSpans_o0 xs most i)) (2 + (pAreSpans_o0 xs most i).length)
    [(0, hvF)] 0 [] []) [] = some (Value.bool true,
    [ltq i (↑(List.length xs) : Int) = false]) := by kernel_rfl
set_option maxRecDepth 100000 in
theorem pAreSpans_s3 (B : Lo) (xs : List Span) (most : Int) : landM (srunT Tryz.prog (okFn Tryz.prog) J0 B 7 1 (entryC Tryz.prog 101 18 (([slSp xs, .int .i64 most]).map (pushT 0 4))) H00 1
    [] 0 [] []) [1, 7, 8, 9] [] [] = some ⟨101, 18, pAreSpans_t0, [], .run, none, pAreSpans_v0 xs most (0), pAreSpans_o0 xs most (0),
    []⟩ := by kernel_rfl
set_option maxHeartbeats 4000000 in
theorem pAreSpans_ls (xs : List Span) (most : Int)  (hfacts : xs.length ≤ 9223372036854775807) {B : Lo} (hJ : ∀ w, B.has w → J0 w) {c0 : CF} : ∀ m : Nat, (∀ (i : Int), xs.length - i.toNat = m → ∀ (h0 : 0 ≤ i), pAreSpans_h0 B c0 xs most i → EndsT Tryz.prog B c0 (.bool ((xs.drop i.toNat).all (fun s => spanB s.lo s.hi 0 most)))) := by
  intro m0
  induction m0 using Nat.strongRecOn with
  | _ m0 ih0 =>
    intro i hm0 h0 ⟨dJ0, hdJ0, hg0⟩
    by_cases q0 : (i : Int) < ((↑(List.length xs) : Int))
    ·
      have hp0 : AllP (pAreSpans_p0 B xs most i dJ0) := by
        exact ⟨⟨by omega, by omega, (rowL_extract (z := 2) (fun _ => rfl) (by omega))⟩, ⟨(ltq_t q0), trivial⟩⟩
      cases q1 : spanB (Span.lo (List.getD xs (Int.toNat i) default)) (Span.hi (List.getD xs (Int.toNat i) default)) 0 most with
      | true =>
        exact ((ih0 _ (by omega)) (i + 1) rfl (by first | assumption | omega | (simp_all; done))
          (hg0.landM okF hJ mixed_ok (pAreSpans_s0 B xs most i dJ0)
          ⟨(wq_in (by omega) (by omega)), ⟨⟨trivial, (by have t_ := pIsSpan (Span.lo (List.getD xs (Int.toNat i) default)) (Span.hi (List.getD xs (Int.toNat i) default)) (most); rw [q1] at t_; exact t_)⟩, hp0⟩⟩ (by kernel_rfl) (by kernel_rfl))).cast (by first | (rw [drop_all (i := i)]; (· simp_all); (· omega); (· omega)) | (rw [drop_end (i := i)]; (· simp_all); (· omega)))
      | false =>
        exact (GoE.endsT okF hJ mixed_ok hg0 (pAreSpans_s1 B xs most i dJ0)
          ⟨⟨trivial, (by have t_ := pIsSpan (Span.lo (List.getD xs (Int.toNat i) default)) (Span.hi (List.getD xs (Int.toNat i) default)) (most); rw [q1] at t_; exact t_)⟩, hp0⟩).cast (by first | (rw [drop_all (i := i)]; (· simp_all); (· omega); (· omega)) | (rw [drop_end (i := i)]; (· simp_all); (· omega)))
    ·
      exact (GoE.endsT okF hJ mixed_ok hg0 (pAreSpans_s2 B xs most i dJ0)
        ⟨(ltq_f (Int.not_lt.1 q0)), trivial⟩).cast (by first | (rw [drop_all (i := i)]; (· simp_all); (· omega); (· omega)) | (rw [drop_end (i := i)]; (· simp_all); (· omega)))
set_option maxHeartbeats 4000000 in
theorem pAreSpans_e (xs : List Span) (most : Int)  (hfacts : xs.length ≤ 9223372036854775807) {B : Lo} (hJ : ∀ w, B.has w → J0 w) : EndsT Tryz.prog B (entryC Tryz.prog 101 18 (([slSp xs, .int .i64 most]).map (pushT 0 4))) (.bool (xs.all (fun s => spanB s.lo s.hi 0 most))) := by
  exact ((pAreSpans_ls xs most hfacts hJ _) (0) rfl (by first | assumption | omega | (simp_all; done))
    (GoE.start.landM okF hJ mixed_ok (pAreSpans_s3 B xs most)
    trivial (by kernel_rfl) (by kernel_rfl))).cast (by first | rfl | (simp [*]; done) | (simp_all []; done) | (simp_all []; omega))
theorem pAreSpans (xs : List Span) (most : Int)  : PureC Tryz.prog J0 101 #[slSp xs, .int .i64 most] (.bool (xs.all (fun s => spanB s.lo s.hi 0 most))) :=
  pureC_ofF (ts := [slSp xs, .int .i64 most]) (xs.length ≤ 9223372036854775807) (fun _ _ ht => ht.ln (i := 0) rfl) J0_st (c0 := entryC Tryz.prog 101 18 (([slSp xs, .int .i64 most]).map (pushT 0 4))) (by kernel_rfl) (by kernel_rfl) fun hfacts B hJ => pAreSpans_e xs most  hfacts hJ
noncomputable def pisPass_p0 (B : Lo) (p : ShPass) : List Prop := [AllP [] ∧ PureC Tryz.prog J0 76 #[Value.int IntKind.i64 (↑(List.length (ShPass.tides p)) : Int), Value.int IntKind.i64 1, Value.int IntKind.i64 50] (Value.bool true)] ++ ([] : List Prop)
noncomputable def pisPass_q0 (p : ShPass) : ScriptT := [(5, HintT.pure (Value.bool true) [])]
noncomputable def pisPass_p1 (B : Lo) (p : ShPass) : List Prop := [AllP [] ∧ PureC Tryz.prog J0 100 #[slT (List.length (ShPass.tides p)) (rowL encI (ShPass.tides p)), Value.int IntKind.i64 (-1000), Value.int IntKind.i64 1000] (Value.bool true)] ++ pisPass_p0 B p
noncomputable def pisPass_q1 (p : ShPass) : ScriptT := pisPass_q0 p ++ [(9, HintT.pure (Value.bool true) [])]
noncomputable def pisPass_p2 (B : Lo) (p : ShPass) : List Prop := [AllP [] ∧ PureC Tryz.prog J0 76 #[Value.int IntKind.i64 (ShPass.depth p), Value.int IntKind.i64 0, Value.int IntKind.i64 1000] (Value.bool true)] ++ pisPass_p1 B p
noncomputable def pisPass_q2 (p : ShPass) : ScriptT := pisPass_q1 p ++ [(14, HintT.pure (Value.bool true) [])]
noncomputable def pisPass_p3 (B : Lo) (p : ShPass) : List Prop := [AllP [] ∧ PureC Tryz.prog J0 76 #[Value.int IntKind.i64 (ShPass.draft p), Value.int IntKind.i64 0, Value.int IntKind.i64 1000] (Value.bool true)] ++ pisPass_p2 B p
noncomputable def pisPass_q3 (p : ShPass) : ScriptT := pisPass_q2 p ++ [(19, HintT.pure (Value.bool true) [])]
noncomputable def pisPass_p4 (B : Lo) (p : ShPass) : List Prop := [AllP [] ∧ PureC Tryz.prog J0 76 #[Value.int IntKind.i64 (↑(List.length (ShPass.swell p)) : Int), Value.int IntKind.i64 1, Value.int IntKind.i64 60] (Value.bool true)] ++ pisPass_p3 B p
noncomputable def pisPass_q4 (p : ShPass) : ScriptT := pisPass_q3 p ++ [(25, HintT.pure (Value.bool true) [])]
noncomputable def pisPass_p5 (B : Lo) (p : ShPass) : List Prop := [AllP [] ∧ PureC Tryz.prog J0 101 #[slT (List.length (ShPass.swell p)) (rowL encSp (ShPass.swell p)), Value.int IntKind.i64 1000] (Value.bool true)] ++ pisPass_p4 B p
noncomputable def pisPass_q5 (p : ShPass) : ScriptT := pisPass_q4 p ++ [(30, HintT.pure (Value.bool true) [])]
set_option maxRecDepth 100000 in
theorem pisPass_s0 (B : Lo) (p : ShPass) : endT (srunT Tryz.prog (okFn Tryz.prog) J0 B 6 1 (entryC Tryz.prog 60 38 (([.agg (encPass p).toArray]).map (pushT 0 4))) H00 1
    (pisPass_q5 p ++ [(35, HintT.pure (Value.bool true) [])]) 0 [] []) [] = some (Value.bool true,
    [AllP [] ∧ PureC Tryz.prog J0 102 #[Value.agg #[Value.int IntKind.i64 (ShPass.llo p), Value.int IntKind.i64 (ShPass.lhi p)], Value.int IntKind.i64 23] (Value.bool true)] ++ pisPass_p5 B p) := by kernel_rfl
set_option maxRecDepth 100000 in
theorem pisPass_s1 (B : Lo) (p : ShPass) : endT (srunT Tryz.prog (okFn Tryz.prog) J0 B 6 1 (entryC Tryz.prog 60 38 (([.agg (encPass p).toArray]).map (pushT 0 4))) H00 1
    (pisPass_q5 p ++ [(35, HintT.pure (Value.bool false) [])]) 0 [] []) [] = some (Value.bool false,
    [AllP [] ∧ PureC Tryz.prog J0 102 #[Value.agg #[Value.int IntKind.i64 (ShPass.llo p), Value.int IntKind.i64 (ShPass.lhi p)], Value.int IntKind.i64 23] (Value.bool false)] ++ pisPass_p5 B p) := by kernel_rfl
set_option maxRecDepth 100000 in
theorem pisPass_s2 (B : Lo) (p : ShPass) : endT (srunT Tryz.prog (okFn Tryz.prog) J0 B 6 1 (entryC Tryz.prog 60 38 (([.agg (encPass p).toArray]).map (pushT 0 4))) H00 1
    (pisPass_q4 p ++ [(30, HintT.pure (Value.bool false) [])]) 0 [] []) [] = some (Value.bool false,
    [AllP [] ∧ PureC Tryz.prog J0 101 #[slT (List.length (ShPass.swell p)) (rowL encSp (ShPass.swell p)), Value.int IntKind.i64 1000] (Value.bool false)] ++ pisPass_p4 B p) := by kernel_rfl
set_option maxRecDepth 100000 in
theorem pisPass_s3 (B : Lo) (p : ShPass) : endT (srunT Tryz.prog (okFn Tryz.prog) J0 B 6 1 (entryC Tryz.prog 60 38 (([.agg (encPass p).toArray]).map (pushT 0 4))) H00 1
    (pisPass_q3 p ++ [(25, HintT.pure (Value.bool false) [])]) 0 [] []) [] = some (Value.bool false,
    [AllP [] ∧ PureC Tryz.prog J0 76 #[Value.int IntKind.i64 (↑(List.length (ShPass.swell p)) : Int), Value.int IntKind.i64 1, Value.int IntKind.i64 60] (Value.bool false)] ++ pisPass_p3 B p) := by kernel_rfl
set_option maxRecDepth 100000 in
theorem pisPass_s4 (B : Lo) (p : ShPass) : endT (srunT Tryz.prog (okFn Tryz.prog) J0 B 6 1 (entryC Tryz.prog 60 38 (([.agg (encPass p).toArray]).map (pushT 0 4))) H00 1
    (pisPass_q2 p ++ [(19, HintT.pure (Value.bool false) [])]) 0 [] []) [] = some (Value.bool false,
    [AllP [] ∧ PureC Tryz.prog J0 76 #[Value.int IntKind.i64 (ShPass.draft p), Value.int IntKind.i64 0, Value.int IntKind.i64 1000] (Value.bool false)] ++ pisPass_p2 B p) := by kernel_rfl
set_option maxRecDepth 100000 in
theorem pisPass_s5 (B : Lo) (p : ShPass) : endT (srunT Tryz.prog (okFn Tryz.prog) J0 B 6 1 (entryC Tryz.prog 60 38 (([.agg (encPass p).toArray]).map (pushT 0 4))) H00 1
    (pisPass_q1 p ++ [(14, HintT.pure (Value.bool false) [])]) 0 [] []) [] = some (Value.bool false,
    [AllP [] ∧ PureC Tryz.prog J0 76 #[Value.int IntKind.i64 (ShPass.depth p), Value.int IntKind.i64 0, Value.int IntKind.i64 1000] (Value.bool false)] ++ pisPass_p1 B p) := by kernel_rfl
set_option maxRecDepth 100000 in
theorem pisPass_s6 (B : Lo) (p : ShPass) : endT (srunT Tryz.prog (okFn Tryz.prog) J0 B 6 1 (entryC Tryz.prog 60 38 (([.agg (encPass p).toArray]).map (pushT 0 4))) H00 1
    (pisPass_q0 p ++ [(9, HintT.pure (Value.bool false) [])]) 0 [] []) [] = some (Value.bool false,
    [AllP [] ∧ PureC Tryz.prog J0 100 #[slT (List.length (ShPass.tides p)) (rowL encI (ShPass.tides p)), Value.int IntKind.i64 (-1000), Value.int IntKind.i64 1000] (Value.bool false)] ++ pisPass_p0 B p) := by kernel_rfl
set_option maxRecDepth 100000 in
theorem pisPass_s7 (B : Lo) (p : ShPass) : endT (srunT Tryz.prog (okFn Tryz.prog) J0 B 6 1 (entryC Tryz.prog 60 38 (([.agg (encPass p).toArray]).map (pushT 0 4))) H00 1
    [(5, HintT.pure (Value.bool false) [])] 0 [] []) [] = some (Value.bool false,
    [AllP [] ∧ PureC Tryz.prog J0 76 #[Value.int IntKind.i64 (↑(List.length (ShPass.tides p)) : Int), Value.int IntKind.i64 1, Value.int IntKind.i64 50] (Value.bool false)]) := by kernel_rfl
set_option maxHeartbeats 4000000 in
theorem pisPass_e (p : ShPass)  {B : Lo} (hJ : ∀ w, B.has w → J0 w) : EndsT Tryz.prog B (entryC Tryz.prog 60 38 (([.agg (encPass p).toArray]).map (pushT 0 4))) (.bool (passB p)) := by
  cases q0 : inB (↑(List.length (ShPass.tides p)) : Int) 1 50 with
  | true =>
    have hp0 : AllP (pisPass_p0 B p) := by
      exact ⟨⟨trivial, (by have t_ := pIn ((↑(List.length (ShPass.tides p)) : Int)) (1) (50); rw [q0] at t_; exact t_)⟩, trivial⟩
    cases q1 : List.all (ShPass.tides p) fun x => inB x (-1000) 1000 with
    | true =>
      have hp1 : AllP (pisPass_p1 B p) := by
        exact ⟨⟨trivial, (by have t_ := pAllIn (ShPass.tides p) (-1000) (1000); rw [q1] at t_; exact t_)⟩, hp0⟩
      cases q2 : inB (ShPass.depth p) 0 1000 with
      | true =>
        have hp2 : AllP (pisPass_p2 B p) := by
          exact ⟨⟨trivial, (by have t_ := pIn (ShPass.depth p) (0) (1000); rw [q2] at t_; exact t_)⟩, hp1⟩
        cases q3 : inB (ShPass.draft p) 0 1000 with
        | true =>
          have hp3 : AllP (pisPass_p3 B p) := by
            exact ⟨⟨trivial, (by have t_ := pIn (ShPass.draft p) (0) (1000); rw [q3] at t_; exact t_)⟩, hp2⟩
          cases q4 : inB (↑(List.length (ShPass.swell p)) : Int) 1 60 with
          | true =>
            have hp4 : AllP (pisPass_p4 B p) := by
              exact ⟨⟨trivial, (by have t_ := pIn ((↑(List.length (ShPass.swell p)) : Int)) (1) (60); rw [q4] at t_; exact t_)⟩, hp3⟩
            cases q5 : List.all (ShPass.swell p) fun s => spanB (Span.lo s) (Span.hi s) 0 1000 with
            | true =>
              have hp5 : AllP (pisPass_p5 B p) := by
                exact ⟨⟨trivial, (by have t_ := pAreSpans (ShPass.swell p) (1000); rw [q5] at t_; exact t_)⟩, hp4⟩
              cases q6 : spanB (ShPass.llo p) (ShPass.lhi p) 0 23 with
              | true =>
                exact (GoE.endsT okF hJ mixed_ok GoE.start (pisPass_s0 B p)
                  ⟨⟨trivial, (by have t_ := pIsSpan (ShPass.llo p) (ShPass.lhi p) (23); rw [q6] at t_; exact t_)⟩, hp5⟩).cast (by first | rfl | (simp [passB, passC, passD, *]; done) | (simp_all [passB, passC, passD]; done) | (simp_all [passB, passC, passD]; omega))
              | false =>
                exact (GoE.endsT okF hJ mixed_ok GoE.start (pisPass_s1 B p)
                  ⟨⟨trivial, (by have t_ := pIsSpan (ShPass.llo p) (ShPass.lhi p) (23); rw [q6] at t_; exact t_)⟩, hp5⟩).cast (by first | rfl | (simp [passB, passC, passD, *]; done) | (simp_all [passB, passC, passD]; done) | (simp_all [passB, passC, passD]; omega))
            | false =>
              exact (GoE.endsT okF hJ mixed_ok GoE.start (pisPass_s2 B p)
                ⟨⟨trivial, (by have t_ := pAreSpans (ShPass.swell p) (1000); rw [q5] at t_; exact t_)⟩, hp4⟩).cast (by first | rfl | (simp [passB, passC, passD, *]; done) | (simp_all [passB, passC, passD]; done) | (simp_all [passB, passC, passD]; omega))
          | false =>
            exact (GoE.endsT okF hJ mixed_ok GoE.start (pisPass_s3 B p)
              ⟨⟨trivial, (by have t_ := pIn ((↑(List.length (ShPass.swell p)) : Int)) (1) (60); rw [q4] at t_; exact t_)⟩, hp3⟩).cast (by first | rfl | (simp [passB, passC, passD, *]; done) | (simp_all [passB, passC, passD]; done) | (simp_all [passB, passC, passD]; omega))
        | false =>
          exact (GoE.endsT okF hJ mixed_ok GoE.start (pisPass_s4 B p)
            ⟨⟨trivial, (by have t_ := pIn (ShPass.draft p) (0) (1000); rw [q3] at t_; exact t_)⟩, hp2⟩).cast (by first | rfl | (simp [passB, passC, passD, *]; done) | (simp_all [passB, passC, passD]; done) | (simp_all [passB, passC, passD]; omega))
      | false =>
        exact (GoE.endsT okF hJ mixed_ok GoE.start (pisPass_s5 B p)
          ⟨⟨trivial, (by have t_ := pIn (ShPass.depth p) (0) (1000); rw [q2] at t_; exact t_)⟩, hp1⟩).cast (by first | rfl | (simp [passB, passC, passD, *]; done) | (simp_all [passB, passC, passD]; done) | (simp_all [passB, passC, passD]; omega))
    | false =>
      exact (GoE.endsT okF hJ mixed_ok GoE.start (pisPass_s6 B p)
        ⟨⟨trivial, (by have t_ := pAllIn (ShPass.tides p) (-1000) (1000); rw [q1] at t_; exact t_)⟩, hp0⟩).cast (by first | rfl | (simp [passB, passC, passD, *]; done) | (simp_all [passB, passC, passD]; done) | (simp_all [passB, passC, passD]; omega))
  | false =>
    exact (GoE.endsT okF hJ mixed_ok GoE.start (pisPass_s7 B p)
      ⟨⟨trivial, (by have t_ := pIn ((↑(List.length (ShPass.tides p)) : Int)) (1) (50); rw [q0] at t_; exact t_)⟩, trivial⟩).cast (by first | rfl | (simp [passB, passC, passD, *]; done) | (simp_all [passB, passC, passD]; done) | (simp_all [passB, passC, passD]; omega))
theorem pisPass (p : ShPass)  : PureC Tryz.prog J0 60 #[.agg (encPass p).toArray] (.bool (passB p)) :=
  pureC_of (ts := [.agg (encPass p).toArray]) J0_st (c0 := entryC Tryz.prog 60 38 (([.agg (encPass p).toArray]).map (pushT 0 4))) (by kernel_rfl) (by kernel_rfl) fun B hJ => pisPass_e p  hJ
noncomputable def pisDay_p0 (B : Lo) (p : ShPass) (day : Int) : List Prop := [wq ((↑(List.length (ShPass.swell p)) : Int) - 1) = (↑(List.length (ShPass.swell p)) : Int) - 1] ++ ([] : List Prop)
noncomputable def pisDay_q0 (p : ShPass) (day : Int) : ScriptT := [(6, hvI ((↑(List.length (ShPass.swell p)) : Int) - 1))]
set_option maxRecDepth 100000 in
theorem pisDay_s0 (B : Lo) (p : ShPass) (day : Int) : endT (srunT Tryz.prog (okFn Tryz.prog) J0 B 6 1 (entryC Tryz.prog 61 11 (([.agg (encPass p).toArray, .int .i64 day]).map (pushT 0 4))) H00 1
    (pisDay_q0 p day ++ [(7, HintT.pure (Value.bool true) [])]) 0 [] []) [] = some (Value.bool true,
    [AllP [] ∧ PureC Tryz.prog J0 76 #[Value.int IntKind.i64 day, Value.int IntKind.i64 0, Value.int IntKind.i64 ((↑(List.length (ShPass.swell p)) : Int) - 1)] (Value.bool true)] ++ pisDay_p0 B p day) := by kernel_rfl
set_option maxRecDepth 100000 in
theorem pisDay_s1 (B : Lo) (p : ShPass) (day : Int) : endT (srunT Tryz.prog (okFn Tryz.prog) J0 B 6 1 (entryC Tryz.prog 61 11 (([.agg (encPass p).toArray, .int .i64 day]).map (pushT 0 4))) H00 1
    (pisDay_q0 p day ++ [(7, HintT.pure (Value.bool false) [])]) 0 [] []) [] = some (Value.bool false,
    [AllP [] ∧ PureC Tryz.prog J0 76 #[Value.int IntKind.i64 day, Value.int IntKind.i64 0, Value.int IntKind.i64 ((↑(List.length (ShPass.swell p)) : Int) - 1)] (Value.bool false)] ++ pisDay_p0 B p day) := by kernel_rfl
set_option maxHeartbeats 4000000 in
theorem pisDay_e (p : ShPass) (day : Int)  (hfacts : p.swell.length ≤ 9223372036854775807) {B : Lo} (hJ : ∀ w, B.has w → J0 w) : EndsT Tryz.prog B (entryC Tryz.prog 61 11 (([.agg (encPass p).toArray, .int .i64 day]).map (pushT 0 4))) (.bool (inB day 0 (p.swell.length - 1))) := by
  have hp0 : AllP (pisDay_p0 B p day) := by
    exact ⟨(wq_in (by omega) (by omega)), trivial⟩
  cases q0 : inB day 0 ((↑(List.length (ShPass.swell p)) : Int) - 1) with
  | true =>
    exact (GoE.endsT okF hJ mixed_ok GoE.start (pisDay_s0 B p day)
      ⟨⟨trivial, (by have t_ := pIn (day) (0) ((↑(List.length (ShPass.swell p)) : Int) - 1); rw [q0] at t_; exact t_)⟩, hp0⟩).cast (by first | rfl | (simp [*]; done) | (simp_all []; done) | (simp_all []; omega))
  | false =>
    exact (GoE.endsT okF hJ mixed_ok GoE.start (pisDay_s1 B p day)
      ⟨⟨trivial, (by have t_ := pIn (day) (0) ((↑(List.length (ShPass.swell p)) : Int) - 1); rw [q0] at t_; exact t_)⟩, hp0⟩).cast (by first | rfl | (simp [*]; done) | (simp_all []; done) | (simp_all []; omega))
theorem pisDay (p : ShPass) (day : Int)  : PureC Tryz.prog J0 61 #[.agg (encPass p).toArray, .int .i64 day] (.bool (inB day 0 (p.swell.length - 1))) :=
  pureC_ofF (ts := [.agg (encPass p).toArray, .int .i64 day]) (p.swell.length ≤ 9223372036854775807) (fun _ _ ht => ht.ln2 (i := 0) (j := 3) rfl rfl) J0_st (c0 := entryC Tryz.prog 61 11 (([.agg (encPass p).toArray, .int .i64 day]).map (pushT 0 4))) (by kernel_rfl) (by kernel_rfl) fun hfacts B hJ => pisDay_e p day  hfacts hJ
noncomputable def pisCall_p0 (B : Lo) (p : ShPass) (d h : Int) : List Prop := [AllP [] ∧ PureC Tryz.prog J0 61 #[Value.agg #[slT (List.length (ShPass.tides p)) (rowL encI (ShPass.tides p)), Value.int IntKind.i64 (ShPass.depth p), Value.int IntKind.i64 (ShPass.draft p), slT (List.length (ShPass.swell p)) (rowL encSp (ShPass.swell p)), Value.int IntKind.i64 (ShPass.llo p), Value.int IntKind.i64 (ShPass.lhi p)], Value.int IntKind.i64 d] (Value.bool true)] ++ ([] : List Prop)
noncomputable def pisCall_q0 (p : ShPass) (d h : Int) : ScriptT := [(6, HintT.pure (Value.bool true) [])]
set_option maxRecDepth 100000 in
theorem pisCall_s0 (B : Lo) (p : ShPass) (d h : Int) : endT (srunT Tryz.prog (okFn Tryz.prog) J0 B 6 1 (entryC Tryz.prog 65 14 (([.agg (encPass p).toArray, .agg #[.int .i64 d, .int .i64 h]]).map (pushT 0 4))) H00 1
    (pisCall_q0 p d h ++ [(10, HintT.pure (Value.bool true) [])]) 0 [] []) [] = some (Value.bool true,
    [AllP [] ∧ PureC Tryz.prog J0 76 #[Value.int IntKind.i64 h, Value.int IntKind.i64 0, Value.int IntKind.i64 23] (Value.bool true)] ++ pisCall_p0 B p d h) := by kernel_rfl
set_option maxRecDepth 100000 in
theorem pisCall_s1 (B : Lo) (p : ShPass) (d h : Int) : endT (srunT Tryz.prog (okFn Tryz.prog) J0 B 6 1 (entryC Tryz.prog 65 14 (([.agg (encPass p).toArray, .agg #[.int .i64 d, .int .i64 h]]).map (pushT 0 4))) H00 1
    (pisCall_q0 p d h ++ [(10, HintT.pure (Value.bool false) [])]) 0 [] []) [] = some (Value.bool false,
    [AllP [] ∧ PureC Tryz.prog J0 76 #[Value.int IntKind.i64 h, Value.int IntKind.i64 0, Value.int IntKind.i64 23] (Value.bool false)] ++ pisCall_p0 B p d h) := by kernel_rfl
set_option maxRecDepth 100000 in
theorem pisCall_s2 (B : Lo) (p : ShPass) (d h : Int) : endT (srunT Tryz.prog (okFn Tryz.prog) J0 B 6 1 (entryC Tryz.prog 65 14 (([.agg (encPass p).toArray, .agg #[.int .i64 d, .int .i64 h]]).map (pushT 0 4))) H00 1
    [(6, HintT.pure (Value.bool false) [])] 0 [] []) [] = some (Value.bool false,
    [AllP [] ∧ PureC Tryz.prog J0 61 #[Value.agg #[slT (List.length (ShPass.tides p)) (rowL encI (ShPass.tides p)), Value.int IntKind.i64 (ShPass.depth p), Value.int IntKind.i64 (ShPass.draft p), slT (List.length (ShPass.swell p)) (rowL encSp (ShPass.swell p)), Value.int IntKind.i64 (ShPass.llo p), Value.int IntKind.i64 (ShPass.lhi p)], Value.int IntKind.i64 d] (Value.bool false)]) := by kernel_rfl
set_option maxHeartbeats 4000000 in
theorem pisCall_e (p : ShPass) (d h : Int)  {B : Lo} (hJ : ∀ w, B.has w → J0 w) : EndsT Tryz.prog B (entryC Tryz.prog 65 14 (([.agg (encPass p).toArray, .agg #[.int .i64 d, .int .i64 h]]).map (pushT 0 4))) (.bool (inB d 0 (p.swell.length - 1) && inB h 0 23)) := by
  cases q0 : inB d 0 ((↑(List.length (ShPass.swell p)) : Int) - 1) with
  | true =>
    have hp0 : AllP (pisCall_p0 B p d h) := by
      exact ⟨⟨trivial, (by have t_ := pisDay (p) (d); rw [q0] at t_; exact t_)⟩, trivial⟩
    cases q1 : inB h 0 23 with
    | true =>
      exact (GoE.endsT okF hJ mixed_ok GoE.start (pisCall_s0 B p d h)
        ⟨⟨trivial, (by have t_ := pIn (h) (0) (23); rw [q1] at t_; exact t_)⟩, hp0⟩).cast (by first | rfl | (simp [*]; done) | (simp_all []; done) | (simp_all []; omega))
    | false =>
      exact (GoE.endsT okF hJ mixed_ok GoE.start (pisCall_s1 B p d h)
        ⟨⟨trivial, (by have t_ := pIn (h) (0) (23); rw [q1] at t_; exact t_)⟩, hp0⟩).cast (by first | rfl | (simp [*]; done) | (simp_all []; done) | (simp_all []; omega))
  | false =>
    exact (GoE.endsT okF hJ mixed_ok GoE.start (pisCall_s2 B p d h)
      ⟨⟨trivial, (by have t_ := pisDay (p) (d); rw [q0] at t_; exact t_)⟩, trivial⟩).cast (by first | rfl | (simp [*]; done) | (simp_all []; done) | (simp_all []; omega))
theorem pisCall (p : ShPass) (d h : Int)  : PureC Tryz.prog J0 65 #[.agg (encPass p).toArray, .agg #[.int .i64 d, .int .i64 h]] (.bool (inB d 0 (p.swell.length - 1) && inB h 0 23)) :=
  pureC_of (ts := [.agg (encPass p).toArray, .agg #[.int .i64 d, .int .i64 h]]) J0_st (c0 := entryC Tryz.prog 65 14 (([.agg (encPass p).toArray, .agg #[.int .i64 d, .int .i64 h]]).map (pushT 0 4))) (by kernel_rfl) (by kernel_rfl) fun B hJ => pisCall_e p d h  hJ
noncomputable def rDay_p0 (B : Lo) (p : ShPass) (day : Int) : List Prop := [wq ((↑(List.length (ShPass.swell p)) : Int) - 1) = (↑(List.length (ShPass.swell p)) : Int) - 1] ++ ([] : List Prop)
noncomputable def rDay_q0 (p : ShPass) (day : Int) : ScriptT := [(6, hvI ((↑(List.length (ShPass.swell p)) : Int) - 1))]
set_option maxRecDepth 100000 in
theorem rDay_s0 (B : Lo) (p : ShPass) (day : Int) : endT (srunT Tryz.prog (okFn Tryz.prog) J0 B 6 1 (entryC Tryz.prog 22 11 (([.agg (encPass p).toArray, .int .i64 day]).map (pushT 0 4))) H00 1
    (rDay_q0 p day ++ [(7, HintT.pure (Value.bool true) [])]) 0 [] []) [] = some (Value.bool true,
    [AllP [] ∧ PureC Tryz.prog J0 69 #[Value.int IntKind.i64 day, Value.int IntKind.i64 0, Value.int IntKind.i64 ((↑(List.length (ShPass.swell p)) : Int) - 1)] (Value.bool true)] ++ rDay_p0 B p day) := by kernel_rfl
set_option maxRecDepth 100000 in
theorem rDay_s1 (B : Lo) (p : ShPass) (day : Int) : endT (srunT Tryz.prog (okFn Tryz.prog) J0 B 6 1 (entryC Tryz.prog 22 11 (([.agg (encPass p).toArray, .int .i64 day]).map (pushT 0 4))) H00 1
    (rDay_q0 p day ++ [(7, HintT.pure (Value.bool false) [])]) 0 [] []) [] = some (Value.bool false,
    [AllP [] ∧ PureC Tryz.prog J0 69 #[Value.int IntKind.i64 day, Value.int IntKind.i64 0, Value.int IntKind.i64 ((↑(List.length (ShPass.swell p)) : Int) - 1)] (Value.bool false)] ++ rDay_p0 B p day) := by kernel_rfl
set_option maxHeartbeats 4000000 in
theorem rDay_e (p : ShPass) (day : Int)  (hfacts : p.swell.length ≤ 9223372036854775807) {B : Lo} (hJ : ∀ w, B.has w → J0 w) : EndsT Tryz.prog B (entryC Tryz.prog 22 11 (([.agg (encPass p).toArray, .int .i64 day]).map (pushT 0 4))) (.bool (inB day 0 (p.swell.length - 1))) := by
  have hp0 : AllP (rDay_p0 B p day) := by
    exact ⟨(wq_in (by omega) (by omega)), trivial⟩
  cases q0 : inB day 0 ((↑(List.length (ShPass.swell p)) : Int) - 1) with
  | true =>
    exact (GoE.endsT okF hJ mixed_ok GoE.start (rDay_s0 B p day)
      ⟨⟨trivial, (by have t_ := rin (day) (0) ((↑(List.length (ShPass.swell p)) : Int) - 1); rw [q0] at t_; exact t_)⟩, hp0⟩).cast (by first | rfl | (simp [*]; done) | (simp_all []; done) | (simp_all []; omega))
  | false =>
    exact (GoE.endsT okF hJ mixed_ok GoE.start (rDay_s1 B p day)
      ⟨⟨trivial, (by have t_ := rin (day) (0) ((↑(List.length (ShPass.swell p)) : Int) - 1); rw [q0] at t_; exact t_)⟩, hp0⟩).cast (by first | rfl | (simp [*]; done) | (simp_all []; done) | (simp_all []; omega))
theorem rDay (p : ShPass) (day : Int)  : PureC Tryz.prog J0 22 #[.agg (encPass p).toArray, .int .i64 day] (.bool (inB day 0 (p.swell.length - 1))) :=
  pureC_ofF (ts := [.agg (encPass p).toArray, .int .i64 day]) (p.swell.length ≤ 9223372036854775807) (fun _ _ ht => ht.ln2 (i := 0) (j := 3) rfl rfl) J0_st (c0 := entryC Tryz.prog 22 11 (([.agg (encPass p).toArray, .int .i64 day]).map (pushT 0 4))) (by kernel_rfl) (by kernel_rfl) fun hfacts B hJ => rDay_e p day  hfacts hJ
noncomputable def rCall_p0 (B : Lo) (p : ShPass) (d h : Int) : List Prop := [AllP [] ∧ PureC Tryz.prog J0 22 #[Value.agg #[slT (List.length (ShPass.tides p)) (rowL encI (ShPass.tides p)), Value.int IntKind.i64 (ShPass.depth p), Value.int IntKind.i64 (ShPass.draft p), slT (List.length (ShPass.swell p)) (rowL encSp (ShPass.swell p)), Value.int IntKind.i64 (ShPass.llo p), Value.int IntKind.i64 (ShPass.lhi p)], Value.int IntKind.i64 d] (Value.bool true)] ++ ([] : List Prop)
noncomputable def rCall_q0 (p : ShPass) (d h : Int) : ScriptT := [(6, HintT.pure (Value.bool true) [])]
set_option maxRecDepth 100000 in
theorem rCall_s0 (B : Lo) (p : ShPass) (d h : Int) : endT (srunT Tryz.prog (okFn Tryz.prog) J0 B 6 1 (entryC Tryz.prog 25 14 (([.agg (encPass p).toArray, .agg #[.int .i64 d, .int .i64 h]]).map (pushT 0 4))) H00 1
    (rCall_q0 p d h ++ [(10, HintT.pure (Value.bool true) [])]) 0 [] []) [] = some (Value.bool true,
    [AllP [] ∧ PureC Tryz.prog J0 69 #[Value.int IntKind.i64 h, Value.int IntKind.i64 0, Value.int IntKind.i64 23] (Value.bool true)] ++ rCall_p0 B p d h) := by kernel_rfl
set_option maxRecDepth 100000 in
theorem rCall_s1 (B : Lo) (p : ShPass) (d h : Int) : endT (srunT Tryz.prog (okFn Tryz.prog) J0 B 6 1 (entryC Tryz.prog 25 14 (([.agg (encPass p).toArray, .agg #[.int .i64 d, .int .i64 h]]).map (pushT 0 4))) H00 1
    (rCall_q0 p d h ++ [(10, HintT.pure (Value.bool false) [])]) 0 [] []) [] = some (Value.bool false,
    [AllP [] ∧ PureC Tryz.prog J0 69 #[Value.int IntKind.i64 h, Value.int IntKind.i64 0, Value.int IntKind.i64 23] (Value.bool false)] ++ rCall_p0 B p d h) := by kernel_rfl
set_option maxRecDepth 100000 in
theorem rCall_s2 (B : Lo) (p : ShPass) (d h : Int) : endT (srunT Tryz.prog (okFn Tryz.prog) J0 B 6 1 (entryC Tryz.prog 25 14 (([.agg (encPass p).toArray, .agg #[.int .i64 d, .int .i64 h]]).map (pushT 0 4))) H00 1
    [(6, HintT.pure (Value.bool false) [])] 0 [] []) [] = some (Value.bool false,
    [AllP [] ∧ PureC Tryz.prog J0 22 #[Value.agg #[slT (List.length (ShPass.tides p)) (rowL encI (ShPass.tides p)), Value.int IntKind.i64 (ShPass.depth p), Value.int IntKind.i64 (ShPass.draft p), slT (List.length (ShPass.swell p)) (rowL encSp (ShPass.swell p)), Value.int IntKind.i64 (ShPass.llo p), Value.int IntKind.i64 (ShPass.lhi p)], Value.int IntKind.i64 d] (Value.bool false)]) := by kernel_rfl
set_option maxHeartbeats 4000000 in
theorem rCall_e (p : ShPass) (d h : Int)  {B : Lo} (hJ : ∀ w, B.has w → J0 w) : EndsT Tryz.prog B (entryC Tryz.prog 25 14 (([.agg (encPass p).toArray, .agg #[.int .i64 d, .int .i64 h]]).map (pushT 0 4))) (.bool (inB d 0 (p.swell.length - 1) && inB h 0 23)) := by
  cases q0 : inB d 0 ((↑(List.length (ShPass.swell p)) : Int) - 1) with
  | true =>
    have hp0 : AllP (rCall_p0 B p d h) := by
      exact ⟨⟨trivial, (by have t_ := rDay (p) (d); rw [q0] at t_; exact t_)⟩, trivial⟩
    cases q1 : inB h 0 23 with
    | true =>
      exact (GoE.endsT okF hJ mixed_ok GoE.start (rCall_s0 B p d h)
        ⟨⟨trivial, (by have t_ := rin (h) (0) (23); rw [q1] at t_; exact t_)⟩, hp0⟩).cast (by first | rfl | (simp [*]; done) | (simp_all []; done) | (simp_all []; omega))
    | false =>
      exact (GoE.endsT okF hJ mixed_ok GoE.start (rCall_s1 B p d h)
        ⟨⟨trivial, (by have t_ := rin (h) (0) (23); rw [q1] at t_; exact t_)⟩, hp0⟩).cast (by first | rfl | (simp [*]; done) | (simp_all []; done) | (simp_all []; omega))
  | false =>
    exact (GoE.endsT okF hJ mixed_ok GoE.start (rCall_s2 B p d h)
      ⟨⟨trivial, (by have t_ := rDay (p) (d); rw [q0] at t_; exact t_)⟩, trivial⟩).cast (by first | rfl | (simp [*]; done) | (simp_all []; done) | (simp_all []; omega))
theorem rCall (p : ShPass) (d h : Int)  : PureC Tryz.prog J0 25 #[.agg (encPass p).toArray, .agg #[.int .i64 d, .int .i64 h]] (.bool (inB d 0 (p.swell.length - 1) && inB h 0 23)) :=
  pureC_of (ts := [.agg (encPass p).toArray, .agg #[.int .i64 d, .int .i64 h]]) J0_st (c0 := entryC Tryz.prog 25 14 (([.agg (encPass p).toArray, .agg #[.int .i64 d, .int .i64 h]]).map (pushT 0 4))) (by kernel_rfl) (by kernel_rfl) fun B hJ => rCall_e p d h  hJ
set_option maxRecDepth 100000 in
theorem pCheckPass_s0 (B : Lo) (p : ShPass) : endT (srunT Tryz.prog (okFn Tryz.prog) J0 B 11 1 (entryC Tryz.prog 18 6 (([.agg (encPass p).toArray]).map (pushT 0 4))) H00 1
    [(3, HintT.pure (Value.bool true) [])] 0 [] []) [] = some (Value.int IntKind.i64 0,
    [AllP [] ∧ PureC Tryz.prog J0 60 #[Value.agg #[slT (List.length (ShPass.tides p)) (rowL encI (ShPass.tides p)), Value.int IntKind.i64 (ShPass.depth p), Value.int IntKind.i64 (ShPass.draft p), slT (List.length (ShPass.swell p)) (rowL encSp (ShPass.swell p)), Value.int IntKind.i64 (ShPass.llo p), Value.int IntKind.i64 (ShPass.lhi p)]] (Value.bool true)]) := by kernel_rfl
set_option maxRecDepth 100000 in
theorem pCheckPass_s1 (B : Lo) (p : ShPass) : endT (srunT Tryz.prog (okFn Tryz.prog) J0 B 10 1 (entryC Tryz.prog 18 6 (([.agg (encPass p).toArray]).map (pushT 0 4))) H00 1
    [(3, HintT.pure (Value.bool false) [])] 0 [] []) [] = some (Value.int IntKind.i64 2,
    [AllP [] ∧ PureC Tryz.prog J0 60 #[Value.agg #[slT (List.length (ShPass.tides p)) (rowL encI (ShPass.tides p)), Value.int IntKind.i64 (ShPass.depth p), Value.int IntKind.i64 (ShPass.draft p), slT (List.length (ShPass.swell p)) (rowL encSp (ShPass.swell p)), Value.int IntKind.i64 (ShPass.llo p), Value.int IntKind.i64 (ShPass.lhi p)]] (Value.bool false)]) := by kernel_rfl
set_option maxHeartbeats 4000000 in
theorem pCheckPass_e (p : ShPass)  {B : Lo} (hJ : ∀ w, B.has w → J0 w) : EndsT Tryz.prog B (entryC Tryz.prog 18 6 (([.agg (encPass p).toArray]).map (pushT 0 4))) (.int .i64 (if passB p then 0 else 2)) := by
  cases q0 : passB p with
  | true =>
    exact (GoE.endsT okF hJ mixed_ok GoE.start (pCheckPass_s0 B p)
      ⟨⟨trivial, (by have t_ := pisPass (p); rw [q0] at t_; exact t_)⟩, trivial⟩).cast (by first | rfl | (simp [*]; done) | (simp_all []; done) | (simp_all []; omega))
  | false =>
    exact (GoE.endsT okF hJ mixed_ok GoE.start (pCheckPass_s1 B p)
      ⟨⟨trivial, (by have t_ := pisPass (p); rw [q0] at t_; exact t_)⟩, trivial⟩).cast (by first | rfl | (simp [*]; done) | (simp_all []; done) | (simp_all []; omega))
theorem pCheckPass (p : ShPass)  : PureC Tryz.prog J0 18 #[.agg (encPass p).toArray] (.int .i64 (if passB p then 0 else 2)) :=
  pureC_of (ts := [.agg (encPass p).toArray]) J0_st (c0 := entryC Tryz.prog 18 6 (([.agg (encPass p).toArray]).map (pushT 0 4))) (by kernel_rfl) (by kernel_rfl) fun B hJ => pCheckPass_e p  hJ
noncomputable def lpass_p0 (B : Lo) (p : ShPass) : List Prop := [(!ltq 60 (↑(List.length (ShPass.tides p)) : Int)) = true] ++ ([] : List Prop)
noncomputable def lpass_q0 (p : ShPass) : ScriptT := [(5, hvT)]
set_option maxRecDepth 100000 in
theorem lpass_s0 (B : Lo) (p : ShPass) : endT (srunT Tryz.prog (okFn Tryz.prog) J0 B 6 1 (entryC Tryz.prog 16 13 (([.agg (encPass p).toArray]).map (pushT 0 4))) H00 1
    (lpass_q0 p ++ [(10, hvT)]) 0 [] []) [] = some (Value.bool true,
    [(!ltq 70 (↑(List.length (ShPass.swell p)) : Int)) = true] ++ lpass_p0 B p) := by kernel_rfl
set_option maxRecDepth 100000 in
theorem lpass_s1 (B : Lo) (p : ShPass) : endT (srunT Tryz.prog (okFn Tryz.prog) J0 B 6 1 (entryC Tryz.prog 16 13 (([.agg (encPass p).toArray]).map (pushT 0 4))) H00 1
    (lpass_q0 p ++ [(10, hvF)]) 0 [] []) [] = some (Value.bool false,
    [(!ltq 70 (↑(List.length (ShPass.swell p)) : Int)) = false] ++ lpass_p0 B p) := by kernel_rfl
set_option maxRecDepth 100000 in
theorem lpass_s2 (B : Lo) (p : ShPass) : endT (srunT Tryz.prog (okFn Tryz.prog) J0 B 6 1 (entryC Tryz.prog 16 13 (([.agg (encPass p).toArray]).map (pushT 0 4))) H00 1
    [(5, hvF)] 0 [] []) [] = some (Value.bool false,
    [(!ltq 60 (↑(List.length (ShPass.tides p)) : Int)) = false]) := by kernel_rfl
set_option maxHeartbeats 4000000 in
theorem lpass_e (p : ShPass)  {B : Lo} (hJ : ∀ w, B.has w → J0 w) : EndsT Tryz.prog B (entryC Tryz.prog 16 13 (([.agg (encPass p).toArray]).map (pushT 0 4))) (.bool (decide (p.tides.length ≤ 60) && decide (p.swell.length ≤ 70))) := by
  by_cases q0 : ((↑(List.length (ShPass.tides p)) : Int) : Int) ≤ (60)
  ·
    have hp0 : AllP (lpass_p0 B p) := by
      exact ⟨(nltq_t q0), trivial⟩
    by_cases q1 : ((↑(List.length (ShPass.swell p)) : Int) : Int) ≤ (70)
    ·
      exact (GoE.endsT okF hJ mixed_ok GoE.start (lpass_s0 B p)
        ⟨(nltq_t q1), hp0⟩).cast (by first | rfl | (simp [*]; done) | (simp_all []; done) | (simp_all []; omega))
    ·
      exact (GoE.endsT okF hJ mixed_ok GoE.start (lpass_s1 B p)
        ⟨(nltq_f (Int.not_le.1 q1)), hp0⟩).cast (by first | rfl | (simp [*]; done) | (simp_all []; done) | (simp_all []; omega))
  ·
    exact (GoE.endsT okF hJ mixed_ok GoE.start (lpass_s2 B p)
      ⟨(nltq_f (Int.not_le.1 q0)), trivial⟩).cast (by first | rfl | (simp [*]; done) | (simp_all []; done) | (simp_all []; omega))
theorem lpass (p : ShPass)  : PureC Tryz.prog J0 16 #[.agg (encPass p).toArray] (.bool (decide (p.tides.length ≤ 60) && decide (p.swell.length ≤ 70))) :=
  pureC_of (ts := [.agg (encPass p).toArray]) J0_st (c0 := entryC Tryz.prog 16 13 (([.agg (encPass p).toArray]).map (pushT 0 4))) (by kernel_rfl) (by kernel_rfl) fun B hJ => lpass_e p  hJ
end Go.Proofs.YtoihlobogbeigaaGreat

namespace Go.Proofs.YtoihlobogbeigaaGreat
open Go Go.CE Go.RowKit
theorem inB_iff {x lo hi : Int} : inB x lo hi = true ↔ lo ≤ x ∧ x ≤ hi := by simp [inB]
theorem spanB_iff {a b lo hi : Int} : spanB a b lo hi = true ↔ lo ≤ a ∧ a ≤ b ∧ b ≤ hi := by simp [spanB]
theorem pass_facts {p : ShPass} (h : passB p = true) : (1 ≤ p.tides.length ∧ p.tides.length ≤ 50) ∧ (0 ≤ p.depth ∧ p.depth ≤ 1000) ∧ (0 ≤ p.draft ∧ p.draft ≤ 1000) ∧ (1 ≤ p.swell.length ∧ p.swell.length ≤ 60) ∧ 0 ≤ p.llo ∧ p.llo ≤ p.lhi ∧ p.lhi ≤ 23 := by
  simp only [passB, passC, passD, Bool.and_eq_true, inB_iff, spanB_iff] at h
  omega
theorem tide_in {p : ShPass} (h : passB p = true) {k : Nat} (hk : k < p.tides.length) : -1000 ≤ p.tides.getD k default ∧ p.tides.getD k default ≤ 1000 := by
  simp only [passB, Bool.and_eq_true, List.all_eq_true] at h
  have := h.1 _ (List.getElem_mem hk)
  simp only [inB_iff] at this
  simpa [hk] using this
theorem swell_in {p : ShPass} (h : passB p = true) {k : Nat} (hk : k < p.swell.length) : 0 ≤ (p.swell.getD k default).lo ∧ (p.swell.getD k default).lo ≤ (p.swell.getD k default).hi ∧ (p.swell.getD k default).hi ≤ 1000 := by
  simp only [passB, passC, Bool.and_eq_true, List.all_eq_true] at h
  have := h.2.1 _ (List.getElem_mem hk)
  simp only [spanB_iff] at this
  simpa [hk] using this
def tideK (p : ShPass) (d h : Int) : Nat := (Int.tmod (d * 24 + h) p.tides.length).toNat
theorem tideK_lt {p : ShPass} (hp : passB p = true) {d h : Int} (hd : 0 ≤ d) (hh : 0 ≤ h) : 0 ≤ Int.tmod (d * 24 + h) p.tides.length ∧ Int.tmod (d * 24 + h) p.tides.length < p.tides.length ∧ tideK p d h < p.tides.length := by
  have := pass_facts hp
  have h1 : 0 ≤ Int.tmod (d * 24 + h) p.tides.length := Int.tmod_nonneg _ (by omega)
  have h2 : Int.tmod (d * 24 + h) p.tides.length < p.tides.length := Int.tmod_lt_of_pos _ (by omega)
  refine ⟨h1, h2, ?_⟩
  unfold tideK
  omega
def goesB (p : ShPass) (d h s : Int) : Bool := inB h p.llo p.lhi && decide (p.draft ≤ p.depth + p.tides.getD (tideK p d h) default - s)
noncomputable def rGoes_p0 (B : Lo) (p : ShPass) (d h s : Int) : List Prop := [Int.tmod (d * 24 + h) (↑(List.length (ShPass.tides p)) : Int) = (↑(Int.toNat (Int.tmod (d * 24 + h) (↑(List.length (ShPass.tides p)) : Int))) : Int) ∧ Int.toNat (Int.tmod (d * 24 + h) (↑(List.length (ShPass.tides p)) : Int)) < List.length (ShPass.tides p) ∧ Array.extract (rowL encI (ShPass.tides p)) (Int.toNat (Int.tmod (d * 24 + h) (↑(List.length (ShPass.tides p)) : Int)) * TypeInfo.size Tryz.t3) (Int.toNat (Int.tmod (d * 24 + h) (↑(List.length (ShPass.tides p)) : Int)) * TypeInfo.size Tryz.t3 + TypeInfo.size Tryz.t3) = #[Value.int IntKind.i64 (List.getD (ShPass.tides p) (Int.toNat (Int.tmod (d * 24 + h) (↑(List.length (ShPass.tides p)) : Int))) default)], BinTo Tryz.prog BinOp.rem 3 (tget { len := 16000, tr := Tri.set 14 (Tri.set 14 Tri.lf 18 (Value.int IntKind.i64 (↑(List.length (ShPass.tides p)) : Int))) 15 (Value.int IntKind.i64 (d * 24 + h)) } 15) (tget { len := 16000, tr := Tri.set 14 (Tri.set 14 Tri.lf 18 (Value.int IntKind.i64 (↑(List.length (ShPass.tides p)) : Int))) 15 (Value.int IntKind.i64 (d * 24 + h)) } 18) (Value.int IntKind.i64 (Int.tmod (d * 24 + h) (↑(List.length (ShPass.tides p)) : Int))), wq (d * 24 + h) = d * 24 + h, wq (d * 24) = d * 24] ++ ([] : List Prop)
noncomputable def rGoes_q0 (p : ShPass) (d h s : Int) : ScriptT := [(7, hvI (d * 24)), (10, hvI (d * 24 + h)), (14, HintT.bin (Value.int IntKind.i64 (Int.tmod (d * 24 + h) (↑(List.length (ShPass.tides p)) : Int)))), (15, HintT.tidx (Int.toNat (Int.tmod (d * 24 + h) (↑(List.length (ShPass.tides p)) : Int))) #[Value.int IntKind.i64 (List.getD (ShPass.tides p) (Int.toNat (Int.tmod (d * 24 + h) (↑(List.length (ShPass.tides p)) : Int))) default)])]
noncomputable def rGoes_p1 (B : Lo) (p : ShPass) (d h s : Int) : List Prop := [wq (ShPass.depth p + List.getD (ShPass.tides p) (Int.toNat (Int.tmod (d * 24 + h) (↑(List.length (ShPass.tides p)) : Int))) default - s) = ShPass.depth p + List.getD (ShPass.tides p) (Int.toNat (Int.tmod (d * 24 + h) (↑(List.length (ShPass.tides p)) : Int))) default - s, wq (ShPass.depth p + List.getD (ShPass.tides p) (Int.toNat (Int.tmod (d * 24 + h) (↑(List.length (ShPass.tides p)) : Int))) default) = ShPass.depth p + List.getD (ShPass.tides p) (Int.toNat (Int.tmod (d * 24 + h) (↑(List.length (ShPass.tides p)) : Int))) default, AllP [] ∧ PureC Tryz.prog J0 69 #[Value.int IntKind.i64 h, Value.int IntKind.i64 (ShPass.llo p), Value.int IntKind.i64 (ShPass.lhi p)] (Value.bool true)] ++ rGoes_p0 B p d h s
noncomputable def rGoes_q1 (p : ShPass) (d h s : Int) : ScriptT := rGoes_q0 p d h s ++ [(26, HintT.pure (Value.bool true) []), (31, hvI (ShPass.depth p + List.getD (ShPass.tides p) (Int.toNat (Int.tmod (d * 24 + h) (↑(List.length (ShPass.tides p)) : Int))) default)), (33, hvI (ShPass.depth p + List.getD (ShPass.tides p) (Int.toNat (Int.tmod (d * 24 + h) (↑(List.length (ShPass.tides p)) : Int))) default - s))]
set_option maxRecDepth 100000 in
theorem rGoes_s0 (B : Lo) (p : ShPass) (d h s : Int) : endT (srunT Tryz.prog (okFn Tryz.prog) J0 B 8 1 (entryC Tryz.prog 71 42 (([.agg (encPass p).toArray, .agg #[.int .i64 d, .int .i64 h], .int .i64 s]).map (pushT 0 4))) H00 1
    (rGoes_q1 p d h s ++ [(36, hvT)]) 0 [] []) [] = some (Value.bool true,
    [(!ltq (ShPass.depth p + List.getD (ShPass.tides p) (Int.toNat (Int.tmod (d * 24 + h) (↑(List.length (ShPass.tides p)) : Int))) default - s) (ShPass.draft p)) = true] ++ rGoes_p1 B p d h s) := by kernel_rfl
set_option maxRecDepth 100000 in
theorem rGoes_s1 (B : Lo) (p : ShPass) (d h s : Int) : endT (srunT Tryz.prog (okFn Tryz.prog) J0 B 8 1 (entryC Tryz.prog 71 42 (([.agg (encPass p).toArray, .agg #[.int .i64 d, .int .i64 h], .int .i64 s]).map (pushT 0 4))) H00 1
    (rGoes_q1 p d h s ++ [(36, hvF)]) 0 [] []) [] = some (Value.bool false,
    [(!ltq (ShPass.depth p + List.getD (ShPass.tides p) (Int.toNat (Int.tmod (d * 24 + h) (↑(List.length (ShPass.tides p)) : Int))) default - s) (ShPass.draft p)) = false] ++ rGoes_p1 B p d h s) := by kernel_rfl
set_option maxRecDepth 100000 in
theorem rGoes_s2 (B : Lo) (p : ShPass) (d h s : Int) : endT (srunT Tryz.prog (okFn Tryz.prog) J0 B 8 1 (entryC Tryz.prog 71 42 (([.agg (encPass p).toArray, .agg #[.int .i64 d, .int .i64 h], .int .i64 s]).map (pushT 0 4))) H00 1
    (rGoes_q0 p d h s ++ [(26, HintT.pure (Value.bool false) [])]) 0 [] []) [] = some (Value.bool false,
    [AllP [] ∧ PureC Tryz.prog J0 69 #[Value.int IntKind.i64 h, Value.int IntKind.i64 (ShPass.llo p), Value.int IntKind.i64 (ShPass.lhi p)] (Value.bool false)] ++ rGoes_p0 B p d h s) := by kernel_rfl
set_option maxHeartbeats 4000000 in
theorem rGoes_e (p : ShPass) (d h s : Int) (hp : passB p = true) (hd : 0 ≤ d ∧ d ≤ 100) (hh : 0 ≤ h ∧ h ≤ 100) (hs : -100000 ≤ s ∧ s ≤ 100000) {B : Lo} (hJ : ∀ w, B.has w → J0 w) : EndsT Tryz.prog B (entryC Tryz.prog 71 42 (([.agg (encPass p).toArray, .agg #[.int .i64 d, .int .i64 h], .int .i64 s]).map (pushT 0 4))) (.bool (goesB p d h s)) := by
  have hp0 : AllP (rGoes_p0 B p d h s) := by
    have hP := pass_facts hp
    have hT := tideK_lt hp hd.1 hh.1
    have hU := tide_in hp hT.2.2
    unfold tideK at hT hU
    exact ⟨⟨by omega, by omega, (rowL_extract (z := 1) (fun _ => rfl) (by omega))⟩, ⟨(bin_rem (by omega)), ⟨(wq_in (by omega) (by omega)), ⟨(wq_in (by omega) (by omega)), trivial⟩⟩⟩⟩
  cases q0 : inB h (ShPass.llo p) (ShPass.lhi p) with
  | true =>
    have hp1 : AllP (rGoes_p1 B p d h s) := by
      have hP := pass_facts hp
      have hT := tideK_lt hp hd.1 hh.1
      have hU := tide_in hp hT.2.2
      unfold tideK at hT hU
      exact ⟨(wq_in (by omega) (by omega)), ⟨(wq_in (by omega) (by omega)), ⟨⟨trivial, (by have t_ := rin (h) (ShPass.llo p) (ShPass.lhi p); rw [q0] at t_; exact t_)⟩, hp0⟩⟩⟩
    by_cases q1 : (ShPass.draft p : Int) ≤ (ShPass.depth p + List.getD (ShPass.tides p) (Int.toNat (Int.tmod (d * 24 + h) (↑(List.length (ShPass.tides p)) : Int))) default - s)
    ·
      have hP := pass_facts hp
      have hT := tideK_lt hp hd.1 hh.1
      have hU := tide_in hp hT.2.2
      unfold tideK at hT hU
      exact (GoE.endsT okF hJ mixed_ok GoE.start (rGoes_s0 B p d h s)
        ⟨(nltq_t q1), hp1⟩).cast (by first | rfl | (simp [goesB, tideK, *]; done) | (simp_all [goesB, tideK]; done) | (simp_all [goesB, tideK]; omega))
    ·
      have hP := pass_facts hp
      have hT := tideK_lt hp hd.1 hh.1
      have hU := tide_in hp hT.2.2
      unfold tideK at hT hU
      exact (GoE.endsT okF hJ mixed_ok GoE.start (rGoes_s1 B p d h s)
        ⟨(nltq_f (Int.not_le.1 q1)), hp1⟩).cast (by first | rfl | (simp [goesB, tideK, *]; done) | (simp_all [goesB, tideK]; done) | (simp_all [goesB, tideK]; omega))
  | false =>
    have hP := pass_facts hp
    have hT := tideK_lt hp hd.1 hh.1
    have hU := tide_in hp hT.2.2
    unfold tideK at hT hU
    exact (GoE.endsT okF hJ mixed_ok GoE.start (rGoes_s2 B p d h s)
      ⟨⟨trivial, (by have t_ := rin (h) (ShPass.llo p) (ShPass.lhi p); rw [q0] at t_; exact t_)⟩, hp0⟩).cast (by first | rfl | (simp [goesB, tideK, *]; done) | (simp_all [goesB, tideK]; done) | (simp_all [goesB, tideK]; omega))
theorem rGoes (p : ShPass) (d h s : Int) (hp : passB p = true) (hd : 0 ≤ d ∧ d ≤ 100) (hh : 0 ≤ h ∧ h ≤ 100) (hs : -100000 ≤ s ∧ s ≤ 100000) : PureC Tryz.prog J0 71 #[.agg (encPass p).toArray, .agg #[.int .i64 d, .int .i64 h], .int .i64 s] (.bool (goesB p d h s)) :=
  pureC_of (ts := [.agg (encPass p).toArray, .agg #[.int .i64 d, .int .i64 h], .int .i64 s]) J0_st (c0 := entryC Tryz.prog 71 42 (([.agg (encPass p).toArray, .agg #[.int .i64 d, .int .i64 h], .int .i64 s]).map (pushT 0 4))) (by kernel_rfl) (by kernel_rfl) fun B hJ => rGoes_e p d h s hp hd hh hs hJ
noncomputable def rSurely_p0 (B : Lo) (p : ShPass) (d h : Int) : List Prop := [d = (↑(Int.toNat d) : Int) ∧ Int.toNat d < List.length (ShPass.swell p) ∧ Array.extract (rowL encSp (ShPass.swell p)) (Int.toNat d * TypeInfo.size Tryz.t25) (Int.toNat d * TypeInfo.size Tryz.t25 + TypeInfo.size Tryz.t25) = #[Value.int IntKind.i64 (Span.lo (List.getD (ShPass.swell p) (Int.toNat d) default)), Value.int IntKind.i64 (Span.hi (List.getD (ShPass.swell p) (Int.toNat d) default))]] ++ ([] : List Prop)
noncomputable def rSurely_q0 (p : ShPass) (d h : Int) : ScriptT := [(9, HintT.tidx (Int.toNat d) #[Value.int IntKind.i64 (Span.lo (List.getD (ShPass.swell p) (Int.toNat d) default)), Value.int IntKind.i64 (Span.hi (List.getD (ShPass.swell p) (Int.toNat d) default))])]
set_option maxRecDepth 100000 in
theorem rSurely_s0 (B : Lo) (p : ShPass) (d h : Int) : endT (srunT Tryz.prog (okFn Tryz.prog) J0 B 6 1 (entryC Tryz.prog 72 15 (([.agg (encPass p).toArray, .agg #[.int .i64 d, .int .i64 h]]).map (pushT 0 4))) H00 1
    (rSurely_q0 p d h ++ [(12, HintT.pure (Value.bool true) [])]) 0 [] []) [] = some (Value.bool true,
    [AllP [] ∧ PureC Tryz.prog J0 71 #[Value.agg #[slT (List.length (ShPass.tides p)) (rowL encI (ShPass.tides p)), Value.int IntKind.i64 (ShPass.depth p), Value.int IntKind.i64 (ShPass.draft p), slT (List.length (ShPass.swell p)) (rowL encSp (ShPass.swell p)), Value.int IntKind.i64 (ShPass.llo p), Value.int IntKind.i64 (ShPass.lhi p)], Value.agg #[Value.int IntKind.i64 d, Value.int IntKind.i64 h], Value.int IntKind.i64 (Span.hi (List.getD (ShPass.swell p) (Int.toNat d) default))] (Value.bool true)] ++ rSurely_p0 B p d h) := by kernel_rfl
set_option maxRecDepth 100000 in
theorem rSurely_s1 (B : Lo) (p : ShPass) (d h : Int) : endT (srunT Tryz.prog (okFn Tryz.prog) J0 B 6 1 (entryC Tryz.prog 72 15 (([.agg (encPass p).toArray, .agg #[.int .i64 d, .int .i64 h]]).map (pushT 0 4))) H00 1
    (rSurely_q0 p d h ++ [(12, HintT.pure (Value.bool false) [])]) 0 [] []) [] = some (Value.bool false,
    [AllP [] ∧ PureC Tryz.prog J0 71 #[Value.agg #[slT (List.length (ShPass.tides p)) (rowL encI (ShPass.tides p)), Value.int IntKind.i64 (ShPass.depth p), Value.int IntKind.i64 (ShPass.draft p), slT (List.length (ShPass.swell p)) (rowL encSp (ShPass.swell p)), Value.int IntKind.i64 (ShPass.llo p), Value.int IntKind.i64 (ShPass.lhi p)], Value.agg #[Value.int IntKind.i64 d, Value.int IntKind.i64 h], Value.int IntKind.i64 (Span.hi (List.getD (ShPass.swell p) (Int.toNat d) default))] (Value.bool false)] ++ rSurely_p0 B p d h) := by kernel_rfl
set_option maxHeartbeats 4000000 in
theorem rSurely_e (p : ShPass) (d h : Int) (hp : passB p = true) (hd : 0 ≤ d ∧ d < p.swell.length) (hh : 0 ≤ h ∧ h ≤ 100) {B : Lo} (hJ : ∀ w, B.has w → J0 w) : EndsT Tryz.prog B (entryC Tryz.prog 72 15 (([.agg (encPass p).toArray, .agg #[.int .i64 d, .int .i64 h]]).map (pushT 0 4))) (.bool (goesB p d h (p.swell.getD d.toNat default).hi)) := by
  have hp0 : AllP (rSurely_p0 B p d h) := by
    have hP := pass_facts hp
    have hS := swell_in hp (k := d.toNat) (by omega)
    exact ⟨⟨by omega, by omega, (rowL_extract (z := 2) (fun _ => rfl) (by omega))⟩, trivial⟩
  cases q0 : goesB p d h (Span.hi (List.getD (ShPass.swell p) (Int.toNat d) default)) with
  | true =>
    have hP := pass_facts hp
    have hS := swell_in hp (k := d.toNat) (by omega)
    exact (GoE.endsT okF hJ mixed_ok GoE.start (rSurely_s0 B p d h)
      ⟨⟨trivial, (by have t_ := rGoes (p) (d) (h) (Span.hi (List.getD (ShPass.swell p) (Int.toNat d) default)) (by first | assumption | omega | simp_all) (by first | assumption | omega | simp_all) (by first | assumption | omega | simp_all) (by first | assumption | omega | simp_all); rw [q0] at t_; exact t_)⟩, hp0⟩).cast (by first | rfl | (simp [*]; done) | (simp_all []; done) | (simp_all []; omega))
  | false =>
    have hP := pass_facts hp
    have hS := swell_in hp (k := d.toNat) (by omega)
    exact (GoE.endsT okF hJ mixed_ok GoE.start (rSurely_s1 B p d h)
      ⟨⟨trivial, (by have t_ := rGoes (p) (d) (h) (Span.hi (List.getD (ShPass.swell p) (Int.toNat d) default)) (by first | assumption | omega | simp_all) (by first | assumption | omega | simp_all) (by first | assumption | omega | simp_all) (by first | assumption | omega | simp_all); rw [q0] at t_; exact t_)⟩, hp0⟩).cast (by first | rfl | (simp [*]; done) | (simp_all []; done) | (simp_all []; omega))
theorem rSurely (p : ShPass) (d h : Int) (hp : passB p = true) (hd : 0 ≤ d ∧ d < p.swell.length) (hh : 0 ≤ h ∧ h ≤ 100) : PureC Tryz.prog J0 72 #[.agg (encPass p).toArray, .agg #[.int .i64 d, .int .i64 h]] (.bool (goesB p d h (p.swell.getD d.toNat default).hi)) :=
  pureC_of (ts := [.agg (encPass p).toArray, .agg #[.int .i64 d, .int .i64 h]]) J0_st (c0 := entryC Tryz.prog 72 15 (([.agg (encPass p).toArray, .agg #[.int .i64 d, .int .i64 h]]).map (pushT 0 4))) (by kernel_rfl) (by kernel_rfl) fun B hJ => rSurely_e p d h hp hd hh hJ
def swellOf (p : ShPass) (d : Int) (surely : Bool) : Int := bif surely then (p.swell.getD d.toNat default).hi else (p.swell.getD d.toNat default).lo
def hoursL (p : ShPass) (d : Int) (surely : Bool) (h : Int) : List Int := (upI h 24).filter fun h => goesB p d h (swellOf p d surely)
theorem hoursL_cons {p : ShPass} {d h : Int} {s : Bool} (hl : h < 24) : hoursL p d s h = if goesB p d h (swellOf p d s) = true then h :: hoursL p d s (h + 1) else hoursL p d s (h + 1) := by
  unfold hoursL
  rw [upI_cons hl, List.filter_cons]
theorem hoursL_nil {p : ShPass} {d h : Int} {s : Bool} (hl : 24 ≤ h) : hoursL p d s h = [] := by
  unfold hoursL
  rw [upI_nil hl]; rfl
def rHours_v0 (p : ShPass) (d : Int) (s : Bool) (h : Int) : List Value := [Value.int IntKind.i64 d, .bool s, Value.pointer (some { block := 2, off := 0 }), Value.slice none 0 0, .int .i64 h]
def rHours_o0 (p : ShPass) (d : Int) (s : Bool) (h : Int) : List Obj := [Obj.cells #[topV 1 (slT (List.length (ShPass.tides p)) (rowL encI (ShPass.tides p))), Value.int IntKind.i64 (ShPass.depth p), Value.int IntKind.i64 (ShPass.draft p), topV 1 (slT (List.length (ShPass.swell p)) (rowL encSp (ShPass.swell p))), Value.int IntKind.i64 (ShPass.llo p), Value.int IntKind.i64 (ShPass.lhi p)] 27]
noncomputable def rHours_t0 : List Item := ([.code [1, 1, 0, 1, 0, 0], .inLoop [1, 1, 0, 1, 0, 0], .inBlock 0, .code [1, 1, 1]]).map (it (bodyOf Tryz.prog 24))
def rHours_h0 (B : Lo) (c0 : CF) (p : ShPass) (d : Int) (s : Bool) (h : Int) : Prop := ∃ dJ : Nat → Value, (∀ t, Loose (dJ t)) ∧ GoE Tryz.prog B c0 H00 1 (headC 24 38 (([1, 2, 3, 7, 8] : List Nat).zip (rHours_v0 p d s h)) dJ rHours_t0) (headH (rHours_o0 p d s h)) (2 + (rHours_o0 p d s h).length) []
def rHours_v1 (p : ShPass) (d : Int) (s : Bool) (h : Int) (out : List Int) (n : Nat) : List Value := [Value.int IntKind.i64 d, .bool s, Value.pointer (some { block := 2, off := 0 }), .slice (some ⟨3, 0, none⟩) n 1, .int .i64 h]
def rHours_o1 (p : ShPass) (d : Int) (s : Bool) (h : Int) (out : List Int) (n : Nat) : List Obj := [Obj.cells #[topV 1 (slT (List.length (ShPass.tides p)) (rowL encI (ShPass.tides p))), Value.int IntKind.i64 (ShPass.depth p), Value.int IntKind.i64 (ShPass.draft p), topV 1 (slT (List.length (ShPass.swell p)) (rowL encSp (ShPass.swell p))), Value.int IntKind.i64 (ShPass.llo p), Value.int IntKind.i64 (ShPass.lhi p)] 27, .cells (rowL encI out) 3 (0, 0)]
noncomputable def rHours_t1 : List Item := ([.code [1, 1, 0, 1, 0, 0], .inLoop [1, 1, 0, 1, 0, 0], .inBlock 0, .code [1, 1, 1]]).map (it (bodyOf Tryz.prog 24))
def rHours_h1 (B : Lo) (c0 : CF) (p : ShPass) (d : Int) (s : Bool) (h : Int) (out : List Int) (n : Nat) : Prop := ∃ dJ : Nat → Value, (∀ t, Loose (dJ t)) ∧ GoE Tryz.prog B c0 H00 1 (headC 24 38 (([1, 2, 3, 7, 8] : List Nat).zip (rHours_v1 p d s h out n)) dJ rHours_t1) (headH (rHours_o1 p d s h out n)) (2 + (rHours_o1 p d s h out n).length) []
noncomputable def rHours_z0 (p : ShPass) (d : Int) (h : Int) : Array Value := #[Value.agg #[slT (List.length (ShPass.tides p)) (rowL encI (ShPass.tides p)), Value.int IntKind.i64 (ShPass.depth p), Value.int IntKind.i64 (ShPass.draft p), slT (List.length (ShPass.swell p)) (rowL encSp (ShPass.swell p)), Value.int IntKind.i64 (ShPass.llo p), Value.int IntKind.i64 (ShPass.lhi p)], Value.agg #[Value.int IntKind.i64 d, Value.int IntKind.i64 h], Value.int IntKind.i64 (Span.hi (List.getD (ShPass.swell p) (Int.toNat d) default))]
noncomputable def rHours_z1 (p : ShPass) (d : Int) (h : Int) : Array Value := #[Value.agg #[slT (List.length (ShPass.tides p)) (rowL encI (ShPass.tides p)), Value.int IntKind.i64 (ShPass.depth p), Value.int IntKind.i64 (ShPass.draft p), slT (List.length (ShPass.swell p)) (rowL encSp (ShPass.swell p)), Value.int IntKind.i64 (ShPass.llo p), Value.int IntKind.i64 (ShPass.lhi p)], Value.agg #[Value.int IntKind.i64 d, Value.int IntKind.i64 h], Value.int IntKind.i64 (Span.lo (List.getD (ShPass.swell p) (Int.toNat d) default))]
noncomputable def rHours_z2 (p : ShPass) (d : Int) : Array Value := #[Value.int IntKind.i64 (Span.lo (List.getD (ShPass.swell p) (Int.toNat d) default)), Value.int IntKind.i64 (Span.hi (List.getD (ShPass.swell p) (Int.toNat d) default))]
noncomputable def rHours_p0 (B : Lo) (p : ShPass) (d : Int)  (h : Int) (dJ0 : Nat → Value) : List Prop := [d = (↑(Int.toNat d) : Int) ∧ Int.toNat d < List.length (ShPass.swell p) ∧ Array.extract (rowL encSp (ShPass.swell p)) (Int.toNat d * TypeInfo.size Tryz.t25) (Int.toNat d * TypeInfo.size Tryz.t25 + TypeInfo.size Tryz.t25) = (rHours_z2 p d), d = (↑(Int.toNat d) : Int) ∧ Int.toNat d < List.length (ShPass.swell p) ∧ Array.extract (rowL encSp (ShPass.swell p)) (Int.toNat d * TypeInfo.size Tryz.t25) (Int.toNat d * TypeInfo.size Tryz.t25 + TypeInfo.size Tryz.t25) = (rHours_z2 p d), ltq h 24 = true] ++ ([] : List Prop)
noncomputable def rHours_q0 (p : ShPass) (d : Int)  (h : Int) (dJ0 : Nat → Value) : ScriptT := [(1, hvT), (5, HintT.tidx (Int.toNat d) (rHours_z2 p d)), (13, HintT.tidx (Int.toNat d) (rHours_z2 p d))]
set_option maxRecDepth 100000 in
theorem rHours_s0 (B : Lo) (p : ShPass) (d : Int)  (h : Int) (dJ0 : Nat → Value) : landM (srunT Tryz.prog (okFn Tryz.prog) J0 B 21 1 (headC 24 38 (([1, 2, 3, 7, 8] : List Nat).zip (rHours_v0 p d true h)) dJ0 rHours_t0) (headH (rHours_o0 p d true h)) (2 + (rHours_o0 p d true h).length)
    (rHours_q0 p d h dJ0 ++ [(22, HintT.pure (Value.bool true) []), (29, hvI (h + 1))]) 0 [] []) [1, 2, 3, 7, 8] [(2, KS.auto), (4, KS.cells [] (rowL encI [h]))] [] = some ⟨24, 38, rHours_t1, [], .run, none, rHours_v1 p d true (h + 1) ([h]) (1), rHours_o1 p d true (h + 1) ([h]) (1),
    [CellsM 1 [] (#[Value.int IntKind.i64 h]) (rowL encI [h]), wq (h + 1) = h + 1, AllP [] ∧ PureC Tryz.prog J0 71 (rHours_z0 p d h) (Value.bool true)] ++ rHours_p0 B p d h dJ0⟩ := by kernel_rfl
set_option maxRecDepth 100000 in
theorem rHours_s1 (B : Lo) (p : ShPass) (d : Int)  (h : Int) (dJ0 : Nat → Value) : landM (srunT Tryz.prog (okFn Tryz.prog) J0 B 21 1 (headC 24 38 (([1, 2, 3, 7, 8] : List Nat).zip (rHours_v0 p d true h)) dJ0 rHours_t0) (headH (rHours_o0 p d true h)) (2 + (rHours_o0 p d true h).length)
    (rHours_q0 p d h dJ0 ++ [(22, HintT.pure (Value.bool false) []), (24, hvI (h + 1))]) 0 [] []) [1, 2, 3, 7, 8] [(2, KS.auto)] [] = some ⟨24, 38, rHours_t0, [], .run, none, rHours_v0 p d true (h + 1), rHours_o0 p d true (h + 1),
    [wq (h + 1) = h + 1, AllP [] ∧ PureC Tryz.prog J0 71 (rHours_z0 p d h) (Value.bool false)] ++ rHours_p0 B p d h dJ0⟩ := by kernel_rfl
set_option maxRecDepth 100000 in
theorem rHours_s2 (B : Lo) (p : ShPass) (d : Int)  (h : Int) (dJ0 : Nat → Value) : endT (srunT Tryz.prog (okFn Tryz.prog) J0 B 9 1 (headC 24 38 (([1, 2, 3, 7, 8] : List Nat).zip (rHours_v0 p d true h)) dJ0 rHours_t0) (headH (rHours_o0 p d true h)) (2 + (rHours_o0 p d true h).length)
    [(1, hvF)] 0 [] []) [] = some (slT 0 #[],
    [ltq h 24 = false]) := by kernel_rfl
noncomputable def rHours_p1 (B : Lo) (p : ShPass) (d : Int)  (h : Int) (dJ0 : Nat → Value) : List Prop := [d = (↑(Int.toNat d) : Int) ∧ Int.toNat d < List.length (ShPass.swell p) ∧ Array.extract (rowL encSp (ShPass.swell p)) (Int.toNat d * TypeInfo.size Tryz.t25) (Int.toNat d * TypeInfo.size Tryz.t25 + TypeInfo.size Tryz.t25) = (rHours_z2 p d), ltq h 24 = true] ++ ([] : List Prop)
noncomputable def rHours_q1 (p : ShPass) (d : Int)  (h : Int) (dJ0 : Nat → Value) : ScriptT := [(1, hvT), (5, HintT.tidx (Int.toNat d) (rHours_z2 p d))]
set_option maxRecDepth 100000 in
theorem rHours_s3 (B : Lo) (p : ShPass) (d : Int)  (h : Int) (dJ0 : Nat → Value) : landM (srunT Tryz.prog (okFn Tryz.prog) J0 B 21 1 (headC 24 38 (([1, 2, 3, 7, 8] : List Nat).zip (rHours_v0 p d false h)) dJ0 rHours_t0) (headH (rHours_o0 p d false h)) (2 + (rHours_o0 p d false h).length)
    (rHours_q1 p d h dJ0 ++ [(15, HintT.pure (Value.bool true) []), (22, hvI (h + 1))]) 0 [] []) [1, 2, 3, 7, 8] [(2, KS.auto), (4, KS.cells [] (rowL encI [h]))] [] = some ⟨24, 38, rHours_t1, [], .run, none, rHours_v1 p d false (h + 1) ([h]) (1), rHours_o1 p d false (h + 1) ([h]) (1),
    [CellsM 1 [] (#[Value.int IntKind.i64 h]) (rowL encI [h]), wq (h + 1) = h + 1, AllP [] ∧ PureC Tryz.prog J0 71 (rHours_z1 p d h) (Value.bool true)] ++ rHours_p1 B p d h dJ0⟩ := by kernel_rfl
set_option maxRecDepth 100000 in
theorem rHours_s4 (B : Lo) (p : ShPass) (d : Int)  (h : Int) (dJ0 : Nat → Value) : landM (srunT Tryz.prog (okFn Tryz.prog) J0 B 21 1 (headC 24 38 (([1, 2, 3, 7, 8] : List Nat).zip (rHours_v0 p d false h)) dJ0 rHours_t0) (headH (rHours_o0 p d false h)) (2 + (rHours_o0 p d false h).length)
    (rHours_q1 p d h dJ0 ++ [(15, HintT.pure (Value.bool false) []), (17, hvI (h + 1))]) 0 [] []) [1, 2, 3, 7, 8] [(2, KS.auto)] [] = some ⟨24, 38, rHours_t0, [], .run, none, rHours_v0 p d false (h + 1), rHours_o0 p d false (h + 1),
    [wq (h + 1) = h + 1, AllP [] ∧ PureC Tryz.prog J0 71 (rHours_z1 p d h) (Value.bool false)] ++ rHours_p1 B p d h dJ0⟩ := by kernel_rfl
set_option maxRecDepth 100000 in
theorem rHours_s5 (B : Lo) (p : ShPass) (d : Int)  (h : Int) (dJ0 : Nat → Value) : endT (srunT Tryz.prog (okFn Tryz.prog) J0 B 9 1 (headC 24 38 (([1, 2, 3, 7, 8] : List Nat).zip (rHours_v0 p d false h)) dJ0 rHours_t0) (headH (rHours_o0 p d false h)) (2 + (rHours_o0 p d false h).length)
    [(1, hvF)] 0 [] []) [] = some (slT 0 #[],
    [ltq h 24 = false]) := by kernel_rfl
noncomputable def rHours_p2 (B : Lo) (p : ShPass) (d : Int)  (h : Int) (out : List Int) (n : Nat) (dJ0 : Nat → Value) : List Prop := [d = (↑(Int.toNat d) : Int) ∧ Int.toNat d < List.length (ShPass.swell p) ∧ Array.extract (rowL encSp (ShPass.swell p)) (Int.toNat d * TypeInfo.size Tryz.t25) (Int.toNat d * TypeInfo.size Tryz.t25 + TypeInfo.size Tryz.t25) = (rHours_z2 p d), d = (↑(Int.toNat d) : Int) ∧ Int.toNat d < List.length (ShPass.swell p) ∧ Array.extract (rowL encSp (ShPass.swell p)) (Int.toNat d * TypeInfo.size Tryz.t25) (Int.toNat d * TypeInfo.size Tryz.t25 + TypeInfo.size Tryz.t25) = (rHours_z2 p d), ltq h 24 = true] ++ ([] : List Prop)
noncomputable def rHours_q2 (p : ShPass) (d : Int)  (h : Int) (out : List Int) (n : Nat) (dJ0 : Nat → Value) : ScriptT := [(1, hvT), (5, HintT.tidx (Int.toNat d) (rHours_z2 p d)), (13, HintT.tidx (Int.toNat d) (rHours_z2 p d))]
set_option maxRecDepth 100000 in
theorem rHours_s6 (B : Lo) (p : ShPass) (d : Int)  (h : Int) (out : List Int) (n : Nat) (dJ0 : Nat → Value) : landM (srunT Tryz.prog (okFn Tryz.prog) J0 B 21 1 (headC 24 38 (([1, 2, 3, 7, 8] : List Nat).zip (rHours_v1 p d true h out n)) dJ0 rHours_t1) (headH (rHours_o1 p d true h out n)) (2 + (rHours_o1 p d true h out n).length)
    (rHours_q2 p d h out n dJ0 ++ [(22, HintT.pure (Value.bool true) []), (26, HintT.old (Hint.app (rowL encI (out ++ [h])))), (29, hvI (h + 1))]) 0 [] []) [1, 2, 3, 7, 8] [(2, KS.auto), (5, KS.cells [] (rowL encI (out ++ [h])))] [] = some ⟨24, 38, rHours_t1, [], .run, none, rHours_v1 p d true (h + 1) (out ++ [h]) (n + 1), rHours_o1 p d true (h + 1) (out ++ [h]) (n + 1),
    [CellsM 1 [] (rowL encI (out ++ [h])) (rowL encI (out ++ [h])), wq (h + 1) = h + 1, Array.size (rowL encI out) = n * (0 + 1) ∧ n + 1 ≤ maxLen ∧ (n + 1) * 8 ≤ 140737488355328 ∧ rowL encI out ++ #[Value.int IntKind.i64 h] = rowL encI (out ++ [h]), AllP [] ∧ PureC Tryz.prog J0 71 (rHours_z0 p d h) (Value.bool true)] ++ rHours_p2 B p d h out n dJ0⟩ := by kernel_rfl
set_option maxRecDepth 100000 in
theorem rHours_s7 (B : Lo) (p : ShPass) (d : Int)  (h : Int) (out : List Int) (n : Nat) (dJ0 : Nat → Value) : landM (srunT Tryz.prog (okFn Tryz.prog) J0 B 21 1 (headC 24 38 (([1, 2, 3, 7, 8] : List Nat).zip (rHours_v1 p d true h out n)) dJ0 rHours_t1) (headH (rHours_o1 p d true h out n)) (2 + (rHours_o1 p d true h out n).length)
    (rHours_q2 p d h out n dJ0 ++ [(22, HintT.pure (Value.bool false) []), (24, hvI (h + 1))]) 0 [] []) [1, 2, 3, 7, 8] [(2, KS.auto), (3, KS.cells [] (rowL encI out))] [] = some ⟨24, 38, rHours_t1, [], .run, none, rHours_v1 p d true (h + 1) (out) (n), rHours_o1 p d true (h + 1) (out) (n),
    [CellsM 1 [] (rowL encI out) (rowL encI out), wq (h + 1) = h + 1, AllP [] ∧ PureC Tryz.prog J0 71 (rHours_z0 p d h) (Value.bool false)] ++ rHours_p2 B p d h out n dJ0⟩ := by kernel_rfl
set_option maxRecDepth 100000 in
theorem rHours_s8 (B : Lo) (p : ShPass) (d : Int)  (h : Int) (out : List Int) (n : Nat) (dJ0 : Nat → Value) : endT (srunT Tryz.prog (okFn Tryz.prog) J0 B 9 1 (headC 24 38 (([1, 2, 3, 7, 8] : List Nat).zip (rHours_v1 p d true h out n)) dJ0 rHours_t1) (headH (rHours_o1 p d true h out n)) (2 + (rHours_o1 p d true h out n).length)
    [(1, hvF)] 0 [] []) [{ k := 3, rs := [], cs := rowL encI out }] = some (slT n (Fz.cs { k := 3, rs := [], cs := rowL encI out }),
    [CellsT (Fz.rs { k := 3, rs := [], cs := rowL encI out }) (rowL encI out) (Fz.cs { k := 3, rs := [], cs := rowL encI out }), ltq h 24 = false]) := by kernel_rfl
noncomputable def rHours_p3 (B : Lo) (p : ShPass) (d : Int)  (h : Int) (out : List Int) (n : Nat) (dJ0 : Nat → Value) : List Prop := [d = (↑(Int.toNat d) : Int) ∧ Int.toNat d < List.length (ShPass.swell p) ∧ Array.extract (rowL encSp (ShPass.swell p)) (Int.toNat d * TypeInfo.size Tryz.t25) (Int.toNat d * TypeInfo.size Tryz.t25 + TypeInfo.size Tryz.t25) = (rHours_z2 p d), ltq h 24 = true] ++ ([] : List Prop)
noncomputable def rHours_q3 (p : ShPass) (d : Int)  (h : Int) (out : List Int) (n : Nat) (dJ0 : Nat → Value) : ScriptT := [(1, hvT), (5, HintT.tidx (Int.toNat d) (rHours_z2 p d))]
set_option maxRecDepth 100000 in
theorem rHours_s9 (B : Lo) (p : ShPass) (d : Int)  (h : Int) (out : List Int) (n : Nat) (dJ0 : Nat → Value) : landM (srunT Tryz.prog (okFn Tryz.prog) J0 B 21 1 (headC 24 38 (([1, 2, 3, 7, 8] : List Nat).zip (rHours_v1 p d false h out n)) dJ0 rHours_t1) (headH (rHours_o1 p d false h out n)) (2 + (rHours_o1 p d false h out n).length)
    (rHours_q3 p d h out n dJ0 ++ [(15, HintT.pure (Value.bool true) []), (19, HintT.old (Hint.app (rowL encI (out ++ [h])))), (22, hvI (h + 1))]) 0 [] []) [1, 2, 3, 7, 8] [(2, KS.auto), (5, KS.cells [] (rowL encI (out ++ [h])))] [] = some ⟨24, 38, rHours_t1, [], .run, none, rHours_v1 p d false (h + 1) (out ++ [h]) (n + 1), rHours_o1 p d false (h + 1) (out ++ [h]) (n + 1),
    [CellsM 1 [] (rowL encI (out ++ [h])) (rowL encI (out ++ [h])), wq (h + 1) = h + 1, Array.size (rowL encI out) = n * (0 + 1) ∧ n + 1 ≤ maxLen ∧ (n + 1) * 8 ≤ 140737488355328 ∧ rowL encI out ++ #[Value.int IntKind.i64 h] = rowL encI (out ++ [h]), AllP [] ∧ PureC Tryz.prog J0 71 (rHours_z1 p d h) (Value.bool true)] ++ rHours_p3 B p d h out n dJ0⟩ := by kernel_rfl
set_option maxRecDepth 100000 in
theorem rHours_s10 (B : Lo) (p : ShPass) (d : Int)  (h : Int) (out : List Int) (n : Nat) (dJ0 : Nat → Value) : landM (srunT Tryz.prog (okFn Tryz.prog) J0 B 21 1 (headC 24 38 (([1, 2, 3, 7, 8] : List Nat).zip (rHours_v1 p d false h out n)) dJ0 rHours_t1) (headH (rHours_o1 p d false h out n)) (2 + (rHours_o1 p d false h out n).length)
    (rHours_q3 p d h out n dJ0 ++ [(15, HintT.pure (Value.bool false) []), (17, hvI (h + 1))]) 0 [] []) [1, 2, 3, 7, 8] [(2, KS.auto), (3, KS.cells [] (rowL encI out))] [] = some ⟨24, 38, rHours_t1, [], .run, none, rHours_v1 p d false (h + 1) (out) (n), rHours_o1 p d false (h + 1) (out) (n),
    [CellsM 1 [] (rowL encI out) (rowL encI out), wq (h + 1) = h + 1, AllP [] ∧ PureC Tryz.prog J0 71 (rHours_z1 p d h) (Value.bool false)] ++ rHours_p3 B p d h out n dJ0⟩ := by kernel_rfl
set_option maxRecDepth 100000 in
theorem rHours_s11 (B : Lo) (p : ShPass) (d : Int)  (h : Int) (out : List Int) (n : Nat) (dJ0 : Nat → Value) : endT (srunT Tryz.prog (okFn Tryz.prog) J0 B 9 1 (headC 24 38 (([1, 2, 3, 7, 8] : List Nat).zip (rHours_v1 p d false h out n)) dJ0 rHours_t1) (headH (rHours_o1 p d false h out n)) (2 + (rHours_o1 p d false h out n).length)
    [(1, hvF)] 0 [] []) [{ k := 3, rs := [], cs := rowL encI out }] = some (slT n (Fz.cs { k := 3, rs := [], cs := rowL encI out }),
    [CellsT (Fz.rs { k := 3, rs := [], cs := rowL encI out }) (rowL encI out) (Fz.cs { k := 3, rs := [], cs := rowL encI out }), ltq h 24 = false]) := by kernel_rfl
set_option maxRecDepth 100000 in
theorem rHours_s12 (B : Lo) (p : ShPass) (d : Int)  : landM (srunT Tryz.prog (okFn Tryz.prog) J0 B 9 1 (entryC Tryz.prog 24 38 (([.agg (encPass p).toArray, .int .i64 d, .bool true]).map (pushT 0 4))) H00 1
    [] 0 [] []) [1, 2, 3, 7, 8] [(1, KS.auto)] [] = some ⟨24, 38, rHours_t0, [], .run, none, rHours_v0 p d true (0), rHours_o0 p d true (0),
    []⟩ := by kernel_rfl
set_option maxRecDepth 100000 in
theorem rHours_s13 (B : Lo) (p : ShPass) (d : Int)  : landM (srunT Tryz.prog (okFn Tryz.prog) J0 B 9 1 (entryC Tryz.prog 24 38 (([.agg (encPass p).toArray, .int .i64 d, .bool false]).map (pushT 0 4))) H00 1
    [] 0 [] []) [1, 2, 3, 7, 8] [(1, KS.auto)] [] = some ⟨24, 38, rHours_t0, [], .run, none, rHours_v0 p d false (0), rHours_o0 p d false (0),
    []⟩ := by kernel_rfl
set_option maxHeartbeats 4000000 in
theorem rHours_ls (p : ShPass) (d : Int) (s : Bool) (hp : passB p = true) (hd : 0 ≤ d ∧ d < p.swell.length) {B : Lo} (hJ : ∀ w, B.has w → J0 w) {c0 : CF} : ∀ m : Nat, (∀ (h : Int), 24 - h.toNat = m → ∀ (h0 : 0 ≤ h), rHours_h0 B c0 p d s h → EndsT Tryz.prog B c0 (slI (hoursL p d s h))) ∧ (∀ (h : Int) (out : List Int) (n : Nat), 24 - h.toNat = m → ∀ (h0 : 0 ≤ h) (hn : n = out.length) (hx : (n : Int) ≤ h), rHours_h1 B c0 p d s h out n → EndsT Tryz.prog B c0 (slI (out ++ hoursL p d s h))) := by
  intro m0
  induction m0 using Nat.strongRecOn with
  | _ m0 ih0 =>
    refine ⟨?_, ?_⟩
    · intro h hm0 h0 ⟨dJ0, hdJ0, hg0⟩
      cases s with
      | true =>
        by_cases q0 : (h : Int) < (24)
        ·
          have hp0 : AllP (rHours_p0 B p d h dJ0) := by
            have hP := pass_facts hp
            have hS := swell_in hp (k := d.toNat) (by omega)
            have hP := pass_facts hp
            have hS := swell_in hp (k := d.toNat) (by omega)
            exact ⟨⟨by omega, by omega, (rowL_extract (z := 2) (fun _ => rfl) (by omega))⟩, ⟨⟨by omega, by omega, (rowL_extract (z := 2) (fun _ => rfl) (by omega))⟩, ⟨(ltq_t q0), trivial⟩⟩⟩
          cases q1 : goesB p d h (Span.hi (List.getD (ShPass.swell p) (Int.toNat d) default)) with
          | true =>
            have hP := pass_facts hp
            have hS := swell_in hp (k := d.toNat) (by omega)
            have hP := pass_facts hp
            have hS := swell_in hp (k := d.toNat) (by omega)
            exact ((ih0 _ (by omega)).2 (h + 1) ([h]) (1) rfl (by first | assumption | omega | (simp_all; done)) (by first | assumption | omega | (simp_all; done)) (by first | assumption | omega | (simp_all; done))
              (hg0.landM okF hJ mixed_ok (rHours_s0 B p d h dJ0)
              ⟨(cellsM_lit (by kernel_rfl)), ⟨(wq_in (by omega) (by omega)), ⟨⟨trivial, (by have t_ := rGoes (p) (d) (h) (Span.hi (List.getD (ShPass.swell p) (Int.toNat d) default)) (by first | assumption | omega | simp_all) (by first | assumption | omega | simp_all) (by first | assumption | omega | simp_all) (by first | assumption | omega | simp_all); rw [q1] at t_; exact t_)⟩, hp0⟩⟩⟩ (by kernel_rfl) (by kernel_rfl))).cast (by first | rfl | (rw [hoursL_cons (h := h) (by omega)]; simp_all [swellOf]; done) | (rw [hoursL_nil (h := h) (by omega)]; rfl) | (rw [hoursL_nil (h := h) (by omega), List.append_nil, hn]; done))
          | false =>
            have hP := pass_facts hp
            have hS := swell_in hp (k := d.toNat) (by omega)
            have hP := pass_facts hp
            have hS := swell_in hp (k := d.toNat) (by omega)
            exact ((ih0 _ (by omega)).1 (h + 1) rfl (by first | assumption | omega | (simp_all; done))
              (hg0.landM okF hJ mixed_ok (rHours_s1 B p d h dJ0)
              ⟨(wq_in (by omega) (by omega)), ⟨⟨trivial, (by have t_ := rGoes (p) (d) (h) (Span.hi (List.getD (ShPass.swell p) (Int.toNat d) default)) (by first | assumption | omega | simp_all) (by first | assumption | omega | simp_all) (by first | assumption | omega | simp_all) (by first | assumption | omega | simp_all); rw [q1] at t_; exact t_)⟩, hp0⟩⟩ (by kernel_rfl) (by kernel_rfl))).cast (by first | rfl | (rw [hoursL_cons (h := h) (by omega)]; simp_all [swellOf]; done) | (rw [hoursL_nil (h := h) (by omega)]; rfl) | (rw [hoursL_nil (h := h) (by omega), List.append_nil, hn]; done))
        ·
          have hP := pass_facts hp
          have hS := swell_in hp (k := d.toNat) (by omega)
          have hP := pass_facts hp
          have hS := swell_in hp (k := d.toNat) (by omega)
          exact (GoE.endsT okF hJ mixed_ok hg0 (rHours_s2 B p d h dJ0)
            ⟨(ltq_f (Int.not_lt.1 q0)), trivial⟩).cast (by first | rfl | (rw [hoursL_cons (h := h) (by omega)]; simp_all [swellOf]; done) | (rw [hoursL_nil (h := h) (by omega)]; rfl) | (rw [hoursL_nil (h := h) (by omega), List.append_nil, hn]; done))
      | false =>
        by_cases q0 : (h : Int) < (24)
        ·
          have hp1 : AllP (rHours_p1 B p d h dJ0) := by
            have hP := pass_facts hp
            have hS := swell_in hp (k := d.toNat) (by omega)
            have hP := pass_facts hp
            have hS := swell_in hp (k := d.toNat) (by omega)
            exact ⟨⟨by omega, by omega, (rowL_extract (z := 2) (fun _ => rfl) (by omega))⟩, ⟨(ltq_t q0), trivial⟩⟩
          cases q1 : goesB p d h (Span.lo (List.getD (ShPass.swell p) (Int.toNat d) default)) with
          | true =>
            have hP := pass_facts hp
            have hS := swell_in hp (k := d.toNat) (by omega)
            have hP := pass_facts hp
            have hS := swell_in hp (k := d.toNat) (by omega)
            exact ((ih0 _ (by omega)).2 (h + 1) ([h]) (1) rfl (by first | assumption | omega | (simp_all; done)) (by first | assumption | omega | (simp_all; done)) (by first | assumption | omega | (simp_all; done))
              (hg0.landM okF hJ mixed_ok (rHours_s3 B p d h dJ0)
              ⟨(cellsM_lit (by kernel_rfl)), ⟨(wq_in (by omega) (by omega)), ⟨⟨trivial, (by have t_ := rGoes (p) (d) (h) (Span.lo (List.getD (ShPass.swell p) (Int.toNat d) default)) (by first | assumption | omega | simp_all) (by first | assumption | omega | simp_all) (by first | assumption | omega | simp_all) (by first | assumption | omega | simp_all); rw [q1] at t_; exact t_)⟩, hp1⟩⟩⟩ (by kernel_rfl) (by kernel_rfl))).cast (by first | rfl | (rw [hoursL_cons (h := h) (by omega)]; simp_all [swellOf]; done) | (rw [hoursL_nil (h := h) (by omega)]; rfl) | (rw [hoursL_nil (h := h) (by omega), List.append_nil, hn]; done))
          | false =>
            have hP := pass_facts hp
            have hS := swell_in hp (k := d.toNat) (by omega)
            have hP := pass_facts hp
            have hS := swell_in hp (k := d.toNat) (by omega)
            exact ((ih0 _ (by omega)).1 (h + 1) rfl (by first | assumption | omega | (simp_all; done))
              (hg0.landM okF hJ mixed_ok (rHours_s4 B p d h dJ0)
              ⟨(wq_in (by omega) (by omega)), ⟨⟨trivial, (by have t_ := rGoes (p) (d) (h) (Span.lo (List.getD (ShPass.swell p) (Int.toNat d) default)) (by first | assumption | omega | simp_all) (by first | assumption | omega | simp_all) (by first | assumption | omega | simp_all) (by first | assumption | omega | simp_all); rw [q1] at t_; exact t_)⟩, hp1⟩⟩ (by kernel_rfl) (by kernel_rfl))).cast (by first | rfl | (rw [hoursL_cons (h := h) (by omega)]; simp_all [swellOf]; done) | (rw [hoursL_nil (h := h) (by omega)]; rfl) | (rw [hoursL_nil (h := h) (by omega), List.append_nil, hn]; done))
        ·
          have hP := pass_facts hp
          have hS := swell_in hp (k := d.toNat) (by omega)
          have hP := pass_facts hp
          have hS := swell_in hp (k := d.toNat) (by omega)
          exact (GoE.endsT okF hJ mixed_ok hg0 (rHours_s5 B p d h dJ0)
            ⟨(ltq_f (Int.not_lt.1 q0)), trivial⟩).cast (by first | rfl | (rw [hoursL_cons (h := h) (by omega)]; simp_all [swellOf]; done) | (rw [hoursL_nil (h := h) (by omega)]; rfl) | (rw [hoursL_nil (h := h) (by omega), List.append_nil, hn]; done))
    · intro h out n hm0 h0 hn hx ⟨dJ0, hdJ0, hg0⟩
      cases s with
      | true =>
        by_cases q0 : (h : Int) < (24)
        ·
          have hp2 : AllP (rHours_p2 B p d h out n dJ0) := by
            have hP := pass_facts hp
            have hS := swell_in hp (k := d.toNat) (by omega)
            have hP := pass_facts hp
            have hS := swell_in hp (k := d.toNat) (by omega)
            exact ⟨⟨by omega, by omega, (rowL_extract (z := 2) (fun _ => rfl) (by omega))⟩, ⟨⟨by omega, by omega, (rowL_extract (z := 2) (fun _ => rfl) (by omega))⟩, ⟨(ltq_t q0), trivial⟩⟩⟩
          cases q1 : goesB p d h (Span.hi (List.getD (ShPass.swell p) (Int.toNat d) default)) with
          | true =>
            have hP := pass_facts hp
            have hS := swell_in hp (k := d.toNat) (by omega)
            have hP := pass_facts hp
            have hS := swell_in hp (k := d.toNat) (by omega)
            exact ((ih0 _ (by omega)).2 (h + 1) (out ++ [h]) (n + 1) rfl (by first | assumption | omega | (simp_all; done)) (by first | assumption | omega | (simp_all; done)) (by first | assumption | omega | (simp_all; done))
              (hg0.landM okF hJ mixed_ok (rHours_s6 B p d h out n dJ0)
              ⟨(cellsM_simple (rowL_simple (fun _ => List.all_eq_true.1 rfl))), ⟨(wq_in (by omega) (by omega)), ⟨⟨(by first | rfl | exact rowL_size (z := 1) (fun _ => rfl) | (rw [rowL_size (z := 1) (fun _ => rfl)]; first | omega | (simp; omega) | (simp_all; done))), (by unfold maxLen; omega), by omega, by exact rowL_push⟩, ⟨⟨trivial, (by have t_ := rGoes (p) (d) (h) (Span.hi (List.getD (ShPass.swell p) (Int.toNat d) default)) (by first | assumption | omega | simp_all) (by first | assumption | omega | simp_all) (by first | assumption | omega | simp_all) (by first | assumption | omega | simp_all); rw [q1] at t_; exact t_)⟩, hp2⟩⟩⟩⟩ (by kernel_rfl) (by kernel_rfl))).cast (by first | rfl | (rw [hoursL_cons (h := h) (by omega)]; simp_all [swellOf]; done) | (rw [hoursL_nil (h := h) (by omega)]; rfl) | (rw [hoursL_nil (h := h) (by omega), List.append_nil, hn]; done))
          | false =>
            have hP := pass_facts hp
            have hS := swell_in hp (k := d.toNat) (by omega)
            have hP := pass_facts hp
            have hS := swell_in hp (k := d.toNat) (by omega)
            exact ((ih0 _ (by omega)).2 (h + 1) (out) (n) rfl (by first | assumption | omega | (simp_all; done)) (by first | assumption | omega | (simp_all; done)) (by first | assumption | omega | (simp_all; done))
              (hg0.landM okF hJ mixed_ok (rHours_s7 B p d h out n dJ0)
              ⟨(cellsM_simple (rowL_simple (fun _ => List.all_eq_true.1 rfl))), ⟨(wq_in (by omega) (by omega)), ⟨⟨trivial, (by have t_ := rGoes (p) (d) (h) (Span.hi (List.getD (ShPass.swell p) (Int.toNat d) default)) (by first | assumption | omega | simp_all) (by first | assumption | omega | simp_all) (by first | assumption | omega | simp_all) (by first | assumption | omega | simp_all); rw [q1] at t_; exact t_)⟩, hp2⟩⟩⟩ (by kernel_rfl) (by kernel_rfl))).cast (by first | rfl | (rw [hoursL_cons (h := h) (by omega)]; simp_all [swellOf]; done) | (rw [hoursL_nil (h := h) (by omega)]; rfl) | (rw [hoursL_nil (h := h) (by omega), List.append_nil, hn]; done))
        ·
          have hP := pass_facts hp
          have hS := swell_in hp (k := d.toNat) (by omega)
          have hP := pass_facts hp
          have hS := swell_in hp (k := d.toNat) (by omega)
          exact (GoE.endsT okF hJ mixed_ok hg0 (rHours_s8 B p d h out n dJ0)
            ⟨(rowL_cellsT (fun _ => List.all_eq_true.1 rfl)), ⟨(ltq_f (Int.not_lt.1 q0)), trivial⟩⟩).cast (by first | rfl | (rw [hoursL_cons (h := h) (by omega)]; simp_all [swellOf]; done) | (rw [hoursL_nil (h := h) (by omega)]; rfl) | (rw [hoursL_nil (h := h) (by omega), List.append_nil, hn]; done))
      | false =>
        by_cases q0 : (h : Int) < (24)
        ·
          have hp3 : AllP (rHours_p3 B p d h out n dJ0) := by
            have hP := pass_facts hp
            have hS := swell_in hp (k := d.toNat) (by omega)
            have hP := pass_facts hp
            have hS := swell_in hp (k := d.toNat) (by omega)
            exact ⟨⟨by omega, by omega, (rowL_extract (z := 2) (fun _ => rfl) (by omega))⟩, ⟨(ltq_t q0), trivial⟩⟩
          cases q1 : goesB p d h (Span.lo (List.getD (ShPass.swell p) (Int.toNat d) default)) with
          | true =>
            have hP := pass_facts hp
            have hS := swell_in hp (k := d.toNat) (by omega)
            have hP := pass_facts hp
            have hS := swell_in hp (k := d.toNat) (by omega)
            exact ((ih0 _ (by omega)).2 (h + 1) (out ++ [h]) (n + 1) rfl (by first | assumption | omega | (simp_all; done)) (by first | assumption | omega | (simp_all; done)) (by first | assumption | omega | (simp_all; done))
              (hg0.landM okF hJ mixed_ok (rHours_s9 B p d h out n dJ0)
              ⟨(cellsM_simple (rowL_simple (fun _ => List.all_eq_true.1 rfl))), ⟨(wq_in (by omega) (by omega)), ⟨⟨(by first | rfl | exact rowL_size (z := 1) (fun _ => rfl) | (rw [rowL_size (z := 1) (fun _ => rfl)]; first | omega | (simp; omega) | (simp_all; done))), (by unfold maxLen; omega), by omega, by exact rowL_push⟩, ⟨⟨trivial, (by have t_ := rGoes (p) (d) (h) (Span.lo (List.getD (ShPass.swell p) (Int.toNat d) default)) (by first | assumption | omega | simp_all) (by first | assumption | omega | simp_all) (by first | assumption | omega | simp_all) (by first | assumption | omega | simp_all); rw [q1] at t_; exact t_)⟩, hp3⟩⟩⟩⟩ (by kernel_rfl) (by kernel_rfl))).cast (by first | rfl | (rw [hoursL_cons (h := h) (by omega)]; simp_all [swellOf]; done) | (rw [hoursL_nil (h := h) (by omega)]; rfl) | (rw [hoursL_nil (h := h) (by omega), List.append_nil, hn]; done))
          | false =>
            have hP := pass_facts hp
            have hS := swell_in hp (k := d.toNat) (by omega)
            have hP := pass_facts hp
            have hS := swell_in hp (k := d.toNat) (by omega)
            exact ((ih0 _ (by omega)).2 (h + 1) (out) (n) rfl (by first | assumption | omega | (simp_all; done)) (by first | assumption | omega | (simp_all; done)) (by first | assumption | omega | (simp_all; done))
              (hg0.landM okF hJ mixed_ok (rHours_s10 B p d h out n dJ0)
              ⟨(cellsM_simple (rowL_simple (fun _ => List.all_eq_true.1 rfl))), ⟨(wq_in (by omega) (by omega)), ⟨⟨trivial, (by have t_ := rGoes (p) (d) (h) (Span.lo (List.getD (ShPass.swell p) (Int.toNat d) default)) (by first | assumption | omega | simp_all) (by first | assumption | omega | simp_all) (by first | assumption | omega | simp_all) (by first | assumption | omega | simp_all); rw [q1] at t_; exact t_)⟩, hp3⟩⟩⟩ (by kernel_rfl) (by kernel_rfl))).cast (by first | rfl | (rw [hoursL_cons (h := h) (by omega)]; simp_all [swellOf]; done) | (rw [hoursL_nil (h := h) (by omega)]; rfl) | (rw [hoursL_nil (h := h) (by omega), List.append_nil, hn]; done))
        ·
          have hP := pass_facts hp
          have hS := swell_in hp (k := d.toNat) (by omega)
          have hP := pass_facts hp
          have hS := swell_in hp (k := d.toNat) (by omega)
          exact (GoE.endsT okF hJ mixed_ok hg0 (rHours_s11 B p d h out n dJ0)
            ⟨(rowL_cellsT (fun _ => List.all_eq_true.1 rfl)), ⟨(ltq_f (Int.not_lt.1 q0)), trivial⟩⟩).cast (by first | rfl | (rw [hoursL_cons (h := h) (by omega)]; simp_all [swellOf]; done) | (rw [hoursL_nil (h := h) (by omega)]; rfl) | (rw [hoursL_nil (h := h) (by omega), List.append_nil, hn]; done))
set_option maxHeartbeats 4000000 in
theorem rHours_e (p : ShPass) (d : Int) (s : Bool) (hp : passB p = true) (hd : 0 ≤ d ∧ d < p.swell.length) {B : Lo} (hJ : ∀ w, B.has w → J0 w) : EndsT Tryz.prog B (entryC Tryz.prog 24 38 (([.agg (encPass p).toArray, .int .i64 d, .bool s]).map (pushT 0 4))) (slI (hoursL p d s 0)) := by
  cases s with
  | true =>
    have hP := pass_facts hp
    have hS := swell_in hp (k := d.toNat) (by omega)
    exact ((rHours_ls p d true hp hd hJ _).1 (0) rfl (by first | assumption | omega | (simp_all; done))
      (GoE.start.landM okF hJ mixed_ok (rHours_s12 B p d)
      trivial (by kernel_rfl) (by kernel_rfl))).cast (by first | rfl | (simp [*]; done) | (simp_all []; done) | (simp_all []; omega))
  | false =>
    have hP := pass_facts hp
    have hS := swell_in hp (k := d.toNat) (by omega)
    exact ((rHours_ls p d false hp hd hJ _).1 (0) rfl (by first | assumption | omega | (simp_all; done))
      (GoE.start.landM okF hJ mixed_ok (rHours_s13 B p d)
      trivial (by kernel_rfl) (by kernel_rfl))).cast (by first | rfl | (simp [*]; done) | (simp_all []; done) | (simp_all []; omega))
theorem rHours (p : ShPass) (d : Int) (s : Bool) (hp : passB p = true) (hd : 0 ≤ d ∧ d < p.swell.length) : PureC Tryz.prog J0 24 #[.agg (encPass p).toArray, .int .i64 d, .bool s] (slI (hoursL p d s 0)) :=
  pureC_of (ts := [.agg (encPass p).toArray, .int .i64 d, .bool s]) J0_st (c0 := entryC Tryz.prog 24 38 (([.agg (encPass p).toArray, .int .i64 d, .bool s]).map (pushT 0 4))) (by kernel_rfl) (by kernel_rfl) fun B hJ => rHours_e p d s hp hd hJ
end Go.Proofs.YtoihlobogbeigaaGreat

