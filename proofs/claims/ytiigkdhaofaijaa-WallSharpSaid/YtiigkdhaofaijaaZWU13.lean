/- Wall: the program's truths and levels. -/
import Derived.Test.YtiigkdhaofaijaaZWU12
set_option linter.all false
namespace Go.Proofs.Ytiigkdhaofaijaa
open Go Go.CE Go.RowKit
set_option maxRecDepth 100000
def plevel_v0 (s : WShore) (c : WStorm) (t : WTruth) (w i : Int) : List Value := [pA 2 0, .int .i64 w, Value.int IntKind.i64 s.reef, .int .i64 i]
def plevel_o0 (s : WShore) (c : WStorm) (t : WTruth) (w i : Int) : List Obj := [Obj.cells #[Value.int IntKind.i64 t.wind, Value.int IntKind.i64 t.fetch, Value.int IntKind.i64 t.tide, Value.int IntKind.i64 t.loss, topV 1 (slT t.drags.length (rowL encI t.drags))] 38]
noncomputable def plevel_t0 : List Item := ([.code [1, 1, 0, 1, 0, 0], .inLoop [1, 1, 0, 1, 0, 0], .inBlock 0, .code [1, 1, 1]]).map (it (bodyOf Try.prog 75))
def plevel_h0 (B : Lo) (c0 : CF) (s : WShore) (c : WStorm) (t : WTruth) (w i : Int) : Prop := ∃ dJ : Nat → Value, (∀ t, Loose (dJ t)) ∧ GoE Try.prog B c0 H00 1 (headC 75 28 (([3, 5, 13, 14] : List Nat).zip (plevel_v0 s c t w i)) dJ plevel_t0) (headH (plevel_o0 s c t w i)) (2 + (plevel_o0 s c t w i).length) []
theorem plevel_s0 (B : Lo) (s : WShore) (c : WStorm) (t : WTruth) (w i : Int) (dJ0 : Nat → Value) : landM (srunT Try.prog (okFn Try.prog) J0 B 11 1 (headC 75 28 (([3, 5, 13, 14] : List Nat).zip (plevel_v0 s c t w i)) dJ0 plevel_t0) (headH (plevel_o0 s c t w i)) (2 + (plevel_o0 s c t w i).length)
 [(0, hvT), (5, HintT.pure (Value.int IntKind.i64 (Int.tdiv (w * t.loss) 1000)) []), (6, hvI (w - Int.tdiv (w * t.loss) 1000)), (8, hvI (i + 1))] 0 [] []) [3, 5, 13, 14] [(2, KS.auto)] [] = some ⟨75, 28, plevel_t0, [], .run, none, plevel_v0 s c t (w - Int.tdiv (w * t.loss) 1000) (i + 1), plevel_o0 s c t (w - Int.tdiv (w * t.loss) 1000) (i + 1),
 [wq (i + 1) = i + 1, wq (w - Int.tdiv (w * t.loss) 1000) = w - Int.tdiv (w * t.loss) 1000, AllP [] ∧ PureC Try.prog J0 97 #[Value.int IntKind.i64 w, Value.int IntKind.i64 t.loss] (Value.int IntKind.i64 (Int.tdiv (w * t.loss) 1000)), ltq i s.reef = true]⟩ := by kernel_rfl
noncomputable def plevel_H0 (s : WShore) (c : WStorm) (t : WTruth) (w i : Int) (dJ0 : Nat → Value) : Heap := [(3, Obj.cells #[Value.int IntKind.i64 t.tide, Value.int IntKind.i64 w] 3), (0, Obj.coro none), (1, Obj.coro none), (2, Obj.cells #[Value.int IntKind.i64 t.wind, Value.int IntKind.i64 t.fetch, Value.int IntKind.i64 t.tide, Value.int IntKind.i64 t.loss, topV 1 (slT t.drags.length (rowL encI t.drags))] 38)]
noncomputable def plevel_c0 (s : WShore) (c : WStorm) (t : WTruth) (w i : Int) (dJ0 : Nat → Value) : CF := ⟨98, ofList 17 [Value.slice (some { block := 3, off := 0 }) 2 1], [Item.code (bodyOf Try.prog 98)], [], .run, none⟩
theorem plevel_s1 (B : Lo) (s : WShore) (c : WStorm) (t : WTruth) (w i : Int) (dJ0 : Nat → Value) : CE.finK 4 (srunT Try.prog (okFn Try.prog) J0 B 44 4 (plevel_c0 s c t w i dJ0) (plevel_H0 s c t w i dJ0) 4
 [(11, hvI (0 + t.tide)), (21, hvI (0 + t.tide + w))] 0 [] []) [] [] [] = some (OO.ret (Value.int IntKind.i64 (0 + t.tide + w)), [], [],
 [wq (0 + t.tide + w) = 0 + t.tide + w, wq (0 + t.tide) = 0 + t.tide]) := by kernel_rfl
theorem plevel_s2 (B : Lo) (s : WShore) (c : WStorm) (t : WTruth) (w i : Int) (dJ0 : Nat → Value) : endT (srunT Try.prog (okFn Try.prog) J0 B 9 1 (headC 75 28 (([3, 5, 13, 14] : List Nat).zip (plevel_v0 s c t w i)) dJ0 plevel_t0) (headH (plevel_o0 s c t w i)) (2 + (plevel_o0 s c t w i).length)
 [(0, hvF), (5, HintT.call (List.range 4) (OO.ret (Value.int IntKind.i64 (0 + t.tide + w))) ([] ++ (4, regO) :: heapL 5 []) 5 [])] 0 [] []) [] = some (Value.int IntKind.i64 (0 + t.tide + w),
 [FJ Try.prog B (plevel_c0 s c t w i dJ0) (plevel_H0 s c t w i dJ0) 4 (OO.ret (Value.int IntKind.i64 (0 + t.tide + w))) (([] ++ ((4, regO) :: heapL (4 + 1) [])) ++ plevel_H0 s c t w i dJ0) 5 (List.range 4) [], ltq i s.reef = false]) := by kernel_rfl
theorem plevel_s3 (B : Lo) (s : WShore) (c : WStorm) (t : WTruth) : landM (srunT Try.prog (okFn Try.prog) J0 B 9 1 (entryC Try.prog 75 28 (([.agg (encStormy s c).toArray, .agg (encTruth t).toArray]).map (pushT 0 4))) H00 1
 [(7, HintT.pure (Value.int IntKind.i64 (Int.tdiv (t.fetch * t.wind) 1000)) [])] 0 [] []) [3, 5, 13, 14] [(2, KS.auto)] [] = some ⟨75, 28, plevel_t0, [], .run, none, plevel_v0 s c t (Int.tdiv (t.fetch * t.wind) 1000) (0), plevel_o0 s c t (Int.tdiv (t.fetch * t.wind) 1000) (0),
 [AllP [] ∧ PureC Try.prog J0 97 #[Value.int IntKind.i64 t.fetch, Value.int IntKind.i64 t.wind] (Value.int IntKind.i64 (Int.tdiv (t.fetch * t.wind) 1000))]⟩ := by kernel_rfl
set_option maxHeartbeats 4000000 in
theorem plevel_ls (s : WShore) (c : WStorm) (t : WTruth) (hr : 0 ≤ s.reef ∧ s.reef ≤ 20) (ht : tOk s t) {B : Lo} (hJ : ∀ w, B.has w → J0 w) {c0 : CF} : ∀ m : Nat, (∀ (w i : Int), (s.reef - i).toNat = m → ∀ (h0 : 0 ≤ i) (hw : 0 ≤ w ∧ w ≤ 10000), plevel_h0 B c0 s c t w i → EndsT Try.prog B c0 (.int .i64 (t.tide + waveN t.loss (s.reef - i).toNat w))) := by
 intro m0
 induction m0 using Nat.strongRecOn with
 | _ m0 ih0 =>
   intro w i hm0 h0 hw ⟨dJ0, hdJ0, hg0⟩
   have h0 := wave_0 ht
   have hlt := ht.2.2.1
   have hll := ht.2.2.2.1
   have hwi := ht.1
   have hfe := ht.2.1
   have hq := wave_q hw ht.2.2.2.1
   have hlt := ht.2.2.1
   have hll := ht.2.2.2.1
   by_cases q0 : (i : Int) < s.reef
   ·
    have s2 := waveN_cons (l := t.loss) (w := w) q0
    exact ((ih0 _ (by omega)) (w - Int.tdiv (w * t.loss) 1000) (i + 1) rfl (by omega) (by omega)
     (hg0.landM okF hJ mixed_ok (plevel_s0 B s c t w i dJ0)
     ⟨(wq_in (by omega) (by omega)), ⟨(wq_in (by omega) (by omega)), ⟨⟨trivial, pPart (w) t.loss (by omega) (by omega)⟩, ⟨(ltq_t q0), trivial⟩⟩⟩⟩ (by kernel_rfl) (by kernel_rfl))).cast (by (rw [s2]; done))
   ·
    have rj0 : FJ Try.prog B (plevel_c0 s c t w i dJ0) (plevel_H0 s c t w i dJ0) 4 (OO.ret (Value.int IntKind.i64 (0 + t.tide + w))) (([] ++ ((4, regO) :: heapL (4 + 1) [])) ++ plevel_H0 s c t w i dJ0) 5 (List.range 4) [] := by
     have s2 := waveN_nil (l := t.loss) (w := w) (r := s.reef) (i := i) (by omega)
     exact FinK.fjB (GoE.finK okF hJ mixed_ok (under_all (by kernel_rfl)) (writable_of (by kernel_rfl)) ((GoE.refl (P := Try.prog) (B := B) (c0 := plevel_c0 s c t w i dJ0) (under_all (by kernel_rfl))).widen (Wf := ((([]) : List (Nat × KS)).map (·.1))) (by simp) (writable_of (by kernel_rfl))) (plevel_s1 B s c t w i dJ0)
      ⟨(wq_in (by omega) (by omega)), ⟨(wq_in (by omega) (by omega)), trivial⟩⟩) (ex := []) (by kernel_rfl) (lowX_nil _)
    have s2 := waveN_nil (l := t.loss) (w := w) (r := s.reef) (i := i) (by omega)
    exact (GoE.endsT okF hJ mixed_ok hg0 (plevel_s2 B s c t w i dJ0)
     ⟨rj0, ⟨(ltq_f (Int.not_lt.1 q0)), trivial⟩⟩).cast (by (rw [s2]; simp [sumL]; done))
set_option maxHeartbeats 4000000 in
theorem plevel_e (s : WShore) (c : WStorm) (t : WTruth) (hr : 0 ≤ s.reef ∧ s.reef ≤ 20) (ht : tOk s t) {B : Lo} (hJ : ∀ w, B.has w → J0 w) : EndsT Try.prog B (entryC Try.prog 75 28 (([.agg (encStormy s c).toArray, .agg (encTruth t).toArray]).map (pushT 0 4))) (.int .i64 (levelF s t)) := by
 have h0 := wave_0 ht
 have hlt := ht.2.2.1
 have hll := ht.2.2.2.1
 have hwi := ht.1
 have hfe := ht.2.1
 exact ((plevel_ls s c t hr ht hJ _) (Int.tdiv (t.fetch * t.wind) 1000) (0) rfl (by omega) (by omega)
  (GoE.start.landM okF hJ mixed_ok (plevel_s3 B s c t)
  ⟨⟨trivial, pPart t.fetch t.wind (by omega) (by omega)⟩, trivial⟩ (by kernel_rfl) (by kernel_rfl))).cast (by (rw [Int.sub_zero]; rfl))
theorem plevel (s : WShore) (c : WStorm) (t : WTruth) (hr : 0 ≤ s.reef ∧ s.reef ≤ 20) (ht : tOk s t) : PureC Try.prog J0 75 #[.agg (encStormy s c).toArray, .agg (encTruth t).toArray] (.int .i64 (levelF s t)) :=
 pureC_of (ts := [.agg (encStormy s c).toArray, .agg (encTruth t).toArray]) J0_st (c0 := entryC Try.prog 75 28 (([.agg (encStormy s c).toArray, .agg (encTruth t).toArray]).map (pushT 0 4))) (by kernel_rfl) (by kernel_rfl) fun B hJ => plevel_e s c t hr ht hJ
def pEachSH_v0 (xs : List Span) (i : Int) (ys : List Int) : List Value := [Value.func (Fn.func 77) #[] #[], Value.slice (some { block := 2, off := 0 }) xs.length 1, topV 1 (slT xs.length (rowL encSp xs)), Value.int IntKind.i64 (↑xs.length : Int), .int .i64 i]
def pEachSH_o0 (xs : List Span) (i : Int) (ys : List Int) : List Obj := [.cells (rowL encI ys) 3 (0, 0)]
noncomputable def pEachSH_t0 : List Item := ([.code [1, 1, 0, 1, 0, 0], .inLoop [1, 1, 0, 1, 0, 0], .inBlock 0, .code [1, 1, 1]]).map (it (bodyOf Try.prog 99))
def pEachSH_h0 (B : Lo) (c0 : CF) (xs : List Span) (i : Int) (ys : List Int) : Prop := ∃ dJ : Nat → Value, (∀ t, Loose (dJ t)) ∧ GoE Try.prog B c0 H00 1 (headC 99 26 (([1, 5, 11, 12, 13] : List Nat).zip (pEachSH_v0 xs i ys)) dJ pEachSH_t0) (headH (pEachSH_o0 xs i ys)) (2 + (pEachSH_o0 xs i ys).length) []
noncomputable def pEachSH_z0 (xs : List Span) (i : Int) : Array Value := #[Value.int IntKind.i64 (Span.lo (List.getD xs i.toNat default)), Value.int IntKind.i64 (Span.hi (List.getD xs i.toNat default))]
theorem pEachSH_s0 (B : Lo) (xs : List Span) (i : Int) (ys : List Int) (dJ0 : Nat → Value) : landM (srunT Try.prog (okFn Try.prog) J0 B 13 1 (headC 99 26 (([1, 5, 11, 12, 13] : List Nat).zip (pEachSH_v0 xs i ys)) dJ0 pEachSH_t0) (headH (pEachSH_o0 xs i ys)) (2 + (pEachSH_o0 xs i ys).length)
 [(0, hvT), (2, HintT.tidx i.toNat (pEachSH_z0 xs i)), (11, HintT.pure (Value.int IntKind.i64 (Span.hi (List.getD xs i.toNat default))) []), (12, HintT.old (Hint.idx i.toNat)), (13, HintT.old (Hint.st (rowL encI (List.set ys i.toNat (Span.hi (List.getD xs i.toNat default)))))), (14, hvI (i + 1))] 0 [] []) [1, 5, 11, 12, 13] [(2, KS.cells [] (rowL encI (List.set ys i.toNat (Span.hi (List.getD xs i.toNat default)))))] [] = some ⟨99, 26, pEachSH_t0, [], .run, none, pEachSH_v0 xs (i + 1) (List.set ys i.toNat (Span.hi (List.getD xs i.toNat default))), pEachSH_o0 xs (i + 1) (List.set ys i.toNat (Span.hi (List.getD xs i.toNat default))),
 [CellsM 1 [] (rowL encI (List.set ys i.toNat (Span.hi (List.getD xs i.toNat default)))) (rowL encI (List.set ys i.toNat (Span.hi (List.getD xs i.toNat default)))), wq (i + 1) = i + 1, 0 + Int.toNat i * 1 + TypeInfo.size Try.t3 ≤ Array.size (rowL encI ys) ∧ splice (rowL encI ys) (0 + Int.toNat i * 1) (Value.cells (tget { len := 16000, tr := Tri.set 14 (Tri.set 14 Tri.lf 22 (Value.int IntKind.i64 (Span.hi (List.getD xs i.toNat default)))) 23 (Value.pointer (some { block := 2, off := 0 + Int.toNat i * 1 })) } 22)) = rowL encI (List.set ys i.toNat (Span.hi (List.getD xs i.toNat default))), i = (↑i.toNat : Int) ∧ Int.toNat i < List.length xs, AllP [] ∧ PureC Try.prog J0 77 #[Value.agg (pEachSH_z0 xs i)] (Value.int IntKind.i64 (Span.hi (List.getD xs i.toNat default))), i = (↑i.toNat : Int) ∧ Int.toNat i < List.length xs ∧ Array.extract (rowL encSp xs) (Int.toNat i * TypeInfo.size Try.t25) (Int.toNat i * TypeInfo.size Try.t25 + TypeInfo.size Try.t25) = (pEachSH_z0 xs i), ltq i (↑xs.length : Int) = true]⟩ := by kernel_rfl
theorem pEachSH_s1 (B : Lo) (xs : List Span) (i : Int) (ys : List Int) (dJ0 : Nat → Value) : endT (srunT Try.prog (okFn Try.prog) J0 B 9 1 (headC 99 26 (([1, 5, 11, 12, 13] : List Nat).zip (pEachSH_v0 xs i ys)) dJ0 pEachSH_t0) (headH (pEachSH_o0 xs i ys)) (2 + (pEachSH_o0 xs i ys).length)
 [(0, hvF)] 0 [] []) [{ k := 2, rs := [], cs := rowL encI ys }] = some (slT xs.length (Fz.cs { k := 2, rs := [], cs := rowL encI ys }),
 [CellsT (Fz.rs { k := 2, rs := [], cs := rowL encI ys }) (rowL encI ys) (Fz.cs { k := 2, rs := [], cs := rowL encI ys }), ltq i (↑xs.length : Int) = false]) := by kernel_rfl
theorem pEachSH_s2 (B : Lo) (xs : List Span) : landM (srunT Try.prog (okFn Try.prog) J0 B 9 1 (entryC Try.prog 99 26 (([slSp xs, .func (.func 77) #[] #[]]).map (pushT 0 4))) H00 1
 [(3, HintT.old (Hint.mk xs.length (rowL (zeroE [Value.int IntKind.i64 0]) (List.replicate xs.length ()))))] 0 [] []) [1, 5, 11, 12, 13] [(1, KS.rows [] [] (rowL encI (List.replicate xs.length 0)))] [] = some ⟨99, 26, pEachSH_t0, [], .run, none, pEachSH_v0 xs (0) (List.replicate xs.length 0), pEachSH_o0 xs (0) (List.replicate xs.length 0),
 [CellsX 1 [] [] (rowL (zeroE [Value.int IntKind.i64 0]) (List.replicate xs.length ())) (rowL encI (List.replicate xs.length 0)), cMake Try.prog 36 (tget { len := 16000, tr := Tri.set 14 Tri.lf 9 (Value.int IntKind.i64 (↑xs.length : Int)) } 9) (tget { len := 16000, tr := Tri.set 14 Tri.lf 9 (Value.int IntKind.i64 (↑xs.length : Int)) } 9) = some (3, rowL (zeroE [Value.int IntKind.i64 0]) (List.replicate xs.length ()), List.length xs, TypeInfo.size Try.t3)]⟩ := by kernel_rfl
set_option maxHeartbeats 4000000 in
theorem pEachSH_ls (xs : List Span) (hn : xs.length ≤ 1000000) {B : Lo} (hJ : ∀ w, B.has w → J0 w) {c0 : CF} : ∀ m : Nat, (∀ (i : Int) (ys : List Int), (xs.length - i.toNat) = m → ∀ (h0 : 0 ≤ i) (hy : ys = doneL Span.hi 0 xs i), pEachSH_h0 B c0 xs i ys → EndsT Try.prog B c0 (slI (xs.map Span.hi))) := by
 intro m0
 induction m0 using Nat.strongRecOn with
 | _ m0 ih0 =>
   intro i ys hm0 h0 hy ⟨dJ0, hdJ0, hg0⟩
   have hyl : ys.length = xs.length := by rw [hy]; exact doneL_len
   by_cases q0 : (i : Int) < ((↑xs.length : Int))
   ·
    exact ((ih0 _ (by omega)) (i + 1) (List.set ys i.toNat (Span.hi (List.getD xs i.toNat default))) rfl (by omega) (by (subst hy; exact doneL_set (f := Span.hi) h0 q0))
     (hg0.landM okF hJ mixed_ok (pEachSH_s0 B xs i ys dJ0)
     ⟨(cellsM_simple (rowL_simple (fun x => List.all_eq_true.1 (by rfl)))), ⟨(wq_in (by omega) (by omega)), ⟨(by exact rowL_st0 (z := 1) (fun _ => rfl) (by omega) rfl rfl), ⟨⟨by omega, by omega⟩, ⟨⟨trivial, pHigh (Span.lo (List.getD xs i.toNat default)) (Span.hi (List.getD xs i.toNat default))⟩, ⟨⟨by omega, by omega, (rowL_extract (z := 2) (fun _ => rfl) (by omega))⟩, ⟨(ltq_t q0), trivial⟩⟩⟩⟩⟩⟩⟩ (by kernel_rfl) (by kernel_rfl))).cast (by rfl)
   ·
    exact (GoE.endsT okF hJ mixed_ok hg0 (pEachSH_s1 B xs i ys dJ0)
     ⟨(rowL_cellsT (fun x => List.all_eq_true.1 (by rfl))), ⟨(ltq_f (Int.not_lt.1 q0)), trivial⟩⟩).cast (by exact row_len (hy.trans (doneL_end (by omega))) (by simp))
set_option maxHeartbeats 4000000 in
theorem pEachSH_e (xs : List Span) (hn : xs.length ≤ 1000000) {B : Lo} (hJ : ∀ w, B.has w → J0 w) : EndsT Try.prog B (entryC Try.prog 99 26 (([slSp xs, .func (.func 77) #[] #[]]).map (pushT 0 4))) (slI (xs.map Span.hi)) := by
 exact ((pEachSH_ls xs hn hJ _) (0) (List.replicate xs.length 0) rfl (by omega) (by exact doneL_0)
  (GoE.start.landM okF hJ mixed_ok (pEachSH_s2 B xs)
  ⟨(by exact (cellsX_zero (by exact ⟨(.simple rfl), trivial⟩) _)), ⟨(cMakeL (bytes := 8) (by kernel_rfl) (by omega) (by omega) (by omega)), trivial⟩⟩ (by kernel_rfl) (by kernel_rfl))).cast (by rfl)
theorem pEachSH (xs : List Span) (hn : xs.length ≤ 1000000) : PureC Try.prog J0 99 #[slSp xs, .func (.func 77) #[] #[]] (slI (xs.map Span.hi)) :=
 pureC_of (ts := [slSp xs, .func (.func 77) #[] #[]]) J0_st (c0 := entryC Try.prog 99 26 (([slSp xs, .func (.func 77) #[] #[]]).map (pushT 0 4))) (by kernel_rfl) (by kernel_rfl) fun B hJ => pEachSH_e xs hn hJ
def pEachSL_v0 (xs : List Span) (i : Int) (ys : List Int) : List Value := [Value.func (Fn.func 78) #[] #[], Value.slice (some { block := 2, off := 0 }) xs.length 1, topV 1 (slT xs.length (rowL encSp xs)), Value.int IntKind.i64 (↑xs.length : Int), .int .i64 i]
def pEachSL_o0 (xs : List Span) (i : Int) (ys : List Int) : List Obj := [.cells (rowL encI ys) 3 (0, 0)]
noncomputable def pEachSL_t0 : List Item := ([.code [1, 1, 0, 1, 0, 0], .inLoop [1, 1, 0, 1, 0, 0], .inBlock 0, .code [1, 1, 1]]).map (it (bodyOf Try.prog 99))
def pEachSL_h0 (B : Lo) (c0 : CF) (xs : List Span) (i : Int) (ys : List Int) : Prop := ∃ dJ : Nat → Value, (∀ t, Loose (dJ t)) ∧ GoE Try.prog B c0 H00 1 (headC 99 26 (([1, 5, 11, 12, 13] : List Nat).zip (pEachSL_v0 xs i ys)) dJ pEachSL_t0) (headH (pEachSL_o0 xs i ys)) (2 + (pEachSL_o0 xs i ys).length) []
noncomputable def pEachSL_z0 (xs : List Span) (i : Int) : Array Value := #[Value.int IntKind.i64 (Span.lo (List.getD xs i.toNat default)), Value.int IntKind.i64 (Span.hi (List.getD xs i.toNat default))]
theorem pEachSL_s0 (B : Lo) (xs : List Span) (i : Int) (ys : List Int) (dJ0 : Nat → Value) : landM (srunT Try.prog (okFn Try.prog) J0 B 13 1 (headC 99 26 (([1, 5, 11, 12, 13] : List Nat).zip (pEachSL_v0 xs i ys)) dJ0 pEachSL_t0) (headH (pEachSL_o0 xs i ys)) (2 + (pEachSL_o0 xs i ys).length)
 [(0, hvT), (2, HintT.tidx i.toNat (pEachSL_z0 xs i)), (11, HintT.pure (Value.int IntKind.i64 (Span.lo (List.getD xs i.toNat default))) []), (12, HintT.old (Hint.idx i.toNat)), (13, HintT.old (Hint.st (rowL encI (List.set ys i.toNat (Span.lo (List.getD xs i.toNat default)))))), (14, hvI (i + 1))] 0 [] []) [1, 5, 11, 12, 13] [(2, KS.cells [] (rowL encI (List.set ys i.toNat (Span.lo (List.getD xs i.toNat default)))))] [] = some ⟨99, 26, pEachSL_t0, [], .run, none, pEachSL_v0 xs (i + 1) (List.set ys i.toNat (Span.lo (List.getD xs i.toNat default))), pEachSL_o0 xs (i + 1) (List.set ys i.toNat (Span.lo (List.getD xs i.toNat default))),
 [CellsM 1 [] (rowL encI (List.set ys i.toNat (Span.lo (List.getD xs i.toNat default)))) (rowL encI (List.set ys i.toNat (Span.lo (List.getD xs i.toNat default)))), wq (i + 1) = i + 1, 0 + Int.toNat i * 1 + TypeInfo.size Try.t3 ≤ Array.size (rowL encI ys) ∧ splice (rowL encI ys) (0 + Int.toNat i * 1) (Value.cells (tget { len := 16000, tr := Tri.set 14 (Tri.set 14 Tri.lf 22 (Value.int IntKind.i64 (Span.lo (List.getD xs i.toNat default)))) 23 (Value.pointer (some { block := 2, off := 0 + Int.toNat i * 1 })) } 22)) = rowL encI (List.set ys i.toNat (Span.lo (List.getD xs i.toNat default))), i = (↑i.toNat : Int) ∧ Int.toNat i < List.length xs, AllP [] ∧ PureC Try.prog J0 78 #[Value.agg (pEachSL_z0 xs i)] (Value.int IntKind.i64 (Span.lo (List.getD xs i.toNat default))), i = (↑i.toNat : Int) ∧ Int.toNat i < List.length xs ∧ Array.extract (rowL encSp xs) (Int.toNat i * TypeInfo.size Try.t25) (Int.toNat i * TypeInfo.size Try.t25 + TypeInfo.size Try.t25) = (pEachSL_z0 xs i), ltq i (↑xs.length : Int) = true]⟩ := by kernel_rfl
theorem pEachSL_s1 (B : Lo) (xs : List Span) (i : Int) (ys : List Int) (dJ0 : Nat → Value) : endT (srunT Try.prog (okFn Try.prog) J0 B 9 1 (headC 99 26 (([1, 5, 11, 12, 13] : List Nat).zip (pEachSL_v0 xs i ys)) dJ0 pEachSL_t0) (headH (pEachSL_o0 xs i ys)) (2 + (pEachSL_o0 xs i ys).length)
 [(0, hvF)] 0 [] []) [{ k := 2, rs := [], cs := rowL encI ys }] = some (slT xs.length (Fz.cs { k := 2, rs := [], cs := rowL encI ys }),
 [CellsT (Fz.rs { k := 2, rs := [], cs := rowL encI ys }) (rowL encI ys) (Fz.cs { k := 2, rs := [], cs := rowL encI ys }), ltq i (↑xs.length : Int) = false]) := by kernel_rfl
theorem pEachSL_s2 (B : Lo) (xs : List Span) : landM (srunT Try.prog (okFn Try.prog) J0 B 9 1 (entryC Try.prog 99 26 (([slSp xs, .func (.func 78) #[] #[]]).map (pushT 0 4))) H00 1
 [(3, HintT.old (Hint.mk xs.length (rowL (zeroE [Value.int IntKind.i64 0]) (List.replicate xs.length ()))))] 0 [] []) [1, 5, 11, 12, 13] [(1, KS.rows [] [] (rowL encI (List.replicate xs.length 0)))] [] = some ⟨99, 26, pEachSL_t0, [], .run, none, pEachSL_v0 xs (0) (List.replicate xs.length 0), pEachSL_o0 xs (0) (List.replicate xs.length 0),
 [CellsX 1 [] [] (rowL (zeroE [Value.int IntKind.i64 0]) (List.replicate xs.length ())) (rowL encI (List.replicate xs.length 0)), cMake Try.prog 36 (tget { len := 16000, tr := Tri.set 14 Tri.lf 9 (Value.int IntKind.i64 (↑xs.length : Int)) } 9) (tget { len := 16000, tr := Tri.set 14 Tri.lf 9 (Value.int IntKind.i64 (↑xs.length : Int)) } 9) = some (3, rowL (zeroE [Value.int IntKind.i64 0]) (List.replicate xs.length ()), List.length xs, TypeInfo.size Try.t3)]⟩ := by kernel_rfl
set_option maxHeartbeats 4000000 in
theorem pEachSL_ls (xs : List Span) (hn : xs.length ≤ 1000000) {B : Lo} (hJ : ∀ w, B.has w → J0 w) {c0 : CF} : ∀ m : Nat, (∀ (i : Int) (ys : List Int), (xs.length - i.toNat) = m → ∀ (h0 : 0 ≤ i) (hy : ys = doneL Span.lo 0 xs i), pEachSL_h0 B c0 xs i ys → EndsT Try.prog B c0 (slI (xs.map Span.lo))) := by
 intro m0
 induction m0 using Nat.strongRecOn with
 | _ m0 ih0 =>
   intro i ys hm0 h0 hy ⟨dJ0, hdJ0, hg0⟩
   have hyl : ys.length = xs.length := by rw [hy]; exact doneL_len
   by_cases q0 : (i : Int) < ((↑xs.length : Int))
   ·
    exact ((ih0 _ (by omega)) (i + 1) (List.set ys i.toNat (Span.lo (List.getD xs i.toNat default))) rfl (by omega) (by (subst hy; exact doneL_set (f := Span.lo) h0 q0))
     (hg0.landM okF hJ mixed_ok (pEachSL_s0 B xs i ys dJ0)
     ⟨(cellsM_simple (rowL_simple (fun x => List.all_eq_true.1 (by rfl)))), ⟨(wq_in (by omega) (by omega)), ⟨(by exact rowL_st0 (z := 1) (fun _ => rfl) (by omega) rfl rfl), ⟨⟨by omega, by omega⟩, ⟨⟨trivial, pLow (Span.lo (List.getD xs i.toNat default)) (Span.hi (List.getD xs i.toNat default))⟩, ⟨⟨by omega, by omega, (rowL_extract (z := 2) (fun _ => rfl) (by omega))⟩, ⟨(ltq_t q0), trivial⟩⟩⟩⟩⟩⟩⟩ (by kernel_rfl) (by kernel_rfl))).cast (by rfl)
   ·
    exact (GoE.endsT okF hJ mixed_ok hg0 (pEachSL_s1 B xs i ys dJ0)
     ⟨(rowL_cellsT (fun x => List.all_eq_true.1 (by rfl))), ⟨(ltq_f (Int.not_lt.1 q0)), trivial⟩⟩).cast (by exact row_len (hy.trans (doneL_end (by omega))) (by simp))
set_option maxHeartbeats 4000000 in
theorem pEachSL_e (xs : List Span) (hn : xs.length ≤ 1000000) {B : Lo} (hJ : ∀ w, B.has w → J0 w) : EndsT Try.prog B (entryC Try.prog 99 26 (([slSp xs, .func (.func 78) #[] #[]]).map (pushT 0 4))) (slI (xs.map Span.lo)) := by
 exact ((pEachSL_ls xs hn hJ _) (0) (List.replicate xs.length 0) rfl (by omega) (by exact doneL_0)
  (GoE.start.landM okF hJ mixed_ok (pEachSL_s2 B xs)
  ⟨(by exact (cellsX_zero (by exact ⟨(.simple rfl), trivial⟩) _)), ⟨(cMakeL (bytes := 8) (by kernel_rfl) (by omega) (by omega) (by omega)), trivial⟩⟩ (by kernel_rfl) (by kernel_rfl))).cast (by rfl)
theorem pEachSL (xs : List Span) (hn : xs.length ≤ 1000000) : PureC Try.prog J0 99 #[slSp xs, .func (.func 78) #[] #[]] (slI (xs.map Span.lo)) :=
 pureC_of (ts := [slSp xs, .func (.func 78) #[] #[]]) J0_st (c0 := entryC Try.prog 99 26 (([slSp xs, .func (.func 78) #[] #[]]).map (pushT 0 4))) (by kernel_rfl) (by kernel_rfl) fun B hJ => pEachSL_e xs hn hJ
noncomputable def pworst_H0 (s : WShore) (c : WStorm) : Heap := [(2, Obj.cells #[Value.int IntKind.i64 0, Value.int IntKind.i64 0, Value.int IntKind.i64 0, Value.int IntKind.i64 0, Value.slice none 0 0] 38), (1, Obj.cells #[topV 0 (slT s.cells.length (rowL encWCell s.cells)), topV 0 (slT s.works.length (rowL encWWork s.works)), Value.int IntKind.i64 s.reef, Value.int IntKind.i64 s.llo, Value.int IntKind.i64 s.lhi, Value.int IntKind.i64 c.wlo, Value.int IntKind.i64 c.whi, Value.int IntKind.i64 c.flo, Value.int IntKind.i64 c.fhi, Value.int IntKind.i64 c.tlo, Value.int IntKind.i64 c.thi] 92), (0, Obj.coro none)]
noncomputable def pworst_c0 (s : WShore) (c : WStorm) : CF := ⟨76, ofList 32 [Value.agg #[topV 0 (slT s.cells.length (rowL encWCell s.cells)), topV 0 (slT s.works.length (rowL encWWork s.works)), Value.int IntKind.i64 s.reef, Value.int IntKind.i64 s.llo, Value.int IntKind.i64 s.lhi, Value.int IntKind.i64 c.wlo, Value.int IntKind.i64 c.whi, Value.int IntKind.i64 c.flo, Value.int IntKind.i64 c.fhi, Value.int IntKind.i64 c.tlo, Value.int IntKind.i64 c.thi], Value.func (Fn.func 77) #[] #[], Value.func (Fn.func 78) #[] #[]], [Item.code (bodyOf Try.prog 76)], [], .run, none⟩
noncomputable def pworst_z0 (s : WShore) : Value := (slT (List.length (List.map Span.lo (List.map spanOf s.cells))) (rowL encI (List.map Span.lo (List.map spanOf s.cells))))
theorem pworst_s0 (B : Lo) (s : WShore) (c : WStorm) : CE.finK 3 (srunT Try.prog (okFn Try.prog) J0 B 6 3 (pworst_c0 s c) (pworst_H0 s c) 3
 [(6, HintT.pure (Value.int IntKind.i64 c.whi) []), (11, HintT.pure (Value.int IntKind.i64 c.fhi) []), (16, HintT.pure (Value.int IntKind.i64 c.thi) []), (21, HintT.pure (Value.int IntKind.i64 s.llo) []), (23, HintT.pure (slT (List.length (List.map spanOf s.cells)) (rowL encSp (List.map spanOf s.cells))) []), (25, HintT.pure (pworst_z0 s) [])] 0 [] []) [] [] [] = some (OO.ret (Value.agg #[Value.int IntKind.i64 c.whi, Value.int IntKind.i64 c.fhi, Value.int IntKind.i64 c.thi, Value.int IntKind.i64 s.llo, topV 3 (slT (List.length (List.map Span.lo (List.map spanOf s.cells))) (rowL encI (List.map Span.lo (List.map spanOf s.cells))))]), [], [],
 [AllP [] ∧ PureC Try.prog J0 99 #[slT (List.length (List.map spanOf s.cells)) (rowL encSp (List.map spanOf s.cells)), Value.func (Fn.func 78) #[] #[]] (pworst_z0 s), AllP [] ∧ PureC Try.prog J0 82 #[Value.agg #[slT s.cells.length (rowL encWCell s.cells), slT s.works.length (rowL encWWork s.works), Value.int IntKind.i64 s.reef, Value.int IntKind.i64 s.llo, Value.int IntKind.i64 s.lhi, Value.int IntKind.i64 c.wlo, Value.int IntKind.i64 c.whi, Value.int IntKind.i64 c.flo, Value.int IntKind.i64 c.fhi, Value.int IntKind.i64 c.tlo, Value.int IntKind.i64 c.thi]] (slT (List.length (List.map spanOf s.cells)) (rowL encSp (List.map spanOf s.cells))), AllP [] ∧ PureC Try.prog J0 78 #[Value.agg #[Value.int IntKind.i64 s.llo, Value.int IntKind.i64 s.lhi]] (Value.int IntKind.i64 s.llo), AllP [] ∧ PureC Try.prog J0 77 #[Value.agg #[Value.int IntKind.i64 c.tlo, Value.int IntKind.i64 c.thi]] (Value.int IntKind.i64 c.thi), AllP [] ∧ PureC Try.prog J0 77 #[Value.agg #[Value.int IntKind.i64 c.flo, Value.int IntKind.i64 c.fhi]] (Value.int IntKind.i64 c.fhi), AllP [] ∧ PureC Try.prog J0 77 #[Value.agg #[Value.int IntKind.i64 c.wlo, Value.int IntKind.i64 c.whi]] (Value.int IntKind.i64 c.whi)]) := by kernel_rfl
theorem pworst_s1 (B : Lo) (s : WShore) (c : WStorm) : endT (srunT Try.prog (okFn Try.prog) J0 B 6 1 (entryC Try.prog 55 5 (([.agg (encStormy s c).toArray]).map (pushT 0 4))) H00 1
 [(3, HintT.call (List.range 3) (OO.ret (Value.agg #[Value.int IntKind.i64 c.whi, Value.int IntKind.i64 c.fhi, Value.int IntKind.i64 c.thi, Value.int IntKind.i64 s.llo, topV 3 (pworst_z0 s)])) ([] ++ (3, regO) :: heapL 4 []) 4 [])] 0 [] []) [] = some (Value.agg #[Value.int IntKind.i64 c.whi, Value.int IntKind.i64 c.fhi, Value.int IntKind.i64 c.thi, Value.int IntKind.i64 s.llo, slT (List.length (List.map Span.lo (List.map spanOf s.cells))) (rowL encI (List.map Span.lo (List.map spanOf s.cells)))],
 [FJ Try.prog B (pworst_c0 s c) (pworst_H0 s c) 3 (OO.ret (Value.agg #[Value.int IntKind.i64 c.whi, Value.int IntKind.i64 c.fhi, Value.int IntKind.i64 c.thi, Value.int IntKind.i64 s.llo, topV 3 (pworst_z0 s)])) (([] ++ ((3, regO) :: heapL (3 + 1) [])) ++ pworst_H0 s c) 4 (List.range 3) []]) := by kernel_rfl
set_option maxHeartbeats 4000000 in
theorem pworst_e (s : WShore) (c : WStorm) (hn : s.cells.length ≤ 1000000) {B : Lo} (hJ : ∀ w, B.has w → J0 w) : EndsT Try.prog B (entryC Try.prog 55 5 (([.agg (encStormy s c).toArray]).map (pushT 0 4))) (.agg (encTruth (endE true s c)).toArray) := by
 have hm : (s.cells.map spanOf).length ≤ 1000000 := by rw [List.length_map]; exact hn
 have rj0 : FJ Try.prog B (pworst_c0 s c) (pworst_H0 s c) 3 (OO.ret (Value.agg #[Value.int IntKind.i64 c.whi, Value.int IntKind.i64 c.fhi, Value.int IntKind.i64 c.thi, Value.int IntKind.i64 s.llo, topV 3 (slT (List.length (List.map Span.lo (List.map spanOf s.cells))) (rowL encI (List.map Span.lo (List.map spanOf s.cells))))])) (([] ++ ((3, regO) :: heapL (3 + 1) [])) ++ pworst_H0 s c) 4 (List.range 3) [] := by
  exact FinK.fjB (GoE.finK okF hJ mixed_ok (under_all (by kernel_rfl)) (writable_of (by kernel_rfl)) ((GoE.refl (P := Try.prog) (B := B) (c0 := pworst_c0 s c) (under_all (by kernel_rfl))).widen (Wf := ((([]) : List (Nat × KS)).map (·.1))) (by simp) (writable_of (by kernel_rfl))) (pworst_s0 B s c)
   ⟨⟨trivial, pEachSL (List.map spanOf s.cells) (by with_reducible assumption)⟩, ⟨⟨trivial, pdrags (s) (c) (by with_reducible assumption)⟩, ⟨⟨trivial, pLow s.llo s.lhi⟩, ⟨⟨trivial, pHigh c.tlo c.thi⟩, ⟨⟨trivial, pHigh c.flo c.fhi⟩, ⟨⟨trivial, pHigh c.wlo c.whi⟩, trivial⟩⟩⟩⟩⟩⟩) (ex := []) (by kernel_rfl) (lowX_nil _)
 exact (GoE.endsT okF hJ mixed_ok GoE.start (pworst_s1 B s c)
  ⟨rj0, trivial⟩).cast (by (rw [List.map_map]; rfl))
theorem pworst (s : WShore) (c : WStorm) (hn : s.cells.length ≤ 1000000) : PureC Try.prog J0 55 #[.agg (encStormy s c).toArray] (.agg (encTruth (endE true s c)).toArray) :=
 pureC_of (ts := [.agg (encStormy s c).toArray]) J0_st (c0 := entryC Try.prog 55 5 (([.agg (encStormy s c).toArray]).map (pushT 0 4))) (by kernel_rfl) (by kernel_rfl) fun B hJ => pworst_e s c hn hJ
noncomputable def pmildest_H0 (s : WShore) (c : WStorm) : Heap := [(2, Obj.cells #[Value.int IntKind.i64 0, Value.int IntKind.i64 0, Value.int IntKind.i64 0, Value.int IntKind.i64 0, Value.slice none 0 0] 38), (1, Obj.cells #[topV 0 (slT s.cells.length (rowL encWCell s.cells)), topV 0 (slT s.works.length (rowL encWWork s.works)), Value.int IntKind.i64 s.reef, Value.int IntKind.i64 s.llo, Value.int IntKind.i64 s.lhi, Value.int IntKind.i64 c.wlo, Value.int IntKind.i64 c.whi, Value.int IntKind.i64 c.flo, Value.int IntKind.i64 c.fhi, Value.int IntKind.i64 c.tlo, Value.int IntKind.i64 c.thi] 92), (0, Obj.coro none)]
noncomputable def pmildest_c0 (s : WShore) (c : WStorm) : CF := ⟨76, ofList 32 [Value.agg #[topV 0 (slT s.cells.length (rowL encWCell s.cells)), topV 0 (slT s.works.length (rowL encWWork s.works)), Value.int IntKind.i64 s.reef, Value.int IntKind.i64 s.llo, Value.int IntKind.i64 s.lhi, Value.int IntKind.i64 c.wlo, Value.int IntKind.i64 c.whi, Value.int IntKind.i64 c.flo, Value.int IntKind.i64 c.fhi, Value.int IntKind.i64 c.tlo, Value.int IntKind.i64 c.thi], Value.func (Fn.func 78) #[] #[], Value.func (Fn.func 77) #[] #[]], [Item.code (bodyOf Try.prog 76)], [], .run, none⟩
noncomputable def pmildest_z0 (s : WShore) : Value := (slT (List.length (List.map Span.hi (List.map spanOf s.cells))) (rowL encI (List.map Span.hi (List.map spanOf s.cells))))
theorem pmildest_s0 (B : Lo) (s : WShore) (c : WStorm) : CE.finK 3 (srunT Try.prog (okFn Try.prog) J0 B 6 3 (pmildest_c0 s c) (pmildest_H0 s c) 3
 [(6, HintT.pure (Value.int IntKind.i64 c.wlo) []), (11, HintT.pure (Value.int IntKind.i64 c.flo) []), (16, HintT.pure (Value.int IntKind.i64 c.tlo) []), (21, HintT.pure (Value.int IntKind.i64 s.lhi) []), (23, HintT.pure (slT (List.length (List.map spanOf s.cells)) (rowL encSp (List.map spanOf s.cells))) []), (25, HintT.pure (pmildest_z0 s) [])] 0 [] []) [] [] [] = some (OO.ret (Value.agg #[Value.int IntKind.i64 c.wlo, Value.int IntKind.i64 c.flo, Value.int IntKind.i64 c.tlo, Value.int IntKind.i64 s.lhi, topV 3 (slT (List.length (List.map Span.hi (List.map spanOf s.cells))) (rowL encI (List.map Span.hi (List.map spanOf s.cells))))]), [], [],
 [AllP [] ∧ PureC Try.prog J0 99 #[slT (List.length (List.map spanOf s.cells)) (rowL encSp (List.map spanOf s.cells)), Value.func (Fn.func 77) #[] #[]] (pmildest_z0 s), AllP [] ∧ PureC Try.prog J0 82 #[Value.agg #[slT s.cells.length (rowL encWCell s.cells), slT s.works.length (rowL encWWork s.works), Value.int IntKind.i64 s.reef, Value.int IntKind.i64 s.llo, Value.int IntKind.i64 s.lhi, Value.int IntKind.i64 c.wlo, Value.int IntKind.i64 c.whi, Value.int IntKind.i64 c.flo, Value.int IntKind.i64 c.fhi, Value.int IntKind.i64 c.tlo, Value.int IntKind.i64 c.thi]] (slT (List.length (List.map spanOf s.cells)) (rowL encSp (List.map spanOf s.cells))), AllP [] ∧ PureC Try.prog J0 77 #[Value.agg #[Value.int IntKind.i64 s.llo, Value.int IntKind.i64 s.lhi]] (Value.int IntKind.i64 s.lhi), AllP [] ∧ PureC Try.prog J0 78 #[Value.agg #[Value.int IntKind.i64 c.tlo, Value.int IntKind.i64 c.thi]] (Value.int IntKind.i64 c.tlo), AllP [] ∧ PureC Try.prog J0 78 #[Value.agg #[Value.int IntKind.i64 c.flo, Value.int IntKind.i64 c.fhi]] (Value.int IntKind.i64 c.flo), AllP [] ∧ PureC Try.prog J0 78 #[Value.agg #[Value.int IntKind.i64 c.wlo, Value.int IntKind.i64 c.whi]] (Value.int IntKind.i64 c.wlo)]) := by kernel_rfl
theorem pmildest_s1 (B : Lo) (s : WShore) (c : WStorm) : endT (srunT Try.prog (okFn Try.prog) J0 B 6 1 (entryC Try.prog 96 5 (([.agg (encStormy s c).toArray]).map (pushT 0 4))) H00 1
 [(3, HintT.call (List.range 3) (OO.ret (Value.agg #[Value.int IntKind.i64 c.wlo, Value.int IntKind.i64 c.flo, Value.int IntKind.i64 c.tlo, Value.int IntKind.i64 s.lhi, topV 3 (pmildest_z0 s)])) ([] ++ (3, regO) :: heapL 4 []) 4 [])] 0 [] []) [] = some (Value.agg #[Value.int IntKind.i64 c.wlo, Value.int IntKind.i64 c.flo, Value.int IntKind.i64 c.tlo, Value.int IntKind.i64 s.lhi, slT (List.length (List.map Span.hi (List.map spanOf s.cells))) (rowL encI (List.map Span.hi (List.map spanOf s.cells)))],
 [FJ Try.prog B (pmildest_c0 s c) (pmildest_H0 s c) 3 (OO.ret (Value.agg #[Value.int IntKind.i64 c.wlo, Value.int IntKind.i64 c.flo, Value.int IntKind.i64 c.tlo, Value.int IntKind.i64 s.lhi, topV 3 (pmildest_z0 s)])) (([] ++ ((3, regO) :: heapL (3 + 1) [])) ++ pmildest_H0 s c) 4 (List.range 3) []]) := by kernel_rfl
set_option maxHeartbeats 4000000 in
theorem pmildest_e (s : WShore) (c : WStorm) (hn : s.cells.length ≤ 1000000) {B : Lo} (hJ : ∀ w, B.has w → J0 w) : EndsT Try.prog B (entryC Try.prog 96 5 (([.agg (encStormy s c).toArray]).map (pushT 0 4))) (.agg (encTruth (endE false s c)).toArray) := by
 have hm : (s.cells.map spanOf).length ≤ 1000000 := by rw [List.length_map]; exact hn
 have rj0 : FJ Try.prog B (pmildest_c0 s c) (pmildest_H0 s c) 3 (OO.ret (Value.agg #[Value.int IntKind.i64 c.wlo, Value.int IntKind.i64 c.flo, Value.int IntKind.i64 c.tlo, Value.int IntKind.i64 s.lhi, topV 3 (slT (List.length (List.map Span.hi (List.map spanOf s.cells))) (rowL encI (List.map Span.hi (List.map spanOf s.cells))))])) (([] ++ ((3, regO) :: heapL (3 + 1) [])) ++ pmildest_H0 s c) 4 (List.range 3) [] := by
  exact FinK.fjB (GoE.finK okF hJ mixed_ok (under_all (by kernel_rfl)) (writable_of (by kernel_rfl)) ((GoE.refl (P := Try.prog) (B := B) (c0 := pmildest_c0 s c) (under_all (by kernel_rfl))).widen (Wf := ((([]) : List (Nat × KS)).map (·.1))) (by simp) (writable_of (by kernel_rfl))) (pmildest_s0 B s c)
   ⟨⟨trivial, pEachSH (List.map spanOf s.cells) (by with_reducible assumption)⟩, ⟨⟨trivial, pdrags (s) (c) (by with_reducible assumption)⟩, ⟨⟨trivial, pHigh s.llo s.lhi⟩, ⟨⟨trivial, pLow c.tlo c.thi⟩, ⟨⟨trivial, pLow c.flo c.fhi⟩, ⟨⟨trivial, pLow c.wlo c.whi⟩, trivial⟩⟩⟩⟩⟩⟩) (ex := []) (by kernel_rfl) (lowX_nil _)
 exact (GoE.endsT okF hJ mixed_ok GoE.start (pmildest_s1 B s c)
  ⟨rj0, trivial⟩).cast (by (rw [List.map_map]; rfl))
theorem pmildest (s : WShore) (c : WStorm) (hn : s.cells.length ≤ 1000000) : PureC Try.prog J0 96 #[.agg (encStormy s c).toArray] (.agg (encTruth (endE false s c)).toArray) :=
 pureC_of (ts := [.agg (encStormy s c).toArray]) J0_st (c0 := entryC Try.prog 96 5 (([.agg (encStormy s c).toArray]).map (pushT 0 4))) (by kernel_rfl) (by kernel_rfl) fun B hJ => pmildest_e s c hn hJ
noncomputable def pWorst_z0 (s : WShore) (c : WStorm) : Array Value := #[Value.agg #[slT s.cells.length (rowL encWCell s.cells), slT s.works.length (rowL encWWork s.works), Value.int IntKind.i64 s.reef, Value.int IntKind.i64 s.llo, Value.int IntKind.i64 s.lhi, Value.int IntKind.i64 c.wlo, Value.int IntKind.i64 c.whi, Value.int IntKind.i64 c.flo, Value.int IntKind.i64 c.fhi, Value.int IntKind.i64 c.tlo, Value.int IntKind.i64 c.thi]]
noncomputable def pWorst_p0 (B : Lo) (s : WShore) (c : WStorm) : List Prop := [AllP [] ∧ PureC Try.prog J0 53 #[Value.agg #[slT s.cells.length (rowL encWCell s.cells), slT s.works.length (rowL encWWork s.works), Value.int IntKind.i64 s.reef, Value.int IntKind.i64 s.llo, Value.int IntKind.i64 s.lhi], Value.agg #[Value.int IntKind.i64 c.wlo, Value.int IntKind.i64 c.whi, Value.int IntKind.i64 c.flo, Value.int IntKind.i64 c.fhi, Value.int IntKind.i64 c.tlo, Value.int IntKind.i64 c.thi]] (Value.agg #[slT s.cells.length (rowL encWCell s.cells), slT s.works.length (rowL encWWork s.works), Value.int IntKind.i64 s.reef, Value.int IntKind.i64 s.llo, Value.int IntKind.i64 s.lhi, Value.int IntKind.i64 c.wlo, Value.int IntKind.i64 c.whi, Value.int IntKind.i64 c.flo, Value.int IntKind.i64 c.fhi, Value.int IntKind.i64 c.tlo, Value.int IntKind.i64 c.thi])] ++ ([] : List Prop)
noncomputable def pWorst_q0 (s : WShore) (c : WStorm) : ScriptT := [(6, HintT.pure (Value.agg #[slT s.cells.length (rowL encWCell s.cells), slT s.works.length (rowL encWWork s.works), Value.int IntKind.i64 s.reef, Value.int IntKind.i64 s.llo, Value.int IntKind.i64 s.lhi, Value.int IntKind.i64 c.wlo, Value.int IntKind.i64 c.whi, Value.int IntKind.i64 c.flo, Value.int IntKind.i64 c.fhi, Value.int IntKind.i64 c.tlo, Value.int IntKind.i64 c.thi]) [])]
theorem pWorst_s0 (B : Lo) (s : WShore) (c : WStorm) : endT (srunT Try.prog (okFn Try.prog) J0 B 13 1 (entryC Try.prog 18 16 (([.agg (encShore s).toArray, .agg (encStorm c).toArray]).map (pushT 0 4))) H00 1
 (pWorst_q0 s c ++ [(10, HintT.pure (Value.bool true) []), (13, HintT.pure (Value.agg #[Value.int IntKind.i64 (WTruth.wind (endE true s c)), Value.int IntKind.i64 (WTruth.fetch (endE true s c)), Value.int IntKind.i64 (WTruth.tide (endE true s c)), Value.int IntKind.i64 (WTruth.loss (endE true s c)), slT (List.length (WTruth.drags (endE true s c))) (rowL encI (WTruth.drags (endE true s c)))]) [])]) 0 [] []) [] = some (Value.tuple #[Value.agg #[Value.int IntKind.i64 (WTruth.wind (endE true s c)), Value.int IntKind.i64 (WTruth.fetch (endE true s c)), Value.int IntKind.i64 (WTruth.tide (endE true s c)), Value.int IntKind.i64 (WTruth.loss (endE true s c)), slT (List.length (WTruth.drags (endE true s c))) (rowL encI (WTruth.drags (endE true s c)))], Value.int IntKind.i64 0],
 [AllP [] ∧ PureC Try.prog J0 55 (pWorst_z0 s c) (Value.agg #[Value.int IntKind.i64 (WTruth.wind (endE true s c)), Value.int IntKind.i64 (WTruth.fetch (endE true s c)), Value.int IntKind.i64 (WTruth.tide (endE true s c)), Value.int IntKind.i64 (WTruth.loss (endE true s c)), slT (List.length (WTruth.drags (endE true s c))) (rowL encI (WTruth.drags (endE true s c)))]), AllP [] ∧ PureC Try.prog J0 52 (pWorst_z0 s c) (Value.bool true)] ++ pWorst_p0 B s c) := by kernel_rfl
theorem pWorst_s1 (B : Lo) (s : WShore) (c : WStorm) : endT (srunT Try.prog (okFn Try.prog) J0 B 12 1 (entryC Try.prog 18 16 (([.agg (encShore s).toArray, .agg (encStorm c).toArray]).map (pushT 0 4))) H00 1
 (pWorst_q0 s c ++ [(10, HintT.pure (Value.bool false) [])]) 0 [] []) [] = some (Value.tuple #[Value.agg #[Value.int IntKind.i64 0, Value.int IntKind.i64 0, Value.int IntKind.i64 0, Value.int IntKind.i64 0, slT 0 #[]], Value.int IntKind.i64 2],
 [AllP [] ∧ PureC Try.prog J0 52 (pWorst_z0 s c) (Value.bool false)] ++ pWorst_p0 B s c) := by kernel_rfl
theorem pWorst_s2 (B : Lo) (s : WShore) (c : WStorm) : endT (srunT Try.prog (okFn Try.prog) J0 B 12 1 (entryC Try.prog 18 16 (([.agg (encShore s).toArray, .agg (encStorm c).toArray]).map (pushT 0 4))) H00 1
 (pWorst_q0 s c ++ [(10, HintT.pure (Value.bool false) [])]) 0 [] []) [] = some (Value.tuple #[Value.agg #[Value.int IntKind.i64 0, Value.int IntKind.i64 0, Value.int IntKind.i64 0, Value.int IntKind.i64 0, slT 0 #[]], Value.int IntKind.i64 2],
 [AllP [] ∧ PureC Try.prog J0 52 (pWorst_z0 s c) (Value.bool false)] ++ pWorst_p0 B s c) := by kernel_rfl
set_option maxHeartbeats 4000000 in
theorem pWorst_e (s : WShore) (c : WStorm)  {B : Lo} (hJ : ∀ w, B.has w → J0 w) : EndsT Try.prog B (entryC Try.prog 18 16 (([.agg (encShore s).toArray, .agg (encStorm c).toArray]).map (pushT 0 4))) (.tuple #[if shoreB s && stormB c then .agg (encTruth (endE true s c)).toArray else .agg (encTruth ⟨0, 0, 0, 0, []⟩).toArray, .int .i64 (if shoreB s && stormB c then 0 else 2)]) := by
 have hp0 : AllP (pWorst_p0 B s c) := by
  exact ⟨⟨trivial, pinStorm (s) (c)⟩, trivial⟩
 cases q0 : shoreB s with
 | true =>
   cases q1 : stormB c with
   | true =>
     have h1 := shore_facts ‹shoreB s = true›
     exact (GoE.endsT okF hJ mixed_ok GoE.start (pWorst_s0 B s c)
      ⟨⟨trivial, pworst (s) (c) (by omega)⟩, ⟨⟨trivial, (by have t_ := pisStormy (s) (c); rw [q0, q1] at t_; exact t_)⟩, hp0⟩⟩).cast (by rfl)
   | false =>
     have h1 := shore_facts ‹shoreB s = true›
     exact (GoE.endsT okF hJ mixed_ok GoE.start (pWorst_s1 B s c)
      ⟨⟨trivial, (by have t_ := pisStormy (s) (c); rw [q0, q1] at t_; exact t_)⟩, hp0⟩).cast (by rfl)
 | false =>
   exact (GoE.endsT okF hJ mixed_ok GoE.start (pWorst_s2 B s c)
    ⟨⟨trivial, (by have t_ := pisStormy (s) (c); rw [q0] at t_; exact t_)⟩, hp0⟩).cast (by rfl)
theorem pWorst (s : WShore) (c : WStorm)  : PureC Try.prog J0 18 #[.agg (encShore s).toArray, .agg (encStorm c).toArray] (.tuple #[if shoreB s && stormB c then .agg (encTruth (endE true s c)).toArray else .agg (encTruth ⟨0, 0, 0, 0, []⟩).toArray, .int .i64 (if shoreB s && stormB c then 0 else 2)]) :=
 pureC_of (ts := [.agg (encShore s).toArray, .agg (encStorm c).toArray]) J0_st (c0 := entryC Try.prog 18 16 (([.agg (encShore s).toArray, .agg (encStorm c).toArray]).map (pushT 0 4))) (by kernel_rfl) (by kernel_rfl) fun B hJ => pWorst_e s c  hJ
end Go.Proofs.Ytiigkdhaofaijaa

namespace Go.Proofs.Ytiigkdhaofaijaa
open Go Go.CE Go.RowKit
set_option maxRecDepth 100000
def goesOn (s : WShore) (cell lv drag k : Int) : Bool := decide (gr s cell + (workOf s k).rise < lv - drag - (workOf s k).calm)
theorem pwork_s0 (B : Lo) (s : WShore) (c : WStorm) (k : Int) : endT (srunT Try.prog (okFn Try.prog) J0 B 10 1 (entryC Try.prog 116 14 (([.agg (encStormy s c).toArray, .int .i64 k]).map (pushT 0 4))) H00 1
 [(3, hvT)] 0 [] []) [] = some (Value.agg #[Value.int IntKind.i64 0, Value.int IntKind.i64 0, Value.int IntKind.i64 0],
 [eqq k (-1) = true]) := by kernel_rfl
theorem pwork_s1 (B : Lo) (s : WShore) (c : WStorm) (k : Int) : endT (srunT Try.prog (okFn Try.prog) J0 B 11 1 (entryC Try.prog 116 14 (([.agg (encStormy s c).toArray, .int .i64 k]).map (pushT 0 4))) H00 1
 [(3, hvF), (8, HintT.tidx k.toNat #[Value.int IntKind.i64 (WWork.rise (List.getD s.works k.toNat default)), Value.int IntKind.i64 (WWork.calm (List.getD s.works k.toNat default)), Value.int IntKind.i64 (WWork.cost (List.getD s.works k.toNat default))])] 0 [] []) [] = some (Value.agg #[Value.int IntKind.i64 (WWork.rise (List.getD s.works k.toNat default)), Value.int IntKind.i64 (WWork.calm (List.getD s.works k.toNat default)), Value.int IntKind.i64 (WWork.cost (List.getD s.works k.toNat default))],
 [k = (↑k.toNat : Int) ∧ Int.toNat k < List.length s.works ∧ Array.extract (rowL encWWork s.works) (Int.toNat k * TypeInfo.size Try.t85) (Int.toNat k * TypeInfo.size Try.t85 + TypeInfo.size Try.t85) = #[Value.int IntKind.i64 (WWork.rise (List.getD s.works k.toNat default)), Value.int IntKind.i64 (WWork.calm (List.getD s.works k.toNat default)), Value.int IntKind.i64 (WWork.cost (List.getD s.works k.toNat default))], eqq k (-1) = false]) := by kernel_rfl
set_option maxHeartbeats 4000000 in
theorem pwork_e (s : WShore) (c : WStorm) (k : Int) (hk : -1 ≤ k ∧ k < s.works.length) {B : Lo} (hJ : ∀ w, B.has w → J0 w) : EndsT Try.prog B (entryC Try.prog 116 14 (([.agg (encStormy s c).toArray, .int .i64 k]).map (pushT 0 4))) (.agg (encWWork (workOf s k)).toArray) := by
 by_cases q0 : (k : Int) = (-1)
 ·
  exact (GoE.endsT okF hJ mixed_ok GoE.start (pwork_s0 B s c k)
   ⟨(eqq_t q0), trivial⟩).cast (by (unfold workOf; rw [if_neg (by omega)]; rfl))
 ·
  exact (GoE.endsT okF hJ mixed_ok GoE.start (pwork_s1 B s c k)
   ⟨⟨by omega, by omega, (rowL_extract (z := 3) (fun _ => rfl) (by omega))⟩, ⟨(eqq_f q0), trivial⟩⟩).cast (by (unfold workOf; rw [if_pos (by omega)]; rfl))
theorem pwork (s : WShore) (c : WStorm) (k : Int) (hk : -1 ≤ k ∧ k < s.works.length) : PureC Try.prog J0 116 #[.agg (encStormy s c).toArray, .int .i64 k] (.agg (encWWork (workOf s k)).toArray) :=
 pureC_of (ts := [.agg (encStormy s c).toArray, .int .i64 k]) J0_st (c0 := entryC Try.prog 116 14 (([.agg (encStormy s c).toArray, .int .i64 k]).map (pushT 0 4))) (by kernel_rfl) (by kernel_rfl) fun B hJ => pwork_e s c k hk hJ
noncomputable def plevelIn_H0 (s : WShore) (c : WStorm) (cell lv drag k : Int) : Heap := [(8, Obj.cells #[Value.int IntKind.i64 drag, Value.int IntKind.i64 (WWork.calm (workOf s k))] 3), (7, Obj.cells #[Value.int IntKind.i64 (WWork.rise (workOf s k)), Value.int IntKind.i64 (WWork.calm (workOf s k)), Value.int IntKind.i64 (WWork.cost (workOf s k))] 85), (6, Obj.cells #[Value.int IntKind.i64 (WCell.ground (List.getD s.cells cell.toNat default)), Value.int IntKind.i64 (WCell.dlo (List.getD s.cells cell.toNat default)), Value.int IntKind.i64 (WCell.dhi (List.getD s.cells cell.toNat default)), Value.int IntKind.i64 (WCell.floor (List.getD s.cells cell.toNat default))] 59), (5, Obj.cells #[Value.int IntKind.i64 cell, Value.int IntKind.i64 lv] 144), (4, Obj.cells #[topV 0 (slT s.cells.length (rowL encWCell s.cells)), topV 0 (slT s.works.length (rowL encWWork s.works)), Value.int IntKind.i64 s.reef, Value.int IntKind.i64 s.llo, Value.int IntKind.i64 s.lhi, Value.int IntKind.i64 c.wlo, Value.int IntKind.i64 c.whi, Value.int IntKind.i64 c.flo, Value.int IntKind.i64 c.fhi, Value.int IntKind.i64 c.tlo, Value.int IntKind.i64 c.thi] 92), (3, Obj.cells #[Value.bool false] 4), (2, Obj.cells #[Value.int IntKind.i64 cell, Value.int IntKind.i64 lv] 144), (1, Obj.cells #[topV 0 (slT s.cells.length (rowL encWCell s.cells)), topV 0 (slT s.works.length (rowL encWWork s.works)), Value.int IntKind.i64 s.reef, Value.int IntKind.i64 s.llo, Value.int IntKind.i64 s.lhi, Value.int IntKind.i64 c.wlo, Value.int IntKind.i64 c.whi, Value.int IntKind.i64 c.flo, Value.int IntKind.i64 c.fhi, Value.int IntKind.i64 c.tlo, Value.int IntKind.i64 c.thi] 92), (0, Obj.coro none)]
noncomputable def plevelIn_c0 (s : WShore) (c : WStorm) (cell lv drag k : Int) : CF := ⟨98, ofList 17 [Value.slice (some { block := 8, off := 0 }) 2 1], [Item.code (bodyOf Try.prog 98)], [], .run, none⟩
noncomputable def plevelIn_z0 (s : WShore) (cell : Int) : Array Value := #[Value.int IntKind.i64 (WCell.ground (List.getD s.cells cell.toNat default)), Value.int IntKind.i64 (WCell.dlo (List.getD s.cells cell.toNat default)), Value.int IntKind.i64 (WCell.dhi (List.getD s.cells cell.toNat default)), Value.int IntKind.i64 (WCell.floor (List.getD s.cells cell.toNat default))]
noncomputable def plevelIn_z1 (s : WShore) (k : Int) : Value := (Value.agg #[Value.int IntKind.i64 (WWork.rise (workOf s k)), Value.int IntKind.i64 (WWork.calm (workOf s k)), Value.int IntKind.i64 (WWork.cost (workOf s k))])
theorem plevelIn_s0 (B : Lo) (s : WShore) (c : WStorm) (cell lv drag k : Int) : CE.finK 9 (srunT Try.prog (okFn Try.prog) J0 B 44 9 (plevelIn_c0 s c cell lv drag k) (plevelIn_H0 s c cell lv drag k) 9
 [(11, hvI (0 + drag)), (21, hvI (0 + drag + WWork.calm (workOf s k)))] 0 [] []) [] [] [] = some (OO.ret (Value.int IntKind.i64 (0 + drag + WWork.calm (workOf s k))), [], [],
 [wq (0 + drag + WWork.calm (workOf s k)) = 0 + drag + WWork.calm (workOf s k), wq (0 + drag) = 0 + drag]) := by kernel_rfl
noncomputable def plevelIn_H1 (s : WShore) (c : WStorm) (cell lv drag k : Int) : Heap := [(10, Obj.cells #[Value.int IntKind.i64 (WCell.ground (List.getD s.cells cell.toNat default)), Value.int IntKind.i64 (WWork.rise (workOf s k))] 3), (9, Obj.coro none), (8, Obj.cells #[Value.int IntKind.i64 drag, Value.int IntKind.i64 (WWork.calm (workOf s k))] 3), (7, Obj.cells #[Value.int IntKind.i64 (WWork.rise (workOf s k)), Value.int IntKind.i64 (WWork.calm (workOf s k)), Value.int IntKind.i64 (WWork.cost (workOf s k))] 85), (6, Obj.cells #[Value.int IntKind.i64 (WCell.ground (List.getD s.cells cell.toNat default)), Value.int IntKind.i64 (WCell.dlo (List.getD s.cells cell.toNat default)), Value.int IntKind.i64 (WCell.dhi (List.getD s.cells cell.toNat default)), Value.int IntKind.i64 (WCell.floor (List.getD s.cells cell.toNat default))] 59), (5, Obj.cells #[Value.int IntKind.i64 cell, Value.int IntKind.i64 lv] 144), (4, Obj.cells #[topV 0 (slT s.cells.length (rowL encWCell s.cells)), topV 0 (slT s.works.length (rowL encWWork s.works)), Value.int IntKind.i64 s.reef, Value.int IntKind.i64 s.llo, Value.int IntKind.i64 s.lhi, Value.int IntKind.i64 c.wlo, Value.int IntKind.i64 c.whi, Value.int IntKind.i64 c.flo, Value.int IntKind.i64 c.fhi, Value.int IntKind.i64 c.tlo, Value.int IntKind.i64 c.thi] 92), (3, Obj.cells #[Value.bool false] 4), (2, Obj.cells #[Value.int IntKind.i64 cell, Value.int IntKind.i64 lv] 144), (1, Obj.cells #[topV 0 (slT s.cells.length (rowL encWCell s.cells)), topV 0 (slT s.works.length (rowL encWWork s.works)), Value.int IntKind.i64 s.reef, Value.int IntKind.i64 s.llo, Value.int IntKind.i64 s.lhi, Value.int IntKind.i64 c.wlo, Value.int IntKind.i64 c.whi, Value.int IntKind.i64 c.flo, Value.int IntKind.i64 c.fhi, Value.int IntKind.i64 c.tlo, Value.int IntKind.i64 c.thi] 92), (0, Obj.coro none)]
noncomputable def plevelIn_c1 (s : WShore) (c : WStorm) (cell lv drag k : Int) : CF := ⟨98, ofList 17 [Value.slice (some { block := 10, off := 0 }) 2 1], [Item.code (bodyOf Try.prog 98)], [], .run, none⟩
theorem plevelIn_s1 (B : Lo) (s : WShore) (c : WStorm) (cell lv drag k : Int) : CE.finK 11 (srunT Try.prog (okFn Try.prog) J0 B 44 11 (plevelIn_c1 s c cell lv drag k) (plevelIn_H1 s c cell lv drag k) 11
 [(11, hvI (0 + WCell.ground (List.getD s.cells cell.toNat default))), (21, hvI (0 + WCell.ground (List.getD s.cells cell.toNat default) + WWork.rise (workOf s k)))] 0 [] []) [] [] [] = some (OO.ret (Value.int IntKind.i64 (0 + WCell.ground (List.getD s.cells cell.toNat default) + WWork.rise (workOf s k))), [], [],
 [wq (0 + WCell.ground (List.getD s.cells cell.toNat default) + WWork.rise (workOf s k)) = 0 + WCell.ground (List.getD s.cells cell.toNat default) + WWork.rise (workOf s k), wq (0 + WCell.ground (List.getD s.cells cell.toNat default)) = 0 + WCell.ground (List.getD s.cells cell.toNat default)]) := by kernel_rfl
noncomputable def plevelIn_H2 (s : WShore) (c : WStorm) (cell lv drag k : Int) : Heap := [(3, Obj.cells #[Value.bool false] 4), (2, Obj.cells #[Value.int IntKind.i64 cell, Value.int IntKind.i64 lv] 144), (1, Obj.cells #[topV 0 (slT s.cells.length (rowL encWCell s.cells)), topV 0 (slT s.works.length (rowL encWWork s.works)), Value.int IntKind.i64 s.reef, Value.int IntKind.i64 s.llo, Value.int IntKind.i64 s.lhi, Value.int IntKind.i64 c.wlo, Value.int IntKind.i64 c.whi, Value.int IntKind.i64 c.flo, Value.int IntKind.i64 c.fhi, Value.int IntKind.i64 c.tlo, Value.int IntKind.i64 c.thi] 92), (0, Obj.coro none)]
noncomputable def plevelIn_c2 (s : WShore) (c : WStorm) (cell lv drag k : Int) : CF := ⟨110, ofList 41 [Value.agg #[topV 0 (slT s.cells.length (rowL encWCell s.cells)), topV 0 (slT s.works.length (rowL encWWork s.works)), Value.int IntKind.i64 s.reef, Value.int IntKind.i64 s.llo, Value.int IntKind.i64 s.lhi, Value.int IntKind.i64 c.wlo, Value.int IntKind.i64 c.whi, Value.int IntKind.i64 c.flo, Value.int IntKind.i64 c.fhi, Value.int IntKind.i64 c.tlo, Value.int IntKind.i64 c.thi], Value.agg #[Value.int IntKind.i64 cell, Value.int IntKind.i64 lv], Value.int IntKind.i64 drag, Value.int IntKind.i64 k], [Item.code (bodyOf Try.prog 110)], [], .run, none⟩
theorem plevelIn_s2 (B : Lo) (s : WShore) (c : WStorm) (cell lv drag k : Int) : CE.finK 4 (srunT Try.prog (okFn Try.prog) J0 B 12 4 (plevelIn_c2 s c cell lv drag k) (plevelIn_H2 s c cell lv drag k) 4
 [(8, HintT.tidx cell.toNat (plevelIn_z0 s cell)), (12, HintT.pure (plevelIn_z1 s k) []), (23, HintT.call (List.range 9) (OO.ret (Value.int IntKind.i64 (0 + drag + WWork.calm (workOf s k)))) ([] ++ (9, regO) :: heapL 10 []) 10 []), (24, hvI (lv - (0 + drag + WWork.calm (workOf s k)))), (32, HintT.call (List.range 11) (OO.ret (Value.int IntKind.i64 (0 + WCell.ground (List.getD s.cells cell.toNat default) + WWork.rise (workOf s k)))) ([] ++ (11, regO) :: heapL 12 []) 12 []), (33, hvT)] 0 [] []) [] [] [] = some (OO.pan (Value.iface 158 (Value.agg #[])), [], [],
 [(!ltq (0 + WCell.ground (List.getD s.cells cell.toNat default) + WWork.rise (workOf s k)) (lv - (0 + drag + WWork.calm (workOf s k)))) = true, FJ Try.prog B (plevelIn_c1 s c cell lv drag k) (plevelIn_H1 s c cell lv drag k) 11 (OO.ret (Value.int IntKind.i64 (0 + WCell.ground (List.getD s.cells cell.toNat default) + WWork.rise (workOf s k)))) (([] ++ ((11, regO) :: heapL (11 + 1) [])) ++ plevelIn_H1 s c cell lv drag k) 12 (List.range 11) [], wq (lv - (0 + drag + WWork.calm (workOf s k))) = lv - (0 + drag + WWork.calm (workOf s k)), FJ Try.prog B (plevelIn_c0 s c cell lv drag k) (plevelIn_H0 s c cell lv drag k) 9 (OO.ret (Value.int IntKind.i64 (0 + drag + WWork.calm (workOf s k)))) (([] ++ ((9, regO) :: heapL (9 + 1) [])) ++ plevelIn_H0 s c cell lv drag k) 10 (List.range 9) [], AllP [] ∧ PureC Try.prog J0 116 #[Value.agg #[slT s.cells.length (rowL encWCell s.cells), slT s.works.length (rowL encWWork s.works), Value.int IntKind.i64 s.reef, Value.int IntKind.i64 s.llo, Value.int IntKind.i64 s.lhi, Value.int IntKind.i64 c.wlo, Value.int IntKind.i64 c.whi, Value.int IntKind.i64 c.flo, Value.int IntKind.i64 c.fhi, Value.int IntKind.i64 c.tlo, Value.int IntKind.i64 c.thi], Value.int IntKind.i64 k] (plevelIn_z1 s k), cell = (↑cell.toNat : Int) ∧ Int.toNat cell < List.length s.cells ∧ Array.extract (rowL encWCell s.cells) (Int.toNat cell * TypeInfo.size Try.t59) (Int.toNat cell * TypeInfo.size Try.t59 + TypeInfo.size Try.t59) = (plevelIn_z0 s cell)]) := by kernel_rfl
noncomputable def plevelIn_H3 (s : WShore) (c : WStorm) (cell lv drag k : Int) : Heap := [(3, Obj.cells #[Value.bool false] 4), (2, Obj.cells #[Value.int IntKind.i64 cell, Value.int IntKind.i64 lv] 144), (1, Obj.cells #[topV 0 (slT s.cells.length (rowL encWCell s.cells)), topV 0 (slT s.works.length (rowL encWWork s.works)), Value.int IntKind.i64 s.reef, Value.int IntKind.i64 s.llo, Value.int IntKind.i64 s.lhi, Value.int IntKind.i64 c.wlo, Value.int IntKind.i64 c.whi, Value.int IntKind.i64 c.flo, Value.int IntKind.i64 c.fhi, Value.int IntKind.i64 c.tlo, Value.int IntKind.i64 c.thi] 92), (0, Obj.coro none)]
noncomputable def plevelIn_c3 (s : WShore) (c : WStorm) (cell lv drag k : Int) : CF := ⟨103, ofList 16 [Value.agg #[topV 0 (slT s.cells.length (rowL encWCell s.cells)), topV 0 (slT s.works.length (rowL encWWork s.works)), Value.int IntKind.i64 s.reef, Value.int IntKind.i64 s.llo, Value.int IntKind.i64 s.lhi, Value.int IntKind.i64 c.wlo, Value.int IntKind.i64 c.whi, Value.int IntKind.i64 c.flo, Value.int IntKind.i64 c.fhi, Value.int IntKind.i64 c.tlo, Value.int IntKind.i64 c.thi], Value.agg #[Value.int IntKind.i64 cell, Value.int IntKind.i64 lv], Value.int IntKind.i64 drag, Value.int IntKind.i64 k, pA 1 0, pA 2 0, Value.tuple #[], Value.tuple #[], Value.int IntKind.i64 0, pA 3 0, Value.func (Fn.func 109) #[] #[pA 3 0], Value.tuple #[], Value.tuple #[], Value.tuple #[], Value.tuple #[], Value.tuple #[]], [Item.code (Code.seq (Code.region 2 #[{ dst := some 11, op := Op.load 92 (Operand.tmp 4), type := 92, pos := "built.go:45", after := #[], guard := none }, { dst := some 12, op := Op.load 144 (Operand.tmp 5), type := 144, pos := "built.go:45", after := #[], guard := none }, { dst := some 13, op := Op.move (Operand.tmp 2), type := 3, pos := "built.go:45", after := #[], guard := none }, { dst := some 14, op := Op.move (Operand.tmp 3), type := 3, pos := "built.go:45", after := #[], guard := none }, { dst := some 15, op := Op.call { callee := Callee.value (Operand.func 110), args := #[Operand.tmp 11, Operand.tmp 12, Operand.tmp 13, Operand.tmp 14], argTypes := #[92, 144, 3, 3] }, type := 3, pos := "built.go:45", after := #[{ on := 0, ground := Ground.data }, { on := 1, ground := Ground.data }, { on := 2, ground := Ground.data }, { on := 3, ground := Ground.data }], guard := none }, { dst := some 8, op := Op.assign (Operand.tmp 15), type := 3, pos := "built.go:45", after := #[{ on := 4, ground := Ground.data }, { on := 4, ground := Ground.chain }, { on := 0, ground := Ground.phase }, { on := 1, ground := Ground.phase }, { on := 2, ground := Ground.phase }, { on := 3, ground := Ground.phase }, { on := 4, ground := Ground.phase }], guard := none }, { dst := none, op := Op.store 4 (Operand.tmp 9) (Operand.const (Value.bool true)), type := 0, pos := "built.go:45", after := #[{ on := 5, ground := Ground.chain }, { on := 0, ground := Ground.phase }, { on := 1, ground := Ground.phase }, { on := 2, ground := Ground.phase }, { on := 3, ground := Ground.phase }, { on := 4, ground := Ground.phase }, { on := 5, ground := Ground.phase }], guard := none }] false) Code.ret)], [], .run, none⟩
theorem plevelIn_s3 (B : Lo) (s : WShore) (c : WStorm) (cell lv drag k : Int) : CE.landU 4 (srunT Try.prog (okFn Try.prog) J0 B 2 4 (plevelIn_c3 s c cell lv drag k) (plevelIn_H3 s c cell lv drag k) 4
 [(4, HintT.call (List.range 4) (OO.pan (Value.iface 158 (Value.agg #[]))) ([] ++ (4, regO) :: heapL 5 []) 5 [])] 0 [] []) [8, 9] [] [] [] = some (103, 16, none, OO.pan (Value.iface 158 (Value.agg #[])), [Value.int IntKind.i64 0, pA 3 0], [], [],
 [FJ Try.prog B (plevelIn_c2 s c cell lv drag k) (plevelIn_H2 s c cell lv drag k) 4 (OO.pan (Value.iface 158 (Value.agg #[]))) (([] ++ ((4, regO) :: heapL (4 + 1) [])) ++ plevelIn_H2 s c cell lv drag k) 5 (List.range 4) []]) := by kernel_rfl
theorem plevelIn_s4 (B : Lo) (s : WShore) (c : WStorm) (cell lv drag k : Int) : endT (srunD Try.prog (okFn Try.prog) J0 B 3 1 (entryC Try.prog 103 16 (([.agg (encStormy s c).toArray, .agg #[.int .i64 cell, .int .i64 lv], .int .i64 drag, .int .i64 k]).map (pushT 0 4))) H00 1
 (OO.pan (Value.iface 158 (Value.agg #[]))) (([8, 9] : List Nat).zip [Value.int IntKind.i64 0, pA 3 0]) ([] ++ (4, regO) :: heapL 5 []) 5 [] (Value.tuple #[Value.int IntKind.i64 0, Value.bool false]) [3]) [] = some (Value.tuple #[Value.int IntKind.i64 0, Value.bool false],
 [UJ Try.prog B (plevelIn_c3 s c cell lv drag k) (plevelIn_H3 s c cell lv drag k) 4 (OO.pan (Value.iface 158 (Value.agg #[]))) (([8, 9] : List Nat).zip [Value.int IntKind.i64 0, pA 3 0]) (([] ++ ((4, regO) :: heapL (4 + 1) [])) ++ plevelIn_H3 s c cell lv drag k) 5 (List.range 4) [], ∀ d : Nat → Value, resC Try.prog 103 ([(5, Obj.cells #[] 158), (4, Obj.coro none), (3, Obj.cells #[Value.bool false] 4), (2, Obj.cells #[Value.int IntKind.i64 cell, Value.int IntKind.i64 lv] 144), (1, Obj.cells #[topV 0 (slT s.cells.length (rowL encWCell s.cells)), topV 0 (slT s.works.length (rowL encWWork s.works)), Value.int IntKind.i64 s.reef, Value.int IntKind.i64 s.llo, Value.int IntKind.i64 s.lhi, Value.int IntKind.i64 c.wlo, Value.int IntKind.i64 c.whi, Value.int IntKind.i64 c.flo, Value.int IntKind.i64 c.fhi, Value.int IntKind.i64 c.tlo, Value.int IntKind.i64 c.thi] 92), (0, Obj.coro none)]) (mkT 16 (([8, 9] : List Nat).zip [Value.int IntKind.i64 0, pA 3 0]) d) = some (Value.tuple #[Value.int IntKind.i64 0, Value.bool false], [3])]) := by kernel_rfl
theorem plevelIn_s5 (B : Lo) (s : WShore) (c : WStorm) (cell lv drag k : Int) : CE.finK 4 (srunT Try.prog (okFn Try.prog) J0 B 15 4 (plevelIn_c2 s c cell lv drag k) (plevelIn_H2 s c cell lv drag k) 4
 [(8, HintT.tidx cell.toNat (plevelIn_z0 s cell)), (12, HintT.pure (plevelIn_z1 s k) []), (23, HintT.call (List.range 9) (OO.ret (Value.int IntKind.i64 (0 + drag + WWork.calm (workOf s k)))) ([] ++ (9, regO) :: heapL 10 []) 10 []), (24, hvI (lv - (0 + drag + WWork.calm (workOf s k)))), (32, HintT.call (List.range 11) (OO.ret (Value.int IntKind.i64 (0 + WCell.ground (List.getD s.cells cell.toNat default) + WWork.rise (workOf s k)))) ([] ++ (11, regO) :: heapL 12 []) 12 []), (33, hvF)] 0 [] []) [] [] [] = some (OO.ret (Value.int IntKind.i64 (lv - (0 + drag + WWork.calm (workOf s k)))), [], [],
 [(!ltq (0 + WCell.ground (List.getD s.cells cell.toNat default) + WWork.rise (workOf s k)) (lv - (0 + drag + WWork.calm (workOf s k)))) = false, FJ Try.prog B (plevelIn_c1 s c cell lv drag k) (plevelIn_H1 s c cell lv drag k) 11 (OO.ret (Value.int IntKind.i64 (0 + WCell.ground (List.getD s.cells cell.toNat default) + WWork.rise (workOf s k)))) (([] ++ ((11, regO) :: heapL (11 + 1) [])) ++ plevelIn_H1 s c cell lv drag k) 12 (List.range 11) [], wq (lv - (0 + drag + WWork.calm (workOf s k))) = lv - (0 + drag + WWork.calm (workOf s k)), FJ Try.prog B (plevelIn_c0 s c cell lv drag k) (plevelIn_H0 s c cell lv drag k) 9 (OO.ret (Value.int IntKind.i64 (0 + drag + WWork.calm (workOf s k)))) (([] ++ ((9, regO) :: heapL (9 + 1) [])) ++ plevelIn_H0 s c cell lv drag k) 10 (List.range 9) [], AllP [] ∧ PureC Try.prog J0 116 #[Value.agg #[slT s.cells.length (rowL encWCell s.cells), slT s.works.length (rowL encWWork s.works), Value.int IntKind.i64 s.reef, Value.int IntKind.i64 s.llo, Value.int IntKind.i64 s.lhi, Value.int IntKind.i64 c.wlo, Value.int IntKind.i64 c.whi, Value.int IntKind.i64 c.flo, Value.int IntKind.i64 c.fhi, Value.int IntKind.i64 c.tlo, Value.int IntKind.i64 c.thi], Value.int IntKind.i64 k] (plevelIn_z1 s k), cell = (↑cell.toNat : Int) ∧ Int.toNat cell < List.length s.cells ∧ Array.extract (rowL encWCell s.cells) (Int.toNat cell * TypeInfo.size Try.t59) (Int.toNat cell * TypeInfo.size Try.t59 + TypeInfo.size Try.t59) = (plevelIn_z0 s cell)]) := by kernel_rfl
theorem plevelIn_s6 (B : Lo) (s : WShore) (c : WStorm) (cell lv drag k : Int) : CE.landU 4 (srunT Try.prog (okFn Try.prog) J0 B 3 4 (plevelIn_c3 s c cell lv drag k) (plevelIn_H3 s c cell lv drag k) 4
 [(4, HintT.call (List.range 4) (OO.ret (Value.int IntKind.i64 (lv - (0 + drag + WWork.calm (workOf s k))))) ([] ++ (4, regO) :: heapL 5 []) 5 [])] 0 [] []) [8, 9] [(3, KS.auto)] [] [] = some (103, 16, none, OO.ret (Value.tuple #[]), [Value.int IntKind.i64 (lv - (0 + drag + WWork.calm (workOf s k))), pA 3 0], [(3, Obj.cells #[Value.bool true] 4)], [],
 [FJ Try.prog B (plevelIn_c2 s c cell lv drag k) (plevelIn_H2 s c cell lv drag k) 4 (OO.ret (Value.int IntKind.i64 (lv - (0 + drag + WWork.calm (workOf s k))))) (([] ++ ((4, regO) :: heapL (4 + 1) [])) ++ plevelIn_H2 s c cell lv drag k) 5 (List.range 4) []]) := by kernel_rfl
theorem plevelIn_s7 (B : Lo) (s : WShore) (c : WStorm) (cell lv drag k : Int) : endT (srunD Try.prog (okFn Try.prog) J0 B 3 1 (entryC Try.prog 103 16 (([.agg (encStormy s c).toArray, .agg #[.int .i64 cell, .int .i64 lv], .int .i64 drag, .int .i64 k]).map (pushT 0 4))) H00 1
 (OO.ret (Value.tuple #[])) (([8, 9] : List Nat).zip [Value.int IntKind.i64 (lv - (0 + drag + WWork.calm (workOf s k))), pA 3 0]) ([(3, Obj.cells #[Value.bool true] 4)] ++ (4, regO) :: heapL 5 []) 5 [3] (Value.tuple #[Value.int IntKind.i64 (lv - (0 + drag + WWork.calm (workOf s k))), Value.bool true]) [3]) [] = some (Value.tuple #[Value.int IntKind.i64 (lv - (0 + drag + WWork.calm (workOf s k))), Value.bool true],
 [UJ Try.prog B (plevelIn_c3 s c cell lv drag k) (plevelIn_H3 s c cell lv drag k) 4 (OO.ret (Value.tuple #[])) (([8, 9] : List Nat).zip [Value.int IntKind.i64 (lv - (0 + drag + WWork.calm (workOf s k))), pA 3 0]) (([(3, Obj.cells #[Value.bool true] 4)] ++ ((4, regO) :: heapL (4 + 1) [])) ++ plevelIn_H3 s c cell lv drag k) 5 (List.range 4) [3], ∀ d : Nat → Value, resC Try.prog 103 ([(5, Obj.cells #[] 158), (3, Obj.cells #[Value.bool true] 4), (4, Obj.coro none), (3, Obj.cells #[Value.bool false] 4), (2, Obj.cells #[Value.int IntKind.i64 cell, Value.int IntKind.i64 lv] 144), (1, Obj.cells #[topV 0 (slT s.cells.length (rowL encWCell s.cells)), topV 0 (slT s.works.length (rowL encWWork s.works)), Value.int IntKind.i64 s.reef, Value.int IntKind.i64 s.llo, Value.int IntKind.i64 s.lhi, Value.int IntKind.i64 c.wlo, Value.int IntKind.i64 c.whi, Value.int IntKind.i64 c.flo, Value.int IntKind.i64 c.fhi, Value.int IntKind.i64 c.tlo, Value.int IntKind.i64 c.thi] 92), (0, Obj.coro none)]) (mkT 16 (([8, 9] : List Nat).zip [Value.int IntKind.i64 (lv - (0 + drag + WWork.calm (workOf s k))), pA 3 0]) d) = some (Value.tuple #[Value.int IntKind.i64 (lv - (0 + drag + WWork.calm (workOf s k))), Value.bool true], [3])]) := by kernel_rfl
set_option maxHeartbeats 4000000 in
theorem plevelIn_e (s : WShore) (c : WStorm) (cell lv drag k : Int) (hs : shoreB s = true) (hc : 0 ≤ cell ∧ cell < s.cells.length) (hk : -1 ≤ k ∧ k < s.works.length) (hl : -100000 ≤ lv ∧ lv ≤ 100000) (hd : 0 ≤ drag ∧ drag ≤ 5000) {B : Lo} (hJ : ∀ w, B.has w → J0 w) : EndsT Try.prog B (entryC Try.prog 103 16 (([.agg (encStormy s c).toArray, .agg #[.int .i64 cell, .int .i64 lv], .int .i64 drag, .int .i64 k]).map (pushT 0 4))) (.tuple #[.int .i64 (bif goesOn s cell lv drag k then lv - drag - (workOf s k).calm else 0), .bool (goesOn s cell lv drag k)]) := by
 have hw := workOf_in hs hk.2
 have hg := gr_in hs hc.1 hc.2
 have rj2 : FJ Try.prog B (plevelIn_c0 s c cell lv drag k) (plevelIn_H0 s c cell lv drag k) 9 (OO.ret (Value.int IntKind.i64 (0 + drag + WWork.calm (workOf s k)))) (([] ++ ((9, regO) :: heapL (9 + 1) [])) ++ plevelIn_H0 s c cell lv drag k) 10 (List.range 9) [] := by
  unfold gr at hg
  exact FinK.fjB (GoE.finK okF hJ mixed_ok (under_all (by kernel_rfl)) (writable_of (by kernel_rfl)) ((GoE.refl (P := Try.prog) (B := B) (c0 := plevelIn_c0 s c cell lv drag k) (under_all (by kernel_rfl))).widen (Wf := ((([]) : List (Nat × KS)).map (·.1))) (by simp) (writable_of (by kernel_rfl))) (plevelIn_s0 B s c cell lv drag k)
   ⟨(wq_in (by omega) (by omega)), ⟨(wq_in (by omega) (by omega)), trivial⟩⟩) (ex := []) (by kernel_rfl) (lowX_nil _)
 have rj3 : FJ Try.prog B (plevelIn_c1 s c cell lv drag k) (plevelIn_H1 s c cell lv drag k) 11 (OO.ret (Value.int IntKind.i64 (0 + WCell.ground (List.getD s.cells cell.toNat default) + WWork.rise (workOf s k)))) (([] ++ ((11, regO) :: heapL (11 + 1) [])) ++ plevelIn_H1 s c cell lv drag k) 12 (List.range 11) [] := by
  unfold gr at hg
  exact FinK.fjB (GoE.finK okF hJ mixed_ok (under_all (by kernel_rfl)) (writable_of (by kernel_rfl)) ((GoE.refl (P := Try.prog) (B := B) (c0 := plevelIn_c1 s c cell lv drag k) (under_all (by kernel_rfl))).widen (Wf := ((([]) : List (Nat × KS)).map (·.1))) (by simp) (writable_of (by kernel_rfl))) (plevelIn_s1 B s c cell lv drag k)
   ⟨(wq_in (by omega) (by omega)), ⟨(wq_in (by omega) (by omega)), trivial⟩⟩) (ex := []) (by kernel_rfl) (lowX_nil _)
 by_cases q0 : (lv - (0 + drag + WWork.calm (workOf s k)) : Int) ≤ (0 + WCell.ground (List.getD s.cells cell.toNat default) + WWork.rise (workOf s k))
 ·
  have rj1 : FJ Try.prog B (plevelIn_c2 s c cell lv drag k) (plevelIn_H2 s c cell lv drag k) 4 (OO.pan (Value.iface 158 (Value.agg #[]))) (([] ++ ((4, regO) :: heapL (4 + 1) [])) ++ plevelIn_H2 s c cell lv drag k) 5 (List.range 4) [] := by
   unfold gr at hg
   exact FinK.fjB (GoE.finK okF hJ mixed_ok (under_all (by kernel_rfl)) (writable_of (by kernel_rfl)) ((GoE.refl (P := Try.prog) (B := B) (c0 := plevelIn_c2 s c cell lv drag k) (under_all (by kernel_rfl))).widen (Wf := ((([]) : List (Nat × KS)).map (·.1))) (by simp) (writable_of (by kernel_rfl))) (plevelIn_s2 B s c cell lv drag k)
    ⟨(nltq_t q0), ⟨rj3, ⟨(wq_in (by omega) (by omega)), ⟨rj2, ⟨⟨trivial, pwork (s) (c) (k) (by with_reducible assumption)⟩, ⟨⟨by omega, by omega, (rowL_extract (z := 4) (fun _ => rfl) (by omega))⟩, trivial⟩⟩⟩⟩⟩⟩) (ex := []) (by kernel_rfl) (lowX_nil _)
  have rj0 : UJ Try.prog B (plevelIn_c3 s c cell lv drag k) (plevelIn_H3 s c cell lv drag k) 4 (OO.pan (Value.iface 158 (Value.agg #[]))) (([8, 9] : List Nat).zip [Value.int IntKind.i64 0, pA 3 0]) (([] ++ ((4, regO) :: heapL (4 + 1) [])) ++ plevelIn_H3 s c cell lv drag k) 5 (List.range 4) [] := by
   unfold gr at hg
   exact FinU.ujB (GoE.landU okF hJ mixed_ok (under_all (by kernel_rfl)) (writable_of (by kernel_rfl)) ((GoE.refl (P := Try.prog) (B := B) (c0 := plevelIn_c3 s c cell lv drag k) (under_all (by kernel_rfl))).widen (Wf := ((([]) : List (Nat × KS)).map (·.1))) (by simp) (writable_of (by kernel_rfl))) (plevelIn_s3 B s c cell lv drag k)
    (by exact ⟨rj1, trivial⟩) (by kernel_rfl) rfl) (ex := []) (by kernel_rfl) (lowX_nil _)
  unfold gr at hg
  exact (GoE.endsD okF hJ mixed_ok GoE.start (plevelIn_s4 B s c cell lv drag k)
   (by exact ⟨rj0, ⟨(fun d => by kernel_rfl), trivial⟩⟩)).cast (by (unfold goesOn gr; rw [decide_eq_false (by omega)]; rfl))
 ·
  have rj1 : FJ Try.prog B (plevelIn_c2 s c cell lv drag k) (plevelIn_H2 s c cell lv drag k) 4 (OO.ret (Value.int IntKind.i64 (lv - (0 + drag + WWork.calm (workOf s k))))) (([] ++ ((4, regO) :: heapL (4 + 1) [])) ++ plevelIn_H2 s c cell lv drag k) 5 (List.range 4) [] := by
   unfold gr at hg
   exact FinK.fjB (GoE.finK okF hJ mixed_ok (under_all (by kernel_rfl)) (writable_of (by kernel_rfl)) ((GoE.refl (P := Try.prog) (B := B) (c0 := plevelIn_c2 s c cell lv drag k) (under_all (by kernel_rfl))).widen (Wf := ((([]) : List (Nat × KS)).map (·.1))) (by simp) (writable_of (by kernel_rfl))) (plevelIn_s5 B s c cell lv drag k)
    ⟨(nltq_f (Int.not_le.1 q0)), ⟨rj3, ⟨(wq_in (by omega) (by omega)), ⟨rj2, ⟨⟨trivial, pwork (s) (c) (k) (by with_reducible assumption)⟩, ⟨⟨by omega, by omega, (rowL_extract (z := 4) (fun _ => rfl) (by omega))⟩, trivial⟩⟩⟩⟩⟩⟩) (ex := []) (by kernel_rfl) (lowX_nil _)
  have rj0 : UJ Try.prog B (plevelIn_c3 s c cell lv drag k) (plevelIn_H3 s c cell lv drag k) 4 (OO.ret (Value.tuple #[])) (([8, 9] : List Nat).zip [Value.int IntKind.i64 (lv - (0 + drag + WWork.calm (workOf s k))), pA 3 0]) (([(3, Obj.cells #[Value.bool true] 4)] ++ ((4, regO) :: heapL (4 + 1) [])) ++ plevelIn_H3 s c cell lv drag k) 5 (List.range 4) [3] := by
   unfold gr at hg
   exact FinU.ujB (GoE.landU okF hJ mixed_ok (under_all (by kernel_rfl)) (writable_of (by kernel_rfl)) ((GoE.refl (P := Try.prog) (B := B) (c0 := plevelIn_c3 s c cell lv drag k) (under_all (by kernel_rfl))).widen (Wf := ((([(3, KS.auto)]) : List (Nat × KS)).map (·.1))) (by simp) (writable_of (by kernel_rfl))) (plevelIn_s6 B s c cell lv drag k)
    (by exact ⟨rj1, trivial⟩) (by kernel_rfl) rfl) (ex := []) (by kernel_rfl) (lowX_nil _)
  unfold gr at hg
  exact (GoE.endsD okF hJ mixed_ok GoE.start (plevelIn_s7 B s c cell lv drag k)
   (by exact ⟨rj0, ⟨(fun d => by kernel_rfl), trivial⟩⟩)).cast (by (unfold goesOn gr; rw [decide_eq_true (by omega), show lv - drag - (workOf s k).calm = lv - (0 + drag + (workOf s k).calm) by omega]; rfl))
theorem plevelIn (s : WShore) (c : WStorm) (cell lv drag k : Int) (hs : shoreB s = true) (hc : 0 ≤ cell ∧ cell < s.cells.length) (hk : -1 ≤ k ∧ k < s.works.length) (hl : -100000 ≤ lv ∧ lv ≤ 100000) (hd : 0 ≤ drag ∧ drag ≤ 5000) : PureC Try.prog J0 103 #[.agg (encStormy s c).toArray, .agg #[.int .i64 cell, .int .i64 lv], .int .i64 drag, .int .i64 k] (.tuple #[.int .i64 (bif goesOn s cell lv drag k then lv - drag - (workOf s k).calm else 0), .bool (goesOn s cell lv drag k)]) :=
 pureC_of (ts := [.agg (encStormy s c).toArray, .agg #[.int .i64 cell, .int .i64 lv], .int .i64 drag, .int .i64 k]) J0_st (c0 := entryC Try.prog 103 16 (([.agg (encStormy s c).toArray, .agg #[.int .i64 cell, .int .i64 lv], .int .i64 drag, .int .i64 k]).map (pushT 0 4))) (by kernel_rfl) (by kernel_rfl) fun B hJ => plevelIn_e s c cell lv drag k hs hc hk hl hd hJ
end Go.Proofs.Ytiigkdhaofaijaa

namespace Go.Proofs.Ytiigkdhaofaijaa
open Go Go.CE Go.RowKit
def leL : List Int → List Int → Prop
 | [], [] => True
 | a :: l, b :: m => a ≤ b ∧ leL l m
 | _, _ => False
theorem playI_len {s : WShore} {plan : List Int} {t : WTruth} : ∀ (l : List Int) (lv : Int) (r : Bool), (playI s plan t l lv r).length = l.length
 | [], _, _ => rfl
 | i :: l, lv, r => by simp [playI, playI_len l]
theorem playL_len {s : WShore} {plan : List Int} {t : WTruth} : (playL s plan t).length = s.cells.length := by
 unfold playL; rw [playI_len, upI_len]; omega
theorem playI_off {s : WShore} {plan : List Int} {t : WTruth} : ∀ (l : List Int) (lv : Int), playI s plan t l lv false = List.replicate l.length 0
 | [], _ => rfl
 | i :: l, lv => by simp [playI, playI_off l, List.replicate_succ]
def easier (s : WShore) (plan : List Int) (t : WTruth) (s' : WShore) (plan' : List Int) (t' : WTruth) (i : Int) : Prop :=
 gr s i = gr s' i ∧ 0 ≤ (wk s' plan' i).rise ∧ (wk s' plan' i).rise ≤ (wk s plan i).rise ∧ t'.drags.getD i.toNat default + (wk s' plan' i).calm ≤ t.drags.getD i.toNat default + (wk s plan i).calm
theorem playI_nn {s : WShore} {plan : List Int} {t : WTruth} : ∀ (l : List Int) (lv : Int) (r : Bool), (∀ i ∈ l, 0 ≤ (wk s plan i).rise) → ∀ x ∈ playI s plan t l lv r, 0 ≤ x
 | [], _, _, _, x, hx => by simp [playI] at hx
 | i :: l, lv, r, h, x, hx => by
   simp only [playI, List.mem_cons] at hx
   rcases hx with rfl | hx
   ·have := h i (by simp)
    cases e : (r && decide (gr s i + (wk s plan i).rise < lv - t.drags.getD i.toNat default - (wk s plan i).calm)) with
    | true => rw [cond_true]; simp only [Bool.and_eq_true, decide_eq_true_iff] at e; omega
    | false => simp
   ·exact playI_nn l _ _ (fun j hj => h j (by simp [hj])) x hx
theorem playI_mono {s s' : WShore} {plan plan' : List Int} {t t' : WTruth} : ∀ (l : List Int) (lv lv' : Int) (r r' : Bool), (∀ i ∈ l, easier s plan t s' plan' t' i) → lv ≤ lv' → (r = true → r' = true) → leL (playI s plan t l lv r) (playI s' plan' t' l lv' r')
 | [], _, _, _, _, _, _, _ => trivial
 | i :: l, lv, lv', r, r', h, hl, hr => by
   obtain ⟨h1, h2, h3, h4⟩ := h i (by simp)
   have hgo : (r && decide (gr s i + (wk s plan i).rise < lv - t.drags.getD i.toNat default - (wk s plan i).calm)) = true → (r' && decide (gr s' i + (wk s' plan' i).rise < lv' - t'.drags.getD i.toNat default - (wk s' plan' i).calm)) = true := by
    intro e
    simp only [Bool.and_eq_true, decide_eq_true_iff] at e ⊢
    exact ⟨hr e.1, by omega⟩
   refine ⟨?_, playI_mono l _ _ _ _ (fun j hj => h j (by simp [hj])) (by omega) hgo⟩
   cases e : (r && decide (gr s i + (wk s plan i).rise < lv - t.drags.getD i.toNat default - (wk s plan i).calm)) with
   | true => rw [hgo e, cond_true, cond_true]; omega
   | false =>
     rw [cond_false]
     cases e2 : (r' && decide (gr s' i + (wk s' plan' i).rise < lv' - t'.drags.getD i.toNat default - (wk s' plan' i).calm)) with
     | true => rw [cond_true]; simp only [Bool.and_eq_true, decide_eq_true_iff] at e2; omega
     | false => simp
theorem wave_mono {w w' l l' : Int} (hw : 0 ≤ w ∧ w ≤ w' ∧ w' ≤ 10000) (hl : 0 ≤ l' ∧ l' ≤ l ∧ l ≤ 1000) : w - (w * l).tdiv 1000 ≤ w' - (w' * l').tdiv 1000 := by
 have q1 := wave_q (w := w) (l := l) (by omega) (by omega)
 have q2 := wave_q (w := w') (l := l') (by omega) (by omega)
 have q3 := wave_q (w := w') (l := l) (by omega) (by omega)
 have m1 : w' * l' ≤ w' * l := Int.mul_le_mul_of_nonneg_left hl.2.1 (by omega)
 have m2 : (w' - w) * l ≤ (w' - w) * 1000 := Int.mul_le_mul_of_nonneg_left hl.2.2 (by omega)
 have m3 : (w' - w) * l = w' * l - w * l := Int.sub_mul _ _ _
 omega
theorem waveN_mono {l l' : Int} (hl : 0 ≤ l' ∧ l' ≤ l ∧ l ≤ 1000) : ∀ (n : Nat) (w w' : Int), 0 ≤ w ∧ w ≤ w' ∧ w' ≤ 10000 → waveN l n w ≤ waveN l' n w'
 | 0, w, w', hw => hw.2.1
 | n + 1, w, w', hw => by
   have h1 := wave_mono hw hl
   have h2 := wave_q (w := w) (l := l) (by omega) (by omega)
   have h3 := wave_q (w := w') (l := l') (by omega) (by omega)
   exact waveN_mono hl n _ _ (by omega)
theorem waveN_less {l : Int} (hl : 0 ≤ l ∧ l ≤ 1000) : ∀ (n m : Nat) (w : Int), 0 ≤ w ∧ w ≤ 10000 → n ≤ m → waveN l m w ≤ waveN l n w
 | 0, 0, w, _, _ => Int.le_refl _
 | 0, m + 1, w, hw, _ => by
   have h2 := wave_q (w := w) (l := l) hw hl
   have := waveN_less hl 0 m (w - (w * l).tdiv 1000) (by omega) (by omega)
   have e : waveN l 0 (w - (w * l).tdiv 1000) = w - (w * l).tdiv 1000 := rfl
   have e2 : waveN l 0 w = w := rfl
   show waveN l m (w - (w * l).tdiv 1000) ≤ _
   omega
 | n + 1, 0, _, _, h => by omega
 | n + 1, m + 1, w, hw, h => by
   have h2 := wave_q (w := w) (l := l) hw hl
   exact waveN_less hl n m _ (by omega) (by omega)
theorem level_mono {s s' : WShore} {t t' : WTruth} (ht : tOk s t) (ht' : tOk s' t') (hr : s'.reef ≤ s.reef) (h1 : t.wind ≤ t'.wind) (h2 : t.fetch ≤ t'.fetch) (h3 : t.tide ≤ t'.tide) (h4 : t'.loss ≤ t.loss) : levelF s t ≤ levelF s' t' := by
 have w0 := wave_0 ht
 have w1 := wave_0 ht'
 have m1 : t.fetch * t.wind ≤ t'.fetch * t'.wind := Int.mul_le_mul h2 h1 ht.1.1 (by have := ht'.2.1; omega)
 have l1 := ht.2.2.2.1
 have l2 := ht'.2.2.2.1
 have m2 := waveN_mono (l := t.loss) (l' := t'.loss) (by omega) s.reef.toNat ((t.fetch * t.wind).tdiv 1000) ((t'.fetch * t'.wind).tdiv 1000) (by omega)
 have m3 := waveN_less (l := t'.loss) l2 s'.reef.toNat s.reef.toNat ((t'.fetch * t'.wind).tdiv 1000) (by omega) (by omega)
 unfold levelF
 omega
theorem getD_map0 {α : Type} [Inhabited α] {f : α → Int} {l : List α} {i : Int} (h0 : 0 ≤ i) (h : i < l.length) : (l.map f).getD i.toNat default = f (l.getD i.toNat default) := getD_map (by omega)
theorem between {s : WShore} {c : WStorm} {plan : List Int} {t : WTruth} (hs : shoreB s = true) (hc : stormB c = true) (hp : planB s plan = true) (ht : truthB s c t = true) : leL (playL s plan (endE false s c)) (playL s plan t) ∧ leL (playL s plan t) (playL s plan (endE true s c)) ∧ levelF s (endE false s c) ≤ levelF s t ∧ levelF s t ≤ levelF s (endE true s c) := by
 have h1 := tOk_of hs hc ht
 have h2 := tOk_end (b := false) hs hc
 have h3 := tOk_end (b := true) hs hc
 have h4 := truth_facts ht
 have h5 := drags_facts h4.2.2.2.2
 have l1 : levelF s (endE false s c) ≤ levelF s t := level_mono h2 h1 (Int.le_refl _) (by simp only [endE, cond_false]; omega) (by simp only [endE, cond_false]; omega) (by simp only [endE, cond_false]; omega) (by simp only [endE, cond_false]; omega)
 have l2 : levelF s t ≤ levelF s (endE true s c) := level_mono h1 h3 (Int.le_refl _) (by simp only [endE, cond_true]; omega) (by simp only [endE, cond_true]; omega) (by simp only [endE, cond_true]; omega) (by simp only [endE, cond_true]; omega)
 refine ⟨playI_mono _ _ _ _ _ (fun i hi => ?_) l1 id, playI_mono _ _ _ _ _ (fun i hi => ?_) l2 id, l1, l2⟩
 ·obtain ⟨i0, i1⟩ := mem_upI.1 hi
  have hw := wk_in hs hp i0 i1
  have hd := h5.2 i i0 (by omega)
  refine ⟨rfl, hw.1.1, Int.le_refl _, ?_⟩
  show _ ≤ ((s.cells.map fun x => bif false then x.dlo else x.dhi).getD i.toNat default) + _
  rw [getD_map0 i0 i1]; simp only [cond_false]; omega
 ·obtain ⟨i0, i1⟩ := mem_upI.1 hi
  have hw := wk_in hs hp i0 i1
  have hd := h5.2 i i0 (by omega)
  refine ⟨rfl, hw.1.1, Int.le_refl _, ?_⟩
  show ((s.cells.map fun x => bif true then x.dlo else x.dhi).getD i.toNat default) + _ ≤ _
  rw [getD_map0 i0 i1]; simp only [cond_true]; omega
theorem end_truth {b : Bool} {s : WShore} {c : WStorm} (hs : shoreB s = true) (hc : stormB c = true) : truthB s c (endE b s c) = true := by
 have h1 := shore_facts hs
 have h2 := storm_facts hc
 simp only [truthB, dragsB, Bool.and_eq_true, inB_iff, decide_eq_true_iff, List.all_eq_true, mem_upI]
 refine ⟨?_, ?_, ?_, ?_, ?_, fun k hk => ?_⟩
 ·cases b <;> simp only [endE, cond_true, cond_false] <;> omega
 ·cases b <;> simp only [endE, cond_true, cond_false] <;> omega
 ·cases b <;> simp only [endE, cond_true, cond_false] <;> omega
 ·cases b <;> simp only [endE, cond_true, cond_false] <;> omega
 ·simp [endE]
 ·have hl : (endE b s c).drags.length = s.cells.length := by simp [endE]
  rw [hl] at hk
  have := cell_facts (h1.2.2.2.2.1 _ (getD_mem (l := s.cells) (i := k) hk.1 (by omega)))
  show _ ≤ ((s.cells.map fun x => bif b then x.dlo else x.dhi).getD k.toNat default) ∧ ((s.cells.map fun x => bif b then x.dlo else x.dhi).getD k.toNat default) ≤ _
  rw [getD_map0 hk.1 (by omega)]
  cases b <;> simp only [cond_true, cond_false] <;> omega
end Go.Proofs.Ytiigkdhaofaijaa

