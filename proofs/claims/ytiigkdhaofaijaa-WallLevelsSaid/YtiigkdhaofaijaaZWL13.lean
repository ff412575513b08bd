/- Wall: the program's truths and levels. -/
import Derived.Test.YtiigkdhaofaijaaZWL12
import Derived.WalkKit
import Derived.Lib.Hide
import Derived.Lib.Overlaps
import Derived.Lib.AppendZerosOnto
import Derived.Shelf.Spec.SlicesInsert
import Derived.Deep.RegionHeld3
import Derived.Test.YtiigkdhaofaijaaZWL07
import Derived.Test.YtiigkdhaofaijaaProg
import Derived.Test.YtiigkdhaofaijaaZWL10
set_option linter.all false
namespace Go.Proofs.Ytiigkdhaofaijaa
open Go Go.CE Go.RowKit
def plevel_v0 (s : WShore) (c : WStorm) (t : WTruth) (w i : Int) : List Value := [pA 2 0, .int .i64 w, Value.int IntKind.i64 (WShore.reef s), .int .i64 i]
def plevel_o0 (s : WShore) (c : WStorm) (t : WTruth) (w i : Int) : List Obj := [Obj.cells #[Value.int IntKind.i64 (WTruth.wind t), Value.int IntKind.i64 (WTruth.fetch t), Value.int IntKind.i64 (WTruth.tide t), Value.int IntKind.i64 (WTruth.loss t), topV 1 (slT (List.length (WTruth.drags t)) (rowL encI (WTruth.drags t)))] 38]
noncomputable def plevel_t0 : List Item := ([.code [1, 1, 0, 1, 0, 0], .inLoop [1, 1, 0, 1, 0, 0], .inBlock 0, .code [1, 1, 1]]).map (it (bodyOf Try.prog 75))
def plevel_h0 (B : Lo) (c0 : CF) (s : WShore) (c : WStorm) (t : WTruth) (w i : Int) : Prop := ∃ dJ : Nat → Value, (∀ t, Loose (dJ t)) ∧ GoE Try.prog B c0 H00 1 (headC 75 28 (([3, 5, 13, 14] : List Nat).zip (plevel_v0 s c t w i)) dJ plevel_t0) (headH (plevel_o0 s c t w i)) (2 + (plevel_o0 s c t w i).length) []
set_option maxRecDepth 100000 in
theorem plevel_s0 (B : Lo) (s : WShore) (c : WStorm) (t : WTruth) (w i : Int) (dJ0 : Nat → Value) : landM (srunT Try.prog (okFn Try.prog) J0 B 11 1 (headC 75 28 (([3, 5, 13, 14] : List Nat).zip (plevel_v0 s c t w i)) dJ0 plevel_t0) (headH (plevel_o0 s c t w i)) (2 + (plevel_o0 s c t w i).length)
    [(0, hvT), (5, HintT.pure (Value.int IntKind.i64 (Int.tdiv (w * WTruth.loss t) 1000)) []), (6, hvI (w - Int.tdiv (w * WTruth.loss t) 1000)), (8, hvI (i + 1))] 0 [] []) [3, 5, 13, 14] [(2, KS.auto)] [] = some ⟨75, 28, plevel_t0, [], .run, none, plevel_v0 s c t (w - Int.tdiv (w * WTruth.loss t) 1000) (i + 1), plevel_o0 s c t (w - Int.tdiv (w * WTruth.loss t) 1000) (i + 1),
    [wq (i + 1) = i + 1, wq (w - Int.tdiv (w * WTruth.loss t) 1000) = w - Int.tdiv (w * WTruth.loss t) 1000, AllP [] ∧ PureC Try.prog J0 97 #[Value.int IntKind.i64 w, Value.int IntKind.i64 (WTruth.loss t)] (Value.int IntKind.i64 (Int.tdiv (w * WTruth.loss t) 1000)), ltq i (WShore.reef s) = true]⟩ := by kernel_rfl
noncomputable def plevel_H0 (s : WShore) (c : WStorm) (t : WTruth) (w i : Int) (dJ0 : Nat → Value) : Heap := [(3, Obj.cells #[Value.int IntKind.i64 (WTruth.tide t), Value.int IntKind.i64 w] 3), (0, Obj.coro none), (1, Obj.coro none), (2, Obj.cells #[Value.int IntKind.i64 (WTruth.wind t), Value.int IntKind.i64 (WTruth.fetch t), Value.int IntKind.i64 (WTruth.tide t), Value.int IntKind.i64 (WTruth.loss t), topV 1 (slT (List.length (WTruth.drags t)) (rowL encI (WTruth.drags t)))] 38)]
noncomputable def plevel_c0 (s : WShore) (c : WStorm) (t : WTruth) (w i : Int) (dJ0 : Nat → Value) : CF := ⟨98, ofList 17 [Value.slice (some { block := 3, off := 0 }) 2 1], [Item.code (bodyOf Try.prog 98)], [], .run, none⟩
set_option maxRecDepth 100000 in
theorem plevel_s1 (B : Lo) (s : WShore) (c : WStorm) (t : WTruth) (w i : Int) (dJ0 : Nat → Value) : CE.finK 4 (srunT Try.prog (okFn Try.prog) J0 B 44 4 (plevel_c0 s c t w i dJ0) (plevel_H0 s c t w i dJ0) 4
    [(11, hvI (0 + WTruth.tide t)), (21, hvI (0 + WTruth.tide t + w))] 0 [] []) [] [] [] = some (OO.ret (Value.int IntKind.i64 (0 + WTruth.tide t + w)), [], [],
    [wq (0 + WTruth.tide t + w) = 0 + WTruth.tide t + w, wq (0 + WTruth.tide t) = 0 + WTruth.tide t]) := by kernel_rfl
set_option maxRecDepth 100000 in
theorem plevel_s2 (B : Lo) (s : WShore) (c : WStorm) (t : WTruth) (w i : Int) (dJ0 : Nat → Value) : endT (srunT Try.prog (okFn Try.prog) J0 B 9 1 (headC 75 28 (([3, 5, 13, 14] : List Nat).zip (plevel_v0 s c t w i)) dJ0 plevel_t0) (headH (plevel_o0 s c t w i)) (2 + (plevel_o0 s c t w i).length)
    [(0, hvF), (5, HintT.call (List.range 4) (OO.ret (Value.int IntKind.i64 (0 + WTruth.tide t + w))) ([] ++ (4, regO) :: heapL 5 []) 5 [])] 0 [] []) [] = some (Value.int IntKind.i64 (0 + WTruth.tide t + w),
    [FJ Try.prog B (plevel_c0 s c t w i dJ0) (plevel_H0 s c t w i dJ0) 4 (OO.ret (Value.int IntKind.i64 (0 + WTruth.tide t + w))) (([] ++ ((4, regO) :: heapL (4 + 1) [])) ++ plevel_H0 s c t w i dJ0) 5 (List.range 4) [], ltq i (WShore.reef s) = false]) := by kernel_rfl
set_option maxRecDepth 100000 in
theorem plevel_s3 (B : Lo) (s : WShore) (c : WStorm) (t : WTruth) : landM (srunT Try.prog (okFn Try.prog) J0 B 9 1 (entryC Try.prog 75 28 (([.agg (encStormy s c).toArray, .agg (encTruth t).toArray]).map (pushT 0 4))) H00 1
    [(7, HintT.pure (Value.int IntKind.i64 (Int.tdiv (WTruth.fetch t * WTruth.wind t) 1000)) [])] 0 [] []) [3, 5, 13, 14] [(2, KS.auto)] [] = some ⟨75, 28, plevel_t0, [], .run, none, plevel_v0 s c t (Int.tdiv (WTruth.fetch t * WTruth.wind t) 1000) (0), plevel_o0 s c t (Int.tdiv (WTruth.fetch t * WTruth.wind t) 1000) (0),
    [AllP [] ∧ PureC Try.prog J0 97 #[Value.int IntKind.i64 (WTruth.fetch t), Value.int IntKind.i64 (WTruth.wind t)] (Value.int IntKind.i64 (Int.tdiv (WTruth.fetch t * WTruth.wind t) 1000))]⟩ := by kernel_rfl
set_option maxHeartbeats 4000000 in
theorem plevel_ls (s : WShore) (c : WStorm) (t : WTruth) (hr : 0 ≤ s.reef ∧ s.reef ≤ 20) (ht : tOk s t) {B : Lo} (hJ : ∀ w, B.has w → J0 w) {c0 : CF} : ∀ m : Nat, (∀ (w i : Int), (s.reef - i).toNat = m → ∀ (h0 : 0 ≤ i) (hw : 0 ≤ w ∧ w ≤ 10000), plevel_h0 B c0 s c t w i → EndsT Try.prog B c0 (.int .i64 (t.tide + waveN t.loss (s.reef - i).toNat w))) := by
  intro m0
  induction m0 using Nat.strongRecOn with
  | _ m0 ih0 =>
    intro w i hm0 h0 hw ⟨dJ0, hdJ0, hg0⟩
    have h0 := wave_0 ht
    have hlt := ht.2.2.1
    have hll := ht.2.2.2.1
    have hwi := ht.1
    have hfe := ht.2.1
    have hq := wave_q hw ht.2.2.2.1
    have hlt := ht.2.2.1
    have hll := ht.2.2.2.1
    by_cases q0 : (i : Int) < (WShore.reef s)
    ·
      try have s2 := waveN_cons (l := t.loss) (w := w) q0
      try have s2 := waveN_nil (l := t.loss) (w := w) (r := s.reef) (i := i) (by omega)
      exact ((ih0 _ (by omega)) (w - Int.tdiv (w * WTruth.loss t) 1000) (i + 1) rfl (by first | with_reducible assumption | omega | (simp_all; done)) (by first | with_reducible assumption | omega | (simp_all; done))
        (hg0.landM okF hJ mixed_ok (plevel_s0 B s c t w i dJ0)
        ⟨(wq_in (by omega) (by omega)), ⟨(wq_in (by omega) (by omega)), ⟨⟨trivial, pPart (w) (WTruth.loss t) (by first | with_reducible assumption | omega | simp_all) (by first | with_reducible assumption | omega | simp_all)⟩, ⟨(ltq_t q0), trivial⟩⟩⟩⟩ (by kernel_rfl) (by kernel_rfl))).cast (by first | rfl | (rw [s2]; done) | (rw [s2]; simp [sumL]; done))
    ·
      have rj0 : FJ Try.prog B (plevel_c0 s c t w i dJ0) (plevel_H0 s c t w i dJ0) 4 (OO.ret (Value.int IntKind.i64 (0 + WTruth.tide t + w))) (([] ++ ((4, regO) :: heapL (4 + 1) [])) ++ plevel_H0 s c t w i dJ0) 5 (List.range 4) [] := by
        try have s2 := waveN_cons (l := t.loss) (w := w) q0
        try have s2 := waveN_nil (l := t.loss) (w := w) (r := s.reef) (i := i) (by omega)
        exact FinK.fjB (GoE.finK okF hJ mixed_ok (under_all (by kernel_rfl)) (writable_of (by kernel_rfl)) ((GoE.refl (P := Try.prog) (B := B) (c0 := plevel_c0 s c t w i dJ0) (under_all (by kernel_rfl))).widen (Wf := ((([]) : List (Nat × KS)).map (·.1))) (by simp) (writable_of (by kernel_rfl))) (plevel_s1 B s c t w i dJ0)
          ⟨(wq_in (by omega) (by omega)), ⟨(wq_in (by omega) (by omega)), trivial⟩⟩) (ex := []) (by kernel_rfl) (lowX_nil _)
      try have s2 := waveN_cons (l := t.loss) (w := w) q0
      try have s2 := waveN_nil (l := t.loss) (w := w) (r := s.reef) (i := i) (by omega)
      exact (GoE.endsT okF hJ mixed_ok hg0 (plevel_s2 B s c t w i dJ0)
        ⟨rj0, ⟨(ltq_f (Int.not_lt.1 q0)), trivial⟩⟩).cast (by first | rfl | (rw [s2]; done) | (rw [s2]; simp [sumL]; done))
set_option maxHeartbeats 4000000 in
theorem plevel_e (s : WShore) (c : WStorm) (t : WTruth) (hr : 0 ≤ s.reef ∧ s.reef ≤ 20) (ht : tOk s t) {B : Lo} (hJ : ∀ w, B.has w → J0 w) : EndsT Try.prog B (entryC Try.prog 75 28 (([.agg (encStormy s c).toArray, .agg (encTruth t).toArray]).map (pushT 0 4))) (.int .i64 (levelF s t)) := by
  have h0 := wave_0 ht
  have hlt := ht.2.2.1
  have hll := ht.2.2.2.1
  have hwi := ht.1
  have hfe := ht.2.1
  exact ((plevel_ls s c t hr ht hJ _) (Int.tdiv (WTruth.fetch t * WTruth.wind t) 1000) (0) rfl (by first | with_reducible assumption | omega | (simp_all; done)) (by first | with_reducible assumption | omega | (simp_all; done))
    (GoE.start.landM okF hJ mixed_ok (plevel_s3 B s c t)
    ⟨⟨trivial, pPart (WTruth.fetch t) (WTruth.wind t) (by first | with_reducible assumption | omega | simp_all) (by first | with_reducible assumption | omega | simp_all)⟩, trivial⟩ (by kernel_rfl) (by kernel_rfl))).cast (by first | rfl | (rw [Int.sub_zero]; rfl))
theorem plevel (s : WShore) (c : WStorm) (t : WTruth) (hr : 0 ≤ s.reef ∧ s.reef ≤ 20) (ht : tOk s t) : PureC Try.prog J0 75 #[.agg (encStormy s c).toArray, .agg (encTruth t).toArray] (.int .i64 (levelF s t)) :=
  pureC_of (ts := [.agg (encStormy s c).toArray, .agg (encTruth t).toArray]) J0_st (c0 := entryC Try.prog 75 28 (([.agg (encStormy s c).toArray, .agg (encTruth t).toArray]).map (pushT 0 4))) (by kernel_rfl) (by kernel_rfl) fun B hJ => plevel_e s c t hr ht hJ
def pEachSH_v0 (xs : List Span) (i : Int) (ys : List Int) : List Value := [Value.func (Fn.func 77) #[] #[], Value.slice (some { block := 2, off := 0 }) (List.length xs) 1, topV 1 (slT (List.length xs) (rowL encSp xs)), Value.int IntKind.i64 (↑(List.length xs) : Int), .int .i64 i]
def pEachSH_o0 (xs : List Span) (i : Int) (ys : List Int) : List Obj := [.cells (rowL encI ys) 3 (0, 0)]
noncomputable def pEachSH_t0 : List Item := ([.code [1, 1, 0, 1, 0, 0], .inLoop [1, 1, 0, 1, 0, 0], .inBlock 0, .code [1, 1, 1]]).map (it (bodyOf Try.prog 99))
def pEachSH_h0 (B : Lo) (c0 : CF) (xs : List Span) (i : Int) (ys : List Int) : Prop := ∃ dJ : Nat → Value, (∀ t, Loose (dJ t)) ∧ GoE Try.prog B c0 H00 1 (headC 99 26 (([1, 5, 11, 12, 13] : List Nat).zip (pEachSH_v0 xs i ys)) dJ pEachSH_t0) (headH (pEachSH_o0 xs i ys)) (2 + (pEachSH_o0 xs i ys).length) []
noncomputable def pEachSH_z0 (xs : List Span) (i : Int) : Array Value := #[Value.int IntKind.i64 (Span.lo (List.getD xs (Int.toNat i) default)), Value.int IntKind.i64 (Span.hi (List.getD xs (Int.toNat i) default))]
set_option maxRecDepth 100000 in
theorem pEachSH_s0 (B : Lo) (xs : List Span) (i : Int) (ys : List Int) (dJ0 : Nat → Value) : landM (srunT Try.prog (okFn Try.prog) J0 B 13 1 (headC 99 26 (([1, 5, 11, 12, 13] : List Nat).zip (pEachSH_v0 xs i ys)) dJ0 pEachSH_t0) (headH (pEachSH_o0 xs i ys)) (2 + (pEachSH_o0 xs i ys).length)
    [(0, hvT), (2, HintT.tidx (Int.toNat i) (pEachSH_z0 xs i)), (11, HintT.pure (Value.int IntKind.i64 (Span.hi (List.getD xs (Int.toNat i) default))) []), (12, HintT.old (Hint.idx (Int.toNat i))), (13, HintT.old (Hint.st (rowL encI (List.set ys (Int.toNat i) (Span.hi (List.getD xs (Int.toNat i) default)))))), (14, hvI (i + 1))] 0 [] []) [1, 5, 11, 12, 13] [(2, KS.cells [] (rowL encI (List.set ys (Int.toNat i) (Span.hi (List.getD xs (Int.toNat i) default)))))] [] = some ⟨99, 26, pEachSH_t0, [], .run, none, pEachSH_v0 xs (i + 1) (List.set ys (Int.toNat i) (Span.hi (List.getD xs (Int.toNat i) default))), pEachSH_o0 xs (i + 1) (List.set ys (Int.toNat i) (Span.hi (List.getD xs (Int.toNat i) default))),
    [CellsM 1 [] (rowL encI (List.set ys (Int.toNat i) (Span.hi (List.getD xs (Int.toNat i) default)))) (rowL encI (List.set ys (Int.toNat i) (Span.hi (List.getD xs (Int.toNat i) default)))), wq (i + 1) = i + 1, 0 + Int.toNat i * 1 + TypeInfo.size Try.t3 ≤ Array.size (rowL encI ys) ∧ splice (rowL encI ys) (0 + Int.toNat i * 1) (Value.cells (tget { len := 16000, tr := Tri.set 14 (Tri.set 14 Tri.lf 22 (Value.int IntKind.i64 (Span.hi (List.getD xs (Int.toNat i) default)))) 23 (Value.pointer (some { block := 2, off := 0 + Int.toNat i * 1 })) } 22)) = rowL encI (List.set ys (Int.toNat i) (Span.hi (List.getD xs (Int.toNat i) default))), i = (↑(Int.toNat i) : Int) ∧ Int.toNat i < List.length xs, AllP [] ∧ PureC Try.prog J0 77 #[Value.agg (pEachSH_z0 xs i)] (Value.int IntKind.i64 (Span.hi (List.getD xs (Int.toNat i) default))), i = (↑(Int.toNat i) : Int) ∧ Int.toNat i < List.length xs ∧ Array.extract (rowL encSp xs) (Int.toNat i * TypeInfo.size Try.t25) (Int.toNat i * TypeInfo.size Try.t25 + TypeInfo.size Try.t25) = (pEachSH_z0 xs i), ltq i (↑(List.length xs) : Int) = true]⟩ := by kernel_rfl
set_option maxRecDepth 100000 in
theorem pEachSH_s1 (B : Lo) (xs : List Span) (i : Int) (ys : List Int) (dJ0 : Nat → Value) : endT (srunT Try.prog (okFn Try.prog) J0 B 9 1 (headC 99 26 (([1, 5, 11, 12, 13] : List Nat).zip (pEachSH_v0 xs i ys)) dJ0 pEachSH_t0) (headH (pEachSH_o0 xs i ys)) (2 + (pEachSH_o0 xs i ys).length)
    [(0, hvF)] 0 [] []) [{ k := 2, rs := [], cs := rowL encI ys }] = some (slT (List.length xs) (Fz.cs { k := 2, rs := [], cs := rowL encI ys }),
    [CellsT (Fz.rs { k := 2, rs := [], cs := rowL encI ys }) (rowL encI ys) (Fz.cs { k := 2, rs := [], cs := rowL encI ys }), ltq i (↑(List.length xs) : Int) = false]) := by kernel_rfl
set_option maxRecDepth 100000 in
theorem pEachSH_s2 (B : Lo) (xs : List Span) : landM (srunT Try.prog (okFn Try.prog) J0 B 9 1 (entryC Try.prog 99 26 (([slSp xs, .func (.func 77) #[] #[]]).map (pushT 0 4))) H00 1
    [(3, HintT.old (Hint.mk (List.length xs) (rowL (zeroE [Value.int IntKind.i64 0]) (List.replicate (List.length xs) ()))))] 0 [] []) [1, 5, 11, 12, 13] [(1, KS.rows [] [] (rowL encI (List.replicate (List.length xs) 0)))] [] = some ⟨99, 26, pEachSH_t0, [], .run, none, pEachSH_v0 xs (0) (List.replicate (List.length xs) 0), pEachSH_o0 xs (0) (List.replicate (List.length xs) 0),
    [CellsX 1 [] [] (rowL (zeroE [Value.int IntKind.i64 0]) (List.replicate (List.length xs) ())) (rowL encI (List.replicate (List.length xs) 0)), cMake Try.prog 36 (tget { len := 16000, tr := Tri.set 14 Tri.lf 9 (Value.int IntKind.i64 (↑(List.length xs) : Int)) } 9) (tget { len := 16000, tr := Tri.set 14 Tri.lf 9 (Value.int IntKind.i64 (↑(List.length xs) : Int)) } 9) = some (3, rowL (zeroE [Value.int IntKind.i64 0]) (List.replicate (List.length xs) ()), List.length xs, TypeInfo.size Try.t3)]⟩ := by kernel_rfl
set_option maxHeartbeats 4000000 in
theorem pEachSH_ls (xs : List Span) (hn : xs.length ≤ 1000000) {B : Lo} (hJ : ∀ w, B.has w → J0 w) {c0 : CF} : ∀ m : Nat, (∀ (i : Int) (ys : List Int), (xs.length - i.toNat) = m → ∀ (h0 : 0 ≤ i) (hy : ys = doneL Span.hi 0 xs i), pEachSH_h0 B c0 xs i ys → EndsT Try.prog B c0 (slI (xs.map Span.hi))) := by
  intro m0
  induction m0 using Nat.strongRecOn with
  | _ m0 ih0 =>
    intro i ys hm0 h0 hy ⟨dJ0, hdJ0, hg0⟩
    have hyl : ys.length = xs.length := by rw [hy]; exact doneL_len
    by_cases q0 : (i : Int) < ((↑(List.length xs) : Int))
    ·
      exact ((ih0 _ (by omega)) (i + 1) (List.set ys (Int.toNat i) (Span.hi (List.getD xs (Int.toNat i) default))) rfl (by first | with_reducible assumption | omega | (subst hy; exact doneL_set (f := Span.hi) h0 q0) | exact doneL_0 | (simp_all; done)) (by first | with_reducible assumption | omega | (subst hy; exact doneL_set (f := Span.hi) h0 q0) | exact doneL_0 | (simp_all; done))
        (hg0.landM okF hJ mixed_ok (pEachSH_s0 B xs i ys dJ0)
        ⟨(cellsM_simple (rowL_simple (fun x => List.all_eq_true.1 (by first | rfl | (cases x <;> rfl))))), ⟨(wq_in (by omega) (by omega)), ⟨(by first | exact rowL_st (z := 1) (fun _ => rfl) (by omega) rfl | exact rowL_st0 (z := 1) (fun _ => rfl) (by omega) rfl rfl), ⟨⟨by omega, by omega⟩, ⟨⟨trivial, pHigh (Span.lo (List.getD xs (Int.toNat i) default)) (Span.hi (List.getD xs (Int.toNat i) default))⟩, ⟨⟨by omega, by omega, (rowL_extract (z := 2) (fun _ => rfl) (by omega))⟩, ⟨(ltq_t q0), trivial⟩⟩⟩⟩⟩⟩⟩ (by kernel_rfl) (by kernel_rfl))).cast (by first | rfl | exact row_len (hy.trans (doneL_end (by omega))) (by simp))
    ·
      exact (GoE.endsT okF hJ mixed_ok hg0 (pEachSH_s1 B xs i ys dJ0)
        ⟨(rowL_cellsT (fun x => List.all_eq_true.1 (by first | rfl | (cases x <;> rfl)))), ⟨(ltq_f (Int.not_lt.1 q0)), trivial⟩⟩).cast (by first | rfl | exact row_len (hy.trans (doneL_end (by omega))) (by simp))
set_option maxHeartbeats 4000000 in
theorem pEachSH_e (xs : List Span) (hn : xs.length ≤ 1000000) {B : Lo} (hJ : ∀ w, B.has w → J0 w) : EndsT Try.prog B (entryC Try.prog 99 26 (([slSp xs, .func (.func 77) #[] #[]]).map (pushT 0 4))) (slI (xs.map Span.hi)) := by
  exact ((pEachSH_ls xs hn hJ _) (0) (List.replicate (List.length xs) 0) rfl (by first | with_reducible assumption | omega | (subst hy; exact doneL_set (f := Span.hi) h0 q0) | exact doneL_0 | (simp_all; done)) (by first | with_reducible assumption | omega | (subst hy; exact doneL_set (f := Span.hi) h0 q0) | exact doneL_0 | (simp_all; done))
    (GoE.start.landM okF hJ mixed_ok (pEachSH_s2 B xs)
    ⟨(by exact (cellsX_zero (by exact ⟨(.simple rfl), trivial⟩) _)), ⟨(cMakeL (bytes := 8) (by kernel_rfl) (by omega) (by omega) (by omega)), trivial⟩⟩ (by kernel_rfl) (by kernel_rfl))).cast (by first | rfl | (simp [*]; done) | (simp_all []; done) | (simp_all []; omega))
theorem pEachSH (xs : List Span) (hn : xs.length ≤ 1000000) : PureC Try.prog J0 99 #[slSp xs, .func (.func 77) #[] #[]] (slI (xs.map Span.hi)) :=
  pureC_of (ts := [slSp xs, .func (.func 77) #[] #[]]) J0_st (c0 := entryC Try.prog 99 26 (([slSp xs, .func (.func 77) #[] #[]]).map (pushT 0 4))) (by kernel_rfl) (by kernel_rfl) fun B hJ => pEachSH_e xs hn hJ
def pEachSL_v0 (xs : List Span) (i : Int) (ys : List Int) : List Value := [Value.func (Fn.func 78) #[] #[], Value.slice (some { block := 2, off := 0 }) (List.length xs) 1, topV 1 (slT (List.length xs) (rowL encSp xs)), Value.int IntKind.i64 (↑(List.length xs) : Int), .int .i64 i]
def pEachSL_o0 (xs : List Span) (i : Int) (ys : List Int) : List Obj := [.cells (rowL encI ys) 3 (0, 0)]
noncomputable def pEachSL_t0 : List Item := ([.code [1, 1, 0, 1, 0, 0], .inLoop [1, 1, 0, 1, 0, 0], .inBlock 0, .code [1, 1, 1]]).map (it (bodyOf Try.prog 99))
def pEachSL_h0 (B : Lo) (c0 : CF) (xs : List Span) (i : Int) (ys : List Int) : Prop := ∃ dJ : Nat → Value, (∀ t, Loose (dJ t)) ∧ GoE Try.prog B c0 H00 1 (headC 99 26 (([1, 5, 11, 12, 13] : List Nat).zip (pEachSL_v0 xs i ys)) dJ pEachSL_t0) (headH (pEachSL_o0 xs i ys)) (2 + (pEachSL_o0 xs i ys).length) []
noncomputable def pEachSL_z0 (xs : List Span) (i : Int) : Array Value := #[Value.int IntKind.i64 (Span.lo (List.getD xs (Int.toNat i) default)), Value.int IntKind.i64 (Span.hi (List.getD xs (Int.toNat i) default))]
set_option maxRecDepth 100000 in
theorem pEachSL_s0 (B : Lo) (xs : List Span) (i : Int) (ys : List Int) (dJ0 : Nat → Value) : landM (srunT Try.prog (okFn Try.prog) J0 B 13 1 (headC 99 26 (([1, 5, 11, 12, 13] : List Nat).zip (pEachSL_v0 xs i ys)) dJ0 pEachSL_t0) (headH (pEachSL_o0 xs i ys)) (2 + (pEachSL_o0 xs i ys).length)
    [(0, hvT), (2, HintT.tidx (Int.toNat i) (pEachSL_z0 xs i)), (11, HintT.pure (Value.int IntKind.i64 (Span.lo (List.getD xs (Int.toNat i) default))) []), (12, HintT.old (Hint.idx (Int.toNat i))), (13, HintT.old (Hint.st (rowL encI (List.set ys (Int.toNat i) (Span.lo (List.getD xs (Int.toNat i) default)))))), (14, hvI (i + 1))] 0 [] []) [1, 5, 11, 12, 13] [(2, KS.cells [] (rowL encI (List.set ys (Int.toNat i) (Span.lo (List.getD xs (Int.toNat i) default)))))] [] = some ⟨99, 26, pEachSL_t0, [], .run, none, pEachSL_v0 xs (i + 1) (List.set ys (Int.toNat i) (Span.lo (List.getD xs (Int.toNat i) default))), pEachSL_o0 xs (i + 1) (List.set ys (Int.toNat i) (Span.lo (List.getD xs (Int.toNat i) default))),
    [CellsM 1 [] (rowL encI (List.set ys (Int.toNat i) (Span.lo (List.getD xs (Int.toNat i) default)))) (rowL encI (List.set ys (Int.toNat i) (Span.lo (List.getD xs (Int.toNat i) default)))), wq (i + 1) = i + 1, 0 + Int.toNat i * 1 + TypeInfo.size Try.t3 ≤ Array.size (rowL encI ys) ∧ splice (rowL encI ys) (0 + Int.toNat i * 1) (Value.cells (tget { len := 16000, tr := Tri.set 14 (Tri.set 14 Tri.lf 22 (Value.int IntKind.i64 (Span.lo (List.getD xs (Int.toNat i) default)))) 23 (Value.pointer (some { block := 2, off := 0 + Int.toNat i * 1 })) } 22)) = rowL encI (List.set ys (Int.toNat i) (Span.lo (List.getD xs (Int.toNat i) default))), i = (↑(Int.toNat i) : Int) ∧ Int.toNat i < List.length xs, AllP [] ∧ PureC Try.prog J0 78 #[Value.agg (pEachSL_z0 xs i)] (Value.int IntKind.i64 (Span.lo (List.getD xs (Int.toNat i) default))), i = (↑(Int.toNat i) : Int) ∧ Int.toNat i < List.length xs ∧ Array.extract (rowL encSp xs) (Int.toNat i * TypeInfo.size Try.t25) (Int.toNat i * TypeInfo.size Try.t25 + TypeInfo.size Try.t25) = (pEachSL_z0 xs i), ltq i (↑(List.length xs) : Int) = true]⟩ := by kernel_rfl
set_option maxRecDepth 100000 in
theorem pEachSL_s1 (B : Lo) (xs : List Span) (i : Int) (ys : List Int) (dJ0 : Nat → Value) : endT (srunT Try.prog (okFn Try.prog) J0 B 9 1 (headC 99 26 (([1, 5, 11, 12, 13] : List Nat).zip (pEachSL_v0 xs i ys)) dJ0 pEachSL_t0) (headH (pEachSL_o0 xs i ys)) (2 + (pEachSL_o0 xs i ys).length)
    [(0, hvF)] 0 [] []) [{ k := 2, rs := [], cs := rowL encI ys }] = some (slT (List.length xs) (Fz.cs { k := 2, rs := [], cs := rowL encI ys }),
    [CellsT (Fz.rs { k := 2, rs := [], cs := rowL encI ys }) (rowL encI ys) (Fz.cs { k := 2, rs := [], cs := rowL encI ys }), ltq i (↑(List.length xs) : Int) = false]) := by kernel_rfl
set_option maxRecDepth 100000 in
theorem pEachSL_s2 (B : Lo) (xs : List Span) : landM (srunT Try.prog (okFn Try.prog) J0 B 9 1 (entryC Try.prog 99 26 (([slSp xs, .func (.func 78) #[] #[]]).map (pushT 0 4))) H00 1
    [(3, HintT.old (Hint.mk (List.length xs) (rowL (zeroE [Value.int IntKind.i64 0]) (List.replicate (List.length xs) ()))))] 0 [] []) [1, 5, 11, 12, 13] [(1, KS.rows [] [] (rowL encI (List.replicate (List.length xs) 0)))] [] = some ⟨99, 26, pEachSL_t0, [], .run, none, pEachSL_v0 xs (0) (List.replicate (List.length xs) 0), pEachSL_o0 xs (0) (List.replicate (List.length xs) 0),
    [CellsX 1 [] [] (rowL (zeroE [Value.int IntKind.i64 0]) (List.replicate (List.length xs) ())) (rowL encI (List.replicate (List.length xs) 0)), cMake Try.prog 36 (tget { len := 16000, tr := Tri.set 14 Tri.lf 9 (Value.int IntKind.i64 (↑(List.length xs) : Int)) } 9) (tget { len := 16000, tr := Tri.set 14 Tri.lf 9 (Value.int IntKind.i64 (↑(List.length xs) : Int)) } 9) = some (3, rowL (zeroE [Value.int IntKind.i64 0]) (List.replicate (List.length xs) ()), List.length xs, TypeInfo.size Try.t3)]⟩ := by kernel_rfl
set_option maxHeartbeats 4000000 in
theorem pEachSL_ls (xs : List Span) (hn : xs.length ≤ 1000000) {B : Lo} (hJ : ∀ w, B.has w → J0 w) {c0 : CF} : ∀ m : Nat, (∀ (i : Int) (ys : List Int), (xs.length - i.toNat) = m → ∀ (h0 : 0 ≤ i) (hy : ys = doneL Span.lo 0 xs i), pEachSL_h0 B c0 xs i ys → EndsT Try.prog B c0 (slI (xs.map Span.lo))) := by
  intro m0
  induction m0 using Nat.strongRecOn with
  | _ m0 ih0 =>
    intro i ys hm0 h0 hy ⟨dJ0, hdJ0, hg0⟩
    have hyl : ys.length = xs.length := by rw [hy]; exact doneL_len
    by_cases q0 : (i : Int) < ((↑(List.length xs) : Int))
    ·
      exact ((ih0 _ (by omega)) (i + 1) (List.set ys (Int.toNat i) (Span.lo (List.getD xs (Int.toNat i) default))) rfl (by first | with_reducible assumption | omega | (subst hy; exact doneL_set (f := Span.lo) h0 q0) | exact doneL_0 | (simp_all; done)) (by first | with_reducible assumption | omega | (subst hy; exact doneL_set (f := Span.lo) h0 q0) | exact doneL_0 | (simp_all; done))
        (hg0.landM okF hJ mixed_ok (pEachSL_s0 B xs i ys dJ0)
        ⟨(cellsM_simple (rowL_simple (fun x => List.all_eq_true.1 (by first | rfl | (cases x <;> rfl))))), ⟨(wq_in (by omega) (by omega)), ⟨(by first | exact rowL_st (z := 1) (fun _ => rfl) (by omega) rfl | exact rowL_st0 (z := 1) (fun _ => rfl) (by omega) rfl rfl), ⟨⟨by omega, by omega⟩, ⟨⟨trivial, pLow (Span.lo (List.getD xs (Int.toNat i) default)) (Span.hi (List.getD xs (Int.toNat i) default))⟩, ⟨⟨by omega, by omega, (rowL_extract (z := 2) (fun _ => rfl) (by omega))⟩, ⟨(ltq_t q0), trivial⟩⟩⟩⟩⟩⟩⟩ (by kernel_rfl) (by kernel_rfl))).cast (by first | rfl | exact row_len (hy.trans (doneL_end (by omega))) (by simp))
    ·
      exact (GoE.endsT okF hJ mixed_ok hg0 (pEachSL_s1 B xs i ys dJ0)
        ⟨(rowL_cellsT (fun x => List.all_eq_true.1 (by first | rfl | (cases x <;> rfl)))), ⟨(ltq_f (Int.not_lt.1 q0)), trivial⟩⟩).cast (by first | rfl | exact row_len (hy.trans (doneL_end (by omega))) (by simp))
set_option maxHeartbeats 4000000 in
theorem pEachSL_e (xs : List Span) (hn : xs.length ≤ 1000000) {B : Lo} (hJ : ∀ w, B.has w → J0 w) : EndsT Try.prog B (entryC Try.prog 99 26 (([slSp xs, .func (.func 78) #[] #[]]).map (pushT 0 4))) (slI (xs.map Span.lo)) := by
  exact ((pEachSL_ls xs hn hJ _) (0) (List.replicate (List.length xs) 0) rfl (by first | with_reducible assumption | omega | (subst hy; exact doneL_set (f := Span.lo) h0 q0) | exact doneL_0 | (simp_all; done)) (by first | with_reducible assumption | omega | (subst hy; exact doneL_set (f := Span.lo) h0 q0) | exact doneL_0 | (simp_all; done))
    (GoE.start.landM okF hJ mixed_ok (pEachSL_s2 B xs)
    ⟨(by exact (cellsX_zero (by exact ⟨(.simple rfl), trivial⟩) _)), ⟨(cMakeL (bytes := 8) (by kernel_rfl) (by omega) (by omega) (by omega)), trivial⟩⟩ (by kernel_rfl) (by kernel_rfl))).cast (by first | rfl | (simp [*]; done) | (simp_all []; done) | (simp_all []; omega))
theorem pEachSL (xs : List Span) (hn : xs.length ≤ 1000000) : PureC Try.prog J0 99 #[slSp xs, .func (.func 78) #[] #[]] (slI (xs.map Span.lo)) :=
  pureC_of (ts := [slSp xs, .func (.func 78) #[] #[]]) J0_st (c0 := entryC Try.prog 99 26 (([slSp xs, .func (.func 78) #[] #[]]).map (pushT 0 4))) (by kernel_rfl) (by kernel_rfl) fun B hJ => pEachSL_e xs hn hJ
noncomputable def pworst_H0 (s : WShore) (c : WStorm) : Heap := [(2, Obj.cells #[Value.int IntKind.i64 0, Value.int IntKind.i64 0, Value.int IntKind.i64 0, Value.int IntKind.i64 0, Value.slice none 0 0] 38), (1, Obj.cells #[topV 0 (slT (List.length (WShore.cells s)) (rowL encWCell (WShore.cells s))), topV 0 (slT (List.length (WShore.works s)) (rowL encWWork (WShore.works s))), Value.int IntKind.i64 (WShore.reef s), Value.int IntKind.i64 (WShore.llo s), Value.int IntKind.i64 (WShore.lhi s), Value.int IntKind.i64 (WStorm.wlo c), Value.int IntKind.i64 (WStorm.whi c), Value.int IntKind.i64 (WStorm.flo c), Value.int IntKind.i64 (WStorm.fhi c), Value.int IntKind.i64 (WStorm.tlo c), Value.int IntKind.i64 (WStorm.thi c)] 92), (0, Obj.coro none)]
noncomputable def pworst_c0 (s : WShore) (c : WStorm) : CF := ⟨76, ofList 32 [Value.agg #[topV 0 (slT (List.length (WShore.cells s)) (rowL encWCell (WShore.cells s))), topV 0 (slT (List.length (WShore.works s)) (rowL encWWork (WShore.works s))), Value.int IntKind.i64 (WShore.reef s), Value.int IntKind.i64 (WShore.llo s), Value.int IntKind.i64 (WShore.lhi s), Value.int IntKind.i64 (WStorm.wlo c), Value.int IntKind.i64 (WStorm.whi c), Value.int IntKind.i64 (WStorm.flo c), Value.int IntKind.i64 (WStorm.fhi c), Value.int IntKind.i64 (WStorm.tlo c), Value.int IntKind.i64 (WStorm.thi c)], Value.func (Fn.func 77) #[] #[], Value.func (Fn.func 78) #[] #[]], [Item.code (bodyOf Try.prog 76)], [], .run, none⟩
noncomputable def pworst_z0 (s : WShore) : Value := (slT (List.length (List.map Span.lo (List.map spanOf (WShore.cells s)))) (rowL encI (List.map Span.lo (List.map spanOf (WShore.cells s)))))
set_option maxRecDepth 100000 in
theorem pworst_s0 (B : Lo) (s : WShore) (c : WStorm) : CE.finK 3 (srunT Try.prog (okFn Try.prog) J0 B 6 3 (pworst_c0 s c) (pworst_H0 s c) 3
    [(6, HintT.pure (Value.int IntKind.i64 (WStorm.whi c)) []), (11, HintT.pure (Value.int IntKind.i64 (WStorm.fhi c)) []), (16, HintT.pure (Value.int IntKind.i64 (WStorm.thi c)) []), (21, HintT.pure (Value.int IntKind.i64 (WShore.llo s)) []), (23, HintT.pure (slT (List.length (List.map spanOf (WShore.cells s))) (rowL encSp (List.map spanOf (WShore.cells s)))) []), (25, HintT.pure (pworst_z0 s) [])] 0 [] []) [] [] [] = some (OO.ret (Value.agg #[Value.int IntKind.i64 (WStorm.whi c), Value.int IntKind.i64 (WStorm.fhi c), Value.int IntKind.i64 (WStorm.thi c), Value.int IntKind.i64 (WShore.llo s), topV 3 (slT (List.length (List.map Span.lo (List.map spanOf (WShore.cells s)))) (rowL encI (List.map Span.lo (List.map spanOf (WShore.cells s)))))]), [], [],
    [AllP [] ∧ PureC Try.prog J0 99 #[slT (List.length (List.map spanOf (WShore.cells s))) (rowL encSp (List.map spanOf (WShore.cells s))), Value.func (Fn.func 78) #[] #[]] (pworst_z0 s), AllP [] ∧ PureC Try.prog J0 82 #[Value.agg #[slT (List.length (WShore.cells s)) (rowL encWCell (WShore.cells s)), slT (List.length (WShore.works s)) (rowL encWWork (WShore.works s)), Value.int IntKind.i64 (WShore.reef s), Value.int IntKind.i64 (WShore.llo s), Value.int IntKind.i64 (WShore.lhi s), Value.int IntKind.i64 (WStorm.wlo c), Value.int IntKind.i64 (WStorm.whi c), Value.int IntKind.i64 (WStorm.flo c), Value.int IntKind.i64 (WStorm.fhi c), Value.int IntKind.i64 (WStorm.tlo c), Value.int IntKind.i64 (WStorm.thi c)]] (slT (List.length (List.map spanOf (WShore.cells s))) (rowL encSp (List.map spanOf (WShore.cells s)))), AllP [] ∧ PureC Try.prog J0 78 #[Value.agg #[Value.int IntKind.i64 (WShore.llo s), Value.int IntKind.i64 (WShore.lhi s)]] (Value.int IntKind.i64 (WShore.llo s)), AllP [] ∧ PureC Try.prog J0 77 #[Value.agg #[Value.int IntKind.i64 (WStorm.tlo c), Value.int IntKind.i64 (WStorm.thi c)]] (Value.int IntKind.i64 (WStorm.thi c)), AllP [] ∧ PureC Try.prog J0 77 #[Value.agg #[Value.int IntKind.i64 (WStorm.flo c), Value.int IntKind.i64 (WStorm.fhi c)]] (Value.int IntKind.i64 (WStorm.fhi c)), AllP [] ∧ PureC Try.prog J0 77 #[Value.agg #[Value.int IntKind.i64 (WStorm.wlo c), Value.int IntKind.i64 (WStorm.whi c)]] (Value.int IntKind.i64 (WStorm.whi c))]) := by kernel_rfl
set_option maxRecDepth 100000 in
theorem pworst_s1 (B : Lo) (s : WShore) (c : WStorm) : endT (srunT Try.prog (okFn Try.prog) J0 B 6 1 (entryC Try.prog 55 5 (([.agg (encStormy s c).toArray]).map (pushT 0 4))) H00 1
    [(3, HintT.call (List.range 3) (OO.ret (Value.agg #[Value.int IntKind.i64 (WStorm.whi c), Value.int IntKind.i64 (WStorm.fhi c), Value.int IntKind.i64 (WStorm.thi c), Value.int IntKind.i64 (WShore.llo s), topV 3 (pworst_z0 s)])) ([] ++ (3, regO) :: heapL 4 []) 4 [])] 0 [] []) [] = some (Value.agg #[Value.int IntKind.i64 (WStorm.whi c), Value.int IntKind.i64 (WStorm.fhi c), Value.int IntKind.i64 (WStorm.thi c), Value.int IntKind.i64 (WShore.llo s), slT (List.length (List.map Span.lo (List.map spanOf (WShore.cells s)))) (rowL encI (List.map Span.lo (List.map spanOf (WShore.cells s))))],
    [FJ Try.prog B (pworst_c0 s c) (pworst_H0 s c) 3 (OO.ret (Value.agg #[Value.int IntKind.i64 (WStorm.whi c), Value.int IntKind.i64 (WStorm.fhi c), Value.int IntKind.i64 (WStorm.thi c), Value.int IntKind.i64 (WShore.llo s), topV 3 (pworst_z0 s)])) (([] ++ ((3, regO) :: heapL (3 + 1) [])) ++ pworst_H0 s c) 4 (List.range 3) []]) := by kernel_rfl
set_option maxHeartbeats 4000000 in
theorem pworst_e (s : WShore) (c : WStorm) (hn : s.cells.length ≤ 1000000) {B : Lo} (hJ : ∀ w, B.has w → J0 w) : EndsT Try.prog B (entryC Try.prog 55 5 (([.agg (encStormy s c).toArray]).map (pushT 0 4))) (.agg (encTruth (endE true s c)).toArray) := by
  have hm : (s.cells.map spanOf).length ≤ 1000000 := by rw [List.length_map]; exact hn
  have rj0 : FJ Try.prog B (pworst_c0 s c) (pworst_H0 s c) 3 (OO.ret (Value.agg #[Value.int IntKind.i64 (WStorm.whi c), Value.int IntKind.i64 (WStorm.fhi c), Value.int IntKind.i64 (WStorm.thi c), Value.int IntKind.i64 (WShore.llo s), topV 3 (slT (List.length (List.map Span.lo (List.map spanOf (WShore.cells s)))) (rowL encI (List.map Span.lo (List.map spanOf (WShore.cells s)))))])) (([] ++ ((3, regO) :: heapL (3 + 1) [])) ++ pworst_H0 s c) 4 (List.range 3) [] := by
    exact FinK.fjB (GoE.finK okF hJ mixed_ok (under_all (by kernel_rfl)) (writable_of (by kernel_rfl)) ((GoE.refl (P := Try.prog) (B := B) (c0 := pworst_c0 s c) (under_all (by kernel_rfl))).widen (Wf := ((([]) : List (Nat × KS)).map (·.1))) (by simp) (writable_of (by kernel_rfl))) (pworst_s0 B s c)
      ⟨⟨trivial, pEachSL (List.map spanOf (WShore.cells s)) (by first | with_reducible assumption | omega | simp_all)⟩, ⟨⟨trivial, pdrags (s) (c) (by first | with_reducible assumption | omega | simp_all)⟩, ⟨⟨trivial, pLow (WShore.llo s) (WShore.lhi s)⟩, ⟨⟨trivial, pHigh (WStorm.tlo c) (WStorm.thi c)⟩, ⟨⟨trivial, pHigh (WStorm.flo c) (WStorm.fhi c)⟩, ⟨⟨trivial, pHigh (WStorm.wlo c) (WStorm.whi c)⟩, trivial⟩⟩⟩⟩⟩⟩) (ex := []) (by kernel_rfl) (lowX_nil _)
  exact (GoE.endsT okF hJ mixed_ok GoE.start (pworst_s1 B s c)
    ⟨rj0, trivial⟩).cast (by first | rfl | (rw [List.map_map]; rfl))
theorem pworst (s : WShore) (c : WStorm) (hn : s.cells.length ≤ 1000000) : PureC Try.prog J0 55 #[.agg (encStormy s c).toArray] (.agg (encTruth (endE true s c)).toArray) :=
  pureC_of (ts := [.agg (encStormy s c).toArray]) J0_st (c0 := entryC Try.prog 55 5 (([.agg (encStormy s c).toArray]).map (pushT 0 4))) (by kernel_rfl) (by kernel_rfl) fun B hJ => pworst_e s c hn hJ
noncomputable def pmildest_H0 (s : WShore) (c : WStorm) : Heap := [(2, Obj.cells #[Value.int IntKind.i64 0, Value.int IntKind.i64 0, Value.int IntKind.i64 0, Value.int IntKind.i64 0, Value.slice none 0 0] 38), (1, Obj.cells #[topV 0 (slT (List.length (WShore.cells s)) (rowL encWCell (WShore.cells s))), topV 0 (slT (List.length (WShore.works s)) (rowL encWWork (WShore.works s))), Value.int IntKind.i64 (WShore.reef s), Value.int IntKind.i64 (WShore.llo s), Value.int IntKind.i64 (WShore.lhi s), Value.int IntKind.i64 (WStorm.wlo c), Value.int IntKind.i64 (WStorm.whi c), Value.int IntKind.i64 (WStorm.flo c), Value.int IntKind.i64 (WStorm.fhi c), Value.int IntKind.i64 (WStorm.tlo c), Value.int IntKind.i64 (WStorm.thi c)] 92), (0, Obj.coro none)]
noncomputable def pmildest_c0 (s : WShore) (c : WStorm) : CF := ⟨76, ofList 32 [Value.agg #[topV 0 (slT (List.length (WShore.cells s)) (rowL encWCell (WShore.cells s))), topV 0 (slT (List.length (WShore.works s)) (rowL encWWork (WShore.works s))), Value.int IntKind.i64 (WShore.reef s), Value.int IntKind.i64 (WShore.llo s), Value.int IntKind.i64 (WShore.lhi s), Value.int IntKind.i64 (WStorm.wlo c), Value.int IntKind.i64 (WStorm.whi c), Value.int IntKind.i64 (WStorm.flo c), Value.int IntKind.i64 (WStorm.fhi c), Value.int IntKind.i64 (WStorm.tlo c), Value.int IntKind.i64 (WStorm.thi c)], Value.func (Fn.func 78) #[] #[], Value.func (Fn.func 77) #[] #[]], [Item.code (bodyOf Try.prog 76)], [], .run, none⟩
noncomputable def pmildest_z0 (s : WShore) : Value := (slT (List.length (List.map Span.hi (List.map spanOf (WShore.cells s)))) (rowL encI (List.map Span.hi (List.map spanOf (WShore.cells s)))))
set_option maxRecDepth 100000 in
theorem pmildest_s0 (B : Lo) (s : WShore) (c : WStorm) : CE.finK 3 (srunT Try.prog (okFn Try.prog) J0 B 6 3 (pmildest_c0 s c) (pmildest_H0 s c) 3
    [(6, HintT.pure (Value.int IntKind.i64 (WStorm.wlo c)) []), (11, HintT.pure (Value.int IntKind.i64 (WStorm.flo c)) []), (16, HintT.pure (Value.int IntKind.i64 (WStorm.tlo c)) []), (21, HintT.pure (Value.int IntKind.i64 (WShore.lhi s)) []), (23, HintT.pure (slT (List.length (List.map spanOf (WShore.cells s))) (rowL encSp (List.map spanOf (WShore.cells s)))) []), (25, HintT.pure (pmildest_z0 s) [])] 0 [] []) [] [] [] = some (OO.ret (Value.agg #[Value.int IntKind.i64 (WStorm.wlo c), Value.int IntKind.i64 (WStorm.flo c), Value.int IntKind.i64 (WStorm.tlo c), Value.int IntKind.i64 (WShore.lhi s), topV 3 (slT (List.length (List.map Span.hi (List.map spanOf (WShore.cells s)))) (rowL encI (List.map Span.hi (List.map spanOf (WShore.cells s)))))]), [], [],
    [AllP [] ∧ PureC Try.prog J0 99 #[slT (List.length (List.map spanOf (WShore.cells s))) (rowL encSp (List.map spanOf (WShore.cells s))), Value.func (Fn.func 77) #[] #[]] (pmildest_z0 s), AllP [] ∧ PureC Try.prog J0 82 #[Value.agg #[slT (List.length (WShore.cells s)) (rowL encWCell (WShore.cells s)), slT (List.length (WShore.works s)) (rowL encWWork (WShore.works s)), Value.int IntKind.i64 (WShore.reef s), Value.int IntKind.i64 (WShore.llo s), Value.int IntKind.i64 (WShore.lhi s), Value.int IntKind.i64 (WStorm.wlo c), Value.int IntKind.i64 (WStorm.whi c), Value.int IntKind.i64 (WStorm.flo c), Value.int IntKind.i64 (WStorm.fhi c), Value.int IntKind.i64 (WStorm.tlo c), Value.int IntKind.i64 (WStorm.thi c)]] (slT (List.length (List.map spanOf (WShore.cells s))) (rowL encSp (List.map spanOf (WShore.cells s)))), AllP [] ∧ PureC Try.prog J0 77 #[Value.agg #[Value.int IntKind.i64 (WShore.llo s), Value.int IntKind.i64 (WShore.lhi s)]] (Value.int IntKind.i64 (WShore.lhi s)), AllP [] ∧ PureC Try.prog J0 78 #[Value.agg #[Value.int IntKind.i64 (WStorm.tlo c), Value.int IntKind.i64 (WStorm.thi c)]] (Value.int IntKind.i64 (WStorm.tlo c)), AllP [] ∧ PureC Try.prog J0 78 #[Value.agg #[Value.int IntKind.i64 (WStorm.flo c), Value.int IntKind.i64 (WStorm.fhi c)]] (Value.int IntKind.i64 (WStorm.flo c)), AllP [] ∧ PureC Try.prog J0 78 #[Value.agg #[Value.int IntKind.i64 (WStorm.wlo c), Value.int IntKind.i64 (WStorm.whi c)]] (Value.int IntKind.i64 (WStorm.wlo c))]) := by kernel_rfl
set_option maxRecDepth 100000 in
theorem pmildest_s1 (B : Lo) (s : WShore) (c : WStorm) : endT (srunT Try.prog (okFn Try.prog) J0 B 6 1 (entryC Try.prog 96 5 (([.agg (encStormy s c).toArray]).map (pushT 0 4))) H00 1
    [(3, HintT.call (List.range 3) (OO.ret (Value.agg #[Value.int IntKind.i64 (WStorm.wlo c), Value.int IntKind.i64 (WStorm.flo c), Value.int IntKind.i64 (WStorm.tlo c), Value.int IntKind.i64 (WShore.lhi s), topV 3 (pmildest_z0 s)])) ([] ++ (3, regO) :: heapL 4 []) 4 [])] 0 [] []) [] = some (Value.agg #[Value.int IntKind.i64 (WStorm.wlo c), Value.int IntKind.i64 (WStorm.flo c), Value.int IntKind.i64 (WStorm.tlo c), Value.int IntKind.i64 (WShore.lhi s), slT (List.length (List.map Span.hi (List.map spanOf (WShore.cells s)))) (rowL encI (List.map Span.hi (List.map spanOf (WShore.cells s))))],
    [FJ Try.prog B (pmildest_c0 s c) (pmildest_H0 s c) 3 (OO.ret (Value.agg #[Value.int IntKind.i64 (WStorm.wlo c), Value.int IntKind.i64 (WStorm.flo c), Value.int IntKind.i64 (WStorm.tlo c), Value.int IntKind.i64 (WShore.lhi s), topV 3 (pmildest_z0 s)])) (([] ++ ((3, regO) :: heapL (3 + 1) [])) ++ pmildest_H0 s c) 4 (List.range 3) []]) := by kernel_rfl
set_option maxHeartbeats 4000000 in
theorem pmildest_e (s : WShore) (c : WStorm) (hn : s.cells.length ≤ 1000000) {B : Lo} (hJ : ∀ w, B.has w → J0 w) : EndsT Try.prog B (entryC Try.prog 96 5 (([.agg (encStormy s c).toArray]).map (pushT 0 4))) (.agg (encTruth (endE false s c)).toArray) := by
  have hm : (s.cells.map spanOf).length ≤ 1000000 := by rw [List.length_map]; exact hn
  have rj0 : FJ Try.prog B (pmildest_c0 s c) (pmildest_H0 s c) 3 (OO.ret (Value.agg #[Value.int IntKind.i64 (WStorm.wlo c), Value.int IntKind.i64 (WStorm.flo c), Value.int IntKind.i64 (WStorm.tlo c), Value.int IntKind.i64 (WShore.lhi s), topV 3 (slT (List.length (List.map Span.hi (List.map spanOf (WShore.cells s)))) (rowL encI (List.map Span.hi (List.map spanOf (WShore.cells s)))))])) (([] ++ ((3, regO) :: heapL (3 + 1) [])) ++ pmildest_H0 s c) 4 (List.range 3) [] := by
    exact FinK.fjB (GoE.finK okF hJ mixed_ok (under_all (by kernel_rfl)) (writable_of (by kernel_rfl)) ((GoE.refl (P := Try.prog) (B := B) (c0 := pmildest_c0 s c) (under_all (by kernel_rfl))).widen (Wf := ((([]) : List (Nat × KS)).map (·.1))) (by simp) (writable_of (by kernel_rfl))) (pmildest_s0 B s c)
      ⟨⟨trivial, pEachSH (List.map spanOf (WShore.cells s)) (by first | with_reducible assumption | omega | simp_all)⟩, ⟨⟨trivial, pdrags (s) (c) (by first | with_reducible assumption | omega | simp_all)⟩, ⟨⟨trivial, pHigh (WShore.llo s) (WShore.lhi s)⟩, ⟨⟨trivial, pLow (WStorm.tlo c) (WStorm.thi c)⟩, ⟨⟨trivial, pLow (WStorm.flo c) (WStorm.fhi c)⟩, ⟨⟨trivial, pLow (WStorm.wlo c) (WStorm.whi c)⟩, trivial⟩⟩⟩⟩⟩⟩) (ex := []) (by kernel_rfl) (lowX_nil _)
  exact (GoE.endsT okF hJ mixed_ok GoE.start (pmildest_s1 B s c)
    ⟨rj0, trivial⟩).cast (by first | rfl | (rw [List.map_map]; rfl))
theorem pmildest (s : WShore) (c : WStorm) (hn : s.cells.length ≤ 1000000) : PureC Try.prog J0 96 #[.agg (encStormy s c).toArray] (.agg (encTruth (endE false s c)).toArray) :=
  pureC_of (ts := [.agg (encStormy s c).toArray]) J0_st (c0 := entryC Try.prog 96 5 (([.agg (encStormy s c).toArray]).map (pushT 0 4))) (by kernel_rfl) (by kernel_rfl) fun B hJ => pmildest_e s c hn hJ
noncomputable def pCheck_z0 (s : WShore) (c : WStorm) : Array Value := #[Value.agg #[slT (List.length (WShore.cells s)) (rowL encWCell (WShore.cells s)), slT (List.length (WShore.works s)) (rowL encWWork (WShore.works s)), Value.int IntKind.i64 (WShore.reef s), Value.int IntKind.i64 (WShore.llo s), Value.int IntKind.i64 (WShore.lhi s), Value.int IntKind.i64 (WStorm.wlo c), Value.int IntKind.i64 (WStorm.whi c), Value.int IntKind.i64 (WStorm.flo c), Value.int IntKind.i64 (WStorm.fhi c), Value.int IntKind.i64 (WStorm.tlo c), Value.int IntKind.i64 (WStorm.thi c)]]
noncomputable def pCheck_p0 (B : Lo) (s : WShore) (c : WStorm) : List Prop := [AllP [] ∧ PureC Try.prog J0 53 #[Value.agg #[slT (List.length (WShore.cells s)) (rowL encWCell (WShore.cells s)), slT (List.length (WShore.works s)) (rowL encWWork (WShore.works s)), Value.int IntKind.i64 (WShore.reef s), Value.int IntKind.i64 (WShore.llo s), Value.int IntKind.i64 (WShore.lhi s)], Value.agg #[Value.int IntKind.i64 (WStorm.wlo c), Value.int IntKind.i64 (WStorm.whi c), Value.int IntKind.i64 (WStorm.flo c), Value.int IntKind.i64 (WStorm.fhi c), Value.int IntKind.i64 (WStorm.tlo c), Value.int IntKind.i64 (WStorm.thi c)]] (Value.agg #[slT (List.length (WShore.cells s)) (rowL encWCell (WShore.cells s)), slT (List.length (WShore.works s)) (rowL encWWork (WShore.works s)), Value.int IntKind.i64 (WShore.reef s), Value.int IntKind.i64 (WShore.llo s), Value.int IntKind.i64 (WShore.lhi s), Value.int IntKind.i64 (WStorm.wlo c), Value.int IntKind.i64 (WStorm.whi c), Value.int IntKind.i64 (WStorm.flo c), Value.int IntKind.i64 (WStorm.fhi c), Value.int IntKind.i64 (WStorm.tlo c), Value.int IntKind.i64 (WStorm.thi c)])] ++ ([] : List Prop)
noncomputable def pCheck_q0 (s : WShore) (c : WStorm) : ScriptT := [(5, HintT.pure (Value.agg #[slT (List.length (WShore.cells s)) (rowL encWCell (WShore.cells s)), slT (List.length (WShore.works s)) (rowL encWWork (WShore.works s)), Value.int IntKind.i64 (WShore.reef s), Value.int IntKind.i64 (WShore.llo s), Value.int IntKind.i64 (WShore.lhi s), Value.int IntKind.i64 (WStorm.wlo c), Value.int IntKind.i64 (WStorm.whi c), Value.int IntKind.i64 (WStorm.flo c), Value.int IntKind.i64 (WStorm.fhi c), Value.int IntKind.i64 (WStorm.tlo c), Value.int IntKind.i64 (WStorm.thi c)]) [])]
set_option maxRecDepth 100000 in
theorem pCheck_s0 (B : Lo) (s : WShore) (c : WStorm) : endT (srunT Try.prog (okFn Try.prog) J0 B 11 1 (entryC Try.prog 16 10 (([.agg (encShore s).toArray, .agg (encStorm c).toArray]).map (pushT 0 4))) H00 1
    (pCheck_q0 s c ++ [(6, HintT.pure (Value.bool true) [])]) 0 [] []) [] = some (Value.int IntKind.i64 0,
    [AllP [] ∧ PureC Try.prog J0 52 (pCheck_z0 s c) (Value.bool true)] ++ pCheck_p0 B s c) := by kernel_rfl
set_option maxRecDepth 100000 in
theorem pCheck_s1 (B : Lo) (s : WShore) (c : WStorm) : endT (srunT Try.prog (okFn Try.prog) J0 B 10 1 (entryC Try.prog 16 10 (([.agg (encShore s).toArray, .agg (encStorm c).toArray]).map (pushT 0 4))) H00 1
    (pCheck_q0 s c ++ [(6, HintT.pure (Value.bool false) [])]) 0 [] []) [] = some (Value.int IntKind.i64 2,
    [AllP [] ∧ PureC Try.prog J0 52 (pCheck_z0 s c) (Value.bool false)] ++ pCheck_p0 B s c) := by kernel_rfl
set_option maxRecDepth 100000 in
theorem pCheck_s2 (B : Lo) (s : WShore) (c : WStorm) : endT (srunT Try.prog (okFn Try.prog) J0 B 10 1 (entryC Try.prog 16 10 (([.agg (encShore s).toArray, .agg (encStorm c).toArray]).map (pushT 0 4))) H00 1
    (pCheck_q0 s c ++ [(6, HintT.pure (Value.bool false) [])]) 0 [] []) [] = some (Value.int IntKind.i64 2,
    [AllP [] ∧ PureC Try.prog J0 52 (pCheck_z0 s c) (Value.bool false)] ++ pCheck_p0 B s c) := by kernel_rfl
set_option maxHeartbeats 4000000 in
theorem pCheck_e (s : WShore) (c : WStorm)  {B : Lo} (hJ : ∀ w, B.has w → J0 w) : EndsT Try.prog B (entryC Try.prog 16 10 (([.agg (encShore s).toArray, .agg (encStorm c).toArray]).map (pushT 0 4))) (.int .i64 (if shoreB s && stormB c then 0 else 2)) := by
  have hp0 : AllP (pCheck_p0 B s c) := by
    exact ⟨⟨trivial, pinStorm (s) (c)⟩, trivial⟩
  cases q0 : shoreB s with
  | true =>
    cases q1 : stormB c with
    | true =>
      exact (GoE.endsT okF hJ mixed_ok GoE.start (pCheck_s0 B s c)
        ⟨⟨trivial, (by have t_ := pisStormy (s) (c); rw [q0, q1] at t_; exact t_)⟩, hp0⟩).cast (by first | rfl | (simp [*]; done) | (simp_all []; done) | (simp_all []; omega))
    | false =>
      exact (GoE.endsT okF hJ mixed_ok GoE.start (pCheck_s1 B s c)
        ⟨⟨trivial, (by have t_ := pisStormy (s) (c); rw [q0, q1] at t_; exact t_)⟩, hp0⟩).cast (by first | rfl | (simp [*]; done) | (simp_all []; done) | (simp_all []; omega))
  | false =>
    exact (GoE.endsT okF hJ mixed_ok GoE.start (pCheck_s2 B s c)
      ⟨⟨trivial, (by have t_ := pisStormy (s) (c); rw [q0] at t_; exact t_)⟩, hp0⟩).cast (by first | rfl | (simp [*]; done) | (simp_all []; done) | (simp_all []; omega))
theorem pCheck (s : WShore) (c : WStorm)  : PureC Try.prog J0 16 #[.agg (encShore s).toArray, .agg (encStorm c).toArray] (.int .i64 (if shoreB s && stormB c then 0 else 2)) :=
  pureC_of (ts := [.agg (encShore s).toArray, .agg (encStorm c).toArray]) J0_st (c0 := entryC Try.prog 16 10 (([.agg (encShore s).toArray, .agg (encStorm c).toArray]).map (pushT 0 4))) (by kernel_rfl) (by kernel_rfl) fun B hJ => pCheck_e s c  hJ
noncomputable def pWorst_z0 (s : WShore) (c : WStorm) : Array Value := #[Value.agg #[slT (List.length (WShore.cells s)) (rowL encWCell (WShore.cells s)), slT (List.length (WShore.works s)) (rowL encWWork (WShore.works s)), Value.int IntKind.i64 (WShore.reef s), Value.int IntKind.i64 (WShore.llo s), Value.int IntKind.i64 (WShore.lhi s), Value.int IntKind.i64 (WStorm.wlo c), Value.int IntKind.i64 (WStorm.whi c), Value.int IntKind.i64 (WStorm.flo c), Value.int IntKind.i64 (WStorm.fhi c), Value.int IntKind.i64 (WStorm.tlo c), Value.int IntKind.i64 (WStorm.thi c)]]
noncomputable def pWorst_p0 (B : Lo) (s : WShore) (c : WStorm) : List Prop := [AllP [] ∧ PureC Try.prog J0 53 #[Value.agg #[slT (List.length (WShore.cells s)) (rowL encWCell (WShore.cells s)), slT (List.length (WShore.works s)) (rowL encWWork (WShore.works s)), Value.int IntKind.i64 (WShore.reef s), Value.int IntKind.i64 (WShore.llo s), Value.int IntKind.i64 (WShore.lhi s)], Value.agg #[Value.int IntKind.i64 (WStorm.wlo c), Value.int IntKind.i64 (WStorm.whi c), Value.int IntKind.i64 (WStorm.flo c), Value.int IntKind.i64 (WStorm.fhi c), Value.int IntKind.i64 (WStorm.tlo c), Value.int IntKind.i64 (WStorm.thi c)]] (Value.agg #[slT (List.length (WShore.cells s)) (rowL encWCell (WShore.cells s)), slT (List.length (WShore.works s)) (rowL encWWork (WShore.works s)), Value.int IntKind.i64 (WShore.reef s), Value.int IntKind.i64 (WShore.llo s), Value.int IntKind.i64 (WShore.lhi s), Value.int IntKind.i64 (WStorm.wlo c), Value.int IntKind.i64 (WStorm.whi c), Value.int IntKind.i64 (WStorm.flo c), Value.int IntKind.i64 (WStorm.fhi c), Value.int IntKind.i64 (WStorm.tlo c), Value.int IntKind.i64 (WStorm.thi c)])] ++ ([] : List Prop)
noncomputable def pWorst_q0 (s : WShore) (c : WStorm) : ScriptT := [(6, HintT.pure (Value.agg #[slT (List.length (WShore.cells s)) (rowL encWCell (WShore.cells s)), slT (List.length (WShore.works s)) (rowL encWWork (WShore.works s)), Value.int IntKind.i64 (WShore.reef s), Value.int IntKind.i64 (WShore.llo s), Value.int IntKind.i64 (WShore.lhi s), Value.int IntKind.i64 (WStorm.wlo c), Value.int IntKind.i64 (WStorm.whi c), Value.int IntKind.i64 (WStorm.flo c), Value.int IntKind.i64 (WStorm.fhi c), Value.int IntKind.i64 (WStorm.tlo c), Value.int IntKind.i64 (WStorm.thi c)]) [])]
set_option maxRecDepth 100000 in
theorem pWorst_s0 (B : Lo) (s : WShore) (c : WStorm) : endT (srunT Try.prog (okFn Try.prog) J0 B 13 1 (entryC Try.prog 18 16 (([.agg (encShore s).toArray, .agg (encStorm c).toArray]).map (pushT 0 4))) H00 1
    (pWorst_q0 s c ++ [(10, HintT.pure (Value.bool true) []), (13, HintT.pure (Value.agg #[Value.int IntKind.i64 (WTruth.wind (endE true s c)), Value.int IntKind.i64 (WTruth.fetch (endE true s c)), Value.int IntKind.i64 (WTruth.tide (endE true s c)), Value.int IntKind.i64 (WTruth.loss (endE true s c)), slT (List.length (WTruth.drags (endE true s c))) (rowL encI (WTruth.drags (endE true s c)))]) [])]) 0 [] []) [] = some (Value.tuple #[Value.agg #[Value.int IntKind.i64 (WTruth.wind (endE true s c)), Value.int IntKind.i64 (WTruth.fetch (endE true s c)), Value.int IntKind.i64 (WTruth.tide (endE true s c)), Value.int IntKind.i64 (WTruth.loss (endE true s c)), slT (List.length (WTruth.drags (endE true s c))) (rowL encI (WTruth.drags (endE true s c)))], Value.int IntKind.i64 0],
    [AllP [] ∧ PureC Try.prog J0 55 (pWorst_z0 s c) (Value.agg #[Value.int IntKind.i64 (WTruth.wind (endE true s c)), Value.int IntKind.i64 (WTruth.fetch (endE true s c)), Value.int IntKind.i64 (WTruth.tide (endE true s c)), Value.int IntKind.i64 (WTruth.loss (endE true s c)), slT (List.length (WTruth.drags (endE true s c))) (rowL encI (WTruth.drags (endE true s c)))]), AllP [] ∧ PureC Try.prog J0 52 (pWorst_z0 s c) (Value.bool true)] ++ pWorst_p0 B s c) := by kernel_rfl
set_option maxRecDepth 100000 in
theorem pWorst_s1 (B : Lo) (s : WShore) (c : WStorm) : endT (srunT Try.prog (okFn Try.prog) J0 B 12 1 (entryC Try.prog 18 16 (([.agg (encShore s).toArray, .agg (encStorm c).toArray]).map (pushT 0 4))) H00 1
    (pWorst_q0 s c ++ [(10, HintT.pure (Value.bool false) [])]) 0 [] []) [] = some (Value.tuple #[Value.agg #[Value.int IntKind.i64 0, Value.int IntKind.i64 0, Value.int IntKind.i64 0, Value.int IntKind.i64 0, slT 0 #[]], Value.int IntKind.i64 2],
    [AllP [] ∧ PureC Try.prog J0 52 (pWorst_z0 s c) (Value.bool false)] ++ pWorst_p0 B s c) := by kernel_rfl
set_option maxRecDepth 100000 in
theorem pWorst_s2 (B : Lo) (s : WShore) (c : WStorm) : endT (srunT Try.prog (okFn Try.prog) J0 B 12 1 (entryC Try.prog 18 16 (([.agg (encShore s).toArray, .agg (encStorm c).toArray]).map (pushT 0 4))) H00 1
    (pWorst_q0 s c ++ [(10, HintT.pure (Value.bool false) [])]) 0 [] []) [] = some (Value.tuple #[Value.agg #[Value.int IntKind.i64 0, Value.int IntKind.i64 0, Value.int IntKind.i64 0, Value.int IntKind.i64 0, slT 0 #[]], Value.int IntKind.i64 2],
    [AllP [] ∧ PureC Try.prog J0 52 (pWorst_z0 s c) (Value.bool false)] ++ pWorst_p0 B s c) := by kernel_rfl
set_option maxHeartbeats 4000000 in
theorem pWorst_e (s : WShore) (c : WStorm)  {B : Lo} (hJ : ∀ w, B.has w → J0 w) : EndsT Try.prog B (entryC Try.prog 18 16 (([.agg (encShore s).toArray, .agg (encStorm c).toArray]).map (pushT 0 4))) (.tuple #[if shoreB s && stormB c then .agg (encTruth (endE true s c)).toArray else .agg (encTruth ⟨0, 0, 0, 0, []⟩).toArray, .int .i64 (if shoreB s && stormB c then 0 else 2)]) := by
  have hp0 : AllP (pWorst_p0 B s c) := by
    exact ⟨⟨trivial, pinStorm (s) (c)⟩, trivial⟩
  cases q0 : shoreB s with
  | true =>
    cases q1 : stormB c with
    | true =>
      try have h1 := shore_facts ‹shoreB s = true›
      exact (GoE.endsT okF hJ mixed_ok GoE.start (pWorst_s0 B s c)
        ⟨⟨trivial, pworst (s) (c) (by first | with_reducible assumption | omega | simp_all)⟩, ⟨⟨trivial, (by have t_ := pisStormy (s) (c); rw [q0, q1] at t_; exact t_)⟩, hp0⟩⟩).cast (by first | rfl | (simp [*]; done) | (simp_all []; done) | (simp_all []; omega))
    | false =>
      try have h1 := shore_facts ‹shoreB s = true›
      exact (GoE.endsT okF hJ mixed_ok GoE.start (pWorst_s1 B s c)
        ⟨⟨trivial, (by have t_ := pisStormy (s) (c); rw [q0, q1] at t_; exact t_)⟩, hp0⟩).cast (by first | rfl | (simp [*]; done) | (simp_all []; done) | (simp_all []; omega))
  | false =>
    try have h1 := shore_facts ‹shoreB s = true›
    exact (GoE.endsT okF hJ mixed_ok GoE.start (pWorst_s2 B s c)
      ⟨⟨trivial, (by have t_ := pisStormy (s) (c); rw [q0] at t_; exact t_)⟩, hp0⟩).cast (by first | rfl | (simp [*]; done) | (simp_all []; done) | (simp_all []; omega))
theorem pWorst (s : WShore) (c : WStorm)  : PureC Try.prog J0 18 #[.agg (encShore s).toArray, .agg (encStorm c).toArray] (.tuple #[if shoreB s && stormB c then .agg (encTruth (endE true s c)).toArray else .agg (encTruth ⟨0, 0, 0, 0, []⟩).toArray, .int .i64 (if shoreB s && stormB c then 0 else 2)]) :=
  pureC_of (ts := [.agg (encShore s).toArray, .agg (encStorm c).toArray]) J0_st (c0 := entryC Try.prog 18 16 (([.agg (encShore s).toArray, .agg (encStorm c).toArray]).map (pushT 0 4))) (by kernel_rfl) (by kernel_rfl) fun B hJ => pWorst_e s c  hJ
noncomputable def plevels_H0 (s : WShore) (c : WStorm) : Heap := [(3, Obj.cells #[Value.int IntKind.i64 9223372036854775807, Value.int IntKind.i64 (-9223372036854775808)] 25), (2, Obj.cells #[Value.int IntKind.i64 0, Value.int IntKind.i64 0] 25), (1, Obj.cells #[topV 0 (slT (List.length (WShore.cells s)) (rowL encWCell (WShore.cells s))), topV 0 (slT (List.length (WShore.works s)) (rowL encWWork (WShore.works s))), Value.int IntKind.i64 (WShore.reef s), Value.int IntKind.i64 (WShore.llo s), Value.int IntKind.i64 (WShore.lhi s), Value.int IntKind.i64 (WStorm.wlo c), Value.int IntKind.i64 (WStorm.whi c), Value.int IntKind.i64 (WStorm.flo c), Value.int IntKind.i64 (WStorm.fhi c), Value.int IntKind.i64 (WStorm.tlo c), Value.int IntKind.i64 (WStorm.thi c)] 92), (0, Obj.coro none)]
noncomputable def plevels_c0 (s : WShore) (c : WStorm) : CF := ⟨73, ofList 8 [Value.agg #[topV 0 (slT (List.length (WShore.cells s)) (rowL encWCell (WShore.cells s))), topV 0 (slT (List.length (WShore.works s)) (rowL encWWork (WShore.works s))), Value.int IntKind.i64 (WShore.reef s), Value.int IntKind.i64 (WShore.llo s), Value.int IntKind.i64 (WShore.lhi s), Value.int IntKind.i64 (WStorm.wlo c), Value.int IntKind.i64 (WStorm.whi c), Value.int IntKind.i64 (WStorm.flo c), Value.int IntKind.i64 (WStorm.fhi c), Value.int IntKind.i64 (WStorm.tlo c), Value.int IntKind.i64 (WStorm.thi c)]], [Item.code (bodyOf Try.prog 73)], [], .run, none⟩
noncomputable def plevels_z0 (s : WShore) (c : WStorm) : Array Value := #[Value.agg #[topV 0 (slT (List.length (WShore.cells s)) (rowL encWCell (WShore.cells s))), topV 0 (slT (List.length (WShore.works s)) (rowL encWWork (WShore.works s))), Value.int IntKind.i64 (WShore.reef s), Value.int IntKind.i64 (WShore.llo s), Value.int IntKind.i64 (WShore.lhi s), Value.int IntKind.i64 (WStorm.wlo c), Value.int IntKind.i64 (WStorm.whi c), Value.int IntKind.i64 (WStorm.flo c), Value.int IntKind.i64 (WStorm.fhi c), Value.int IntKind.i64 (WStorm.tlo c), Value.int IntKind.i64 (WStorm.thi c)]]
noncomputable def plevels_z1 (s : WShore) (c : WStorm) : Array Value := #[slT (List.length (WShore.cells s)) (rowL encWCell (WShore.cells s)), slT (List.length (WShore.works s)) (rowL encWWork (WShore.works s)), Value.int IntKind.i64 (WShore.reef s), Value.int IntKind.i64 (WShore.llo s), Value.int IntKind.i64 (WShore.lhi s), Value.int IntKind.i64 (WStorm.wlo c), Value.int IntKind.i64 (WStorm.whi c), Value.int IntKind.i64 (WStorm.flo c), Value.int IntKind.i64 (WStorm.fhi c), Value.int IntKind.i64 (WStorm.tlo c), Value.int IntKind.i64 (WStorm.thi c)]
noncomputable def plevels_z2 (s : WShore) (c : WStorm) : Array Value := #[Value.int IntKind.i64 (WTruth.wind (endE false s c)), Value.int IntKind.i64 (WTruth.fetch (endE false s c)), Value.int IntKind.i64 (WTruth.tide (endE false s c)), Value.int IntKind.i64 (WTruth.loss (endE false s c)), slT (List.length (WTruth.drags (endE false s c))) (rowL encI (WTruth.drags (endE false s c)))]
noncomputable def plevels_z3 (s : WShore) (c : WStorm) : Array Value := #[Value.int IntKind.i64 (WTruth.wind (endE true s c)), Value.int IntKind.i64 (WTruth.fetch (endE true s c)), Value.int IntKind.i64 (WTruth.tide (endE true s c)), Value.int IntKind.i64 (WTruth.loss (endE true s c)), slT (List.length (WTruth.drags (endE true s c))) (rowL encI (WTruth.drags (endE true s c)))]
noncomputable def plevels_z4 (s : WShore) (c : WStorm) : Array Value := #[Value.int IntKind.i64 (min 9223372036854775807 (levelF s (endE false s c))), Value.int IntKind.i64 (max (-9223372036854775808) (levelF s (endE false s c)))]
noncomputable def plevels_z5  : Array Value := #[Value.int IntKind.i64 9223372036854775807, Value.int IntKind.i64 (-9223372036854775808)]
set_option maxRecDepth 100000 in
theorem plevels_s0 (B : Lo) (s : WShore) (c : WStorm) : CE.finK 4 (srunT Try.prog (okFn Try.prog) J0 B 6 4 (plevels_c0 s c) (plevels_H0 s c) 4
    [] 0 [] []) [] [] [] = some (OO.ret (Value.agg #[Value.func (Fn.func 96) #[Value.agg #[topV 0 (slT (List.length (WShore.cells s)) (rowL encWCell (WShore.cells s))), topV 0 (slT (List.length (WShore.works s)) (rowL encWWork (WShore.works s))), Value.int IntKind.i64 (WShore.reef s), Value.int IntKind.i64 (WShore.llo s), Value.int IntKind.i64 (WShore.lhi s), Value.int IntKind.i64 (WStorm.wlo c), Value.int IntKind.i64 (WStorm.whi c), Value.int IntKind.i64 (WStorm.flo c), Value.int IntKind.i64 (WStorm.fhi c), Value.int IntKind.i64 (WStorm.tlo c), Value.int IntKind.i64 (WStorm.thi c)]] #[], Value.func (Fn.func 55) #[Value.agg #[topV 0 (slT (List.length (WShore.cells s)) (rowL encWCell (WShore.cells s))), topV 0 (slT (List.length (WShore.works s)) (rowL encWWork (WShore.works s))), Value.int IntKind.i64 (WShore.reef s), Value.int IntKind.i64 (WShore.llo s), Value.int IntKind.i64 (WShore.lhi s), Value.int IntKind.i64 (WStorm.wlo c), Value.int IntKind.i64 (WStorm.whi c), Value.int IntKind.i64 (WStorm.flo c), Value.int IntKind.i64 (WStorm.fhi c), Value.int IntKind.i64 (WStorm.tlo c), Value.int IntKind.i64 (WStorm.thi c)]] #[]]), [], [],
    []) := by kernel_rfl
set_option maxRecDepth 100000 in
theorem plevels_s1 (B : Lo) (s : WShore) (c : WStorm) : endT (srunT Try.prog (okFn Try.prog) J0 B 44 1 (entryC Try.prog 54 20 (([.agg (encStormy s c).toArray]).map (pushT 0 4))) H00 1
    [(2, HintT.pure (Value.agg plevels_z5) []), (6, HintT.call (List.range 4) (OO.ret (Value.agg #[Value.func (Fn.func 96) (plevels_z0 s c) #[], Value.func (Fn.func 55) (plevels_z0 s c) #[]])) ([] ++ (4, regO) :: heapL 5 []) 5 []), (14, HintT.pure (Value.agg (plevels_z2 s c)) []), (15, HintT.pure (Value.int IntKind.i64 (levelF s (endE false s c))) []), (16, HintT.pure (Value.agg (plevels_z4 s c)) []), (26, HintT.pure (Value.agg (plevels_z3 s c)) []), (27, HintT.pure (Value.int IntKind.i64 (levelF s (endE true s c))) []), (28, HintT.pure (Value.agg #[Value.int IntKind.i64 (min (min 9223372036854775807 (levelF s (endE false s c))) (levelF s (endE true s c))), Value.int IntKind.i64 (max (max (-9223372036854775808) (levelF s (endE false s c))) (levelF s (endE true s c)))]) [])] 0 [] []) [] = some (Value.agg #[Value.int IntKind.i64 (min (min 9223372036854775807 (levelF s (endE false s c))) (levelF s (endE true s c))), Value.int IntKind.i64 (max (max (-9223372036854775808) (levelF s (endE false s c))) (levelF s (endE true s c)))],
    [AllP [] ∧ PureC Try.prog J0 74 #[Value.agg (plevels_z4 s c), Value.int IntKind.i64 (levelF s (endE true s c))] (Value.agg #[Value.int IntKind.i64 (min (min 9223372036854775807 (levelF s (endE false s c))) (levelF s (endE true s c))), Value.int IntKind.i64 (max (max (-9223372036854775808) (levelF s (endE false s c))) (levelF s (endE true s c)))]), AllP [] ∧ PureC Try.prog J0 75 #[Value.agg (plevels_z1 s c), Value.agg (plevels_z3 s c)] (Value.int IntKind.i64 (levelF s (endE true s c))), AllP [] ∧ PureC Try.prog J0 55 #[Value.agg (plevels_z1 s c)] (Value.agg (plevels_z3 s c)), AllP [] ∧ PureC Try.prog J0 74 #[Value.agg plevels_z5, Value.int IntKind.i64 (levelF s (endE false s c))] (Value.agg (plevels_z4 s c)), AllP [] ∧ PureC Try.prog J0 75 #[Value.agg (plevels_z1 s c), Value.agg (plevels_z2 s c)] (Value.int IntKind.i64 (levelF s (endE false s c))), AllP [] ∧ PureC Try.prog J0 96 #[Value.agg (plevels_z1 s c)] (Value.agg (plevels_z2 s c)), FJ Try.prog B (plevels_c0 s c) (plevels_H0 s c) 4 (OO.ret (Value.agg #[Value.func (Fn.func 96) (plevels_z0 s c) #[], Value.func (Fn.func 55) (plevels_z0 s c) #[]])) (([] ++ ((4, regO) :: heapL (4 + 1) [])) ++ plevels_H0 s c) 5 (List.range 4) [], AllP [] ∧ PureC Try.prog J0 72 #[] (Value.agg plevels_z5)]) := by kernel_rfl
set_option maxHeartbeats 4000000 in
theorem plevels_e (s : WShore) (c : WStorm) (hs : shoreB s = true) (hc : stormB c = true) {B : Lo} (hJ : ∀ w, B.has w → J0 w) : EndsT Try.prog B (entryC Try.prog 54 20 (([.agg (encStormy s c).toArray]).map (pushT 0 4))) (.agg #[.int .i64 (min (levelF s (endE false s c)) (levelF s (endE true s c))), .int .i64 (max (levelF s (endE false s c)) (levelF s (endE true s c)))]) := by
  have hsf := shore_facts hs
  have hb1 := tOk_end (b := false) hs hc
  have hb2 := tOk_end (b := true) hs hc
  have hl1 := level_in hb1
  have hl2 := level_in hb2
  have rj0 : FJ Try.prog B (plevels_c0 s c) (plevels_H0 s c) 4 (OO.ret (Value.agg #[Value.func (Fn.func 96) #[Value.agg #[topV 0 (slT (List.length (WShore.cells s)) (rowL encWCell (WShore.cells s))), topV 0 (slT (List.length (WShore.works s)) (rowL encWWork (WShore.works s))), Value.int IntKind.i64 (WShore.reef s), Value.int IntKind.i64 (WShore.llo s), Value.int IntKind.i64 (WShore.lhi s), Value.int IntKind.i64 (WStorm.wlo c), Value.int IntKind.i64 (WStorm.whi c), Value.int IntKind.i64 (WStorm.flo c), Value.int IntKind.i64 (WStorm.fhi c), Value.int IntKind.i64 (WStorm.tlo c), Value.int IntKind.i64 (WStorm.thi c)]] #[], Value.func (Fn.func 55) #[Value.agg #[topV 0 (slT (List.length (WShore.cells s)) (rowL encWCell (WShore.cells s))), topV 0 (slT (List.length (WShore.works s)) (rowL encWWork (WShore.works s))), Value.int IntKind.i64 (WShore.reef s), Value.int IntKind.i64 (WShore.llo s), Value.int IntKind.i64 (WShore.lhi s), Value.int IntKind.i64 (WStorm.wlo c), Value.int IntKind.i64 (WStorm.whi c), Value.int IntKind.i64 (WStorm.flo c), Value.int IntKind.i64 (WStorm.fhi c), Value.int IntKind.i64 (WStorm.tlo c), Value.int IntKind.i64 (WStorm.thi c)]] #[]])) (([] ++ ((4, regO) :: heapL (4 + 1) [])) ++ plevels_H0 s c) 5 (List.range 4) [] := by
    exact FinK.fjB (GoE.finK okF hJ mixed_ok (under_all (by kernel_rfl)) (writable_of (by kernel_rfl)) ((GoE.refl (P := Try.prog) (B := B) (c0 := plevels_c0 s c) (under_all (by kernel_rfl))).widen (Wf := ((([]) : List (Nat × KS)).map (·.1))) (by simp) (writable_of (by kernel_rfl))) (plevels_s0 B s c)
      trivial) (ex := []) (by kernel_rfl) (lowX_nil _)
  exact (GoE.endsT okF hJ mixed_ok GoE.start (plevels_s1 B s c)
    ⟨⟨trivial, pWith (min 9223372036854775807 (levelF s (endE false s c))) (max (-9223372036854775808) (levelF s (endE false s c))) (levelF s (endE true s c))⟩, ⟨⟨trivial, plevel (s) (c) (endE true s c) (by first | with_reducible assumption | omega | simp_all) (by first | with_reducible assumption | omega | simp_all)⟩, ⟨⟨trivial, pworst (s) (c) (by first | with_reducible assumption | omega | simp_all)⟩, ⟨⟨trivial, pWith (9223372036854775807) (-9223372036854775808) (levelF s (endE false s c))⟩, ⟨⟨trivial, plevel (s) (c) (endE false s c) (by first | with_reducible assumption | omega | simp_all) (by first | with_reducible assumption | omega | simp_all)⟩, ⟨⟨trivial, pmildest (s) (c) (by first | with_reducible assumption | omega | simp_all)⟩, ⟨rj0, ⟨⟨trivial, pNone⟩, trivial⟩⟩⟩⟩⟩⟩⟩⟩).cast (by first | rfl | (congr 3 <;> omega) | (simp; omega))
theorem plevels (s : WShore) (c : WStorm) (hs : shoreB s = true) (hc : stormB c = true) : PureC Try.prog J0 54 #[.agg (encStormy s c).toArray] (.agg #[.int .i64 (min (levelF s (endE false s c)) (levelF s (endE true s c))), .int .i64 (max (levelF s (endE false s c)) (levelF s (endE true s c)))]) :=
  pureC_of (ts := [.agg (encStormy s c).toArray]) J0_st (c0 := entryC Try.prog 54 20 (([.agg (encStormy s c).toArray]).map (pushT 0 4))) (by kernel_rfl) (by kernel_rfl) fun B hJ => plevels_e s c hs hc hJ
noncomputable def pLevel_z0 (s : WShore) (c : WStorm) : Array Value := #[Value.agg #[slT (List.length (WShore.cells s)) (rowL encWCell (WShore.cells s)), slT (List.length (WShore.works s)) (rowL encWWork (WShore.works s)), Value.int IntKind.i64 (WShore.reef s), Value.int IntKind.i64 (WShore.llo s), Value.int IntKind.i64 (WShore.lhi s), Value.int IntKind.i64 (WStorm.wlo c), Value.int IntKind.i64 (WStorm.whi c), Value.int IntKind.i64 (WStorm.flo c), Value.int IntKind.i64 (WStorm.fhi c), Value.int IntKind.i64 (WStorm.tlo c), Value.int IntKind.i64 (WStorm.thi c)]]
noncomputable def pLevel_p0 (B : Lo) (s : WShore) (c : WStorm) : List Prop := [AllP [] ∧ PureC Try.prog J0 53 #[Value.agg #[slT (List.length (WShore.cells s)) (rowL encWCell (WShore.cells s)), slT (List.length (WShore.works s)) (rowL encWWork (WShore.works s)), Value.int IntKind.i64 (WShore.reef s), Value.int IntKind.i64 (WShore.llo s), Value.int IntKind.i64 (WShore.lhi s)], Value.agg #[Value.int IntKind.i64 (WStorm.wlo c), Value.int IntKind.i64 (WStorm.whi c), Value.int IntKind.i64 (WStorm.flo c), Value.int IntKind.i64 (WStorm.fhi c), Value.int IntKind.i64 (WStorm.tlo c), Value.int IntKind.i64 (WStorm.thi c)]] (Value.agg #[slT (List.length (WShore.cells s)) (rowL encWCell (WShore.cells s)), slT (List.length (WShore.works s)) (rowL encWWork (WShore.works s)), Value.int IntKind.i64 (WShore.reef s), Value.int IntKind.i64 (WShore.llo s), Value.int IntKind.i64 (WShore.lhi s), Value.int IntKind.i64 (WStorm.wlo c), Value.int IntKind.i64 (WStorm.whi c), Value.int IntKind.i64 (WStorm.flo c), Value.int IntKind.i64 (WStorm.fhi c), Value.int IntKind.i64 (WStorm.tlo c), Value.int IntKind.i64 (WStorm.thi c)])] ++ ([] : List Prop)
noncomputable def pLevel_q0 (s : WShore) (c : WStorm) : ScriptT := [(6, HintT.pure (Value.agg #[slT (List.length (WShore.cells s)) (rowL encWCell (WShore.cells s)), slT (List.length (WShore.works s)) (rowL encWWork (WShore.works s)), Value.int IntKind.i64 (WShore.reef s), Value.int IntKind.i64 (WShore.llo s), Value.int IntKind.i64 (WShore.lhi s), Value.int IntKind.i64 (WStorm.wlo c), Value.int IntKind.i64 (WStorm.whi c), Value.int IntKind.i64 (WStorm.flo c), Value.int IntKind.i64 (WStorm.fhi c), Value.int IntKind.i64 (WStorm.tlo c), Value.int IntKind.i64 (WStorm.thi c)]) [])]
set_option maxRecDepth 100000 in
theorem pLevel_s0 (B : Lo) (s : WShore) (c : WStorm) : endT (srunT Try.prog (okFn Try.prog) J0 B 13 1 (entryC Try.prog 17 16 (([.agg (encShore s).toArray, .agg (encStorm c).toArray]).map (pushT 0 4))) H00 1
    (pLevel_q0 s c ++ [(10, HintT.pure (Value.bool true) []), (13, HintT.pure (Value.agg #[Value.int IntKind.i64 (min (levelF s (endE false s c)) (levelF s (endE true s c))), Value.int IntKind.i64 (max (levelF s (endE false s c)) (levelF s (endE true s c)))]) [])]) 0 [] []) [] = some (Value.tuple #[Value.agg #[Value.int IntKind.i64 (min (levelF s (endE false s c)) (levelF s (endE true s c))), Value.int IntKind.i64 (max (levelF s (endE false s c)) (levelF s (endE true s c)))], Value.int IntKind.i64 0],
    [AllP [] ∧ PureC Try.prog J0 54 (pLevel_z0 s c) (Value.agg #[Value.int IntKind.i64 (min (levelF s (endE false s c)) (levelF s (endE true s c))), Value.int IntKind.i64 (max (levelF s (endE false s c)) (levelF s (endE true s c)))]), AllP [] ∧ PureC Try.prog J0 52 (pLevel_z0 s c) (Value.bool true)] ++ pLevel_p0 B s c) := by kernel_rfl
set_option maxRecDepth 100000 in
theorem pLevel_s1 (B : Lo) (s : WShore) (c : WStorm) : endT (srunT Try.prog (okFn Try.prog) J0 B 12 1 (entryC Try.prog 17 16 (([.agg (encShore s).toArray, .agg (encStorm c).toArray]).map (pushT 0 4))) H00 1
    (pLevel_q0 s c ++ [(10, HintT.pure (Value.bool false) [])]) 0 [] []) [] = some (Value.tuple #[Value.agg #[Value.int IntKind.i64 0, Value.int IntKind.i64 0], Value.int IntKind.i64 2],
    [AllP [] ∧ PureC Try.prog J0 52 (pLevel_z0 s c) (Value.bool false)] ++ pLevel_p0 B s c) := by kernel_rfl
set_option maxRecDepth 100000 in
theorem pLevel_s2 (B : Lo) (s : WShore) (c : WStorm) : endT (srunT Try.prog (okFn Try.prog) J0 B 12 1 (entryC Try.prog 17 16 (([.agg (encShore s).toArray, .agg (encStorm c).toArray]).map (pushT 0 4))) H00 1
    (pLevel_q0 s c ++ [(10, HintT.pure (Value.bool false) [])]) 0 [] []) [] = some (Value.tuple #[Value.agg #[Value.int IntKind.i64 0, Value.int IntKind.i64 0], Value.int IntKind.i64 2],
    [AllP [] ∧ PureC Try.prog J0 52 (pLevel_z0 s c) (Value.bool false)] ++ pLevel_p0 B s c) := by kernel_rfl
set_option maxHeartbeats 4000000 in
theorem pLevel_e (s : WShore) (c : WStorm)  {B : Lo} (hJ : ∀ w, B.has w → J0 w) : EndsT Try.prog B (entryC Try.prog 17 16 (([.agg (encShore s).toArray, .agg (encStorm c).toArray]).map (pushT 0 4))) (.tuple #[if shoreB s && stormB c then .agg #[.int .i64 (min (levelF s (endE false s c)) (levelF s (endE true s c))), .int .i64 (max (levelF s (endE false s c)) (levelF s (endE true s c)))] else .agg #[.int .i64 0, .int .i64 0], .int .i64 (if shoreB s && stormB c then 0 else 2)]) := by
  have hp0 : AllP (pLevel_p0 B s c) := by
    exact ⟨⟨trivial, pinStorm (s) (c)⟩, trivial⟩
  cases q0 : shoreB s with
  | true =>
    cases q1 : stormB c with
    | true =>
      exact (GoE.endsT okF hJ mixed_ok GoE.start (pLevel_s0 B s c)
        ⟨⟨trivial, plevels (s) (c) (by first | with_reducible assumption | omega | simp_all) (by first | with_reducible assumption | omega | simp_all)⟩, ⟨⟨trivial, (by have t_ := pisStormy (s) (c); rw [q0, q1] at t_; exact t_)⟩, hp0⟩⟩).cast (by first | rfl | (simp [*]; done) | (simp_all []; done) | (simp_all []; omega))
    | false =>
      exact (GoE.endsT okF hJ mixed_ok GoE.start (pLevel_s1 B s c)
        ⟨⟨trivial, (by have t_ := pisStormy (s) (c); rw [q0, q1] at t_; exact t_)⟩, hp0⟩).cast (by first | rfl | (simp [*]; done) | (simp_all []; done) | (simp_all []; omega))
  | false =>
    exact (GoE.endsT okF hJ mixed_ok GoE.start (pLevel_s2 B s c)
      ⟨⟨trivial, (by have t_ := pisStormy (s) (c); rw [q0] at t_; exact t_)⟩, hp0⟩).cast (by first | rfl | (simp [*]; done) | (simp_all []; done) | (simp_all []; omega))
theorem pLevel (s : WShore) (c : WStorm)  : PureC Try.prog J0 17 #[.agg (encShore s).toArray, .agg (encStorm c).toArray] (.tuple #[if shoreB s && stormB c then .agg #[.int .i64 (min (levelF s (endE false s c)) (levelF s (endE true s c))), .int .i64 (max (levelF s (endE false s c)) (levelF s (endE true s c)))] else .agg #[.int .i64 0, .int .i64 0], .int .i64 (if shoreB s && stormB c then 0 else 2)]) :=
  pureC_of (ts := [.agg (encShore s).toArray, .agg (encStorm c).toArray]) J0_st (c0 := entryC Try.prog 17 16 (([.agg (encShore s).toArray, .agg (encStorm c).toArray]).map (pushT 0 4))) (by kernel_rfl) (by kernel_rfl) fun B hJ => pLevel_e s c  hJ
end Go.Proofs.Ytiigkdhaofaijaa

namespace Go.Proofs.Ytiigkdhaofaijaa
open Go Go.CE Go.RowKit
end Go.Proofs.Ytiigkdhaofaijaa

namespace Go.Proofs.Ytiigkdhaofaijaa
open Go Go.CE Go.RowKit
theorem wave_mono {w w' l l' : Int} (hw : 0 ≤ w ∧ w ≤ w' ∧ w' ≤ 10000) (hl : 0 ≤ l' ∧ l' ≤ l ∧ l ≤ 1000) : w - (w * l).tdiv 1000 ≤ w' - (w' * l').tdiv 1000 := by
  have q1 := wave_q (w := w) (l := l) (by omega) (by omega)
  have q2 := wave_q (w := w') (l := l') (by omega) (by omega)
  have q3 := wave_q (w := w') (l := l) (by omega) (by omega)
  have m1 : w' * l' ≤ w' * l := Int.mul_le_mul_of_nonneg_left hl.2.1 (by omega)
  have m2 : (w' - w) * l ≤ (w' - w) * 1000 := Int.mul_le_mul_of_nonneg_left hl.2.2 (by omega)
  have m3 : (w' - w) * l = w' * l - w * l := Int.sub_mul _ _ _
  omega
theorem waveN_mono {l l' : Int} (hl : 0 ≤ l' ∧ l' ≤ l ∧ l ≤ 1000) : ∀ (n : Nat) (w w' : Int), 0 ≤ w ∧ w ≤ w' ∧ w' ≤ 10000 → waveN l n w ≤ waveN l' n w'
  | 0, w, w', hw => hw.2.1
  | n + 1, w, w', hw => by
    have h1 := wave_mono hw hl
    have h2 := wave_q (w := w) (l := l) (by omega) (by omega)
    have h3 := wave_q (w := w') (l := l') (by omega) (by omega)
    exact waveN_mono hl n _ _ (by omega)
theorem waveN_less {l : Int} (hl : 0 ≤ l ∧ l ≤ 1000) : ∀ (n m : Nat) (w : Int), 0 ≤ w ∧ w ≤ 10000 → n ≤ m → waveN l m w ≤ waveN l n w
  | 0, 0, w, _, _ => Int.le_refl _
  | 0, m + 1, w, hw, _ => by
    have h2 := wave_q (w := w) (l := l) hw hl
    have := waveN_less hl 0 m (w - (w * l).tdiv 1000) (by omega) (by omega)
    have e : waveN l 0 (w - (w * l).tdiv 1000) = w - (w * l).tdiv 1000 := rfl
    have e2 : waveN l 0 w = w := rfl
    show waveN l m (w - (w * l).tdiv 1000) ≤ _
    omega
  | n + 1, 0, _, _, h => by omega
  | n + 1, m + 1, w, hw, h => by
    have h2 := wave_q (w := w) (l := l) hw hl
    exact waveN_less hl n m _ (by omega) (by omega)
theorem level_mono {s s' : WShore} {t t' : WTruth} (ht : tOk s t) (ht' : tOk s' t') (hr : s'.reef ≤ s.reef) (h1 : t.wind ≤ t'.wind) (h2 : t.fetch ≤ t'.fetch) (h3 : t.tide ≤ t'.tide) (h4 : t'.loss ≤ t.loss) : levelF s t ≤ levelF s' t' := by
  have w0 := wave_0 ht
  have w1 := wave_0 ht'
  have m1 : t.fetch * t.wind ≤ t'.fetch * t'.wind := Int.mul_le_mul h2 h1 ht.1.1 (by have := ht'.2.1; omega)
  have l1 := ht.2.2.2.1
  have l2 := ht'.2.2.2.1
  have m2 := waveN_mono (l := t.loss) (l' := t'.loss) (by omega) s.reef.toNat ((t.fetch * t.wind).tdiv 1000) ((t'.fetch * t'.wind).tdiv 1000) (by omega)
  have m3 := waveN_less (l := t'.loss) l2 s'.reef.toNat s.reef.toNat ((t'.fetch * t'.wind).tdiv 1000) (by omega) (by omega)
  unfold levelF
  omega
end Go.Proofs.Ytiigkdhaofaijaa

namespace Go.Proofs.Ytiigkdhaofaijaa
open Go Go.CE Go.RowKit

end Go.Proofs.Ytiigkdhaofaijaa

namespace Go.Proofs.Ytiigkdhaofaijaa
open Go Go.CE Go.RowKit Go.Lib
theorem copy_rowZ {P : Program} (w : World) (t ty e : TypeId) (g o dLen dCap : Nat) (a : Addr) (sLen sCap : Nat) (cur : Array Value) (te : TypeId) (cs : List Value) (z : Nat) (hu : P.underlying t = some (.slice e)) (hz : szOf P e = some z)
    (hg : w.heap[g]? = some (.cells cur te (0, 0))) (hn : cs.length = Nat.min sLen dLen * z) (hsrc : ∀ j v, cs[j]? = some v → w.cell? (a.add j) = some v) (hfit : o + cs.length ≤ cur.size) (h1 : ∀ v ∈ cs, v.oneCell' = true) :
    (Builtin.copy_ #[t, t] ty #[.slice (some ⟨g, o, none⟩) dLen dCap, .slice (some a) sLen sCap]).run P w = .ok (goInt (Nat.min sLen dLen)) (w.setRow g (cur.toList.take o ++ (cs ++ cur.toList.drop (o + cs.length))).toArray) := by
  have hl := run_loadCells_list (P := P) w a cs hsrc
  have hst := run_storeCells_at P g o te cs 0 cur w hg (by simpa using hfit) h1
  simp [Builtin.copy_, Builtin.lenOf, Builtin.firstCells, Sem.run_bind, Sem.run_pure, Result.andThen_ok, run_underlying hu, szOf_run hz, ← hn, hl, hst]
theorem seg_in {cur : Array Value} {w : World} {g : Nat} {te : TypeId} {fr : Nat × Nat} (hg : w.heap[g]? = some (.cells cur te fr)) (o k : Nat) : ∀ j v, ((cur.toList.drop o).take k)[j]? = some v → w.cell? ((⟨g, o, none⟩ : Addr).add j) = some v := by
  intro j v h
  rw [List.getElem?_take] at h
  split at h
  · rw [List.getElem?_drop] at h
    rw [Addr.add_lit, World.cell?]
    simp [hg]
    simpa using h
  · cases h
theorem t130 : Try.prog.underlying 130 = some (.slice 108) := by kernel_rfl
theorem t3i : Try.prog.underlying 3 = some (.int .i64) := by kernel_rfl
theorem z108 : szOf Try.prog 108 = some 2 := by kernel_rfl
def Inserted (w w' : World) (g n : Nat) (cs : List Value) (v : Value) : Prop := ∃ g' c' cur', v = .slice (some ⟨g', 0, none⟩) (n + 1) c' ∧ (g' = g ∨ g' = w.heap.size) ∧ w'.heap[g']? = some (.cells cur' 108 (0, 0)) ∧ n + 1 ≤ c' ∧ c' ≤ maxLen ∧ cur'.size = c' * 2 ∧
  cur'.toList.take ((n + 1) * 2) = cs ∧ w.grownBy w' (some g)
set_option maxHeartbeats 4000000 in
set_option maxRecDepth 100000 in
theorem insert_room (w : World) (g n c vb voff vc : Nat) (cur : Array Value) (vs : List Value) (tv : TypeId) (kv : Array Value) (hn : 1 ≤ n) (hr : n + 1 ≤ c) (hc : c ≤ maxLen) (hg : w.heap[g]? = some (.cells cur 108 (0, 0))) (hs : cur.size = c * 2)
    (hvb : vb ≠ g) (hv : w.heap[vb]? = some (.cells kv tv (0, 0))) (hvl : vs.length = 2) (hvs : ∀ j v, vs[j]? = some v → w.cell? ((⟨vb, voff, none⟩ : Addr).add j) = some v) (h1v : ∀ v ∈ vs, v.oneCell' = true) (h1c : ∀ v ∈ cur.toList.take (n * 2), v.oneCell' = true) :
    Calls Try.prog 117 #[.slice (some ⟨g, 0, none⟩) n c, .int .i64 0, .slice (some ⟨vb, voff, none⟩) 1 vc] w fun e w' => ∃ v, e = .returned v ∧ Inserted w w' g n (vs ++ cur.toList.take (n * 2)) v := by
  have mixed : Try.prog.follows .mixedOrders = true := by decide +kernel
  have hc63 : c ≤ 9223372036854775807 := by unfold maxLen at hc; omega
  have hz2 : ¬ (0 = (n : Int)) := by omega
  have hw1 : IntKind.i64.wrap 1 = 1 := by decide
  have hw0 : IntKind.i64.wrap 0 = 0 := by decide
  have hb1 : (1 : Int) ≤ (n : Int) + 1 := by omega
  have hb2 : ¬ (c = 1) := by omega
  have hb4 : ¬ (c = 0) := by omega
  have hb5 : (0 : Int) ≤ (n : Int) + 1 := by omega
  have hz3 : ¬ ((c : Int) < (n : Int) + 1) := by omega
  have hov : ∀ lb cb, (callFunc 120 #[.slice (some ⟨vb, voff, none⟩) 1 vc, .slice (some ⟨g, 2, none⟩) lb cb]).run Try.prog w = .ok (.value (.bool false)) w := fun lb cb => by
    rw [run_callFunc_extern Try.func120 (by kernel_rfl) (by kernel_rfl) (by kernel_rfl) (e := Extern.SlicesOverlaps.overlaps #[130, 130] #[4]) (by kernel_rfl),
      Lib.run_overlaps_apart w 130 4 108 t130 2 (szOf_run z108) ⟨vb, voff, none⟩ ⟨g, 2, none⟩ 1 vc lb cb hvb tv 108 kv.size cur.size (by simp [World.shape?, hv]) (by simp [World.shape?, hg]) (by omega) (by simp [World.frozen?, hv]) (by simp [World.frozen?, hv])]
    rfl
  have hmin : Nat.min (n + 1) n = n := by simp only [Nat.min_def]; split <;> omega
  have hmin2 : Nat.min 1 (n + 1) = 1 := by simp only [Nat.min_def]; split <;> omega
  have htl : (cur.toList.take (n * 2)).length = n * 2 := by rw [List.length_take]; simp only [Array.length_toList]; omega
  have ht2 : (cur.toList.take 2).length = 2 := by rw [List.length_take]; simp only [Array.length_toList]; omega
  have hW2 : ∀ (v2 : List Value), v2.length = 2 → (v2 ++ (cur.toList.take (n * 2) ++ cur.toList.drop (2 + n * 2))).length = cur.size := fun v2 h2 => by
    rw [List.length_append, List.length_append, htl, h2, List.length_drop]; simp only [Array.length_toList]; omega
  obtain ⟨R1, hR1⟩ : ∃ R1, R1 = (cur.toList.take 2 ++ (cur.toList.take (n * 2) ++ cur.toList.drop (2 + n * 2))).toArray := ⟨_, rfl⟩
  have hR1s : R1.size = cur.size := by rw [hR1]; simpa using hW2 _ ht2
  have hcp1 : ∀ ty dc sc, (Builtin.copy_ #[130, 130] ty #[.slice (some ⟨g, 2, none⟩) n dc, .slice (some ⟨g, 0, none⟩) (n + 1) sc]).run Try.prog w.drew = .ok (goInt n) (w.drew.setRow g R1) := fun ty dc sc => by
    have h := copy_rowZ (P := Try.prog) w.drew 130 ty 108 g 2 n dc ⟨g, 0, none⟩ (n + 1) sc cur 108 (cur.toList.take (n * 2)) 2 t130 z108 hg (by rw [hmin, htl]) (by have := seg_in (w := w.drew) hg 0 (n * 2); simpa using this) (by rw [htl]; omega) h1c
    rw [hmin, htl, ← hR1] at h
    exact h
  have hgl : g < w.heap.size := (Array.getElem?_eq_some_iff.1 hg).1
  have hg1 : (w.drew.setRow g R1).heap[g]? = some (.cells R1 108 (0, 0)) := setRow_heap w.drew g cur _ _ _ hg
  obtain ⟨R2, hR2⟩ : ∃ R2, R2 = (vs ++ (cur.toList.take (n * 2) ++ cur.toList.drop (2 + n * 2))).toArray := ⟨_, rfl⟩
  have hcp2 : ∀ ty dc, (Builtin.copy_ #[130, 130] ty #[.slice (some ⟨g, 0, none⟩) (n + 1) dc, .slice (some ⟨vb, voff, none⟩) 1 vc]).run Try.prog (w.drew.setRow g R1) = .ok (goInt 1) ((w.drew.setRow g R1).setRow g R2) := fun ty dc => by
    have hb := setRow_other w.drew g vb R1 hvb
    have h := copy_rowZ (P := Try.prog) (w.drew.setRow g R1) 130 ty 108 g 0 (n + 1) dc ⟨vb, voff, none⟩ 1 vc R1 108 vs 2 t130 z108 hg1 (by rw [hmin2, hvl]) (fun j v hj => by have h0 := hvs j v hj; rw [Addr.add_lit] at h0 ⊢; exact (World.cell?_of_block (a := ⟨vb, voff + j, none⟩) hb).trans h0) (by rw [hvl, hR1s]; omega) h1v
    rw [hmin2, hvl] at h
    have e : (R1.toList.take 0 ++ (vs ++ R1.toList.drop (0 + 2))).toArray = R2 := by
      rw [hR2, hR1]
      simp [List.drop_append, ht2]
    rw [e] at h
    exact h
  have HR1 := Lib.hid hR1; clear hR1
  have HR2 := Lib.hid hR2; clear hR2
  go_enter Try.func117, Try.ntmps117
  go_wp2_with (simp only [hov])
  go_region_law_o (refine step_copy_runI rfl _ _ 130 130 rfl _ _ (by simp [Act.eval, Act.put]; exact ⟨rfl, rfl, rfl⟩) (by simp [Act.eval, Act.put]; exact ⟨rfl, rfl, rfl⟩) (hcp1 _ _ _) ?_)
  go_wp2_with (at_builtin; refine wpList_copy_runI _ rfl _ _ 130 130 rfl _ _ rfl rfl (hcp2 _ _) ?_)
  go_ret
  have hR1 := HR1.out
  have hR2 := HR2.out
  refine ⟨_, rfl, g, c, R2, rfl, .inl rfl, setRow_heap _ g R1 _ _ _ hg1, hr, hc, ?_, ?_, ⟨rfl, rfl, rfl, ?_, fun k hk hne => ?_⟩⟩
  · rw [hR2, List.size_toArray, hW2 _ hvl, hs]
  · rw [hR2, show (n + 1) * 2 = (vs ++ cur.toList.take (n * 2)).length by rw [List.length_append, htl, hvl]; omega]
    simp only [← List.append_assoc]
    exact List.take_left
  · simp [World.setRow]
  · have hk : k ≠ g := fun e => hne (by rw [e])
    rw [setRow_other _ g k R2 hk, setRow_other _ g k R1 hk]; rfl
theorem info108 : ∃ (i : TypeInfo) (zv : Value), Try.prog.info? 108 = some i ∧ i.zero = some zv ∧ i.size = 2 ∧ i.bytes = 32 ∧ zv.cells.size = 2 := by
  cases h : Try.prog.info? 108 with
  | none => have : (inf Try.prog 108).isSome = true := by kernel_rfl
            rw [inf_eq, h] at this; cases this
  | some i =>
    have h1 : (inf Try.prog 108).map (·.size) = some 2 := by kernel_rfl
    have h2 : (inf Try.prog 108).map (·.bytes) = some 32 := by kernel_rfl
    have h3 : (zeroOf Try.prog 108).map (·.cells.size) = some 2 := by kernel_rfl
    unfold zeroOf at h3
    rw [inf_eq, h] at h1 h2 h3
    simp only [Option.map_some, Option.some.injEq] at h1 h2 h3
    cases hz : i.zero with
    | none => rw [hz] at h3; cases h3
    | some zv =>
      rw [hz] at h3
      simp only [Option.map_some, Option.some.injEq] at h3
      exact ⟨i, zv, rfl, hz, h1, h2, h3⟩
set_option maxHeartbeats 4000000 in
set_option maxRecDepth 100000 in
theorem insert_grow (w : World) (g n vb voff vc : Nat) (cur : Array Value) (vs : List Value) (hn : 1 ≤ n) (hnb : n ≤ 1000000) (hg : w.heap[g]? = some (.cells cur 108 (0, 0))) (hs : cur.size = n * 2)
    (hvl : vs.length = 2) (hvs : ∀ j v, vs[j]? = some v → w.cell? ((⟨vb, voff, none⟩ : Addr).add j) = some v) (h1v : ∀ v ∈ vs, v.oneCell' = true) (h1c : ∀ v ∈ cur.toList.take (n * 2), v.oneCell' = true) :
    Calls Try.prog 117 #[.slice (some ⟨g, 0, none⟩) n n, .int .i64 0, .slice (some ⟨vb, voff, none⟩) 1 vc] w fun e w' => ∃ v, e = .returned v ∧ Inserted w w' g n (vs ++ cur.toList.take (n * 2)) v := by
  have mixed : Try.prog.follows .mixedOrders = true := by decide +kernel
  have hz2 : ¬ (0 = (n : Int)) := by omega
  have hw1 : IntKind.i64.wrap 1 = 1 := by decide
  have hw0 : IntKind.i64.wrap 0 = 0 := by decide
  obtain ⟨i0, zv, hi0, hz0, hi2, hib, hzv⟩ := info108
  obtain ⟨C, hC⟩ : ∃ C, C = grownCap w (n + 1) n 108 := ⟨_, rfl⟩
  have hC1 : n + 1 ≤ C := by rw [hC]; exact grownCap_ge w _ _ _
  have hC2 : C ≤ maxLen := by rw [hC]; exact grownCap_le_maxLen w _ _ _ (by unfold maxLen; omega)
  obtain ⟨R0, hR0⟩ : ∃ R0, R0 = Builtin.zeroCells zv.cells (n + 1) ++ Builtin.zeroCells zv.cells (C - (n + 1)) := ⟨_, rfl⟩
  have hR0s : R0.size = C * 2 := by rw [hR0, Array.size_append, size_zeroCells, size_zeroCells, hzv, ← Nat.add_mul]; congr 1; omega
  have hrz : ∀ ty, (Builtin.append_ #[130, 3] ty #[.slice (some ⟨g, 0, none⟩) 0 n, .int .i64 ((n : Int) + 1)]).run Try.prog w = .ok (.slice (some ⟨w.heap.size, 0, none⟩) (n + 1) C) (w.drew.alloc (.cells R0 108)) := fun ty => by
    have hold : (Builtin.firstCells i0.size 0 (.slice (some ⟨g, 0, none⟩) 0 n)).run Try.prog w.drew = .ok ([] : List Value).toArray w.drew := by
      exact run_firstCells_some w.drew i0.size 0 ⟨g, 0, none⟩ 0 n [] (by simp) (fun j v h => by simp at h)
    have h := Lib.run_append_grow_zeros (P := Try.prog) w 130 3 ty 108 i0 zv .i64 .i64 t130 t3i hi0 hz0 (some ⟨g, 0, none⟩) 0 n [] hold (n + 1) (by omega) (by omega) (by omega) (by omega) (by rw [hib]; omega) (by rw [hib, Nat.zero_add]; exact growslice_fits (by omega) (by omega))
    rw [Nat.zero_add, ← hC] at h
    have e : ([] : List Value).toArray ++ Builtin.zeroCells zv.cells (n + 1) ++ Builtin.zeroCells zv.cells (C - (n + 1)) = R0 := by rw [hR0]; simp
    rw [e] at h
    exact h
  have hgl : g < w.heap.size := (Array.getElem?_eq_some_iff.1 hg).1
  have hvl0 : vb < w.heap.size := block_lt_of_cell (hvs 0 _ (List.getElem?_eq_getElem (by omega)))
  obtain ⟨N, hN⟩ : ∃ N, N = w.heap.size := ⟨_, rfl⟩
  rw [← hN] at hrz hgl hvl0
  obtain ⟨W0, hW0⟩ : ∃ W0, W0 = w.drew.alloc (.cells R0 108) := ⟨_, rfl⟩
  have hW0g : W0.heap[N]? = some (.cells R0 108 (0, 0)) := by rw [hW0, hN]; exact heap_alloc_new w.drew _
  have hW0o : ∀ k, k < N → W0.heap[k]? = w.heap[k]? := fun k hk => by rw [hW0]; exact Below.heap_alloc w.drew _ k (by rw [hN] at hk; exact hk)
  have hmin : Nat.min n n = n := by simp only [Nat.min_def]; split <;> omega
  have hmin2 : Nat.min 1 (n + 1) = 1 := by simp only [Nat.min_def]; split <;> omega
  have htl : (cur.toList.take (n * 2)).length = n * 2 := by rw [List.length_take]; simp only [Array.length_toList]; omega
  obtain ⟨R1, hR1⟩ : ∃ R1, R1 = (vs ++ R0.toList.drop 2).toArray := ⟨_, rfl⟩
  have hR1s : R1.size = R0.size := by rw [hR1]; simp [hvl]; omega
  have hcp1 : ∀ ty dc, (Builtin.copy_ #[130, 130] ty #[.slice (some ⟨N, 0, none⟩) (n + 1) dc, .slice (some ⟨vb, voff, none⟩) 1 vc]).run Try.prog W0 = .ok (goInt 1) (W0.setRow N R1) := fun ty dc => by
    have h := copy_rowZ (P := Try.prog) W0 130 ty 108 N 0 (n + 1) dc ⟨vb, voff, none⟩ 1 vc R0 108 vs 2 t130 z108 hW0g (by rw [hmin2, hvl]) (fun j v hj => by have h0 := hvs j v hj; rw [Addr.add_lit] at h0 ⊢; exact (World.cell?_of_block (a := ⟨vb, voff + j, none⟩) (hW0o vb hvl0)).trans h0) (by rw [hvl]; omega) h1v
    rw [hmin2, hvl] at h
    have e : (R0.toList.take 0 ++ (vs ++ R0.toList.drop (0 + 2))).toArray = R1 := by rw [hR1]; simp
    rw [e] at h
    exact h
  obtain ⟨W1, hW1⟩ : ∃ W1, W1 = W0.setRow N R1 := ⟨_, rfl⟩
  rw [← hW1] at hcp1
  have hW1g : W1.heap[N]? = some (.cells R1 108 (0, 0)) := by rw [hW1]; exact setRow_heap W0 N R0 R1 _ _ hW0g
  have hW1o : ∀ k, k < N → W1.heap[k]? = w.heap[k]? := fun k hk => by rw [hW1, setRow_other W0 N k R1 (by omega)]; exact hW0o k hk
  have hW1d : W1.drew.heap = W1.heap := rfl
  obtain ⟨R2, hR2⟩ : ∃ R2, R2 = (vs ++ (cur.toList.take (n * 2) ++ R1.toList.drop (2 + n * 2))).toArray := ⟨_, rfl⟩
  have hcp2 : ∀ ty dc sc, (Builtin.copy_ #[130, 130] ty #[.slice (some ⟨N, 2, none⟩) n dc, .slice (some ⟨g, 0, none⟩) n sc]).run Try.prog W1.drew = .ok (goInt n) (W1.drew.setRow N R2) := fun ty dc sc => by
    have hg1 : W1.drew.heap[g]? = some (.cells cur 108 (0, 0)) := (hW1o g hgl).trans hg
    have h := copy_rowZ (P := Try.prog) W1.drew 130 ty 108 N 2 n dc ⟨g, 0, none⟩ n sc R1 108 (cur.toList.take (n * 2)) 2 t130 z108 hW1g (by rw [hmin, htl]) (by have := seg_in (w := W1.drew) hg1 0 (n * 2); simpa using this) (by rw [htl, hR1s, hR0s]; omega) h1c
    rw [hmin, htl] at h
    have e : (R1.toList.take 2 ++ (cur.toList.take (n * 2) ++ R1.toList.drop (2 + n * 2))).toArray = R2 := by
      rw [hR2, hR1]
      simp [← hvl]
    rw [e] at h
    exact h
  have hc0 : ¬ (C = 0) := by omega
  have hc1 : ¬ (C = 1) := by omega
  have hn0 : ¬ (n = 0) := by omega
  have hb1 : (1 : Int) ≤ (n : Int) + 1 := by omega
  have hb5 : (0 : Int) ≤ (n : Int) + 1 := by omega
  have hz3 : (n : Int) < (n : Int) + 1 := by omega
  have HC := Lib.hid hC; clear hC
  have HR0 := Lib.hid hR0; clear hR0
  have HR1 := Lib.hid hR1; clear hR1
  have HR2 := Lib.hid hR2; clear hR2
  have HW0 := Lib.hid hW0; clear hW0
  have HW1 := Lib.hid hW1; clear hW1
  have HN := Lib.hid hN; clear hN
  rw [← HW0.out] at hrz
  go_enter Try.func117, Try.ntmps117
  go_wp2_with (first
    | (at_builtin; refine Lib.wpList_append_run _ rfl _ _ _ _ rfl _ _ rfl rfl _ _ (hrz _) ?_)
    | (at_builtin; refine wpList_copy_runI _ rfl _ _ 130 130 rfl _ _ rfl rfl (hcp1 _ _) ?_))
  go_region_law_o (refine step_copy_runI rfl _ _ 130 130 rfl _ _ (by simp [Act.eval, Act.put]; exact ⟨rfl, rfl, rfl⟩) (by simp [Act.eval, Act.put]; exact ⟨rfl, rfl, rfl⟩) (hcp2 _ _ _) ?_)
  go_wp2
  go_ret
  have hR1 := HR1.out
  have hR2 := HR2.out
  have hN := HN.out
  have hR2s : R2.size = C * 2 := by rw [hR2]; simp [hvl, htl, hR1s, hR0s]; omega
  refine ⟨_, rfl, N, C, R2, rfl, .inr hN, setRow_heap _ N R1 _ _ _ hW1g, hC1, hC2, hR2s, ?_, ⟨?_, ?_, ?_, ?_, fun k hk hne => ?_⟩⟩
  · rw [hR2, show (n + 1) * 2 = (vs ++ cur.toList.take (n * 2)).length by rw [List.length_append, htl, hvl]; omega]
    simp only [← List.append_assoc]
    exact List.take_left
  · have := HW1.out; have h0 := HW0.out; subst this h0; rfl
  · have := HW1.out; have h0 := HW0.out; subst this h0; rfl
  · have := HW1.out; have h0 := HW0.out; subst this h0; rfl
  · have := HW1.out; have h0 := HW0.out; subst this h0; simp [World.setRow]
  · have hk' : k < N := by omega
    rw [setRow_other _ N k R2 (by omega)]
    exact hW1o k hk'
theorem insert_any (w : World) (g n c vb voff vc : Nat) (cur : Array Value) (vs : List Value) (tv : TypeId) (kv : Array Value) (hn : 1 ≤ n) (hnb : n ≤ 1000000) (hr : n ≤ c) (hc : c ≤ maxLen) (hg : w.heap[g]? = some (.cells cur 108 (0, 0))) (hs : cur.size = c * 2)
    (hvb : vb ≠ g) (hv : w.heap[vb]? = some (.cells kv tv (0, 0))) (hvl : vs.length = 2) (hvs : ∀ j v, vs[j]? = some v → w.cell? ((⟨vb, voff, none⟩ : Addr).add j) = some v) (h1v : ∀ v ∈ vs, v.oneCell' = true) (h1c : ∀ v ∈ cur.toList.take (n * 2), v.oneCell' = true) :
    Calls Try.prog 117 #[.slice (some ⟨g, 0, none⟩) n c, .int .i64 0, .slice (some ⟨vb, voff, none⟩) 1 vc] w fun e w' => ∃ v, e = .returned v ∧ Inserted w w' g n (vs ++ cur.toList.take (n * 2)) v := by
  rcases Nat.lt_or_ge n c with h | h
  · exact insert_room w g n c vb voff vc cur vs tv kv hn h hc hg hs hvb hv hvl hvs h1v h1c
  · obtain rfl : c = n := by omega
    exact insert_grow w g c vb voff vc cur vs hn hnb hg hs hvl hvs h1v h1c
end Go.Proofs.Ytiigkdhaofaijaa

namespace Go.Proofs.Ytiigkdhaofaijaa
open Go Go.CE Go.RowKit
def insC (args : Array Value) (H : Heap) (n : Nat) : Option Rs := match args.toList with
  | [.slice (some ⟨b, 0, none⟩) k s, .int .i64 (.ofNat 0), .slice (some ⟨b2, off2, none⟩) 1 _] => match hget H b, hget H b2 with
    | some (.cells cs te (0, 0)), some (.cells cs2 _ (0, 0)) =>
      bif Nat.beq te 108 && Nat.beq s 2 && Nat.ble (k * 2) cs.size && Nat.ble 1 k && Nat.ble k 1000000 && Nat.ble (off2 + 2) cs2.size && !(Nat.beq b b2) && Nat.blt b n && Nat.blt b2 n && ones (cs2.extract off2 (off2 + 2)) && ones (cs.extract 0 (k * 2)) then
        some ⟨.ret (.slice (some ⟨n, 0, none⟩) (k + 1) 2), (n, .cells (cs2.extract off2 (off2 + 2) ++ cs.extract 0 (k * 2)) 108 (0, 0)) :: killo H (some b), n + 1, [b2, b], [b]⟩ else none
    | _, _ => none
  | _ => none
def insOrc : Orc := fun g args H n => bif Nat.beq g 117 then insC args H n else none
theorem insOrc_ok (B : Lo) : OrcS Try.prog B insOrc := by
  intro g args H n s hu h
  unfold insOrc at h
  cases hg : Nat.beq g 117 with
  | false => rw [hg] at h; cases h
  | true =>
    rw [hg] at h
    simp only [cond_true] at h
    obtain rfl := Nat.eq_of_beq_eq_true hg
    unfold insC at h
    split at h
    · rename_i b k sz b2 off2 z2 hl
      split at h
      · rename_i cs te cs2 te2 hb hb2
        cases hq : (Nat.beq te 108 && Nat.beq sz 2 && Nat.ble (k * 2) cs.size && Nat.ble 1 k && Nat.ble k 1000000 && Nat.ble (off2 + 2) cs2.size && !(Nat.beq b b2) && Nat.blt b n && Nat.blt b2 n && ones (cs2.extract off2 (off2 + 2)) && ones (cs.extract 0 (k * 2))) with
        | false => rw [hq] at h; cases h
        | true =>
          rw [hq] at h
          simp only [cond_true, Option.some.injEq] at h
          subst h
          simp only [Bool.and_eq_true, Bool.not_eq_true'] at hq
          obtain ⟨⟨⟨⟨⟨⟨⟨⟨⟨⟨q1, q2⟩, q3⟩, q4⟩, q5⟩, q6⟩, q7⟩, q8⟩, q9⟩, q10⟩, q11⟩ := hq
          obtain rfl := Nat.eq_of_beq_eq_true q1
          obtain rfl := Nat.eq_of_beq_eq_true q2
          have q3 := Nat.le_of_ble_eq_true q3
          have q4 := Nat.le_of_ble_eq_true q4
          have q5 := Nat.le_of_ble_eq_true q5
          have q6 := Nat.le_of_ble_eq_true q6
          have q7 : b ≠ b2 := fun e => by subst e; simp at q7
          have q8 : b < n := Nat.le_of_ble_eq_true q8
          have q9 : b2 < n := Nat.le_of_ble_eq_true q9
          have hsh : Shape H n ((n, Obj.cells (cs2.extract off2 (off2 + 2) ++ cs.extract 0 (k * 2)) 108 (0, 0)) :: killo H (some b)) (n + 1) [b2, b] [b] := by
            refine ⟨by simp, fun i hi hw => ?_, fun i hi => ?_, fun i hi => List.mem_cons_of_mem _ hi, fun i hi => ?_⟩
            · rw [hget_cons, if_neg (by omega), hget_killo, if_neg]
              rintro ⟨⟨q, e, rfl⟩, _⟩
              cases e
              exact hw (by simp)
            · rw [hget_cons, if_neg (by omega), hget_killo, if_neg]
              rintro ⟨⟨q, e, rfl⟩, _⟩
              cases e
              omega
            · simp only [List.mem_singleton] at hi
              omega
          refine ⟨hsh, fun S μ w args' ks hok hB hS hf hv hR => ?_⟩
          have hSb := hR b (by simp) q8
          have hSb2 := hR b2 (by simp) q9
          obtain ⟨im, him, hor⟩ := hok.rel b _ hSb hb trivial
          obtain ⟨im2, him2, hor2⟩ := hok.rel b2 _ hSb2 hb2 trivial
          rcases hor with ⟨_, hr, ho, arr, ha, hle, hcap, hcc⟩ | ⟨hz, _⟩
          · rcases hor2 with ⟨hz2, hr2, ho2, arr2, ha2, hle2, hcap2, hcc2⟩ | ⟨hz, _⟩
            · have hl' := vrl_mk [.slice (some ⟨b, 0, none⟩) k 2, .int .i64 (.ofNat 0), .slice (some ⟨b2, off2, none⟩) 1 z2] args'.toList (by rw [← hl]; simpa using hv.1) fun i v v' a b => hv.2 i v v' (by rw [← Array.getElem?_toList, hl]; exact a) (by simpa using b)
              obtain ⟨c, vc, hkc, hcm, hce, harg⟩ : ∃ c vc, k ≤ c ∧ c ≤ maxLen ∧ c * 2 = im.cap ∧ args' = #[.slice (some ⟨im.blk, 0, none⟩) k c, .int .i64 0, .slice (some ⟨im2.blk, off2, none⟩) 1 vc] := by
                generalize hy : args'.toList = ys at hl'
                cases hl' with
                | cons x1 hl' => cases hl' with
                  | cons x2 hl' => cases hl' with
                    | cons x3 hl' =>
                      cases hl'
                      rw [af_eq rfl x2] at hy
                      cases x1 with
                      | @slice _ a' _ _ c' har h1 h2 h3 =>
                        obtain ⟨im', him', _, rfl⟩ := har
                        simp only at him'
                        rw [him] at him'; cases him'
                        cases x3 with
                        | @slice _ a2' _ _ c2' har2 g1 g2 g3 =>
                          obtain ⟨im2', him2', _, rfl⟩ := har2
                          simp only at him2'
                          rw [him2] at him2'; cases him2'
                          refine ⟨c', c2', h1, h2, h3 (by omega) im him hr rfl, ?_⟩
                          apply Array.ext'
                          rw [hy, ho, ho2]
                          simp
              subst harg
              have hne : im2.blk ≠ im.blk := fun e => hok.inj b b2 _ _ im im2 hSb hSb2 q7 hb hb2 trivial trivial him him2 hr hr2 e.symm
              have hcells : ∀ (i : Nat) v, (cs.extract 0 (k * 2))[i]? = some v → ∃ v', (arr.toList.take (k * 2))[i]? = some v' ∧ VR μ v v' := by
                intro i v hv
                rw [Array.getElem?_extract] at hv
                split at hv
                · rename_i hi
                  rw [Nat.zero_add] at hv
                  obtain ⟨v', e1, e2⟩ := hcc i v hv
                  exact ⟨v', by rw [List.getElem?_take_of_lt (by omega)]; simpa using e1, e2⟩
                · cases hv
              have hvs2 : ∀ (i : Nat) v, (cs2.extract off2 (off2 + 2))[i]? = some v → ∃ v', ((arr2.toList.drop off2).take 2)[i]? = some v' ∧ VR μ v v' := by
                intro i v hv
                rw [Array.getElem?_extract] at hv
                split at hv
                · rename_i hi
                  obtain ⟨v', e1, e2⟩ := hcc2 _ v hv
                  exact ⟨v', by rw [List.getElem?_take_of_lt (by omega), List.getElem?_drop]; simpa using e1, e2⟩
                · cases hv
              have hl1 : (arr.toList.take (k * 2)).length = k * 2 := by rw [List.length_take, Array.length_toList]; omega
              have hl2 : ((arr2.toList.drop off2).take 2).length = 2 := by rw [List.length_take, List.length_drop, Array.length_toList]; omega
              have he1 : (cs.extract 0 (k * 2)).size = k * 2 := by simp; omega
              have he2 : (cs2.extract off2 (off2 + 2)).size = 2 := by simp; omega
              have hV1 : VRs μ (cs.extract 0 (k * 2)) (arr.toList.take (k * 2)).toArray := ⟨by simp [hl1, -List.length_take]; omega, fun i v v' hv hv' => by
                obtain ⟨u, e1, e2⟩ := hcells i v hv
                simp only [List.getElem?_toArray] at hv'
                rw [e1] at hv'; cases hv'; exact e2⟩
              have hV2 : VRs μ (cs2.extract off2 (off2 + 2)) ((arr2.toList.drop off2).take 2).toArray := ⟨by simp only [List.size_toArray]; rw [hl2, he2], fun i v v' hv hv' => by
                obtain ⟨u, e1, e2⟩ := hvs2 i v hv
                simp only [List.getElem?_toArray] at hv'
                rw [e1] at hv'; cases hv'; exact e2⟩
              obtain ⟨e, w', fr, ⟨v, rfl, g', c', cur', rfl, hg', hcur, hc1, hc2, hcs, htk, hgr⟩, s1, s2, s3⟩ := insert_any w im.blk k c im2.blk off2 vc arr ((arr2.toList.drop off2).take 2) te2 arr2 q4 q5 hkc hcm ha (by omega) hne ha2 hl2
                (seg_in ha2 off2 2) (hV2.ones q10) (hV1.ones q11) ks
              have hgl : g' < w'.heap.size := (Array.getElem?_eq_some_iff.1 hcur).1
              have hlow := hok.low b _ im hSb hb trivial him
              refine ⟨.ret (.slice (some ⟨g', 0, none⟩) (k + 1) c'), w', _, post_grow hok hS (hf n (Nat.le_refl _) (by simp)) (some b) (fun q e => by cases e; exact ⟨hSb, ⟨_, hb, trivial⟩, im, him, hr⟩) g' cur'.size _ ?_ hgl ?_ hgr.size ?_ (.ofCells hcur ?_ rfl fun j v hv => ?_) ⟨hgr.os, hgr.tape, hgr.output⟩, .ret ?_, fun _ => ⟨fr, s1, s2, s3⟩, fun c0 cs' e => by subst e; exact Steps.trans s1 (.one (step_leave_returned s3))⟩
              · rcases hg' with rfl | rfl
                · exact hlow.2.1 hr
                · have := hlow.1; have := hlow.2.1 hr; omega
              · rcases hg' with rfl | rfl
                · exact .inr ⟨b, im, rfl, him, rfl⟩
                · exact .inl (Nat.le_refl _)
              · intro q hq hne'
                refine hgr.block q hq fun e0 => ?_
                simp only [Option.some.injEq] at e0
                exact hne' b im rfl him e0.symm
              · rw [Array.size_append, he1, he2, hcs]; omega
              · have hj := (Array.getElem?_eq_some_iff.1 hv).1
                rw [Array.size_append, he1, he2] at hj
                have hcu : cur'[j]? = ((arr2.toList.drop off2).take 2 ++ arr.toList.take (k * 2))[j]? := by
                  rw [← htk, List.getElem?_take_of_lt (by omega)]
                  simp
                rw [hcu]
                rw [Array.getElem?_append] at hv
                split at hv
                · rename_i hlt
                  rw [he2] at hlt
                  obtain ⟨u, e1, e2⟩ := hvs2 j v hv
                  rw [List.getElem?_append_left (by omega)]
                  exact ⟨u, e1, e2.mono (upd_ext (hf n (Nat.le_refl _) (by simp)))⟩
                · rename_i hlt
                  rw [he2] at hlt hv
                  obtain ⟨u, e1, e2⟩ := hcells (j - 2) v hv
                  rw [List.getElem?_append_right (by omega), hl2]
                  exact ⟨u, e1, e2.mono (upd_ext (hf n (Nat.le_refl _) (by simp)))⟩
              · refine .slice ⟨_, upd_self, rfl, rfl⟩ hc1 hc2 (fun _ im' him' _ _ => ?_)
                rw [upd_self] at him'
                cases him'
                exact hcs.symm
            · exact absurd rfl hz
          · exact absurd rfl hz
      · cases h
    · cases h
end Go.Proofs.Ytiigkdhaofaijaa

namespace Go.Proofs.Ytiigkdhaofaijaa
open Go Go.CE Go.RowKit
def inN (n : Int) : Value := .int .i64 n
def goFns (g : FuncId) : Bool := Nat.ble 3 g && (Nat.blt g 129 && !([120] : List Nat).any (Nat.beq g))
theorem goFns_ok : ∀ g, goFns g = true → okFn Try.prog g = true := by
  have h : (List.range 129).all (fun g => !(goFns g) || okFn Try.prog g) = true := by decide +kernel
  intro g hg
  have hg' := hg
  simp only [goFns, Bool.and_eq_true] at hg
  have h1 : g < 129 := Nat.le_of_ble_eq_true hg.2.1
  have := List.all_eq_true.1 h g (List.mem_range.2 h1)
  rw [hg'] at this
  simpa using this
end Go.Proofs.Ytiigkdhaofaijaa

namespace Go.Proofs.Ytiigkdhaofaijaa
open Go Go.CE Go.RowKit
def m17_4 : Memo :=
  ⟨17, #[.agg #[.slice (some ⟨1, 0, none⟩) 4 4, .slice (some ⟨2, 0, none⟩) 2 3, inN 2, inN 100, inN 200], .agg #[inN 200, inN 300, inN 500, inN 1000, inN 20, inN 50]], [(2, .cells #[inN 60, inN 0, inN 50, inN 0, inN 25, inN 20] 85 (0, 0)), (1, .cells #[inN 100, inN 10, inN 20, inN (-1), inN 150, inN 20, inN 30, inN (-1), inN 180, inN 20, inN 40, inN 10, inN 175, inN 10, inN 20, inN 0] 59 (0, 0))], 4, .tuple #[.agg #[inN 84, inN 293], inN 0], [], 113⟩
theorem m17_4_ok : isMemo m17_4 (m17_4.run Try.prog goFns insOrc 100000) = true := by decide +kernel
def m103_201 : Memo :=
  ⟨103, #[.agg #[.slice (some ⟨115, 0, none⟩) 4 4, .slice (some ⟨116, 0, none⟩) 2 3, inN 2, inN 100, inN 200, inN 200, inN 300, inN 500, inN 1000, inN 20, inN 50], .agg #[inN 0, inN 84], inN 20, inN (-1)], [(115, .cells #[inN 100, inN 10, inN 20, inN (-1), inN 150, inN 20, inN 30, inN (-1), inN 180, inN 20, inN 40, inN 10, inN 175, inN 10, inN 20, inN 0] 59 (0, 0))], 201, .tuple #[inN 0, .bool false], [], 213⟩
theorem m103_201_ok : isMemo m103_201 (m103_201.drun Try.prog goFns insOrc 100000) = true := by decide +kernel
def m103_264 : Memo :=
  ⟨103, #[.agg #[.slice (some ⟨115, 0, none⟩) 4 4, .slice (some ⟨116, 0, none⟩) 2 3, inN 2, inN 100, inN 200, inN 200, inN 300, inN 500, inN 1000, inN 20, inN 50], .agg #[inN 0, inN 293], inN 10, inN (-1)], [(115, .cells #[inN 100, inN 10, inN 20, inN (-1), inN 150, inN 20, inN 30, inN (-1), inN 180, inN 20, inN 40, inN 10, inN 175, inN 10, inN 20, inN 0] 59 (0, 0))], 264, .tuple #[inN 283, .bool true], [], 276⟩
theorem m103_264_ok : isMemo m103_264 (m103_264.drun Try.prog goFns insOrc 100000) = true := by decide +kernel
def m103_276 : Memo :=
  ⟨103, #[.agg #[.slice (some ⟨115, 0, none⟩) 4 4, .slice (some ⟨116, 0, none⟩) 2 3, inN 2, inN 100, inN 200, inN 200, inN 300, inN 500, inN 1000, inN 20, inN 50], .agg #[inN 1, inN 283], inN 20, inN (-1)], [(115, .cells #[inN 100, inN 10, inN 20, inN (-1), inN 150, inN 20, inN 30, inN (-1), inN 180, inN 20, inN 40, inN 10, inN 175, inN 10, inN 20, inN 0] 59 (0, 0))], 276, .tuple #[inN 263, .bool true], [], 288⟩
theorem m103_276_ok : isMemo m103_276 (m103_276.drun Try.prog goFns insOrc 100000) = true := by decide +kernel
def m103_288 : Memo :=
  ⟨103, #[.agg #[.slice (some ⟨115, 0, none⟩) 4 4, .slice (some ⟨116, 0, none⟩) 2 3, inN 2, inN 100, inN 200, inN 200, inN 300, inN 500, inN 1000, inN 20, inN 50], .agg #[inN 2, inN 263], inN 20, inN (-1)], [(115, .cells #[inN 100, inN 10, inN 20, inN (-1), inN 150, inN 20, inN 30, inN (-1), inN 180, inN 20, inN 40, inN 10, inN 175, inN 10, inN 20, inN 0] 59 (0, 0))], 288, .tuple #[inN 243, .bool true], [], 300⟩
theorem m103_288_ok : isMemo m103_288 (m103_288.drun Try.prog goFns insOrc 100000) = true := by decide +kernel
def m103_300 : Memo :=
  ⟨103, #[.agg #[.slice (some ⟨115, 0, none⟩) 4 4, .slice (some ⟨116, 0, none⟩) 2 3, inN 2, inN 100, inN 200, inN 200, inN 300, inN 500, inN 1000, inN 20, inN 50], .agg #[inN 3, inN 243], inN 10, inN (-1)], [(115, .cells #[inN 100, inN 10, inN 20, inN (-1), inN 150, inN 20, inN 30, inN (-1), inN 180, inN 20, inN 40, inN 10, inN 175, inN 10, inN 20, inN 0] 59 (0, 0))], 300, .tuple #[inN 233, .bool true], [], 312⟩
theorem m103_300_ok : isMemo m103_300 (m103_300.drun Try.prog goFns insOrc 100000) = true := by decide +kernel
def m103_396 : Memo :=
  ⟨103, #[.agg #[.slice (some ⟨321, 0, none⟩) 4 4, .slice (some ⟨322, 0, none⟩) 2 3, inN 2, inN 100, inN 200, inN 200, inN 300, inN 500, inN 1000, inN 20, inN 50], .agg #[inN 0, inN 185], inN 15, inN (-1)], [(321, .cells #[inN 100, inN 10, inN 20, inN (-1), inN 150, inN 20, inN 30, inN (-1), inN 180, inN 20, inN 40, inN 10, inN 175, inN 10, inN 20, inN 0] 59 (0, 0))], 396, .tuple #[inN 170, .bool true], [], 408⟩
theorem m103_396_ok : isMemo m103_396 (m103_396.drun Try.prog goFns insOrc 100000) = true := by decide +kernel
def m103_408 : Memo :=
  ⟨103, #[.agg #[.slice (some ⟨321, 0, none⟩) 4 4, .slice (some ⟨322, 0, none⟩) 2 3, inN 2, inN 100, inN 200, inN 200, inN 300, inN 500, inN 1000, inN 20, inN 50], .agg #[inN 1, inN 170], inN 25, inN (-1)], [(321, .cells #[inN 100, inN 10, inN 20, inN (-1), inN 150, inN 20, inN 30, inN (-1), inN 180, inN 20, inN 40, inN 10, inN 175, inN 10, inN 20, inN 0] 59 (0, 0))], 408, .tuple #[inN 0, .bool false], [], 420⟩
theorem m103_408_ok : isMemo m103_408 (m103_408.drun Try.prog goFns insOrc 100000) = true := by decide +kernel
def m103_500 : Memo :=
  ⟨103, #[.agg #[.slice (some ⟨421, 0, none⟩) 4 4, .slice (some ⟨422, 0, none⟩) 2 3, inN 2, inN 100, inN 200, inN 200, inN 300, inN 500, inN 1000, inN 20, inN 50], .agg #[inN 0, inN 293], inN 10, inN (-1)], [(421, .cells #[inN 100, inN 10, inN 20, inN (-1), inN 150, inN 20, inN 30, inN (-1), inN 180, inN 20, inN 40, inN 10, inN 175, inN 10, inN 20, inN 0] 59 (0, 0))], 500, .tuple #[inN 283, .bool true], [], 512⟩
theorem m103_500_ok : isMemo m103_500 (m103_500.drun Try.prog goFns insOrc 100000) = true := by decide +kernel
def m103_519 : Memo :=
  ⟨103, #[.agg #[.slice (some ⟨421, 0, none⟩) 4 4, .slice (some ⟨422, 0, none⟩) 2 3, inN 2, inN 100, inN 200, inN 200, inN 300, inN 500, inN 1000, inN 20, inN 50], .agg #[inN 1, inN 283], inN 20, inN (-1)], [(421, .cells #[inN 100, inN 10, inN 20, inN (-1), inN 150, inN 20, inN 30, inN (-1), inN 180, inN 20, inN 40, inN 10, inN 175, inN 10, inN 20, inN 0] 59 (0, 0))], 519, .tuple #[inN 263, .bool true], [], 531⟩
theorem m103_519_ok : isMemo m103_519 (m103_519.drun Try.prog goFns insOrc 100000) = true := by decide +kernel
def m103_538 : Memo :=
  ⟨103, #[.agg #[.slice (some ⟨421, 0, none⟩) 4 4, .slice (some ⟨422, 0, none⟩) 2 3, inN 2, inN 100, inN 200, inN 200, inN 300, inN 500, inN 1000, inN 20, inN 50], .agg #[inN 2, inN 263], inN 20, inN (-1)], [(421, .cells #[inN 100, inN 10, inN 20, inN (-1), inN 150, inN 20, inN 30, inN (-1), inN 180, inN 20, inN 40, inN 10, inN 175, inN 10, inN 20, inN 0] 59 (0, 0))], 538, .tuple #[inN 243, .bool true], [], 550⟩
theorem m103_538_ok : isMemo m103_538 (m103_538.drun Try.prog goFns insOrc 100000) = true := by decide +kernel
def m103_557 : Memo :=
  ⟨103, #[.agg #[.slice (some ⟨421, 0, none⟩) 4 4, .slice (some ⟨422, 0, none⟩) 2 3, inN 2, inN 100, inN 200, inN 200, inN 300, inN 500, inN 1000, inN 20, inN 50], .agg #[inN 3, inN 243], inN 10, inN (-1)], [(421, .cells #[inN 100, inN 10, inN 20, inN (-1), inN 150, inN 20, inN 30, inN (-1), inN 180, inN 20, inN 40, inN 10, inN 175, inN 10, inN 20, inN 0] 59 (0, 0))], 557, .tuple #[inN 233, .bool true], [], 569⟩
theorem m103_557_ok : isMemo m103_557 (m103_557.drun Try.prog goFns insOrc 100000) = true := by decide +kernel
def m115_581 : Memo :=
  ⟨115, #[.agg #[.slice none 0 0, inN 0], inN (-1), inN 0], [], 581, .agg #[.slice (some ⟨586, 0, none⟩) 1 1, inN 0], [(586, .cells #[inN (-1)] 3 (0, 0))], 588⟩
theorem m115_581_ok : isMemo m115_581 (m115_581.run Try.prog goFns insOrc 100000) = true := by decide +kernel
def m103_594 : Memo :=
  ⟨103, #[.agg #[.slice (some ⟨421, 0, none⟩) 4 4, .slice (some ⟨422, 0, none⟩) 2 3, inN 2, inN 100, inN 200, inN 200, inN 300, inN 500, inN 1000, inN 20, inN 50], .agg #[inN 3, inN 243], inN 10, inN 0], [(421, .cells #[inN 100, inN 10, inN 20, inN (-1), inN 150, inN 20, inN 30, inN (-1), inN 180, inN 20, inN 40, inN 10, inN 175, inN 10, inN 20, inN 0] 59 (0, 0)), (422, .cells #[inN 60, inN 0, inN 50, inN 0, inN 25, inN 20] 85 (0, 0))], 594, .tuple #[inN 0, .bool false], [], 606⟩
theorem m103_594_ok : isMemo m103_594 (m103_594.drun Try.prog goFns insOrc 100000) = true := by decide +kernel
def m115_618 : Memo :=
  ⟨115, #[.agg #[.slice none 0 0, inN 0], inN 0, inN 50], [], 618, .agg #[.slice (some ⟨623, 0, none⟩) 1 1, inN 50], [(623, .cells #[inN 0] 3 (0, 0))], 625⟩
theorem m115_618_ok : isMemo m115_618 (m115_618.run Try.prog goFns insOrc 100000) = true := by decide +kernel
def m103_633 : Memo :=
  ⟨103, #[.agg #[.slice (some ⟨421, 0, none⟩) 4 4, .slice (some ⟨422, 0, none⟩) 2 3, inN 2, inN 100, inN 200, inN 200, inN 300, inN 500, inN 1000, inN 20, inN 50], .agg #[inN 3, inN 243], inN 10, inN 1], [(421, .cells #[inN 100, inN 10, inN 20, inN (-1), inN 150, inN 20, inN 30, inN (-1), inN 180, inN 20, inN 40, inN 10, inN 175, inN 10, inN 20, inN 0] 59 (0, 0)), (422, .cells #[inN 60, inN 0, inN 50, inN 0, inN 25, inN 20] 85 (0, 0))], 633, .tuple #[inN 208, .bool true], [], 645⟩
theorem m103_633_ok : isMemo m103_633 (m103_633.drun Try.prog goFns insOrc 100000) = true := by decide +kernel
def m115_657 : Memo :=
  ⟨115, #[.agg #[.slice none 0 0, inN 0], inN 1, inN 20], [], 657, .agg #[.slice (some ⟨662, 0, none⟩) 1 1, inN 20], [(662, .cells #[inN 1] 3 (0, 0))], 664⟩
theorem m115_657_ok : isMemo m115_657 (m115_657.run Try.prog goFns insOrc 100000) = true := by decide +kernel
def m108_666 : Memo :=
  ⟨108, #[.slice (some ⟨665, 0, none⟩) 3 1], [(651, .cells #[.slice (some ⟨662, 0, none⟩) 1 1, inN 20] 108 (0, 0)), (626, .cells #[.slice (some ⟨623, 0, none⟩) 1 1, inN 50, .slice (some ⟨623, 0, none⟩) 1 1, inN 50] 108 (0, 0)), (575, .cells #[.slice (some ⟨586, 0, none⟩) 1 1, inN 0] 108 (0, 0)), (665, .cells #[.slice (some ⟨575, 0, none⟩) 1 2, .slice (some ⟨626, 0, none⟩) 2 2, .slice (some ⟨651, 0, none⟩) 1 2] 130 (0, 0))], 666, .slice (some ⟨707, 0, none⟩) 2 2, [(707, .cells #[.slice (some ⟨586, 0, none⟩) 1 1, inN 0, .slice (some ⟨623, 0, none⟩) 1 1, inN 50] 108 (0, 0))], 717⟩
theorem m108_666_ok : isMemo m108_666 (m108_666.run Try.prog goFns insOrc 100000) = true := by decide +kernel
def m115_725 : Memo :=
  ⟨115, #[.agg #[.slice (some ⟨586, 0, none⟩) 1 1, inN 0], inN (-1), inN 0], [(586, .cells #[inN (-1)] 3 (0, 0))], 725, .agg #[.slice (some ⟨731, 0, none⟩) 2 1, inN 0], [(731, .cells #[inN (-1), inN (-1)] 3 (0, 0))], 733⟩
theorem m115_725_ok : isMemo m115_725 (m115_725.run Try.prog goFns insOrc 100000) = true := by decide +kernel
def m115_738 : Memo :=
  ⟨115, #[.agg #[.slice (some ⟨623, 0, none⟩) 1 1, inN 50], inN (-1), inN 0], [(623, .cells #[inN 0] 3 (0, 0))], 738, .agg #[.slice (some ⟨744, 0, none⟩) 2 1, inN 50], [(744, .cells #[inN (-1), inN 0] 3 (0, 0))], 746⟩
theorem m115_738_ok : isMemo m115_738 (m115_738.run Try.prog goFns insOrc 100000) = true := by decide +kernel
def m103_752 : Memo :=
  ⟨103, #[.agg #[.slice (some ⟨421, 0, none⟩) 4 4, .slice (some ⟨422, 0, none⟩) 2 3, inN 2, inN 100, inN 200, inN 200, inN 300, inN 500, inN 1000, inN 20, inN 50], .agg #[inN 2, inN 263], inN 20, inN 0], [(421, .cells #[inN 100, inN 10, inN 20, inN (-1), inN 150, inN 20, inN 30, inN (-1), inN 180, inN 20, inN 40, inN 10, inN 175, inN 10, inN 20, inN 0] 59 (0, 0)), (422, .cells #[inN 60, inN 0, inN 50, inN 0, inN 25, inN 20] 85 (0, 0))], 752, .tuple #[inN 243, .bool true], [], 764⟩
theorem m103_752_ok : isMemo m103_752 (m103_752.drun Try.prog goFns insOrc 100000) = true := by decide +kernel
def m115_775 : Memo :=
  ⟨115, #[.agg #[.slice (some ⟨586, 0, none⟩) 1 1, inN 0], inN 0, inN 50], [(586, .cells #[inN (-1)] 3 (0, 0))], 775, .agg #[.slice (some ⟨781, 0, none⟩) 2 1, inN 50], [(781, .cells #[inN 0, inN (-1)] 3 (0, 0))], 783⟩
theorem m115_775_ok : isMemo m115_775 (m115_775.run Try.prog goFns insOrc 100000) = true := by decide +kernel
def m115_788 : Memo :=
  ⟨115, #[.agg #[.slice (some ⟨623, 0, none⟩) 1 1, inN 50], inN 0, inN 50], [(623, .cells #[inN 0] 3 (0, 0))], 788, .agg #[.slice (some ⟨794, 0, none⟩) 2 1, inN 100], [(794, .cells #[inN 0, inN 0] 3 (0, 0))], 796⟩
theorem m115_788_ok : isMemo m115_788 (m115_788.run Try.prog goFns insOrc 100000) = true := by decide +kernel
def m103_802 : Memo :=
  ⟨103, #[.agg #[.slice (some ⟨421, 0, none⟩) 4 4, .slice (some ⟨422, 0, none⟩) 2 3, inN 2, inN 100, inN 200, inN 200, inN 300, inN 500, inN 1000, inN 20, inN 50], .agg #[inN 2, inN 263], inN 20, inN 1], [(421, .cells #[inN 100, inN 10, inN 20, inN (-1), inN 150, inN 20, inN 30, inN (-1), inN 180, inN 20, inN 40, inN 10, inN 175, inN 10, inN 20, inN 0] 59 (0, 0)), (422, .cells #[inN 60, inN 0, inN 50, inN 0, inN 25, inN 20] 85 (0, 0))], 802, .tuple #[inN 218, .bool true], [], 814⟩
theorem m103_802_ok : isMemo m103_802 (m103_802.drun Try.prog goFns insOrc 100000) = true := by decide +kernel
end Go.Proofs.Ytiigkdhaofaijaa

namespace Go.Proofs.Ytiigkdhaofaijaa
open Go Go.CE Go.RowKit
noncomputable def orc_m29_119 : Orc := orElse insOrc (memoOrc [m103_201, m103_264, m103_276, m103_288, m103_300])
theorem orc_m29_119_ok (B : Lo) : OrcS Try.prog B orc_m29_119 := orElse_ok (insOrc_ok _) (orcS_consD goFns_ok mixed_ok (insOrc_ok _) m103_201_ok (orcS_consD goFns_ok mixed_ok (insOrc_ok _) m103_264_ok (orcS_consD goFns_ok mixed_ok (insOrc_ok _) m103_276_ok (orcS_consD goFns_ok mixed_ok (insOrc_ok _) m103_288_ok (orcS_consD goFns_ok mixed_ok (insOrc_ok _) m103_300_ok (orcS_nil _ _))))))
def m29_119 : Memo :=
  ⟨29, #[.agg #[.slice (some ⟨115, 0, none⟩) 4 4, .slice (some ⟨116, 0, none⟩) 2 3, inN 2, inN 100, inN 200], .agg #[inN 200, inN 300, inN 500, inN 1000, inN 20, inN 50], .slice (some ⟨118, 0, none⟩) 4 1], [(115, .cells #[inN 100, inN 10, inN 20, inN (-1), inN 150, inN 20, inN 30, inN (-1), inN 180, inN 20, inN 40, inN 10, inN 175, inN 10, inN 20, inN 0] 59 (0, 0)), (116, .cells #[inN 60, inN 0, inN 50, inN 0, inN 25, inN 20] 85 (0, 0)), (118, .cells #[inN (-1), inN (-1), inN (-1), inN (-1)] 3 (0, 0))], 119, .tuple #[.slice (some ⟨155, 0, none⟩) 4 2, inN 0], [(155, .cells #[inN 0, inN 183, inN 0, inN 113, inN 0, inN 63, inN 0, inN 58] 25 (0, 0))], 320⟩
theorem m29_119_ok : isMemo m29_119 (m29_119.run Try.prog goFns orc_m29_119 100000) = true := by decide +kernel
end Go.Proofs.Ytiigkdhaofaijaa

namespace Go.Proofs.Ytiigkdhaofaijaa
open Go Go.CE Go.RowKit
noncomputable def orc_m24_326 : Orc := orElse insOrc (memoOrc [m103_396, m103_408])
theorem orc_m24_326_ok (B : Lo) : OrcS Try.prog B orc_m24_326 := orElse_ok (insOrc_ok _) (orcS_consD goFns_ok mixed_ok (insOrc_ok _) m103_396_ok (orcS_consD goFns_ok mixed_ok (insOrc_ok _) m103_408_ok (orcS_nil _ _)))
def m24_326 : Memo :=
  ⟨24, #[.agg #[.slice (some ⟨321, 0, none⟩) 4 4, .slice (some ⟨322, 0, none⟩) 2 3, inN 2, inN 100, inN 200], .agg #[inN 200, inN 300, inN 500, inN 1000, inN 20, inN 50], .slice (some ⟨324, 0, none⟩) 4 1, .agg #[inN 250, inN 800, inN 40, inN 150, .slice (some ⟨325, 0, none⟩) 4 1]], [(325, .cells #[inN 15, inN 25, inN 30, inN 15] 3 (0, 0)), (321, .cells #[inN 100, inN 10, inN 20, inN (-1), inN 150, inN 20, inN 30, inN (-1), inN 180, inN 20, inN 40, inN 10, inN 175, inN 10, inN 20, inN 0] 59 (0, 0)), (322, .cells #[inN 60, inN 0, inN 50, inN 0, inN 25, inN 20] 85 (0, 0)), (324, .cells #[inN (-1), inN (-1), inN (-1), inN (-1)] 3 (0, 0))], 326, .tuple #[.slice (some ⟨386, 0, none⟩) 4 1, inN 0], [(386, .cells #[inN 70, inN 0, inN 0, inN 0] 3 (0, 0))], 420⟩
theorem m24_326_ok : isMemo m24_326 (m24_326.run Try.prog goFns orc_m24_326 100000) = true := by decide +kernel
end Go.Proofs.Ytiigkdhaofaijaa
