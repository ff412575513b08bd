/- CanoeSets: the row and the tied card, from the walk. -/
import Derived.Test.YtiaaikkmipmhnaaGreatDoorZCS15
import Derived.Test.YtiaaikkmipmhnaaGreatDoorZCS13
import Derived.SevenTiedAt
import Derived.Test.YtiaaikkmipmhnaaGreatDoorCards
import Derived.Test.YtiaaikkmipmhnaaGreatDoorTie
import Derived.JoinedOf
import Derived.Test.YtiaaikkmipmhnaaGreatDoorZCS01
set_option linter.all false
namespace Go.Proofs.YtiaaikkmipmhnaaGreatDoor
open Go Go.CE Go.RowKit
theorem cour_in {s : CSea} (hs : seaB s = true) {c k : Int} (c0 : 0 ≤ c) (c1 : c < s.courses.length) (k0 : 0 ≤ k) (k1 : k < s.cells) : 1 ≤ (s.courses.getD c.toNat default).getD k.toNat default ∧ (s.courses.getD c.toNat default).getD k.toNat default ≤ topI s.cells := (course_row hs c0 c1).2 k k0 k1
def rSame_v0 (xs : List Int) (i : Int) : List Value := [topV 1 (slT xs.length (rowL encI xs)), topV 1 (slT xs.length (rowL encI xs)), .int .i64 i]
def rSame_o0 (xs : List Int) (i : Int) : List Obj := []
noncomputable def rSame_t0 : List Item := ([.code [1, 1, 0, 1, 0, 0], .inLoop [1, 1, 0, 1, 0, 0], .inBlock 0, .code [1, 1, 1]]).map (it (bodyOf Tryz.prog 16))
def rSame_h0 (B : Lo) (c0 : CF) (xs : List Int) (i : Int) : Prop := ∃ dJ : Nat → Value, (∀ t, Loose (dJ t)) ∧ GoE Tryz.prog B c0 H00 1 (headC 16 26 (([0, 1, 5] : List Nat).zip (rSame_v0 xs i)) dJ rSame_t0) (headH (rSame_o0 xs i)) (2 + (rSame_o0 xs i).length) []
set_option maxRecDepth 100000 in
theorem rSame_s0 (B : Lo) (xs : List Int) (i : Int) (dJ0 : Nat → Value) : landM (srunT Tryz.prog (okFn Tryz.prog) J0 B 14 1 (headC 16 26 (([0, 1, 5] : List Nat).zip (rSame_v0 xs i)) dJ0 rSame_t0) (headH (rSame_o0 xs i)) (2 + (rSame_o0 xs i).length)
    [(3, hvT), (6, HintT.tidx i.toNat #[Value.int IntKind.i64 (List.getD xs i.toNat default)]), (10, HintT.tidx i.toNat #[Value.int IntKind.i64 (List.getD xs i.toNat default)]), (12, hvF), (14, hvI (i + 1))] 0 [] []) [0, 1, 5] [] [] = some ⟨16, 26, rSame_t0, [], .run, none, rSame_v0 xs (i + 1), rSame_o0 xs (i + 1),
    [wq (i + 1) = i + 1, (!eqq (List.getD xs i.toNat default) (List.getD xs i.toNat default)) = false, i = (↑i.toNat : Int) ∧ Int.toNat i < List.length xs ∧ Array.extract (rowL encI xs) (Int.toNat i * TypeInfo.size Tryz.t3) (Int.toNat i * TypeInfo.size Tryz.t3 + TypeInfo.size Tryz.t3) = #[Value.int IntKind.i64 (List.getD xs i.toNat default)], i = (↑i.toNat : Int) ∧ Int.toNat i < List.length xs ∧ Array.extract (rowL encI xs) (Int.toNat i * TypeInfo.size Tryz.t3) (Int.toNat i * TypeInfo.size Tryz.t3 + TypeInfo.size Tryz.t3) = #[Value.int IntKind.i64 (List.getD xs i.toNat default)], ltq i (↑xs.length : Int) = true]⟩ := by kernel_rfl
set_option maxRecDepth 100000 in
theorem rSame_s1 (B : Lo) (xs : List Int) (i : Int) (dJ0 : Nat → Value) : endT (srunT Tryz.prog (okFn Tryz.prog) J0 B 9 1 (headC 16 26 (([0, 1, 5] : List Nat).zip (rSame_v0 xs i)) dJ0 rSame_t0) (headH (rSame_o0 xs i)) (2 + (rSame_o0 xs i).length)
    [(3, hvF)] 0 [] []) [] = some (Value.bool true,
    [ltq i (↑xs.length : Int) = false]) := by kernel_rfl
set_option maxRecDepth 100000 in
theorem rSame_s2 (B : Lo) (xs : List Int) : landM (srunT Tryz.prog (okFn Tryz.prog) J0 B 12 1 (entryC Tryz.prog 16 26 (([slI xs, slI xs]).map (pushT 0 4))) H00 1
    [(5, hvF)] 0 [] []) [0, 1, 5] [] [] = some ⟨16, 26, rSame_t0, [], .run, none, rSame_v0 xs (0), rSame_o0 xs (0),
    [(!eqq (↑xs.length : Int) (↑xs.length : Int)) = false]⟩ := by kernel_rfl
set_option maxHeartbeats 4000000 in
theorem rSame_ls (xs : List Int)  (hfacts : xs.length ≤ 9223372036854775807) {B : Lo} (hJ : ∀ w, B.has w → J0 w) {c0 : CF} : ∀ m : Nat, (∀ (i : Int), xs.length - i.toNat = m → ∀ (h0 : 0 ≤ i), rSame_h0 B c0 xs i → EndsT Tryz.prog B c0 (.bool true)) := by
  intro m0
  induction m0 using Nat.strongRecOn with
  | _ m0 ih0 =>
    intro i hm0 h0 ⟨dJ0, hdJ0, hg0⟩
    by_cases q0 : (i : Int) < ((↑xs.length : Int))
    ·
      exact ((ih0 _ (by omega)) (i + 1) rfl (by first | with_reducible assumption | omega | (simp_all; done))
        (hg0.landM okF hJ mixed_ok (rSame_s0 B xs i dJ0)
        ⟨(wq_in (by omega) (by omega)), ⟨(neqq_f rfl), ⟨⟨by omega, by omega, (rowL_extract (z := 1) (fun _ => rfl) (by first | omega | (rw [List.length_set]; omega) | (rw [List.length_replicate]; omega)))⟩, ⟨⟨by omega, by omega, (rowL_extract (z := 1) (fun _ => rfl) (by first | omega | (rw [List.length_set]; omega) | (rw [List.length_replicate]; omega)))⟩, ⟨(ltq_t q0), trivial⟩⟩⟩⟩⟩ (by kernel_rfl) (by kernel_rfl))).cast (by first | rfl | (simp [*]; done) | (simp_all []; done) | (simp_all []; omega))
    ·
      exact (GoE.endsT okF hJ mixed_ok hg0 (rSame_s1 B xs i dJ0)
        ⟨(ltq_f (Int.not_lt.1 q0)), trivial⟩).cast rfl
set_option maxHeartbeats 4000000 in
theorem rSame_e (xs : List Int)  (hfacts : xs.length ≤ 9223372036854775807) {B : Lo} (hJ : ∀ w, B.has w → J0 w) : EndsT Tryz.prog B (entryC Tryz.prog 16 26 (([slI xs, slI xs]).map (pushT 0 4))) (.bool true) := by
  exact ((rSame_ls xs hfacts hJ _) (0) rfl (by first | with_reducible assumption | omega | (simp_all; done))
    (GoE.start.landM okF hJ mixed_ok (rSame_s2 B xs)
    ⟨(neqq_f rfl), trivial⟩ (by kernel_rfl) (by kernel_rfl))).cast (by first | rfl | (simp [*]; done) | (simp_all []; done) | (simp_all []; omega))
theorem rSame (xs : List Int)  : PureC Tryz.prog J0 16 #[slI xs, slI xs] (.bool true) :=
  pureC_ofF (ts := [slI xs, slI xs]) (xs.length ≤ 9223372036854775807) (fun _ _ ht => ht.ln (i := 0) rfl) J0_st (c0 := entryC Tryz.prog 16 26 (([slI xs, slI xs]).map (pushT 0 4))) (by kernel_rfl) (by kernel_rfl) fun hfacts B hJ => rSame_e xs  hfacts hJ

def rPast_v0 (s : CSea) (l : List Hour) (k : Int) (zs : List Int) : List Value := [topV 1 (slT l.length (rowL encHour l)), pA 2 0, .slice (some ⟨3, 0, none⟩) (whL s l).length 1, .int .i64 k]
def rPast_o0 (s : CSea) (l : List Hour) (k : Int) (zs : List Int) : List Obj := [Obj.cells #[Value.int IntKind.i64 s.cells, Value.int IntKind.i64 s.start, topV 1 (slT s.courses.length (rowL slI2 s.courses)), topV 1 (slT s.stars.length (rowL encI s.stars)), topV 1 (slT s.boats.length (rowL encI s.boats)), topV 1 (slT s.roads.length (rowL encI s.roads))] 25, .cells (rowL encI zs) 3 (0, 0)]
noncomputable def rPast_t0 : List Item := ([.code [1, 1, 0, 1, 0, 0], .inLoop [1, 1, 0, 1, 0, 0], .inBlock 0, .code [1, 1, 1]]).map (it (bodyOf Tryz.prog 18))
def rPast_h0 (B : Lo) (c0 : CF) (s : CSea) (l : List Hour) (k : Int) (zs : List Int) : Prop := ∃ dJ : Nat → Value, (∀ t, Loose (dJ t)) ∧ GoE Tryz.prog B c0 H00 1 (headC 18 61 (([1, 2, 5, 6] : List Nat).zip (rPast_v0 s l k zs)) dJ rPast_t0) (headH (rPast_o0 s l k zs)) (2 + (rPast_o0 s l k zs).length) []
def rPast_v1 (s : CSea) (l : List Hour) (k : Int) (zs : List Int) (st j : Int) : List Value := [topV 1 (slT l.length (rowL encHour l)), pA 2 0, .slice (some ⟨3, 0, none⟩) (whL s l).length 1, .int .i64 k, .int .i64 st, .int .i64 j]
def rPast_o1 (s : CSea) (l : List Hour) (k : Int) (zs : List Int) (st j : Int) : List Obj := [Obj.cells #[Value.int IntKind.i64 s.cells, Value.int IntKind.i64 s.start, topV 1 (slT s.courses.length (rowL slI2 s.courses)), topV 1 (slT s.stars.length (rowL encI s.stars)), topV 1 (slT s.boats.length (rowL encI s.boats)), topV 1 (slT s.roads.length (rowL encI s.roads))] 25, .cells (rowL encI zs) 3 (0, 0)]
noncomputable def rPast_t1 : List Item := ([.code [1, 1, 0, 1, 0, 0, 1, 0, 0, 1, 0, 1, 0, 0], .inLoop [1, 1, 0, 1, 0, 0, 1, 0, 0, 1, 0, 1, 0, 0], .inBlock 2, .code [1, 1, 0, 1, 0, 0, 1, 0, 0, 1, 1], .inBlock 1, .code [1, 1, 0, 1, 0, 0, 1, 1], .inLoop [1, 1, 0, 1, 0, 0], .inBlock 0, .code [1, 1, 1]]).map (it (bodyOf Tryz.prog 18))
def rPast_h1 (B : Lo) (c0 : CF) (s : CSea) (l : List Hour) (k : Int) (zs : List Int) (st j : Int) : Prop := ∃ dJ : Nat → Value, (∀ t, Loose (dJ t)) ∧ GoE Tryz.prog B c0 H00 1 (headC 18 61 (([1, 2, 5, 6, 7, 8] : List Nat).zip (rPast_v1 s l k zs st j)) dJ rPast_t1) (headH (rPast_o1 s l k zs st j)) (2 + (rPast_o1 s l k zs st j).length) []
noncomputable def rPast_z0 (s : CSea) : Array Value := #[Value.int IntKind.i64 s.cells, Value.int IntKind.i64 s.start, slT s.courses.length (rowL slI2 s.courses), slT s.stars.length (rowL encI s.stars), slT s.boats.length (rowL encI s.boats), slT s.roads.length (rowL encI s.roads)]
noncomputable def rPast_z1 (l : List Hour) (i : Int) : Array Value := #[Value.int IntKind.i64 (Hour.course (List.getD l i.toNat default)), Value.int IntKind.i64 (Hour.star (List.getD l i.toNat default))]
set_option maxRecDepth 100000 in
theorem rPast_s0 (B : Lo) (s : CSea) (l : List Hour) (k : Int) (zs : List Int) (dJ0 : Nat → Value) : landM (srunT Tryz.prog (okFn Tryz.prog) J0 B 14 1 (headC 18 61 (([1, 2, 5, 6] : List Nat).zip (rPast_v0 s l k zs)) dJ0 rPast_t0) (headH (rPast_o0 s l k zs)) (2 + (rPast_o0 s l k zs).length)
    [(1, hvT)] 0 [] []) [1, 2, 5, 6, 7, 8] [(2, KS.auto), (3, KS.cells [] (rowL encI zs))] [] = some ⟨18, 61, rPast_t1, [], .run, none, rPast_v1 s l (k) (zs) (0) (0), rPast_o1 s l (k) (zs) (0) (0),
    [CellsM 1 [] (rowL encI zs) (rowL encI zs), (!ltq k 0) = true]⟩ := by kernel_rfl
set_option maxRecDepth 100000 in
theorem rPast_s1 (B : Lo) (s : CSea) (l : List Hour) (k : Int) (zs : List Int) (dJ0 : Nat → Value) : endT (srunT Tryz.prog (okFn Tryz.prog) J0 B 9 1 (headC 18 61 (([1, 2, 5, 6] : List Nat).zip (rPast_v0 s l k zs)) dJ0 rPast_t0) (headH (rPast_o0 s l k zs)) (2 + (rPast_o0 s l k zs).length)
    [(1, hvF)] 0 [] []) [{ k := 3, rs := [], cs := rowL encI zs }] = some (slT (List.length (whL s l)) (Fz.cs { k := 3, rs := [], cs := rowL encI zs }),
    [CellsT (Fz.rs { k := 3, rs := [], cs := rowL encI zs }) (rowL encI zs) (Fz.cs { k := 3, rs := [], cs := rowL encI zs }), (!ltq k 0) = false]) := by kernel_rfl
noncomputable def rPast_p0 (B : Lo) (s : CSea) (l : List Hour) (k : Int) (zs : List Int) (st j : Int) (dJ0 : Nat → Value) : List Prop := [(rowL encI zs)[0 + Int.toNat k * 1]? = some (Value.int IntKind.i64 (List.getD zs k.toNat default)), k = (↑k.toNat : Int) ∧ Int.toNat k < List.length (whL s l), ltq j s.cells = true] ++ ([] : List Prop)
noncomputable def rPast_q0 (s : CSea) (l : List Hour) (k : Int) (zs : List Int) (st j : Int) (dJ0 : Nat → Value) : ScriptT := [(3, hvT), (6, HintT.old (Hint.idx k.toNat)), (7, HintT.old (Hint.ld (Value.int IntKind.i64 (List.getD zs k.toNat default))))]
noncomputable def rPast_p1 (B : Lo) (s : CSea) (l : List Hour) (k : Int) (zs : List Int) (st j : Int) (dJ0 : Nat → Value) : List Prop := [AllP [] ∧ PureC Tryz.prog J0 39 #[Value.agg (rPast_z0 s), Value.int IntKind.i64 (List.getD (List.getD s.courses (Int.toNat (Hour.course (List.getD l k.toNat default))) default) j.toNat default), Value.int IntKind.i64 (List.getD zs (Int.toNat (k + 1)) default)] (Value.int IntKind.i64 (↑(andN (List.getD (List.getD s.courses (Int.toNat (Hour.course (List.getD l k.toNat default))) default) j.toNat default) (List.getD zs (Int.toNat (k + 1)) default)) : Int)), (rowL encI zs)[0 + Int.toNat (k + 1) * 1]? = some (Value.int IntKind.i64 (List.getD zs (Int.toNat (k + 1)) default)), k + 1 = (↑(Int.toNat (k + 1)) : Int) ∧ Int.toNat (k + 1) < List.length (whL s l), wq (k + 1) = k + 1, j = (↑j.toNat : Int) ∧ Int.toNat j < List.length (List.getD s.courses (Int.toNat (Hour.course (List.getD l k.toNat default))) default) ∧ Array.extract (rowL encI (List.getD s.courses (Int.toNat (Hour.course (List.getD l k.toNat default))) default)) (Int.toNat j * TypeInfo.size Tryz.t3) (Int.toNat j * TypeInfo.size Tryz.t3 + TypeInfo.size Tryz.t3) = #[Value.int IntKind.i64 (List.getD (List.getD s.courses (Int.toNat (Hour.course (List.getD l k.toNat default))) default) j.toNat default)], Hour.course (List.getD l k.toNat default) = (↑(Int.toNat (Hour.course (List.getD l k.toNat default))) : Int) ∧ Int.toNat (Hour.course (List.getD l k.toNat default)) < List.length s.courses ∧ Array.extract (rowL slI2 s.courses) (Int.toNat (Hour.course (List.getD l k.toNat default)) * TypeInfo.size Tryz.t23) (Int.toNat (Hour.course (List.getD l k.toNat default)) * TypeInfo.size Tryz.t23 + TypeInfo.size Tryz.t23) = #[slT (List.length (List.getD s.courses (Int.toNat (Hour.course (List.getD l k.toNat default))) default)) (rowL encI (List.getD s.courses (Int.toNat (Hour.course (List.getD l k.toNat default))) default))], k = (↑k.toNat : Int) ∧ Int.toNat k < List.length l ∧ Array.extract (rowL encHour l) (Int.toNat k * TypeInfo.size Tryz.t49) (Int.toNat k * TypeInfo.size Tryz.t49 + TypeInfo.size Tryz.t49) = #[Value.int IntKind.i64 (Hour.course (List.getD l k.toNat default)), Value.int IntKind.i64 (Hour.star (List.getD l k.toNat default))], AllP [] ∧ PureC Tryz.prog J0 22 #[Value.int IntKind.i64 (List.getD zs k.toNat default), Value.int IntKind.i64 j] (Value.bool true)] ++ rPast_p0 B s l k zs st j dJ0
noncomputable def rPast_q1 (s : CSea) (l : List Hour) (k : Int) (zs : List Int) (st j : Int) (dJ0 : Nat → Value) : ScriptT := rPast_q0 s l k zs st j dJ0 ++ [(9, HintT.pure (Value.bool true) []), (16, HintT.tidx k.toNat #[Value.int IntKind.i64 (Hour.course (List.getD l k.toNat default)), Value.int IntKind.i64 (Hour.star (List.getD l k.toNat default))]), (19, HintT.tidx (Int.toNat (Hour.course (List.getD l k.toNat default))) #[slT (List.length (List.getD s.courses (Int.toNat (Hour.course (List.getD l k.toNat default))) default)) (rowL encI (List.getD s.courses (Int.toNat (Hour.course (List.getD l k.toNat default))) default))]), (22, HintT.tidx j.toNat #[Value.int IntKind.i64 (List.getD (List.getD s.courses (Int.toNat (Hour.course (List.getD l k.toNat default))) default) j.toNat default)]), (26, hvI (k + 1)), (27, HintT.old (Hint.idx (Int.toNat (k + 1)))), (28, HintT.old (Hint.ld (Value.int IntKind.i64 (List.getD zs (Int.toNat (k + 1)) default)))), (29, HintT.pure (Value.int IntKind.i64 (↑(andN (List.getD (List.getD s.courses (Int.toNat (Hour.course (List.getD l k.toNat default))) default) j.toNat default) (List.getD zs (Int.toNat (k + 1)) default)) : Int)) [])]
set_option maxRecDepth 100000 in
theorem rPast_s2 (B : Lo) (s : CSea) (l : List Hour) (k : Int) (zs : List Int) (st j : Int) (dJ0 : Nat → Value) : landM (srunT Tryz.prog (okFn Tryz.prog) J0 B 14 1 (headC 18 61 (([1, 2, 5, 6, 7, 8] : List Nat).zip (rPast_v1 s l k zs st j)) dJ0 rPast_t1) (headH (rPast_o1 s l k zs st j)) (2 + (rPast_o1 s l k zs st j).length)
    (rPast_q1 s l k zs st j dJ0 ++ [(30, hvT), (34, HintT.pure (Value.int IntKind.i64 (setW st j)) []), (37, hvI (j + 1))]) 0 [] []) [1, 2, 5, 6, 7, 8] [(2, KS.auto), (3, KS.cells [] (rowL encI zs))] [] = some ⟨18, 61, rPast_t1, [], .run, none, rPast_v1 s l (k) (zs) (setW st j) (j + 1), rPast_o1 s l (k) (zs) (setW st j) (j + 1),
    [CellsM 1 [] (rowL encI zs) (rowL encI zs), wq (j + 1) = j + 1, AllP [] ∧ PureC Tryz.prog J0 40 #[Value.int IntKind.i64 st, Value.int IntKind.i64 j] (Value.int IntKind.i64 (setW st j)), (!eqq (↑(andN (List.getD (List.getD s.courses (Int.toNat (Hour.course (List.getD l k.toNat default))) default) j.toNat default) (List.getD zs (Int.toNat (k + 1)) default)) : Int) 0) = true] ++ rPast_p1 B s l k zs st j dJ0⟩ := by kernel_rfl
set_option maxRecDepth 100000 in
theorem rPast_s3 (B : Lo) (s : CSea) (l : List Hour) (k : Int) (zs : List Int) (st j : Int) (dJ0 : Nat → Value) : landM (srunT Tryz.prog (okFn Tryz.prog) J0 B 14 1 (headC 18 61 (([1, 2, 5, 6, 7, 8] : List Nat).zip (rPast_v1 s l k zs st j)) dJ0 rPast_t1) (headH (rPast_o1 s l k zs st j)) (2 + (rPast_o1 s l k zs st j).length)
    (rPast_q1 s l k zs st j dJ0 ++ [(30, hvF), (33, hvI (j + 1))]) 0 [] []) [1, 2, 5, 6, 7, 8] [(2, KS.auto), (3, KS.cells [] (rowL encI zs))] [] = some ⟨18, 61, rPast_t1, [], .run, none, rPast_v1 s l (k) (zs) (st) (j + 1), rPast_o1 s l (k) (zs) (st) (j + 1),
    [CellsM 1 [] (rowL encI zs) (rowL encI zs), wq (j + 1) = j + 1, (!eqq (↑(andN (List.getD (List.getD s.courses (Int.toNat (Hour.course (List.getD l k.toNat default))) default) j.toNat default) (List.getD zs (Int.toNat (k + 1)) default)) : Int) 0) = false] ++ rPast_p1 B s l k zs st j dJ0⟩ := by kernel_rfl
set_option maxRecDepth 100000 in
theorem rPast_s4 (B : Lo) (s : CSea) (l : List Hour) (k : Int) (zs : List Int) (st j : Int) (dJ0 : Nat → Value) : landM (srunT Tryz.prog (okFn Tryz.prog) J0 B 14 1 (headC 18 61 (([1, 2, 5, 6, 7, 8] : List Nat).zip (rPast_v1 s l k zs st j)) dJ0 rPast_t1) (headH (rPast_o1 s l k zs st j)) (2 + (rPast_o1 s l k zs st j).length)
    (rPast_q0 s l k zs st j dJ0 ++ [(9, HintT.pure (Value.bool false) []), (33, hvI (j + 1))]) 0 [] []) [1, 2, 5, 6, 7, 8] [(2, KS.auto), (3, KS.cells [] (rowL encI zs))] [] = some ⟨18, 61, rPast_t1, [], .run, none, rPast_v1 s l (k) (zs) (st) (j + 1), rPast_o1 s l (k) (zs) (st) (j + 1),
    [CellsM 1 [] (rowL encI zs) (rowL encI zs), wq (j + 1) = j + 1, AllP [] ∧ PureC Tryz.prog J0 22 #[Value.int IntKind.i64 (List.getD zs k.toNat default), Value.int IntKind.i64 j] (Value.bool false)] ++ rPast_p0 B s l k zs st j dJ0⟩ := by kernel_rfl
set_option maxRecDepth 100000 in
theorem rPast_s5 (B : Lo) (s : CSea) (l : List Hour) (k : Int) (zs : List Int) (st j : Int) (dJ0 : Nat → Value) : landM (srunT Tryz.prog (okFn Tryz.prog) J0 B 9 1 (headC 18 61 (([1, 2, 5, 6, 7, 8] : List Nat).zip (rPast_v1 s l k zs st j)) dJ0 rPast_t1) (headH (rPast_o1 s l k zs st j)) (2 + (rPast_o1 s l k zs st j).length)
    [(3, hvF), (7, HintT.old (Hint.idx k.toNat)), (8, HintT.old (Hint.st (rowL encI (List.set zs k.toNat st)))), (10, hvI (k - 1))] 0 [] []) [1, 2, 5, 6] [(2, KS.auto), (3, KS.cells [] (rowL encI (List.set zs k.toNat st)))] [] = some ⟨18, 61, rPast_t0, [], .run, none, rPast_v0 s l (k - 1) (List.set zs k.toNat st), rPast_o0 s l (k - 1) (List.set zs k.toNat st),
    [CellsM 1 [] (rowL encI (List.set zs k.toNat st)) (rowL encI (List.set zs k.toNat st)), wq (k - 1) = k - 1, 0 + Int.toNat k * 1 + TypeInfo.size Tryz.t3 ≤ Array.size (rowL encI zs) ∧ splice (rowL encI zs) (0 + Int.toNat k * 1) (Value.cells (tget { len := 16000, tr := Tri.set 14 (Tri.set 14 Tri.lf 58 (Value.int IntKind.i64 st)) 59 (Value.pointer (some { block := 3, off := 0 + Int.toNat k * 1 })) } 58)) = rowL encI (List.set zs k.toNat st), k = (↑k.toNat : Int) ∧ Int.toNat k < List.length (whL s l), ltq j s.cells = false]⟩ := by kernel_rfl
noncomputable def rPast_H0 (s : CSea) (l : List Hour) : Heap := [(1, Obj.cells #[Value.int IntKind.i64 s.cells, Value.int IntKind.i64 s.start, topV 0 (slT s.courses.length (rowL slI2 s.courses)), topV 0 (slT s.stars.length (rowL encI s.stars)), topV 0 (slT s.boats.length (rowL encI s.boats)), topV 0 (slT s.roads.length (rowL encI s.roads))] 25), (0, Obj.coro none)]
noncomputable def rPast_c0 (s : CSea) (l : List Hour) : CF := ⟨17, ofList 51 [Value.agg #[Value.int IntKind.i64 s.cells, Value.int IntKind.i64 s.start, topV 0 (slT s.courses.length (rowL slI2 s.courses)), topV 0 (slT s.stars.length (rowL encI s.stars)), topV 0 (slT s.boats.length (rowL encI s.boats)), topV 0 (slT s.roads.length (rowL encI s.roads))], topV 0 (slT l.length (rowL encHour l))], [Item.code (bodyOf Tryz.prog 17)], [], .run, none⟩
noncomputable def rPast_k1_v0 (s : CSea) (l : List Hour) (i : Int) (ys : List Int) (yn : Nat) : List Value := [topV 0 (slT l.length (rowL encHour l)), pA 3 0, .slice (some ⟨4, 0, none⟩) yn 1, .int .i64 i]
noncomputable def rPast_k1_w0 (s : CSea) (l : List Hour) (i : Int) (ys : List Int) (yn : Nat) : List Obj := []
noncomputable def rPast_k1_o0 (s : CSea) (l : List Hour) (i : Int) (ys : List Int) (yn : Nat) : List Obj := [Obj.cells #[Value.int IntKind.i64 s.cells, Value.int IntKind.i64 s.start, topV 0 (slT s.courses.length (rowL slI2 s.courses)), topV 0 (slT s.stars.length (rowL encI s.stars)), topV 0 (slT s.boats.length (rowL encI s.boats)), topV 0 (slT s.roads.length (rowL encI s.roads))] 25, .cells (rowL encI ys) 3 (0, 0)]
noncomputable def rPast_k1_t0 : List Item := ([.code [1, 1, 0, 1, 0, 0], .inLoop [1, 1, 0, 1, 0, 0], .inBlock 0, .code [1, 1, 1]]).map (it (bodyOf Tryz.prog 17))
noncomputable def rPast_p2 (B : Lo) (s : CSea) (l : List Hour) (i : Int) (ys : List Int) (yn : Nat) (dJ0 : Nat → Value) : List Prop := [i = (↑i.toNat : Int) ∧ Int.toNat i < List.length l ∧ Array.extract (rowL encHour l) (Int.toNat i * TypeInfo.size Tryz.t49) (Int.toNat i * TypeInfo.size Tryz.t49 + TypeInfo.size Tryz.t49) = (rPast_z1 l i), AllP [] ∧ PureC Tryz.prog J0 38 #[Value.agg (rPast_z0 s), Value.int IntKind.i64 (Hour.course (List.getD l i.toNat default)), Value.int IntKind.i64 (List.getD ys i.toNat default)] (Value.int IntKind.i64 (leadI (List.getD s.courses (Int.toNat (Hour.course (List.getD l i.toNat default))) default) (List.getD ys i.toNat default) 0 0)), (rowL encI ys)[0 + Int.toNat i * 1]? = some (Value.int IntKind.i64 (List.getD ys i.toNat default)), i = (↑i.toNat : Int) ∧ Int.toNat i < yn, i = (↑i.toNat : Int) ∧ Int.toNat i < List.length l ∧ Array.extract (rowL encHour l) (Int.toNat i * TypeInfo.size Tryz.t49) (Int.toNat i * TypeInfo.size Tryz.t49 + TypeInfo.size Tryz.t49) = (rPast_z1 l i), ltq i (↑l.length : Int) = true] ++ ([] : List Prop)
noncomputable def rPast_q2 (s : CSea) (l : List Hour) (i : Int) (ys : List Int) (yn : Nat) (dJ0 : Nat → Value) : ScriptT := [(3, hvT), (7, HintT.tidx i.toNat (rPast_z1 l i)), (12, HintT.old (Hint.idx i.toNat)), (13, HintT.old (Hint.ld (Value.int IntKind.i64 (List.getD ys i.toNat default)))), (14, HintT.pure (Value.int IntKind.i64 (leadI (List.getD s.courses (Int.toNat (Hour.course (List.getD l i.toNat default))) default) (List.getD ys i.toNat default) 0 0)) []), (18, HintT.tidx i.toNat (rPast_z1 l i))]
set_option maxRecDepth 100000 in
theorem rPast_s7 (B : Lo) (s : CSea) (l : List Hour) (i : Int) (ys : List Int) (yn : Nat) (dJ0 : Nat → Value) : CE.landA 2 (srunT Tryz.prog (okFn Tryz.prog) J0 B 18 2 (headR (none) 17 51 (([1, 2, 5, 6] : List Nat).zip (rPast_k1_v0 s l i ys yn)) dJ0 rPast_k1_t0) (headA (rPast_H0 s l) 2 (([] : List Nat).zip (rPast_k1_w0 s l i ys yn)) (rPast_k1_o0 s l i ys yn)) (2 + 1 + (rPast_k1_o0 s l i ys yn).length)
    (rPast_q2 s l i ys yn dJ0 ++ [(21, hvT), (28, HintT.tidx i.toNat (rPast_z1 l i)), (31, HintT.tidx (Int.toNat (Hour.star (List.getD l i.toNat default))) #[Value.int IntKind.i64 (List.getD s.stars (Int.toNat (Hour.star (List.getD l i.toNat default))) default)]), (33, HintT.pure (Value.int IntKind.i64 (↑(andN (leadI (List.getD s.courses (Int.toNat (Hour.course (List.getD l i.toNat default))) default) (List.getD ys i.toNat default) 0 0) (List.getD s.stars (Int.toNat (Hour.star (List.getD l i.toNat default))) default)) : Int)) []), (38, HintT.old (Hint.app (rowL encI (ys ++ [(↑(andN (leadI (List.getD s.courses (Int.toNat (Hour.course (List.getD l i.toNat default))) default) (List.getD ys i.toNat default) 0 0) (List.getD s.stars (Int.toNat (Hour.star (List.getD l i.toNat default))) default)) : Int)])))), (41, hvI (i + 1))]) 0 [] []) [1, 2, 5, 6] [] [(3, KS.auto), (6, KS.cells [] (rowL encI (ys ++ [(↑(andN (leadI (List.getD s.courses (Int.toNat (Hour.course (List.getD l i.toNat default))) default) (List.getD ys i.toNat default) 0 0) (List.getD s.stars (Int.toNat (Hour.star (List.getD l i.toNat default))) default)) : Int)])))] [] = some ⟨17, 51, rPast_k1_t0, [], .run, none, rPast_k1_v0 s l (i + 1) (ys ++ [(↑(andN (leadI (List.getD s.courses (Int.toNat (Hour.course (List.getD l i.toNat default))) default) (List.getD ys i.toNat default) 0 0) (List.getD s.stars (Int.toNat (Hour.star (List.getD l i.toNat default))) default)) : Int)]) (yn + 1), ([] : List Nat).zip (rPast_k1_w0 s l (i + 1) (ys ++ [(↑(andN (leadI (List.getD s.courses (Int.toNat (Hour.course (List.getD l i.toNat default))) default) (List.getD ys i.toNat default) 0 0) (List.getD s.stars (Int.toNat (Hour.star (List.getD l i.toNat default))) default)) : Int)]) (yn + 1)), rPast_k1_o0 s l (i + 1) (ys ++ [(↑(andN (leadI (List.getD s.courses (Int.toNat (Hour.course (List.getD l i.toNat default))) default) (List.getD ys i.toNat default) 0 0) (List.getD s.stars (Int.toNat (Hour.star (List.getD l i.toNat default))) default)) : Int)]) (yn + 1),
    [CellsM 2 [] (rowL encI (ys ++ [(↑(andN (leadI (List.getD s.courses (Int.toNat (Hour.course (List.getD l i.toNat default))) default) (List.getD ys i.toNat default) 0 0) (List.getD s.stars (Int.toNat (Hour.star (List.getD l i.toNat default))) default)) : Int)])) (rowL encI (ys ++ [(↑(andN (leadI (List.getD s.courses (Int.toNat (Hour.course (List.getD l i.toNat default))) default) (List.getD ys i.toNat default) 0 0) (List.getD s.stars (Int.toNat (Hour.star (List.getD l i.toNat default))) default)) : Int)])), wq (i + 1) = i + 1, Array.size (rowL encI ys) = yn * (0 + 1) ∧ yn + 1 ≤ maxLen ∧ (yn + 1) * 8 ≤ 140737488355328 ∧ rowL encI ys ++ #[Value.int IntKind.i64 (↑(andN (leadI (List.getD s.courses (Int.toNat (Hour.course (List.getD l i.toNat default))) default) (List.getD ys i.toNat default) 0 0) (List.getD s.stars (Int.toNat (Hour.star (List.getD l i.toNat default))) default)) : Int)] = rowL encI (ys ++ [(↑(andN (leadI (List.getD s.courses (Int.toNat (Hour.course (List.getD l i.toNat default))) default) (List.getD ys i.toNat default) 0 0) (List.getD s.stars (Int.toNat (Hour.star (List.getD l i.toNat default))) default)) : Int)]), AllP [] ∧ PureC Tryz.prog J0 39 #[Value.agg (rPast_z0 s), Value.int IntKind.i64 (leadI (List.getD s.courses (Int.toNat (Hour.course (List.getD l i.toNat default))) default) (List.getD ys i.toNat default) 0 0), Value.int IntKind.i64 (List.getD s.stars (Int.toNat (Hour.star (List.getD l i.toNat default))) default)] (Value.int IntKind.i64 (↑(andN (leadI (List.getD s.courses (Int.toNat (Hour.course (List.getD l i.toNat default))) default) (List.getD ys i.toNat default) 0 0) (List.getD s.stars (Int.toNat (Hour.star (List.getD l i.toNat default))) default)) : Int)), Hour.star (List.getD l i.toNat default) = (↑(Int.toNat (Hour.star (List.getD l i.toNat default))) : Int) ∧ Int.toNat (Hour.star (List.getD l i.toNat default)) < List.length s.stars ∧ Array.extract (rowL encI s.stars) (Int.toNat (Hour.star (List.getD l i.toNat default)) * TypeInfo.size Tryz.t3) (Int.toNat (Hour.star (List.getD l i.toNat default)) * TypeInfo.size Tryz.t3 + TypeInfo.size Tryz.t3) = #[Value.int IntKind.i64 (List.getD s.stars (Int.toNat (Hour.star (List.getD l i.toNat default))) default)], i = (↑i.toNat : Int) ∧ Int.toNat i < List.length l ∧ Array.extract (rowL encHour l) (Int.toNat i * TypeInfo.size Tryz.t49) (Int.toNat i * TypeInfo.size Tryz.t49 + TypeInfo.size Tryz.t49) = (rPast_z1 l i), (!ltq (Hour.star (List.getD l i.toNat default)) 0) = true] ++ rPast_p2 B s l i ys yn dJ0⟩ := by kernel_rfl
set_option maxRecDepth 100000 in
theorem rPast_s8 (B : Lo) (s : CSea) (l : List Hour) (i : Int) (ys : List Int) (yn : Nat) (dJ0 : Nat → Value) : CE.landA 2 (srunT Tryz.prog (okFn Tryz.prog) J0 B 18 2 (headR (none) 17 51 (([1, 2, 5, 6] : List Nat).zip (rPast_k1_v0 s l i ys yn)) dJ0 rPast_k1_t0) (headA (rPast_H0 s l) 2 (([] : List Nat).zip (rPast_k1_w0 s l i ys yn)) (rPast_k1_o0 s l i ys yn)) (2 + 1 + (rPast_k1_o0 s l i ys yn).length)
    (rPast_q2 s l i ys yn dJ0 ++ [(21, hvF), (25, HintT.old (Hint.app (rowL encI (ys ++ [leadI (List.getD s.courses (Int.toNat (Hour.course (List.getD l i.toNat default))) default) (List.getD ys i.toNat default) 0 0])))), (28, hvI (i + 1))]) 0 [] []) [1, 2, 5, 6] [] [(3, KS.auto), (6, KS.cells [] (rowL encI (ys ++ [leadI (List.getD s.courses (Int.toNat (Hour.course (List.getD l i.toNat default))) default) (List.getD ys i.toNat default) 0 0])))] [] = some ⟨17, 51, rPast_k1_t0, [], .run, none, rPast_k1_v0 s l (i + 1) (ys ++ [leadI (List.getD s.courses (Int.toNat (Hour.course (List.getD l i.toNat default))) default) (List.getD ys i.toNat default) 0 0]) (yn + 1), ([] : List Nat).zip (rPast_k1_w0 s l (i + 1) (ys ++ [leadI (List.getD s.courses (Int.toNat (Hour.course (List.getD l i.toNat default))) default) (List.getD ys i.toNat default) 0 0]) (yn + 1)), rPast_k1_o0 s l (i + 1) (ys ++ [leadI (List.getD s.courses (Int.toNat (Hour.course (List.getD l i.toNat default))) default) (List.getD ys i.toNat default) 0 0]) (yn + 1),
    [CellsM 2 [] (rowL encI (ys ++ [leadI (List.getD s.courses (Int.toNat (Hour.course (List.getD l i.toNat default))) default) (List.getD ys i.toNat default) 0 0])) (rowL encI (ys ++ [leadI (List.getD s.courses (Int.toNat (Hour.course (List.getD l i.toNat default))) default) (List.getD ys i.toNat default) 0 0])), wq (i + 1) = i + 1, Array.size (rowL encI ys) = yn * (0 + 1) ∧ yn + 1 ≤ maxLen ∧ (yn + 1) * 8 ≤ 140737488355328 ∧ rowL encI ys ++ #[Value.int IntKind.i64 (leadI (List.getD s.courses (Int.toNat (Hour.course (List.getD l i.toNat default))) default) (List.getD ys i.toNat default) 0 0)] = rowL encI (ys ++ [leadI (List.getD s.courses (Int.toNat (Hour.course (List.getD l i.toNat default))) default) (List.getD ys i.toNat default) 0 0]), (!ltq (Hour.star (List.getD l i.toNat default)) 0) = false] ++ rPast_p2 B s l i ys yn dJ0⟩ := by kernel_rfl
set_option maxRecDepth 100000 in
theorem rPast_s9 (B : Lo) (s : CSea) (l : List Hour) (i : Int) (ys : List Int) (yn : Nat) (dJ0 : Nat → Value) : CE.finK 2 (srunT Tryz.prog (okFn Tryz.prog) J0 B 9 2 (headR (none) 17 51 (([1, 2, 5, 6] : List Nat).zip (rPast_k1_v0 s l i ys yn)) dJ0 rPast_k1_t0) (headA (rPast_H0 s l) 2 (([] : List Nat).zip (rPast_k1_w0 s l i ys yn)) (rPast_k1_o0 s l i ys yn)) (2 + 1 + (rPast_k1_o0 s l i ys yn).length)
    [(3, hvF)] 0 [] []) [] [(4, KS.cells [] (rowL encI ys))] [] = some (OO.ret (Value.slice (some { block := 3, off := 0 }) yn 1), [], [Obj.cells (rowL encI ys) 3],
    [CellsM 2 [] (rowL encI ys) (rowL encI ys), ltq i (↑l.length : Int) = false]) := by kernel_rfl
set_option maxHeartbeats 4000000 in
theorem rPast_k1_ls (s : CSea) (l : List Hour) (hs : seaB s = true) (hl : logB s l = true) (hn : (l.length : Int) ≤ 12) {B : Lo} (hJ : ∀ w, B.has w → J0 w) : ∀ m : Nat, (∀ (i : Int) (ys : List Int) (yn : Nat), 100000 + (l.length - i.toNat) = m → ∀ (i0 : 0 ≤ i) (i1 : i ≤ l.length) (hyn : yn = ys.length) (hy : ys = (whL s l).take (i + 1).toNat), (∃ dJ0 : Nat → Value, (∀ t, Loose (dJ0 t)) ∧ GoE Tryz.prog B (rPast_c0 s l) (rPast_H0 s l) 2 (headR (none) 17 51 (([1, 2, 5, 6] : List Nat).zip (rPast_k1_v0 s l i ys yn)) dJ0 rPast_k1_t0) (headA (rPast_H0 s l) 2 (([] : List Nat).zip (rPast_k1_w0 s l i ys yn)) (rPast_k1_o0 s l i ys yn)) (2 + 1 + (rPast_k1_o0 s l i ys yn).length) ([] : List Nat)) → FinK Tryz.prog B (rPast_c0 s l) (rPast_H0 s l) 2 (.ret (.slice (some ⟨3, 0, none⟩) (whL s l).length 1)) (([] : List Nat).zip ([])) ([.cells (rowL encI (whL s l)) 3 (0, 0)]) ([] : List Nat)) := by
  intro m0
  induction m0 using Nat.strongRecOn with
  | _ m0 ih0 =>
    intro i ys yn hm0 i0 i1 hyn hy ⟨dJ0, hdJ0, hg0⟩
    have hsf := sea_facts hs
    have hwl := whL_len (s := s) (l := l)
    have hsf := sea_facts hs
    have hwl := whL_len (s := s) (l := l)
    have hyl : (ys.length : Int) = i + 1 := by rw [hy, List.length_take, hwl]; omega
    by_cases q0 : (i : Int) < ((↑l.length : Int))
    ·
      have hp2 : AllP (rPast_p2 B s l i ys yn dJ0) := by
        try have hhi := log_in hl i0 q0
        try have hhf := hour_facts hhi
        try have hyk : ys.getD i.toNat default = (whL s l).getD i.toNat default := by rw [hy]; exact take_getD (by omega)
        try have hwk := whL_get hs hl i0 (by omega)
        try have hcr := course_row hs hhf.1.1 hhf.1.2
        try have hlt := lead_top (fr := ys.getD i.toNat default) hcr.2 (by omega) (by omega) (by omega) _ 0 0 (by omega) rfl (by omega) topI_0
        try have hst := star_in hs (k := (l.getD i.toNat default).star) (by omega) hhf.2.2
        try have haf : ((andN (leadI (s.courses.getD (l.getD i.toNat default).course.toNat default) (ys.getD i.toNat default) 0 0) (s.stars.getD (l.getD i.toNat default).star.toNat default) : Nat) : Int) = aftI s (l.getD i.toNat default) (ys.getD i.toNat default) := by unfold aftI starI; rw [if_neg (show ¬ (l.getD i.toNat default).star = -1 by omega)]
        try have haf : leadI (s.courses.getD (l.getD i.toNat default).course.toNat default) (ys.getD i.toNat default) 0 0 = aftI s (l.getD i.toNat default) (ys.getD i.toNat default) := by unfold aftI starI; rw [if_pos (show (l.getD i.toNat default).star = -1 by omega)]
        exact ⟨⟨by omega, by omega, (rowL_extract (z := 2) (fun _ => rfl) (by first | omega | (rw [List.length_set]; omega) | (rw [List.length_replicate]; omega)))⟩, ⟨⟨trivial, rImage (s) (Hour.course (List.getD l i.toNat default)) (List.getD ys i.toNat default) (by first | with_reducible assumption | omega | simp_all) (by first | with_reducible assumption | omega | simp_all) (by first | with_reducible assumption | omega | simp_all) (by first | with_reducible assumption | omega | simp_all) (by first | with_reducible assumption | omega | simp_all)⟩, ⟨(by exact rowL_ld0 (z := 1) (j := 0) (k := Int.toNat i) (fun _ => rfl) (by first | omega | (rw [List.length_set]; omega) | (rw [List.length_replicate]; omega)) rfl), ⟨⟨by omega, by omega⟩, ⟨⟨by omega, by omega, (rowL_extract (z := 2) (fun _ => rfl) (by first | omega | (rw [List.length_set]; omega) | (rw [List.length_replicate]; omega)))⟩, ⟨(ltq_t q0), trivial⟩⟩⟩⟩⟩⟩
      by_cases q1 : (0 : Int) ≤ (Hour.star (List.getD l i.toNat default))
      ·
        try have hhi := log_in hl i0 q0
        try have hhf := hour_facts hhi
        try have hyk : ys.getD i.toNat default = (whL s l).getD i.toNat default := by rw [hy]; exact take_getD (by omega)
        try have hwk := whL_get hs hl i0 (by omega)
        try have hcr := course_row hs hhf.1.1 hhf.1.2
        try have hlt := lead_top (fr := ys.getD i.toNat default) hcr.2 (by omega) (by omega) (by omega) _ 0 0 (by omega) rfl (by omega) topI_0
        try have hst := star_in hs (k := (l.getD i.toNat default).star) (by omega) hhf.2.2
        try have haf : ((andN (leadI (s.courses.getD (l.getD i.toNat default).course.toNat default) (ys.getD i.toNat default) 0 0) (s.stars.getD (l.getD i.toNat default).star.toNat default) : Nat) : Int) = aftI s (l.getD i.toNat default) (ys.getD i.toNat default) := by unfold aftI starI; rw [if_neg (show ¬ (l.getD i.toNat default).star = -1 by omega)]
        try have haf : leadI (s.courses.getD (l.getD i.toNat default).course.toNat default) (ys.getD i.toNat default) 0 0 = aftI s (l.getD i.toNat default) (ys.getD i.toNat default) := by unfold aftI starI; rw [if_pos (show (l.getD i.toNat default).star = -1 by omega)]
        exact ((ih0 _ (by omega)) (i + 1) (ys ++ [(↑(andN (leadI (List.getD s.courses (Int.toNat (Hour.course (List.getD l i.toNat default))) default) (List.getD ys i.toNat default) 0 0) (List.getD s.stars (Int.toNat (Hour.star (List.getD l i.toNat default))) default)) : Int)]) (yn + 1) rfl (by first | with_reducible assumption | omega | rfl | exact whL_one | (rw [haf]; exact whL_snoc i0 q0 hy) | (simp only [List.length_append, List.length_cons, List.length_nil]; omega) | (simp_all; done)) (by first | with_reducible assumption | omega | rfl | exact whL_one | (rw [haf]; exact whL_snoc i0 q0 hy) | (simp only [List.length_append, List.length_cons, List.length_nil]; omega) | (simp_all; done)) (by first | with_reducible assumption | omega | rfl | exact whL_one | (rw [haf]; exact whL_snoc i0 q0 hy) | (simp only [List.length_append, List.length_cons, List.length_nil]; omega) | (simp_all; done)) (by first | with_reducible assumption | omega | rfl | exact whL_one | (rw [haf]; exact whL_snoc i0 q0 hy) | (simp only [List.length_append, List.length_cons, List.length_nil]; omega) | (simp_all; done))
          (GoE.landA okF hJ mixed_ok (under_all (by kernel_rfl)) (writable_of (by kernel_rfl)) hg0 (rPast_s7 B s l i ys yn dJ0)
          ⟨(cellsM_simple (rowL_simple (fun x => List.all_eq_true.1 (by first | rfl | (cases x <;> rfl))))), ⟨(wq_in (by omega) (by omega)), ⟨⟨(by first | rfl | exact rowL_size (z := 1) (fun _ => rfl) | (rw [rowL_size (z := 1) (fun _ => rfl)]; first | omega | (simp; omega) | (simp_all; done))), (by unfold maxLen; omega), by omega, by first | exact rowL_push | exact rowL_pushC rfl⟩, ⟨⟨trivial, rboth (s) (leadI (List.getD s.courses (Int.toNat (Hour.course (List.getD l i.toNat default))) default) (List.getD ys i.toNat default) 0 0) (List.getD s.stars (Int.toNat (Hour.star (List.getD l i.toNat default))) default) (by first | with_reducible assumption | omega | simp_all) (by first | with_reducible assumption | omega | simp_all) (by first | with_reducible assumption | omega | simp_all) (by first | with_reducible assumption | omega | simp_all) (by first | with_reducible assumption | omega | simp_all) (by first | with_reducible assumption | omega | simp_all)⟩, ⟨⟨by omega, by omega, (rowL_extract (z := 1) (fun _ => rfl) (by first | omega | (rw [List.length_set]; omega) | (rw [List.length_replicate]; omega)))⟩, ⟨⟨by omega, by omega, (rowL_extract (z := 2) (fun _ => rfl) (by first | omega | (rw [List.length_set]; omega) | (rw [List.length_replicate]; omega)))⟩, ⟨(nltq_t q1), hp2⟩⟩⟩⟩⟩⟩⟩ (by kernel_rfl) (by kernel_rfl) (fun l hl => by cases hl <;> decide))).cast (by first | rfl | (simp [*]; done) | (simp_all []; done) | (simp_all []; omega)) (by first | rfl | (rw [hyn, whL_all (by omega) hy]; done) | (rw [whL_all (by omega) hy]; done)) (by first | rfl | (rw [hyn, whL_all (by omega) hy]; done) | (rw [whL_all (by omega) hy]; done))
      ·
        try have hhi := log_in hl i0 q0
        try have hhf := hour_facts hhi
        try have hyk : ys.getD i.toNat default = (whL s l).getD i.toNat default := by rw [hy]; exact take_getD (by omega)
        try have hwk := whL_get hs hl i0 (by omega)
        try have hcr := course_row hs hhf.1.1 hhf.1.2
        try have hlt := lead_top (fr := ys.getD i.toNat default) hcr.2 (by omega) (by omega) (by omega) _ 0 0 (by omega) rfl (by omega) topI_0
        try have hst := star_in hs (k := (l.getD i.toNat default).star) (by omega) hhf.2.2
        try have haf : ((andN (leadI (s.courses.getD (l.getD i.toNat default).course.toNat default) (ys.getD i.toNat default) 0 0) (s.stars.getD (l.getD i.toNat default).star.toNat default) : Nat) : Int) = aftI s (l.getD i.toNat default) (ys.getD i.toNat default) := by unfold aftI starI; rw [if_neg (show ¬ (l.getD i.toNat default).star = -1 by omega)]
        try have haf : leadI (s.courses.getD (l.getD i.toNat default).course.toNat default) (ys.getD i.toNat default) 0 0 = aftI s (l.getD i.toNat default) (ys.getD i.toNat default) := by unfold aftI starI; rw [if_pos (show (l.getD i.toNat default).star = -1 by omega)]
        exact ((ih0 _ (by omega)) (i + 1) (ys ++ [leadI (List.getD s.courses (Int.toNat (Hour.course (List.getD l i.toNat default))) default) (List.getD ys i.toNat default) 0 0]) (yn + 1) rfl (by first | with_reducible assumption | omega | rfl | exact whL_one | (rw [haf]; exact whL_snoc i0 q0 hy) | (simp only [List.length_append, List.length_cons, List.length_nil]; omega) | (simp_all; done)) (by first | with_reducible assumption | omega | rfl | exact whL_one | (rw [haf]; exact whL_snoc i0 q0 hy) | (simp only [List.length_append, List.length_cons, List.length_nil]; omega) | (simp_all; done)) (by first | with_reducible assumption | omega | rfl | exact whL_one | (rw [haf]; exact whL_snoc i0 q0 hy) | (simp only [List.length_append, List.length_cons, List.length_nil]; omega) | (simp_all; done)) (by first | with_reducible assumption | omega | rfl | exact whL_one | (rw [haf]; exact whL_snoc i0 q0 hy) | (simp only [List.length_append, List.length_cons, List.length_nil]; omega) | (simp_all; done))
          (GoE.landA okF hJ mixed_ok (under_all (by kernel_rfl)) (writable_of (by kernel_rfl)) hg0 (rPast_s8 B s l i ys yn dJ0)
          ⟨(cellsM_simple (rowL_simple (fun x => List.all_eq_true.1 (by first | rfl | (cases x <;> rfl))))), ⟨(wq_in (by omega) (by omega)), ⟨⟨(by first | rfl | exact rowL_size (z := 1) (fun _ => rfl) | (rw [rowL_size (z := 1) (fun _ => rfl)]; first | omega | (simp; omega) | (simp_all; done))), (by unfold maxLen; omega), by omega, by first | exact rowL_push | exact rowL_pushC rfl⟩, ⟨(nltq_f (Int.not_le.1 q1)), hp2⟩⟩⟩⟩ (by kernel_rfl) (by kernel_rfl) (fun l hl => by cases hl <;> decide))).cast (by first | rfl | (simp [*]; done) | (simp_all []; done) | (simp_all []; omega)) (by first | rfl | (rw [hyn, whL_all (by omega) hy]; done) | (rw [whL_all (by omega) hy]; done)) (by first | rfl | (rw [hyn, whL_all (by omega) hy]; done) | (rw [whL_all (by omega) hy]; done))
    ·
      try have hhi := log_in hl i0 q0
      try have hhf := hour_facts hhi
      try have hyk : ys.getD i.toNat default = (whL s l).getD i.toNat default := by rw [hy]; exact take_getD (by omega)
      try have hwk := whL_get hs hl i0 (by omega)
      try have hcr := course_row hs hhf.1.1 hhf.1.2
      try have hlt := lead_top (fr := ys.getD i.toNat default) hcr.2 (by omega) (by omega) (by omega) _ 0 0 (by omega) rfl (by omega) topI_0
      try have hst := star_in hs (k := (l.getD i.toNat default).star) (by omega) hhf.2.2
      try have haf : ((andN (leadI (s.courses.getD (l.getD i.toNat default).course.toNat default) (ys.getD i.toNat default) 0 0) (s.stars.getD (l.getD i.toNat default).star.toNat default) : Nat) : Int) = aftI s (l.getD i.toNat default) (ys.getD i.toNat default) := by unfold aftI starI; rw [if_neg (show ¬ (l.getD i.toNat default).star = -1 by omega)]
      try have haf : leadI (s.courses.getD (l.getD i.toNat default).course.toNat default) (ys.getD i.toNat default) 0 0 = aftI s (l.getD i.toNat default) (ys.getD i.toNat default) := by unfold aftI starI; rw [if_pos (show (l.getD i.toNat default).star = -1 by omega)]
      exact (GoE.finK okF hJ mixed_ok (under_all (by kernel_rfl)) (writable_of (by kernel_rfl)) hg0 (rPast_s9 B s l i ys yn dJ0)
        ⟨(cellsM_simple (rowL_simple (fun x => List.all_eq_true.1 (by first | rfl | (cases x <;> rfl))))), ⟨(ltq_f (Int.not_lt.1 q0)), trivial⟩⟩).cast (by first | rfl | (simp [*]; done) | (simp_all []; done) | (simp_all []; omega)) (by first | rfl | (rw [hyn, whL_all (by omega) hy]; done) | (rw [whL_all (by omega) hy]; done)) (by first | rfl | (rw [hyn, whL_all (by omega) hy]; done) | (rw [whL_all (by omega) hy]; done))

set_option maxRecDepth 100000 in
theorem rPast_s6 (B : Lo) (s : CSea) (l : List Hour) : CE.landA 2 (srunT Tryz.prog (okFn Tryz.prog) J0 B 9 2 (rPast_c0 s l) (rPast_H0 s l) 2
    [] 0 [] []) [1, 2, 5, 6] [] [(2, KS.auto), (3, KS.cells [] (rowL encI [s.start]))] [] = some ⟨17, 51, rPast_k1_t0, [], .run, none, rPast_k1_v0 s l (0) ([s.start]) (1), ([] : List Nat).zip (rPast_k1_w0 s l (0) ([s.start]) (1)), rPast_k1_o0 s l (0) ([s.start]) (1),
    [CellsM 2 [] (#[Value.int IntKind.i64 s.start]) (rowL encI [s.start])]⟩ := by kernel_rfl
set_option maxRecDepth 100000 in
theorem rPast_s10 (B : Lo) (s : CSea) (l : List Hour) : landM (srunT Tryz.prog (okFn Tryz.prog) J0 B 9 1 (entryC Tryz.prog 18 61 (([.agg (encSea s).toArray, slH l]).map (pushT 0 4))) H00 1
    [(4, HintT.call (List.range 2) (OO.ret (Value.slice (some { block := 3, off := 0 }) (List.length (whL s l)) 1)) ([] ++ (2, regO) :: heapL 3 [Obj.cells (rowL encI (whL s l)) 3]) 4 []), (8, hvI ((↑l.length : Int) - 1))] 0 [] []) [1, 2, 5, 6] [(1, KS.auto), (3, KS.cells [] (rowL encI (whL s l)))] [] = some ⟨18, 61, rPast_t0, [], .run, none, rPast_v0 s l ((↑l.length : Int) - 1) (whL s l), rPast_o0 s l ((↑l.length : Int) - 1) (whL s l),
    [CellsM 1 [] (rowL encI (whL s l)) (rowL encI (whL s l)), wq ((↑l.length : Int) - 1) = (↑l.length : Int) - 1, FJ Tryz.prog B (rPast_c0 s l) (rPast_H0 s l) 2 (OO.ret (Value.slice (some { block := 3, off := 0 }) (List.length (whL s l)) 1)) (([] ++ ((2, regO) :: heapL (2 + 1) [Obj.cells (rowL encI (whL s l)) 3])) ++ rPast_H0 s l) 4 (List.range 2) []]⟩ := by kernel_rfl
set_option maxHeartbeats 4000000 in
theorem rPast_ls (s : CSea) (l : List Hour) (hs : seaB s = true) (hl : logB s l = true) (hn : (l.length : Int) ≤ 12) {B : Lo} (hJ : ∀ w, B.has w → J0 w) {c0 : CF} : ∀ m : Nat, (∀ (k : Int) (zs : List Int), 100 * (k + 1).toNat = m → ∀ (k0 : -1 ≤ k) (k1 : k < l.length) (hz : zs = mixL s l (k + 1).toNat), rPast_h0 B c0 s l k zs → EndsT Tryz.prog B c0 (slI (paL s l))) ∧ (∀ (k : Int) (zs : List Int) (st j : Int), 100 * k.toNat + 50 + (s.cells - j).toNat = m → ∀ (kk : 0 ≤ k) (k1 : k < l.length) (hz : zs = mixL s l (k + 1).toNat) (j0 : 0 ≤ j) (j1 : j ≤ s.cells) (s0 : 0 ≤ st) (s1 : st ≤ topI s.cells) (hst : addI (rP s (l.getD k.toNat default) (zs.getD (k + 1).toNat default) (zs.getD k.toNat default)) s.cells j st = befI s (l.getD k.toNat default) (zs.getD (k + 1).toNat default) (zs.getD k.toNat default) 0 0), rPast_h1 B c0 s l k zs st j → EndsT Tryz.prog B c0 (slI (paL s l))) := by
  intro m0
  induction m0 using Nat.strongRecOn with
  | _ m0 ih0 =>
    refine ⟨?_, ?_⟩
    · intro k zs hm0 k0 k1 hz ⟨dJ0, hdJ0, hg0⟩
      have hsf := sea_facts hs
      have hwl := whL_len (s := s) (l := l)
      have hsf := sea_facts hs
      have hwl := whL_len (s := s) (l := l)
      have hzl : (zs.length : Int) = l.length + 1 := by rw [hz, mix_len (by omega)]; omega
      by_cases q0 : (0 : Int) ≤ (k)
      ·
        try have hhi := log_in hl (k := k) (by omega) k1
        try have hhf := hour_facts hhi
        try have hgz0 : 0 ≤ zs.getD k.toNat default ∧ zs.getD k.toNat default ≤ topI s.cells := by rw [hz]; exact mix_in hs hl (by omega) (by omega)
        try have hgz1 : 0 ≤ zs.getD (k + 1).toNat default ∧ zs.getD (k + 1).toNat default ≤ topI s.cells := by rw [hz]; exact mix_in hs hl (by omega) (by omega)
        try have hsn : SeenIn s (l.getD k.toNat default) (zs.getD (k + 1).toNat default) := by rw [hz, mix_ge (by omega) (by omega)]; exact seen_in (by omega) k1 hhf.2.1
        exact ((ih0 _ (by omega)).2 (k) (zs) (0) (0) rfl (by first | with_reducible assumption | omega | exact topI_0 | exact bef_ref hs hhi hgz0.1 hgz0.2 hsn | (rw [← s2]; exact hst) | exact hkw.1 | exact hkw.2 | (simp_all; done)) (by first | with_reducible assumption | omega | exact topI_0 | exact bef_ref hs hhi hgz0.1 hgz0.2 hsn | (rw [← s2]; exact hst) | exact hkw.1 | exact hkw.2 | (simp_all; done)) (by first | with_reducible assumption | omega | exact topI_0 | exact bef_ref hs hhi hgz0.1 hgz0.2 hsn | (rw [← s2]; exact hst) | exact hkw.1 | exact hkw.2 | (simp_all; done)) (by first | with_reducible assumption | omega | exact topI_0 | exact bef_ref hs hhi hgz0.1 hgz0.2 hsn | (rw [← s2]; exact hst) | exact hkw.1 | exact hkw.2 | (simp_all; done)) (by first | with_reducible assumption | omega | exact topI_0 | exact bef_ref hs hhi hgz0.1 hgz0.2 hsn | (rw [← s2]; exact hst) | exact hkw.1 | exact hkw.2 | (simp_all; done)) (by first | with_reducible assumption | omega | exact topI_0 | exact bef_ref hs hhi hgz0.1 hgz0.2 hsn | (rw [← s2]; exact hst) | exact hkw.1 | exact hkw.2 | (simp_all; done)) (by first | with_reducible assumption | omega | exact topI_0 | exact bef_ref hs hhi hgz0.1 hgz0.2 hsn | (rw [← s2]; exact hst) | exact hkw.1 | exact hkw.2 | (simp_all; done)) (by first | with_reducible assumption | omega | exact topI_0 | exact bef_ref hs hhi hgz0.1 hgz0.2 hsn | (rw [← s2]; exact hst) | exact hkw.1 | exact hkw.2 | (simp_all; done))
          (hg0.landM okF hJ mixed_ok (rPast_s0 B s l k zs dJ0)
          ⟨(cellsM_simple (rowL_simple (fun x => List.all_eq_true.1 (by first | rfl | (cases x <;> rfl))))), ⟨(nltq_t q0), trivial⟩⟩ (by kernel_rfl) (by kernel_rfl))).cast (by first | rfl | exact row_len (hz.trans (by rw [show (k + 1).toNat = 0 by omega]; exact mix_0)) (by rw [hwl, paL_len]))
      ·
        try have hhi := log_in hl (k := k) (by omega) k1
        try have hhf := hour_facts hhi
        try have hgz0 : 0 ≤ zs.getD k.toNat default ∧ zs.getD k.toNat default ≤ topI s.cells := by rw [hz]; exact mix_in hs hl (by omega) (by omega)
        try have hgz1 : 0 ≤ zs.getD (k + 1).toNat default ∧ zs.getD (k + 1).toNat default ≤ topI s.cells := by rw [hz]; exact mix_in hs hl (by omega) (by omega)
        try have hsn : SeenIn s (l.getD k.toNat default) (zs.getD (k + 1).toNat default) := by rw [hz, mix_ge (by omega) (by omega)]; exact seen_in (by omega) k1 hhf.2.1
        exact (GoE.endsT okF hJ mixed_ok hg0 (rPast_s1 B s l k zs dJ0)
          ⟨(rowL_cellsT (fun x => List.all_eq_true.1 (by first | rfl | (cases x <;> rfl)))), ⟨(nltq_f (Int.not_le.1 q0)), trivial⟩⟩).cast (by first | rfl | exact row_len (hz.trans (by rw [show (k + 1).toNat = 0 by omega]; exact mix_0)) (by rw [hwl, paL_len]))
    · intro k zs st j hm0 kk k1 hz j0 j1 s0 s1 hst ⟨dJ0, hdJ0, hg0⟩
      have hsf := sea_facts hs
      have hwl := whL_len (s := s) (l := l)
      have hsf := sea_facts hs
      have hwl := whL_len (s := s) (l := l)
      have hzl : (zs.length : Int) = l.length + 1 := by rw [hz, mix_len (by omega)]; omega
      by_cases q0 : (j : Int) < s.cells
      ·
        have hp0 : AllP (rPast_p0 B s l k zs st j dJ0) := by
          try have hhi := log_in hl (k := k) (by omega) k1
          try have hhf := hour_facts hhi
          try have hgz0 : 0 ≤ zs.getD k.toNat default ∧ zs.getD k.toNat default ≤ topI s.cells := by rw [hz]; exact mix_in hs hl (by omega) (by omega)
          try have hgz1 : 0 ≤ zs.getD (k + 1).toNat default ∧ zs.getD (k + 1).toNat default ≤ topI s.cells := by rw [hz]; exact mix_in hs hl (by omega) (by omega)
          try have hcj := cour_in hs hhf.1.1 hhf.1.2 j0 q0
          try have hcr := course_row hs hhf.1.1 hhf.1.2
          try have hkw := setW_top (s := st) (n := s.cells) (c := j) s0 s1 j0 (by omega)
          try have hrp : rP s (l.getD k.toNat default) (zs.getD (k + 1).toNat default) (zs.getD k.toNat default) j = true := by unfold rP; rw [q1, decide_eq_false q2]; rfl
          try have hrp : rP s (l.getD k.toNat default) (zs.getD (k + 1).toNat default) (zs.getD k.toNat default) j = false := by unfold rP; rw [decide_eq_true (Classical.not_not.1 q2)]; simp
          try have hrp : rP s (l.getD k.toNat default) (zs.getD (k + 1).toNat default) (zs.getD k.toNat default) j = false := by unfold rP; rw [q1]; rfl
          try have s2 := add_in (o := st) q0 hrp
          try have s2 := add_out (o := st) q0 hrp
          try have s3 := add_end (p := rP s (l.getD k.toNat default) (zs.getD (k + 1).toNat default) (zs.getD k.toNat default)) (c := s.cells) (k := j) (o := st) (by omega)
          try have hbe : st = befI s (l.getD k.toNat default) (zs.getD (k + 1).toNat default) (zs.getD k.toNat default) 0 0 := by rw [← hst, s3]
          exact ⟨(by exact rowL_ld0 (z := 1) (j := 0) (k := Int.toNat k) (fun _ => rfl) (by first | omega | (rw [List.length_set]; omega) | (rw [List.length_replicate]; omega)) rfl), ⟨⟨by omega, by omega⟩, ⟨(ltq_t q0), trivial⟩⟩⟩
        cases q1 : setB (List.getD zs k.toNat default) j with
        | true =>
          have hp1 : AllP (rPast_p1 B s l k zs st j dJ0) := by
            try have hhi := log_in hl (k := k) (by omega) k1
            try have hhf := hour_facts hhi
            try have hgz0 : 0 ≤ zs.getD k.toNat default ∧ zs.getD k.toNat default ≤ topI s.cells := by rw [hz]; exact mix_in hs hl (by omega) (by omega)
            try have hgz1 : 0 ≤ zs.getD (k + 1).toNat default ∧ zs.getD (k + 1).toNat default ≤ topI s.cells := by rw [hz]; exact mix_in hs hl (by omega) (by omega)
            try have hcj := cour_in hs hhf.1.1 hhf.1.2 j0 q0
            try have hcr := course_row hs hhf.1.1 hhf.1.2
            try have hkw := setW_top (s := st) (n := s.cells) (c := j) s0 s1 j0 (by omega)
            try have hrp : rP s (l.getD k.toNat default) (zs.getD (k + 1).toNat default) (zs.getD k.toNat default) j = true := by unfold rP; rw [q1, decide_eq_false q2]; rfl
            try have hrp : rP s (l.getD k.toNat default) (zs.getD (k + 1).toNat default) (zs.getD k.toNat default) j = false := by unfold rP; rw [decide_eq_true (Classical.not_not.1 q2)]; simp
            try have hrp : rP s (l.getD k.toNat default) (zs.getD (k + 1).toNat default) (zs.getD k.toNat default) j = false := by unfold rP; rw [q1]; rfl
            try have s2 := add_in (o := st) q0 hrp
            try have s2 := add_out (o := st) q0 hrp
            try have s3 := add_end (p := rP s (l.getD k.toNat default) (zs.getD (k + 1).toNat default) (zs.getD k.toNat default)) (c := s.cells) (k := j) (o := st) (by omega)
            try have hbe : st = befI s (l.getD k.toNat default) (zs.getD (k + 1).toNat default) (zs.getD k.toNat default) 0 0 := by rw [← hst, s3]
            exact ⟨⟨trivial, rboth (s) (List.getD (List.getD s.courses (Int.toNat (Hour.course (List.getD l k.toNat default))) default) j.toNat default) (List.getD zs (Int.toNat (k + 1)) default) (by first | with_reducible assumption | omega | simp_all) (by first | with_reducible assumption | omega | simp_all) (by first | with_reducible assumption | omega | simp_all) (by first | with_reducible assumption | omega | simp_all) (by first | with_reducible assumption | omega | simp_all) (by first | with_reducible assumption | omega | simp_all)⟩, ⟨(by exact rowL_ld0 (z := 1) (j := 0) (k := Int.toNat (k + 1)) (fun _ => rfl) (by first | omega | (rw [List.length_set]; omega) | (rw [List.length_replicate]; omega)) rfl), ⟨⟨by omega, by omega⟩, ⟨(wq_in (by omega) (by omega)), ⟨⟨by omega, by omega, (rowL_extract (z := 1) (fun _ => rfl) (by first | omega | (rw [List.length_set]; omega) | (rw [List.length_replicate]; omega)))⟩, ⟨⟨by omega, by omega, (rowL_extract (z := 1) (fun _ => rfl) (by first | omega | (rw [List.length_set]; omega) | (rw [List.length_replicate]; omega)))⟩, ⟨⟨by omega, by omega, (rowL_extract (z := 2) (fun _ => rfl) (by first | omega | (rw [List.length_set]; omega) | (rw [List.length_replicate]; omega)))⟩, ⟨⟨trivial, (by have t_ := rHas (List.getD zs k.toNat default) (j) (by first | with_reducible assumption | omega | simp_all) (by first | with_reducible assumption | omega | simp_all) (by first | with_reducible assumption | omega | simp_all); rw [q1] at t_; exact t_)⟩, hp0⟩⟩⟩⟩⟩⟩⟩⟩
          by_cases q2 : ((↑(andN (List.getD (List.getD s.courses (Int.toNat (Hour.course (List.getD l k.toNat default))) default) j.toNat default) (List.getD zs (Int.toNat (k + 1)) default)) : Int) : Int) ≠ (0)
          ·
            try have hhi := log_in hl (k := k) (by omega) k1
            try have hhf := hour_facts hhi
            try have hgz0 : 0 ≤ zs.getD k.toNat default ∧ zs.getD k.toNat default ≤ topI s.cells := by rw [hz]; exact mix_in hs hl (by omega) (by omega)
            try have hgz1 : 0 ≤ zs.getD (k + 1).toNat default ∧ zs.getD (k + 1).toNat default ≤ topI s.cells := by rw [hz]; exact mix_in hs hl (by omega) (by omega)
            try have hcj := cour_in hs hhf.1.1 hhf.1.2 j0 q0
            try have hcr := course_row hs hhf.1.1 hhf.1.2
            try have hkw := setW_top (s := st) (n := s.cells) (c := j) s0 s1 j0 (by omega)
            try have hrp : rP s (l.getD k.toNat default) (zs.getD (k + 1).toNat default) (zs.getD k.toNat default) j = true := by unfold rP; rw [q1, decide_eq_false q2]; rfl
            try have hrp : rP s (l.getD k.toNat default) (zs.getD (k + 1).toNat default) (zs.getD k.toNat default) j = false := by unfold rP; rw [decide_eq_true (Classical.not_not.1 q2)]; simp
            try have hrp : rP s (l.getD k.toNat default) (zs.getD (k + 1).toNat default) (zs.getD k.toNat default) j = false := by unfold rP; rw [q1]; rfl
            try have s2 := add_in (o := st) q0 hrp
            try have s2 := add_out (o := st) q0 hrp
            try have s3 := add_end (p := rP s (l.getD k.toNat default) (zs.getD (k + 1).toNat default) (zs.getD k.toNat default)) (c := s.cells) (k := j) (o := st) (by omega)
            try have hbe : st = befI s (l.getD k.toNat default) (zs.getD (k + 1).toNat default) (zs.getD k.toNat default) 0 0 := by rw [← hst, s3]
            exact ((ih0 _ (by omega)).2 (k) (zs) (setW st j) (j + 1) rfl (by first | with_reducible assumption | omega | exact topI_0 | exact bef_ref hs hhi hgz0.1 hgz0.2 hsn | (rw [← s2]; exact hst) | exact hkw.1 | exact hkw.2 | (simp_all; done)) (by first | with_reducible assumption | omega | exact topI_0 | exact bef_ref hs hhi hgz0.1 hgz0.2 hsn | (rw [← s2]; exact hst) | exact hkw.1 | exact hkw.2 | (simp_all; done)) (by first | with_reducible assumption | omega | exact topI_0 | exact bef_ref hs hhi hgz0.1 hgz0.2 hsn | (rw [← s2]; exact hst) | exact hkw.1 | exact hkw.2 | (simp_all; done)) (by first | with_reducible assumption | omega | exact topI_0 | exact bef_ref hs hhi hgz0.1 hgz0.2 hsn | (rw [← s2]; exact hst) | exact hkw.1 | exact hkw.2 | (simp_all; done)) (by first | with_reducible assumption | omega | exact topI_0 | exact bef_ref hs hhi hgz0.1 hgz0.2 hsn | (rw [← s2]; exact hst) | exact hkw.1 | exact hkw.2 | (simp_all; done)) (by first | with_reducible assumption | omega | exact topI_0 | exact bef_ref hs hhi hgz0.1 hgz0.2 hsn | (rw [← s2]; exact hst) | exact hkw.1 | exact hkw.2 | (simp_all; done)) (by first | with_reducible assumption | omega | exact topI_0 | exact bef_ref hs hhi hgz0.1 hgz0.2 hsn | (rw [← s2]; exact hst) | exact hkw.1 | exact hkw.2 | (simp_all; done)) (by first | with_reducible assumption | omega | exact topI_0 | exact bef_ref hs hhi hgz0.1 hgz0.2 hsn | (rw [← s2]; exact hst) | exact hkw.1 | exact hkw.2 | (simp_all; done))
              (hg0.landM okF hJ mixed_ok (rPast_s2 B s l k zs st j dJ0)
              ⟨(cellsM_simple (rowL_simple (fun x => List.all_eq_true.1 (by first | rfl | (cases x <;> rfl))))), ⟨(wq_in (by omega) (by omega)), ⟨⟨trivial, rwith (st) (j) (by first | with_reducible assumption | omega | simp_all) (by first | with_reducible assumption | omega | simp_all) (by first | with_reducible assumption | omega | simp_all) (by first | with_reducible assumption | omega | simp_all)⟩, ⟨(neqq_t q2), hp1⟩⟩⟩⟩ (by kernel_rfl) (by kernel_rfl))).cast (by first | rfl | (simp [*]; done) | (simp_all []; done) | (simp_all []; omega))
          ·
            try have hhi := log_in hl (k := k) (by omega) k1
            try have hhf := hour_facts hhi
            try have hgz0 : 0 ≤ zs.getD k.toNat default ∧ zs.getD k.toNat default ≤ topI s.cells := by rw [hz]; exact mix_in hs hl (by omega) (by omega)
            try have hgz1 : 0 ≤ zs.getD (k + 1).toNat default ∧ zs.getD (k + 1).toNat default ≤ topI s.cells := by rw [hz]; exact mix_in hs hl (by omega) (by omega)
            try have hcj := cour_in hs hhf.1.1 hhf.1.2 j0 q0
            try have hcr := course_row hs hhf.1.1 hhf.1.2
            try have hkw := setW_top (s := st) (n := s.cells) (c := j) s0 s1 j0 (by omega)
            try have hrp : rP s (l.getD k.toNat default) (zs.getD (k + 1).toNat default) (zs.getD k.toNat default) j = true := by unfold rP; rw [q1, decide_eq_false q2]; rfl
            try have hrp : rP s (l.getD k.toNat default) (zs.getD (k + 1).toNat default) (zs.getD k.toNat default) j = false := by unfold rP; rw [decide_eq_true (Classical.not_not.1 q2)]; simp
            try have hrp : rP s (l.getD k.toNat default) (zs.getD (k + 1).toNat default) (zs.getD k.toNat default) j = false := by unfold rP; rw [q1]; rfl
            try have s2 := add_in (o := st) q0 hrp
            try have s2 := add_out (o := st) q0 hrp
            try have s3 := add_end (p := rP s (l.getD k.toNat default) (zs.getD (k + 1).toNat default) (zs.getD k.toNat default)) (c := s.cells) (k := j) (o := st) (by omega)
            try have hbe : st = befI s (l.getD k.toNat default) (zs.getD (k + 1).toNat default) (zs.getD k.toNat default) 0 0 := by rw [← hst, s3]
            exact ((ih0 _ (by omega)).2 (k) (zs) (st) (j + 1) rfl (by first | with_reducible assumption | omega | exact topI_0 | exact bef_ref hs hhi hgz0.1 hgz0.2 hsn | (rw [← s2]; exact hst) | exact hkw.1 | exact hkw.2 | (simp_all; done)) (by first | with_reducible assumption | omega | exact topI_0 | exact bef_ref hs hhi hgz0.1 hgz0.2 hsn | (rw [← s2]; exact hst) | exact hkw.1 | exact hkw.2 | (simp_all; done)) (by first | with_reducible assumption | omega | exact topI_0 | exact bef_ref hs hhi hgz0.1 hgz0.2 hsn | (rw [← s2]; exact hst) | exact hkw.1 | exact hkw.2 | (simp_all; done)) (by first | with_reducible assumption | omega | exact topI_0 | exact bef_ref hs hhi hgz0.1 hgz0.2 hsn | (rw [← s2]; exact hst) | exact hkw.1 | exact hkw.2 | (simp_all; done)) (by first | with_reducible assumption | omega | exact topI_0 | exact bef_ref hs hhi hgz0.1 hgz0.2 hsn | (rw [← s2]; exact hst) | exact hkw.1 | exact hkw.2 | (simp_all; done)) (by first | with_reducible assumption | omega | exact topI_0 | exact bef_ref hs hhi hgz0.1 hgz0.2 hsn | (rw [← s2]; exact hst) | exact hkw.1 | exact hkw.2 | (simp_all; done)) (by first | with_reducible assumption | omega | exact topI_0 | exact bef_ref hs hhi hgz0.1 hgz0.2 hsn | (rw [← s2]; exact hst) | exact hkw.1 | exact hkw.2 | (simp_all; done)) (by first | with_reducible assumption | omega | exact topI_0 | exact bef_ref hs hhi hgz0.1 hgz0.2 hsn | (rw [← s2]; exact hst) | exact hkw.1 | exact hkw.2 | (simp_all; done))
              (hg0.landM okF hJ mixed_ok (rPast_s3 B s l k zs st j dJ0)
              ⟨(cellsM_simple (rowL_simple (fun x => List.all_eq_true.1 (by first | rfl | (cases x <;> rfl))))), ⟨(wq_in (by omega) (by omega)), ⟨(neqq_f (Decidable.of_not_not q2)), hp1⟩⟩⟩ (by kernel_rfl) (by kernel_rfl))).cast (by first | rfl | (simp [*]; done) | (simp_all []; done) | (simp_all []; omega))
        | false =>
          try have hhi := log_in hl (k := k) (by omega) k1
          try have hhf := hour_facts hhi
          try have hgz0 : 0 ≤ zs.getD k.toNat default ∧ zs.getD k.toNat default ≤ topI s.cells := by rw [hz]; exact mix_in hs hl (by omega) (by omega)
          try have hgz1 : 0 ≤ zs.getD (k + 1).toNat default ∧ zs.getD (k + 1).toNat default ≤ topI s.cells := by rw [hz]; exact mix_in hs hl (by omega) (by omega)
          try have hcj := cour_in hs hhf.1.1 hhf.1.2 j0 q0
          try have hcr := course_row hs hhf.1.1 hhf.1.2
          try have hkw := setW_top (s := st) (n := s.cells) (c := j) s0 s1 j0 (by omega)
          try have hrp : rP s (l.getD k.toNat default) (zs.getD (k + 1).toNat default) (zs.getD k.toNat default) j = true := by unfold rP; rw [q1, decide_eq_false q2]; rfl
          try have hrp : rP s (l.getD k.toNat default) (zs.getD (k + 1).toNat default) (zs.getD k.toNat default) j = false := by unfold rP; rw [decide_eq_true (Classical.not_not.1 q2)]; simp
          try have hrp : rP s (l.getD k.toNat default) (zs.getD (k + 1).toNat default) (zs.getD k.toNat default) j = false := by unfold rP; rw [q1]; rfl
          try have s2 := add_in (o := st) q0 hrp
          try have s2 := add_out (o := st) q0 hrp
          try have s3 := add_end (p := rP s (l.getD k.toNat default) (zs.getD (k + 1).toNat default) (zs.getD k.toNat default)) (c := s.cells) (k := j) (o := st) (by omega)
          try have hbe : st = befI s (l.getD k.toNat default) (zs.getD (k + 1).toNat default) (zs.getD k.toNat default) 0 0 := by rw [← hst, s3]
          exact ((ih0 _ (by omega)).2 (k) (zs) (st) (j + 1) rfl (by first | with_reducible assumption | omega | exact topI_0 | exact bef_ref hs hhi hgz0.1 hgz0.2 hsn | (rw [← s2]; exact hst) | exact hkw.1 | exact hkw.2 | (simp_all; done)) (by first | with_reducible assumption | omega | exact topI_0 | exact bef_ref hs hhi hgz0.1 hgz0.2 hsn | (rw [← s2]; exact hst) | exact hkw.1 | exact hkw.2 | (simp_all; done)) (by first | with_reducible assumption | omega | exact topI_0 | exact bef_ref hs hhi hgz0.1 hgz0.2 hsn | (rw [← s2]; exact hst) | exact hkw.1 | exact hkw.2 | (simp_all; done)) (by first | with_reducible assumption | omega | exact topI_0 | exact bef_ref hs hhi hgz0.1 hgz0.2 hsn | (rw [← s2]; exact hst) | exact hkw.1 | exact hkw.2 | (simp_all; done)) (by first | with_reducible assumption | omega | exact topI_0 | exact bef_ref hs hhi hgz0.1 hgz0.2 hsn | (rw [← s2]; exact hst) | exact hkw.1 | exact hkw.2 | (simp_all; done)) (by first | with_reducible assumption | omega | exact topI_0 | exact bef_ref hs hhi hgz0.1 hgz0.2 hsn | (rw [← s2]; exact hst) | exact hkw.1 | exact hkw.2 | (simp_all; done)) (by first | with_reducible assumption | omega | exact topI_0 | exact bef_ref hs hhi hgz0.1 hgz0.2 hsn | (rw [← s2]; exact hst) | exact hkw.1 | exact hkw.2 | (simp_all; done)) (by first | with_reducible assumption | omega | exact topI_0 | exact bef_ref hs hhi hgz0.1 hgz0.2 hsn | (rw [← s2]; exact hst) | exact hkw.1 | exact hkw.2 | (simp_all; done))
            (hg0.landM okF hJ mixed_ok (rPast_s4 B s l k zs st j dJ0)
            ⟨(cellsM_simple (rowL_simple (fun x => List.all_eq_true.1 (by first | rfl | (cases x <;> rfl))))), ⟨(wq_in (by omega) (by omega)), ⟨⟨trivial, (by have t_ := rHas (List.getD zs k.toNat default) (j) (by first | with_reducible assumption | omega | simp_all) (by first | with_reducible assumption | omega | simp_all) (by first | with_reducible assumption | omega | simp_all); rw [q1] at t_; exact t_)⟩, hp0⟩⟩⟩ (by kernel_rfl) (by kernel_rfl))).cast (by first | rfl | (simp [*]; done) | (simp_all []; done) | (simp_all []; omega))
      ·
        try have hhi := log_in hl (k := k) (by omega) k1
        try have hhf := hour_facts hhi
        try have hgz0 : 0 ≤ zs.getD k.toNat default ∧ zs.getD k.toNat default ≤ topI s.cells := by rw [hz]; exact mix_in hs hl (by omega) (by omega)
        try have hgz1 : 0 ≤ zs.getD (k + 1).toNat default ∧ zs.getD (k + 1).toNat default ≤ topI s.cells := by rw [hz]; exact mix_in hs hl (by omega) (by omega)
        try have hcj := cour_in hs hhf.1.1 hhf.1.2 j0 q0
        try have hcr := course_row hs hhf.1.1 hhf.1.2
        try have hkw := setW_top (s := st) (n := s.cells) (c := j) s0 s1 j0 (by omega)
        try have hrp : rP s (l.getD k.toNat default) (zs.getD (k + 1).toNat default) (zs.getD k.toNat default) j = true := by unfold rP; rw [q1, decide_eq_false q2]; rfl
        try have hrp : rP s (l.getD k.toNat default) (zs.getD (k + 1).toNat default) (zs.getD k.toNat default) j = false := by unfold rP; rw [decide_eq_true (Classical.not_not.1 q2)]; simp
        try have hrp : rP s (l.getD k.toNat default) (zs.getD (k + 1).toNat default) (zs.getD k.toNat default) j = false := by unfold rP; rw [q1]; rfl
        try have s2 := add_in (o := st) q0 hrp
        try have s2 := add_out (o := st) q0 hrp
        try have s3 := add_end (p := rP s (l.getD k.toNat default) (zs.getD (k + 1).toNat default) (zs.getD k.toNat default)) (c := s.cells) (k := j) (o := st) (by omega)
        try have hbe : st = befI s (l.getD k.toNat default) (zs.getD (k + 1).toNat default) (zs.getD k.toNat default) 0 0 := by rw [← hst, s3]
        exact ((ih0 _ (by omega)).1 (k - 1) (List.set zs k.toNat st) rfl (by first | with_reducible assumption | omega | exact mix_all | (rw [show ((l.length : Int) - 1 + 1).toNat = l.length by omega]; exact mix_all) | (rw [hbe, hz]; exact mix_down kk k1) | (simp_all; done)) (by first | with_reducible assumption | omega | exact mix_all | (rw [show ((l.length : Int) - 1 + 1).toNat = l.length by omega]; exact mix_all) | (rw [hbe, hz]; exact mix_down kk k1) | (simp_all; done)) (by first | with_reducible assumption | omega | exact mix_all | (rw [show ((l.length : Int) - 1 + 1).toNat = l.length by omega]; exact mix_all) | (rw [hbe, hz]; exact mix_down kk k1) | (simp_all; done))
          (hg0.landM okF hJ mixed_ok (rPast_s5 B s l k zs st j dJ0)
          ⟨(cellsM_simple (rowL_simple (fun x => List.all_eq_true.1 (by first | rfl | (cases x <;> rfl))))), ⟨(wq_in (by omega) (by omega)), ⟨(by first | exact rowL_st (z := 1) (k := Int.toNat k) (fun _ => rfl) (by first | omega | (rw [List.length_set]; omega) | (rw [List.length_replicate]; omega)) rfl | exact rowL_st0 (z := 1) (k := Int.toNat k) (fun _ => rfl) (by first | omega | (rw [List.length_set]; omega) | (rw [List.length_replicate]; omega)) rfl rfl), ⟨⟨by omega, by omega⟩, ⟨(ltq_f (Int.not_lt.1 q0)), trivial⟩⟩⟩⟩⟩ (by kernel_rfl) (by kernel_rfl))).cast (by first | rfl | (simp [*]; done) | (simp_all []; done) | (simp_all []; omega))
set_option maxHeartbeats 4000000 in
theorem rPast_e (s : CSea) (l : List Hour) (hs : seaB s = true) (hl : logB s l = true) (hn : (l.length : Int) ≤ 12) {B : Lo} (hJ : ∀ w, B.has w → J0 w) : EndsT Tryz.prog B (entryC Tryz.prog 18 61 (([.agg (encSea s).toArray, slH l]).map (pushT 0 4))) (slI (paL s l)) := by
  have hsf := sea_facts hs
  have hwl := whL_len (s := s) (l := l)
  have rj0 : FJ Tryz.prog B (rPast_c0 s l) (rPast_H0 s l) 2 (OO.ret (Value.slice (some { block := 3, off := 0 }) (List.length (whL s l)) 1)) (([] ++ ((2, regO) :: heapL (2 + 1) [Obj.cells (rowL encI (whL s l)) 3])) ++ rPast_H0 s l) 4 (List.range 2) [] := by
    exact FinK.fjB ((rPast_k1_ls s l hs hl hn hJ _) (0) ([s.start]) (1) rfl (by first | with_reducible assumption | omega | rfl | exact whL_one | (rw [haf]; exact whL_snoc i0 q0 hy) | (simp only [List.length_append, List.length_cons, List.length_nil]; omega) | (simp_all; done)) (by first | with_reducible assumption | omega | rfl | exact whL_one | (rw [haf]; exact whL_snoc i0 q0 hy) | (simp only [List.length_append, List.length_cons, List.length_nil]; omega) | (simp_all; done)) (by first | with_reducible assumption | omega | rfl | exact whL_one | (rw [haf]; exact whL_snoc i0 q0 hy) | (simp only [List.length_append, List.length_cons, List.length_nil]; omega) | (simp_all; done)) (by first | with_reducible assumption | omega | rfl | exact whL_one | (rw [haf]; exact whL_snoc i0 q0 hy) | (simp only [List.length_append, List.length_cons, List.length_nil]; omega) | (simp_all; done))
      (GoE.landA okF hJ mixed_ok (under_all (by kernel_rfl)) (writable_of (by kernel_rfl)) ((GoE.refl (P := Tryz.prog) (B := B) (c0 := rPast_c0 s l) (under_all (by kernel_rfl))).widen (Wf := ((([]) : List (Nat × KS)).map (·.1))) (by simp) (writable_of (by kernel_rfl))) (rPast_s6 B s l)
      ⟨(cellsM_lit (by kernel_rfl)), trivial⟩ (by kernel_rfl) (by kernel_rfl) (fun l hl => by cases hl <;> decide))) (ex := []) (by kernel_rfl) (lowX_nil _)
  exact ((rPast_ls s l hs hl hn hJ _).1 ((↑l.length : Int) - 1) (whL s l) rfl (by first | with_reducible assumption | omega | exact mix_all | (rw [show ((l.length : Int) - 1 + 1).toNat = l.length by omega]; exact mix_all) | (rw [hbe, hz]; exact mix_down kk k1) | (simp_all; done)) (by first | with_reducible assumption | omega | exact mix_all | (rw [show ((l.length : Int) - 1 + 1).toNat = l.length by omega]; exact mix_all) | (rw [hbe, hz]; exact mix_down kk k1) | (simp_all; done)) (by first | with_reducible assumption | omega | exact mix_all | (rw [show ((l.length : Int) - 1 + 1).toNat = l.length by omega]; exact mix_all) | (rw [hbe, hz]; exact mix_down kk k1) | (simp_all; done))
    (GoE.start.landM okF hJ mixed_ok (rPast_s10 B s l)
    ⟨(cellsM_simple (rowL_simple (fun x => List.all_eq_true.1 (by first | rfl | (cases x <;> rfl))))), ⟨(wq_in (by omega) (by omega)), ⟨rj0, trivial⟩⟩⟩ (by kernel_rfl) (by kernel_rfl))).cast (by first | rfl | (simp [*]; done) | (simp_all []; done) | (simp_all []; omega))
theorem rPast (s : CSea) (l : List Hour) (hs : seaB s = true) (hl : logB s l = true) (hn : (l.length : Int) ≤ 12) : PureC Tryz.prog J0 18 #[.agg (encSea s).toArray, slH l] (slI (paL s l)) :=
  pureC_of (ts := [.agg (encSea s).toArray, slH l]) J0_st (c0 := entryC Tryz.prog 18 61 (([.agg (encSea s).toArray, slH l]).map (pushT 0 4))) (by kernel_rfl) (by kernel_rfl) fun B hJ => rPast_e s l hs hl hn hJ
end Go.Proofs.YtiaaikkmipmhnaaGreatDoor

namespace Go.Proofs.YtiaaikkmipmhnaaGreatDoor
open Go Go.CE Go.RowKit
noncomputable def wSets_z0 (s : CSea) (l : List Hour) : Array Value := #[Value.agg #[Value.int IntKind.i64 s.cells, Value.int IntKind.i64 s.start, slT s.courses.length (rowL slI2 s.courses), slT s.stars.length (rowL encI s.stars), slT s.boats.length (rowL encI s.boats), slT s.roads.length (rowL encI s.roads)], slT l.length (rowL encHour l)]
noncomputable def wSets_z1 (s : CSea) : Array Value := #[Value.agg #[Value.int IntKind.i64 s.cells, Value.int IntKind.i64 s.start, slT s.courses.length (rowL slI2 s.courses), slT s.stars.length (rowL encI s.stars), slT s.boats.length (rowL encI s.boats), slT s.roads.length (rowL encI s.roads)]]
noncomputable def wSets_p0 (B : Lo) (s : CSea) (l : List Hour) : List Prop := [AllP [] ∧ PureC Tryz.prog J0 8 (wSets_z1 s) (Value.bool true)] ++ ([] : List Prop)
noncomputable def wSets_q0 (s : CSea) (l : List Hour) : ScriptT := [(3, HintT.pure (Value.bool true) [])]
set_option maxRecDepth 100000 in
theorem wSets_s0 (B : Lo) (s : CSea) (l : List Hour) : endT (srunT Tryz.prog (okFn Tryz.prog) J0 B 10 1 (entryC Tryz.prog 3 105 (([.agg (encSea s).toArray, slH l]).map (pushT 0 4))) H00 1
    (wSets_q0 s l ++ [(8, hvT), (10, HintT.pure (Value.bool true) [])]) 0 [] []) [] = some (Value.bool true,
    [AllP [] ∧ PureC Tryz.prog J0 9 #[] (Value.bool true), ltq 18 (↑l.length : Int) = true] ++ wSets_p0 B s l) := by kernel_rfl
noncomputable def wSets_p1 (B : Lo) (s : CSea) (l : List Hour) : List Prop := [ltq 18 (↑l.length : Int) = false] ++ wSets_p0 B s l
noncomputable def wSets_q1 (s : CSea) (l : List Hour) : ScriptT := wSets_q0 s l ++ [(8, hvF)]
noncomputable def wSets_p2 (B : Lo) (s : CSea) (l : List Hour) : List Prop := [AllP [] ∧ PureC Tryz.prog J0 10 (wSets_z1 s) (Value.int IntKind.i64 0)] ++ wSets_p1 B s l
noncomputable def wSets_q2 (s : CSea) (l : List Hour) : ScriptT := wSets_q1 s l ++ [(11, HintT.pure (Value.int IntKind.i64 0) [])]
set_option maxRecDepth 100000 in
theorem wSets_s1 (B : Lo) (s : CSea) (l : List Hour) : endT (srunT Tryz.prog (okFn Tryz.prog) J0 B 35 1 (entryC Tryz.prog 3 105 (([.agg (encSea s).toArray, slH l]).map (pushT 0 4))) H00 1
    (wSets_q2 s l ++ [(15, HintT.pure (Value.tuple #[slT 0 #[], Value.int IntKind.i64 3]) []), (23, HintT.pure (Value.tuple #[slT 0 #[], Value.int IntKind.i64 3]) []), (30, HintT.pure (Value.bool true) []), (47, HintT.pure (Value.int IntKind.i64 3) []), (76, HintT.pure (Value.bool true) [])]) 0 [] []) [] = some (Value.bool true,
    [AllP [] ∧ PureC Tryz.prog J0 9 #[] (Value.bool true), AllP [] ∧ PureC Tryz.prog J0 14 (wSets_z0 s l) (Value.int IntKind.i64 3), AllP [] ∧ PureC Tryz.prog J0 13 (wSets_z1 s) (Value.bool true), AllP [] ∧ PureC Tryz.prog J0 12 (wSets_z0 s l) (Value.tuple #[slT 0 #[], Value.int IntKind.i64 3]), AllP [] ∧ PureC Tryz.prog J0 11 (wSets_z0 s l) (Value.tuple #[slT 0 #[], Value.int IntKind.i64 3])] ++ wSets_p2 B s l) := by kernel_rfl
set_option maxRecDepth 100000 in
theorem wSets_s2 (B : Lo) (s : CSea) (l : List Hour) : endT (srunT Tryz.prog (okFn Tryz.prog) J0 B 35 1 (entryC Tryz.prog 3 105 (([.agg (encSea s).toArray, slH l]).map (pushT 0 4))) H00 1
    (wSets_q2 s l ++ [(15, HintT.pure (Value.tuple #[slT 0 #[], Value.int IntKind.i64 5]) []), (23, HintT.pure (Value.tuple #[slT 0 #[], Value.int IntKind.i64 5]) []), (30, HintT.pure (Value.bool true) []), (47, HintT.pure (Value.int IntKind.i64 0) []), (54, HintT.pure (Value.bool false) []), (77, HintT.pure (Value.bool true) [])]) 0 [] []) [] = some (Value.bool true,
    [AllP [] ∧ PureC Tryz.prog J0 9 #[] (Value.bool true), AllP [] ∧ PureC Tryz.prog J0 15 (wSets_z0 s l) (Value.bool false), AllP [] ∧ PureC Tryz.prog J0 14 (wSets_z0 s l) (Value.int IntKind.i64 0), AllP [] ∧ PureC Tryz.prog J0 13 (wSets_z1 s) (Value.bool true), AllP [] ∧ PureC Tryz.prog J0 12 (wSets_z0 s l) (Value.tuple #[slT 0 #[], Value.int IntKind.i64 5]), AllP [] ∧ PureC Tryz.prog J0 11 (wSets_z0 s l) (Value.tuple #[slT 0 #[], Value.int IntKind.i64 5])] ++ wSets_p2 B s l) := by kernel_rfl
set_option maxRecDepth 100000 in
theorem wSets_s3 (B : Lo) (s : CSea) (l : List Hour) : endT (srunT Tryz.prog (okFn Tryz.prog) J0 B 35 1 (entryC Tryz.prog 3 105 (([.agg (encSea s).toArray, slH l]).map (pushT 0 4))) H00 1
    (wSets_q2 s l ++ [(15, HintT.pure (Value.tuple #[slT 0 #[], Value.int IntKind.i64 3]) []), (23, HintT.pure (Value.tuple #[slT 0 #[], Value.int IntKind.i64 3]) []), (30, HintT.pure (Value.bool true) []), (47, HintT.pure (Value.int IntKind.i64 3) []), (76, HintT.pure (Value.bool true) [])]) 0 [] []) [] = some (Value.bool true,
    [AllP [] ∧ PureC Tryz.prog J0 9 #[] (Value.bool true), AllP [] ∧ PureC Tryz.prog J0 14 (wSets_z0 s l) (Value.int IntKind.i64 3), AllP [] ∧ PureC Tryz.prog J0 13 (wSets_z1 s) (Value.bool true), AllP [] ∧ PureC Tryz.prog J0 12 (wSets_z0 s l) (Value.tuple #[slT 0 #[], Value.int IntKind.i64 3]), AllP [] ∧ PureC Tryz.prog J0 11 (wSets_z0 s l) (Value.tuple #[slT 0 #[], Value.int IntKind.i64 3])] ++ wSets_p2 B s l) := by kernel_rfl
set_option maxRecDepth 100000 in
theorem wSets_s4 (B : Lo) (s : CSea) (l : List Hour) : endT (srunT Tryz.prog (okFn Tryz.prog) J0 B 36 1 (entryC Tryz.prog 3 105 (([.agg (encSea s).toArray, slH l]).map (pushT 0 4))) H00 1
    (wSets_q2 s l ++ [(15, HintT.pure (Value.tuple #[slT (List.length (whL s l)) (rowL encI (whL s l)), Value.int IntKind.i64 0]) []), (23, HintT.pure (Value.tuple #[slT (List.length (paL s l)) (rowL encI (paL s l)), Value.int IntKind.i64 0]) []), (30, HintT.pure (Value.bool true) []), (47, HintT.pure (Value.int IntKind.i64 0) []), (54, HintT.pure (Value.bool true) []), (69, HintT.pure (slT (List.length (whL s l)) (rowL encI (whL s l))) []), (70, HintT.pure (Value.bool true) []), (76, HintT.pure (slT (List.length (paL s l)) (rowL encI (paL s l))) []), (77, HintT.pure (Value.bool true) []), (80, HintT.pure (Value.bool true) [])]) 0 [] []) [] = some (Value.bool true,
    [AllP [] ∧ PureC Tryz.prog J0 9 #[] (Value.bool true), AllP [] ∧ PureC Tryz.prog J0 16 #[slT (List.length (paL s l)) (rowL encI (paL s l)), slT (List.length (paL s l)) (rowL encI (paL s l))] (Value.bool true), AllP [] ∧ PureC Tryz.prog J0 18 (wSets_z0 s l) (slT (List.length (paL s l)) (rowL encI (paL s l))), AllP [] ∧ PureC Tryz.prog J0 16 #[slT (List.length (whL s l)) (rowL encI (whL s l)), slT (List.length (whL s l)) (rowL encI (whL s l))] (Value.bool true), AllP [] ∧ PureC Tryz.prog J0 17 (wSets_z0 s l) (slT (List.length (whL s l)) (rowL encI (whL s l))), AllP [] ∧ PureC Tryz.prog J0 15 (wSets_z0 s l) (Value.bool true), AllP [] ∧ PureC Tryz.prog J0 14 (wSets_z0 s l) (Value.int IntKind.i64 0), AllP [] ∧ PureC Tryz.prog J0 13 (wSets_z1 s) (Value.bool true), AllP [] ∧ PureC Tryz.prog J0 12 (wSets_z0 s l) (Value.tuple #[slT (List.length (paL s l)) (rowL encI (paL s l)), Value.int IntKind.i64 0]), AllP [] ∧ PureC Tryz.prog J0 11 (wSets_z0 s l) (Value.tuple #[slT (List.length (whL s l)) (rowL encI (whL s l)), Value.int IntKind.i64 0])] ++ wSets_p2 B s l) := by kernel_rfl
set_option maxRecDepth 100000 in
theorem wSets_s5 (B : Lo) (s : CSea) (l : List Hour) : endT (srunT Tryz.prog (okFn Tryz.prog) J0 B 35 1 (entryC Tryz.prog 3 105 (([.agg (encSea s).toArray, slH l]).map (pushT 0 4))) H00 1
    (wSets_q2 s l ++ [(15, HintT.pure (Value.tuple #[slT 0 #[], Value.int IntKind.i64 3]) []), (23, HintT.pure (Value.tuple #[slT 0 #[], Value.int IntKind.i64 3]) []), (30, HintT.pure (Value.bool true) []), (47, HintT.pure (Value.int IntKind.i64 3) []), (76, HintT.pure (Value.bool true) [])]) 0 [] []) [] = some (Value.bool true,
    [AllP [] ∧ PureC Tryz.prog J0 9 #[] (Value.bool true), AllP [] ∧ PureC Tryz.prog J0 14 (wSets_z0 s l) (Value.int IntKind.i64 3), AllP [] ∧ PureC Tryz.prog J0 13 (wSets_z1 s) (Value.bool true), AllP [] ∧ PureC Tryz.prog J0 12 (wSets_z0 s l) (Value.tuple #[slT 0 #[], Value.int IntKind.i64 3]), AllP [] ∧ PureC Tryz.prog J0 11 (wSets_z0 s l) (Value.tuple #[slT 0 #[], Value.int IntKind.i64 3])] ++ wSets_p2 B s l) := by kernel_rfl
set_option maxRecDepth 100000 in
theorem wSets_s6 (B : Lo) (s : CSea) (l : List Hour) : endT (srunT Tryz.prog (okFn Tryz.prog) J0 B 35 1 (entryC Tryz.prog 3 105 (([.agg (encSea s).toArray, slH l]).map (pushT 0 4))) H00 1
    (wSets_q2 s l ++ [(15, HintT.pure (Value.tuple #[slT 0 #[], Value.int IntKind.i64 2]) []), (23, HintT.pure (Value.tuple #[slT 0 #[], Value.int IntKind.i64 2]) []), (30, HintT.pure (Value.bool true) []), (47, HintT.pure (Value.int IntKind.i64 2) []), (76, HintT.pure (Value.bool true) [])]) 0 [] []) [] = some (Value.bool true,
    [AllP [] ∧ PureC Tryz.prog J0 9 #[] (Value.bool true), AllP [] ∧ PureC Tryz.prog J0 14 (wSets_z0 s l) (Value.int IntKind.i64 2), AllP [] ∧ PureC Tryz.prog J0 13 (wSets_z1 s) (Value.bool true), AllP [] ∧ PureC Tryz.prog J0 12 (wSets_z0 s l) (Value.tuple #[slT 0 #[], Value.int IntKind.i64 2]), AllP [] ∧ PureC Tryz.prog J0 11 (wSets_z0 s l) (Value.tuple #[slT 0 #[], Value.int IntKind.i64 2])] ++ wSets_p2 B s l) := by kernel_rfl
noncomputable def wSets_p3 (B : Lo) (s : CSea) (l : List Hour) : List Prop := [AllP [] ∧ PureC Tryz.prog J0 10 (wSets_z1 s) (Value.int IntKind.i64 2)] ++ wSets_p1 B s l
noncomputable def wSets_q3 (s : CSea) (l : List Hour) : ScriptT := wSets_q1 s l ++ [(11, HintT.pure (Value.int IntKind.i64 2) [])]
set_option maxRecDepth 100000 in
theorem wSets_s7 (B : Lo) (s : CSea) (l : List Hour) : endT (srunT Tryz.prog (okFn Tryz.prog) J0 B 35 1 (entryC Tryz.prog 3 105 (([.agg (encSea s).toArray, slH l]).map (pushT 0 4))) H00 1
    (wSets_q3 s l ++ [(15, HintT.pure (Value.tuple #[slT 0 #[], Value.int IntKind.i64 3]) []), (23, HintT.pure (Value.tuple #[slT 0 #[], Value.int IntKind.i64 3]) []), (30, HintT.pure (Value.bool false) []), (47, HintT.pure (Value.int IntKind.i64 3) []), (76, HintT.pure (Value.bool true) [])]) 0 [] []) [] = some (Value.bool true,
    [AllP [] ∧ PureC Tryz.prog J0 9 #[] (Value.bool true), AllP [] ∧ PureC Tryz.prog J0 14 (wSets_z0 s l) (Value.int IntKind.i64 3), AllP [] ∧ PureC Tryz.prog J0 13 (wSets_z1 s) (Value.bool false), AllP [] ∧ PureC Tryz.prog J0 12 (wSets_z0 s l) (Value.tuple #[slT 0 #[], Value.int IntKind.i64 3]), AllP [] ∧ PureC Tryz.prog J0 11 (wSets_z0 s l) (Value.tuple #[slT 0 #[], Value.int IntKind.i64 3])] ++ wSets_p3 B s l) := by kernel_rfl
set_option maxRecDepth 100000 in
theorem wSets_s8 (B : Lo) (s : CSea) (l : List Hour) : endT (srunT Tryz.prog (okFn Tryz.prog) J0 B 35 1 (entryC Tryz.prog 3 105 (([.agg (encSea s).toArray, slH l]).map (pushT 0 4))) H00 1
    (wSets_q3 s l ++ [(15, HintT.pure (Value.tuple #[slT 0 #[], Value.int IntKind.i64 2]) []), (23, HintT.pure (Value.tuple #[slT 0 #[], Value.int IntKind.i64 2]) []), (30, HintT.pure (Value.bool false) []), (47, HintT.pure (Value.int IntKind.i64 2) []), (76, HintT.pure (Value.bool true) [])]) 0 [] []) [] = some (Value.bool true,
    [AllP [] ∧ PureC Tryz.prog J0 9 #[] (Value.bool true), AllP [] ∧ PureC Tryz.prog J0 14 (wSets_z0 s l) (Value.int IntKind.i64 2), AllP [] ∧ PureC Tryz.prog J0 13 (wSets_z1 s) (Value.bool false), AllP [] ∧ PureC Tryz.prog J0 12 (wSets_z0 s l) (Value.tuple #[slT 0 #[], Value.int IntKind.i64 2]), AllP [] ∧ PureC Tryz.prog J0 11 (wSets_z0 s l) (Value.tuple #[slT 0 #[], Value.int IntKind.i64 2])] ++ wSets_p3 B s l) := by kernel_rfl
set_option maxRecDepth 100000 in
theorem wSets_s9 (B : Lo) (s : CSea) (l : List Hour) : endT (srunT Tryz.prog (okFn Tryz.prog) J0 B 10 1 (entryC Tryz.prog 3 105 (([.agg (encSea s).toArray, slH l]).map (pushT 0 4))) H00 1
    [(3, HintT.pure (Value.bool false) []), (10, HintT.pure (Value.bool true) [])] 0 [] []) [] = some (Value.bool true,
    [AllP [] ∧ PureC Tryz.prog J0 9 #[] (Value.bool true), AllP [] ∧ PureC Tryz.prog J0 8 (wSets_z1 s) (Value.bool false)]) := by kernel_rfl
set_option maxHeartbeats 4000000 in
theorem wSets_e (s : CSea) (l : List Hour)  (hfacts : l.length ≤ 9223372036854775807) {B : Lo} (hJ : ∀ w, B.has w → J0 w) : EndsT Tryz.prog B (entryC Tryz.prog 3 105 (([.agg (encSea s).toArray, slH l]).map (pushT 0 4))) (.bool true) := by
  have hfa := hfacts
  have hwl := whL_len (s := s) (l := l)
  have hpl := paL_len (s := s) (l := l)
  cases q0 : shortB s with
  | true =>
    have hp0 : AllP (wSets_p0 B s l) := by
      try have hsf := sea_facts ‹seaB s = true›
      exact ⟨⟨trivial, (by have t_ := lshort (s); rw [q0] at t_; exact t_)⟩, trivial⟩
    by_cases q1 : (18 : Int) < ((↑l.length : Int))
    ·
      exact (GoE.endsT okF hJ mixed_ok GoE.start (wSets_s0 B s l)
        ⟨⟨trivial, known⟩, ⟨(ltq_t q1), hp0⟩⟩).cast rfl
    ·
      have hp1 : AllP (wSets_p1 B s l) := by
        exact ⟨(ltq_f (Int.not_lt.1 q1)), hp0⟩
      cases q2 : seaB s with
      | true =>
        have hp2 : AllP (wSets_p2 B s l) := by
          try have hsf := sea_facts ‹seaB s = true›
          exact ⟨⟨trivial, (by have t_ := pCheck (s); rw [q2] at t_; exact t_)⟩, hp1⟩
        cases q3 : logB s l with
        | true =>
          cases q4 : decide (endI s l = 0) with
          | true =>
            cases q5 : decide (12 < (↑l.length : Int)) with
            | true =>
              try have hsf := sea_facts ‹seaB s = true›
              exact (GoE.endsT okF hJ mixed_ok GoE.start (wSets_s1 B s l)
                ⟨⟨trivial, known⟩, ⟨⟨trivial, (by have t_ := lasked (s) (l); rw [q2, q3, q5] at t_; exact t_)⟩, ⟨⟨trivial, (by have t_ := rSea (s); rw [q2] at t_; exact t_)⟩, ⟨⟨trivial, (by have t_ := pPast (s) (l); rw [q2, q3, q4, q5] at t_; exact t_)⟩, ⟨⟨trivial, (by have t_ := pWhere (s) (l); rw [q2, q3, q4, q5] at t_; exact t_)⟩, hp2⟩⟩⟩⟩⟩).cast rfl
            | false =>
              try have hsf := sea_facts ‹seaB s = true›
              exact (GoE.endsT okF hJ mixed_ok GoE.start (wSets_s2 B s l)
                ⟨⟨trivial, known⟩, ⟨⟨trivial, (by have t_ := rPossible (s) (l) (by first | with_reducible assumption | omega | simp_all) (by first | with_reducible assumption | omega | simp_all) (by first | with_reducible assumption | omega | simp_all); rw [q4] at t_; exact t_)⟩, ⟨⟨trivial, (by have t_ := lasked (s) (l); rw [q2, q3, q5] at t_; exact t_)⟩, ⟨⟨trivial, (by have t_ := rSea (s); rw [q2] at t_; exact t_)⟩, ⟨⟨trivial, (by have t_ := pPast (s) (l); rw [q2, q3, q4, q5] at t_; exact t_)⟩, ⟨⟨trivial, (by have t_ := pWhere (s) (l); rw [q2, q3, q4, q5] at t_; exact t_)⟩, hp2⟩⟩⟩⟩⟩⟩).cast rfl
          | false =>
            cases q5 : decide (12 < (↑l.length : Int)) with
            | true =>
              try have hsf := sea_facts ‹seaB s = true›
              exact (GoE.endsT okF hJ mixed_ok GoE.start (wSets_s3 B s l)
                ⟨⟨trivial, known⟩, ⟨⟨trivial, (by have t_ := lasked (s) (l); rw [q2, q3, q5] at t_; exact t_)⟩, ⟨⟨trivial, (by have t_ := rSea (s); rw [q2] at t_; exact t_)⟩, ⟨⟨trivial, (by have t_ := pPast (s) (l); rw [q2, q3, q4, q5] at t_; exact t_)⟩, ⟨⟨trivial, (by have t_ := pWhere (s) (l); rw [q2, q3, q4, q5] at t_; exact t_)⟩, hp2⟩⟩⟩⟩⟩).cast rfl
            | false =>
              try have hsf := sea_facts ‹seaB s = true›
              exact (GoE.endsT okF hJ mixed_ok GoE.start (wSets_s4 B s l)
                ⟨⟨trivial, known⟩, ⟨⟨trivial, rSame (paL s l)⟩, ⟨⟨trivial, rPast (s) (l) (by first | with_reducible assumption | omega | simp_all) (by first | with_reducible assumption | omega | simp_all) (by first | with_reducible assumption | omega | simp_all)⟩, ⟨⟨trivial, rSame (whL s l)⟩, ⟨⟨trivial, rWhere (s) (l) (by first | with_reducible assumption | omega | simp_all) (by first | with_reducible assumption | omega | simp_all) (by first | with_reducible assumption | omega | simp_all)⟩, ⟨⟨trivial, (by have t_ := rPossible (s) (l) (by first | with_reducible assumption | omega | simp_all) (by first | with_reducible assumption | omega | simp_all) (by first | with_reducible assumption | omega | simp_all); rw [q4] at t_; exact t_)⟩, ⟨⟨trivial, (by have t_ := lasked (s) (l); rw [q2, q3, q5] at t_; exact t_)⟩, ⟨⟨trivial, (by have t_ := rSea (s); rw [q2] at t_; exact t_)⟩, ⟨⟨trivial, (by have t_ := pPast (s) (l); rw [q2, q3, q4, q5] at t_; exact t_)⟩, ⟨⟨trivial, (by have t_ := pWhere (s) (l); rw [q2, q3, q4, q5] at t_; exact t_)⟩, hp2⟩⟩⟩⟩⟩⟩⟩⟩⟩⟩).cast rfl
        | false =>
          cases q4 : decide (12 < (↑l.length : Int)) with
          | true =>
            try have hsf := sea_facts ‹seaB s = true›
            exact (GoE.endsT okF hJ mixed_ok GoE.start (wSets_s5 B s l)
              ⟨⟨trivial, known⟩, ⟨⟨trivial, (by have t_ := lasked (s) (l); rw [q2, q3, q4] at t_; exact t_)⟩, ⟨⟨trivial, (by have t_ := rSea (s); rw [q2] at t_; exact t_)⟩, ⟨⟨trivial, (by have t_ := pPast (s) (l); rw [q2, q3, q4] at t_; exact t_)⟩, ⟨⟨trivial, (by have t_ := pWhere (s) (l); rw [q2, q3, q4] at t_; exact t_)⟩, hp2⟩⟩⟩⟩⟩).cast rfl
          | false =>
            try have hsf := sea_facts ‹seaB s = true›
            exact (GoE.endsT okF hJ mixed_ok GoE.start (wSets_s6 B s l)
              ⟨⟨trivial, known⟩, ⟨⟨trivial, (by have t_ := lasked (s) (l); rw [q2, q3, q4] at t_; exact t_)⟩, ⟨⟨trivial, (by have t_ := rSea (s); rw [q2] at t_; exact t_)⟩, ⟨⟨trivial, (by have t_ := pPast (s) (l); rw [q2, q3, q4] at t_; exact t_)⟩, ⟨⟨trivial, (by have t_ := pWhere (s) (l); rw [q2, q3, q4] at t_; exact t_)⟩, hp2⟩⟩⟩⟩⟩).cast rfl
      | false =>
        have hp3 : AllP (wSets_p3 B s l) := by
          try have hsf := sea_facts ‹seaB s = true›
          exact ⟨⟨trivial, (by have t_ := pCheck (s); rw [q2] at t_; exact t_)⟩, hp1⟩
        cases q3 : decide (12 < (↑l.length : Int)) with
        | true =>
          try have hsf := sea_facts ‹seaB s = true›
          exact (GoE.endsT okF hJ mixed_ok GoE.start (wSets_s7 B s l)
            ⟨⟨trivial, known⟩, ⟨⟨trivial, (by have t_ := lasked (s) (l); rw [q2, q3] at t_; exact t_)⟩, ⟨⟨trivial, (by have t_ := rSea (s); rw [q2] at t_; exact t_)⟩, ⟨⟨trivial, (by have t_ := pPast (s) (l); rw [q2, q3] at t_; exact t_)⟩, ⟨⟨trivial, (by have t_ := pWhere (s) (l); rw [q2, q3] at t_; exact t_)⟩, hp3⟩⟩⟩⟩⟩).cast rfl
        | false =>
          try have hsf := sea_facts ‹seaB s = true›
          exact (GoE.endsT okF hJ mixed_ok GoE.start (wSets_s8 B s l)
            ⟨⟨trivial, known⟩, ⟨⟨trivial, (by have t_ := lasked (s) (l); rw [q2, q3] at t_; exact t_)⟩, ⟨⟨trivial, (by have t_ := rSea (s); rw [q2] at t_; exact t_)⟩, ⟨⟨trivial, (by have t_ := pPast (s) (l); rw [q2, q3] at t_; exact t_)⟩, ⟨⟨trivial, (by have t_ := pWhere (s) (l); rw [q2, q3] at t_; exact t_)⟩, hp3⟩⟩⟩⟩⟩).cast rfl
  | false =>
    try have hsf := sea_facts ‹seaB s = true›
    exact (GoE.endsT okF hJ mixed_ok GoE.start (wSets_s9 B s l)
      ⟨⟨trivial, known⟩, ⟨⟨trivial, (by have t_ := lshort (s); rw [q0] at t_; exact t_)⟩, trivial⟩⟩).cast rfl
theorem wSets (s : CSea) (l : List Hour)  : PureC Tryz.prog J0 3 #[.agg (encSea s).toArray, slH l] (.bool true) :=
  pureC_ofF (ts := [.agg (encSea s).toArray, slH l]) (l.length ≤ 9223372036854775807) (fun _ _ ht => ht.ln (i := 1) rfl) J0_st (c0 := entryC Tryz.prog 3 105 (([.agg (encSea s).toArray, slH l]).map (pushT 0 4))) (by kernel_rfl) (by kernel_rfl) fun hfacts B hJ => wSets_e s l  hfacts hJ
end Go.Proofs.YtiaaikkmipmhnaaGreatDoor

namespace Go.Proofs.YtiaaikkmipmhnaaGreatDoor
open Go Go.CE Go.RowKit
theorem sets_all : ∀ trs, ArgAll [shSea, .slice shHour] trs → PureC Tryz.prog J0 3 trs.toArray (.bool true) := by
  rintro trs ⟨t0, _, rfl, h0, t1, _, rfl, h1, rfl⟩
  obtain ⟨s, rfl⟩ := arg_sea h0
  obtain ⟨l, rfl⟩ := arg_log h1
  exact wSets s l
end Go.Proofs.YtiaaikkmipmhnaaGreatDoor

namespace Go.Proofs.YtiaaikkmipmhnaaGreatDoor
open Go Go.CE Go.ChangeShapes Go.WideShapes Go.ChangeAt Go.RowKit Go.WideElems
set_option maxRecDepth 100000 in
theorem canoeSets_lifted (os : Os) (started : os.Started) (H : Type) (enc : TypeId × Value → H) :
    ReturnsInHanded {} Tryz.checked os 3 .any (fun w args => (Rows.canoeSetsSpec.pre enc Tryz.prog Tryz.f3 Rows.canoeSetsRow.domain false w args ∧ laidMetH Tryz.prog laid3 w) ∧ sizedMet enc Tryz.prog Tryz.f3 (OpenSpec.ofChange Rows.canoeSetsSpec) false w args) (Rows.canoeSetsSpec.post enc Tryz.prog Tryz.f3 false true false false) := by
  refine returnsInHanded_of_change_and (C := Tryz.checked) (X := fun w _ => laidMetH Tryz.prog laid3 w) (fun _ _ _ hh h => h.of_heap hh) lawOwn started (by kernel_rfl) Tryz.func3
    (ChangeSpec.witness_shaped (enc := enc) (C := Tryz.checked) (os := os) (X := fun w _ => laidMetH Tryz.prog laid3 w) false (World.doorLaid Tryz.prog 400 os)
      #[Sh.zeroA shSea, Sh.zeroA (.slice shHour)]
      8 rfl (World.shaped_of_RefB (by kernel_rfl) (by kernel_rfl)) (by kernel_rfl) (by kernel_rfl) (by kernel_rfl) (door_met os _)) ?_
  intro W base args ds gs before hval0 hW _ _ hL _
  have hval : ∀ (j : Nat) t v, Tryz.f3.params[j]? = some t → args[j]? = some v → Value.okWide Tryz.prog W .any base t v := hval0
  have hW' := hW
  obtain ⟨p, q, hA0, hV, rfl, hfz, hnd⟩ := hW
  obtain ⟨rfl, rfl⟩ := trodVars_none hV
  have hA1 : DataW.TrodAll enc Tryz.prog W 0 (fun _ => true) true Tryz.f3.params.toList args.toList ds p := hA0
  have hlt : ∀ x ∈ p, x.block < W.heap.size := fun x hx => hW'.lt x (by simpa using hx)
  have hch : chkAll Tryz.prog [shSea, .slice shHour] Tryz.f3.params.toList = true := by kernel_rfl
  have hrd : (Tryz.f3.params.toList.all fun t => Tryz.prog.readableRec t && decide (t < Tryz.prog.types.size)) = true := by kernel_rfl
  refine (law_call (J := J0) (ss := [shSea, .slice shHour]) trivial hch hA1 (fun j t v h1 h2 => hval j t v (by simpa using h1) h2) sets_all).mono fun e W' ⟨he, hB⟩ => ?_
  subst he
  have hB2 := trodAll_below lawLaidOut hB _ _ _ _ hrd hA1 hlt
  have hA : DataW.TrodAll enc Tryz.prog W 0 (fun _ => true) true Tryz.f3.params.toList args.toList ds p := hA1
  rw [Tryz.params3] at hA
  simp only [List.toList_toArray] at hA
  have hA := hA
  obtain ⟨v0, vs0, d0, ds0, p0, q0, _, rfl, _, h0, _⟩ := CE.trodAll_cons hA
  obtain ⟨v1, vs1, d1, ds1, p1, q1, _, rfl, _, h1, _⟩ := CE.trodAll_cons h0
  obtain ⟨_, rfl, _⟩ := CE.trodAll_nil h1
  exact ⟨_, rfl, _, _, _, [], _, [], hW', trodAll_mk1 (shut_bool Tryz.underlying4 _), hB2, rfl, hB.frame _, fun h => by cases h⟩
theorem canoeSets_row : Rows.CanoeSetsSaid :=
  OpenClaim.holds_of_wide 3 Tryz.f3 rfl rfl rfl rfl rfl rfl rfl ⟨rfl, rfl, rfl, rfl, rfl⟩ rfl rfl rfl rfl rfl (by kernel_rfl) Tryz.func3 (by kernel_rfl)
    (of_decide_eq_true (by kernel_rfl)) (by unfold Func.isWrapper; first | (rw [if_pos (by decide +kernel)]; kernel_rfl) | (rw [if_neg (by decide +kernel)]; exact ⟨rfl, rfl⟩))
    (fun os started H enc _ => canoeSets_lifted os started H enc)
theorem canoeSets_card : Rows.CanoeSetsCardSaid :=
  Claim7.holds_tied_plain_at .later [] [.data, .data, .data] true (true, "f4c3872f85d24463241cf5d226473911f3b7fef5cc4a43563cb21f0a12f44ff4") false
    canoeSets_row (fun _ h => by cases h) (by kernel_rfl) (fun _ h => by cases h) canoeSets_row_tie rfl ⟨rfl, rfl⟩ (by kernel_rfl) rfl
    (fun f fn hf hfn => by
      obtain rfl : f = 3 := Option.some.inj ((show Tryz.prog.funcNamed "motu/motulaw05.CanoeSets" = some 3 by kernel_rfl).symm.trans hf) |>.symm
      obtain rfl : fn = Tryz.f3 := (Option.some.inj (Tryz.func3.symm.trans hfn)).symm
      exact ⟨by kernel_rfl, fun j t ht => by
        rw [Tryz.params3] at ht
        have hm : t ∈ [25, 26] := by simpa using Array.mem_of_getElem? ht
        have hall : ([25, 26].all fun u => !Tryz.prog.wantsStandIn u) = true := by kernel_rfl
        exact (show Tryz.prog.wantsStandIn t = false by simpa using List.all_eq_true.1 hall t hm)⟩)
    (by kernel_rfl)
end Go.Proofs.YtiaaikkmipmhnaaGreatDoor

