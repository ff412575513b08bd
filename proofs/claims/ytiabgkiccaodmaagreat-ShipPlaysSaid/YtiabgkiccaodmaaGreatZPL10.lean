/- The first day on which goods are wanting. -/
import Derived.Test.YtiabgkiccaodmaaGreatZPL09
set_option linter.all false
namespace Go.Proofs.YtiabgkiccaodmaaGreat
open Go Go.CE Go.RowKit
set_option maxRecDepth 100000
structure Gd where
 stock : Int
 use : Int
 br : Int
 ships : List Bool
deriving Inhabited
def encGd (g : Gd) : List Value := [.int .i64 g.stock, .int .i64 g.use, .int .i64 g.br, slB g.ships]
abbrev lessD (use left : Int) : Int := left - if use < left then use else left
def firstD (use br : Int) : List Bool → Int → Int → Int
 | [], _, _ => -1
 | c :: cs, day, left => bif decide ((left + bif c then br else 0) < use) then day else firstD use br cs (day + 1) (lessD use (left + bif c then br else 0))
def leftD (use br : Int) : List Bool → Int → Int
 | [], left => left
 | c :: cs, left => leftD use br cs (lessD use (left + bif c then br else 0))
def gdB (g : Gd) : Prop := 0 ≤ g.stock ∧ g.stock ≤ 1000000000 ∧ 0 ≤ g.use ∧ g.use ≤ 1000000000 ∧ 0 ≤ g.br ∧ g.br ≤ 1000000000 ∧ g.ships.length ≤ 1000
theorem firstD_cons {use br : Int} {l : List Bool} {i left : Int} (h0 : 0 ≤ i) (h : i < l.length) : firstD use br (l.drop i.toNat) i left = bif decide ((left + bif l.getD i.toNat default then br else 0) < use) then i else firstD use br (l.drop (i + 1).toNat) (i + 1) (lessD use (left + bif l.getD i.toNat default then br else 0)) := by
 obtain ⟨k, rfl⟩ : ∃ k : Nat, i = k := ⟨i.toNat, by omega⟩
 have hk : k < l.length := by omega
 have e1 : ((k : Int)).toNat = k := by omega
 have e2 : ((k : Int) + 1).toNat = k + 1 := by omega
 rw [e1, e2, List.drop_eq_getElem_cons hk]
 simp [firstD, List.getD_eq_getElem?_getD, hk]
theorem firstD_nil {use br : Int} {l : List Bool} {i left : Int} (h : l.length ≤ i) : firstD use br (l.drop i.toNat) i left = -1 := by
 rw [List.drop_eq_nil_of_le (by omega)]; rfl
theorem leftD_cons {use br : Int} {l : List Bool} {i left : Int} (h0 : 0 ≤ i) (h : i < l.length) : leftD use br (l.drop i.toNat) left = leftD use br (l.drop (i + 1).toNat) (lessD use (left + bif l.getD i.toNat default then br else 0)) := by
 obtain ⟨k, rfl⟩ : ∃ k : Nat, i = k := ⟨i.toNat, by omega⟩
 have hk : k < l.length := by omega
 have e1 : ((k : Int)).toNat = k := by omega
 have e2 : ((k : Int) + 1).toNat = k + 1 := by omega
 rw [e1, e2, List.drop_eq_getElem_cons hk]
 simp [leftD, List.getD_eq_getElem?_getD, hk]
theorem leftD_nil {use br : Int} {l : List Bool} {i left : Int} (h : l.length ≤ i) : leftD use br (l.drop i.toNat) left = left := by
 rw [List.drop_eq_nil_of_le (by omega)]; rfl
theorem firstD_or {use br : Int} : ∀ (l : List Bool) (day left : Int), 0 ≤ day → firstD use br l day left = -1 ∨ 0 ≤ firstD use br l day left
 | [], _, _, _ => .inl rfl
 | c :: cs, day, left, h => by
   simp only [firstD]
   cases decide ((left + bif c then br else 0) < use) with
   | true => exact .inr h
   | false => exact firstD_or cs _ _ (by omega)
noncomputable def pfirstDay_H0 (g : Gd) : Heap := [(2, Obj.cells #[.int .i64 0] 3), (1, Obj.cells #[.int .i64 g.stock, .int .i64 g.use, .int .i64 g.br, topV 0 (slT g.ships.length (rowL encB g.ships))] 129), (0, Obj.coro none)]
noncomputable def pfirstDay_c0 (g : Gd) : CF := ⟨126, ofList 38 [Value.agg #[.int .i64 g.stock, .int .i64 g.use, .int .i64 g.br, topV 0 (slT g.ships.length (rowL encB g.ships))], Value.func (Fn.func 149) #[] #[]], [Item.code (bodyOf Tryz.prog 126)], [], .run, none⟩
noncomputable def pfirstDay_k1_v0 (g : Gd) (i left : Int) : List Value := [Value.func (Fn.func 149) #[] #[], pA 4 0, .int .i64 left, topV 0 (slT g.ships.length (rowL encB g.ships)), .int .i64 (↑g.ships.length : Int), .int .i64 i]
noncomputable def pfirstDay_k1_w0 (g : Gd) (i left : Int) : List Obj := []
noncomputable def pfirstDay_k1_o0 (g : Gd) (i left : Int) : List Obj := [Obj.cells #[.int .i64 g.stock, .int .i64 g.use, .int .i64 g.br, topV 0 (slT g.ships.length (rowL encB g.ships))] 129]
noncomputable def pfirstDay_k1_t0 : List Item := ([.code [1, 1, 0, 1, 0, 0], .inLoop [1, 1, 0, 1, 0, 0], .inBlock 0, .code [1, 1, 1]]).map (it (bodyOf Tryz.prog 126))
noncomputable def pfirstDay_p0 (B : Lo) (g : Gd) (i left : Int) (dJ0 : Nat → Value) : List Prop := [ltq i (↑g.ships.length : Int) = true] ++ ([] : List Prop)
noncomputable def pfirstDay_q0 (g : Gd) (i left : Int) (dJ0 : Nat → Value) : ScriptT := [(0, hvT)]
noncomputable def pfirstDay_p1 (B : Lo) (g : Gd) (i left : Int) (dJ0 : Nat → Value) : List Prop := [wq (left + g.br) = left + g.br, i = (↑i.toNat : Int) ∧ Int.toNat i < List.length g.ships ∧ Array.extract (rowL encB g.ships) (Int.toNat i * TypeInfo.size Tryz.t4) (Int.toNat i * TypeInfo.size Tryz.t4 + TypeInfo.size Tryz.t4) = #[Value.bool true]] ++ pfirstDay_p0 B g i left dJ0
noncomputable def pfirstDay_q1 (g : Gd) (i left : Int) (dJ0 : Nat → Value) : ScriptT := pfirstDay_q0 g i left dJ0 ++ [(2, HintT.tidx i.toNat #[Value.bool true]), (10, hvI (left + g.br))]
noncomputable def pfirstDay_H1 (g : Gd) (i left : Int) (dJ0 : Nat → Value) : Heap := [(3, Obj.coro none), (4, Obj.cells #[.int .i64 g.stock, .int .i64 g.use, .int .i64 g.br, topV 0 (slT g.ships.length (rowL encB g.ships))] 129), (2, Obj.cells #[.int .i64 0] 3), (1, Obj.cells #[.int .i64 g.stock, .int .i64 g.use, .int .i64 g.br, topV 0 (slT g.ships.length (rowL encB g.ships))] 129), (0, Obj.coro none)]
noncomputable def pfirstDay_c1 (g : Gd) (i left : Int) (dJ0 : Nat → Value) : CF := ⟨149, ofList 4 [.int .i64 i], [Item.code (bodyOf Tryz.prog 149)], [], .run, none⟩
theorem pfirstDay_s1 (B : Lo) (g : Gd) (i left : Int) (dJ0 : Nat → Value) : CE.finK 5 (srunT Tryz.prog (okFn Tryz.prog) J0 B 2 5 (pfirstDay_c1 g i left dJ0) (pfirstDay_H1 g i left dJ0) 5
 [] 0 [] []) [] [] [] = some (OO.pan (Value.iface 183 (.int .i64 i)), [], [],
 []) := by kernel_rfl
theorem pfirstDay_s2 (B : Lo) (g : Gd) (i left : Int) (dJ0 : Nat → Value) : CE.finK 3 (srunT Tryz.prog (okFn Tryz.prog) J0 B 20 3 (headR (none) 126 38 (([1, 2, 5, 11, 12, 13] : List Nat).zip (pfirstDay_k1_v0 g i left)) dJ0 pfirstDay_k1_t0) (headA (pfirstDay_H0 g) 3 (([] : List Nat).zip (pfirstDay_k1_w0 g i left)) (pfirstDay_k1_o0 g i left)) (3 + 1 + (pfirstDay_k1_o0 g i left).length)
 (pfirstDay_q1 g i left dJ0 ++ [(15, hvT), (18, HintT.call (List.range 5) (OO.pan (Value.iface 183 (.int .i64 i))) ([] ++ (5, regO) :: heapL 6 []) 6 [])]) 0 [] []) [] [] [] = some (OO.pan (Value.iface 183 (.int .i64 i)), [], [],
 [FJ Tryz.prog B (pfirstDay_c1 g i left dJ0) (pfirstDay_H1 g i left dJ0) 5 (OO.pan (Value.iface 183 (.int .i64 i))) (([] ++ ((5, regO) :: heapL (5 + 1) [])) ++ pfirstDay_H1 g i left dJ0) 6 (List.range 5) [], ltq (left + g.br) g.use = true] ++ pfirstDay_p1 B g i left dJ0) := by kernel_rfl
theorem pfirstDay_s3 (B : Lo) (g : Gd) (i left : Int) (dJ0 : Nat → Value) : CE.landA 3 (srunT Tryz.prog (okFn Tryz.prog) J0 B 23 3 (headR (none) 126 38 (([1, 2, 5, 11, 12, 13] : List Nat).zip (pfirstDay_k1_v0 g i left)) dJ0 pfirstDay_k1_t0) (headA (pfirstDay_H0 g) 3 (([] : List Nat).zip (pfirstDay_k1_w0 g i left)) (pfirstDay_k1_o0 g i left)) (3 + 1 + (pfirstDay_k1_o0 g i left).length)
 (pfirstDay_q1 g i left dJ0 ++ [(15, hvF), (21, hvI (left + g.br - if g.use < left + g.br then g.use else left + g.br)), (23, hvI (i + 1))]) 0 [] []) [1, 2, 5, 11, 12, 13] [] [(4, KS.auto)] [] = some ⟨126, 38, pfirstDay_k1_t0, [], .run, none, pfirstDay_k1_v0 g (i + 1) (left + g.br - if g.use < left + g.br then g.use else left + g.br), ([] : List Nat).zip (pfirstDay_k1_w0 g (i + 1) (left + g.br - if g.use < left + g.br then g.use else left + g.br)), pfirstDay_k1_o0 g (i + 1) (left + g.br - if g.use < left + g.br then g.use else left + g.br),
 [wq (i + 1) = i + 1, wq (left + g.br - if g.use < left + g.br then g.use else left + g.br) = left + g.br - if g.use < left + g.br then g.use else left + g.br, ltq (left + g.br) g.use = false] ++ pfirstDay_p1 B g i left dJ0⟩ := by kernel_rfl
noncomputable def pfirstDay_p2 (B : Lo) (g : Gd) (i left : Int) (dJ0 : Nat → Value) : List Prop := [i = (↑i.toNat : Int) ∧ Int.toNat i < List.length g.ships ∧ Array.extract (rowL encB g.ships) (Int.toNat i * TypeInfo.size Tryz.t4) (Int.toNat i * TypeInfo.size Tryz.t4 + TypeInfo.size Tryz.t4) = #[Value.bool false]] ++ pfirstDay_p0 B g i left dJ0
noncomputable def pfirstDay_q2 (g : Gd) (i left : Int) (dJ0 : Nat → Value) : ScriptT := pfirstDay_q0 g i left dJ0 ++ [(2, HintT.tidx i.toNat #[Value.bool false])]
noncomputable def pfirstDay_H2 (g : Gd) (i left : Int) (dJ0 : Nat → Value) : Heap := [(3, Obj.coro none), (4, Obj.cells #[.int .i64 g.stock, .int .i64 g.use, .int .i64 g.br, topV 0 (slT g.ships.length (rowL encB g.ships))] 129), (2, Obj.cells #[.int .i64 0] 3), (1, Obj.cells #[.int .i64 g.stock, .int .i64 g.use, .int .i64 g.br, topV 0 (slT g.ships.length (rowL encB g.ships))] 129), (0, Obj.coro none)]
noncomputable def pfirstDay_c2 (g : Gd) (i left : Int) (dJ0 : Nat → Value) : CF := ⟨149, ofList 4 [.int .i64 i], [Item.code (bodyOf Tryz.prog 149)], [], .run, none⟩
theorem pfirstDay_s4 (B : Lo) (g : Gd) (i left : Int) (dJ0 : Nat → Value) : CE.finK 5 (srunT Tryz.prog (okFn Tryz.prog) J0 B 2 5 (pfirstDay_c2 g i left dJ0) (pfirstDay_H2 g i left dJ0) 5
 [] 0 [] []) [] [] [] = some (OO.pan (Value.iface 183 (.int .i64 i)), [], [],
 []) := by kernel_rfl
theorem pfirstDay_s5 (B : Lo) (g : Gd) (i left : Int) (dJ0 : Nat → Value) : CE.finK 3 (srunT Tryz.prog (okFn Tryz.prog) J0 B 20 3 (headR (none) 126 38 (([1, 2, 5, 11, 12, 13] : List Nat).zip (pfirstDay_k1_v0 g i left)) dJ0 pfirstDay_k1_t0) (headA (pfirstDay_H0 g) 3 (([] : List Nat).zip (pfirstDay_k1_w0 g i left)) (pfirstDay_k1_o0 g i left)) (3 + 1 + (pfirstDay_k1_o0 g i left).length)
 (pfirstDay_q2 g i left dJ0 ++ [(10, hvT), (13, HintT.call (List.range 5) (OO.pan (Value.iface 183 (.int .i64 i))) ([] ++ (5, regO) :: heapL 6 []) 6 [])]) 0 [] []) [] [] [] = some (OO.pan (Value.iface 183 (.int .i64 i)), [], [],
 [FJ Tryz.prog B (pfirstDay_c2 g i left dJ0) (pfirstDay_H2 g i left dJ0) 5 (OO.pan (Value.iface 183 (.int .i64 i))) (([] ++ ((5, regO) :: heapL (5 + 1) [])) ++ pfirstDay_H2 g i left dJ0) 6 (List.range 5) [], ltq left g.use = true] ++ pfirstDay_p2 B g i left dJ0) := by kernel_rfl
theorem pfirstDay_s6 (B : Lo) (g : Gd) (i left : Int) (dJ0 : Nat → Value) : CE.landA 3 (srunT Tryz.prog (okFn Tryz.prog) J0 B 23 3 (headR (none) 126 38 (([1, 2, 5, 11, 12, 13] : List Nat).zip (pfirstDay_k1_v0 g i left)) dJ0 pfirstDay_k1_t0) (headA (pfirstDay_H0 g) 3 (([] : List Nat).zip (pfirstDay_k1_w0 g i left)) (pfirstDay_k1_o0 g i left)) (3 + 1 + (pfirstDay_k1_o0 g i left).length)
 (pfirstDay_q2 g i left dJ0 ++ [(10, hvF), (16, hvI (left - if g.use < left then g.use else left)), (18, hvI (i + 1))]) 0 [] []) [1, 2, 5, 11, 12, 13] [] [(4, KS.auto)] [] = some ⟨126, 38, pfirstDay_k1_t0, [], .run, none, pfirstDay_k1_v0 g (i + 1) (left - if g.use < left then g.use else left), ([] : List Nat).zip (pfirstDay_k1_w0 g (i + 1) (left - if g.use < left then g.use else left)), pfirstDay_k1_o0 g (i + 1) (left - if g.use < left then g.use else left),
 [wq (i + 1) = i + 1, wq (left - if g.use < left then g.use else left) = left - if g.use < left then g.use else left, ltq left g.use = false] ++ pfirstDay_p2 B g i left dJ0⟩ := by kernel_rfl
theorem pfirstDay_s7 (B : Lo) (g : Gd) (i left : Int) (dJ0 : Nat → Value) : CE.finK 3 (srunT Tryz.prog (okFn Tryz.prog) J0 B 9 3 (headR (none) 126 38 (([1, 2, 5, 11, 12, 13] : List Nat).zip (pfirstDay_k1_v0 g i left)) dJ0 pfirstDay_k1_t0) (headA (pfirstDay_H0 g) 3 (([] : List Nat).zip (pfirstDay_k1_w0 g i left)) (pfirstDay_k1_o0 g i left)) (3 + 1 + (pfirstDay_k1_o0 g i left).length)
 [(0, hvF)] 0 [] []) [] [] [] = some (OO.ret (.int .i64 left), [], [],
 [ltq i (↑g.ships.length : Int) = false]) := by kernel_rfl
set_option maxHeartbeats 4000000 in
theorem pfirstDay_k1_ls (g : Gd) (hg : gdB g) {B : Lo} (hJ : ∀ w, B.has w → J0 w) : ∀ m : Nat, (∀ (i left : Int), ∀ (r : Bool), (decide (0 ≤ firstD g.use g.br (g.ships.drop i.toNat) i left)) = r → (g.ships.length - i.toNat) = m → ∀ (h0 : 0 ≤ i) (h1 : 0 ≤ left) (h2 : left ≤ 1000000000 * (i + 1)), (∃ dJ0 : Nat → Value, (∀ t, Loose (dJ0 t)) ∧ GoE Tryz.prog B (pfirstDay_c0 g) (pfirstDay_H0 g) 3 (headR (none) 126 38 (([1, 2, 5, 11, 12, 13] : List Nat).zip (pfirstDay_k1_v0 g i left)) dJ0 pfirstDay_k1_t0) (headA (pfirstDay_H0 g) 3 (([] : List Nat).zip (pfirstDay_k1_w0 g i left)) (pfirstDay_k1_o0 g i left)) (3 + 1 + (pfirstDay_k1_o0 g i left).length) ([] : List Nat)) → FinK Tryz.prog B (pfirstDay_c0 g) (pfirstDay_H0 g) 3 (bif r then .pan (.iface 183 (.int .i64 (firstD g.use g.br (g.ships.drop i.toNat) i left))) else .ret (.int .i64 (leftD g.use g.br (g.ships.drop i.toNat) left))) (([] : List Nat).zip ([])) ([]) ([] : List Nat)) := by
 intro m0
 induction m0 using Nat.strongRecOn with
 | _ m0 ih0 =>
   intro i left r1 hr1 hm0 h0 h1 h2 ⟨dJ0, hdJ0, hg0⟩
   by_cases q0 : (i : Int) < ((↑g.ships.length : Int))
   ·
    have hp0 : AllP (pfirstDay_p0 B g i left dJ0) := by
     exact ⟨(ltq_t q0), trivial⟩
    cases q1 : List.getD g.ships i.toNat default with
    | true =>
      have hp1 : AllP (pfirstDay_p1 B g i left dJ0) := by
       unfold gdB at hg
       have s1 := firstD_cons (use := g.use) (br := g.br) (l := g.ships) (left := left) h0 q0
       have s2 := leftD_cons (use := g.use) (br := g.br) (l := g.ships) (left := left) h0 q0
       simp only [q1, cond_true, cond_false, Int.add_zero] at s1 s2
       exact ⟨(wq_in (by omega) (by omega)), ⟨⟨by first | omega | (split <;> omega), by first | omega | (split <;> omega), ((rowL_extract (z := 1) (fun _ => rfl) (by omega))).trans (by simp_all [encB])⟩, hp0⟩⟩
      by_cases q2 : (left + g.br : Int) < g.use
      ·
       have rj2 : FJ Tryz.prog B (pfirstDay_c1 g i left dJ0) (pfirstDay_H1 g i left dJ0) 5 (OO.pan (Value.iface 183 (.int .i64 i))) (([] ++ ((5, regO) :: heapL (5 + 1) [])) ++ pfirstDay_H1 g i left dJ0) 6 (List.range 5) [] := by
        unfold gdB at hg
        have s1 := firstD_cons (use := g.use) (br := g.br) (l := g.ships) (left := left) h0 q0
        have s2 := leftD_cons (use := g.use) (br := g.br) (l := g.ships) (left := left) h0 q0
        simp only [q1, cond_true, cond_false, Int.add_zero] at s1 s2
        rw [decide_eq_true q2, cond_true] at s1
        exact FinK.fjB (GoE.finK okF hJ mixed_ok (under_all (by kernel_rfl)) (writable_of (by kernel_rfl)) ((GoE.refl (P := Tryz.prog) (B := B) (c0 := pfirstDay_c1 g i left dJ0) (under_all (by kernel_rfl))).widen (Wf := ((([]) : List (Nat × KS)).map (·.1))) (by simp) (writable_of (by kernel_rfl))) (pfirstDay_s1 B g i left dJ0)
         trivial) (ex := []) (by kernel_rfl) (lowX_nil _)
       unfold gdB at hg
       have s1 := firstD_cons (use := g.use) (br := g.br) (l := g.ships) (left := left) h0 q0
       have s2 := leftD_cons (use := g.use) (br := g.br) (l := g.ships) (left := left) h0 q0
       simp only [q1, cond_true, cond_false, Int.add_zero] at s1 s2
       rw [decide_eq_true q2, cond_true] at s1
       exact (GoE.finK okF hJ mixed_ok (under_all (by kernel_rfl)) (writable_of (by kernel_rfl)) hg0 (pfirstDay_s2 B g i left dJ0)
        ⟨rj2, ⟨(ltq_t q2), hp1⟩⟩).cast (by (subst hr1; rw [s1]; simp [h0]; done)) (by rfl) (by rfl)
      ·
       unfold gdB at hg
       have s1 := firstD_cons (use := g.use) (br := g.br) (l := g.ships) (left := left) h0 q0
       have s2 := leftD_cons (use := g.use) (br := g.br) (l := g.ships) (left := left) h0 q0
       simp only [q1, cond_true, cond_false, Int.add_zero] at s1 s2
       rw [decide_eq_false q2, cond_false] at s1
       exact ((ih0 _ (by omega)) (i + 1) (left + g.br - if g.use < left + g.br then g.use else left + g.br) r1 (by rw [← hr1, s1]) rfl (by omega) (by omega) (by omega)
        (GoE.landA okF hJ mixed_ok (under_all (by kernel_rfl)) (writable_of (by kernel_rfl)) hg0 (pfirstDay_s3 B g i left dJ0)
        ⟨(wq_in (by omega) (by omega)), ⟨(wq_in (by omega) (by omega)), ⟨(ltq_f (Int.not_lt.1 q2)), hp1⟩⟩⟩ (by kernel_rfl) (by kernel_rfl) (fun l hl => by cases hl <;> decide))).cast (by (rw [s1, s2]; done)) (by rfl) (by rfl)
    | false =>
      have hp2 : AllP (pfirstDay_p2 B g i left dJ0) := by
       unfold gdB at hg
       have s1 := firstD_cons (use := g.use) (br := g.br) (l := g.ships) (left := left) h0 q0
       have s2 := leftD_cons (use := g.use) (br := g.br) (l := g.ships) (left := left) h0 q0
       simp only [q1, cond_true, cond_false, Int.add_zero] at s1 s2
       exact ⟨⟨by first | omega | (split <;> omega), by first | omega | (split <;> omega), ((rowL_extract (z := 1) (fun _ => rfl) (by omega))).trans (by simp_all [encB])⟩, hp0⟩
      by_cases q2 : (left : Int) < g.use
      ·
       have rj2 : FJ Tryz.prog B (pfirstDay_c2 g i left dJ0) (pfirstDay_H2 g i left dJ0) 5 (OO.pan (Value.iface 183 (.int .i64 i))) (([] ++ ((5, regO) :: heapL (5 + 1) [])) ++ pfirstDay_H2 g i left dJ0) 6 (List.range 5) [] := by
        unfold gdB at hg
        have s1 := firstD_cons (use := g.use) (br := g.br) (l := g.ships) (left := left) h0 q0
        have s2 := leftD_cons (use := g.use) (br := g.br) (l := g.ships) (left := left) h0 q0
        simp only [q1, cond_true, cond_false, Int.add_zero] at s1 s2
        rw [decide_eq_true q2, cond_true] at s1
        exact FinK.fjB (GoE.finK okF hJ mixed_ok (under_all (by kernel_rfl)) (writable_of (by kernel_rfl)) ((GoE.refl (P := Tryz.prog) (B := B) (c0 := pfirstDay_c2 g i left dJ0) (under_all (by kernel_rfl))).widen (Wf := ((([]) : List (Nat × KS)).map (·.1))) (by simp) (writable_of (by kernel_rfl))) (pfirstDay_s4 B g i left dJ0)
         trivial) (ex := []) (by kernel_rfl) (lowX_nil _)
       unfold gdB at hg
       have s1 := firstD_cons (use := g.use) (br := g.br) (l := g.ships) (left := left) h0 q0
       have s2 := leftD_cons (use := g.use) (br := g.br) (l := g.ships) (left := left) h0 q0
       simp only [q1, cond_true, cond_false, Int.add_zero] at s1 s2
       rw [decide_eq_true q2, cond_true] at s1
       exact (GoE.finK okF hJ mixed_ok (under_all (by kernel_rfl)) (writable_of (by kernel_rfl)) hg0 (pfirstDay_s5 B g i left dJ0)
        ⟨rj2, ⟨(ltq_t q2), hp2⟩⟩).cast (by (subst hr1; rw [s1]; simp [h0]; done)) (by rfl) (by rfl)
      ·
       unfold gdB at hg
       have s1 := firstD_cons (use := g.use) (br := g.br) (l := g.ships) (left := left) h0 q0
       have s2 := leftD_cons (use := g.use) (br := g.br) (l := g.ships) (left := left) h0 q0
       simp only [q1, cond_true, cond_false, Int.add_zero] at s1 s2
       rw [decide_eq_false q2, cond_false] at s1
       exact ((ih0 _ (by omega)) (i + 1) (left - if g.use < left then g.use else left) r1 (by rw [← hr1, s1]) rfl (by omega) (by omega) (by omega)
        (GoE.landA okF hJ mixed_ok (under_all (by kernel_rfl)) (writable_of (by kernel_rfl)) hg0 (pfirstDay_s6 B g i left dJ0)
        ⟨(wq_in (by omega) (by omega)), ⟨(wq_in (by omega) (by omega)), ⟨(ltq_f (Int.not_lt.1 q2)), hp2⟩⟩⟩ (by kernel_rfl) (by kernel_rfl) (fun l hl => by cases hl <;> decide))).cast (by (rw [s1, s2]; done)) (by rfl) (by rfl)
   ·
    unfold gdB at hg
    have s1 := firstD_nil (use := g.use) (br := g.br) (l := g.ships) (i := i) (left := left) (by omega)
    have s2 := leftD_nil (use := g.use) (br := g.br) (l := g.ships) (i := i) (left := left) (by omega)
    exact (GoE.finK okF hJ mixed_ok (under_all (by kernel_rfl)) (writable_of (by kernel_rfl)) hg0 (pfirstDay_s7 B g i left dJ0)
     ⟨(ltq_f (Int.not_lt.1 q0)), trivial⟩).cast (by (subst hr1; rw [s1, s2]; rfl)) (by rfl) (by rfl)

theorem pfirstDay_s0 (B : Lo) (g : Gd) : CE.landA 3 (srunT Tryz.prog (okFn Tryz.prog) J0 B 9 3 (pfirstDay_c0 g) (pfirstDay_H0 g) 3
 [] 0 [] []) [1, 2, 5, 11, 12, 13] [] [(3, KS.auto)] [] = some ⟨126, 38, pfirstDay_k1_t0, [], .run, none, pfirstDay_k1_v0 g (0) g.stock, ([] : List Nat).zip (pfirstDay_k1_w0 g (0) g.stock), pfirstDay_k1_o0 g (0) g.stock,
 []⟩ := by kernel_rfl
noncomputable def pfirstDay_H3 (g : Gd) : Heap := [(2, Obj.cells #[.int .i64 0] 3), (1, Obj.cells #[.int .i64 g.stock, .int .i64 g.use, .int .i64 g.br, topV 0 (slT g.ships.length (rowL encB g.ships))] 129), (0, Obj.coro none)]
noncomputable def pfirstDay_c3 (g : Gd) : CF := ⟨125, ofList 6 [Value.agg #[.int .i64 g.stock, .int .i64 g.use, .int .i64 g.br, topV 0 (slT g.ships.length (rowL encB g.ships))], pA 1 0, pA 2 0, Value.func (Fn.func 148) #[] #[pA 2 0], Value.tuple #[], Value.tuple #[]], [Item.code (Code.seq (Code.region 2 #[{ dst := some 4, op := Op.load 129 (Operand.tmp 1), type := 129, pos := "goods.go:41", after := #[], guard := none }, { dst := some 5, op := Op.call { callee := Callee.value (Operand.func 126), args := #[Operand.tmp 4, Operand.func 149], argTypes := #[129, 159] }, type := 3, pos := "goods.go:41", after := #[{ on := 0, ground := Ground.data }], guard := none }] false) (Code.seq (Code.region 3 #[{ dst := none, op := Op.store 3 (Operand.tmp 2) (Operand.const (.int .i64 (-1))), type := 0, pos := "goods.go:42", after := #[], guard := none }] false) Code.ret))], [], .run, none⟩
theorem pfirstDay_s8 (B : Lo) (g : Gd) : CE.landU 3 (srunT Tryz.prog (okFn Tryz.prog) J0 B 2 3 (pfirstDay_c3 g) (pfirstDay_H3 g) 3
 [(1, HintT.call (List.range 3) (OO.pan (Value.iface 183 (.int .i64 (firstD g.use g.br (List.drop (Int.toNat 0) g.ships) 0 g.stock)))) ([] ++ (3, regO) :: heapL 4 []) 4 [])] 0 [] []) [2] [] [] [] = some (125, 6, none, OO.pan (Value.iface 183 (.int .i64 (firstD g.use g.br (List.drop (Int.toNat 0) g.ships) 0 g.stock))), [pA 2 0], [], [],
 [FJ Tryz.prog B (pfirstDay_c0 g) (pfirstDay_H0 g) 3 (OO.pan (Value.iface 183 (.int .i64 (firstD g.use g.br (List.drop (Int.toNat 0) g.ships) 0 g.stock)))) (([] ++ ((3, regO) :: heapL (3 + 1) [])) ++ pfirstDay_H0 g) 4 (List.range 3) []]) := by kernel_rfl
theorem pfirstDay_s9 (B : Lo) (g : Gd) : endT (srunD Tryz.prog (okFn Tryz.prog) J0 B 3 1 (entryC Tryz.prog 125 6 (([.agg (encGd g).toArray]).map (pushT 0 4))) H00 1
 (OO.pan (Value.iface 183 (.int .i64 (firstD g.use g.br (List.drop (Int.toNat 0) g.ships) 0 g.stock)))) (([2] : List Nat).zip [pA 2 0]) ([] ++ (3, regO) :: heapL 4 []) 4 [] (.int .i64 (firstD g.use g.br (List.drop (Int.toNat 0) g.ships) 0 g.stock)) [2]) [] = some (.int .i64 (firstD g.use g.br (List.drop (Int.toNat 0) g.ships) 0 g.stock),
 [UJ Tryz.prog B (pfirstDay_c3 g) (pfirstDay_H3 g) 3 (OO.pan (Value.iface 183 (.int .i64 (firstD g.use g.br (List.drop (Int.toNat 0) g.ships) 0 g.stock)))) (([2] : List Nat).zip [pA 2 0]) (([] ++ ((3, regO) :: heapL (3 + 1) [])) ++ pfirstDay_H3 g) 4 (List.range 3) [], ∀ d : Nat → Value, resC Tryz.prog 125 ([(3, Obj.coro none), (2, Obj.cells #[.int .i64 (firstD g.use g.br (List.drop (Int.toNat 0) g.ships) 0 g.stock)] 3), (1, Obj.cells #[.int .i64 g.stock, .int .i64 g.use, .int .i64 g.br, topV 0 (slT g.ships.length (rowL encB g.ships))] 129), (0, Obj.coro none)]) (mkT 6 (([2] : List Nat).zip [pA 2 0]) d) = some (.int .i64 (firstD g.use g.br (List.drop (Int.toNat 0) g.ships) 0 g.stock), [2])]) := by kernel_rfl
theorem pfirstDay_s10 (B : Lo) (g : Gd) : CE.landA 3 (srunT Tryz.prog (okFn Tryz.prog) J0 B 9 3 (pfirstDay_c0 g) (pfirstDay_H0 g) 3
 [] 0 [] []) [1, 2, 5, 11, 12, 13] [] [(3, KS.auto)] [] = some ⟨126, 38, pfirstDay_k1_t0, [], .run, none, pfirstDay_k1_v0 g (0) g.stock, ([] : List Nat).zip (pfirstDay_k1_w0 g (0) g.stock), pfirstDay_k1_o0 g (0) g.stock,
 []⟩ := by kernel_rfl
theorem pfirstDay_s11 (B : Lo) (g : Gd) : CE.landU 3 (srunT Tryz.prog (okFn Tryz.prog) J0 B 5 3 (pfirstDay_c3 g) (pfirstDay_H3 g) 3
 [(1, HintT.call (List.range 3) (OO.ret (.int .i64 (leftD g.use g.br (List.drop (Int.toNat 0) g.ships) g.stock))) ([] ++ (3, regO) :: heapL 4 []) 4 [])] 0 [] []) [2] [(2, KS.auto)] [] [] = some (125, 6, none, OO.ret (Value.tuple #[]), [pA 2 0], [(2, Obj.cells #[.int .i64 (-1)] 3)], [],
 [FJ Tryz.prog B (pfirstDay_c0 g) (pfirstDay_H0 g) 3 (OO.ret (.int .i64 (leftD g.use g.br (List.drop (Int.toNat 0) g.ships) g.stock))) (([] ++ ((3, regO) :: heapL (3 + 1) [])) ++ pfirstDay_H0 g) 4 (List.range 3) []]) := by kernel_rfl
theorem pfirstDay_s12 (B : Lo) (g : Gd) : endT (srunD Tryz.prog (okFn Tryz.prog) J0 B 3 1 (entryC Tryz.prog 125 6 (([.agg (encGd g).toArray]).map (pushT 0 4))) H00 1
 (OO.ret (Value.tuple #[])) (([2] : List Nat).zip [pA 2 0]) ([(2, Obj.cells #[.int .i64 (-1)] 3)] ++ (3, regO) :: heapL 4 []) 4 [2] (.int .i64 (-1)) [2]) [] = some (.int .i64 (-1),
 [UJ Tryz.prog B (pfirstDay_c3 g) (pfirstDay_H3 g) 3 (OO.ret (Value.tuple #[])) (([2] : List Nat).zip [pA 2 0]) (([(2, Obj.cells #[.int .i64 (-1)] 3)] ++ ((3, regO) :: heapL (3 + 1) [])) ++ pfirstDay_H3 g) 4 (List.range 3) [2], ∀ d : Nat → Value, resC Tryz.prog 125 ([(2, Obj.cells #[.int .i64 (-1)] 3), (3, Obj.coro none), (2, Obj.cells #[.int .i64 0] 3), (1, Obj.cells #[.int .i64 g.stock, .int .i64 g.use, .int .i64 g.br, topV 0 (slT g.ships.length (rowL encB g.ships))] 129), (0, Obj.coro none)]) (mkT 6 (([2] : List Nat).zip [pA 2 0]) d) = some (.int .i64 (-1), [2])]) := by kernel_rfl
set_option maxHeartbeats 4000000 in
theorem pfirstDay_e (g : Gd) (hg : gdB g) {B : Lo} (hJ : ∀ w, B.has w → J0 w) : EndsT Tryz.prog B (entryC Tryz.prog 125 6 (([.agg (encGd g).toArray]).map (pushT 0 4))) (.int .i64 (firstD g.use g.br g.ships 0 g.stock)) := by
 cases q0 : decide (0 ≤ firstD g.use g.br (List.drop (Int.toNat 0) g.ships) 0 g.stock) with
 | true =>
   have rj1 : FJ Tryz.prog B (pfirstDay_c0 g) (pfirstDay_H0 g) 3 (OO.pan (Value.iface 183 (.int .i64 (firstD g.use g.br (List.drop (Int.toNat 0) g.ships) 0 g.stock)))) (([] ++ ((3, regO) :: heapL (3 + 1) [])) ++ pfirstDay_H0 g) 4 (List.range 3) [] := by
    unfold gdB at hg
    exact FinK.fjB ((pfirstDay_k1_ls g hg hJ _) (0) g.stock true q0 rfl (by omega) (by omega) (by omega)
     (GoE.landA okF hJ mixed_ok (under_all (by kernel_rfl)) (writable_of (by kernel_rfl)) ((GoE.refl (P := Tryz.prog) (B := B) (c0 := pfirstDay_c0 g) (under_all (by kernel_rfl))).widen (Wf := ((([]) : List (Nat × KS)).map (·.1))) (by simp) (writable_of (by kernel_rfl))) (pfirstDay_s0 B g)
     trivial (by kernel_rfl) (by kernel_rfl) (fun l hl => by cases hl <;> decide))) (ex := []) (by kernel_rfl) (lowX_nil _)
   have rj0 : UJ Tryz.prog B (pfirstDay_c3 g) (pfirstDay_H3 g) 3 (OO.pan (Value.iface 183 (.int .i64 (firstD g.use g.br (List.drop (Int.toNat 0) g.ships) 0 g.stock)))) (([2] : List Nat).zip [pA 2 0]) (([] ++ ((3, regO) :: heapL (3 + 1) [])) ++ pfirstDay_H3 g) 4 (List.range 3) [] := by
    unfold gdB at hg
    exact FinU.ujB (GoE.landU okF hJ mixed_ok (under_all (by kernel_rfl)) (writable_of (by kernel_rfl)) ((GoE.refl (P := Tryz.prog) (B := B) (c0 := pfirstDay_c3 g) (under_all (by kernel_rfl))).widen (Wf := ((([]) : List (Nat × KS)).map (·.1))) (by simp) (writable_of (by kernel_rfl))) (pfirstDay_s8 B g)
     (by exact ⟨rj1, trivial⟩) (by kernel_rfl) rfl) (ex := []) (by kernel_rfl) (lowX_nil _)
   unfold gdB at hg
   exact (GoE.endsD okF hJ mixed_ok GoE.start (pfirstDay_s9 B g)
    (by exact ⟨rj0, ⟨(fun d => by kernel_rfl), trivial⟩⟩)).cast (by rfl)
 | false =>
   have rj1 : FJ Tryz.prog B (pfirstDay_c0 g) (pfirstDay_H0 g) 3 (OO.ret (.int .i64 (leftD g.use g.br (List.drop (Int.toNat 0) g.ships) g.stock))) (([] ++ ((3, regO) :: heapL (3 + 1) [])) ++ pfirstDay_H0 g) 4 (List.range 3) [] := by
    unfold gdB at hg
    exact FinK.fjB ((pfirstDay_k1_ls g hg hJ _) (0) g.stock false q0 rfl (by omega) (by omega) (by omega)
     (GoE.landA okF hJ mixed_ok (under_all (by kernel_rfl)) (writable_of (by kernel_rfl)) ((GoE.refl (P := Tryz.prog) (B := B) (c0 := pfirstDay_c0 g) (under_all (by kernel_rfl))).widen (Wf := ((([]) : List (Nat × KS)).map (·.1))) (by simp) (writable_of (by kernel_rfl))) (pfirstDay_s10 B g)
     trivial (by kernel_rfl) (by kernel_rfl) (fun l hl => by cases hl <;> decide))) (ex := []) (by kernel_rfl) (lowX_nil _)
   have rj0 : UJ Tryz.prog B (pfirstDay_c3 g) (pfirstDay_H3 g) 3 (OO.ret (Value.tuple #[])) (([2] : List Nat).zip [pA 2 0]) (([(2, Obj.cells #[.int .i64 (-1)] 3)] ++ ((3, regO) :: heapL (3 + 1) [])) ++ pfirstDay_H3 g) 4 (List.range 3) [2] := by
    unfold gdB at hg
    exact FinU.ujB (GoE.landU okF hJ mixed_ok (under_all (by kernel_rfl)) (writable_of (by kernel_rfl)) ((GoE.refl (P := Tryz.prog) (B := B) (c0 := pfirstDay_c3 g) (under_all (by kernel_rfl))).widen (Wf := ((([(2, KS.auto)]) : List (Nat × KS)).map (·.1))) (by simp) (writable_of (by kernel_rfl))) (pfirstDay_s11 B g)
     (by exact ⟨rj1, trivial⟩) (by kernel_rfl) rfl) (ex := []) (by kernel_rfl) (lowX_nil _)
   unfold gdB at hg
   exact (GoE.endsD okF hJ mixed_ok GoE.start (pfirstDay_s12 B g)
    (by exact ⟨rj0, ⟨(fun d => by kernel_rfl), trivial⟩⟩)).cast (by (rcases firstD_or (use := g.use) (br := g.br) g.ships 0 g.stock (by omega) with h | h <;> simp_all; done))
theorem pfirstDay (g : Gd) (hg : gdB g) : PureC Tryz.prog J0 125 #[.agg (encGd g).toArray] (.int .i64 (firstD g.use g.br g.ships 0 g.stock)) :=
 pureC_of (ts := [.agg (encGd g).toArray]) J0_st (c0 := entryC Tryz.prog 125 6 (([.agg (encGd g).toArray]).map (pushT 0 4))) (by kernel_rfl) (by kernel_rfl) fun B hJ => pfirstDay_e g hg hJ
noncomputable def pleft_H0 (g : Gd) : Heap := [(1, Obj.cells #[.int .i64 g.stock, .int .i64 g.use, .int .i64 g.br, topV 0 (slT g.ships.length (rowL encB g.ships))] 129), (0, Obj.coro none)]
noncomputable def pleft_c0 (g : Gd) : CF := ⟨126, ofList 38 [Value.agg #[.int .i64 g.stock, .int .i64 g.use, .int .i64 g.br, topV 0 (slT g.ships.length (rowL encB g.ships))], Value.func (Fn.func 127) #[] #[]], [Item.code (bodyOf Tryz.prog 126)], [], .run, none⟩
noncomputable def pleft_k1_v0 (g : Gd) (i left : Int) : List Value := [Value.func (Fn.func 127) #[] #[], pA 3 0, .int .i64 left, topV 0 (slT g.ships.length (rowL encB g.ships)), .int .i64 (↑g.ships.length : Int), .int .i64 i]
noncomputable def pleft_k1_w0 (g : Gd) (i left : Int) : List Obj := []
noncomputable def pleft_k1_o0 (g : Gd) (i left : Int) : List Obj := [Obj.cells #[.int .i64 g.stock, .int .i64 g.use, .int .i64 g.br, topV 0 (slT g.ships.length (rowL encB g.ships))] 129]
noncomputable def pleft_k1_t0 : List Item := ([.code [1, 1, 0, 1, 0, 0], .inLoop [1, 1, 0, 1, 0, 0], .inBlock 0, .code [1, 1, 1]]).map (it (bodyOf Tryz.prog 126))
noncomputable def pleft_p0 (B : Lo) (g : Gd) (i left : Int) (dJ0 : Nat → Value) : List Prop := [ltq i (↑g.ships.length : Int) = true] ++ ([] : List Prop)
noncomputable def pleft_q0 (g : Gd) (i left : Int) (dJ0 : Nat → Value) : ScriptT := [(0, hvT)]
noncomputable def pleft_p1 (B : Lo) (g : Gd) (i left : Int) (dJ0 : Nat → Value) : List Prop := [wq (left + g.br) = left + g.br, i = (↑i.toNat : Int) ∧ Int.toNat i < List.length g.ships ∧ Array.extract (rowL encB g.ships) (Int.toNat i * TypeInfo.size Tryz.t4) (Int.toNat i * TypeInfo.size Tryz.t4 + TypeInfo.size Tryz.t4) = #[Value.bool true]] ++ pleft_p0 B g i left dJ0
noncomputable def pleft_q1 (g : Gd) (i left : Int) (dJ0 : Nat → Value) : ScriptT := pleft_q0 g i left dJ0 ++ [(2, HintT.tidx i.toNat #[Value.bool true]), (10, hvI (left + g.br))]
noncomputable def pleft_H1 (g : Gd) (i left : Int) (dJ0 : Nat → Value) : Heap := [(2, Obj.coro none), (3, Obj.cells #[.int .i64 g.stock, .int .i64 g.use, .int .i64 g.br, topV 0 (slT g.ships.length (rowL encB g.ships))] 129), (1, Obj.cells #[.int .i64 g.stock, .int .i64 g.use, .int .i64 g.br, topV 0 (slT g.ships.length (rowL encB g.ships))] 129), (0, Obj.coro none)]
noncomputable def pleft_c1 (g : Gd) (i left : Int) (dJ0 : Nat → Value) : CF := ⟨127, ofList 2 [.int .i64 i], [Item.code (bodyOf Tryz.prog 127)], [], .run, none⟩
theorem pleft_s1 (B : Lo) (g : Gd) (i left : Int) (dJ0 : Nat → Value) : CE.finK 4 (srunT Tryz.prog (okFn Tryz.prog) J0 B 3 4 (pleft_c1 g i left dJ0) (pleft_H1 g i left dJ0) 4
 [] 0 [] []) [] [] [] = some (OO.ret (Value.tuple #[]), [], [],
 []) := by kernel_rfl
theorem pleft_s2 (B : Lo) (g : Gd) (i left : Int) (dJ0 : Nat → Value) : CE.landA 2 (srunT Tryz.prog (okFn Tryz.prog) J0 B 23 2 (headR (none) 126 38 (([1, 2, 5, 11, 12, 13] : List Nat).zip (pleft_k1_v0 g i left)) dJ0 pleft_k1_t0) (headA (pleft_H0 g) 2 (([] : List Nat).zip (pleft_k1_w0 g i left)) (pleft_k1_o0 g i left)) (2 + 1 + (pleft_k1_o0 g i left).length)
 (pleft_q1 g i left dJ0 ++ [(15, hvT), (18, HintT.call (List.range 4) (OO.ret (Value.tuple #[])) ([] ++ (4, regO) :: heapL 5 []) 5 []), (24, hvI (left + g.br - if g.use < left + g.br then g.use else left + g.br)), (26, hvI (i + 1))]) 0 [] []) [1, 2, 5, 11, 12, 13] [] [(3, KS.auto)] [] = some ⟨126, 38, pleft_k1_t0, [], .run, none, pleft_k1_v0 g (i + 1) (left + g.br - if g.use < left + g.br then g.use else left + g.br), ([] : List Nat).zip (pleft_k1_w0 g (i + 1) (left + g.br - if g.use < left + g.br then g.use else left + g.br)), pleft_k1_o0 g (i + 1) (left + g.br - if g.use < left + g.br then g.use else left + g.br),
 [wq (i + 1) = i + 1, wq (left + g.br - if g.use < left + g.br then g.use else left + g.br) = left + g.br - if g.use < left + g.br then g.use else left + g.br, FJ Tryz.prog B (pleft_c1 g i left dJ0) (pleft_H1 g i left dJ0) 4 (OO.ret (Value.tuple #[])) (([] ++ ((4, regO) :: heapL (4 + 1) [])) ++ pleft_H1 g i left dJ0) 5 (List.range 4) [], ltq (left + g.br) g.use = true] ++ pleft_p1 B g i left dJ0⟩ := by kernel_rfl
theorem pleft_s3 (B : Lo) (g : Gd) (i left : Int) (dJ0 : Nat → Value) : CE.landA 2 (srunT Tryz.prog (okFn Tryz.prog) J0 B 23 2 (headR (none) 126 38 (([1, 2, 5, 11, 12, 13] : List Nat).zip (pleft_k1_v0 g i left)) dJ0 pleft_k1_t0) (headA (pleft_H0 g) 2 (([] : List Nat).zip (pleft_k1_w0 g i left)) (pleft_k1_o0 g i left)) (2 + 1 + (pleft_k1_o0 g i left).length)
 (pleft_q1 g i left dJ0 ++ [(15, hvF), (21, hvI (left + g.br - if g.use < left + g.br then g.use else left + g.br)), (23, hvI (i + 1))]) 0 [] []) [1, 2, 5, 11, 12, 13] [] [(3, KS.auto)] [] = some ⟨126, 38, pleft_k1_t0, [], .run, none, pleft_k1_v0 g (i + 1) (left + g.br - if g.use < left + g.br then g.use else left + g.br), ([] : List Nat).zip (pleft_k1_w0 g (i + 1) (left + g.br - if g.use < left + g.br then g.use else left + g.br)), pleft_k1_o0 g (i + 1) (left + g.br - if g.use < left + g.br then g.use else left + g.br),
 [wq (i + 1) = i + 1, wq (left + g.br - if g.use < left + g.br then g.use else left + g.br) = left + g.br - if g.use < left + g.br then g.use else left + g.br, ltq (left + g.br) g.use = false] ++ pleft_p1 B g i left dJ0⟩ := by kernel_rfl
noncomputable def pleft_p2 (B : Lo) (g : Gd) (i left : Int) (dJ0 : Nat → Value) : List Prop := [i = (↑i.toNat : Int) ∧ Int.toNat i < List.length g.ships ∧ Array.extract (rowL encB g.ships) (Int.toNat i * TypeInfo.size Tryz.t4) (Int.toNat i * TypeInfo.size Tryz.t4 + TypeInfo.size Tryz.t4) = #[Value.bool false]] ++ pleft_p0 B g i left dJ0
noncomputable def pleft_q2 (g : Gd) (i left : Int) (dJ0 : Nat → Value) : ScriptT := pleft_q0 g i left dJ0 ++ [(2, HintT.tidx i.toNat #[Value.bool false])]
noncomputable def pleft_H2 (g : Gd) (i left : Int) (dJ0 : Nat → Value) : Heap := [(2, Obj.coro none), (3, Obj.cells #[.int .i64 g.stock, .int .i64 g.use, .int .i64 g.br, topV 0 (slT g.ships.length (rowL encB g.ships))] 129), (1, Obj.cells #[.int .i64 g.stock, .int .i64 g.use, .int .i64 g.br, topV 0 (slT g.ships.length (rowL encB g.ships))] 129), (0, Obj.coro none)]
noncomputable def pleft_c2 (g : Gd) (i left : Int) (dJ0 : Nat → Value) : CF := ⟨127, ofList 2 [.int .i64 i], [Item.code (bodyOf Tryz.prog 127)], [], .run, none⟩
theorem pleft_s4 (B : Lo) (g : Gd) (i left : Int) (dJ0 : Nat → Value) : CE.finK 4 (srunT Tryz.prog (okFn Tryz.prog) J0 B 3 4 (pleft_c2 g i left dJ0) (pleft_H2 g i left dJ0) 4
 [] 0 [] []) [] [] [] = some (OO.ret (Value.tuple #[]), [], [],
 []) := by kernel_rfl
theorem pleft_s5 (B : Lo) (g : Gd) (i left : Int) (dJ0 : Nat → Value) : CE.landA 2 (srunT Tryz.prog (okFn Tryz.prog) J0 B 23 2 (headR (none) 126 38 (([1, 2, 5, 11, 12, 13] : List Nat).zip (pleft_k1_v0 g i left)) dJ0 pleft_k1_t0) (headA (pleft_H0 g) 2 (([] : List Nat).zip (pleft_k1_w0 g i left)) (pleft_k1_o0 g i left)) (2 + 1 + (pleft_k1_o0 g i left).length)
 (pleft_q2 g i left dJ0 ++ [(10, hvT), (13, HintT.call (List.range 4) (OO.ret (Value.tuple #[])) ([] ++ (4, regO) :: heapL 5 []) 5 []), (19, hvI (left - if g.use < left then g.use else left)), (21, hvI (i + 1))]) 0 [] []) [1, 2, 5, 11, 12, 13] [] [(3, KS.auto)] [] = some ⟨126, 38, pleft_k1_t0, [], .run, none, pleft_k1_v0 g (i + 1) (left - if g.use < left then g.use else left), ([] : List Nat).zip (pleft_k1_w0 g (i + 1) (left - if g.use < left then g.use else left)), pleft_k1_o0 g (i + 1) (left - if g.use < left then g.use else left),
 [wq (i + 1) = i + 1, wq (left - if g.use < left then g.use else left) = left - if g.use < left then g.use else left, FJ Tryz.prog B (pleft_c2 g i left dJ0) (pleft_H2 g i left dJ0) 4 (OO.ret (Value.tuple #[])) (([] ++ ((4, regO) :: heapL (4 + 1) [])) ++ pleft_H2 g i left dJ0) 5 (List.range 4) [], ltq left g.use = true] ++ pleft_p2 B g i left dJ0⟩ := by kernel_rfl
theorem pleft_s6 (B : Lo) (g : Gd) (i left : Int) (dJ0 : Nat → Value) : CE.landA 2 (srunT Tryz.prog (okFn Tryz.prog) J0 B 23 2 (headR (none) 126 38 (([1, 2, 5, 11, 12, 13] : List Nat).zip (pleft_k1_v0 g i left)) dJ0 pleft_k1_t0) (headA (pleft_H0 g) 2 (([] : List Nat).zip (pleft_k1_w0 g i left)) (pleft_k1_o0 g i left)) (2 + 1 + (pleft_k1_o0 g i left).length)
 (pleft_q2 g i left dJ0 ++ [(10, hvF), (16, hvI (left - if g.use < left then g.use else left)), (18, hvI (i + 1))]) 0 [] []) [1, 2, 5, 11, 12, 13] [] [(3, KS.auto)] [] = some ⟨126, 38, pleft_k1_t0, [], .run, none, pleft_k1_v0 g (i + 1) (left - if g.use < left then g.use else left), ([] : List Nat).zip (pleft_k1_w0 g (i + 1) (left - if g.use < left then g.use else left)), pleft_k1_o0 g (i + 1) (left - if g.use < left then g.use else left),
 [wq (i + 1) = i + 1, wq (left - if g.use < left then g.use else left) = left - if g.use < left then g.use else left, ltq left g.use = false] ++ pleft_p2 B g i left dJ0⟩ := by kernel_rfl
theorem pleft_s7 (B : Lo) (g : Gd) (i left : Int) (dJ0 : Nat → Value) : CE.finK 2 (srunT Tryz.prog (okFn Tryz.prog) J0 B 9 2 (headR (none) 126 38 (([1, 2, 5, 11, 12, 13] : List Nat).zip (pleft_k1_v0 g i left)) dJ0 pleft_k1_t0) (headA (pleft_H0 g) 2 (([] : List Nat).zip (pleft_k1_w0 g i left)) (pleft_k1_o0 g i left)) (2 + 1 + (pleft_k1_o0 g i left).length)
 [(0, hvF)] 0 [] []) [] [] [] = some (OO.ret (.int .i64 left), [], [],
 [ltq i (↑g.ships.length : Int) = false]) := by kernel_rfl
set_option maxHeartbeats 4000000 in
theorem pleft_k1_ls (g : Gd) (hg : gdB g) {B : Lo} (hJ : ∀ w, B.has w → J0 w) : ∀ m : Nat, (∀ (i left : Int), (g.ships.length - i.toNat) = m → ∀ (h0 : 0 ≤ i) (h1 : 0 ≤ left) (h2 : left ≤ 1000000000 * (i + 1)), (∃ dJ0 : Nat → Value, (∀ t, Loose (dJ0 t)) ∧ GoE Tryz.prog B (pleft_c0 g) (pleft_H0 g) 2 (headR (none) 126 38 (([1, 2, 5, 11, 12, 13] : List Nat).zip (pleft_k1_v0 g i left)) dJ0 pleft_k1_t0) (headA (pleft_H0 g) 2 (([] : List Nat).zip (pleft_k1_w0 g i left)) (pleft_k1_o0 g i left)) (2 + 1 + (pleft_k1_o0 g i left).length) ([] : List Nat)) → FinK Tryz.prog B (pleft_c0 g) (pleft_H0 g) 2 (.ret (.int .i64 (leftD g.use g.br (g.ships.drop i.toNat) left))) (([] : List Nat).zip ([])) ([]) ([] : List Nat)) := by
 intro m0
 induction m0 using Nat.strongRecOn with
 | _ m0 ih0 =>
   intro i left hm0 h0 h1 h2 ⟨dJ0, hdJ0, hg0⟩
   by_cases q0 : (i : Int) < ((↑g.ships.length : Int))
   ·
    have hp0 : AllP (pleft_p0 B g i left dJ0) := by
     exact ⟨(ltq_t q0), trivial⟩
    cases q1 : List.getD g.ships i.toNat default with
    | true =>
      have hp1 : AllP (pleft_p1 B g i left dJ0) := by
       unfold gdB at hg
       have s2 := leftD_cons (use := g.use) (br := g.br) (l := g.ships) (left := left) h0 q0
       simp only [q1, cond_true, cond_false, Int.add_zero] at s2
       exact ⟨(wq_in (by omega) (by omega)), ⟨⟨by first | omega | (split <;> omega), by first | omega | (split <;> omega), ((rowL_extract (z := 1) (fun _ => rfl) (by omega))).trans (by simp_all [encB])⟩, hp0⟩⟩
      by_cases q2 : (left + g.br : Int) < g.use
      ·
       have rj1 : FJ Tryz.prog B (pleft_c1 g i left dJ0) (pleft_H1 g i left dJ0) 4 (OO.ret (Value.tuple #[])) (([] ++ ((4, regO) :: heapL (4 + 1) [])) ++ pleft_H1 g i left dJ0) 5 (List.range 4) [] := by
        unfold gdB at hg
        have s2 := leftD_cons (use := g.use) (br := g.br) (l := g.ships) (left := left) h0 q0
        simp only [q1, cond_true, cond_false, Int.add_zero] at s2
        exact FinK.fjB (GoE.finK okF hJ mixed_ok (under_all (by kernel_rfl)) (writable_of (by kernel_rfl)) ((GoE.refl (P := Tryz.prog) (B := B) (c0 := pleft_c1 g i left dJ0) (under_all (by kernel_rfl))).widen (Wf := ((([]) : List (Nat × KS)).map (·.1))) (by simp) (writable_of (by kernel_rfl))) (pleft_s1 B g i left dJ0)
         trivial) (ex := []) (by kernel_rfl) (lowX_nil _)
       unfold gdB at hg
       have s2 := leftD_cons (use := g.use) (br := g.br) (l := g.ships) (left := left) h0 q0
       simp only [q1, cond_true, cond_false, Int.add_zero] at s2
       exact ((ih0 _ (by omega)) (i + 1) (left + g.br - if g.use < left + g.br then g.use else left + g.br) rfl (by omega) (by omega) (by omega)
        (GoE.landA okF hJ mixed_ok (under_all (by kernel_rfl)) (writable_of (by kernel_rfl)) hg0 (pleft_s2 B g i left dJ0)
        ⟨(wq_in (by omega) (by omega)), ⟨(wq_in (by omega) (by omega)), ⟨rj1, ⟨(ltq_t q2), hp1⟩⟩⟩⟩ (by kernel_rfl) (by kernel_rfl) (fun l hl => by cases hl <;> decide))).cast (by (rw [s2]; done)) (by rfl) (by rfl)
      ·
       unfold gdB at hg
       have s2 := leftD_cons (use := g.use) (br := g.br) (l := g.ships) (left := left) h0 q0
       simp only [q1, cond_true, cond_false, Int.add_zero] at s2
       exact ((ih0 _ (by omega)) (i + 1) (left + g.br - if g.use < left + g.br then g.use else left + g.br) rfl (by omega) (by omega) (by omega)
        (GoE.landA okF hJ mixed_ok (under_all (by kernel_rfl)) (writable_of (by kernel_rfl)) hg0 (pleft_s3 B g i left dJ0)
        ⟨(wq_in (by omega) (by omega)), ⟨(wq_in (by omega) (by omega)), ⟨(ltq_f (Int.not_lt.1 q2)), hp1⟩⟩⟩ (by kernel_rfl) (by kernel_rfl) (fun l hl => by cases hl <;> decide))).cast (by (rw [s2]; done)) (by rfl) (by rfl)
    | false =>
      have hp2 : AllP (pleft_p2 B g i left dJ0) := by
       unfold gdB at hg
       have s2 := leftD_cons (use := g.use) (br := g.br) (l := g.ships) (left := left) h0 q0
       simp only [q1, cond_true, cond_false, Int.add_zero] at s2
       exact ⟨⟨by first | omega | (split <;> omega), by first | omega | (split <;> omega), ((rowL_extract (z := 1) (fun _ => rfl) (by omega))).trans (by simp_all [encB])⟩, hp0⟩
      by_cases q2 : (left : Int) < g.use
      ·
       have rj1 : FJ Tryz.prog B (pleft_c2 g i left dJ0) (pleft_H2 g i left dJ0) 4 (OO.ret (Value.tuple #[])) (([] ++ ((4, regO) :: heapL (4 + 1) [])) ++ pleft_H2 g i left dJ0) 5 (List.range 4) [] := by
        unfold gdB at hg
        have s2 := leftD_cons (use := g.use) (br := g.br) (l := g.ships) (left := left) h0 q0
        simp only [q1, cond_true, cond_false, Int.add_zero] at s2
        exact FinK.fjB (GoE.finK okF hJ mixed_ok (under_all (by kernel_rfl)) (writable_of (by kernel_rfl)) ((GoE.refl (P := Tryz.prog) (B := B) (c0 := pleft_c2 g i left dJ0) (under_all (by kernel_rfl))).widen (Wf := ((([]) : List (Nat × KS)).map (·.1))) (by simp) (writable_of (by kernel_rfl))) (pleft_s4 B g i left dJ0)
         trivial) (ex := []) (by kernel_rfl) (lowX_nil _)
       unfold gdB at hg
       have s2 := leftD_cons (use := g.use) (br := g.br) (l := g.ships) (left := left) h0 q0
       simp only [q1, cond_true, cond_false, Int.add_zero] at s2
       exact ((ih0 _ (by omega)) (i + 1) (left - if g.use < left then g.use else left) rfl (by omega) (by omega) (by omega)
        (GoE.landA okF hJ mixed_ok (under_all (by kernel_rfl)) (writable_of (by kernel_rfl)) hg0 (pleft_s5 B g i left dJ0)
        ⟨(wq_in (by omega) (by omega)), ⟨(wq_in (by omega) (by omega)), ⟨rj1, ⟨(ltq_t q2), hp2⟩⟩⟩⟩ (by kernel_rfl) (by kernel_rfl) (fun l hl => by cases hl <;> decide))).cast (by (rw [s2]; done)) (by rfl) (by rfl)
      ·
       unfold gdB at hg
       have s2 := leftD_cons (use := g.use) (br := g.br) (l := g.ships) (left := left) h0 q0
       simp only [q1, cond_true, cond_false, Int.add_zero] at s2
       exact ((ih0 _ (by omega)) (i + 1) (left - if g.use < left then g.use else left) rfl (by omega) (by omega) (by omega)
        (GoE.landA okF hJ mixed_ok (under_all (by kernel_rfl)) (writable_of (by kernel_rfl)) hg0 (pleft_s6 B g i left dJ0)
        ⟨(wq_in (by omega) (by omega)), ⟨(wq_in (by omega) (by omega)), ⟨(ltq_f (Int.not_lt.1 q2)), hp2⟩⟩⟩ (by kernel_rfl) (by kernel_rfl) (fun l hl => by cases hl <;> decide))).cast (by (rw [s2]; done)) (by rfl) (by rfl)
   ·
    unfold gdB at hg
    have s2 := leftD_nil (use := g.use) (br := g.br) (l := g.ships) (i := i) (left := left) (by omega)
    exact (GoE.finK okF hJ mixed_ok (under_all (by kernel_rfl)) (writable_of (by kernel_rfl)) hg0 (pleft_s7 B g i left dJ0)
     ⟨(ltq_f (Int.not_lt.1 q0)), trivial⟩).cast (by (rw [s2]; done)) (by rfl) (by rfl)

theorem pleft_s0 (B : Lo) (g : Gd) : CE.landA 2 (srunT Tryz.prog (okFn Tryz.prog) J0 B 9 2 (pleft_c0 g) (pleft_H0 g) 2
 [] 0 [] []) [1, 2, 5, 11, 12, 13] [] [(2, KS.auto)] [] = some ⟨126, 38, pleft_k1_t0, [], .run, none, pleft_k1_v0 g (0) g.stock, ([] : List Nat).zip (pleft_k1_w0 g (0) g.stock), pleft_k1_o0 g (0) g.stock,
 []⟩ := by kernel_rfl
theorem pleft_s8 (B : Lo) (g : Gd) : endT (srunT Tryz.prog (okFn Tryz.prog) J0 B 6 1 (entryC Tryz.prog 87 5 (([.agg (encGd g).toArray]).map (pushT 0 4))) H00 1
 [(3, HintT.call (List.range 2) (OO.ret (.int .i64 (leftD g.use g.br (List.drop (Int.toNat 0) g.ships) g.stock))) ([] ++ (2, regO) :: heapL 3 []) 3 [])] 0 [] []) [] = some (.int .i64 (leftD g.use g.br (List.drop (Int.toNat 0) g.ships) g.stock),
 [FJ Tryz.prog B (pleft_c0 g) (pleft_H0 g) 2 (OO.ret (.int .i64 (leftD g.use g.br (List.drop (Int.toNat 0) g.ships) g.stock))) (([] ++ ((2, regO) :: heapL (2 + 1) [])) ++ pleft_H0 g) 3 (List.range 2) []]) := by kernel_rfl
set_option maxHeartbeats 4000000 in
theorem pleft_e (g : Gd) (hg : gdB g) {B : Lo} (hJ : ∀ w, B.has w → J0 w) : EndsT Tryz.prog B (entryC Tryz.prog 87 5 (([.agg (encGd g).toArray]).map (pushT 0 4))) (.int .i64 (leftD g.use g.br g.ships g.stock)) := by
 have rj0 : FJ Tryz.prog B (pleft_c0 g) (pleft_H0 g) 2 (OO.ret (.int .i64 (leftD g.use g.br (List.drop (Int.toNat 0) g.ships) g.stock))) (([] ++ ((2, regO) :: heapL (2 + 1) [])) ++ pleft_H0 g) 3 (List.range 2) [] := by
  unfold gdB at hg
  exact FinK.fjB ((pleft_k1_ls g hg hJ _) (0) g.stock rfl (by omega) (by omega) (by omega)
   (GoE.landA okF hJ mixed_ok (under_all (by kernel_rfl)) (writable_of (by kernel_rfl)) ((GoE.refl (P := Tryz.prog) (B := B) (c0 := pleft_c0 g) (under_all (by kernel_rfl))).widen (Wf := ((([]) : List (Nat × KS)).map (·.1))) (by simp) (writable_of (by kernel_rfl))) (pleft_s0 B g)
   trivial (by kernel_rfl) (by kernel_rfl) (fun l hl => by cases hl <;> decide))) (ex := []) (by kernel_rfl) (lowX_nil _)
 unfold gdB at hg
 exact (GoE.endsT okF hJ mixed_ok GoE.start (pleft_s8 B g)
  ⟨rj0, trivial⟩).cast (by rfl)
theorem pleft (g : Gd) (hg : gdB g) : PureC Tryz.prog J0 87 #[.agg (encGd g).toArray] (.int .i64 (leftD g.use g.br g.ships g.stock)) :=
 pureC_of (ts := [.agg (encGd g).toArray]) J0_st (c0 := entryC Tryz.prog 87 5 (([.agg (encGd g).toArray]).map (pushT 0 4))) (by kernel_rfl) (by kernel_rfl) fun B hJ => pleft_e g hg hJ
end Go.Proofs.YtiabgkiccaodmaaGreat

namespace Go.Proofs.YtiabgkiccaodmaaGreat
open Go Go.CE Go.RowKit
set_option maxRecDepth 100000
def setW (s n : Int) : Int := ((orN s ((pow2 n : Nat) : Int) : Nat) : Int)
def setB (s n : Int) : Bool := decide (((andN ((shrN s n : Nat) : Int) 1 : Nat) : Int) = 1)
theorem setB_eq {s n : Int} : setB s n = s.toNat.testBit n.toNat := by
 unfold setB andN shrN
 rw [Int.toNat_natCast, show (1 : Int).toNat = 1 from rfl, Nat.and_one_is_mod, Nat.shiftRight_eq_div_pow, Nat.testBit_eq_decide_div_mod_eq]
 exact decide_eq_decide.2 (by omega)
def setL : List Int → Int → Int
 | [], s => s
 | n :: l, s => setL l (setW s n)
theorem setW_lt {s n : Int} {k : Nat} (h0 : 0 ≤ s) (h : s < 2 ^ k) (hn : n.toNat < k) : setW s n < 2 ^ k := by
 obtain ⟨b, rfl⟩ : ∃ b : Nat, s = b := ⟨s.toNat, by omega⟩
 have e : (2 : Int) ^ k = ((2 ^ k : Nat) : Int) := by rw [Int.natCast_pow]; rfl
 rw [e] at h ⊢
 have h' : b < 2 ^ k := by exact_mod_cast h
 have : b ||| 2 ^ n.toNat < 2 ^ k := Nat.or_lt_two_pow h' (Nat.pow_lt_pow_right (by decide) hn)
 unfold setW orN pow2
 rw [Int.toNat_natCast, Int.toNat_natCast]
 exact_mod_cast this
theorem setL_cons {l : List Int} {i s : Int} (h0 : 0 ≤ i) (h : i < l.length) : setL (l.drop i.toNat) s = setL (l.drop (i + 1).toNat) (setW s (l.getD i.toNat default)) := by
 obtain ⟨k, rfl⟩ : ∃ k : Nat, i = k := ⟨i.toNat, by omega⟩
 have hk : k < l.length := by omega
 have e1 : ((k : Int)).toNat = k := by omega
 have e2 : ((k : Int) + 1).toNat = k + 1 := by omega
 rw [e1, e2, List.drop_eq_getElem_cons hk]
 simp [setL, List.getD_eq_getElem?_getD, hk]
theorem setL_nil {l : List Int} {i s : Int} (h : l.length ≤ i) : setL (l.drop i.toNat) s = s := by
 rw [List.drop_eq_nil_of_le (by omega)]; rfl
theorem pWith_s0 (B : Lo) (s n : Int) : endT (srunT Tryz.prog (okFn Tryz.prog) J0 B 6 1 (entryC Tryz.prog 146 9 (([.int .i64 s, .int .i64 n]).map (pushT 0 4))) H00 1
 [(3, HintT.bin (.int .i64 (↑(pow2 n) : Int))), (4, HintT.bin (.int .i64 (↑(orN s (↑(pow2 n) : Int)) : Int)))] 0 [] []) [] = some (.int .i64 (↑(orN s (↑(pow2 n) : Int)) : Int),
 [BinTo Tryz.prog BinOp.or 120 (tget { len := 16000, tr := Tri.set 14 (Tri.set 14 Tri.lf 7 (.int .i64 (↑(pow2 n) : Int))) 5 (.int .i64 s) } 5) (tget { len := 16000, tr := Tri.set 14 (Tri.set 14 Tri.lf 7 (.int .i64 (↑(pow2 n) : Int))) 5 (.int .i64 s) } 7) (.int .i64 (↑(orN s (↑(pow2 n) : Int)) : Int)), BinTo Tryz.prog BinOp.shl 120 (.int .i64 1) (tget { len := 16000, tr := Tri.set 14 Tri.lf 6 (.int .i64 n) } 6) (.int .i64 (↑(pow2 n) : Int))]) := by kernel_rfl
set_option maxHeartbeats 4000000 in
theorem pWith_e (s n : Int) (hn : 0 ≤ n ∧ n ≤ 61) (hs : 0 ≤ s ∧ s ≤ 4611686018427387904) {B : Lo} (hJ : ∀ w, B.has w → J0 w) : EndsT Tryz.prog B (entryC Tryz.prog 146 9 (([.int .i64 s, .int .i64 n]).map (pushT 0 4))) (.int .i64 (setW s n)) := by
 have e1 := pow2_le (n := n) (by omega)
 exact (GoE.endsT okF hJ mixed_ok GoE.start (pWith_s0 B s n)
  ⟨(bin_or (by omega) (by omega) (by omega) (by omega)), ⟨(bin_shl1 (by omega) (by omega)), trivial⟩⟩).cast (by rfl)
theorem pWith (s n : Int) (hn : 0 ≤ n ∧ n ≤ 61) (hs : 0 ≤ s ∧ s ≤ 4611686018427387904) : PureC Tryz.prog J0 146 #[.int .i64 s, .int .i64 n] (.int .i64 (setW s n)) :=
 pureC_of (ts := [.int .i64 s, .int .i64 n]) J0_st (c0 := entryC Tryz.prog 146 9 (([.int .i64 s, .int .i64 n]).map (pushT 0 4))) (by kernel_rfl) (by kernel_rfl) fun B hJ => pWith_e s n hn hs hJ
noncomputable def pHas_p0 (B : Lo) (s n : Int) : List Prop := [BinTo Tryz.prog BinOp.and 120 (tget { len := 16000, tr := Tri.set 14 Tri.lf 7 (.int .i64 (↑(shrN s n) : Int)) } 7) (.int .i64 1) (.int .i64 (↑(andN (↑(shrN s n) : Int) 1) : Int)), BinTo Tryz.prog BinOp.shr 120 (tget { len := 16000, tr := Tri.set 14 (Tri.set 14 Tri.lf 6 (.int .i64 n)) 5 (.int .i64 s) } 5) (tget { len := 16000, tr := Tri.set 14 (Tri.set 14 Tri.lf 6 (.int .i64 n)) 5 (.int .i64 s) } 6) (.int .i64 (↑(shrN s n) : Int))] ++ ([] : List Prop)
noncomputable def pHas_q0 (s n : Int) : ScriptT := [(3, HintT.bin (.int .i64 (↑(shrN s n) : Int))), (4, HintT.bin (.int .i64 (↑(andN (↑(shrN s n) : Int) 1) : Int)))]
theorem pHas_s0 (B : Lo) (s n : Int) : endT (srunT Tryz.prog (okFn Tryz.prog) J0 B 6 1 (entryC Tryz.prog 159 10 (([.int .i64 s, .int .i64 n]).map (pushT 0 4))) H00 1
 (pHas_q0 s n ++ [(5, hvT)]) 0 [] []) [] = some (Value.bool true,
 [eqq (↑(andN (↑(shrN s n) : Int) 1) : Int) 1 = true] ++ pHas_p0 B s n) := by kernel_rfl
theorem pHas_s1 (B : Lo) (s n : Int) : endT (srunT Tryz.prog (okFn Tryz.prog) J0 B 6 1 (entryC Tryz.prog 159 10 (([.int .i64 s, .int .i64 n]).map (pushT 0 4))) H00 1
 (pHas_q0 s n ++ [(5, hvF)]) 0 [] []) [] = some (Value.bool false,
 [eqq (↑(andN (↑(shrN s n) : Int) 1) : Int) 1 = false] ++ pHas_p0 B s n) := by kernel_rfl
set_option maxHeartbeats 4000000 in
theorem pHas_e (s n : Int) (hn : 0 ≤ n ∧ n ≤ 61) (hs : 0 ≤ s ∧ s ≤ 4611686018427387904) {B : Lo} (hJ : ∀ w, B.has w → J0 w) : EndsT Tryz.prog B (entryC Tryz.prog 159 10 (([.int .i64 s, .int .i64 n]).map (pushT 0 4))) (.bool (setB s n)) := by
 have e1 : shrN s n ≤ s.toNat := shrN_le
 have hp0 : AllP (pHas_p0 B s n) := by
  exact ⟨(bin_and (by omega) (by omega) (by omega) (by omega)), ⟨(bin_shr (by omega) (by omega) (by omega)), trivial⟩⟩
 by_cases q0 : ((↑(andN (↑(shrN s n) : Int) 1) : Int) : Int) = (1)
 ·
  exact (GoE.endsT okF hJ mixed_ok GoE.start (pHas_s0 B s n)
   ⟨(eqq_t q0), hp0⟩).cast (by (simp [setB, *]; done))
 ·
  exact (GoE.endsT okF hJ mixed_ok GoE.start (pHas_s1 B s n)
   ⟨(eqq_f q0), hp0⟩).cast (by (simp [setB, *]; done))
theorem pHas (s n : Int) (hn : 0 ≤ n ∧ n ≤ 61) (hs : 0 ≤ s ∧ s ≤ 4611686018427387904) : PureC Tryz.prog J0 159 #[.int .i64 s, .int .i64 n] (.bool (setB s n)) :=
 pureC_of (ts := [.int .i64 s, .int .i64 n]) J0_st (c0 := entryC Tryz.prog 159 10 (([.int .i64 s, .int .i64 n]).map (pushT 0 4))) (by kernel_rfl) (by kernel_rfl) fun B hJ => pHas_e s n hn hs hJ
def pOf_v0 (xs : List Int) (i s : Int) : List Value := [.int .i64 s, topV 1 (slT xs.length (rowL encI xs)), .int .i64 (↑xs.length : Int), .int .i64 i]
def pOf_o0 (xs : List Int) (i s : Int) : List Obj := []
noncomputable def pOf_t0 : List Item := ([.code [1, 1, 0, 1, 0, 0], .inLoop [1, 1, 0, 1, 0, 0], .inBlock 0, .code [1, 1, 1]]).map (it (bodyOf Tryz.prog 116))
def pOf_h0 (B : Lo) (c0 : CF) (xs : List Int) (i s : Int) : Prop := ∃ dJ : Nat → Value, (∀ t, Loose (dJ t)) ∧ GoE Tryz.prog B c0 H00 1 (headC 116 17 (([3, 6, 7, 8] : List Nat).zip (pOf_v0 xs i s)) dJ pOf_t0) (headH (pOf_o0 xs i s)) (2 + (pOf_o0 xs i s).length) []
theorem pOf_s0 (B : Lo) (xs : List Int) (i s : Int) (dJ0 : Nat → Value) : landM (srunT Tryz.prog (okFn Tryz.prog) J0 B 13 1 (headC 116 17 (([3, 6, 7, 8] : List Nat).zip (pOf_v0 xs i s)) dJ0 pOf_t0) (headH (pOf_o0 xs i s)) (2 + (pOf_o0 xs i s).length)
 [(0, hvT), (1, HintT.tidx i.toNat #[.int .i64 (List.getD xs i.toNat default)]), (6, HintT.pure (.int .i64 (setW s (List.getD xs i.toNat default))) []), (8, hvI (i + 1))] 0 [] []) [3, 6, 7, 8] [] [] = some ⟨116, 17, pOf_t0, [], .run, none, pOf_v0 xs (i + 1) (setW s (List.getD xs i.toNat default)), pOf_o0 xs (i + 1) (setW s (List.getD xs i.toNat default)),
 [wq (i + 1) = i + 1, AllP [] ∧ PureC Tryz.prog J0 146 #[.int .i64 s, .int .i64 (List.getD xs i.toNat default)] (.int .i64 (setW s (List.getD xs i.toNat default))), i = (↑i.toNat : Int) ∧ Int.toNat i < List.length xs ∧ Array.extract (rowL encI xs) (Int.toNat i * TypeInfo.size Tryz.t3) (Int.toNat i * TypeInfo.size Tryz.t3 + TypeInfo.size Tryz.t3) = #[.int .i64 (List.getD xs i.toNat default)], ltq i (↑xs.length : Int) = true]⟩ := by kernel_rfl
theorem pOf_s1 (B : Lo) (xs : List Int) (i s : Int) (dJ0 : Nat → Value) : endT (srunT Tryz.prog (okFn Tryz.prog) J0 B 9 1 (headC 116 17 (([3, 6, 7, 8] : List Nat).zip (pOf_v0 xs i s)) dJ0 pOf_t0) (headH (pOf_o0 xs i s)) (2 + (pOf_o0 xs i s).length)
 [(0, hvF)] 0 [] []) [] = some (.int .i64 s,
 [ltq i (↑xs.length : Int) = false]) := by kernel_rfl
theorem pOf_s2 (B : Lo) (xs : List Int) : landM (srunT Tryz.prog (okFn Tryz.prog) J0 B 9 1 (entryC Tryz.prog 116 17 (([slI xs]).map (pushT 0 4))) H00 1
 [] 0 [] []) [3, 6, 7, 8] [] [] = some ⟨116, 17, pOf_t0, [], .run, none, pOf_v0 xs (0) (0), pOf_o0 xs (0) (0),
 []⟩ := by kernel_rfl
set_option maxHeartbeats 4000000 in
theorem pOf_ls (xs : List Int) (hx : ∀ x ∈ xs, 0 ≤ x ∧ x ≤ 61) (hfacts : xs.length ≤ 9223372036854775807) {B : Lo} (hJ : ∀ w, B.has w → J0 w) {c0 : CF} : ∀ m : Nat, (∀ (i s : Int), (xs.length - i.toNat) = m → ∀ (h0 : 0 ≤ i) (h1 : 0 ≤ s) (h2 : s < 4611686018427387904), pOf_h0 B c0 xs i s → EndsT Tryz.prog B c0 (.int .i64 (setL (xs.drop i.toNat) s))) := by
 intro m0
 induction m0 using Nat.strongRecOn with
 | _ m0 ih0 =>
   intro i s hm0 h0 h1 h2 ⟨dJ0, hdJ0, hg0⟩
   by_cases q0 : (i : Int) < ((↑xs.length : Int))
   ·
    have s2 := setL_cons (l := xs) (s := s) h0 q0
    have hm := hx (xs.getD i.toNat default) (by rw [List.getD_eq_getElem?_getD, List.getElem?_eq_getElem (by omega)]; exact List.getElem_mem _)
    have hw := setW_lt (s := s) (n := xs.getD i.toNat default) (k := 62) h1 (by omega) (by omega)
    have hw0 : 0 ≤ setW s (xs.getD i.toNat default) := Int.natCast_nonneg _
    exact ((ih0 _ (by omega)) (i + 1) (setW s (List.getD xs i.toNat default)) rfl (by omega) (by with_reducible assumption) (by omega)
     (hg0.landM okF hJ mixed_ok (pOf_s0 B xs i s dJ0)
     ⟨(wq_in (by omega) (by omega)), ⟨⟨trivial, pWith (s) (List.getD xs i.toNat default) (by with_reducible assumption) (by omega)⟩, ⟨⟨by omega, by omega, (rowL_extract (z := 1) (fun _ => rfl) (by omega))⟩, ⟨(ltq_t q0), trivial⟩⟩⟩⟩ (by kernel_rfl) (by kernel_rfl))).cast (by (rw [s2]; done))
   ·
    have s2 := setL_nil (l := xs) (i := i) (s := s) (by omega)
    have hw0 : 0 ≤ setW s (xs.getD i.toNat default) := Int.natCast_nonneg _
    exact (GoE.endsT okF hJ mixed_ok hg0 (pOf_s1 B xs i s dJ0)
     ⟨(ltq_f (Int.not_lt.1 q0)), trivial⟩).cast (by (rw [s2]; done))
set_option maxHeartbeats 4000000 in
theorem pOf_e (xs : List Int) (hx : ∀ x ∈ xs, 0 ≤ x ∧ x ≤ 61) (hfacts : xs.length ≤ 9223372036854775807) {B : Lo} (hJ : ∀ w, B.has w → J0 w) : EndsT Tryz.prog B (entryC Tryz.prog 116 17 (([slI xs]).map (pushT 0 4))) (.int .i64 (setL xs 0)) := by
 exact ((pOf_ls xs hx hfacts hJ _) (0) (0) rfl (by omega) (by omega) (by omega)
  (GoE.start.landM okF hJ mixed_ok (pOf_s2 B xs)
  trivial (by kernel_rfl) (by kernel_rfl))).cast (by rfl)
theorem pOf (xs : List Int) (hx : ∀ x ∈ xs, 0 ≤ x ∧ x ≤ 61) : PureC Tryz.prog J0 116 #[slI xs] (.int .i64 (setL xs 0)) :=
 pureC_ofF (ts := [slI xs]) (xs.length ≤ 9223372036854775807) (fun _ _ ht => ht.ln (i := 0) rfl) J0_st (c0 := entryC Tryz.prog 116 17 (([slI xs]).map (pushT 0 4))) (by kernel_rfl) (by kernel_rfl) fun hfacts B hJ => pOf_e xs hx hfacts hJ
end Go.Proofs.YtiabgkiccaodmaaGreat

