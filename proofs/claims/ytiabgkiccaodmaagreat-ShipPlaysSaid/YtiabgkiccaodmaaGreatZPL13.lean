/- Goods followed in truth: Play. -/
import Derived.Test.YtiabgkiccaodmaaGreatZPL12
set_option linter.all false
namespace Go.Proofs.YtiabgkiccaodmaaGreat
open Go Go.CE Go.RowKit
set_option maxRecDepth 100000
theorem all_upI {p : Int → Bool} {a b : Int} (h : (upI a b).all p = true) {k : Int} (h1 : a ≤ k) (h2 : k < b) : p k = true := by
 refine List.all_eq_true.1 h k ?_
 unfold upI
 exact List.mem_map.2 ⟨(k - a).toNat, List.mem_range.2 (by omega), by omega⟩
theorem upI_len {b : Int} : (upI 0 b).length = b.toNat := by simp [upI]
theorem upI_getD {b i : Int} (h0 : 0 ≤ i) (h : i < b) : (upI 0 b).getD i.toNat default = i := by
 have hk : i.toNat < (upI 0 b).length := by rw [upI_len]; omega
 rw [List.getD_eq_getElem?_getD, List.getElem?_eq_getElem hk]
 simp [upI]; omega
theorem mem_getD {α : Type} [Inhabited α] {l : List α} {x : α} (h : x ∈ l) : ∃ i : Int, 0 ≤ i ∧ i < l.length ∧ l.getD i.toNat default = x := by
 obtain ⟨k, hk, rfl⟩ := List.getElem_of_mem h
 exact ⟨k, by omega, by omega, by simp [List.getD_eq_getElem?_getD, hk]⟩
theorem inSpans_facts {ns : List Int} {ss : List Span} (h : inSpansB ns ss = true) : ns.length = ss.length ∧ ∀ k : Int, 0 ≤ k → k < ns.length → (ss.getD k.toNat default).lo ≤ ns.getD k.toNat default ∧ ns.getD k.toNat default ≤ (ss.getD k.toNat default).hi := by
 simp only [inSpansB, Bool.and_eq_true, decide_eq_true_iff] at h
 exact ⟨h.1, fun k h0 h1 => inB_iff.1 (all_upI h.2 h0 h1)⟩
theorem truth_rows {s : ShStore} {all : List Row} (hs : storeB s = true) (h : goodsB s all = true) : all.length = s.lots.length ∧ ∀ r ∈ all, r.length = s.stock.length ∧ ∀ x ∈ r, 0 ≤ x ∧ x ≤ 100000 := by
 simp only [goodsB, Bool.and_eq_true, decide_eq_true_iff] at h
 obtain ⟨hl, hg⟩ := h
 refine ⟨hl, fun r hr => ?_⟩
 obtain ⟨i, h0, h1, rfl⟩ := mem_getD hr
 have hi : i < s.lots.length := by omega
 obtain ⟨a, b⟩ := inSpans_facts (all_upI hg h0 hi)
 have hlot := (store_lots hs).2 _ (getD_mem h0 hi)
 obtain ⟨c, d, _⟩ := lot_facts hlot
 refine ⟨a.trans c, fun x hx => ?_⟩
 obtain ⟨j, j0, j1, rfl⟩ := mem_getD hx
 have := b j j0 j1
 have := d _ (getD_mem (l := (s.lots.getD i.toNat default).goods) j0 (by omega))
 omega
theorem sumL_bound {m : Int} : ∀ {l : List Int}, (∀ x ∈ l, 0 ≤ x ∧ x ≤ m) → 0 ≤ sumL l ∧ sumL l ≤ m * l.length
 | [], _ => by simp [sumL]
 | x :: l, h => by
   have h1 := h x (by simp)
   have h2 := sumL_bound (l := l) fun y hy => h y (by simp [hy])
   have e : m * ((l.length : Int) + 1) = m * l.length + m := by rw [Int.mul_add, Int.mul_one]
   simp only [sumL, List.length_cons, Int.natCast_add, Int.natCast_one]
   omega
theorem store_stock {s : ShStore} (h : storeB s = true) : (1 ≤ s.stock.length ∧ s.stock.length ≤ 4) ∧ (∀ x ∈ s.stock, 0 ≤ x ∧ x ≤ 100000) ∧ s.use.length = s.stock.length ∧ ∀ u ∈ s.use, 0 ≤ u.lo ∧ u.lo ≤ u.hi ∧ u.hi ≤ 1000 := by
 simp only [storeB, spansB, spanB, Bool.and_eq_true, decide_eq_true_iff, List.all_eq_true, inB_iff] at h
 exact ⟨by omega, h.2.1, h.2.2.1, h.2.2.2.1⟩
def broughtL (load : Int) (goods : List Row) (k : Int) : Int := sumL ((pickL load goods 0).map fun r => r.getD k.toNat default)
def gdOf (s : ShStore) (load days : Int) (t : ShTruth) (k : Int) : Gd := ⟨s.stock.getD k.toNat default, t.uses.getD k.toNat default, broughtL load t.goods k, ships0 days t.gaps⟩
def gdsL (s : ShStore) (load days : Int) (t : ShTruth) : List Gd := (upI 0 s.stock.length).map (gdOf s load days t)
abbrev slG (xs : List Gd) : Value := slT xs.length (rowL encGd xs)
def doneK (s : ShStore) (load days : Int) (t : ShTruth) (i : Int) : List Gd := doneL (gdOf s load days t) ⟨0, 0, 0, []⟩ (upI 0 s.stock.length) i
theorem doneK_len {s : ShStore} {load days : Int} {t : ShTruth} {i : Int} : (doneK s load days t i).length = s.stock.length := by
 unfold doneK; rw [doneL_len, upI_len]; omega
theorem doneK_0 {s : ShStore} {load days : Int} {t : ShTruth} : List.replicate s.stock.length (⟨0, 0, 0, []⟩ : Gd) = doneK s load days t 0 := by
 unfold doneK; rw [← doneL_0, upI_len]; rfl
theorem doneK_set {s : ShStore} {load days : Int} {t : ShTruth} {i : Int} (h0 : 0 ≤ i) (h : i < s.stock.length) : (doneK s load days t i).set i.toNat (gdOf s load days t i) = doneK s load days t (i + 1) := by
 have := doneL_set (f := gdOf s load days t) (x0 := ⟨0, 0, 0, []⟩) (xs := upI 0 s.stock.length) (i := i) h0 (by rw [upI_len]; omega)
 rw [upI_getD h0 h] at this
 exact this
theorem doneK_end {s : ShStore} {load days : Int} {t : ShTruth} {i : Int} (h : s.stock.length ≤ i) : doneK s load days t i = gdsL s load days t := doneL_end (by rw [upI_len]; omega)
theorem gd_ok {s : ShStore} {load days : Int} {t : ShTruth} (hs : storeB s = true) (ht : truthB s days t = true) (hd : 0 ≤ days ∧ days ≤ 300) (h0 : 0 ≤ load) (h1 : load < 64) (hx : lenI load ≤ s.lots.length) : ∀ g ∈ gdsL s load days t, gdB g := by
 intro g hg
 obtain ⟨k, hk, rfl⟩ := List.mem_map.1 hg
 obtain ⟨i, i0, i1, rfl⟩ := mem_getD hk
 rw [upI_len] at i1
 rw [upI_getD i0 (by omega)]
 simp only [truthB, Bool.and_eq_true] at ht
 obtain ⟨⟨hl1, hl2⟩, hst, hul, hu⟩ := store_stock hs
 obtain ⟨a, b⟩ := inSpans_facts ht.1
 obtain ⟨rl, rr⟩ := truth_rows hs ht.2.2
 have f1 := hst _ (getD_mem (l := s.stock) i0 (by omega))
 have f2 := hu _ (getD_mem (l := s.use) i0 (by omega))
 have f3 := b i i0 (by omega)
 have f4 : ∀ x ∈ (pickL load t.goods 0).map (fun r => r.getD i.toNat default), 0 ≤ x ∧ x ≤ 100000 := fun x hx' => by
  obtain ⟨r, hr, rfl⟩ := List.mem_map.1 hx'
  obtain ⟨q1, q2⟩ := rr r (pick_mem (Int.le_refl _) (by omega) r hr)
  exact q2 _ (getD_mem i0 (by omega))
 have f5 := sumL_bound f4
 have f6 := pick_len (s := load) (n := 0) (xs := t.goods) (Int.le_refl _)
 have f7 := lenI_le h0 h1
 rw [List.length_map] at f5
 have f8 : (ships0 days t.gaps).length = days.toNat := by unfold ships0; rw [shipsL_len, List.length_replicate]
 unfold gdB gdOf
 simp only [broughtL]
 refine ⟨by omega, by omega, by omega, by omega, by omega, by omega, by omega⟩
def pgoods_v0 (s : ShStore) (load days : Int) (t : ShTruth) (i : Int) (ys : List Gd) : List Value := [pA 2 0, pA 3 0, topV 1 (slT (List.length (ships0 days t.gaps)) (rowL encB (ships0 days t.gaps))), topV 1 (slT (List.length (pickL load t.goods 0)) (rowL encRow (pickL load t.goods 0))), Value.slice (some { block := 4, off := 0 }) s.stock.length 4, .int .i64 (↑s.stock.length : Int), .int .i64 i]
def pgoods_o0 (s : ShStore) (load days : Int) (t : ShTruth) (i : Int) (ys : List Gd) : List Obj := [Obj.cells #[topV 1 (slT s.stock.length (rowL encI s.stock)), topV 1 (slT s.use.length (rowL encSp s.use)), .int .i64 s.glo, .int .i64 s.ghi, topV 1 (slT s.lots.length (rowL encLot s.lots)), .int .i64 s.hold, .int .i64 load, .int .i64 days] 122, Obj.cells #[topV 1 (slT t.uses.length (rowL encI t.uses)), topV 1 (slT t.gaps.length (rowL encI t.gaps)), topV 1 (slT t.goods.length (rowL encRow t.goods))] 65, .cells (rowL (pushE 1 encGd) ys) 129 (0, 0)]
noncomputable def pgoods_t0 : List Item := ([.code [1, 1, 1, 1, 0, 1, 0, 0], .inLoop [1, 1, 1, 1, 0, 1, 0, 0], .inBlock 0, .code [1, 1, 1, 1, 1]]).map (it (bodyOf Tryz.prog 84))
def pgoods_h0 (B : Lo) (c0 : CF) (s : ShStore) (load days : Int) (t : ShTruth) (i : Int) (ys : List Gd) : Prop := ∃ dJ : Nat → Value, (∀ t, Loose (dJ t)) ∧ GoE Tryz.prog B c0 H00 1 (headC 84 52 (([2, 3, 5, 6, 7, 25, 26] : List Nat).zip (pgoods_v0 s load days t i ys)) dJ pgoods_t0) (headH (pgoods_o0 s load days t i ys)) (2 + (pgoods_o0 s load days t i ys).length) []
noncomputable def pgoods_H0 (s : ShStore) (load days : Int) (t : ShTruth) (i : Int) (ys : List Gd) (dJ0 : Nat → Value) : Heap := [(5, Obj.cells #[.int .i64 i] 3), (0, Obj.coro none), (1, Obj.coro none), (2, Obj.cells #[topV 1 (slT s.stock.length (rowL encI s.stock)), topV 1 (slT s.use.length (rowL encSp s.use)), .int .i64 s.glo, .int .i64 s.ghi, topV 1 (slT s.lots.length (rowL encLot s.lots)), .int .i64 s.hold, .int .i64 load, .int .i64 days] 122), (3, Obj.cells #[topV 1 (slT t.uses.length (rowL encI t.uses)), topV 1 (slT t.gaps.length (rowL encI t.gaps)), topV 1 (slT t.goods.length (rowL encRow t.goods))] 65), (4, Obj.cells (rowL (pushE 1 encGd) ys) 129)]
noncomputable def pgoods_c0 (s : ShStore) (load days : Int) (t : ShTruth) (i : Int) (ys : List Gd) (dJ0 : Nat → Value) : CF := ⟨122, ofList 26 [topV 1 (slT (List.length (pickL load t.goods 0)) (rowL encRow (pickL load t.goods 0))), Value.func (Fn.func 123) #[] #[pA 5 0]], [Item.code (bodyOf Tryz.prog 122)], [], .run, none⟩
noncomputable def pgoods_k1_v0 (s : ShStore) (load days : Int) (t : ShTruth) (i : Int) (ys : List Gd) (dJ0 : Nat → Value) (j : Int) (zs : List Int) : List Value := [Value.func (Fn.func 123) #[] #[pA 5 0], Value.slice (some { block := 7, off := 0 }) (List.length (pickL load t.goods 0)) 1, topV 1 (slT (List.length (pickL load t.goods 0)) (rowL encRow (pickL load t.goods 0))), .int .i64 (↑(List.length (pickL load t.goods 0)) : Int), .int .i64 j]
noncomputable def pgoods_k1_w0 (s : ShStore) (load days : Int) (t : ShTruth) (i : Int) (ys : List Gd) (dJ0 : Nat → Value) (j : Int) (zs : List Int) : List Obj := []
noncomputable def pgoods_k1_o0 (s : ShStore) (load days : Int) (t : ShTruth) (i : Int) (ys : List Gd) (dJ0 : Nat → Value) (j : Int) (zs : List Int) : List Obj := [.cells (rowL encI zs) 3 (0, 0)]
noncomputable def pgoods_k1_t0 : List Item := ([.code [1, 1, 0, 1, 0, 0], .inLoop [1, 1, 0, 1, 0, 0], .inBlock 0, .code [1, 1, 1]]).map (it (bodyOf Tryz.prog 122))
noncomputable def pgoods_H1 (s : ShStore) (load days : Int) (t : ShTruth) (i : Int) (ys : List Gd) (dJ0 : Nat → Value) (j : Int) (zs : List Int) (dJ1 : Nat → Value) : Heap := [(6, Obj.coro none), (7, Obj.cells (rowL encI zs) 3), (5, Obj.cells #[.int .i64 i] 3), (0, Obj.coro none), (1, Obj.coro none), (2, Obj.cells #[topV 1 (slT s.stock.length (rowL encI s.stock)), topV 1 (slT s.use.length (rowL encSp s.use)), .int .i64 s.glo, .int .i64 s.ghi, topV 1 (slT s.lots.length (rowL encLot s.lots)), .int .i64 s.hold, .int .i64 load, .int .i64 days] 122), (3, Obj.cells #[topV 1 (slT t.uses.length (rowL encI t.uses)), topV 1 (slT t.gaps.length (rowL encI t.gaps)), topV 1 (slT t.goods.length (rowL encRow t.goods))] 65), (4, Obj.cells (rowL (pushE 1 encGd) ys) 129)]
noncomputable def pgoods_c1 (s : ShStore) (load days : Int) (t : ShTruth) (i : Int) (ys : List Gd) (dJ0 : Nat → Value) (j : Int) (zs : List Int) (dJ1 : Nat → Value) : CF := ⟨123, ofList 8 [topV 1 (slT (List.length (List.getD (pickL load t.goods 0) j.toNat default)) (rowL encI (List.getD (pickL load t.goods 0) j.toNat default))), pA 5 0], [Item.code (bodyOf Tryz.prog 123)], [], .run, none⟩
noncomputable def pgoods_z0 (days : Int) (t : ShTruth) : Value := (slT (List.length (ships0 days t.gaps)) (rowL encB (ships0 days t.gaps)))
theorem pgoods_s1 (B : Lo) (s : ShStore) (load days : Int) (t : ShTruth) (i : Int) (ys : List Gd) (dJ0 : Nat → Value) (j : Int) (zs : List Int) (dJ1 : Nat → Value) : CE.finK 8 (srunT Tryz.prog (okFn Tryz.prog) J0 B 6 8 (pgoods_c1 s load days t i ys dJ0 j zs dJ1) (pgoods_H1 s load days t i ys dJ0 j zs dJ1) 8
 [(3, HintT.tidx i.toNat #[.int .i64 (List.getD (List.getD (pickL load t.goods 0) j.toNat default) i.toNat default)])] 0 [] []) [] [] [] = some (OO.ret (.int .i64 (List.getD (List.getD (pickL load t.goods 0) j.toNat default) i.toNat default)), [], [],
 [i = (↑i.toNat : Int) ∧ Int.toNat i < List.length (List.getD (pickL load t.goods 0) j.toNat default) ∧ Array.extract (rowL encI (List.getD (pickL load t.goods 0) j.toNat default)) (Int.toNat i * TypeInfo.size Tryz.t3) (Int.toNat i * TypeInfo.size Tryz.t3 + TypeInfo.size Tryz.t3) = #[.int .i64 (List.getD (List.getD (pickL load t.goods 0) j.toNat default) i.toNat default)]]) := by kernel_rfl
theorem pgoods_s2 (B : Lo) (s : ShStore) (load days : Int) (t : ShTruth) (i : Int) (ys : List Gd) (dJ0 : Nat → Value) (j : Int) (zs : List Int) (dJ1 : Nat → Value) : CE.landA 6 (srunT Tryz.prog (okFn Tryz.prog) J0 B 13 6 (headR (none) 122 26 (([1, 5, 11, 12, 13] : List Nat).zip (pgoods_k1_v0 s load days t i ys dJ0 j zs)) dJ1 pgoods_k1_t0) (headA (pgoods_H0 s load days t i ys dJ0) 6 (([] : List Nat).zip (pgoods_k1_w0 s load days t i ys dJ0 j zs)) (pgoods_k1_o0 s load days t i ys dJ0 j zs)) (6 + 1 + (pgoods_k1_o0 s load days t i ys dJ0 j zs).length)
 [(0, hvT), (2, HintT.tidx j.toNat #[slT (List.length (List.getD (pickL load t.goods 0) j.toNat default)) (rowL encI (List.getD (pickL load t.goods 0) j.toNat default))]), (10, HintT.call (List.range 8) (OO.ret (.int .i64 (List.getD (List.getD (pickL load t.goods 0) j.toNat default) i.toNat default))) ([] ++ (8, regO) :: heapL 9 []) 9 []), (11, HintT.old (Hint.idx j.toNat)), (12, HintT.old (Hint.st (rowL encI (List.set zs j.toNat (List.getD (List.getD (pickL load t.goods 0) j.toNat default) i.toNat default))))), (13, hvI (j + 1))] 0 [] []) [1, 5, 11, 12, 13] [] [(7, KS.cells [] (rowL encI (List.set zs j.toNat (List.getD (List.getD (pickL load t.goods 0) j.toNat default) i.toNat default))))] [] = some ⟨122, 26, pgoods_k1_t0, [], .run, none, pgoods_k1_v0 s load days t i ys dJ0 (j + 1) (List.set zs j.toNat (List.getD (List.getD (pickL load t.goods 0) j.toNat default) i.toNat default)), ([] : List Nat).zip (pgoods_k1_w0 s load days t i ys dJ0 (j + 1) (List.set zs j.toNat (List.getD (List.getD (pickL load t.goods 0) j.toNat default) i.toNat default))), pgoods_k1_o0 s load days t i ys dJ0 (j + 1) (List.set zs j.toNat (List.getD (List.getD (pickL load t.goods 0) j.toNat default) i.toNat default)),
 [CellsM 6 [] (rowL encI (List.set zs j.toNat (List.getD (List.getD (pickL load t.goods 0) j.toNat default) i.toNat default))) (rowL encI (List.set zs j.toNat (List.getD (List.getD (pickL load t.goods 0) j.toNat default) i.toNat default))), wq (j + 1) = j + 1, 0 + Int.toNat j * 1 + TypeInfo.size Tryz.t3 ≤ Array.size (rowL encI zs) ∧ splice (rowL encI zs) (0 + Int.toNat j * 1) (Value.cells (tget { len := 16000, tr := Tri.set 14 (Tri.set 14 Tri.lf 22 (.int .i64 (List.getD (List.getD (pickL load t.goods 0) j.toNat default) i.toNat default))) 23 (Value.pointer (some { block := 7, off := 0 + Int.toNat j * 1 })) } 22)) = rowL encI (List.set zs j.toNat (List.getD (List.getD (pickL load t.goods 0) j.toNat default) i.toNat default)), j = (↑j.toNat : Int) ∧ Int.toNat j < List.length (pickL load t.goods 0), FJ Tryz.prog B (pgoods_c1 s load days t i ys dJ0 j zs dJ1) (pgoods_H1 s load days t i ys dJ0 j zs dJ1) 8 (OO.ret (.int .i64 (List.getD (List.getD (pickL load t.goods 0) j.toNat default) i.toNat default))) (([] ++ ((8, regO) :: heapL (8 + 1) [])) ++ pgoods_H1 s load days t i ys dJ0 j zs dJ1) 9 (List.range 8) [], j = (↑j.toNat : Int) ∧ Int.toNat j < List.length (pickL load t.goods 0) ∧ Array.extract (rowL encRow (pickL load t.goods 0)) (Int.toNat j * TypeInfo.size Tryz.t22) (Int.toNat j * TypeInfo.size Tryz.t22 + TypeInfo.size Tryz.t22) = #[slT (List.length (List.getD (pickL load t.goods 0) j.toNat default)) (rowL encI (List.getD (pickL load t.goods 0) j.toNat default))], ltq j (↑(List.length (pickL load t.goods 0)) : Int) = true]⟩ := by kernel_rfl
theorem pgoods_s3 (B : Lo) (s : ShStore) (load days : Int) (t : ShTruth) (i : Int) (ys : List Gd) (dJ0 : Nat → Value) (j : Int) (zs : List Int) (dJ1 : Nat → Value) : CE.finK 6 (srunT Tryz.prog (okFn Tryz.prog) J0 B 9 6 (headR (none) 122 26 (([1, 5, 11, 12, 13] : List Nat).zip (pgoods_k1_v0 s load days t i ys dJ0 j zs)) dJ1 pgoods_k1_t0) (headA (pgoods_H0 s load days t i ys dJ0) 6 (([] : List Nat).zip (pgoods_k1_w0 s load days t i ys dJ0 j zs)) (pgoods_k1_o0 s load days t i ys dJ0 j zs)) (6 + 1 + (pgoods_k1_o0 s load days t i ys dJ0 j zs).length)
 [(0, hvF)] 0 [] []) [] [] [{ k := 7, rs := [], cs := rowL encI zs }] = some (OO.ret (topV 6 (slT (List.length (pickL load t.goods 0)) (Fz.cs { k := 7, rs := [], cs := rowL encI zs }))), [], [],
 [CellsT (Fz.rs { k := 7, rs := [], cs := rowL encI zs }) (rowL encI zs) (Fz.cs { k := 7, rs := [], cs := rowL encI zs }), ltq j (↑(List.length (pickL load t.goods 0)) : Int) = false]) := by kernel_rfl
set_option maxHeartbeats 4000000 in
theorem pgoods_k1_ls (s : ShStore) (load days : Int) (t : ShTruth) (i : Int) (ys : List Gd) (dJ0 : Nat → Value) (hs : storeB s = true) (ht : truthB s days t = true) (hd : 0 ≤ days ∧ days ≤ 300) (h0 : 0 ≤ load) (h1 : load < 64) (hx : lenI load ≤ s.lots.length) (i0 : 0 ≤ i) (hy : ys = doneK s load days t i) (hdJ0 : ∀ t, Loose (dJ0 t)) (q0 : (i : Int) < ((↑s.stock.length : Int))) {B : Lo} (hJ : ∀ w, B.has w → J0 w) : ∀ m : Nat, (∀ (j : Int) (zs : List Int), (pickL load t.goods 0).length - j.toNat = m → ∀ (j0 : 0 ≤ j) (hz : zs = doneL (fun (r : Row) => r.getD i.toNat default) 0 (pickL load t.goods 0) j), (∃ dJ1 : Nat → Value, (∀ t, Loose (dJ1 t)) ∧ GoE Tryz.prog B (pgoods_c0 s load days t i ys dJ0) (pgoods_H0 s load days t i ys dJ0) 6 (headR (none) 122 26 (([1, 5, 11, 12, 13] : List Nat).zip (pgoods_k1_v0 s load days t i ys dJ0 j zs)) dJ1 pgoods_k1_t0) (headA (pgoods_H0 s load days t i ys dJ0) 6 (([] : List Nat).zip (pgoods_k1_w0 s load days t i ys dJ0 j zs)) (pgoods_k1_o0 s load days t i ys dJ0 j zs)) (6 + 1 + (pgoods_k1_o0 s load days t i ys dJ0 j zs).length) ([] : List Nat)) → FinK Tryz.prog B (pgoods_c0 s load days t i ys dJ0) (pgoods_H0 s load days t i ys dJ0) 6 (.ret (topV 6 (slI ((pickL load t.goods 0).map fun r => r.getD i.toNat default)))) (([] : List Nat).zip ([])) ([]) ([] : List Nat)) := by
 intro m1
 induction m1 using Nat.strongRecOn with
 | _ m1 ih1 =>
   intro j zs hm1 j0 hz ⟨dJ1, hdJ1, hg1⟩
   have ht' := ht; simp only [truthB, gapsB, Bool.and_eq_true, decide_eq_true_iff, List.all_eq_true, inB_iff] at ht'
   have hgp := store_gap hs
   have hst := store_stock hs
   have hrows := truth_rows hs ht'.2.2
   have hus := (inSpans_facts ht'.1).1
   have hgg : ∀ x ∈ t.gaps, 0 ≤ x ∧ x ≤ 60 := fun x h => by have := ht'.2.1.2.1 x h; omega
   have hgl : t.gaps.length ≤ 300 := ht'.2.1.1
   have hpx : lenI load ≤ t.goods.length := by omega
   have hpl := pick_len (s := load) (n := 0) (xs := t.goods) (Int.le_refl _)
   have hl6 := lenI_le h0 h1
   have hyl : ys.length = s.stock.length := by rw [hy]; exact doneK_len
   have hzl : zs.length = (pickL load t.goods 0).length := by rw [hz]; exact doneL_len
   have hyl : ys.length = s.stock.length := by rw [hy]; exact doneK_len
   have hri : ∀ r ∈ pickL load t.goods 0, i < r.length := fun r h => by have := (hrows.2 r (pick_mem (Int.le_refl _) hpx r h)).1; omega
   by_cases q1 : (j : Int) < ((↑(List.length (pickL load t.goods 0)) : Int))
   ·
    have rj1 : FJ Tryz.prog B (pgoods_c1 s load days t i ys dJ0 j zs dJ1) (pgoods_H1 s load days t i ys dJ0 j zs dJ1) 8 (OO.ret (.int .i64 (List.getD (List.getD (pickL load t.goods 0) j.toNat default) i.toNat default))) (([] ++ ((8, regO) :: heapL (8 + 1) [])) ++ pgoods_H1 s load days t i ys dJ0 j zs dJ1) 9 (List.range 8) [] := by
     have hri : ∀ r ∈ pickL load t.goods 0, i < r.length := fun r h => by have := (hrows.2 r (pick_mem (Int.le_refl _) hpx r h)).1; omega
     have hrx : ∀ x ∈ (pickL load t.goods 0).map (fun r => r.getD i.toNat default), -1000000000 ≤ x ∧ x ≤ 1000000000 := fun x h => by obtain ⟨r, hr, rfl⟩ := List.mem_map.1 h; obtain ⟨a, b⟩ := hrows.2 r (pick_mem (Int.le_refl _) hpx r hr); have := b _ (getD_mem (l := r) i0 (by omega)); omega
     have hrl : ((pickL load t.goods 0).map (fun r => r.getD i.toNat default)).length ≤ 1000 := by rw [List.length_map]; omega
     have hrj := hri _ (getD_mem j0 (by assumption))
     exact FinK.fjB (GoE.finK okF hJ mixed_ok (under_all (by kernel_rfl)) (writable_of (by kernel_rfl)) ((GoE.refl (P := Tryz.prog) (B := B) (c0 := pgoods_c1 s load days t i ys dJ0 j zs dJ1) (under_all (by kernel_rfl))).widen (Wf := ((([]) : List (Nat × KS)).map (·.1))) (by simp) (writable_of (by kernel_rfl))) (pgoods_s1 B s load days t i ys dJ0 j zs dJ1)
      ⟨⟨by omega, by omega, (rowL_extract (z := 1) (fun _ => rfl) (by omega))⟩, trivial⟩) (ex := [7, 4]) (by kernel_rfl) ⟨trivial, ⟨(lowO_row (t := 3) (fl := (0, 0)) (fun x => List.all_eq_true.1 (by rfl))), ⟨trivial, ⟨trivial, ⟨trivial, ⟨trivial, ⟨trivial, ⟨(lowO_pushE (t := 129) (fl := (0, 0)) (treeE_of (fun _ => rfl)) (by decide)), trivial⟩⟩⟩⟩⟩⟩⟩⟩
    have hri : ∀ r ∈ pickL load t.goods 0, i < r.length := fun r h => by have := (hrows.2 r (pick_mem (Int.le_refl _) hpx r h)).1; omega
    have hrx : ∀ x ∈ (pickL load t.goods 0).map (fun r => r.getD i.toNat default), -1000000000 ≤ x ∧ x ≤ 1000000000 := fun x h => by obtain ⟨r, hr, rfl⟩ := List.mem_map.1 h; obtain ⟨a, b⟩ := hrows.2 r (pick_mem (Int.le_refl _) hpx r hr); have := b _ (getD_mem (l := r) i0 (by omega)); omega
    have hrl : ((pickL load t.goods 0).map (fun r => r.getD i.toNat default)).length ≤ 1000 := by rw [List.length_map]; omega
    have hrj := hri _ (getD_mem j0 (by assumption))
    exact ((ih1 _ (by omega)) (j + 1) (List.set zs j.toNat (List.getD (List.getD (pickL load t.goods 0) j.toNat default) i.toNat default)) rfl (by omega) (by (subst hz; exact doneL_set (f := fun (r : Row) => r.getD i.toNat default) j0 q1))
     (GoE.landA okF hJ mixed_ok (under_all (by kernel_rfl)) (writable_of (by kernel_rfl)) hg1 (pgoods_s2 B s load days t i ys dJ0 j zs dJ1)
     ⟨(cellsM_simple (rowL_simple (fun x => List.all_eq_true.1 (by rfl)))), ⟨(wq_in (by omega) (by omega)), ⟨(by exact rowL_st0 (z := 1) (fun _ => rfl) (by omega) rfl rfl), ⟨⟨by omega, by omega⟩, ⟨rj1, ⟨⟨by omega, by omega, (rowL_extract (z := 1) (fun _ => rfl) (by omega))⟩, ⟨(ltq_t q1), trivial⟩⟩⟩⟩⟩⟩⟩ (by kernel_rfl) (by kernel_rfl) (fun l hl => by cases hl <;> decide))).cast (by rfl) (by rfl) (by rfl)
   ·
    have hri : ∀ r ∈ pickL load t.goods 0, i < r.length := fun r h => by have := (hrows.2 r (pick_mem (Int.le_refl _) hpx r h)).1; omega
    have hrx : ∀ x ∈ (pickL load t.goods 0).map (fun r => r.getD i.toNat default), -1000000000 ≤ x ∧ x ≤ 1000000000 := fun x h => by obtain ⟨r, hr, rfl⟩ := List.mem_map.1 h; obtain ⟨a, b⟩ := hrows.2 r (pick_mem (Int.le_refl _) hpx r hr); have := b _ (getD_mem (l := r) i0 (by omega)); omega
    have hrl : ((pickL load t.goods 0).map (fun r => r.getD i.toNat default)).length ≤ 1000 := by rw [List.length_map]; omega
    exact (GoE.finK okF hJ mixed_ok (under_all (by kernel_rfl)) (writable_of (by kernel_rfl)) hg1 (pgoods_s3 B s load days t i ys dJ0 j zs dJ1)
     ⟨(rowL_cellsT (fun x => List.all_eq_true.1 (by rfl))), ⟨(ltq_f (Int.not_lt.1 q1)), trivial⟩⟩).cast (by exact congrArg (fun v => OO.ret (topV 6 v)) (row_len (hz.trans (doneL_end (by omega))) (by simp))) (by rfl) (by rfl)

theorem pgoods_s0 (B : Lo) (s : ShStore) (load days : Int) (t : ShTruth) (i : Int) (ys : List Gd) (dJ0 : Nat → Value) : CE.landA 6 (srunT Tryz.prog (okFn Tryz.prog) J0 B 9 6 (pgoods_c0 s load days t i ys dJ0) (pgoods_H0 s load days t i ys dJ0) 6
 [(3, HintT.old (Hint.mk (List.length (pickL load t.goods 0)) (rowL (zeroE [.int .i64 0]) (List.replicate (List.length (pickL load t.goods 0)) ()))))] 0 [] []) [1, 5, 11, 12, 13] [] [(6, KS.rows [] [] (rowL encI (List.replicate (List.length (pickL load t.goods 0)) 0)))] [] = some ⟨122, 26, pgoods_k1_t0, [], .run, none, pgoods_k1_v0 s load days t i ys dJ0 (0) (List.replicate (List.length (pickL load t.goods 0)) 0), ([] : List Nat).zip (pgoods_k1_w0 s load days t i ys dJ0 (0) (List.replicate (List.length (pickL load t.goods 0)) 0)), pgoods_k1_o0 s load days t i ys dJ0 (0) (List.replicate (List.length (pickL load t.goods 0)) 0),
 [CellsX 6 [] [] (rowL (zeroE [.int .i64 0]) (List.replicate (List.length (pickL load t.goods 0)) ())) (rowL encI (List.replicate (List.length (pickL load t.goods 0)) 0)), cMake Tryz.prog 22 (tget { len := 16000, tr := Tri.set 14 Tri.lf 9 (.int .i64 (↑(List.length (pickL load t.goods 0)) : Int)) } 9) (tget { len := 16000, tr := Tri.set 14 Tri.lf 9 (.int .i64 (↑(List.length (pickL load t.goods 0)) : Int)) } 9) = some (3, rowL (zeroE [.int .i64 0]) (List.replicate (List.length (pickL load t.goods 0)) ()), List.length (pickL load t.goods 0), TypeInfo.size Tryz.t3)]⟩ := by kernel_rfl
theorem pgoods_s4 (B : Lo) (s : ShStore) (load days : Int) (t : ShTruth) (i : Int) (ys : List Gd) (dJ0 : Nat → Value) : landM (srunT Tryz.prog (okFn Tryz.prog) J0 B 15 1 (headC 84 52 (([2, 3, 5, 6, 7, 25, 26] : List Nat).zip (pgoods_v0 s load days t i ys)) dJ0 pgoods_t0) (headH (pgoods_o0 s load days t i ys)) (2 + (pgoods_o0 s load days t i ys).length)
 [(0, hvT), (6, HintT.call (List.range 6) (OO.ret (topV 6 (slT (List.length (List.map (fun r => List.getD r i.toNat default) (pickL load t.goods 0))) (rowL encI (List.map (fun r => List.getD r i.toNat default) (pickL load t.goods 0)))))) ([] ++ (6, regO) :: heapL 7 []) 7 []), (14, HintT.tidx i.toNat #[.int .i64 (List.getD s.stock i.toNat default)]), (19, HintT.tidx i.toNat #[.int .i64 (List.getD t.uses i.toNat default)]), (22, HintT.pure (.int .i64 (sumL (List.map (fun r => List.getD r i.toNat default) (pickL load t.goods 0)))) []), (25, HintT.old (Hint.idx i.toNat)), (26, HintT.old (Hint.st (splice (rowL (pushE 1 encGd) ys) (0 + Int.toNat i * 4) #[.int .i64 (List.getD s.stock i.toNat default), .int .i64 (List.getD t.uses i.toNat default), .int .i64 (sumL (List.map (fun r => List.getD r i.toNat default) (pickL load t.goods 0))), topV 1 (pgoods_z0 days t)]))), (27, hvI (i + 1))] 0 [] []) [2, 3, 5, 6, 7, 25, 26] [(2, KS.auto), (3, KS.auto), (4, KS.rows [(1, 1)] [] (rowL (pushE 1 encGd) (List.set ys i.toNat { stock := List.getD s.stock i.toNat default, use := List.getD t.uses i.toNat default, br := sumL (List.map (fun r => List.getD r i.toNat default) (pickL load t.goods 0)), ships := ships0 days t.gaps })))] [] = some ⟨84, 52, pgoods_t0, [], .run, none, pgoods_v0 s load days t (i + 1) (List.set ys i.toNat { stock := List.getD s.stock i.toNat default, use := List.getD t.uses i.toNat default, br := sumL (List.map (fun r => List.getD r i.toNat default) (pickL load t.goods 0)), ships := ships0 days t.gaps }), pgoods_o0 s load days t (i + 1) (List.set ys i.toNat { stock := List.getD s.stock i.toNat default, use := List.getD t.uses i.toNat default, br := sumL (List.map (fun r => List.getD r i.toNat default) (pickL load t.goods 0)), ships := ships0 days t.gaps }),
 [CellsX 1 [(1, 1)] [] (splice (rowL (pushE 1 encGd) ys) (0 + Int.toNat i * 4) #[.int .i64 (List.getD s.stock i.toNat default), .int .i64 (List.getD t.uses i.toNat default), .int .i64 (sumL (List.map (fun r => List.getD r i.toNat default) (pickL load t.goods 0))), topV 1 (pgoods_z0 days t)]) (rowL (pushE 1 encGd) (List.set ys i.toNat { stock := List.getD s.stock i.toNat default, use := List.getD t.uses i.toNat default, br := sumL (List.map (fun r => List.getD r i.toNat default) (pickL load t.goods 0)), ships := ships0 days t.gaps })), wq (i + 1) = i + 1, 0 + Int.toNat i * 4 + TypeInfo.size Tryz.t129 ≤ Array.size (rowL (pushE 1 encGd) ys) ∧ splice (rowL (pushE 1 encGd) ys) (0 + Int.toNat i * 4) (Value.cells (tget { len := 16000, tr := Tri.set 14 (Tri.set 14 Tri.lf 48 (Value.agg #[.int .i64 (List.getD s.stock i.toNat default), .int .i64 (List.getD t.uses i.toNat default), .int .i64 (sumL (List.map (fun r => List.getD r i.toNat default) (pickL load t.goods 0))), topV 1 (pgoods_z0 days t)])) 49 (Value.pointer (some { block := 4, off := 0 + Int.toNat i * 4 })) } 48)) = splice (rowL (pushE 1 encGd) ys) (0 + Int.toNat i * 4) #[.int .i64 (List.getD s.stock i.toNat default), .int .i64 (List.getD t.uses i.toNat default), .int .i64 (sumL (List.map (fun r => List.getD r i.toNat default) (pickL load t.goods 0))), topV 1 (pgoods_z0 days t)], i = (↑i.toNat : Int) ∧ Int.toNat i < List.length s.stock, AllP [] ∧ PureC Tryz.prog J0 124 #[slT (List.length (List.map (fun r => List.getD r i.toNat default) (pickL load t.goods 0))) (rowL encI (List.map (fun r => List.getD r i.toNat default) (pickL load t.goods 0)))] (.int .i64 (sumL (List.map (fun r => List.getD r i.toNat default) (pickL load t.goods 0)))), i = (↑i.toNat : Int) ∧ Int.toNat i < List.length t.uses ∧ Array.extract (rowL encI t.uses) (Int.toNat i * TypeInfo.size Tryz.t3) (Int.toNat i * TypeInfo.size Tryz.t3 + TypeInfo.size Tryz.t3) = #[.int .i64 (List.getD t.uses i.toNat default)], i = (↑i.toNat : Int) ∧ Int.toNat i < List.length s.stock ∧ Array.extract (rowL encI s.stock) (Int.toNat i * TypeInfo.size Tryz.t3) (Int.toNat i * TypeInfo.size Tryz.t3 + TypeInfo.size Tryz.t3) = #[.int .i64 (List.getD s.stock i.toNat default)], FJ Tryz.prog B (pgoods_c0 s load days t i ys dJ0) (pgoods_H0 s load days t i ys dJ0) 6 (OO.ret (topV 6 (slT (List.length (List.map (fun r => List.getD r i.toNat default) (pickL load t.goods 0))) (rowL encI (List.map (fun r => List.getD r i.toNat default) (pickL load t.goods 0)))))) (([] ++ ((6, regO) :: heapL (6 + 1) [])) ++ pgoods_H0 s load days t i ys dJ0) 7 (List.range 6) [], ltq i (↑s.stock.length : Int) = true]⟩ := by kernel_rfl
theorem pgoods_s5 (B : Lo) (s : ShStore) (load days : Int) (t : ShTruth) (i : Int) (ys : List Gd) (dJ0 : Nat → Value) : endT (srunT Tryz.prog (okFn Tryz.prog) J0 B 9 1 (headC 84 52 (([2, 3, 5, 6, 7, 25, 26] : List Nat).zip (pgoods_v0 s load days t i ys)) dJ0 pgoods_t0) (headH (pgoods_o0 s load days t i ys)) (2 + (pgoods_o0 s load days t i ys).length)
 [(0, hvF)] 0 [] []) [{ k := 4, rs := [1], cs := rowL encGd ys }] = some (slT s.stock.length (Fz.cs { k := 4, rs := [1], cs := rowL encGd ys }),
 [CellsT (Fz.rs { k := 4, rs := [1], cs := rowL encGd ys }) (rowL (pushE 1 encGd) ys) (Fz.cs { k := 4, rs := [1], cs := rowL encGd ys }), ltq i (↑s.stock.length : Int) = false]) := by kernel_rfl
theorem pgoods_s6 (B : Lo) (s : ShStore) (load days : Int) (t : ShTruth) : landM (srunT Tryz.prog (okFn Tryz.prog) J0 B 13 1 (entryC Tryz.prog 84 52 (([.agg (encLoaded s load days).toArray, .agg (encTruth t).toArray]).map (pushT 0 4))) H00 1
 [(6, HintT.pure (pgoods_z0 days t) []), (12, HintT.pure (slT (List.length (pickL load t.goods 0)) (rowL encRow (pickL load t.goods 0))) []), (18, HintT.old (Hint.mk s.stock.length (rowL (zeroE [.int .i64 0, .int .i64 0, .int .i64 0, Value.slice none 0 0]) (List.replicate s.stock.length ()))))] 0 [] []) [2, 3, 5, 6, 7, 25, 26] [(1, KS.auto), (2, KS.auto), (5, KS.rows [] [] (rowL (pushE 1 encGd) (List.replicate s.stock.length { stock := 0, use := 0, br := 0, ships := [] })))] [] = some ⟨84, 52, pgoods_t0, [], .run, none, pgoods_v0 s load days t (0) (List.replicate s.stock.length { stock := 0, use := 0, br := 0, ships := [] }), pgoods_o0 s load days t (0) (List.replicate s.stock.length { stock := 0, use := 0, br := 0, ships := [] }),
 [CellsX 1 [] [] (rowL (zeroE [.int .i64 0, .int .i64 0, .int .i64 0, Value.slice none 0 0]) (List.replicate s.stock.length ())) (rowL (pushE 1 encGd) (List.replicate s.stock.length { stock := 0, use := 0, br := 0, ships := [] })), cMake Tryz.prog 119 (tget { len := 16000, tr := Tri.set 14 Tri.lf 22 (.int .i64 (↑s.stock.length : Int)) } 22) (tget { len := 16000, tr := Tri.set 14 Tri.lf 22 (.int .i64 (↑s.stock.length : Int)) } 22) = some (129, rowL (zeroE [.int .i64 0, .int .i64 0, .int .i64 0, Value.slice none 0 0]) (List.replicate s.stock.length ()), List.length s.stock, TypeInfo.size Tryz.t129), AllP [] ∧ PureC Tryz.prog J0 121 #[.int .i64 load, slT t.goods.length (rowL encRow t.goods)] (slT (List.length (pickL load t.goods 0)) (rowL encRow (pickL load t.goods 0))), AllP [] ∧ PureC Tryz.prog J0 120 #[Value.agg #[slT s.stock.length (rowL encI s.stock), slT s.use.length (rowL encSp s.use), .int .i64 s.glo, .int .i64 s.ghi, slT s.lots.length (rowL encLot s.lots), .int .i64 s.hold, .int .i64 load, .int .i64 days], slT t.gaps.length (rowL encI t.gaps)] (pgoods_z0 days t)]⟩ := by kernel_rfl
set_option maxHeartbeats 4000000 in
theorem pgoods_ls (s : ShStore) (load days : Int) (t : ShTruth) (hs : storeB s = true) (ht : truthB s days t = true) (hd : 0 ≤ days ∧ days ≤ 300) (h0 : 0 ≤ load) (h1 : load < 64) (hx : lenI load ≤ s.lots.length) {B : Lo} (hJ : ∀ w, B.has w → J0 w) {c0 : CF} : ∀ m : Nat, (∀ (i : Int) (ys : List Gd), s.stock.length - i.toNat = m → ∀ (i0 : 0 ≤ i) (hy : ys = doneK s load days t i), pgoods_h0 B c0 s load days t i ys → EndsT Tryz.prog B c0 (slG (gdsL s load days t))) := by
 intro m0
 induction m0 using Nat.strongRecOn with
 | _ m0 ih0 =>
   intro i ys hm0 i0 hy ⟨dJ0, hdJ0, hg0⟩
   have ht' := ht; simp only [truthB, gapsB, Bool.and_eq_true, decide_eq_true_iff, List.all_eq_true, inB_iff] at ht'
   have hgp := store_gap hs
   have hst := store_stock hs
   have hrows := truth_rows hs ht'.2.2
   have hus := (inSpans_facts ht'.1).1
   have hgg : ∀ x ∈ t.gaps, 0 ≤ x ∧ x ≤ 60 := fun x h => by have := ht'.2.1.2.1 x h; omega
   have hgl : t.gaps.length ≤ 300 := ht'.2.1.1
   have hpx : lenI load ≤ t.goods.length := by omega
   have hpl := pick_len (s := load) (n := 0) (xs := t.goods) (Int.le_refl _)
   have hl6 := lenI_le h0 h1
   have hyl : ys.length = s.stock.length := by rw [hy]; exact doneK_len
   by_cases q0 : (i : Int) < ((↑s.stock.length : Int))
   ·
    have rj0 : FJ Tryz.prog B (pgoods_c0 s load days t i ys dJ0) (pgoods_H0 s load days t i ys dJ0) 6 (OO.ret (topV 6 (slT (List.length (List.map (fun r => List.getD r i.toNat default) (pickL load t.goods 0))) (rowL encI (List.map (fun r => List.getD r i.toNat default) (pickL load t.goods 0)))))) (([] ++ ((6, regO) :: heapL (6 + 1) [])) ++ pgoods_H0 s load days t i ys dJ0) 7 (List.range 6) [] := by
     have hri : ∀ r ∈ pickL load t.goods 0, i < r.length := fun r h => by have := (hrows.2 r (pick_mem (Int.le_refl _) hpx r h)).1; omega
     have hrx : ∀ x ∈ (pickL load t.goods 0).map (fun r => r.getD i.toNat default), -1000000000 ≤ x ∧ x ≤ 1000000000 := fun x h => by obtain ⟨r, hr, rfl⟩ := List.mem_map.1 h; obtain ⟨a, b⟩ := hrows.2 r (pick_mem (Int.le_refl _) hpx r hr); have := b _ (getD_mem (l := r) i0 (by omega)); omega
     have hrl : ((pickL load t.goods 0).map (fun r => r.getD i.toNat default)).length ≤ 1000 := by rw [List.length_map]; omega
     exact FinK.fjB ((pgoods_k1_ls s load days t i ys dJ0 hs ht hd h0 h1 hx i0 hy hdJ0 q0 hJ _) (0) (List.replicate (List.length (pickL load t.goods 0)) 0) rfl (by omega) (by exact doneL_0)
      (GoE.landA okF hJ mixed_ok (under_all (by kernel_rfl)) (writable_of (by kernel_rfl)) ((GoE.refl (P := Tryz.prog) (B := B) (c0 := pgoods_c0 s load days t i ys dJ0) (under_all (by kernel_rfl))).widen (Wf := ((([]) : List (Nat × KS)).map (·.1))) (by simp) (writable_of (by kernel_rfl))) (pgoods_s0 B s load days t i ys dJ0)
      ⟨(by exact (cellsX_zero (by exact ⟨(.simple rfl), trivial⟩) _)), ⟨(cMakeL (bytes := 8) (by kernel_rfl) (by omega) (by omega) (by omega)), trivial⟩⟩ (by kernel_rfl) (by kernel_rfl) (fun l hl => by cases hl <;> decide))) (ex := [4]) (by kernel_rfl) ⟨trivial, ⟨trivial, ⟨trivial, ⟨trivial, ⟨trivial, ⟨(lowO_pushE (t := 129) (fl := (0, 0)) (treeE_of (fun _ => rfl)) (by decide)), trivial⟩⟩⟩⟩⟩⟩
    have hri : ∀ r ∈ pickL load t.goods 0, i < r.length := fun r h => by have := (hrows.2 r (pick_mem (Int.le_refl _) hpx r h)).1; omega
    have hrx : ∀ x ∈ (pickL load t.goods 0).map (fun r => r.getD i.toNat default), -1000000000 ≤ x ∧ x ≤ 1000000000 := fun x h => by obtain ⟨r, hr, rfl⟩ := List.mem_map.1 h; obtain ⟨a, b⟩ := hrows.2 r (pick_mem (Int.le_refl _) hpx r hr); have := b _ (getD_mem (l := r) i0 (by omega)); omega
    have hrl : ((pickL load t.goods 0).map (fun r => r.getD i.toNat default)).length ≤ 1000 := by rw [List.length_map]; omega
    exact ((ih0 _ (by omega)) (i + 1) (List.set ys i.toNat { stock := List.getD s.stock i.toNat default, use := List.getD t.uses i.toNat default, br := sumL (List.map (fun r => List.getD r i.toNat default) (pickL load t.goods 0)), ships := ships0 days t.gaps }) rfl (by omega) (by (subst hy; exact doneK_set i0 q0))
     (hg0.landM okF hJ mixed_ok (pgoods_s4 B s load days t i ys dJ0)
     (by exact ⟨(by exact (cellsX_set0 (z := 4) (fun _ => rfl) (cellsX_pushE (treeE_of (fun _ => rfl)) (List.Mem.head _)) (by omega) (by exact ⟨(.simple rfl), ⟨(.simple rfl), ⟨(.simple rfl), ⟨(.reg (List.Mem.head _) rfl), trivial⟩⟩⟩⟩))), ⟨(wq_in (by omega) (by omega)), ⟨⟨(by exact rowL_le0 (z := 4) (fun _ => rfl) (by omega) rfl), rfl⟩, ⟨⟨by omega, by omega⟩, ⟨⟨trivial, pSum (List.map (fun r => List.getD r i.toNat default) (pickL load t.goods 0)) (by with_reducible assumption) (by with_reducible assumption)⟩, ⟨⟨by omega, by omega, (rowL_extract (z := 1) (fun _ => rfl) (by omega))⟩, ⟨⟨by omega, by omega, (rowL_extract (z := 1) (fun _ => rfl) (by omega))⟩, ⟨rj0, ⟨(ltq_t q0), trivial⟩⟩⟩⟩⟩⟩⟩⟩⟩) (by kernel_rfl) (by kernel_rfl))).cast (by rfl)
   ·
    have hrl : ((pickL load t.goods 0).map (fun r => r.getD i.toNat default)).length ≤ 1000 := by rw [List.length_map]; omega
    exact (GoE.endsT okF hJ mixed_ok hg0 (pgoods_s5 B s load days t i ys dJ0)
     ⟨(cellsT_pushE (treeE_of (fun _ => rfl)) (List.Mem.head _)), ⟨(ltq_f (Int.not_lt.1 q0)), trivial⟩⟩).cast (by exact row_len (hy.trans (doneK_end (by omega))) (by simp [gdsL, upI_len]))
set_option maxHeartbeats 4000000 in
theorem pgoods_e (s : ShStore) (load days : Int) (t : ShTruth) (hs : storeB s = true) (ht : truthB s days t = true) (hd : 0 ≤ days ∧ days ≤ 300) (h0 : 0 ≤ load) (h1 : load < 64) (hx : lenI load ≤ s.lots.length) {B : Lo} (hJ : ∀ w, B.has w → J0 w) : EndsT Tryz.prog B (entryC Tryz.prog 84 52 (([.agg (encLoaded s load days).toArray, .agg (encTruth t).toArray]).map (pushT 0 4))) (slG (gdsL s load days t)) := by
 have ht' := ht; simp only [truthB, gapsB, Bool.and_eq_true, decide_eq_true_iff, List.all_eq_true, inB_iff] at ht'
 have hgp := store_gap hs
 have hst := store_stock hs
 have hrows := truth_rows hs ht'.2.2
 have hus := (inSpans_facts ht'.1).1
 have hgg : ∀ x ∈ t.gaps, 0 ≤ x ∧ x ≤ 60 := fun x h => by have := ht'.2.1.2.1 x h; omega
 have hgl : t.gaps.length ≤ 300 := ht'.2.1.1
 have hpx : lenI load ≤ t.goods.length := by omega
 have hpl := pick_len (s := load) (n := 0) (xs := t.goods) (Int.le_refl _)
 have hl6 := lenI_le h0 h1
 exact ((pgoods_ls s load days t hs ht hd h0 h1 hx hJ _) (0) (List.replicate s.stock.length { stock := 0, use := 0, br := 0, ships := [] }) rfl (by omega) (by exact doneK_0)
  (GoE.start.landM okF hJ mixed_ok (pgoods_s6 B s load days t)
  (by exact ⟨(by exact (cellsX_zero (by exact ⟨(.simple rfl), ⟨(.simple rfl), ⟨(.simple rfl), ⟨.nil, trivial⟩⟩⟩⟩) _)), ⟨(cMakeL (bytes := 48) (by kernel_rfl) (by omega) (by omega) (by omega)), ⟨⟨trivial, pPickR (load) t.goods (by with_reducible assumption) (by with_reducible assumption) (by with_reducible assumption)⟩, ⟨⟨trivial, pships (s) (load) (days) t.gaps (by with_reducible assumption) (by with_reducible assumption) (by with_reducible assumption)⟩, trivial⟩⟩⟩⟩) (by kernel_rfl) (by kernel_rfl))).cast (by rfl)
theorem pgoods (s : ShStore) (load days : Int) (t : ShTruth) (hs : storeB s = true) (ht : truthB s days t = true) (hd : 0 ≤ days ∧ days ≤ 300) (h0 : 0 ≤ load) (h1 : load < 64) (hx : lenI load ≤ s.lots.length) : PureC Tryz.prog J0 84 #[.agg (encLoaded s load days).toArray, .agg (encTruth t).toArray] (slG (gdsL s load days t)) :=
 pureC_of (ts := [.agg (encLoaded s load days).toArray, .agg (encTruth t).toArray]) J0_st (c0 := entryC Tryz.prog 84 52 (([.agg (encLoaded s load days).toArray, .agg (encTruth t).toArray]).map (pushT 0 4))) (by kernel_rfl) (by kernel_rfl) fun B hJ => pgoods_e s load days t hs ht hd h0 h1 hx hJ
end Go.Proofs.YtiabgkiccaodmaaGreat

namespace Go.Proofs.YtiabgkiccaodmaaGreat
open Go Go.CE Go.RowKit
set_option maxRecDepth 100000
def firstG (g : Gd) : Int := firstD g.use g.br g.ships 0 g.stock
def leftG (g : Gd) : Int := leftD g.use g.br g.ships g.stock
theorem load_facts {s : ShStore} {load : List Int} (hs : storeB s = true) (h : loadB s load = true) : (∀ x ∈ load, 0 ≤ x ∧ x ≤ 61) ∧ 0 ≤ setL load 0 ∧ setL load 0 < 64 ∧ lenI (setL load 0) ≤ s.lots.length := by
 have hm := store_lots hs
 simp only [loadB, Bool.and_eq_true] at h
 have g1 := nums_in h.1 (Int.le_refl 0)
 have g3 := setL_lt (k := s.lots.length) (by omega) load 0 g1 (Int.le_refl 0) (Int.pow_pos (by decide))
 refine ⟨fun x hx => by have := g1 x hx; omega, g3.1, ?_, lenI_lt g3.1 g3.2⟩
 refine Int.lt_of_lt_of_le g3.2 ?_
 have h1 : (2 : Nat) ^ s.lots.length ≤ 2 ^ 6 := Nat.pow_le_pow_right (by decide) (by omega)
 have e : (2 : Int) ^ s.lots.length = ((2 ^ s.lots.length : Nat) : Int) := by rw [Int.natCast_pow]; rfl
 rw [e]; omega
def pEachF_v0 (xs : List Gd) (i : Int) (ys : List Int) : List Value := [Value.func (Fn.func 125) #[] #[], Value.slice (some { block := 2, off := 0 }) xs.length 1, topV 1 (slT xs.length (rowL encGd xs)), .int .i64 (↑xs.length : Int), .int .i64 i]
def pEachF_o0 (xs : List Gd) (i : Int) (ys : List Int) : List Obj := [.cells (rowL encI ys) 3 (0, 0)]
noncomputable def pEachF_t0 : List Item := ([.code [1, 1, 0, 1, 0, 0], .inLoop [1, 1, 0, 1, 0, 0], .inBlock 0, .code [1, 1, 1]]).map (it (bodyOf Tryz.prog 86))
def pEachF_h0 (B : Lo) (c0 : CF) (xs : List Gd) (i : Int) (ys : List Int) : Prop := ∃ dJ : Nat → Value, (∀ t, Loose (dJ t)) ∧ GoE Tryz.prog B c0 H00 1 (headC 86 26 (([1, 5, 11, 12, 13] : List Nat).zip (pEachF_v0 xs i ys)) dJ pEachF_t0) (headH (pEachF_o0 xs i ys)) (2 + (pEachF_o0 xs i ys).length) []
noncomputable def pEachF_z0 (xs : List Gd) (i : Int) : Array Value := #[.int .i64 (Gd.stock (List.getD xs i.toNat default)), .int .i64 (Gd.use (List.getD xs i.toNat default)), .int .i64 (Gd.br (List.getD xs i.toNat default)), slT (List.length (Gd.ships (List.getD xs i.toNat default))) (rowL encB (Gd.ships (List.getD xs i.toNat default)))]
theorem pEachF_s0 (B : Lo) (xs : List Gd) (i : Int) (ys : List Int) (dJ0 : Nat → Value) : landM (srunT Tryz.prog (okFn Tryz.prog) J0 B 13 1 (headC 86 26 (([1, 5, 11, 12, 13] : List Nat).zip (pEachF_v0 xs i ys)) dJ0 pEachF_t0) (headH (pEachF_o0 xs i ys)) (2 + (pEachF_o0 xs i ys).length)
 [(0, hvT), (2, HintT.tidx i.toNat (pEachF_z0 xs i)), (11, HintT.pure (.int .i64 (firstD (Gd.use (List.getD xs i.toNat default)) (Gd.br (List.getD xs i.toNat default)) (Gd.ships (List.getD xs i.toNat default)) 0 (Gd.stock (List.getD xs i.toNat default)))) []), (12, HintT.old (Hint.idx i.toNat)), (13, HintT.old (Hint.st (rowL encI (List.set ys i.toNat (firstD (Gd.use (List.getD xs i.toNat default)) (Gd.br (List.getD xs i.toNat default)) (Gd.ships (List.getD xs i.toNat default)) 0 (Gd.stock (List.getD xs i.toNat default))))))), (14, hvI (i + 1))] 0 [] []) [1, 5, 11, 12, 13] [(2, KS.cells [] (rowL encI (List.set ys i.toNat (firstD (Gd.use (List.getD xs i.toNat default)) (Gd.br (List.getD xs i.toNat default)) (Gd.ships (List.getD xs i.toNat default)) 0 (Gd.stock (List.getD xs i.toNat default))))))] [] = some ⟨86, 26, pEachF_t0, [], .run, none, pEachF_v0 xs (i + 1) (List.set ys i.toNat (firstD (Gd.use (List.getD xs i.toNat default)) (Gd.br (List.getD xs i.toNat default)) (Gd.ships (List.getD xs i.toNat default)) 0 (Gd.stock (List.getD xs i.toNat default)))), pEachF_o0 xs (i + 1) (List.set ys i.toNat (firstD (Gd.use (List.getD xs i.toNat default)) (Gd.br (List.getD xs i.toNat default)) (Gd.ships (List.getD xs i.toNat default)) 0 (Gd.stock (List.getD xs i.toNat default)))),
 [CellsM 1 [] (rowL encI (List.set ys i.toNat (firstD (Gd.use (List.getD xs i.toNat default)) (Gd.br (List.getD xs i.toNat default)) (Gd.ships (List.getD xs i.toNat default)) 0 (Gd.stock (List.getD xs i.toNat default))))) (rowL encI (List.set ys i.toNat (firstD (Gd.use (List.getD xs i.toNat default)) (Gd.br (List.getD xs i.toNat default)) (Gd.ships (List.getD xs i.toNat default)) 0 (Gd.stock (List.getD xs i.toNat default))))), wq (i + 1) = i + 1, 0 + Int.toNat i * 1 + TypeInfo.size Tryz.t3 ≤ Array.size (rowL encI ys) ∧ splice (rowL encI ys) (0 + Int.toNat i * 1) (Value.cells (tget { len := 16000, tr := Tri.set 14 (Tri.set 14 Tri.lf 22 (.int .i64 (firstD (Gd.use (List.getD xs i.toNat default)) (Gd.br (List.getD xs i.toNat default)) (Gd.ships (List.getD xs i.toNat default)) 0 (Gd.stock (List.getD xs i.toNat default))))) 23 (Value.pointer (some { block := 2, off := 0 + Int.toNat i * 1 })) } 22)) = rowL encI (List.set ys i.toNat (firstD (Gd.use (List.getD xs i.toNat default)) (Gd.br (List.getD xs i.toNat default)) (Gd.ships (List.getD xs i.toNat default)) 0 (Gd.stock (List.getD xs i.toNat default)))), i = (↑i.toNat : Int) ∧ Int.toNat i < List.length xs, AllP [] ∧ PureC Tryz.prog J0 125 #[Value.agg (pEachF_z0 xs i)] (.int .i64 (firstD (Gd.use (List.getD xs i.toNat default)) (Gd.br (List.getD xs i.toNat default)) (Gd.ships (List.getD xs i.toNat default)) 0 (Gd.stock (List.getD xs i.toNat default)))), i = (↑i.toNat : Int) ∧ Int.toNat i < List.length xs ∧ Array.extract (rowL encGd xs) (Int.toNat i * TypeInfo.size Tryz.t129) (Int.toNat i * TypeInfo.size Tryz.t129 + TypeInfo.size Tryz.t129) = (pEachF_z0 xs i), ltq i (↑xs.length : Int) = true]⟩ := by kernel_rfl
theorem pEachF_s1 (B : Lo) (xs : List Gd) (i : Int) (ys : List Int) (dJ0 : Nat → Value) : endT (srunT Tryz.prog (okFn Tryz.prog) J0 B 9 1 (headC 86 26 (([1, 5, 11, 12, 13] : List Nat).zip (pEachF_v0 xs i ys)) dJ0 pEachF_t0) (headH (pEachF_o0 xs i ys)) (2 + (pEachF_o0 xs i ys).length)
 [(0, hvF)] 0 [] []) [{ k := 2, rs := [], cs := rowL encI ys }] = some (slT xs.length (Fz.cs { k := 2, rs := [], cs := rowL encI ys }),
 [CellsT (Fz.rs { k := 2, rs := [], cs := rowL encI ys }) (rowL encI ys) (Fz.cs { k := 2, rs := [], cs := rowL encI ys }), ltq i (↑xs.length : Int) = false]) := by kernel_rfl
theorem pEachF_s2 (B : Lo) (xs : List Gd) : landM (srunT Tryz.prog (okFn Tryz.prog) J0 B 9 1 (entryC Tryz.prog 86 26 (([slG xs, .func (.func 125) #[] #[]]).map (pushT 0 4))) H00 1
 [(3, HintT.old (Hint.mk xs.length (rowL (zeroE [.int .i64 0]) (List.replicate xs.length ()))))] 0 [] []) [1, 5, 11, 12, 13] [(1, KS.rows [] [] (rowL encI (List.replicate xs.length 0)))] [] = some ⟨86, 26, pEachF_t0, [], .run, none, pEachF_v0 xs (0) (List.replicate xs.length 0), pEachF_o0 xs (0) (List.replicate xs.length 0),
 [CellsX 1 [] [] (rowL (zeroE [.int .i64 0]) (List.replicate xs.length ())) (rowL encI (List.replicate xs.length 0)), cMake Tryz.prog 22 (tget { len := 16000, tr := Tri.set 14 Tri.lf 9 (.int .i64 (↑xs.length : Int)) } 9) (tget { len := 16000, tr := Tri.set 14 Tri.lf 9 (.int .i64 (↑xs.length : Int)) } 9) = some (3, rowL (zeroE [.int .i64 0]) (List.replicate xs.length ()), List.length xs, TypeInfo.size Tryz.t3)]⟩ := by kernel_rfl
set_option maxHeartbeats 4000000 in
theorem pEachF_ls (xs : List Gd) (hn : xs.length ≤ 1000000) (hg : ∀ g ∈ xs, gdB g) {B : Lo} (hJ : ∀ w, B.has w → J0 w) {c0 : CF} : ∀ m : Nat, (∀ (i : Int) (ys : List Int), (xs.length - i.toNat) = m → ∀ (h0 : 0 ≤ i) (hy : ys = doneL firstG 0 xs i), pEachF_h0 B c0 xs i ys → EndsT Tryz.prog B c0 (slI (xs.map firstG))) := by
 intro m0
 induction m0 using Nat.strongRecOn with
 | _ m0 ih0 =>
   intro i ys hm0 h0 hy ⟨dJ0, hdJ0, hg0⟩
   have hyl : ys.length = xs.length := by rw [hy]; exact doneL_len
   by_cases q0 : (i : Int) < ((↑xs.length : Int))
   ·
    have hgi := hg _ (getD_mem h0 q0)
    exact ((ih0 _ (by omega)) (i + 1) (List.set ys i.toNat (firstD (Gd.use (List.getD xs i.toNat default)) (Gd.br (List.getD xs i.toNat default)) (Gd.ships (List.getD xs i.toNat default)) 0 (Gd.stock (List.getD xs i.toNat default)))) rfl (by omega) (by (subst hy; exact doneL_set (f := firstG) h0 q0))
     (hg0.landM okF hJ mixed_ok (pEachF_s0 B xs i ys dJ0)
     ⟨(cellsM_simple (rowL_simple (fun x => List.all_eq_true.1 (by rfl)))), ⟨(wq_in (by omega) (by omega)), ⟨(by exact rowL_st0 (z := 1) (fun _ => rfl) (by omega) rfl rfl), ⟨⟨by omega, by omega⟩, ⟨⟨trivial, pfirstDay (List.getD xs i.toNat default) (by with_reducible assumption)⟩, ⟨⟨by omega, by omega, (rowL_extract (z := 4) (fun _ => rfl) (by omega))⟩, ⟨(ltq_t q0), trivial⟩⟩⟩⟩⟩⟩⟩ (by kernel_rfl) (by kernel_rfl))).cast (by rfl)
   ·
    exact (GoE.endsT okF hJ mixed_ok hg0 (pEachF_s1 B xs i ys dJ0)
     ⟨(rowL_cellsT (fun x => List.all_eq_true.1 (by rfl))), ⟨(ltq_f (Int.not_lt.1 q0)), trivial⟩⟩).cast (by exact row_len (hy.trans (doneL_end (by omega))) (by simp))
set_option maxHeartbeats 4000000 in
theorem pEachF_e (xs : List Gd) (hn : xs.length ≤ 1000000) (hg : ∀ g ∈ xs, gdB g) {B : Lo} (hJ : ∀ w, B.has w → J0 w) : EndsT Tryz.prog B (entryC Tryz.prog 86 26 (([slG xs, .func (.func 125) #[] #[]]).map (pushT 0 4))) (slI (xs.map firstG)) := by
 exact ((pEachF_ls xs hn hg hJ _) (0) (List.replicate xs.length 0) rfl (by omega) (by exact doneL_0)
  (GoE.start.landM okF hJ mixed_ok (pEachF_s2 B xs)
  ⟨(by exact (cellsX_zero (by exact ⟨(.simple rfl), trivial⟩) _)), ⟨(cMakeL (bytes := 8) (by kernel_rfl) (by omega) (by omega) (by omega)), trivial⟩⟩ (by kernel_rfl) (by kernel_rfl))).cast (by rfl)
theorem pEachF (xs : List Gd) (hn : xs.length ≤ 1000000) (hg : ∀ g ∈ xs, gdB g) : PureC Tryz.prog J0 86 #[slG xs, .func (.func 125) #[] #[]] (slI (xs.map firstG)) :=
 pureC_of (ts := [slG xs, .func (.func 125) #[] #[]]) J0_st (c0 := entryC Tryz.prog 86 26 (([slG xs, .func (.func 125) #[] #[]]).map (pushT 0 4))) (by kernel_rfl) (by kernel_rfl) fun B hJ => pEachF_e xs hn hg hJ
def pEachL_v0 (xs : List Gd) (i : Int) (ys : List Int) : List Value := [Value.func (Fn.func 87) #[] #[], Value.slice (some { block := 2, off := 0 }) xs.length 1, topV 1 (slT xs.length (rowL encGd xs)), .int .i64 (↑xs.length : Int), .int .i64 i]
def pEachL_o0 (xs : List Gd) (i : Int) (ys : List Int) : List Obj := [.cells (rowL encI ys) 3 (0, 0)]
noncomputable def pEachL_t0 : List Item := ([.code [1, 1, 0, 1, 0, 0], .inLoop [1, 1, 0, 1, 0, 0], .inBlock 0, .code [1, 1, 1]]).map (it (bodyOf Tryz.prog 86))
def pEachL_h0 (B : Lo) (c0 : CF) (xs : List Gd) (i : Int) (ys : List Int) : Prop := ∃ dJ : Nat → Value, (∀ t, Loose (dJ t)) ∧ GoE Tryz.prog B c0 H00 1 (headC 86 26 (([1, 5, 11, 12, 13] : List Nat).zip (pEachL_v0 xs i ys)) dJ pEachL_t0) (headH (pEachL_o0 xs i ys)) (2 + (pEachL_o0 xs i ys).length) []
noncomputable def pEachL_z0 (xs : List Gd) (i : Int) : Array Value := #[.int .i64 (Gd.stock (List.getD xs i.toNat default)), .int .i64 (Gd.use (List.getD xs i.toNat default)), .int .i64 (Gd.br (List.getD xs i.toNat default)), slT (List.length (Gd.ships (List.getD xs i.toNat default))) (rowL encB (Gd.ships (List.getD xs i.toNat default)))]
theorem pEachL_s0 (B : Lo) (xs : List Gd) (i : Int) (ys : List Int) (dJ0 : Nat → Value) : landM (srunT Tryz.prog (okFn Tryz.prog) J0 B 13 1 (headC 86 26 (([1, 5, 11, 12, 13] : List Nat).zip (pEachL_v0 xs i ys)) dJ0 pEachL_t0) (headH (pEachL_o0 xs i ys)) (2 + (pEachL_o0 xs i ys).length)
 [(0, hvT), (2, HintT.tidx i.toNat (pEachL_z0 xs i)), (11, HintT.pure (.int .i64 (leftD (Gd.use (List.getD xs i.toNat default)) (Gd.br (List.getD xs i.toNat default)) (Gd.ships (List.getD xs i.toNat default)) (Gd.stock (List.getD xs i.toNat default)))) []), (12, HintT.old (Hint.idx i.toNat)), (13, HintT.old (Hint.st (rowL encI (List.set ys i.toNat (leftD (Gd.use (List.getD xs i.toNat default)) (Gd.br (List.getD xs i.toNat default)) (Gd.ships (List.getD xs i.toNat default)) (Gd.stock (List.getD xs i.toNat default))))))), (14, hvI (i + 1))] 0 [] []) [1, 5, 11, 12, 13] [(2, KS.cells [] (rowL encI (List.set ys i.toNat (leftD (Gd.use (List.getD xs i.toNat default)) (Gd.br (List.getD xs i.toNat default)) (Gd.ships (List.getD xs i.toNat default)) (Gd.stock (List.getD xs i.toNat default))))))] [] = some ⟨86, 26, pEachL_t0, [], .run, none, pEachL_v0 xs (i + 1) (List.set ys i.toNat (leftD (Gd.use (List.getD xs i.toNat default)) (Gd.br (List.getD xs i.toNat default)) (Gd.ships (List.getD xs i.toNat default)) (Gd.stock (List.getD xs i.toNat default)))), pEachL_o0 xs (i + 1) (List.set ys i.toNat (leftD (Gd.use (List.getD xs i.toNat default)) (Gd.br (List.getD xs i.toNat default)) (Gd.ships (List.getD xs i.toNat default)) (Gd.stock (List.getD xs i.toNat default)))),
 [CellsM 1 [] (rowL encI (List.set ys i.toNat (leftD (Gd.use (List.getD xs i.toNat default)) (Gd.br (List.getD xs i.toNat default)) (Gd.ships (List.getD xs i.toNat default)) (Gd.stock (List.getD xs i.toNat default))))) (rowL encI (List.set ys i.toNat (leftD (Gd.use (List.getD xs i.toNat default)) (Gd.br (List.getD xs i.toNat default)) (Gd.ships (List.getD xs i.toNat default)) (Gd.stock (List.getD xs i.toNat default))))), wq (i + 1) = i + 1, 0 + Int.toNat i * 1 + TypeInfo.size Tryz.t3 ≤ Array.size (rowL encI ys) ∧ splice (rowL encI ys) (0 + Int.toNat i * 1) (Value.cells (tget { len := 16000, tr := Tri.set 14 (Tri.set 14 Tri.lf 22 (.int .i64 (leftD (Gd.use (List.getD xs i.toNat default)) (Gd.br (List.getD xs i.toNat default)) (Gd.ships (List.getD xs i.toNat default)) (Gd.stock (List.getD xs i.toNat default))))) 23 (Value.pointer (some { block := 2, off := 0 + Int.toNat i * 1 })) } 22)) = rowL encI (List.set ys i.toNat (leftD (Gd.use (List.getD xs i.toNat default)) (Gd.br (List.getD xs i.toNat default)) (Gd.ships (List.getD xs i.toNat default)) (Gd.stock (List.getD xs i.toNat default)))), i = (↑i.toNat : Int) ∧ Int.toNat i < List.length xs, AllP [] ∧ PureC Tryz.prog J0 87 #[Value.agg (pEachL_z0 xs i)] (.int .i64 (leftD (Gd.use (List.getD xs i.toNat default)) (Gd.br (List.getD xs i.toNat default)) (Gd.ships (List.getD xs i.toNat default)) (Gd.stock (List.getD xs i.toNat default)))), i = (↑i.toNat : Int) ∧ Int.toNat i < List.length xs ∧ Array.extract (rowL encGd xs) (Int.toNat i * TypeInfo.size Tryz.t129) (Int.toNat i * TypeInfo.size Tryz.t129 + TypeInfo.size Tryz.t129) = (pEachL_z0 xs i), ltq i (↑xs.length : Int) = true]⟩ := by kernel_rfl
theorem pEachL_s1 (B : Lo) (xs : List Gd) (i : Int) (ys : List Int) (dJ0 : Nat → Value) : endT (srunT Tryz.prog (okFn Tryz.prog) J0 B 9 1 (headC 86 26 (([1, 5, 11, 12, 13] : List Nat).zip (pEachL_v0 xs i ys)) dJ0 pEachL_t0) (headH (pEachL_o0 xs i ys)) (2 + (pEachL_o0 xs i ys).length)
 [(0, hvF)] 0 [] []) [{ k := 2, rs := [], cs := rowL encI ys }] = some (slT xs.length (Fz.cs { k := 2, rs := [], cs := rowL encI ys }),
 [CellsT (Fz.rs { k := 2, rs := [], cs := rowL encI ys }) (rowL encI ys) (Fz.cs { k := 2, rs := [], cs := rowL encI ys }), ltq i (↑xs.length : Int) = false]) := by kernel_rfl
theorem pEachL_s2 (B : Lo) (xs : List Gd) : landM (srunT Tryz.prog (okFn Tryz.prog) J0 B 9 1 (entryC Tryz.prog 86 26 (([slG xs, .func (.func 87) #[] #[]]).map (pushT 0 4))) H00 1
 [(3, HintT.old (Hint.mk xs.length (rowL (zeroE [.int .i64 0]) (List.replicate xs.length ()))))] 0 [] []) [1, 5, 11, 12, 13] [(1, KS.rows [] [] (rowL encI (List.replicate xs.length 0)))] [] = some ⟨86, 26, pEachL_t0, [], .run, none, pEachL_v0 xs (0) (List.replicate xs.length 0), pEachL_o0 xs (0) (List.replicate xs.length 0),
 [CellsX 1 [] [] (rowL (zeroE [.int .i64 0]) (List.replicate xs.length ())) (rowL encI (List.replicate xs.length 0)), cMake Tryz.prog 22 (tget { len := 16000, tr := Tri.set 14 Tri.lf 9 (.int .i64 (↑xs.length : Int)) } 9) (tget { len := 16000, tr := Tri.set 14 Tri.lf 9 (.int .i64 (↑xs.length : Int)) } 9) = some (3, rowL (zeroE [.int .i64 0]) (List.replicate xs.length ()), List.length xs, TypeInfo.size Tryz.t3)]⟩ := by kernel_rfl
set_option maxHeartbeats 4000000 in
theorem pEachL_ls (xs : List Gd) (hn : xs.length ≤ 1000000) (hg : ∀ g ∈ xs, gdB g) {B : Lo} (hJ : ∀ w, B.has w → J0 w) {c0 : CF} : ∀ m : Nat, (∀ (i : Int) (ys : List Int), (xs.length - i.toNat) = m → ∀ (h0 : 0 ≤ i) (hy : ys = doneL leftG 0 xs i), pEachL_h0 B c0 xs i ys → EndsT Tryz.prog B c0 (slI (xs.map leftG))) := by
 intro m0
 induction m0 using Nat.strongRecOn with
 | _ m0 ih0 =>
   intro i ys hm0 h0 hy ⟨dJ0, hdJ0, hg0⟩
   have hyl : ys.length = xs.length := by rw [hy]; exact doneL_len
   by_cases q0 : (i : Int) < ((↑xs.length : Int))
   ·
    have hgi := hg _ (getD_mem h0 q0)
    exact ((ih0 _ (by omega)) (i + 1) (List.set ys i.toNat (leftD (Gd.use (List.getD xs i.toNat default)) (Gd.br (List.getD xs i.toNat default)) (Gd.ships (List.getD xs i.toNat default)) (Gd.stock (List.getD xs i.toNat default)))) rfl (by omega) (by (subst hy; exact doneL_set (f := leftG) h0 q0))
     (hg0.landM okF hJ mixed_ok (pEachL_s0 B xs i ys dJ0)
     ⟨(cellsM_simple (rowL_simple (fun x => List.all_eq_true.1 (by rfl)))), ⟨(wq_in (by omega) (by omega)), ⟨(by exact rowL_st0 (z := 1) (fun _ => rfl) (by omega) rfl rfl), ⟨⟨by omega, by omega⟩, ⟨⟨trivial, pleft (List.getD xs i.toNat default) (by with_reducible assumption)⟩, ⟨⟨by omega, by omega, (rowL_extract (z := 4) (fun _ => rfl) (by omega))⟩, ⟨(ltq_t q0), trivial⟩⟩⟩⟩⟩⟩⟩ (by kernel_rfl) (by kernel_rfl))).cast (by rfl)
   ·
    exact (GoE.endsT okF hJ mixed_ok hg0 (pEachL_s1 B xs i ys dJ0)
     ⟨(rowL_cellsT (fun x => List.all_eq_true.1 (by rfl))), ⟨(ltq_f (Int.not_lt.1 q0)), trivial⟩⟩).cast (by exact row_len (hy.trans (doneL_end (by omega))) (by simp))
set_option maxHeartbeats 4000000 in
theorem pEachL_e (xs : List Gd) (hn : xs.length ≤ 1000000) (hg : ∀ g ∈ xs, gdB g) {B : Lo} (hJ : ∀ w, B.has w → J0 w) : EndsT Tryz.prog B (entryC Tryz.prog 86 26 (([slG xs, .func (.func 87) #[] #[]]).map (pushT 0 4))) (slI (xs.map leftG)) := by
 exact ((pEachL_ls xs hn hg hJ _) (0) (List.replicate xs.length 0) rfl (by omega) (by exact doneL_0)
  (GoE.start.landM okF hJ mixed_ok (pEachL_s2 B xs)
  ⟨(by exact (cellsX_zero (by exact ⟨(.simple rfl), trivial⟩) _)), ⟨(cMakeL (bytes := 8) (by kernel_rfl) (by omega) (by omega) (by omega)), trivial⟩⟩ (by kernel_rfl) (by kernel_rfl))).cast (by rfl)
theorem pEachL (xs : List Gd) (hn : xs.length ≤ 1000000) (hg : ∀ g ∈ xs, gdB g) : PureC Tryz.prog J0 86 #[slG xs, .func (.func 87) #[] #[]] (slI (xs.map leftG)) :=
 pureC_of (ts := [slG xs, .func (.func 87) #[] #[]]) J0_st (c0 := entryC Tryz.prog 86 26 (([slG xs, .func (.func 87) #[] #[]]).map (pushT 0 4))) (by kernel_rfl) (by kernel_rfl) fun B hJ => pEachL_e xs hn hg hJ
theorem pfirstDays_s0 (B : Lo) (xs : List Gd) : endT (srunT Tryz.prog (okFn Tryz.prog) J0 B 6 1 (entryC Tryz.prog 85 5 (([slG xs]).map (pushT 0 4))) H00 1
 [(2, HintT.pure (slT (List.length (List.map firstG xs)) (rowL encI (List.map firstG xs))) [])] 0 [] []) [] = some (slT (List.length (List.map firstG xs)) (rowL encI (List.map firstG xs)),
 [AllP [] ∧ PureC Tryz.prog J0 86 #[slT xs.length (rowL encGd xs), Value.func (Fn.func 125) #[] #[]] (slT (List.length (List.map firstG xs)) (rowL encI (List.map firstG xs)))]) := by kernel_rfl
set_option maxHeartbeats 4000000 in
theorem pfirstDays_e (xs : List Gd) (hn : xs.length ≤ 1000000) (hg : ∀ g ∈ xs, gdB g) {B : Lo} (hJ : ∀ w, B.has w → J0 w) : EndsT Tryz.prog B (entryC Tryz.prog 85 5 (([slG xs]).map (pushT 0 4))) (slI (xs.map firstG)) := by
 exact (GoE.endsT okF hJ mixed_ok GoE.start (pfirstDays_s0 B xs)
  ⟨⟨trivial, pEachF (xs) (by with_reducible assumption) (by with_reducible assumption)⟩, trivial⟩).cast (by rfl)
theorem pfirstDays (xs : List Gd) (hn : xs.length ≤ 1000000) (hg : ∀ g ∈ xs, gdB g) : PureC Tryz.prog J0 85 #[slG xs] (slI (xs.map firstG)) :=
 pureC_of (ts := [slG xs]) J0_st (c0 := entryC Tryz.prog 85 5 (([slG xs]).map (pushT 0 4))) (by kernel_rfl) (by kernel_rfl) fun B hJ => pfirstDays_e xs hn hg hJ
noncomputable def pPlay_z0 (s : ShStore) (load : List Int) (days : Int) : Array Value := #[slT s.stock.length (rowL encI s.stock), slT s.use.length (rowL encSp s.use), .int .i64 s.glo, .int .i64 s.ghi, slT s.lots.length (rowL encLot s.lots), .int .i64 s.hold, .int .i64 (setL load 0), .int .i64 days]
noncomputable def pPlay_z1 (s : ShStore) : Array Value := #[slT s.stock.length (rowL encI s.stock), slT s.use.length (rowL encSp s.use), .int .i64 s.glo, .int .i64 s.ghi, slT s.lots.length (rowL encLot s.lots), .int .i64 s.hold]
noncomputable def pPlay_z2 (t : ShTruth) : Array Value := #[slT t.uses.length (rowL encI t.uses), slT t.gaps.length (rowL encI t.gaps), slT t.goods.length (rowL encRow t.goods)]
noncomputable def pPlay_p0 (B : Lo) (s : ShStore) (load : List Int) (days : Int) (t : ShTruth) : List Prop := [AllP [] ∧ PureC Tryz.prog J0 79 #[Value.agg (pPlay_z1 s)] (Value.bool true)] ++ ([] : List Prop)
noncomputable def pPlay_q0 (s : ShStore) (load : List Int) (days : Int) (t : ShTruth) : ScriptT := [(6, HintT.pure (Value.bool true) [])]
noncomputable def pPlay_p1 (B : Lo) (s : ShStore) (load : List Int) (days : Int) (t : ShTruth) : List Prop := [AllP [] ∧ PureC Tryz.prog J0 80 #[Value.agg (pPlay_z1 s), slT load.length (rowL encI load)] (Value.bool true)] ++ pPlay_p0 B s load days t
noncomputable def pPlay_q1 (s : ShStore) (load : List Int) (days : Int) (t : ShTruth) : ScriptT := pPlay_q0 s load days t ++ [(11, HintT.pure (Value.bool true) [])]
noncomputable def pPlay_p2 (B : Lo) (s : ShStore) (load : List Int) (days : Int) (t : ShTruth) : List Prop := [AllP [] ∧ PureC Tryz.prog J0 81 #[.int .i64 days] (Value.bool true)] ++ pPlay_p1 B s load days t
noncomputable def pPlay_q2 (s : ShStore) (load : List Int) (days : Int) (t : ShTruth) : ScriptT := pPlay_q1 s load days t ++ [(16, HintT.pure (Value.bool true) [])]
theorem pPlay_s0 (B : Lo) (s : ShStore) (load : List Int) (days : Int) (t : ShTruth) : endT (srunT Tryz.prog (okFn Tryz.prog) J0 B 13 1 (entryC Tryz.prog 38 43 (([.agg (encStore s).toArray, slI load, .int .i64 days, .agg (encTruth t).toArray]).map (pushT 0 4))) H00 1
 (pPlay_q2 s load days t ++ [(23, HintT.pure (Value.bool true) []), (29, HintT.pure (Value.agg (pPlay_z0 s load days)) []), (31, HintT.pure (slT (List.length (gdsL s (setL load 0) days t)) (rowL encGd (gdsL s (setL load 0) days t))) []), (34, HintT.pure (slT (List.length (List.map firstG (gdsL s (setL load 0) days t))) (rowL encI (List.map firstG (gdsL s (setL load 0) days t)))) []), (36, HintT.pure (slT (List.length (List.map leftG (gdsL s (setL load 0) days t))) (rowL encI (List.map leftG (gdsL s (setL load 0) days t)))) [])]) 0 [] []) [] = some (Value.tuple #[slT (List.length (List.map firstG (gdsL s (setL load 0) days t))) (rowL encI (List.map firstG (gdsL s (setL load 0) days t))), slT (List.length (List.map leftG (gdsL s (setL load 0) days t))) (rowL encI (List.map leftG (gdsL s (setL load 0) days t))), .int .i64 0],
 [AllP [] ∧ PureC Tryz.prog J0 86 #[slT (List.length (gdsL s (setL load 0) days t)) (rowL encGd (gdsL s (setL load 0) days t)), Value.func (Fn.func 87) #[] #[]] (slT (List.length (List.map leftG (gdsL s (setL load 0) days t))) (rowL encI (List.map leftG (gdsL s (setL load 0) days t)))), AllP [] ∧ PureC Tryz.prog J0 85 #[slT (List.length (gdsL s (setL load 0) days t)) (rowL encGd (gdsL s (setL load 0) days t))] (slT (List.length (List.map firstG (gdsL s (setL load 0) days t))) (rowL encI (List.map firstG (gdsL s (setL load 0) days t)))), AllP [] ∧ PureC Tryz.prog J0 84 #[Value.agg (pPlay_z0 s load days), Value.agg (pPlay_z2 t)] (slT (List.length (gdsL s (setL load 0) days t)) (rowL encGd (gdsL s (setL load 0) days t))), AllP [] ∧ PureC Tryz.prog J0 83 #[Value.agg (pPlay_z1 s), slT load.length (rowL encI load), .int .i64 days] (Value.agg (pPlay_z0 s load days)), AllP [] ∧ PureC Tryz.prog J0 82 #[Value.agg (pPlay_z1 s), .int .i64 days, Value.agg (pPlay_z2 t)] (Value.bool true)] ++ pPlay_p2 B s load days t) := by kernel_rfl
theorem pPlay_s1 (B : Lo) (s : ShStore) (load : List Int) (days : Int) (t : ShTruth) : endT (srunT Tryz.prog (okFn Tryz.prog) J0 B 10 1 (entryC Tryz.prog 38 43 (([.agg (encStore s).toArray, slI load, .int .i64 days, .agg (encTruth t).toArray]).map (pushT 0 4))) H00 1
 (pPlay_q2 s load days t ++ [(23, HintT.pure (Value.bool false) [])]) 0 [] []) [] = some (Value.tuple #[slT 0 #[], slT 0 #[], .int .i64 2],
 [AllP [] ∧ PureC Tryz.prog J0 82 #[Value.agg (pPlay_z1 s), .int .i64 days, Value.agg (pPlay_z2 t)] (Value.bool false)] ++ pPlay_p2 B s load days t) := by kernel_rfl
theorem pPlay_s2 (B : Lo) (s : ShStore) (load : List Int) (days : Int) (t : ShTruth) : endT (srunT Tryz.prog (okFn Tryz.prog) J0 B 10 1 (entryC Tryz.prog 38 43 (([.agg (encStore s).toArray, slI load, .int .i64 days, .agg (encTruth t).toArray]).map (pushT 0 4))) H00 1
 (pPlay_q1 s load days t ++ [(16, HintT.pure (Value.bool false) [])]) 0 [] []) [] = some (Value.tuple #[slT 0 #[], slT 0 #[], .int .i64 2],
 [AllP [] ∧ PureC Tryz.prog J0 81 #[.int .i64 days] (Value.bool false)] ++ pPlay_p1 B s load days t) := by kernel_rfl
theorem pPlay_s3 (B : Lo) (s : ShStore) (load : List Int) (days : Int) (t : ShTruth) : endT (srunT Tryz.prog (okFn Tryz.prog) J0 B 10 1 (entryC Tryz.prog 38 43 (([.agg (encStore s).toArray, slI load, .int .i64 days, .agg (encTruth t).toArray]).map (pushT 0 4))) H00 1
 (pPlay_q0 s load days t ++ [(11, HintT.pure (Value.bool false) [])]) 0 [] []) [] = some (Value.tuple #[slT 0 #[], slT 0 #[], .int .i64 2],
 [AllP [] ∧ PureC Tryz.prog J0 80 #[Value.agg (pPlay_z1 s), slT load.length (rowL encI load)] (Value.bool false)] ++ pPlay_p0 B s load days t) := by kernel_rfl
theorem pPlay_s4 (B : Lo) (s : ShStore) (load : List Int) (days : Int) (t : ShTruth) : endT (srunT Tryz.prog (okFn Tryz.prog) J0 B 10 1 (entryC Tryz.prog 38 43 (([.agg (encStore s).toArray, slI load, .int .i64 days, .agg (encTruth t).toArray]).map (pushT 0 4))) H00 1
 [(6, HintT.pure (Value.bool false) [])] 0 [] []) [] = some (Value.tuple #[slT 0 #[], slT 0 #[], .int .i64 2],
 [AllP [] ∧ PureC Tryz.prog J0 79 #[Value.agg (pPlay_z1 s)] (Value.bool false)]) := by kernel_rfl
set_option maxHeartbeats 4000000 in
theorem pPlay_e (s : ShStore) (load : List Int) (days : Int) (t : ShTruth)  {B : Lo} (hJ : ∀ w, B.has w → J0 w) : EndsT Tryz.prog B (entryC Tryz.prog 38 43 (([.agg (encStore s).toArray, slI load, .int .i64 days, .agg (encTruth t).toArray]).map (pushT 0 4))) (.tuple #[if storeB s && (loadB s load && (inB days 0 300 && truthB s days t)) then slI ((gdsL s (setL load 0) days t).map firstG) else slI [], if storeB s && (loadB s load && (inB days 0 300 && truthB s days t)) then slI ((gdsL s (setL load 0) days t).map leftG) else slI [], .int .i64 (if storeB s && (loadB s load && (inB days 0 300 && truthB s days t)) then 0 else 2)]) := by
 cases q0 : storeB s with
 | true =>
   have hp0 : AllP (pPlay_p0 B s load days t) := by
    have g4 : (gdsL s (setL load 0) days t).length ≤ 1000000 := by simp only [gdsL, List.length_map, upI_len]; have := (store_stock ‹storeB s = true›).1; omega
    exact ⟨⟨trivial, (by have t_ := pisStore (s); rw [q0] at t_; exact t_)⟩, trivial⟩
   cases q1 : loadB s load with
   | true =>
     have hp1 : AllP (pPlay_p1 B s load days t) := by
      have g1 := load_facts ‹storeB s = true› ‹loadB s load = true›
      have g4 : (gdsL s (setL load 0) days t).length ≤ 1000000 := by simp only [gdsL, List.length_map, upI_len]; have := (store_stock ‹storeB s = true›).1; omega
      have g5 := g1.1
      have g6 := g1.2.2.1
      have g7 := g1.2.2.2
      have g8 := g1.2.1
      exact ⟨⟨trivial, (by have t_ := pisLoad (s) (load) (by with_reducible assumption); rw [q1] at t_; exact t_)⟩, hp0⟩
     cases q2 : inB days 0 300 with
     | true =>
       have hp2 : AllP (pPlay_p2 B s load days t) := by
        have g1 := load_facts ‹storeB s = true› ‹loadB s load = true›
        have g2 := inB_iff.1 ‹inB days 0 300 = true›
        have g4 : (gdsL s (setL load 0) days t).length ≤ 1000000 := by simp only [gdsL, List.length_map, upI_len]; have := (store_stock ‹storeB s = true›).1; omega
        have g5 := g1.1
        have g6 := g1.2.2.1
        have g7 := g1.2.2.2
        have g8 := g1.2.1
        exact ⟨⟨trivial, (by have t_ := pareDays (days); rw [q2] at t_; exact t_)⟩, hp1⟩
       cases q3 : truthB s days t with
       | true =>
         have g1 := load_facts ‹storeB s = true› ‹loadB s load = true›
         have g2 := inB_iff.1 ‹inB days 0 300 = true›
         have g3 := gd_ok (load := setL load 0) ‹storeB s = true› ‹truthB s days t = true› g2 g1.2.1 g1.2.2.1 g1.2.2.2
         have g4 : (gdsL s (setL load 0) days t).length ≤ 1000000 := by simp only [gdsL, List.length_map, upI_len]; have := (store_stock ‹storeB s = true›).1; omega
         have g5 := g1.1
         have g6 := g1.2.2.1
         have g7 := g1.2.2.2
         have g8 := g1.2.1
         exact (GoE.endsT okF hJ mixed_ok GoE.start (pPlay_s0 B s load days t)
          ⟨⟨trivial, pEachL (gdsL s (setL load 0) days t) (by with_reducible assumption) (by with_reducible assumption)⟩, ⟨⟨trivial, pfirstDays (gdsL s (setL load 0) days t) (by with_reducible assumption) (by with_reducible assumption)⟩, ⟨⟨trivial, pgoods (s) (setL load 0) (days) (t) (by with_reducible assumption) (by with_reducible assumption) (by with_reducible assumption) (by with_reducible assumption) (by with_reducible assumption) (by with_reducible assumption)⟩, ⟨⟨trivial, pwithLoad (s) (load) (days) (by with_reducible assumption)⟩, ⟨⟨trivial, (by have t_ := pisTruth (s) (days) (t) (by with_reducible assumption); rw [q3] at t_; exact t_)⟩, hp2⟩⟩⟩⟩⟩).cast (by rfl)
       | false =>
         have g1 := load_facts ‹storeB s = true› ‹loadB s load = true›
         have g2 := inB_iff.1 ‹inB days 0 300 = true›
         have g4 : (gdsL s (setL load 0) days t).length ≤ 1000000 := by simp only [gdsL, List.length_map, upI_len]; have := (store_stock ‹storeB s = true›).1; omega
         have g5 := g1.1
         have g6 := g1.2.2.1
         have g7 := g1.2.2.2
         have g8 := g1.2.1
         exact (GoE.endsT okF hJ mixed_ok GoE.start (pPlay_s1 B s load days t)
          ⟨⟨trivial, (by have t_ := pisTruth (s) (days) (t) (by with_reducible assumption); rw [q3] at t_; exact t_)⟩, hp2⟩).cast (by rfl)
     | false =>
       have g1 := load_facts ‹storeB s = true› ‹loadB s load = true›
       have g4 : (gdsL s (setL load 0) days t).length ≤ 1000000 := by simp only [gdsL, List.length_map, upI_len]; have := (store_stock ‹storeB s = true›).1; omega
       have g5 := g1.1
       have g6 := g1.2.2.1
       have g7 := g1.2.2.2
       have g8 := g1.2.1
       exact (GoE.endsT okF hJ mixed_ok GoE.start (pPlay_s2 B s load days t)
        ⟨⟨trivial, (by have t_ := pareDays (days); rw [q2] at t_; exact t_)⟩, hp1⟩).cast (by rfl)
   | false =>
     have g4 : (gdsL s (setL load 0) days t).length ≤ 1000000 := by simp only [gdsL, List.length_map, upI_len]; have := (store_stock ‹storeB s = true›).1; omega
     exact (GoE.endsT okF hJ mixed_ok GoE.start (pPlay_s3 B s load days t)
      ⟨⟨trivial, (by have t_ := pisLoad (s) (load) (by with_reducible assumption); rw [q1] at t_; exact t_)⟩, hp0⟩).cast (by rfl)
 | false =>
   exact (GoE.endsT okF hJ mixed_ok GoE.start (pPlay_s4 B s load days t)
    ⟨⟨trivial, (by have t_ := pisStore (s); rw [q0] at t_; exact t_)⟩, trivial⟩).cast (by rfl)
theorem pPlay (s : ShStore) (load : List Int) (days : Int) (t : ShTruth)  : PureC Tryz.prog J0 38 #[.agg (encStore s).toArray, slI load, .int .i64 days, .agg (encTruth t).toArray] (.tuple #[if storeB s && (loadB s load && (inB days 0 300 && truthB s days t)) then slI ((gdsL s (setL load 0) days t).map firstG) else slI [], if storeB s && (loadB s load && (inB days 0 300 && truthB s days t)) then slI ((gdsL s (setL load 0) days t).map leftG) else slI [], .int .i64 (if storeB s && (loadB s load && (inB days 0 300 && truthB s days t)) then 0 else 2)]) :=
 pureC_of (ts := [.agg (encStore s).toArray, slI load, .int .i64 days, .agg (encTruth t).toArray]) J0_st (c0 := entryC Tryz.prog 38 43 (([.agg (encStore s).toArray, slI load, .int .i64 days, .agg (encTruth t).toArray]).map (pushT 0 4))) (by kernel_rfl) (by kernel_rfl) fun B hJ => pPlay_e s load days t  hJ
end Go.Proofs.YtiabgkiccaodmaaGreat

