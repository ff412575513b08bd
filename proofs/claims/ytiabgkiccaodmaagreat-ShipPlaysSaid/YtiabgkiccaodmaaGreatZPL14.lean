/- The reference's stores, loads and truths. -/
import Derived.Test.YtiabgkiccaodmaaGreatZPL13
set_option linter.all false
namespace Go.Proofs.YtiabgkiccaodmaaGreat
open Go Go.CE Go.RowKit
set_option maxRecDepth 100000
theorem drop_all2 {α : Type} [Inhabited α] {l : List α} {i : Int} {p : α → Bool} (h0 : 0 ≤ i) (h : i < l.length) : (l.drop i.toNat).all p = (p (l.getD i.toNat default) && (l.drop (i + 1).toNat).all p) := by
 obtain ⟨k, rfl⟩ : ∃ k : Nat, i = k := ⟨i.toNat, by omega⟩
 have hk : k < l.length := by omega
 have e1 : ((k : Int)).toNat = k := by omega
 have e2 : ((k : Int) + 1).toNat = k + 1 := by omega
 rw [e1, e2, List.drop_eq_getElem_cons hk, List.all_cons]
 simp [List.getD_eq_getElem?_getD, hk]
theorem drop_nil2 {α : Type} {l : List α} {i : Int} {p : α → Bool} (h : l.length ≤ i) : (l.drop i.toNat).all p = true := by
 rw [List.drop_eq_nil_of_le (by omega)]; rfl
def lotR (k : Nat) (l : ShLot) : Bool := spansB l.goods 100000 && (decide (l.goods.length = k) && (inB l.weight 0 100000 && inB l.cost 0 1000000))
def storeT (s : ShStore) : Bool := inB s.stock.length 1 4 && (decide (s.use.length = s.stock.length) && (spanB s.glo s.ghi 1 60 && (decide (s.lots.length ≤ 6) && inB s.hold 0 100000)))
def storeR (s : ShStore) : Bool := s.stock.all (fun x => inB x 0 100000) && (spansB s.use 1000 && (s.lots.all (lotR s.stock.length) && storeT s))
theorem storeR_eq {s : ShStore} : storeR s = storeB s := by
 have e : lotR s.stock.length = lotB s.stock.length := by
  funext l; unfold lotR lotB
  cases spansB l.goods 100000 <;> cases decide (l.goods.length = s.stock.length) <;> rfl
 unfold storeR storeB storeT lotsB
 rw [e]
 cases inB s.stock.length 1 4 <;> cases s.stock.all (fun x => inB x 0 100000) <;> cases decide (s.use.length = s.stock.length) <;> cases spansB s.use 1000 <;> cases spanB s.glo s.ghi 1 60 <;> cases decide (s.lots.length ≤ 6) <;> cases s.lots.all (lotB s.stock.length) <;> simp
def wtL (l : List ShLot) : Nat := (l.map fun x => x.goods.length + 2).sum
theorem wt_cons {l : List ShLot} {i : Int} (h0 : 0 ≤ i) (h : i < l.length) : wtL (l.drop i.toNat) = (l.getD i.toNat default).goods.length + 2 + wtL (l.drop (i + 1).toNat) := by
 obtain ⟨k, rfl⟩ : ∃ k : Nat, i = k := ⟨i.toNat, by omega⟩
 have hk : k < l.length := by omega
 have e1 : ((k : Int)).toNat = k := by omega
 have e2 : ((k : Int) + 1).toNat = k + 1 := by omega
 rw [e1, e2, List.drop_eq_getElem_cons hk]
 unfold wtL
 rw [List.map_cons, List.sum_cons]
 simp [List.getD_eq_getElem?_getD, hk]
def rStore_v0 (s : ShStore) (i : Int) : List Value := [pA 2 0, .int .i64 i]
def rStore_o0 (s : ShStore) (i : Int) : List Obj := [Obj.cells #[topV 1 (slT s.stock.length (rowL encI s.stock)), topV 1 (slT s.use.length (rowL encSp s.use)), .int .i64 s.glo, .int .i64 s.ghi, topV 1 (slT s.lots.length (rowL encLot s.lots)), .int .i64 s.hold] 62]
noncomputable def rStore_t0 : List Item := ([.code [1, 0, 1, 0, 0], .inLoop [1, 0, 1, 0, 0], .inBlock 0, .code [1, 1]]).map (it (bodyOf Tryz.prog 44))
def rStore_h0 (B : Lo) (c0 : CF) (s : ShStore) (i : Int) : Prop := ∃ dJ : Nat → Value, (∀ t, Loose (dJ t)) ∧ GoE Tryz.prog B c0 H00 1 (headC 44 110 (([1, 3] : List Nat).zip (rStore_v0 s i)) dJ rStore_t0) (headH (rStore_o0 s i)) (2 + (rStore_o0 s i).length) []
def rStore_v1 (s : ShStore) (i : Int) : List Value := [pA 2 0, .int .i64 i]
def rStore_o1 (s : ShStore) (i : Int) : List Obj := [Obj.cells #[topV 1 (slT s.stock.length (rowL encI s.stock)), topV 1 (slT s.use.length (rowL encSp s.use)), .int .i64 s.glo, .int .i64 s.ghi, topV 1 (slT s.lots.length (rowL encLot s.lots)), .int .i64 s.hold] 62]
noncomputable def rStore_t1 : List Item := ([.code [1, 1, 0, 1, 0, 0], .inLoop [1, 1, 0, 1, 0, 0], .inBlock 2, .code [1, 1, 1]]).map (it (bodyOf Tryz.prog 44))
def rStore_h1 (B : Lo) (c0 : CF) (s : ShStore) (i : Int) : Prop := ∃ dJ : Nat → Value, (∀ t, Loose (dJ t)) ∧ GoE Tryz.prog B c0 H00 1 (headC 44 110 (([1, 4] : List Nat).zip (rStore_v1 s i)) dJ rStore_t1) (headH (rStore_o1 s i)) (2 + (rStore_o1 s i).length) []
def rStore_v2 (s : ShStore) (i : Int) : List Value := [pA 2 0, .int .i64 i]
def rStore_o2 (s : ShStore) (i : Int) : List Obj := [Obj.cells #[topV 1 (slT s.stock.length (rowL encI s.stock)), topV 1 (slT s.use.length (rowL encSp s.use)), .int .i64 s.glo, .int .i64 s.ghi, topV 1 (slT s.lots.length (rowL encLot s.lots)), .int .i64 s.hold] 62]
noncomputable def rStore_t2 : List Item := ([.code [1, 1, 1, 0, 1, 0, 0], .inLoop [1, 1, 1, 0, 1, 0, 0], .inBlock 4, .code [1, 1, 1, 1]]).map (it (bodyOf Tryz.prog 44))
def rStore_h2 (B : Lo) (c0 : CF) (s : ShStore) (i : Int) : Prop := ∃ dJ : Nat → Value, (∀ t, Loose (dJ t)) ∧ GoE Tryz.prog B c0 H00 1 (headC 44 110 (([1, 5] : List Nat).zip (rStore_v2 s i)) dJ rStore_t2) (headH (rStore_o2 s i)) (2 + (rStore_o2 s i).length) []
def rStore_v3 (s : ShStore) (i j : Int) : List Value := [pA 2 0, .int .i64 i, pA 3 0, .int .i64 j]
def rStore_o3 (s : ShStore) (i j : Int) : List Obj := [Obj.cells #[topV 1 (slT s.stock.length (rowL encI s.stock)), topV 1 (slT s.use.length (rowL encSp s.use)), .int .i64 s.glo, .int .i64 s.ghi, topV 1 (slT s.lots.length (rowL encLot s.lots)), .int .i64 s.hold] 62, Obj.cells #[topV 1 (slT (List.length (ShLot.goods (List.getD s.lots i.toNat default))) (rowL encSp (ShLot.goods (List.getD s.lots i.toNat default)))), .int .i64 (ShLot.weight (List.getD s.lots i.toNat default)), .int .i64 (ShLot.cost (List.getD s.lots i.toNat default))] 118]
noncomputable def rStore_t3 : List Item := ([.code [1, 1, 1, 0, 1, 0, 0, 1, 0, 0, 1, 0, 1, 0, 0], .inLoop [1, 1, 1, 0, 1, 0, 0, 1, 0, 0, 1, 0, 1, 0, 0], .inBlock 6, .code [1, 1, 1, 0, 1, 0, 0, 1, 0, 0, 1, 1], .inBlock 5, .code [1, 1, 1, 0, 1, 0, 0, 1, 1], .inLoop [1, 1, 1, 0, 1, 0, 0], .inBlock 4, .code [1, 1, 1, 1]]).map (it (bodyOf Tryz.prog 44))
def rStore_h3 (B : Lo) (c0 : CF) (s : ShStore) (i j : Int) : Prop := ∃ dJ : Nat → Value, (∀ t, Loose (dJ t)) ∧ GoE Tryz.prog B c0 H00 1 (headC 44 110 (([1, 5, 6, 7] : List Nat).zip (rStore_v3 s i j)) dJ rStore_t3) (headH (rStore_o3 s i j)) (2 + (rStore_o3 s i j).length) []
noncomputable def rStore_p0 (B : Lo) (s : ShStore) (i : Int) (dJ0 : Nat → Value) : List Prop := [i = (↑i.toNat : Int) ∧ Int.toNat i < List.length s.stock ∧ Array.extract (rowL encI s.stock) (Int.toNat i * TypeInfo.size Tryz.t3) (Int.toNat i * TypeInfo.size Tryz.t3 + TypeInfo.size Tryz.t3) = #[.int .i64 (List.getD s.stock i.toNat default)], ltq i (↑s.stock.length : Int) = true] ++ ([] : List Prop)
noncomputable def rStore_q0 (s : ShStore) (i : Int) (dJ0 : Nat → Value) : ScriptT := [(4, hvT), (8, HintT.tidx i.toNat #[.int .i64 (List.getD s.stock i.toNat default)])]
theorem rStore_s0 (B : Lo) (s : ShStore) (i : Int) (dJ0 : Nat → Value) : landM (srunT Tryz.prog (okFn Tryz.prog) J0 B 14 1 (headC 44 110 (([1, 3] : List Nat).zip (rStore_v0 s i)) dJ0 rStore_t0) (headH (rStore_o0 s i)) (2 + (rStore_o0 s i).length)
 (rStore_q0 s i dJ0 ++ [(10, HintT.pure (Value.bool true) []), (13, hvI (i + 1))]) 0 [] []) [1, 3] [(2, KS.auto)] [] = some ⟨44, 110, rStore_t0, [], .run, none, rStore_v0 s (i + 1), rStore_o0 s (i + 1),
 [wq (i + 1) = i + 1, AllP [] ∧ PureC Tryz.prog J0 69 #[.int .i64 (List.getD s.stock i.toNat default), .int .i64 0, .int .i64 100000] (Value.bool true)] ++ rStore_p0 B s i dJ0⟩ := by kernel_rfl
theorem rStore_s1 (B : Lo) (s : ShStore) (i : Int) (dJ0 : Nat → Value) : endT (srunT Tryz.prog (okFn Tryz.prog) J0 B 14 1 (headC 44 110 (([1, 3] : List Nat).zip (rStore_v0 s i)) dJ0 rStore_t0) (headH (rStore_o0 s i)) (2 + (rStore_o0 s i).length)
 (rStore_q0 s i dJ0 ++ [(10, HintT.pure (Value.bool false) [])]) 0 [] []) [] = some (Value.bool false,
 [AllP [] ∧ PureC Tryz.prog J0 69 #[.int .i64 (List.getD s.stock i.toNat default), .int .i64 0, .int .i64 100000] (Value.bool false)] ++ rStore_p0 B s i dJ0) := by kernel_rfl
theorem rStore_s2 (B : Lo) (s : ShStore) (i : Int) (dJ0 : Nat → Value) : landM (srunT Tryz.prog (okFn Tryz.prog) J0 B 10 1 (headC 44 110 (([1, 3] : List Nat).zip (rStore_v0 s i)) dJ0 rStore_t0) (headH (rStore_o0 s i)) (2 + (rStore_o0 s i).length)
 [(4, hvF)] 0 [] []) [1, 4] [(2, KS.auto)] [] = some ⟨44, 110, rStore_t1, [], .run, none, rStore_v1 s (0), rStore_o1 s (0),
 [ltq i (↑s.stock.length : Int) = false]⟩ := by kernel_rfl
noncomputable def rStore_p1 (B : Lo) (s : ShStore) (i : Int) (dJ0 : Nat → Value) : List Prop := [i = (↑i.toNat : Int) ∧ Int.toNat i < List.length s.use ∧ Array.extract (rowL encSp s.use) (Int.toNat i * TypeInfo.size Tryz.t25) (Int.toNat i * TypeInfo.size Tryz.t25 + TypeInfo.size Tryz.t25) = #[.int .i64 (Span.lo (List.getD s.use i.toNat default)), .int .i64 (Span.hi (List.getD s.use i.toNat default))], ltq i (↑s.use.length : Int) = true] ++ ([] : List Prop)
noncomputable def rStore_q1 (s : ShStore) (i : Int) (dJ0 : Nat → Value) : ScriptT := [(4, hvT), (8, HintT.tidx i.toNat #[.int .i64 (Span.lo (List.getD s.use i.toNat default)), .int .i64 (Span.hi (List.getD s.use i.toNat default))])]
theorem rStore_s3 (B : Lo) (s : ShStore) (i : Int) (dJ0 : Nat → Value) : landM (srunT Tryz.prog (okFn Tryz.prog) J0 B 14 1 (headC 44 110 (([1, 4] : List Nat).zip (rStore_v1 s i)) dJ0 rStore_t1) (headH (rStore_o1 s i)) (2 + (rStore_o1 s i).length)
 (rStore_q1 s i dJ0 ++ [(10, HintT.pure (Value.bool true) []), (13, hvI (i + 1))]) 0 [] []) [1, 4] [(2, KS.auto)] [] = some ⟨44, 110, rStore_t1, [], .run, none, rStore_v1 s (i + 1), rStore_o1 s (i + 1),
 [wq (i + 1) = i + 1, AllP [] ∧ PureC Tryz.prog J0 70 #[Value.agg #[.int .i64 (Span.lo (List.getD s.use i.toNat default)), .int .i64 (Span.hi (List.getD s.use i.toNat default))], .int .i64 0, .int .i64 1000] (Value.bool true)] ++ rStore_p1 B s i dJ0⟩ := by kernel_rfl
theorem rStore_s4 (B : Lo) (s : ShStore) (i : Int) (dJ0 : Nat → Value) : endT (srunT Tryz.prog (okFn Tryz.prog) J0 B 14 1 (headC 44 110 (([1, 4] : List Nat).zip (rStore_v1 s i)) dJ0 rStore_t1) (headH (rStore_o1 s i)) (2 + (rStore_o1 s i).length)
 (rStore_q1 s i dJ0 ++ [(10, HintT.pure (Value.bool false) [])]) 0 [] []) [] = some (Value.bool false,
 [AllP [] ∧ PureC Tryz.prog J0 70 #[Value.agg #[.int .i64 (Span.lo (List.getD s.use i.toNat default)), .int .i64 (Span.hi (List.getD s.use i.toNat default))], .int .i64 0, .int .i64 1000] (Value.bool false)] ++ rStore_p1 B s i dJ0) := by kernel_rfl
theorem rStore_s5 (B : Lo) (s : ShStore) (i : Int) (dJ0 : Nat → Value) : landM (srunT Tryz.prog (okFn Tryz.prog) J0 B 10 1 (headC 44 110 (([1, 4] : List Nat).zip (rStore_v1 s i)) dJ0 rStore_t1) (headH (rStore_o1 s i)) (2 + (rStore_o1 s i).length)
 [(4, hvF)] 0 [] []) [1, 5] [(2, KS.auto)] [] = some ⟨44, 110, rStore_t2, [], .run, none, rStore_v2 s (0), rStore_o2 s (0),
 [ltq i (↑s.use.length : Int) = false]⟩ := by kernel_rfl
theorem rStore_s6 (B : Lo) (s : ShStore) (i : Int) (dJ0 : Nat → Value) : landM (srunT Tryz.prog (okFn Tryz.prog) J0 B 14 1 (headC 44 110 (([1, 5] : List Nat).zip (rStore_v2 s i)) dJ0 rStore_t2) (headH (rStore_o2 s i)) (2 + (rStore_o2 s i).length)
 [(4, hvT), (8, HintT.tidx i.toNat #[slT (List.length (ShLot.goods (List.getD s.lots i.toNat default))) (rowL encSp (ShLot.goods (List.getD s.lots i.toNat default))), .int .i64 (ShLot.weight (List.getD s.lots i.toNat default)), .int .i64 (ShLot.cost (List.getD s.lots i.toNat default))])] 0 [] []) [1, 5, 6, 7] [(2, KS.auto), (3, KS.auto)] [] = some ⟨44, 110, rStore_t3, [], .run, none, rStore_v3 s (i) (0), rStore_o3 s (i) (0),
 [i = (↑i.toNat : Int) ∧ Int.toNat i < List.length s.lots ∧ Array.extract (rowL encLot s.lots) (Int.toNat i * TypeInfo.size Tryz.t118) (Int.toNat i * TypeInfo.size Tryz.t118 + TypeInfo.size Tryz.t118) = #[slT (List.length (ShLot.goods (List.getD s.lots i.toNat default))) (rowL encSp (ShLot.goods (List.getD s.lots i.toNat default))), .int .i64 (ShLot.weight (List.getD s.lots i.toNat default)), .int .i64 (ShLot.cost (List.getD s.lots i.toNat default))], ltq i (↑s.lots.length : Int) = true]⟩ := by kernel_rfl
noncomputable def rStore_p2 (B : Lo) (s : ShStore) (i : Int) (dJ0 : Nat → Value) : List Prop := [ltq i (↑s.lots.length : Int) = false] ++ ([] : List Prop)
noncomputable def rStore_q2 (s : ShStore) (i : Int) (dJ0 : Nat → Value) : ScriptT := [(4, hvF)]
noncomputable def rStore_p3 (B : Lo) (s : ShStore) (i : Int) (dJ0 : Nat → Value) : List Prop := [AllP [] ∧ PureC Tryz.prog J0 69 #[.int .i64 (↑s.stock.length : Int), .int .i64 1, .int .i64 4] (Value.bool true)] ++ rStore_p2 B s i dJ0
noncomputable def rStore_q3 (s : ShStore) (i : Int) (dJ0 : Nat → Value) : ScriptT := rStore_q2 s i dJ0 ++ [(8, HintT.pure (Value.bool true) [])]
noncomputable def rStore_p4 (B : Lo) (s : ShStore) (i : Int) (dJ0 : Nat → Value) : List Prop := [eqq (↑s.use.length : Int) (↑s.stock.length : Int) = true] ++ rStore_p3 B s i dJ0
noncomputable def rStore_q4 (s : ShStore) (i : Int) (dJ0 : Nat → Value) : ScriptT := rStore_q3 s i dJ0 ++ [(16, hvT)]
noncomputable def rStore_p5 (B : Lo) (s : ShStore) (i : Int) (dJ0 : Nat → Value) : List Prop := [AllP [] ∧ PureC Tryz.prog J0 30 #[Value.agg #[.int .i64 s.glo, .int .i64 s.ghi]] (Value.bool true)] ++ rStore_p4 B s i dJ0
noncomputable def rStore_q5 (s : ShStore) (i : Int) (dJ0 : Nat → Value) : ScriptT := rStore_q4 s i dJ0 ++ [(21, HintT.pure (Value.bool true) [])]
noncomputable def rStore_p6 (B : Lo) (s : ShStore) (i : Int) (dJ0 : Nat → Value) : List Prop := [(!ltq 6 (↑s.lots.length : Int)) = true] ++ rStore_p5 B s i dJ0
noncomputable def rStore_q6 (s : ShStore) (i : Int) (dJ0 : Nat → Value) : ScriptT := rStore_q5 s i dJ0 ++ [(27, hvT)]
theorem rStore_s7 (B : Lo) (s : ShStore) (i : Int) (dJ0 : Nat → Value) : endT (srunT Tryz.prog (okFn Tryz.prog) J0 B 9 1 (headC 44 110 (([1, 5] : List Nat).zip (rStore_v2 s i)) dJ0 rStore_t2) (headH (rStore_o2 s i)) (2 + (rStore_o2 s i).length)
 (rStore_q6 s i dJ0 ++ [(32, HintT.pure (Value.bool true) [])]) 0 [] []) [] = some (Value.bool true,
 [AllP [] ∧ PureC Tryz.prog J0 69 #[.int .i64 s.hold, .int .i64 0, .int .i64 100000] (Value.bool true)] ++ rStore_p6 B s i dJ0) := by kernel_rfl
theorem rStore_s8 (B : Lo) (s : ShStore) (i : Int) (dJ0 : Nat → Value) : endT (srunT Tryz.prog (okFn Tryz.prog) J0 B 9 1 (headC 44 110 (([1, 5] : List Nat).zip (rStore_v2 s i)) dJ0 rStore_t2) (headH (rStore_o2 s i)) (2 + (rStore_o2 s i).length)
 (rStore_q6 s i dJ0 ++ [(32, HintT.pure (Value.bool false) [])]) 0 [] []) [] = some (Value.bool false,
 [AllP [] ∧ PureC Tryz.prog J0 69 #[.int .i64 s.hold, .int .i64 0, .int .i64 100000] (Value.bool false)] ++ rStore_p6 B s i dJ0) := by kernel_rfl
theorem rStore_s9 (B : Lo) (s : ShStore) (i : Int) (dJ0 : Nat → Value) : endT (srunT Tryz.prog (okFn Tryz.prog) J0 B 9 1 (headC 44 110 (([1, 5] : List Nat).zip (rStore_v2 s i)) dJ0 rStore_t2) (headH (rStore_o2 s i)) (2 + (rStore_o2 s i).length)
 (rStore_q5 s i dJ0 ++ [(27, hvF)]) 0 [] []) [] = some (Value.bool false,
 [(!ltq 6 (↑s.lots.length : Int)) = false] ++ rStore_p5 B s i dJ0) := by kernel_rfl
theorem rStore_s10 (B : Lo) (s : ShStore) (i : Int) (dJ0 : Nat → Value) : endT (srunT Tryz.prog (okFn Tryz.prog) J0 B 9 1 (headC 44 110 (([1, 5] : List Nat).zip (rStore_v2 s i)) dJ0 rStore_t2) (headH (rStore_o2 s i)) (2 + (rStore_o2 s i).length)
 (rStore_q4 s i dJ0 ++ [(21, HintT.pure (Value.bool false) [])]) 0 [] []) [] = some (Value.bool false,
 [AllP [] ∧ PureC Tryz.prog J0 30 #[Value.agg #[.int .i64 s.glo, .int .i64 s.ghi]] (Value.bool false)] ++ rStore_p4 B s i dJ0) := by kernel_rfl
theorem rStore_s11 (B : Lo) (s : ShStore) (i : Int) (dJ0 : Nat → Value) : endT (srunT Tryz.prog (okFn Tryz.prog) J0 B 9 1 (headC 44 110 (([1, 5] : List Nat).zip (rStore_v2 s i)) dJ0 rStore_t2) (headH (rStore_o2 s i)) (2 + (rStore_o2 s i).length)
 (rStore_q3 s i dJ0 ++ [(16, hvF)]) 0 [] []) [] = some (Value.bool false,
 [eqq (↑s.use.length : Int) (↑s.stock.length : Int) = false] ++ rStore_p3 B s i dJ0) := by kernel_rfl
theorem rStore_s12 (B : Lo) (s : ShStore) (i : Int) (dJ0 : Nat → Value) : endT (srunT Tryz.prog (okFn Tryz.prog) J0 B 9 1 (headC 44 110 (([1, 5] : List Nat).zip (rStore_v2 s i)) dJ0 rStore_t2) (headH (rStore_o2 s i)) (2 + (rStore_o2 s i).length)
 (rStore_q2 s i dJ0 ++ [(8, HintT.pure (Value.bool false) [])]) 0 [] []) [] = some (Value.bool false,
 [AllP [] ∧ PureC Tryz.prog J0 69 #[.int .i64 (↑s.stock.length : Int), .int .i64 1, .int .i64 4] (Value.bool false)] ++ rStore_p2 B s i dJ0) := by kernel_rfl
noncomputable def rStore_p7 (B : Lo) (s : ShStore) (i j : Int) (dJ0 : Nat → Value) : List Prop := [j = (↑j.toNat : Int) ∧ Int.toNat j < List.length (ShLot.goods (List.getD s.lots i.toNat default)) ∧ Array.extract (rowL encSp (ShLot.goods (List.getD s.lots i.toNat default))) (Int.toNat j * TypeInfo.size Tryz.t25) (Int.toNat j * TypeInfo.size Tryz.t25 + TypeInfo.size Tryz.t25) = #[.int .i64 (Span.lo (List.getD (ShLot.goods (List.getD s.lots i.toNat default)) j.toNat default)), .int .i64 (Span.hi (List.getD (ShLot.goods (List.getD s.lots i.toNat default)) j.toNat default))], ltq j (↑(List.length (ShLot.goods (List.getD s.lots i.toNat default))) : Int) = true] ++ ([] : List Prop)
noncomputable def rStore_q7 (s : ShStore) (i j : Int) (dJ0 : Nat → Value) : ScriptT := [(4, hvT), (8, HintT.tidx j.toNat #[.int .i64 (Span.lo (List.getD (ShLot.goods (List.getD s.lots i.toNat default)) j.toNat default)), .int .i64 (Span.hi (List.getD (ShLot.goods (List.getD s.lots i.toNat default)) j.toNat default))])]
theorem rStore_s13 (B : Lo) (s : ShStore) (i j : Int) (dJ0 : Nat → Value) : landM (srunT Tryz.prog (okFn Tryz.prog) J0 B 14 1 (headC 44 110 (([1, 5, 6, 7] : List Nat).zip (rStore_v3 s i j)) dJ0 rStore_t3) (headH (rStore_o3 s i j)) (2 + (rStore_o3 s i j).length)
 (rStore_q7 s i j dJ0 ++ [(10, HintT.pure (Value.bool true) []), (13, hvI (j + 1))]) 0 [] []) [1, 5, 6, 7] [(2, KS.auto), (3, KS.auto)] [] = some ⟨44, 110, rStore_t3, [], .run, none, rStore_v3 s (i) (j + 1), rStore_o3 s (i) (j + 1),
 [wq (j + 1) = j + 1, AllP [] ∧ PureC Tryz.prog J0 70 #[Value.agg #[.int .i64 (Span.lo (List.getD (ShLot.goods (List.getD s.lots i.toNat default)) j.toNat default)), .int .i64 (Span.hi (List.getD (ShLot.goods (List.getD s.lots i.toNat default)) j.toNat default))], .int .i64 0, .int .i64 100000] (Value.bool true)] ++ rStore_p7 B s i j dJ0⟩ := by kernel_rfl
theorem rStore_s14 (B : Lo) (s : ShStore) (i j : Int) (dJ0 : Nat → Value) : endT (srunT Tryz.prog (okFn Tryz.prog) J0 B 14 1 (headC 44 110 (([1, 5, 6, 7] : List Nat).zip (rStore_v3 s i j)) dJ0 rStore_t3) (headH (rStore_o3 s i j)) (2 + (rStore_o3 s i j).length)
 (rStore_q7 s i j dJ0 ++ [(10, HintT.pure (Value.bool false) [])]) 0 [] []) [] = some (Value.bool false,
 [AllP [] ∧ PureC Tryz.prog J0 70 #[Value.agg #[.int .i64 (Span.lo (List.getD (ShLot.goods (List.getD s.lots i.toNat default)) j.toNat default)), .int .i64 (Span.hi (List.getD (ShLot.goods (List.getD s.lots i.toNat default)) j.toNat default))], .int .i64 0, .int .i64 100000] (Value.bool false)] ++ rStore_p7 B s i j dJ0) := by kernel_rfl
noncomputable def rStore_p8 (B : Lo) (s : ShStore) (i j : Int) (dJ0 : Nat → Value) : List Prop := [ltq j (↑(List.length (ShLot.goods (List.getD s.lots i.toNat default))) : Int) = false] ++ ([] : List Prop)
noncomputable def rStore_q8 (s : ShStore) (i j : Int) (dJ0 : Nat → Value) : ScriptT := [(4, hvF)]
theorem rStore_s15 (B : Lo) (s : ShStore) (i j : Int) (dJ0 : Nat → Value) : endT (srunT Tryz.prog (okFn Tryz.prog) J0 B 12 1 (headC 44 110 (([1, 5, 6, 7] : List Nat).zip (rStore_v3 s i j)) dJ0 rStore_t3) (headH (rStore_o3 s i j)) (2 + (rStore_o3 s i j).length)
 (rStore_q8 s i j dJ0 ++ [(11, hvT)]) 0 [] []) [] = some (Value.bool false,
 [(!eqq (↑(List.length (ShLot.goods (List.getD s.lots i.toNat default))) : Int) (↑s.stock.length : Int)) = true] ++ rStore_p8 B s i j dJ0) := by kernel_rfl
noncomputable def rStore_p9 (B : Lo) (s : ShStore) (i j : Int) (dJ0 : Nat → Value) : List Prop := [(!eqq (↑(List.length (ShLot.goods (List.getD s.lots i.toNat default))) : Int) (↑s.stock.length : Int)) = false] ++ rStore_p8 B s i j dJ0
noncomputable def rStore_q9 (s : ShStore) (i j : Int) (dJ0 : Nat → Value) : ScriptT := rStore_q8 s i j dJ0 ++ [(11, hvF)]
noncomputable def rStore_p10 (B : Lo) (s : ShStore) (i j : Int) (dJ0 : Nat → Value) : List Prop := [AllP [] ∧ PureC Tryz.prog J0 69 #[.int .i64 (ShLot.weight (List.getD s.lots i.toNat default)), .int .i64 0, .int .i64 100000] (Value.bool true)] ++ rStore_p9 B s i j dJ0
noncomputable def rStore_q10 (s : ShStore) (i j : Int) (dJ0 : Nat → Value) : ScriptT := rStore_q9 s i j dJ0 ++ [(15, HintT.pure (Value.bool true) [])]
theorem rStore_s16 (B : Lo) (s : ShStore) (i j : Int) (dJ0 : Nat → Value) : landM (srunT Tryz.prog (okFn Tryz.prog) J0 B 12 1 (headC 44 110 (([1, 5, 6, 7] : List Nat).zip (rStore_v3 s i j)) dJ0 rStore_t3) (headH (rStore_o3 s i j)) (2 + (rStore_o3 s i j).length)
 (rStore_q10 s i j dJ0 ++ [(21, HintT.pure (Value.bool true) []), (25, hvI (i + 1))]) 0 [] []) [1, 5] [(2, KS.auto)] [] = some ⟨44, 110, rStore_t2, [], .run, none, rStore_v2 s (i + 1), rStore_o2 s (i + 1),
 [wq (i + 1) = i + 1, AllP [] ∧ PureC Tryz.prog J0 69 #[.int .i64 (ShLot.cost (List.getD s.lots i.toNat default)), .int .i64 0, .int .i64 1000000] (Value.bool true)] ++ rStore_p10 B s i j dJ0⟩ := by kernel_rfl
theorem rStore_s17 (B : Lo) (s : ShStore) (i j : Int) (dJ0 : Nat → Value) : endT (srunT Tryz.prog (okFn Tryz.prog) J0 B 12 1 (headC 44 110 (([1, 5, 6, 7] : List Nat).zip (rStore_v3 s i j)) dJ0 rStore_t3) (headH (rStore_o3 s i j)) (2 + (rStore_o3 s i j).length)
 (rStore_q10 s i j dJ0 ++ [(21, HintT.pure (Value.bool false) [])]) 0 [] []) [] = some (Value.bool false,
 [AllP [] ∧ PureC Tryz.prog J0 69 #[.int .i64 (ShLot.cost (List.getD s.lots i.toNat default)), .int .i64 0, .int .i64 1000000] (Value.bool false)] ++ rStore_p10 B s i j dJ0) := by kernel_rfl
theorem rStore_s18 (B : Lo) (s : ShStore) (i j : Int) (dJ0 : Nat → Value) : endT (srunT Tryz.prog (okFn Tryz.prog) J0 B 12 1 (headC 44 110 (([1, 5, 6, 7] : List Nat).zip (rStore_v3 s i j)) dJ0 rStore_t3) (headH (rStore_o3 s i j)) (2 + (rStore_o3 s i j).length)
 (rStore_q9 s i j dJ0 ++ [(15, HintT.pure (Value.bool false) [])]) 0 [] []) [] = some (Value.bool false,
 [AllP [] ∧ PureC Tryz.prog J0 69 #[.int .i64 (ShLot.weight (List.getD s.lots i.toNat default)), .int .i64 0, .int .i64 100000] (Value.bool false)] ++ rStore_p9 B s i j dJ0) := by kernel_rfl
theorem rStore_s19 (B : Lo) (s : ShStore) : landM (srunT Tryz.prog (okFn Tryz.prog) J0 B 7 1 (entryC Tryz.prog 44 110 (([.agg (encStore s).toArray]).map (pushT 0 4))) H00 1
 [] 0 [] []) [1, 3] [(1, KS.auto)] [] = some ⟨44, 110, rStore_t0, [], .run, none, rStore_v0 s (0), rStore_o0 s (0),
 []⟩ := by kernel_rfl
set_option maxHeartbeats 4000000 in
theorem rStore_ls (s : ShStore) (hb : ∀ l ∈ s.lots, l.goods.length ≤ 8) (hfacts : s.stock.length ≤ 9223372036854775807 ∧ s.use.length ≤ 9223372036854775807 ∧ s.lots.length ≤ 9223372036854775807) {B : Lo} (hJ : ∀ w, B.has w → J0 w) {c0 : CF} : ∀ m : Nat, (∀ (i : Int), (s.stock.length - i.toNat) + s.use.length + wtL s.lots + 9 = m → ∀ (h0 : 0 ≤ i), rStore_h0 B c0 s i → EndsT Tryz.prog B c0 (.bool ((s.stock.drop i.toNat).all (fun x => inB x 0 100000) && (spansB s.use 1000 && (s.lots.all (lotR s.stock.length) && storeT s))))) ∧ (∀ (i : Int), (s.use.length - i.toNat) + wtL s.lots + 8 = m → ∀ (h0 : 0 ≤ i), rStore_h1 B c0 s i → EndsT Tryz.prog B c0 (.bool ((s.use.drop i.toNat).all (fun s => spanB s.lo s.hi 0 1000) && (s.lots.all (lotR s.stock.length) && storeT s)))) ∧ (∀ (i : Int), wtL (s.lots.drop i.toNat) + 1 = m → ∀ (h0 : 0 ≤ i), rStore_h2 B c0 s i → EndsT Tryz.prog B c0 (.bool ((s.lots.drop i.toNat).all (lotR s.stock.length) && storeT s))) ∧ (∀ (i j : Int), ((s.lots.getD i.toNat default).goods.length - j.toNat) + wtL (s.lots.drop (i + 1).toNat) + 2 = m → ∀ (h0 : 0 ≤ i) (h1 : i < s.lots.length) (j0 : 0 ≤ j), rStore_h3 B c0 s i j → EndsT Tryz.prog B c0 (.bool ((((s.lots.getD i.toNat default).goods.drop j.toNat).all (fun s => spanB s.lo s.hi 0 100000) && (decide ((s.lots.getD i.toNat default).goods.length = s.stock.length) && (inB (s.lots.getD i.toNat default).weight 0 100000 && inB (s.lots.getD i.toNat default).cost 0 1000000))) && ((s.lots.drop (i + 1).toNat).all (lotR s.stock.length) && storeT s)))) := by
 intro m0
 induction m0 using Nat.strongRecOn with
 | _ m0 ih0 =>
   refine ⟨?_, ?_, ?_, ?_⟩
   ·intro i hm0 h0 ⟨dJ0, hdJ0, hg0⟩
    by_cases q0 : (i : Int) < ((↑s.stock.length : Int))
    ·
     have hp0 : AllP (rStore_p0 B s i dJ0) := by
      have s2 := drop_all2 (l := s.stock) (p := fun x => inB x 0 100000) h0 q0
      exact ⟨⟨by omega, by omega, (rowL_extract (z := 1) (fun _ => rfl) (by omega))⟩, ⟨(ltq_t q0), trivial⟩⟩
     cases q1 : inB (List.getD s.stock i.toNat default) 0 100000 with
     | true =>
       have s2 := drop_all2 (l := s.stock) (p := fun x => inB x 0 100000) h0 q0
       exact ((ih0 _ (by omega)).1 (i + 1) rfl (by omega)
        (hg0.landM okF hJ mixed_ok (rStore_s0 B s i dJ0)
        ⟨(wq_in (by omega) (by omega)), ⟨⟨trivial, (by have t_ := rin (List.getD s.stock i.toNat default) (0) (100000); rw [q1] at t_; exact t_)⟩, hp0⟩⟩ (by kernel_rfl) (by kernel_rfl))).cast (by (simp only [s2, q1, Bool.true_and, Bool.false_and]; done))
     | false =>
       have s2 := drop_all2 (l := s.stock) (p := fun x => inB x 0 100000) h0 q0
       exact (GoE.endsT okF hJ mixed_ok hg0 (rStore_s1 B s i dJ0)
        ⟨⟨trivial, (by have t_ := rin (List.getD s.stock i.toNat default) (0) (100000); rw [q1] at t_; exact t_)⟩, hp0⟩).cast (by (simp only [s2, q1, Bool.true_and, Bool.false_and]; done))
    ·
     have s2 := drop_nil2 (l := s.stock) (p := fun x => inB x 0 100000) (i := i) (by omega)
     exact ((ih0 _ (by (first | omega | (simp only [Int.toNat_zero, List.drop_zero]; omega)))).2.1 (0) rfl (by omega)
      (hg0.landM okF hJ mixed_ok (rStore_s2 B s i dJ0)
      ⟨(ltq_f (Int.not_lt.1 q0)), trivial⟩ (by kernel_rfl) (by kernel_rfl))).cast (by (simp only [s2, spansB, Int.toNat_zero, List.drop_zero, Bool.true_and]; done))
   ·intro i hm0 h0 ⟨dJ0, hdJ0, hg0⟩
    by_cases q0 : (i : Int) < ((↑s.use.length : Int))
    ·
     have hp1 : AllP (rStore_p1 B s i dJ0) := by
      have s2 := drop_all2 (l := s.use) (p := fun s => spanB s.lo s.hi 0 1000) h0 q0
      have m2 : wtL (s.lots.drop (Int.toNat 0)) = wtL s.lots := rfl
      exact ⟨⟨by omega, by omega, (rowL_extract (z := 2) (fun _ => rfl) (by omega))⟩, ⟨(ltq_t q0), trivial⟩⟩
     cases q1 : spanB (Span.lo (List.getD s.use i.toNat default)) (Span.hi (List.getD s.use i.toNat default)) 0 1000 with
     | true =>
       have s2 := drop_all2 (l := s.use) (p := fun s => spanB s.lo s.hi 0 1000) h0 q0
       have m2 : wtL (s.lots.drop (Int.toNat 0)) = wtL s.lots := rfl
       exact ((ih0 _ (by (first | omega | (simp only [Int.toNat_zero, List.drop_zero]; omega)))).2.1 (i + 1) rfl (by omega)
        (hg0.landM okF hJ mixed_ok (rStore_s3 B s i dJ0)
        ⟨(wq_in (by omega) (by omega)), ⟨⟨trivial, (by have t_ := rSpan (Span.lo (List.getD s.use i.toNat default)) (Span.hi (List.getD s.use i.toNat default)) (0) (1000); rw [q1] at t_; exact t_)⟩, hp1⟩⟩ (by kernel_rfl) (by kernel_rfl))).cast (by (simp only [s2, q1, Bool.true_and, Bool.false_and]; done))
     | false =>
       have s2 := drop_all2 (l := s.use) (p := fun s => spanB s.lo s.hi 0 1000) h0 q0
       have m2 : wtL (s.lots.drop (Int.toNat 0)) = wtL s.lots := rfl
       exact (GoE.endsT okF hJ mixed_ok hg0 (rStore_s4 B s i dJ0)
        ⟨⟨trivial, (by have t_ := rSpan (Span.lo (List.getD s.use i.toNat default)) (Span.hi (List.getD s.use i.toNat default)) (0) (1000); rw [q1] at t_; exact t_)⟩, hp1⟩).cast (by (simp only [s2, q1, Bool.true_and, Bool.false_and]; done))
    ·
     have s2 := drop_nil2 (l := s.use) (p := fun s => spanB s.lo s.hi 0 1000) (i := i) (by omega)
     have m2 : wtL (s.lots.drop (Int.toNat 0)) = wtL s.lots := rfl
     exact ((ih0 _ (by (first | omega | (simp only [Int.toNat_zero, List.drop_zero]; omega)))).2.2.1 (0) rfl (by omega)
      (hg0.landM okF hJ mixed_ok (rStore_s5 B s i dJ0)
      ⟨(ltq_f (Int.not_lt.1 q0)), trivial⟩ (by kernel_rfl) (by kernel_rfl))).cast (by (simp only [s2, Int.toNat_zero, List.drop_zero, Bool.true_and]; done))
   ·intro i hm0 h0 ⟨dJ0, hdJ0, hg0⟩
    by_cases q0 : (i : Int) < ((↑s.lots.length : Int))
    ·
     have s2 := drop_all2 (l := s.lots) (p := lotR s.stock.length) h0 q0
     have s3 := wt_cons (l := s.lots) h0 q0
     exact ((ih0 _ (by omega)).2.2.2 (i) (0) rfl (by with_reducible assumption) (by with_reducible assumption) (by omega)
      (hg0.landM okF hJ mixed_ok (rStore_s6 B s i dJ0)
      ⟨⟨by omega, by omega, (rowL_extract (z := 3) (fun _ => rfl) (by omega))⟩, ⟨(ltq_t q0), trivial⟩⟩ (by kernel_rfl) (by kernel_rfl))).cast (by (simp only [s2, lotR, spansB, Int.toNat_zero, List.drop_zero, Bool.and_assoc]; done))
    ·
     have hp2 : AllP (rStore_p2 B s i dJ0) := by
      exact ⟨(ltq_f (Int.not_lt.1 q0)), trivial⟩
     cases q1 : inB (↑s.stock.length : Int) 1 4 with
     | true =>
       have hp3 : AllP (rStore_p3 B s i dJ0) := by
        have s2 := drop_nil2 (l := s.lots) (p := lotR s.stock.length) (i := i) (by omega)
        exact ⟨⟨trivial, (by have t_ := rin ((↑s.stock.length : Int)) (1) (4); rw [q1] at t_; exact t_)⟩, hp2⟩
       by_cases q2 : ((↑s.use.length : Int) : Int) = ((↑s.stock.length : Int))
       ·
        have hp4 : AllP (rStore_p4 B s i dJ0) := by
         exact ⟨(eqq_t q2), hp3⟩
        cases q3 : spanB s.glo s.ghi 1 60 with
        | true =>
          have hp5 : AllP (rStore_p5 B s i dJ0) := by
           have s2 := drop_nil2 (l := s.lots) (p := lotR s.stock.length) (i := i) (by omega)
           exact ⟨⟨trivial, (by have t_ := rGap s.glo s.ghi; rw [q3] at t_; exact t_)⟩, hp4⟩
          by_cases q4 : ((↑s.lots.length : Int) : Int) ≤ (6)
          ·
           have hp6 : AllP (rStore_p6 B s i dJ0) := by
            exact ⟨(nltq_t q4), hp5⟩
           cases q5 : inB s.hold 0 100000 with
           | true =>
             have s2 := drop_nil2 (l := s.lots) (p := lotR s.stock.length) (i := i) (by omega)
             exact (GoE.endsT okF hJ mixed_ok hg0 (rStore_s7 B s i dJ0)
              ⟨⟨trivial, (by have t_ := rin s.hold (0) (100000); rw [q5] at t_; exact t_)⟩, hp6⟩).cast (by (rw [s2]; simp_all [storeT]; omega))
           | false =>
             have s2 := drop_nil2 (l := s.lots) (p := lotR s.stock.length) (i := i) (by omega)
             exact (GoE.endsT okF hJ mixed_ok hg0 (rStore_s8 B s i dJ0)
              ⟨⟨trivial, (by have t_ := rin s.hold (0) (100000); rw [q5] at t_; exact t_)⟩, hp6⟩).cast (by (rw [s2]; simp [storeT, *]; done))
          ·
           have s2 := drop_nil2 (l := s.lots) (p := lotR s.stock.length) (i := i) (by omega)
           exact (GoE.endsT okF hJ mixed_ok hg0 (rStore_s9 B s i dJ0)
            ⟨(nltq_f (Int.not_le.1 q4)), hp5⟩).cast (by (rw [s2]; simp_all [storeT]; omega))
        | false =>
          have s2 := drop_nil2 (l := s.lots) (p := lotR s.stock.length) (i := i) (by omega)
          exact (GoE.endsT okF hJ mixed_ok hg0 (rStore_s10 B s i dJ0)
           ⟨⟨trivial, (by have t_ := rGap s.glo s.ghi; rw [q3] at t_; exact t_)⟩, hp4⟩).cast (by (rw [s2]; simp [storeT, *]; done))
       ·
        have s2 := drop_nil2 (l := s.lots) (p := lotR s.stock.length) (i := i) (by omega)
        exact (GoE.endsT okF hJ mixed_ok hg0 (rStore_s11 B s i dJ0)
         ⟨(eqq_f q2), hp3⟩).cast (by (rw [s2]; simp_all [storeT]; omega))
     | false =>
       have s2 := drop_nil2 (l := s.lots) (p := lotR s.stock.length) (i := i) (by omega)
       exact (GoE.endsT okF hJ mixed_ok hg0 (rStore_s12 B s i dJ0)
        ⟨⟨trivial, (by have t_ := rin ((↑s.stock.length : Int)) (1) (4); rw [q1] at t_; exact t_)⟩, hp2⟩).cast (by (rw [s2]; simp [storeT, *]; done))
   ·intro i j hm0 h0 h1 j0 ⟨dJ0, hdJ0, hg0⟩
    have hgl := hb _ (getD_mem h0 h1)
    by_cases q0 : (j : Int) < ((↑(List.length (ShLot.goods (List.getD s.lots i.toNat default))) : Int))
    ·
     have hp7 : AllP (rStore_p7 B s i j dJ0) := by
      have s2 := drop_all2 (l := (s.lots.getD i.toNat default).goods) (p := fun s => spanB s.lo s.hi 0 100000) j0 q0
      exact ⟨⟨by omega, by omega, (rowL_extract (z := 2) (fun _ => rfl) (by omega))⟩, ⟨(ltq_t q0), trivial⟩⟩
     cases q1 : spanB (Span.lo (List.getD (ShLot.goods (List.getD s.lots i.toNat default)) j.toNat default)) (Span.hi (List.getD (ShLot.goods (List.getD s.lots i.toNat default)) j.toNat default)) 0 100000 with
     | true =>
       have s2 := drop_all2 (l := (s.lots.getD i.toNat default).goods) (p := fun s => spanB s.lo s.hi 0 100000) j0 q0
       exact ((ih0 _ (by omega)).2.2.2 (i) (j + 1) rfl (by with_reducible assumption) (by with_reducible assumption) (by omega)
        (hg0.landM okF hJ mixed_ok (rStore_s13 B s i j dJ0)
        ⟨(wq_in (by omega) (by omega)), ⟨⟨trivial, (by have t_ := rSpan (Span.lo (List.getD (ShLot.goods (List.getD s.lots i.toNat default)) j.toNat default)) (Span.hi (List.getD (ShLot.goods (List.getD s.lots i.toNat default)) j.toNat default)) (0) (100000); rw [q1] at t_; exact t_)⟩, hp7⟩⟩ (by kernel_rfl) (by kernel_rfl))).cast (by (simp only [s2, q1, Bool.true_and, Bool.false_and]; done))
     | false =>
       have s2 := drop_all2 (l := (s.lots.getD i.toNat default).goods) (p := fun s => spanB s.lo s.hi 0 100000) j0 q0
       exact (GoE.endsT okF hJ mixed_ok hg0 (rStore_s14 B s i j dJ0)
        ⟨⟨trivial, (by have t_ := rSpan (Span.lo (List.getD (ShLot.goods (List.getD s.lots i.toNat default)) j.toNat default)) (Span.hi (List.getD (ShLot.goods (List.getD s.lots i.toNat default)) j.toNat default)) (0) (100000); rw [q1] at t_; exact t_)⟩, hp7⟩).cast (by (simp only [s2, q1, Bool.true_and, Bool.false_and]; done))
    ·
     have hp8 : AllP (rStore_p8 B s i j dJ0) := by
      exact ⟨(ltq_f (Int.not_lt.1 q0)), trivial⟩
     by_cases q1 : ((↑(List.length (ShLot.goods (List.getD s.lots i.toNat default))) : Int) : Int) ≠ ((↑s.stock.length : Int))
     ·
      have s2 := drop_nil2 (l := (s.lots.getD i.toNat default).goods) (p := fun s => spanB s.lo s.hi 0 100000) (i := j) (by omega)
      exact (GoE.endsT okF hJ mixed_ok hg0 (rStore_s15 B s i j dJ0)
       ⟨(neqq_t q1), hp8⟩).cast (by (simp only [s2, Bool.true_and]; simp_all; omega))
     ·
      have hp9 : AllP (rStore_p9 B s i j dJ0) := by
       exact ⟨(neqq_f (Decidable.of_not_not q1)), hp8⟩
      cases q2 : inB (ShLot.weight (List.getD s.lots i.toNat default)) 0 100000 with
      | true =>
        have hp10 : AllP (rStore_p10 B s i j dJ0) := by
         have s2 := drop_nil2 (l := (s.lots.getD i.toNat default).goods) (p := fun s => spanB s.lo s.hi 0 100000) (i := j) (by omega)
         exact ⟨⟨trivial, (by have t_ := rin (ShLot.weight (List.getD s.lots i.toNat default)) (0) (100000); rw [q2] at t_; exact t_)⟩, hp9⟩
        cases q3 : inB (ShLot.cost (List.getD s.lots i.toNat default)) 0 1000000 with
        | true =>
          have s2 := drop_nil2 (l := (s.lots.getD i.toNat default).goods) (p := fun s => spanB s.lo s.hi 0 100000) (i := j) (by omega)
          exact ((ih0 _ (by omega)).2.2.1 (i + 1) rfl (by omega)
           (hg0.landM okF hJ mixed_ok (rStore_s16 B s i j dJ0)
           ⟨(wq_in (by omega) (by omega)), ⟨⟨trivial, (by have t_ := rin (ShLot.cost (List.getD s.lots i.toNat default)) (0) (1000000); rw [q3] at t_; exact t_)⟩, hp10⟩⟩ (by kernel_rfl) (by kernel_rfl))).cast (by (simp only [s2, Bool.true_and]; simp_all; omega))
        | false =>
          have s2 := drop_nil2 (l := (s.lots.getD i.toNat default).goods) (p := fun s => spanB s.lo s.hi 0 100000) (i := j) (by omega)
          exact (GoE.endsT okF hJ mixed_ok hg0 (rStore_s17 B s i j dJ0)
           ⟨⟨trivial, (by have t_ := rin (ShLot.cost (List.getD s.lots i.toNat default)) (0) (1000000); rw [q3] at t_; exact t_)⟩, hp10⟩).cast (by (simp only [s2, Bool.true_and]; simp [*]; done))
      | false =>
        have s2 := drop_nil2 (l := (s.lots.getD i.toNat default).goods) (p := fun s => spanB s.lo s.hi 0 100000) (i := j) (by omega)
        exact (GoE.endsT okF hJ mixed_ok hg0 (rStore_s18 B s i j dJ0)
         ⟨⟨trivial, (by have t_ := rin (ShLot.weight (List.getD s.lots i.toNat default)) (0) (100000); rw [q2] at t_; exact t_)⟩, hp9⟩).cast (by (simp only [s2, Bool.true_and]; simp [*]; done))
set_option maxHeartbeats 4000000 in
theorem rStore_e (s : ShStore) (hb : ∀ l ∈ s.lots, l.goods.length ≤ 8) (hfacts : s.stock.length ≤ 9223372036854775807 ∧ s.use.length ≤ 9223372036854775807 ∧ s.lots.length ≤ 9223372036854775807) {B : Lo} (hJ : ∀ w, B.has w → J0 w) : EndsT Tryz.prog B (entryC Tryz.prog 44 110 (([.agg (encStore s).toArray]).map (pushT 0 4))) (.bool (storeR s)) := by
 exact ((rStore_ls s hb hfacts hJ _).1 (0) rfl (by omega)
  (GoE.start.landM okF hJ mixed_ok (rStore_s19 B s)
  trivial (by kernel_rfl) (by kernel_rfl))).cast (by rfl)
theorem rStore (s : ShStore) (hb : ∀ l ∈ s.lots, l.goods.length ≤ 8) : PureC Tryz.prog J0 44 #[.agg (encStore s).toArray] (.bool (storeR s)) :=
 pureC_ofF (ts := [.agg (encStore s).toArray]) (s.stock.length ≤ 9223372036854775807 ∧ s.use.length ≤ 9223372036854775807 ∧ s.lots.length ≤ 9223372036854775807) (fun _ _ ht => ⟨ht.ln2 (i := 0) (j := 0) rfl rfl, ht.ln2 (i := 0) (j := 1) rfl rfl, ht.ln2 (i := 0) (j := 4) rfl rfl⟩) J0_st (c0 := entryC Tryz.prog 44 110 (([.agg (encStore s).toArray]).map (pushT 0 4))) (by kernel_rfl) (by kernel_rfl) fun hfacts B hJ => rStore_e s hb hfacts hJ
def lstore_v0 (s : ShStore) (i : Int) : List Value := [pA 2 0, .int .i64 i]
def lstore_o0 (s : ShStore) (i : Int) : List Obj := [Obj.cells #[topV 1 (slT s.stock.length (rowL encI s.stock)), topV 1 (slT s.use.length (rowL encSp s.use)), .int .i64 s.glo, .int .i64 s.ghi, topV 1 (slT s.lots.length (rowL encLot s.lots)), .int .i64 s.hold] 62]
noncomputable def lstore_t0 : List Item := ([.code [1, 0, 1, 0, 0], .inLoop [1, 0, 1, 0, 0], .inBlock 0, .code [1, 1]]).map (it (bodyOf Tryz.prog 36))
def lstore_h0 (B : Lo) (c0 : CF) (s : ShStore) (i : Int) : Prop := ∃ dJ : Nat → Value, (∀ t, Loose (dJ t)) ∧ GoE Tryz.prog B c0 H00 1 (headC 36 39 (([1, 3] : List Nat).zip (lstore_v0 s i)) dJ lstore_t0) (headH (lstore_o0 s i)) (2 + (lstore_o0 s i).length) []
noncomputable def lstore_p0 (B : Lo) (s : ShStore) (i : Int) (dJ0 : Nat → Value) : List Prop := [ltq i (↑s.lots.length : Int) = true] ++ ([] : List Prop)
noncomputable def lstore_q0 (s : ShStore) (i : Int) (dJ0 : Nat → Value) : ScriptT := [(4, hvT)]
noncomputable def lstore_p1 (B : Lo) (s : ShStore) (i : Int) (dJ0 : Nat → Value) : List Prop := [i = (↑i.toNat : Int) ∧ Int.toNat i < List.length s.lots ∧ Array.extract (rowL encLot s.lots) (Int.toNat i * TypeInfo.size Tryz.t118) (Int.toNat i * TypeInfo.size Tryz.t118 + TypeInfo.size Tryz.t118) = #[slT (List.length (ShLot.goods (List.getD s.lots i.toNat default))) (rowL encSp (ShLot.goods (List.getD s.lots i.toNat default))), .int .i64 (ShLot.weight (List.getD s.lots i.toNat default)), .int .i64 (ShLot.cost (List.getD s.lots i.toNat default))], ltq i 12 = true] ++ lstore_p0 B s i dJ0
noncomputable def lstore_q1 (s : ShStore) (i : Int) (dJ0 : Nat → Value) : ScriptT := lstore_q0 s i dJ0 ++ [(7, hvT), (12, HintT.tidx i.toNat #[slT (List.length (ShLot.goods (List.getD s.lots i.toNat default))) (rowL encSp (ShLot.goods (List.getD s.lots i.toNat default))), .int .i64 (ShLot.weight (List.getD s.lots i.toNat default)), .int .i64 (ShLot.cost (List.getD s.lots i.toNat default))])]
theorem lstore_s0 (B : Lo) (s : ShStore) (i : Int) (dJ0 : Nat → Value) : endT (srunT Tryz.prog (okFn Tryz.prog) J0 B 14 1 (headC 36 39 (([1, 3] : List Nat).zip (lstore_v0 s i)) dJ0 lstore_t0) (headH (lstore_o0 s i)) (2 + (lstore_o0 s i).length)
 (lstore_q1 s i dJ0 ++ [(16, hvT)]) 0 [] []) [] = some (Value.bool false,
 [ltq 8 (↑(List.length (ShLot.goods (List.getD s.lots i.toNat default))) : Int) = true] ++ lstore_p1 B s i dJ0) := by kernel_rfl
theorem lstore_s1 (B : Lo) (s : ShStore) (i : Int) (dJ0 : Nat → Value) : landM (srunT Tryz.prog (okFn Tryz.prog) J0 B 14 1 (headC 36 39 (([1, 3] : List Nat).zip (lstore_v0 s i)) dJ0 lstore_t0) (headH (lstore_o0 s i)) (2 + (lstore_o0 s i).length)
 (lstore_q1 s i dJ0 ++ [(16, hvF), (18, hvI (i + 1))]) 0 [] []) [1, 3] [(2, KS.auto)] [] = some ⟨36, 39, lstore_t0, [], .run, none, lstore_v0 s (i + 1), lstore_o0 s (i + 1),
 [wq (i + 1) = i + 1, ltq 8 (↑(List.length (ShLot.goods (List.getD s.lots i.toNat default))) : Int) = false] ++ lstore_p1 B s i dJ0⟩ := by kernel_rfl
noncomputable def lstore_p2 (B : Lo) (s : ShStore) (i : Int) (dJ0 : Nat → Value) : List Prop := [ltq i 12 = false] ++ lstore_p0 B s i dJ0
noncomputable def lstore_q2 (s : ShStore) (i : Int) (dJ0 : Nat → Value) : ScriptT := lstore_q0 s i dJ0 ++ [(7, hvF)]
noncomputable def lstore_p3 (B : Lo) (s : ShStore) (i : Int) (dJ0 : Nat → Value) : List Prop := [(!ltq 8 (↑s.stock.length : Int)) = true] ++ lstore_p2 B s i dJ0
noncomputable def lstore_q3 (s : ShStore) (i : Int) (dJ0 : Nat → Value) : ScriptT := lstore_q2 s i dJ0 ++ [(12, hvT)]
noncomputable def lstore_p4 (B : Lo) (s : ShStore) (i : Int) (dJ0 : Nat → Value) : List Prop := [(!ltq 8 (↑s.use.length : Int)) = true] ++ lstore_p3 B s i dJ0
noncomputable def lstore_q4 (s : ShStore) (i : Int) (dJ0 : Nat → Value) : ScriptT := lstore_q3 s i dJ0 ++ [(17, hvT)]
theorem lstore_s2 (B : Lo) (s : ShStore) (i : Int) (dJ0 : Nat → Value) : endT (srunT Tryz.prog (okFn Tryz.prog) J0 B 9 1 (headC 36 39 (([1, 3] : List Nat).zip (lstore_v0 s i)) dJ0 lstore_t0) (headH (lstore_o0 s i)) (2 + (lstore_o0 s i).length)
 (lstore_q4 s i dJ0 ++ [(23, hvT)]) 0 [] []) [] = some (Value.bool true,
 [(!ltq 9 (↑s.lots.length : Int)) = true] ++ lstore_p4 B s i dJ0) := by kernel_rfl
theorem lstore_s3 (B : Lo) (s : ShStore) (i : Int) (dJ0 : Nat → Value) : endT (srunT Tryz.prog (okFn Tryz.prog) J0 B 9 1 (headC 36 39 (([1, 3] : List Nat).zip (lstore_v0 s i)) dJ0 lstore_t0) (headH (lstore_o0 s i)) (2 + (lstore_o0 s i).length)
 (lstore_q4 s i dJ0 ++ [(23, hvF)]) 0 [] []) [] = some (Value.bool false,
 [(!ltq 9 (↑s.lots.length : Int)) = false] ++ lstore_p4 B s i dJ0) := by kernel_rfl
theorem lstore_s4 (B : Lo) (s : ShStore) (i : Int) (dJ0 : Nat → Value) : endT (srunT Tryz.prog (okFn Tryz.prog) J0 B 9 1 (headC 36 39 (([1, 3] : List Nat).zip (lstore_v0 s i)) dJ0 lstore_t0) (headH (lstore_o0 s i)) (2 + (lstore_o0 s i).length)
 (lstore_q3 s i dJ0 ++ [(17, hvF)]) 0 [] []) [] = some (Value.bool false,
 [(!ltq 8 (↑s.use.length : Int)) = false] ++ lstore_p3 B s i dJ0) := by kernel_rfl
theorem lstore_s5 (B : Lo) (s : ShStore) (i : Int) (dJ0 : Nat → Value) : endT (srunT Tryz.prog (okFn Tryz.prog) J0 B 9 1 (headC 36 39 (([1, 3] : List Nat).zip (lstore_v0 s i)) dJ0 lstore_t0) (headH (lstore_o0 s i)) (2 + (lstore_o0 s i).length)
 (lstore_q2 s i dJ0 ++ [(12, hvF)]) 0 [] []) [] = some (Value.bool false,
 [(!ltq 8 (↑s.stock.length : Int)) = false] ++ lstore_p2 B s i dJ0) := by kernel_rfl
noncomputable def lstore_p5 (B : Lo) (s : ShStore) (i : Int) (dJ0 : Nat → Value) : List Prop := [ltq i (↑s.lots.length : Int) = false] ++ ([] : List Prop)
noncomputable def lstore_q5 (s : ShStore) (i : Int) (dJ0 : Nat → Value) : ScriptT := [(4, hvF)]
noncomputable def lstore_p6 (B : Lo) (s : ShStore) (i : Int) (dJ0 : Nat → Value) : List Prop := [(!ltq 8 (↑s.stock.length : Int)) = true] ++ lstore_p5 B s i dJ0
noncomputable def lstore_q6 (s : ShStore) (i : Int) (dJ0 : Nat → Value) : ScriptT := lstore_q5 s i dJ0 ++ [(12, hvT)]
noncomputable def lstore_p7 (B : Lo) (s : ShStore) (i : Int) (dJ0 : Nat → Value) : List Prop := [(!ltq 8 (↑s.use.length : Int)) = true] ++ lstore_p6 B s i dJ0
noncomputable def lstore_q7 (s : ShStore) (i : Int) (dJ0 : Nat → Value) : ScriptT := lstore_q6 s i dJ0 ++ [(17, hvT)]
theorem lstore_s6 (B : Lo) (s : ShStore) (i : Int) (dJ0 : Nat → Value) : endT (srunT Tryz.prog (okFn Tryz.prog) J0 B 9 1 (headC 36 39 (([1, 3] : List Nat).zip (lstore_v0 s i)) dJ0 lstore_t0) (headH (lstore_o0 s i)) (2 + (lstore_o0 s i).length)
 (lstore_q7 s i dJ0 ++ [(23, hvT)]) 0 [] []) [] = some (Value.bool true,
 [(!ltq 9 (↑s.lots.length : Int)) = true] ++ lstore_p7 B s i dJ0) := by kernel_rfl
theorem lstore_s7 (B : Lo) (s : ShStore) (i : Int) (dJ0 : Nat → Value) : endT (srunT Tryz.prog (okFn Tryz.prog) J0 B 9 1 (headC 36 39 (([1, 3] : List Nat).zip (lstore_v0 s i)) dJ0 lstore_t0) (headH (lstore_o0 s i)) (2 + (lstore_o0 s i).length)
 (lstore_q7 s i dJ0 ++ [(23, hvF)]) 0 [] []) [] = some (Value.bool false,
 [(!ltq 9 (↑s.lots.length : Int)) = false] ++ lstore_p7 B s i dJ0) := by kernel_rfl
theorem lstore_s8 (B : Lo) (s : ShStore) (i : Int) (dJ0 : Nat → Value) : endT (srunT Tryz.prog (okFn Tryz.prog) J0 B 9 1 (headC 36 39 (([1, 3] : List Nat).zip (lstore_v0 s i)) dJ0 lstore_t0) (headH (lstore_o0 s i)) (2 + (lstore_o0 s i).length)
 (lstore_q6 s i dJ0 ++ [(17, hvF)]) 0 [] []) [] = some (Value.bool false,
 [(!ltq 8 (↑s.use.length : Int)) = false] ++ lstore_p6 B s i dJ0) := by kernel_rfl
theorem lstore_s9 (B : Lo) (s : ShStore) (i : Int) (dJ0 : Nat → Value) : endT (srunT Tryz.prog (okFn Tryz.prog) J0 B 9 1 (headC 36 39 (([1, 3] : List Nat).zip (lstore_v0 s i)) dJ0 lstore_t0) (headH (lstore_o0 s i)) (2 + (lstore_o0 s i).length)
 (lstore_q5 s i dJ0 ++ [(12, hvF)]) 0 [] []) [] = some (Value.bool false,
 [(!ltq 8 (↑s.stock.length : Int)) = false] ++ lstore_p5 B s i dJ0) := by kernel_rfl
theorem lstore_s10 (B : Lo) (s : ShStore) : landM (srunT Tryz.prog (okFn Tryz.prog) J0 B 7 1 (entryC Tryz.prog 36 39 (([.agg (encStore s).toArray]).map (pushT 0 4))) H00 1
 [] 0 [] []) [1, 3] [(1, KS.auto)] [] = some ⟨36, 39, lstore_t0, [], .run, none, lstore_v0 s (0), lstore_o0 s (0),
 []⟩ := by kernel_rfl
set_option maxHeartbeats 4000000 in
theorem lstore_ls (s : ShStore)  (hfacts : s.stock.length ≤ 9223372036854775807 ∧ s.use.length ≤ 9223372036854775807 ∧ s.lots.length ≤ 9223372036854775807) {B : Lo} (hJ : ∀ w, B.has w → J0 w) {c0 : CF} : ∀ m : Nat, (∀ (i : Int), s.lots.length - i.toNat = m → ∀ (h0 : 0 ≤ i), lstore_h0 B c0 s i → EndsT Tryz.prog B c0 (.bool (((s.lots.take 12).drop i.toNat).all (fun l => decide (l.goods.length ≤ 8)) && (decide (s.stock.length ≤ 8) && (decide (s.use.length ≤ 8) && decide (s.lots.length ≤ 9)))))) := by
 intro m0
 induction m0 using Nat.strongRecOn with
 | _ m0 ih0 =>
   intro i hm0 h0 ⟨dJ0, hdJ0, hg0⟩
   by_cases q0 : (i : Int) < ((↑s.lots.length : Int))
   ·
    have hp0 : AllP (lstore_p0 B s i dJ0) := by
     exact ⟨(ltq_t q0), trivial⟩
    by_cases q1 : (i : Int) < (12)
    ·
     have hp1 : AllP (lstore_p1 B s i dJ0) := by
      have s2 := drop_all2 (l := s.lots.take 12) (p := fun l => decide (l.goods.length ≤ 8)) h0 (by rw [List.length_take]; omega)
      have e3 : (s.lots.take 12).getD i.toNat default = s.lots.getD i.toNat default := by simp only [List.getD_eq_getElem?_getD]; rw [List.getElem?_take_of_lt (by omega)]
      rw [e3] at s2
      exact ⟨⟨by omega, by omega, (rowL_extract (z := 3) (fun _ => rfl) (by omega))⟩, ⟨(ltq_t q1), hp0⟩⟩
     by_cases q2 : (8 : Int) < ((↑(List.length (ShLot.goods (List.getD s.lots i.toNat default))) : Int))
     ·
      have s2 := drop_all2 (l := s.lots.take 12) (p := fun l => decide (l.goods.length ≤ 8)) h0 (by rw [List.length_take]; omega)
      have e3 : (s.lots.take 12).getD i.toNat default = s.lots.getD i.toNat default := by simp only [List.getD_eq_getElem?_getD]; rw [List.getElem?_take_of_lt (by omega)]
      rw [e3] at s2
      rw [decide_eq_false (by omega)] at s2
      exact (GoE.endsT okF hJ mixed_ok hg0 (lstore_s0 B s i dJ0)
       ⟨(ltq_t q2), hp1⟩).cast (by (simp only [s2, Bool.true_and, Bool.false_and]; done))
     ·
      have s2 := drop_all2 (l := s.lots.take 12) (p := fun l => decide (l.goods.length ≤ 8)) h0 (by rw [List.length_take]; omega)
      have e3 : (s.lots.take 12).getD i.toNat default = s.lots.getD i.toNat default := by simp only [List.getD_eq_getElem?_getD]; rw [List.getElem?_take_of_lt (by omega)]
      rw [e3] at s2
      rw [decide_eq_true (by omega)] at s2
      exact ((ih0 _ (by omega)) (i + 1) rfl (by omega)
       (hg0.landM okF hJ mixed_ok (lstore_s1 B s i dJ0)
       ⟨(wq_in (by omega) (by omega)), ⟨(ltq_f (Int.not_lt.1 q2)), hp1⟩⟩ (by kernel_rfl) (by kernel_rfl))).cast (by (simp only [s2, Bool.true_and, Bool.false_and]; done))
    ·
     have hp2 : AllP (lstore_p2 B s i dJ0) := by
      exact ⟨(ltq_f (Int.not_lt.1 q1)), hp0⟩
     by_cases q2 : ((↑s.stock.length : Int) : Int) ≤ (8)
     ·
      have hp3 : AllP (lstore_p3 B s i dJ0) := by
       exact ⟨(nltq_t q2), hp2⟩
      by_cases q3 : ((↑s.use.length : Int) : Int) ≤ (8)
      ·
       have hp4 : AllP (lstore_p4 B s i dJ0) := by
        exact ⟨(nltq_t q3), hp3⟩
       by_cases q4 : ((↑s.lots.length : Int) : Int) ≤ (9)
       ·
        have s2 := drop_all2 (l := s.lots.take 12) (p := fun l => decide (l.goods.length ≤ 8)) h0 (by rw [List.length_take]; omega)
        have e3 : (s.lots.take 12).getD i.toNat default = s.lots.getD i.toNat default := by simp only [List.getD_eq_getElem?_getD]; rw [List.getElem?_take_of_lt (by omega)]
        rw [e3] at s2
        rw [decide_eq_true (by omega)] at s2
        have s2 := drop_nil2 (l := s.lots.take 12) (p := fun l => decide (l.goods.length ≤ 8)) (i := i) (by rw [List.length_take]; omega)
        exact (GoE.endsT okF hJ mixed_ok hg0 (lstore_s2 B s i dJ0)
         ⟨(nltq_t q4), hp4⟩).cast (by (simp only [s2, Bool.true_and]; simp_all; omega))
       ·
        have s2 := drop_nil2 (l := s.lots.take 12) (p := fun l => decide (l.goods.length ≤ 8)) (i := i) (by rw [List.length_take]; omega)
        exact (GoE.endsT okF hJ mixed_ok hg0 (lstore_s3 B s i dJ0)
         ⟨(nltq_f (Int.not_le.1 q4)), hp4⟩).cast (by (simp only [s2, Bool.true_and]; simp_all; omega))
      ·
       have s2 := drop_nil2 (l := s.lots.take 12) (p := fun l => decide (l.goods.length ≤ 8)) (i := i) (by rw [List.length_take]; omega)
       exact (GoE.endsT okF hJ mixed_ok hg0 (lstore_s4 B s i dJ0)
        ⟨(nltq_f (Int.not_le.1 q3)), hp3⟩).cast (by (simp only [s2, Bool.true_and]; simp_all; omega))
     ·
      have s2 := drop_nil2 (l := s.lots.take 12) (p := fun l => decide (l.goods.length ≤ 8)) (i := i) (by rw [List.length_take]; omega)
      exact (GoE.endsT okF hJ mixed_ok hg0 (lstore_s5 B s i dJ0)
       ⟨(nltq_f (Int.not_le.1 q2)), hp2⟩).cast (by (simp only [s2, Bool.true_and]; simp_all; omega))
   ·
    have hp5 : AllP (lstore_p5 B s i dJ0) := by
     exact ⟨(ltq_f (Int.not_lt.1 q0)), trivial⟩
    by_cases q1 : ((↑s.stock.length : Int) : Int) ≤ (8)
    ·
     have hp6 : AllP (lstore_p6 B s i dJ0) := by
      exact ⟨(nltq_t q1), hp5⟩
     by_cases q2 : ((↑s.use.length : Int) : Int) ≤ (8)
     ·
      have hp7 : AllP (lstore_p7 B s i dJ0) := by
       exact ⟨(nltq_t q2), hp6⟩
      by_cases q3 : ((↑s.lots.length : Int) : Int) ≤ (9)
      ·
       have s2 := drop_nil2 (l := s.lots.take 12) (p := fun l => decide (l.goods.length ≤ 8)) (i := i) (by rw [List.length_take]; omega)
       exact (GoE.endsT okF hJ mixed_ok hg0 (lstore_s6 B s i dJ0)
        ⟨(nltq_t q3), hp7⟩).cast (by (simp only [s2, Bool.true_and]; simp_all; omega))
      ·
       have s2 := drop_nil2 (l := s.lots.take 12) (p := fun l => decide (l.goods.length ≤ 8)) (i := i) (by rw [List.length_take]; omega)
       exact (GoE.endsT okF hJ mixed_ok hg0 (lstore_s7 B s i dJ0)
        ⟨(nltq_f (Int.not_le.1 q3)), hp7⟩).cast (by (simp only [s2, Bool.true_and]; simp_all; omega))
     ·
      have s2 := drop_nil2 (l := s.lots.take 12) (p := fun l => decide (l.goods.length ≤ 8)) (i := i) (by rw [List.length_take]; omega)
      exact (GoE.endsT okF hJ mixed_ok hg0 (lstore_s8 B s i dJ0)
       ⟨(nltq_f (Int.not_le.1 q2)), hp6⟩).cast (by (simp only [s2, Bool.true_and]; simp_all; omega))
    ·
     have s2 := drop_nil2 (l := s.lots.take 12) (p := fun l => decide (l.goods.length ≤ 8)) (i := i) (by rw [List.length_take]; omega)
     exact (GoE.endsT okF hJ mixed_ok hg0 (lstore_s9 B s i dJ0)
      ⟨(nltq_f (Int.not_le.1 q1)), hp5⟩).cast (by (simp only [s2, Bool.true_and]; simp_all; omega))
set_option maxHeartbeats 4000000 in
theorem lstore_e (s : ShStore)  (hfacts : s.stock.length ≤ 9223372036854775807 ∧ s.use.length ≤ 9223372036854775807 ∧ s.lots.length ≤ 9223372036854775807) {B : Lo} (hJ : ∀ w, B.has w → J0 w) : EndsT Tryz.prog B (entryC Tryz.prog 36 39 (([.agg (encStore s).toArray]).map (pushT 0 4))) (.bool (((s.lots.take 12).all fun l => decide (l.goods.length ≤ 8)) && (decide (s.stock.length ≤ 8) && (decide (s.use.length ≤ 8) && decide (s.lots.length ≤ 9))))) := by
 exact ((lstore_ls s hfacts hJ _) (0) rfl (by omega)
  (GoE.start.landM okF hJ mixed_ok (lstore_s10 B s)
  trivial (by kernel_rfl) (by kernel_rfl))).cast (by rfl)
theorem lstore (s : ShStore)  : PureC Tryz.prog J0 36 #[.agg (encStore s).toArray] (.bool (((s.lots.take 12).all fun l => decide (l.goods.length ≤ 8)) && (decide (s.stock.length ≤ 8) && (decide (s.use.length ≤ 8) && decide (s.lots.length ≤ 9))))) :=
 pureC_ofF (ts := [.agg (encStore s).toArray]) (s.stock.length ≤ 9223372036854775807 ∧ s.use.length ≤ 9223372036854775807 ∧ s.lots.length ≤ 9223372036854775807) (fun _ _ ht => ⟨ht.ln2 (i := 0) (j := 0) rfl rfl, ht.ln2 (i := 0) (j := 1) rfl rfl, ht.ln2 (i := 0) (j := 4) rfl rfl⟩) J0_st (c0 := entryC Tryz.prog 36 39 (([.agg (encStore s).toArray]).map (pushT 0 4))) (by kernel_rfl) (by kernel_rfl) fun hfacts B hJ => lstore_e s  hfacts hJ
end Go.Proofs.YtiabgkiccaodmaaGreat

namespace Go.Proofs.YtiabgkiccaodmaaGreat
open Go Go.CE Go.RowKit
set_option maxRecDepth 100000
def prevOf (l : List Int) (i : Int) : Int := if 0 < i then l.getD (i - 1).toNat default else -1
def wsum (s : ShStore) (l : List Int) : Int := sumL (l.map fun x => (s.lots.getD x.toNat default).weight)
theorem wsum_cons {s : ShStore} {i : Int} {l : List Int} (h0 : 0 ≤ i) (h : i < l.length) : wsum s (l.drop i.toNat) = (s.lots.getD (l.getD i.toNat default).toNat default).weight + wsum s (l.drop (i + 1).toNat) := by
 obtain ⟨k, rfl⟩ : ∃ k : Nat, i = k := ⟨i.toNat, by omega⟩
 have hk : k < l.length := by omega
 have e1 : ((k : Int)).toNat = k := by omega
 have e2 : ((k : Int) + 1).toNat = k + 1 := by omega
 unfold wsum
 rw [e1, e2, List.drop_eq_getElem_cons hk, List.map_cons]
 simp [sumL, List.getD_eq_getElem?_getD, hk]
theorem wsum_nil {s : ShStore} {i : Int} {l : List Int} (h : l.length ≤ i) : wsum s (l.drop i.toNat) = 0 := by
 rw [List.drop_eq_nil_of_le (by omega)]; rfl
theorem prevOf_next {l : List Int} {i : Int} (h0 : 0 ≤ i) : prevOf l (i + 1) = l.getD i.toNat default := by
 unfold prevOf; rw [if_pos (by omega), show i + 1 - 1 = i by omega]
theorem notIn5 {x lo hi : Int} (q : inB x lo hi = false) : ¬ (lo ≤ x ∧ x ≤ hi) := fun h => by rw [inB_iff.2 h] at q; cases q
theorem notB {x lo hi : Int} (h : ¬ (lo ≤ x ∧ x ≤ hi)) : inB x lo hi = false := by
 cases hc : inB x lo hi with
 | false => rfl
 | true => exact absurd (inB_iff.1 hc) h
def rLoad_v0 (s : ShStore) (load : List Int) (w i : Int) : List Value := [topV 1 (slT load.length (rowL encI load)), pA 2 0, .int .i64 w, .int .i64 i]
def rLoad_o0 (s : ShStore) (load : List Int) (w i : Int) : List Obj := [Obj.cells #[topV 1 (slT s.stock.length (rowL encI s.stock)), topV 1 (slT s.use.length (rowL encSp s.use)), .int .i64 s.glo, .int .i64 s.ghi, topV 1 (slT s.lots.length (rowL encLot s.lots)), .int .i64 s.hold] 62]
noncomputable def rLoad_t0 : List Item := ([.code [1, 1, 0, 1, 0, 0], .inLoop [1, 1, 0, 1, 0, 0], .inBlock 0, .code [1, 1, 1]]).map (it (bodyOf Tryz.prog 56))
def rLoad_h0 (B : Lo) (c0 : CF) (s : ShStore) (load : List Int) (w i : Int) : Prop := ∃ dJ : Nat → Value, (∀ t, Loose (dJ t)) ∧ GoE Tryz.prog B c0 H00 1 (headC 56 54 (([1, 2, 5, 6] : List Nat).zip (rLoad_v0 s load w i)) dJ rLoad_t0) (headH (rLoad_o0 s load w i)) (2 + (rLoad_o0 s load w i).length) []
noncomputable def rLoad_z0 (s : ShStore) (load : List Int) (i : Int) : Array Value := #[slT (List.length (ShLot.goods (List.getD s.lots (Int.toNat (List.getD load i.toNat default)) default))) (rowL encSp (ShLot.goods (List.getD s.lots (Int.toNat (List.getD load i.toNat default)) default))), .int .i64 (ShLot.weight (List.getD s.lots (Int.toNat (List.getD load i.toNat default)) default)), .int .i64 (ShLot.cost (List.getD s.lots (Int.toNat (List.getD load i.toNat default)) default))]
noncomputable def rLoad_p0 (B : Lo) (s : ShStore) (load : List Int) (w i : Int) (dJ0 : Nat → Value) : List Prop := [wq ((↑s.lots.length : Int) - 1) = (↑s.lots.length : Int) - 1, i = (↑i.toNat : Int) ∧ Int.toNat i < List.length load ∧ Array.extract (rowL encI load) (Int.toNat i * TypeInfo.size Tryz.t3) (Int.toNat i * TypeInfo.size Tryz.t3 + TypeInfo.size Tryz.t3) = #[.int .i64 (List.getD load i.toNat default)], ltq i (↑load.length : Int) = true] ++ ([] : List Prop)
noncomputable def rLoad_q0 (s : ShStore) (load : List Int) (w i : Int) (dJ0 : Nat → Value) : ScriptT := [(3, hvT), (6, HintT.tidx i.toNat #[.int .i64 (List.getD load i.toNat default)]), (11, hvI ((↑s.lots.length : Int) - 1))]
noncomputable def rLoad_p1 (B : Lo) (s : ShStore) (load : List Int) (w i : Int) (dJ0 : Nat → Value) : List Prop := [AllP [] ∧ PureC Tryz.prog J0 69 #[.int .i64 (List.getD load i.toNat default), .int .i64 0, .int .i64 ((↑s.lots.length : Int) - 1)] (Value.bool true)] ++ rLoad_p0 B s load w i dJ0
noncomputable def rLoad_q1 (s : ShStore) (load : List Int) (w i : Int) (dJ0 : Nat → Value) : ScriptT := rLoad_q0 s load w i dJ0 ++ [(12, HintT.pure (Value.bool true) [])]
noncomputable def rLoad_p2 (B : Lo) (s : ShStore) (load : List Int) (w i : Int) (dJ0 : Nat → Value) : List Prop := [i - 1 = (↑(Int.toNat (i - 1)) : Int) ∧ Int.toNat (i - 1) < List.length load ∧ Array.extract (rowL encI load) (Int.toNat (i - 1) * TypeInfo.size Tryz.t3) (Int.toNat (i - 1) * TypeInfo.size Tryz.t3 + TypeInfo.size Tryz.t3) = #[.int .i64 (List.getD load (Int.toNat (i - 1)) default)], wq (i - 1) = i - 1, i = (↑i.toNat : Int) ∧ Int.toNat i < List.length load ∧ Array.extract (rowL encI load) (Int.toNat i * TypeInfo.size Tryz.t3) (Int.toNat i * TypeInfo.size Tryz.t3 + TypeInfo.size Tryz.t3) = #[.int .i64 (List.getD load i.toNat default)], ltq 0 i = true] ++ rLoad_p1 B s load w i dJ0
noncomputable def rLoad_q2 (s : ShStore) (load : List Int) (w i : Int) (dJ0 : Nat → Value) : ScriptT := rLoad_q1 s load w i dJ0 ++ [(16, hvT), (20, HintT.tidx i.toNat #[.int .i64 (List.getD load i.toNat default)]), (24, hvI (i - 1)), (25, HintT.tidx (Int.toNat (i - 1)) #[.int .i64 (List.getD load (Int.toNat (i - 1)) default)])]
theorem rLoad_s0 (B : Lo) (s : ShStore) (load : List Int) (w i : Int) (dJ0 : Nat → Value) : endT (srunT Tryz.prog (okFn Tryz.prog) J0 B 15 1 (headC 56 54 (([1, 2, 5, 6] : List Nat).zip (rLoad_v0 s load w i)) dJ0 rLoad_t0) (headH (rLoad_o0 s load w i)) (2 + (rLoad_o0 s load w i).length)
 (rLoad_q2 s load w i dJ0 ++ [(27, hvT)]) 0 [] []) [] = some (Value.bool false,
 [(!ltq (List.getD load (Int.toNat (i - 1)) default) (List.getD load i.toNat default)) = true] ++ rLoad_p2 B s load w i dJ0) := by kernel_rfl
theorem rLoad_s1 (B : Lo) (s : ShStore) (load : List Int) (w i : Int) (dJ0 : Nat → Value) : landM (srunT Tryz.prog (okFn Tryz.prog) J0 B 16 1 (headC 56 54 (([1, 2, 5, 6] : List Nat).zip (rLoad_v0 s load w i)) dJ0 rLoad_t0) (headH (rLoad_o0 s load w i)) (2 + (rLoad_o0 s load w i).length)
 (rLoad_q2 s load w i dJ0 ++ [(27, hvF), (35, HintT.tidx i.toNat #[.int .i64 (List.getD load i.toNat default)]), (37, HintT.tidx (Int.toNat (List.getD load i.toNat default)) (rLoad_z0 s load i)), (40, hvI (w + ShLot.weight (List.getD s.lots (Int.toNat (List.getD load i.toNat default)) default))), (43, hvI (i + 1))]) 0 [] []) [1, 2, 5, 6] [(2, KS.auto)] [] = some ⟨56, 54, rLoad_t0, [], .run, none, rLoad_v0 s load (w + ShLot.weight (List.getD s.lots (Int.toNat (List.getD load i.toNat default)) default)) (i + 1), rLoad_o0 s load (w + ShLot.weight (List.getD s.lots (Int.toNat (List.getD load i.toNat default)) default)) (i + 1),
 [wq (i + 1) = i + 1, wq (w + ShLot.weight (List.getD s.lots (Int.toNat (List.getD load i.toNat default)) default)) = w + ShLot.weight (List.getD s.lots (Int.toNat (List.getD load i.toNat default)) default), List.getD load i.toNat default = (↑(Int.toNat (List.getD load i.toNat default)) : Int) ∧ Int.toNat (List.getD load i.toNat default) < List.length s.lots ∧ Array.extract (rowL encLot s.lots) (Int.toNat (List.getD load i.toNat default) * TypeInfo.size Tryz.t118) (Int.toNat (List.getD load i.toNat default) * TypeInfo.size Tryz.t118 + TypeInfo.size Tryz.t118) = (rLoad_z0 s load i), i = (↑i.toNat : Int) ∧ Int.toNat i < List.length load ∧ Array.extract (rowL encI load) (Int.toNat i * TypeInfo.size Tryz.t3) (Int.toNat i * TypeInfo.size Tryz.t3 + TypeInfo.size Tryz.t3) = #[.int .i64 (List.getD load i.toNat default)], (!ltq (List.getD load (Int.toNat (i - 1)) default) (List.getD load i.toNat default)) = false] ++ rLoad_p2 B s load w i dJ0⟩ := by kernel_rfl
theorem rLoad_s2 (B : Lo) (s : ShStore) (load : List Int) (w i : Int) (dJ0 : Nat → Value) : landM (srunT Tryz.prog (okFn Tryz.prog) J0 B 16 1 (headC 56 54 (([1, 2, 5, 6] : List Nat).zip (rLoad_v0 s load w i)) dJ0 rLoad_t0) (headH (rLoad_o0 s load w i)) (2 + (rLoad_o0 s load w i).length)
 (rLoad_q1 s load w i dJ0 ++ [(16, hvF), (35, HintT.tidx i.toNat #[.int .i64 (List.getD load i.toNat default)]), (37, HintT.tidx (Int.toNat (List.getD load i.toNat default)) (rLoad_z0 s load i)), (40, hvI (w + ShLot.weight (List.getD s.lots (Int.toNat (List.getD load i.toNat default)) default))), (43, hvI (i + 1))]) 0 [] []) [1, 2, 5, 6] [(2, KS.auto)] [] = some ⟨56, 54, rLoad_t0, [], .run, none, rLoad_v0 s load (w + ShLot.weight (List.getD s.lots (Int.toNat (List.getD load i.toNat default)) default)) (i + 1), rLoad_o0 s load (w + ShLot.weight (List.getD s.lots (Int.toNat (List.getD load i.toNat default)) default)) (i + 1),
 [wq (i + 1) = i + 1, wq (w + ShLot.weight (List.getD s.lots (Int.toNat (List.getD load i.toNat default)) default)) = w + ShLot.weight (List.getD s.lots (Int.toNat (List.getD load i.toNat default)) default), List.getD load i.toNat default = (↑(Int.toNat (List.getD load i.toNat default)) : Int) ∧ Int.toNat (List.getD load i.toNat default) < List.length s.lots ∧ Array.extract (rowL encLot s.lots) (Int.toNat (List.getD load i.toNat default) * TypeInfo.size Tryz.t118) (Int.toNat (List.getD load i.toNat default) * TypeInfo.size Tryz.t118 + TypeInfo.size Tryz.t118) = (rLoad_z0 s load i), i = (↑i.toNat : Int) ∧ Int.toNat i < List.length load ∧ Array.extract (rowL encI load) (Int.toNat i * TypeInfo.size Tryz.t3) (Int.toNat i * TypeInfo.size Tryz.t3 + TypeInfo.size Tryz.t3) = #[.int .i64 (List.getD load i.toNat default)], ltq 0 i = false] ++ rLoad_p1 B s load w i dJ0⟩ := by kernel_rfl
theorem rLoad_s3 (B : Lo) (s : ShStore) (load : List Int) (w i : Int) (dJ0 : Nat → Value) : endT (srunT Tryz.prog (okFn Tryz.prog) J0 B 15 1 (headC 56 54 (([1, 2, 5, 6] : List Nat).zip (rLoad_v0 s load w i)) dJ0 rLoad_t0) (headH (rLoad_o0 s load w i)) (2 + (rLoad_o0 s load w i).length)
 (rLoad_q0 s load w i dJ0 ++ [(12, HintT.pure (Value.bool false) [])]) 0 [] []) [] = some (Value.bool false,
 [AllP [] ∧ PureC Tryz.prog J0 69 #[.int .i64 (List.getD load i.toNat default), .int .i64 0, .int .i64 ((↑s.lots.length : Int) - 1)] (Value.bool false)] ++ rLoad_p0 B s load w i dJ0) := by kernel_rfl
noncomputable def rLoad_p3 (B : Lo) (s : ShStore) (load : List Int) (w i : Int) (dJ0 : Nat → Value) : List Prop := [ltq i (↑load.length : Int) = false] ++ ([] : List Prop)
noncomputable def rLoad_q3 (s : ShStore) (load : List Int) (w i : Int) (dJ0 : Nat → Value) : ScriptT := [(3, hvF)]
theorem rLoad_s4 (B : Lo) (s : ShStore) (load : List Int) (w i : Int) (dJ0 : Nat → Value) : endT (srunT Tryz.prog (okFn Tryz.prog) J0 B 9 1 (headC 56 54 (([1, 2, 5, 6] : List Nat).zip (rLoad_v0 s load w i)) dJ0 rLoad_t0) (headH (rLoad_o0 s load w i)) (2 + (rLoad_o0 s load w i).length)
 (rLoad_q3 s load w i dJ0 ++ [(7, hvT)]) 0 [] []) [] = some (Value.bool true,
 [(!ltq s.hold w) = true] ++ rLoad_p3 B s load w i dJ0) := by kernel_rfl
theorem rLoad_s5 (B : Lo) (s : ShStore) (load : List Int) (w i : Int) (dJ0 : Nat → Value) : endT (srunT Tryz.prog (okFn Tryz.prog) J0 B 9 1 (headC 56 54 (([1, 2, 5, 6] : List Nat).zip (rLoad_v0 s load w i)) dJ0 rLoad_t0) (headH (rLoad_o0 s load w i)) (2 + (rLoad_o0 s load w i).length)
 (rLoad_q3 s load w i dJ0 ++ [(7, hvF)]) 0 [] []) [] = some (Value.bool false,
 [(!ltq s.hold w) = false] ++ rLoad_p3 B s load w i dJ0) := by kernel_rfl
theorem rLoad_s6 (B : Lo) (s : ShStore) (load : List Int) : landM (srunT Tryz.prog (okFn Tryz.prog) J0 B 9 1 (entryC Tryz.prog 56 54 (([.agg (encStore s).toArray, slI load]).map (pushT 0 4))) H00 1
 [] 0 [] []) [1, 2, 5, 6] [(1, KS.auto)] [] = some ⟨56, 54, rLoad_t0, [], .run, none, rLoad_v0 s load (0) (0), rLoad_o0 s load (0) (0),
 []⟩ := by kernel_rfl
set_option maxHeartbeats 4000000 in
theorem rLoad_ls (s : ShStore) (load : List Int) (hs : storeB s = true) (hl : load.length ≤ 10) {B : Lo} (hJ : ∀ w, B.has w → J0 w) {c0 : CF} : ∀ m : Nat, (∀ (w i : Int), load.length - i.toNat = m → ∀ (h0 : 0 ≤ i) (h1 : 0 ≤ w ∧ w ≤ 100000 * i) (hp : -1 ≤ prevOf load i), rLoad_h0 B c0 s load w i → EndsT Tryz.prog B c0 (.bool (numsB s.lots.length (load.drop i.toNat) (prevOf load i + 1) && decide (w + wsum s (load.drop i.toNat) ≤ s.hold)))) := by
 intro m0
 induction m0 using Nat.strongRecOn with
 | _ m0 ih0 =>
   intro w i hm0 h0 h1 hp ⟨dJ0, hdJ0, hg0⟩
   have hm := store_lots hs
   have g3 := prevOf_next (l := load) h0
   by_cases q0 : (i : Int) < ((↑load.length : Int))
   ·
    have hp0 : AllP (rLoad_p0 B s load w i dJ0) := by
     have s2 := numsB_cons (things := s.lots.length) (least := prevOf load i + 1) (l := load) h0 q0
     have s3 := wsum_cons (s := s) h0 q0
     exact ⟨(wq_in (by omega) (by omega)), ⟨⟨by omega, by omega, (rowL_extract (z := 1) (fun _ => rfl) (by omega))⟩, ⟨(ltq_t q0), trivial⟩⟩⟩
    cases q1 : inB (List.getD load i.toNat default) 0 ((↑s.lots.length : Int) - 1) with
    | true =>
      have hp1 : AllP (rLoad_p1 B s load w i dJ0) := by
       have s2 := numsB_cons (things := s.lots.length) (least := prevOf load i + 1) (l := load) h0 q0
       have s3 := wsum_cons (s := s) h0 q0
       have g1 := inB_iff.1 ‹inB (load.getD i.toNat default) 0 _ = true›
       have g2 := lot_facts (hm.2 _ (getD_mem (l := s.lots) (i := load.getD i.toNat default) (by omega) (by omega)))
       exact ⟨⟨trivial, (by have t_ := rin (List.getD load i.toNat default) (0) ((↑s.lots.length : Int) - 1); rw [q1] at t_; exact t_)⟩, hp0⟩
      by_cases q2 : (0 : Int) < (i)
      ·
       have hp2 : AllP (rLoad_p2 B s load w i dJ0) := by
        have s2 := numsB_cons (things := s.lots.length) (least := prevOf load i + 1) (l := load) h0 q0
        have s3 := wsum_cons (s := s) h0 q0
        have g1 := inB_iff.1 ‹inB (load.getD i.toNat default) 0 _ = true›
        have g2 := lot_facts (hm.2 _ (getD_mem (l := s.lots) (i := load.getD i.toNat default) (by omega) (by omega)))
        have pv : prevOf load i = load.getD (i - 1).toNat default := if_pos ‹0 < i›
        exact ⟨⟨by omega, by omega, (rowL_extract (z := 1) (fun _ => rfl) (by omega))⟩, ⟨(wq_in (by omega) (by omega)), ⟨⟨by omega, by omega, (rowL_extract (z := 1) (fun _ => rfl) (by omega))⟩, ⟨(ltq_t q2), hp1⟩⟩⟩⟩
       by_cases q3 : (List.getD load i.toNat default : Int) ≤ (List.getD load (Int.toNat (i - 1)) default)
       ·
        have s2 := numsB_cons (things := s.lots.length) (least := prevOf load i + 1) (l := load) h0 q0
        have s3 := wsum_cons (s := s) h0 q0
        have g1 := inB_iff.1 ‹inB (load.getD i.toNat default) 0 _ = true›
        have g2 := lot_facts (hm.2 _ (getD_mem (l := s.lots) (i := load.getD i.toNat default) (by omega) (by omega)))
        have pv : prevOf load i = load.getD (i - 1).toNat default := if_pos ‹0 < i›
        have et : inB (load.getD i.toNat default) (prevOf load i + 1) ((s.lots.length : Int) - 1) = false := notB (by omega)
        exact (GoE.endsT okF hJ mixed_ok hg0 (rLoad_s0 B s load w i dJ0)
         ⟨(nltq_t q3), hp2⟩).cast (by (rw [s2, et]; rfl))
       ·
        have s2 := numsB_cons (things := s.lots.length) (least := prevOf load i + 1) (l := load) h0 q0
        have s3 := wsum_cons (s := s) h0 q0
        have g1 := inB_iff.1 ‹inB (load.getD i.toNat default) 0 _ = true›
        have g2 := lot_facts (hm.2 _ (getD_mem (l := s.lots) (i := load.getD i.toNat default) (by omega) (by omega)))
        have pv : prevOf load i = load.getD (i - 1).toNat default := if_pos ‹0 < i›
        have et : inB (load.getD i.toNat default) (prevOf load i + 1) ((s.lots.length : Int) - 1) = true := inB_iff.2 (by omega)
        exact ((ih0 _ (by omega)) (w + ShLot.weight (List.getD s.lots (Int.toNat (List.getD load i.toNat default)) default)) (i + 1) rfl (by omega) (by omega) (by omega)
         (hg0.landM okF hJ mixed_ok (rLoad_s1 B s load w i dJ0)
         ⟨(wq_in (by omega) (by omega)), ⟨(wq_in (by omega) (by omega)), ⟨⟨by omega, by omega, (rowL_extract (z := 3) (fun _ => rfl) (by omega))⟩, ⟨⟨by omega, by omega, (rowL_extract (z := 1) (fun _ => rfl) (by omega))⟩, ⟨(nltq_f (Int.not_le.1 q3)), hp2⟩⟩⟩⟩⟩ (by kernel_rfl) (by kernel_rfl))).cast (by (rw [s2, s3, et, g3, Int.add_assoc]; rfl))
      ·
       have s2 := numsB_cons (things := s.lots.length) (least := prevOf load i + 1) (l := load) h0 q0
       have s3 := wsum_cons (s := s) h0 q0
       have g1 := inB_iff.1 ‹inB (load.getD i.toNat default) 0 _ = true›
       have g2 := lot_facts (hm.2 _ (getD_mem (l := s.lots) (i := load.getD i.toNat default) (by omega) (by omega)))
       have pv : prevOf load i = -1 := if_neg ‹¬ 0 < i›
       have et : inB (load.getD i.toNat default) (prevOf load i + 1) ((s.lots.length : Int) - 1) = true := inB_iff.2 (by omega)
       exact ((ih0 _ (by omega)) (w + ShLot.weight (List.getD s.lots (Int.toNat (List.getD load i.toNat default)) default)) (i + 1) rfl (by omega) (by omega) (by omega)
        (hg0.landM okF hJ mixed_ok (rLoad_s2 B s load w i dJ0)
        ⟨(wq_in (by omega) (by omega)), ⟨(wq_in (by omega) (by omega)), ⟨⟨by omega, by omega, (rowL_extract (z := 3) (fun _ => rfl) (by omega))⟩, ⟨⟨by omega, by omega, (rowL_extract (z := 1) (fun _ => rfl) (by omega))⟩, ⟨(ltq_f (Int.not_lt.1 q2)), hp1⟩⟩⟩⟩⟩ (by kernel_rfl) (by kernel_rfl))).cast (by (rw [s2, s3, et, g3, Int.add_assoc]; rfl))
    | false =>
      have s2 := numsB_cons (things := s.lots.length) (least := prevOf load i + 1) (l := load) h0 q0
      have s3 := wsum_cons (s := s) h0 q0
      have g1n : ¬ (0 ≤ load.getD i.toNat default ∧ load.getD i.toNat default ≤ (s.lots.length : Int) - 1) := notIn5 ‹inB (load.getD i.toNat default) 0 _ = false›
      have et : inB (load.getD i.toNat default) (prevOf load i + 1) ((s.lots.length : Int) - 1) = false := notB (by omega)
      exact (GoE.endsT okF hJ mixed_ok hg0 (rLoad_s3 B s load w i dJ0)
       ⟨⟨trivial, (by have t_ := rin (List.getD load i.toNat default) (0) ((↑s.lots.length : Int) - 1); rw [q1] at t_; exact t_)⟩, hp0⟩).cast (by (rw [s2, et]; rfl))
   ·
    have hp3 : AllP (rLoad_p3 B s load w i dJ0) := by
     exact ⟨(ltq_f (Int.not_lt.1 q0)), trivial⟩
    by_cases q1 : (w : Int) ≤ s.hold
    ·
     have s2 := numsB_nil (things := s.lots.length) (least := prevOf load i + 1) (l := load) (i := i) (by omega)
     have s3 := wsum_nil (s := s) (l := load) (i := i) (by omega)
     exact (GoE.endsT okF hJ mixed_ok hg0 (rLoad_s4 B s load w i dJ0)
      ⟨(nltq_t q1), hp3⟩).cast (by (rw [s2, s3]; simp_all; done))
    ·
     have s2 := numsB_nil (things := s.lots.length) (least := prevOf load i + 1) (l := load) (i := i) (by omega)
     have s3 := wsum_nil (s := s) (l := load) (i := i) (by omega)
     exact (GoE.endsT okF hJ mixed_ok hg0 (rLoad_s5 B s load w i dJ0)
      ⟨(nltq_f (Int.not_le.1 q1)), hp3⟩).cast (by (rw [s2, s3]; simp_all; done))
set_option maxHeartbeats 4000000 in
theorem rLoad_e (s : ShStore) (load : List Int) (hs : storeB s = true) (hl : load.length ≤ 10) {B : Lo} (hJ : ∀ w, B.has w → J0 w) : EndsT Tryz.prog B (entryC Tryz.prog 56 54 (([.agg (encStore s).toArray, slI load]).map (pushT 0 4))) (.bool (numsB s.lots.length load 0 && decide (wsum s load ≤ s.hold))) := by
 have hm := store_lots hs
 exact ((rLoad_ls s load hs hl hJ _) (0) (0) rfl (by omega) (by omega) (by (simp [prevOf]; done))
  (GoE.start.landM okF hJ mixed_ok (rLoad_s6 B s load)
  trivial (by kernel_rfl) (by kernel_rfl))).cast (by simp [prevOf])
theorem rLoad (s : ShStore) (load : List Int) (hs : storeB s = true) (hl : load.length ≤ 10) : PureC Tryz.prog J0 56 #[.agg (encStore s).toArray, slI load] (.bool (numsB s.lots.length load 0 && decide (wsum s load ≤ s.hold))) :=
 pureC_of (ts := [.agg (encStore s).toArray, slI load]) J0_st (c0 := entryC Tryz.prog 56 54 (([.agg (encStore s).toArray, slI load]).map (pushT 0 4))) (by kernel_rfl) (by kernel_rfl) fun B hJ => rLoad_e s load hs hl hJ
theorem rDays_s0 (B : Lo) (n : Int) : endT (srunT Tryz.prog (okFn Tryz.prog) J0 B 6 1 (entryC Tryz.prog 52 5 (([.int .i64 n]).map (pushT 0 4))) H00 1
 [(2, HintT.pure (Value.bool true) [])] 0 [] []) [] = some (Value.bool true,
 [AllP [] ∧ PureC Tryz.prog J0 69 #[.int .i64 n, .int .i64 0, .int .i64 300] (Value.bool true)]) := by kernel_rfl
theorem rDays_s1 (B : Lo) (n : Int) : endT (srunT Tryz.prog (okFn Tryz.prog) J0 B 6 1 (entryC Tryz.prog 52 5 (([.int .i64 n]).map (pushT 0 4))) H00 1
 [(2, HintT.pure (Value.bool false) [])] 0 [] []) [] = some (Value.bool false,
 [AllP [] ∧ PureC Tryz.prog J0 69 #[.int .i64 n, .int .i64 0, .int .i64 300] (Value.bool false)]) := by kernel_rfl
set_option maxHeartbeats 4000000 in
theorem rDays_e (n : Int)  {B : Lo} (hJ : ∀ w, B.has w → J0 w) : EndsT Tryz.prog B (entryC Tryz.prog 52 5 (([.int .i64 n]).map (pushT 0 4))) (.bool (inB n 0 300)) := by
 cases q0 : inB n 0 300 with
 | true =>
   exact (GoE.endsT okF hJ mixed_ok GoE.start (rDays_s0 B n)
    ⟨⟨trivial, (by have t_ := rin (n) (0) (300); rw [q0] at t_; exact t_)⟩, trivial⟩).cast (by rfl)
 | false =>
   exact (GoE.endsT okF hJ mixed_ok GoE.start (rDays_s1 B n)
    ⟨⟨trivial, (by have t_ := rin (n) (0) (300); rw [q0] at t_; exact t_)⟩, trivial⟩).cast (by rfl)
theorem rDays (n : Int)  : PureC Tryz.prog J0 52 #[.int .i64 n] (.bool (inB n 0 300)) :=
 pureC_of (ts := [.int .i64 n]) J0_st (c0 := entryC Tryz.prog 52 5 (([.int .i64 n]).map (pushT 0 4))) (by kernel_rfl) (by kernel_rfl) fun B hJ => rDays_e n  hJ
def allGR (s : ShStore) (all : List Row) (i : Int) : Bool := (upI i all.length).all fun k => decide ((all.getD k.toNat default).length = s.stock.length) && allU (all.getD k.toNat default) (s.lots.getD k.toNat default).goods 0
theorem allGR_cons {s : ShStore} {all : List Row} {i : Int} (h : i < all.length) : allGR s all i = ((decide ((all.getD i.toNat default).length = s.stock.length) && allU (all.getD i.toNat default) (s.lots.getD i.toNat default).goods 0) && allGR s all (i + 1)) := by
 unfold allGR; rw [upI_cons h]; rfl
theorem allGR_nil {s : ShStore} {all : List Row} {i : Int} (h : all.length ≤ i) : allGR s all i = true := by unfold allGR; rw [upI_nil h]; rfl
def truthR (s : ShStore) (days : Int) (t : ShTruth) : Bool := (decide (t.uses.length = s.stock.length) && (decide (t.goods.length = s.lots.length) && decide (t.gaps.length ≤ 300))) && (allU t.uses s.use 0 && (allGR s t.goods 0 && (t.gaps.all (fun x => inB x s.glo s.ghi) && decide (days ≤ sumL t.gaps))))
theorem truthR_eq {s : ShStore} {days : Int} {t : ShTruth} (hs : storeB s = true) : truthR s days t = truthB s days t := by
 have hu : s.use.length = s.stock.length := (store_stock hs).2.2.1
 have hl := (store_lots hs).2
 by_cases hg : t.goods.length = s.lots.length
 ·have e : allGR s t.goods 0 = allG s t.goods 0 := by
   unfold allGR allG
   rw [hg]
   have key : ∀ l : List Int, (∀ k ∈ l, 0 ≤ k ∧ k < s.lots.length) → l.all (fun k => decide ((t.goods.getD k.toNat default).length = s.stock.length) && allU (t.goods.getD k.toNat default) (s.lots.getD k.toNat default).goods 0) = l.all fun k => inSpansB (t.goods.getD k.toNat default) (s.lots.getD k.toNat default).goods := by
    intro l
    induction l with
    | nil => intro _; rfl
    | cons k l ih =>
      intro h
      have hk := h k (by simp)
      have h1 := (lot_facts (hl _ (getD_mem (l := s.lots) hk.1 hk.2))).1
      rw [List.all_cons, List.all_cons, ih fun q hq => h q (by simp [hq])]
      unfold inSpansB
      rw [h1]
   refine key _ fun k hk => ?_
   unfold upI at hk
   obtain ⟨q, hq, rfl⟩ := List.mem_map.1 hk
   have := List.mem_range.1 hq
   omega
  unfold truthR truthB inSpansB gapsB goodsB
  rw [e, hu, hg]
  cases decide (t.uses.length = s.stock.length) <;> cases decide (t.gaps.length ≤ 300) <;> cases allU t.uses s.use 0 <;> cases allG s t.goods 0 <;> simp
 ·unfold truthR truthB goodsB
  rw [decide_eq_false hg]
  simp
def wtR (l : List Row) : Nat := (l.map fun x => x.length + 2).sum
theorem wtR_cons {l : List Row} {i : Int} (h0 : 0 ≤ i) (h : i < l.length) : wtR (l.drop i.toNat) = (l.getD i.toNat default).length + 2 + wtR (l.drop (i + 1).toNat) := by
 obtain ⟨k, rfl⟩ : ∃ k : Nat, i = k := ⟨i.toNat, by omega⟩
 have hk : k < l.length := by omega
 have e1 : ((k : Int)).toNat = k := by omega
 have e2 : ((k : Int) + 1).toNat = k + 1 := by omega
 rw [e1, e2, List.drop_eq_getElem_cons hk]
 unfold wtR
 rw [List.map_cons, List.sum_cons]
 simp [List.getD_eq_getElem?_getD, hk]
def rTruth_v0 (s : ShStore) (days : Int) (t : ShTruth) (i : Int) : List Value := [.int .i64 days, pA 2 0, pA 3 0, .int .i64 i]
def rTruth_o0 (s : ShStore) (days : Int) (t : ShTruth) (i : Int) : List Obj := [Obj.cells #[topV 1 (slT s.stock.length (rowL encI s.stock)), topV 1 (slT s.use.length (rowL encSp s.use)), .int .i64 s.glo, .int .i64 s.ghi, topV 1 (slT s.lots.length (rowL encLot s.lots)), .int .i64 s.hold] 62, Obj.cells #[topV 1 (slT t.uses.length (rowL encI t.uses)), topV 1 (slT t.gaps.length (rowL encI t.gaps)), topV 1 (slT t.goods.length (rowL encRow t.goods))] 65]
noncomputable def rTruth_t0 : List Item := ([.code [1, 1, 0, 1, 0, 0], .inLoop [1, 1, 0, 1, 0, 0], .inBlock 0, .code [1, 1, 1]]).map (it (bodyOf Tryz.prog 40))
def rTruth_h0 (B : Lo) (c0 : CF) (s : ShStore) (days : Int) (t : ShTruth) (i : Int) : Prop := ∃ dJ : Nat → Value, (∀ t, Loose (dJ t)) ∧ GoE Tryz.prog B c0 H00 1 (headC 40 141 (([1, 3, 5, 7] : List Nat).zip (rTruth_v0 s days t i)) dJ rTruth_t0) (headH (rTruth_o0 s days t i)) (2 + (rTruth_o0 s days t i).length) []
def rTruth_v1 (s : ShStore) (days : Int) (t : ShTruth) (i : Int) : List Value := [.int .i64 days, pA 2 0, pA 3 0, .int .i64 i]
def rTruth_o1 (s : ShStore) (days : Int) (t : ShTruth) (i : Int) : List Obj := [Obj.cells #[topV 1 (slT s.stock.length (rowL encI s.stock)), topV 1 (slT s.use.length (rowL encSp s.use)), .int .i64 s.glo, .int .i64 s.ghi, topV 1 (slT s.lots.length (rowL encLot s.lots)), .int .i64 s.hold] 62, Obj.cells #[topV 1 (slT t.uses.length (rowL encI t.uses)), topV 1 (slT t.gaps.length (rowL encI t.gaps)), topV 1 (slT t.goods.length (rowL encRow t.goods))] 65]
noncomputable def rTruth_t1 : List Item := ([.code [1, 1, 1, 0, 1, 0, 0], .inLoop [1, 1, 1, 0, 1, 0, 0], .inBlock 2, .code [1, 1, 1, 1]]).map (it (bodyOf Tryz.prog 40))
def rTruth_h1 (B : Lo) (c0 : CF) (s : ShStore) (days : Int) (t : ShTruth) (i : Int) : Prop := ∃ dJ : Nat → Value, (∀ t, Loose (dJ t)) ∧ GoE Tryz.prog B c0 H00 1 (headC 40 141 (([1, 3, 5, 8] : List Nat).zip (rTruth_v1 s days t i)) dJ rTruth_t1) (headH (rTruth_o1 s days t i)) (2 + (rTruth_o1 s days t i).length) []
def rTruth_v2 (s : ShStore) (days : Int) (t : ShTruth) (i k : Int) : List Value := [.int .i64 days, pA 2 0, pA 3 0, .int .i64 i, .int .i64 k]
def rTruth_o2 (s : ShStore) (days : Int) (t : ShTruth) (i k : Int) : List Obj := [Obj.cells #[topV 1 (slT s.stock.length (rowL encI s.stock)), topV 1 (slT s.use.length (rowL encSp s.use)), .int .i64 s.glo, .int .i64 s.ghi, topV 1 (slT s.lots.length (rowL encLot s.lots)), .int .i64 s.hold] 62, Obj.cells #[topV 1 (slT t.uses.length (rowL encI t.uses)), topV 1 (slT t.gaps.length (rowL encI t.gaps)), topV 1 (slT t.goods.length (rowL encRow t.goods))] 65]
noncomputable def rTruth_t2 : List Item := ([.code [1, 1, 1, 0, 1, 0, 0, 1, 0, 0, 1, 1, 0, 0], .inLoop [1, 1, 1, 0, 1, 0, 0, 1, 0, 0, 1, 1, 0, 0], .inBlock 4, .inBlock 3, .code [1, 1, 1, 0, 1, 0, 0, 1, 1], .inLoop [1, 1, 1, 0, 1, 0, 0], .inBlock 2, .code [1, 1, 1, 1]]).map (it (bodyOf Tryz.prog 40))
def rTruth_h2 (B : Lo) (c0 : CF) (s : ShStore) (days : Int) (t : ShTruth) (i k : Int) : Prop := ∃ dJ : Nat → Value, (∀ t, Loose (dJ t)) ∧ GoE Tryz.prog B c0 H00 1 (headC 40 141 (([1, 3, 5, 8, 9] : List Nat).zip (rTruth_v2 s days t i k)) dJ rTruth_t2) (headH (rTruth_o2 s days t i k)) (2 + (rTruth_o2 s days t i k).length) []
def rTruth_v3 (s : ShStore) (days : Int) (t : ShTruth) (sum i : Int) : List Value := [.int .i64 days, pA 2 0, pA 3 0, .int .i64 sum, .int .i64 i]
def rTruth_o3 (s : ShStore) (days : Int) (t : ShTruth) (sum i : Int) : List Obj := [Obj.cells #[topV 1 (slT s.stock.length (rowL encI s.stock)), topV 1 (slT s.use.length (rowL encSp s.use)), .int .i64 s.glo, .int .i64 s.ghi, topV 1 (slT s.lots.length (rowL encLot s.lots)), .int .i64 s.hold] 62, Obj.cells #[topV 1 (slT t.uses.length (rowL encI t.uses)), topV 1 (slT t.gaps.length (rowL encI t.gaps)), topV 1 (slT t.goods.length (rowL encRow t.goods))] 65]
noncomputable def rTruth_t3 : List Item := ([.code [1, 1, 1, 1, 1, 0, 1, 0, 0], .inLoop [1, 1, 1, 1, 1, 0, 1, 0, 0], .inBlock 6, .code [1, 1, 1, 1, 1, 1]]).map (it (bodyOf Tryz.prog 40))
def rTruth_h3 (B : Lo) (c0 : CF) (s : ShStore) (days : Int) (t : ShTruth) (sum i : Int) : Prop := ∃ dJ : Nat → Value, (∀ t, Loose (dJ t)) ∧ GoE Tryz.prog B c0 H00 1 (headC 40 141 (([1, 3, 5, 11, 12] : List Nat).zip (rTruth_v3 s days t sum i)) dJ rTruth_t3) (headH (rTruth_o3 s days t sum i)) (2 + (rTruth_o3 s days t sum i).length) []
noncomputable def rTruth_p0 (B : Lo) (s : ShStore) (days : Int) (t : ShTruth) (i : Int) (dJ0 : Nat → Value) : List Prop := [i = (↑i.toNat : Int) ∧ Int.toNat i < List.length s.use ∧ Array.extract (rowL encSp s.use) (Int.toNat i * TypeInfo.size Tryz.t25) (Int.toNat i * TypeInfo.size Tryz.t25 + TypeInfo.size Tryz.t25) = #[.int .i64 (Span.lo (List.getD s.use i.toNat default)), .int .i64 (Span.hi (List.getD s.use i.toNat default))], i = (↑i.toNat : Int) ∧ Int.toNat i < List.length s.use ∧ Array.extract (rowL encSp s.use) (Int.toNat i * TypeInfo.size Tryz.t25) (Int.toNat i * TypeInfo.size Tryz.t25 + TypeInfo.size Tryz.t25) = #[.int .i64 (Span.lo (List.getD s.use i.toNat default)), .int .i64 (Span.hi (List.getD s.use i.toNat default))], i = (↑i.toNat : Int) ∧ Int.toNat i < List.length t.uses ∧ Array.extract (rowL encI t.uses) (Int.toNat i * TypeInfo.size Tryz.t3) (Int.toNat i * TypeInfo.size Tryz.t3 + TypeInfo.size Tryz.t3) = #[.int .i64 (List.getD t.uses i.toNat default)], ltq i (↑t.uses.length : Int) = true] ++ ([] : List Prop)
noncomputable def rTruth_q0 (s : ShStore) (days : Int) (t : ShTruth) (i : Int) (dJ0 : Nat → Value) : ScriptT := [(4, hvT), (8, HintT.tidx i.toNat #[.int .i64 (List.getD t.uses i.toNat default)]), (13, HintT.tidx i.toNat #[.int .i64 (Span.lo (List.getD s.use i.toNat default)), .int .i64 (Span.hi (List.getD s.use i.toNat default))]), (19, HintT.tidx i.toNat #[.int .i64 (Span.lo (List.getD s.use i.toNat default)), .int .i64 (Span.hi (List.getD s.use i.toNat default))])]
theorem rTruth_s0 (B : Lo) (s : ShStore) (days : Int) (t : ShTruth) (i : Int) (dJ0 : Nat → Value) : landM (srunT Tryz.prog (okFn Tryz.prog) J0 B 14 1 (headC 40 141 (([1, 3, 5, 7] : List Nat).zip (rTruth_v0 s days t i)) dJ0 rTruth_t0) (headH (rTruth_o0 s days t i)) (2 + (rTruth_o0 s days t i).length)
 (rTruth_q0 s days t i dJ0 ++ [(22, HintT.pure (Value.bool true) []), (25, hvI (i + 1))]) 0 [] []) [1, 3, 5, 7] [(2, KS.auto), (3, KS.auto)] [] = some ⟨40, 141, rTruth_t0, [], .run, none, rTruth_v0 s days t (i + 1), rTruth_o0 s days t (i + 1),
 [wq (i + 1) = i + 1, AllP [] ∧ PureC Tryz.prog J0 69 #[.int .i64 (List.getD t.uses i.toNat default), .int .i64 (Span.lo (List.getD s.use i.toNat default)), .int .i64 (Span.hi (List.getD s.use i.toNat default))] (Value.bool true)] ++ rTruth_p0 B s days t i dJ0⟩ := by kernel_rfl
theorem rTruth_s1 (B : Lo) (s : ShStore) (days : Int) (t : ShTruth) (i : Int) (dJ0 : Nat → Value) : endT (srunT Tryz.prog (okFn Tryz.prog) J0 B 14 1 (headC 40 141 (([1, 3, 5, 7] : List Nat).zip (rTruth_v0 s days t i)) dJ0 rTruth_t0) (headH (rTruth_o0 s days t i)) (2 + (rTruth_o0 s days t i).length)
 (rTruth_q0 s days t i dJ0 ++ [(22, HintT.pure (Value.bool false) [])]) 0 [] []) [] = some (Value.bool false,
 [AllP [] ∧ PureC Tryz.prog J0 69 #[.int .i64 (List.getD t.uses i.toNat default), .int .i64 (Span.lo (List.getD s.use i.toNat default)), .int .i64 (Span.hi (List.getD s.use i.toNat default))] (Value.bool false)] ++ rTruth_p0 B s days t i dJ0) := by kernel_rfl
theorem rTruth_s2 (B : Lo) (s : ShStore) (days : Int) (t : ShTruth) (i : Int) (dJ0 : Nat → Value) : landM (srunT Tryz.prog (okFn Tryz.prog) J0 B 10 1 (headC 40 141 (([1, 3, 5, 7] : List Nat).zip (rTruth_v0 s days t i)) dJ0 rTruth_t0) (headH (rTruth_o0 s days t i)) (2 + (rTruth_o0 s days t i).length)
 [(4, hvF)] 0 [] []) [1, 3, 5, 8] [(2, KS.auto), (3, KS.auto)] [] = some ⟨40, 141, rTruth_t1, [], .run, none, rTruth_v1 s days t (0), rTruth_o1 s days t (0),
 [ltq i (↑t.uses.length : Int) = false]⟩ := by kernel_rfl
noncomputable def rTruth_p1 (B : Lo) (s : ShStore) (days : Int) (t : ShTruth) (i : Int) (dJ0 : Nat → Value) : List Prop := [i = (↑i.toNat : Int) ∧ Int.toNat i < List.length t.goods ∧ Array.extract (rowL encRow t.goods) (Int.toNat i * TypeInfo.size Tryz.t22) (Int.toNat i * TypeInfo.size Tryz.t22 + TypeInfo.size Tryz.t22) = #[slT (List.length (List.getD t.goods i.toNat default)) (rowL encI (List.getD t.goods i.toNat default))], ltq i (↑t.goods.length : Int) = true] ++ ([] : List Prop)
noncomputable def rTruth_q1 (s : ShStore) (days : Int) (t : ShTruth) (i : Int) (dJ0 : Nat → Value) : ScriptT := [(4, hvT), (8, HintT.tidx i.toNat #[slT (List.length (List.getD t.goods i.toNat default)) (rowL encI (List.getD t.goods i.toNat default))])]
theorem rTruth_s3 (B : Lo) (s : ShStore) (days : Int) (t : ShTruth) (i : Int) (dJ0 : Nat → Value) : endT (srunT Tryz.prog (okFn Tryz.prog) J0 B 15 1 (headC 40 141 (([1, 3, 5, 8] : List Nat).zip (rTruth_v1 s days t i)) dJ0 rTruth_t1) (headH (rTruth_o1 s days t i)) (2 + (rTruth_o1 s days t i).length)
 (rTruth_q1 s days t i dJ0 ++ [(14, hvT)]) 0 [] []) [] = some (Value.bool false,
 [(!eqq (↑(List.length (List.getD t.goods i.toNat default)) : Int) (↑s.stock.length : Int)) = true] ++ rTruth_p1 B s days t i dJ0) := by kernel_rfl
theorem rTruth_s4 (B : Lo) (s : ShStore) (days : Int) (t : ShTruth) (i : Int) (dJ0 : Nat → Value) : landM (srunT Tryz.prog (okFn Tryz.prog) J0 B 16 1 (headC 40 141 (([1, 3, 5, 8] : List Nat).zip (rTruth_v1 s days t i)) dJ0 rTruth_t1) (headH (rTruth_o1 s days t i)) (2 + (rTruth_o1 s days t i).length)
 (rTruth_q1 s days t i dJ0 ++ [(14, hvF)]) 0 [] []) [1, 3, 5, 8, 9] [(2, KS.auto), (3, KS.auto)] [] = some ⟨40, 141, rTruth_t2, [], .run, none, rTruth_v2 s days t (i) (0), rTruth_o2 s days t (i) (0),
 [(!eqq (↑(List.length (List.getD t.goods i.toNat default)) : Int) (↑s.stock.length : Int)) = false] ++ rTruth_p1 B s days t i dJ0⟩ := by kernel_rfl
theorem rTruth_s5 (B : Lo) (s : ShStore) (days : Int) (t : ShTruth) (i : Int) (dJ0 : Nat → Value) : landM (srunT Tryz.prog (okFn Tryz.prog) J0 B 12 1 (headC 40 141 (([1, 3, 5, 8] : List Nat).zip (rTruth_v1 s days t i)) dJ0 rTruth_t1) (headH (rTruth_o1 s days t i)) (2 + (rTruth_o1 s days t i).length)
 [(4, hvF)] 0 [] []) [1, 3, 5, 11, 12] [(2, KS.auto), (3, KS.auto)] [] = some ⟨40, 141, rTruth_t3, [], .run, none, rTruth_v3 s days t (0) (0), rTruth_o3 s days t (0) (0),
 [ltq i (↑t.goods.length : Int) = false]⟩ := by kernel_rfl
noncomputable def rTruth_p2 (B : Lo) (s : ShStore) (days : Int) (t : ShTruth) (i k : Int) (dJ0 : Nat → Value) : List Prop := [i = (↑i.toNat : Int) ∧ Int.toNat i < List.length t.goods ∧ Array.extract (rowL encRow t.goods) (Int.toNat i * TypeInfo.size Tryz.t22) (Int.toNat i * TypeInfo.size Tryz.t22 + TypeInfo.size Tryz.t22) = #[slT (List.length (List.getD t.goods i.toNat default)) (rowL encI (List.getD t.goods i.toNat default))]] ++ ([] : List Prop)
noncomputable def rTruth_q2 (s : ShStore) (days : Int) (t : ShTruth) (i k : Int) (dJ0 : Nat → Value) : ScriptT := [(4, HintT.tidx i.toNat #[slT (List.length (List.getD t.goods i.toNat default)) (rowL encI (List.getD t.goods i.toNat default))])]
noncomputable def rTruth_p3 (B : Lo) (s : ShStore) (days : Int) (t : ShTruth) (i k : Int) (dJ0 : Nat → Value) : List Prop := [k = (↑k.toNat : Int) ∧ Int.toNat k < List.length (List.getD t.goods i.toNat default) ∧ Array.extract (rowL encI (List.getD t.goods i.toNat default)) (Int.toNat k * TypeInfo.size Tryz.t3) (Int.toNat k * TypeInfo.size Tryz.t3 + TypeInfo.size Tryz.t3) = #[.int .i64 (List.getD (List.getD t.goods i.toNat default) k.toNat default)], i = (↑i.toNat : Int) ∧ Int.toNat i < List.length t.goods ∧ Array.extract (rowL encRow t.goods) (Int.toNat i * TypeInfo.size Tryz.t22) (Int.toNat i * TypeInfo.size Tryz.t22 + TypeInfo.size Tryz.t22) = #[slT (List.length (List.getD t.goods i.toNat default)) (rowL encI (List.getD t.goods i.toNat default))], k = (↑k.toNat : Int) ∧ Int.toNat k < List.length (ShLot.goods (List.getD s.lots i.toNat default)) ∧ Array.extract (rowL encSp (ShLot.goods (List.getD s.lots i.toNat default))) (Int.toNat k * TypeInfo.size Tryz.t25) (Int.toNat k * TypeInfo.size Tryz.t25 + TypeInfo.size Tryz.t25) = #[.int .i64 (Span.lo (List.getD (ShLot.goods (List.getD s.lots i.toNat default)) k.toNat default)), .int .i64 (Span.hi (List.getD (ShLot.goods (List.getD s.lots i.toNat default)) k.toNat default))], i = (↑i.toNat : Int) ∧ Int.toNat i < List.length s.lots ∧ Array.extract (rowL encLot s.lots) (Int.toNat i * TypeInfo.size Tryz.t118) (Int.toNat i * TypeInfo.size Tryz.t118 + TypeInfo.size Tryz.t118) = #[slT (List.length (ShLot.goods (List.getD s.lots i.toNat default))) (rowL encSp (ShLot.goods (List.getD s.lots i.toNat default))), .int .i64 (ShLot.weight (List.getD s.lots i.toNat default)), .int .i64 (ShLot.cost (List.getD s.lots i.toNat default))], ltq k (↑(List.length (List.getD t.goods i.toNat default)) : Int) = true] ++ rTruth_p2 B s days t i k dJ0
noncomputable def rTruth_q3 (s : ShStore) (days : Int) (t : ShTruth) (i k : Int) (dJ0 : Nat → Value) : ScriptT := rTruth_q2 s days t i k dJ0 ++ [(7, hvT), (11, HintT.tidx i.toNat #[slT (List.length (ShLot.goods (List.getD s.lots i.toNat default))) (rowL encSp (ShLot.goods (List.getD s.lots i.toNat default))), .int .i64 (ShLot.weight (List.getD s.lots i.toNat default)), .int .i64 (ShLot.cost (List.getD s.lots i.toNat default))]), (15, HintT.tidx k.toNat #[.int .i64 (Span.lo (List.getD (ShLot.goods (List.getD s.lots i.toNat default)) k.toNat default)), .int .i64 (Span.hi (List.getD (ShLot.goods (List.getD s.lots i.toNat default)) k.toNat default))]), (22, HintT.tidx i.toNat #[slT (List.length (List.getD t.goods i.toNat default)) (rowL encI (List.getD t.goods i.toNat default))]), (25, HintT.tidx k.toNat #[.int .i64 (List.getD (List.getD t.goods i.toNat default) k.toNat default)])]
theorem rTruth_s6 (B : Lo) (s : ShStore) (days : Int) (t : ShTruth) (i k : Int) (dJ0 : Nat → Value) : landM (srunT Tryz.prog (okFn Tryz.prog) J0 B 16 1 (headC 40 141 (([1, 3, 5, 8, 9] : List Nat).zip (rTruth_v2 s days t i k)) dJ0 rTruth_t2) (headH (rTruth_o2 s days t i k)) (2 + (rTruth_o2 s days t i k).length)
 (rTruth_q3 s days t i k dJ0 ++ [(31, HintT.pure (Value.bool true) []), (34, hvI (k + 1))]) 0 [] []) [1, 3, 5, 8, 9] [(2, KS.auto), (3, KS.auto)] [] = some ⟨40, 141, rTruth_t2, [], .run, none, rTruth_v2 s days t (i) (k + 1), rTruth_o2 s days t (i) (k + 1),
 [wq (k + 1) = k + 1, AllP [] ∧ PureC Tryz.prog J0 69 #[.int .i64 (List.getD (List.getD t.goods i.toNat default) k.toNat default), .int .i64 (Span.lo (List.getD (ShLot.goods (List.getD s.lots i.toNat default)) k.toNat default)), .int .i64 (Span.hi (List.getD (ShLot.goods (List.getD s.lots i.toNat default)) k.toNat default))] (Value.bool true)] ++ rTruth_p3 B s days t i k dJ0⟩ := by kernel_rfl
theorem rTruth_s7 (B : Lo) (s : ShStore) (days : Int) (t : ShTruth) (i k : Int) (dJ0 : Nat → Value) : endT (srunT Tryz.prog (okFn Tryz.prog) J0 B 16 1 (headC 40 141 (([1, 3, 5, 8, 9] : List Nat).zip (rTruth_v2 s days t i k)) dJ0 rTruth_t2) (headH (rTruth_o2 s days t i k)) (2 + (rTruth_o2 s days t i k).length)
 (rTruth_q3 s days t i k dJ0 ++ [(31, HintT.pure (Value.bool false) [])]) 0 [] []) [] = some (Value.bool false,
 [AllP [] ∧ PureC Tryz.prog J0 69 #[.int .i64 (List.getD (List.getD t.goods i.toNat default) k.toNat default), .int .i64 (Span.lo (List.getD (ShLot.goods (List.getD s.lots i.toNat default)) k.toNat default)), .int .i64 (Span.hi (List.getD (ShLot.goods (List.getD s.lots i.toNat default)) k.toNat default))] (Value.bool false)] ++ rTruth_p3 B s days t i k dJ0) := by kernel_rfl
theorem rTruth_s8 (B : Lo) (s : ShStore) (days : Int) (t : ShTruth) (i k : Int) (dJ0 : Nat → Value) : landM (srunT Tryz.prog (okFn Tryz.prog) J0 B 8 1 (headC 40 141 (([1, 3, 5, 8, 9] : List Nat).zip (rTruth_v2 s days t i k)) dJ0 rTruth_t2) (headH (rTruth_o2 s days t i k)) (2 + (rTruth_o2 s days t i k).length)
 (rTruth_q2 s days t i k dJ0 ++ [(7, hvF), (9, hvI (i + 1))]) 0 [] []) [1, 3, 5, 8] [(2, KS.auto), (3, KS.auto)] [] = some ⟨40, 141, rTruth_t1, [], .run, none, rTruth_v1 s days t (i + 1), rTruth_o1 s days t (i + 1),
 [wq (i + 1) = i + 1, ltq k (↑(List.length (List.getD t.goods i.toNat default)) : Int) = false] ++ rTruth_p2 B s days t i k dJ0⟩ := by kernel_rfl
noncomputable def rTruth_p4 (B : Lo) (s : ShStore) (days : Int) (t : ShTruth) (sum i : Int) (dJ0 : Nat → Value) : List Prop := [i = (↑i.toNat : Int) ∧ Int.toNat i < List.length t.gaps ∧ Array.extract (rowL encI t.gaps) (Int.toNat i * TypeInfo.size Tryz.t3) (Int.toNat i * TypeInfo.size Tryz.t3 + TypeInfo.size Tryz.t3) = #[.int .i64 (List.getD t.gaps i.toNat default)], ltq i (↑t.gaps.length : Int) = true] ++ ([] : List Prop)
noncomputable def rTruth_q4 (s : ShStore) (days : Int) (t : ShTruth) (sum i : Int) (dJ0 : Nat → Value) : ScriptT := [(4, hvT), (8, HintT.tidx i.toNat #[.int .i64 (List.getD t.gaps i.toNat default)])]
theorem rTruth_s9 (B : Lo) (s : ShStore) (days : Int) (t : ShTruth) (sum i : Int) (dJ0 : Nat → Value) : landM (srunT Tryz.prog (okFn Tryz.prog) J0 B 16 1 (headC 40 141 (([1, 3, 5, 11, 12] : List Nat).zip (rTruth_v3 s days t sum i)) dJ0 rTruth_t3) (headH (rTruth_o3 s days t sum i)) (2 + (rTruth_o3 s days t sum i).length)
 (rTruth_q4 s days t sum i dJ0 ++ [(16, HintT.pure (Value.bool true) []), (22, HintT.tidx i.toNat #[.int .i64 (List.getD t.gaps i.toNat default)]), (24, hvI (sum + List.getD t.gaps i.toNat default)), (27, hvI (i + 1))]) 0 [] []) [1, 3, 5, 11, 12] [(2, KS.auto), (3, KS.auto)] [] = some ⟨40, 141, rTruth_t3, [], .run, none, rTruth_v3 s days t (sum + List.getD t.gaps i.toNat default) (i + 1), rTruth_o3 s days t (sum + List.getD t.gaps i.toNat default) (i + 1),
 [wq (i + 1) = i + 1, wq (sum + List.getD t.gaps i.toNat default) = sum + List.getD t.gaps i.toNat default, i = (↑i.toNat : Int) ∧ Int.toNat i < List.length t.gaps ∧ Array.extract (rowL encI t.gaps) (Int.toNat i * TypeInfo.size Tryz.t3) (Int.toNat i * TypeInfo.size Tryz.t3 + TypeInfo.size Tryz.t3) = #[.int .i64 (List.getD t.gaps i.toNat default)], AllP [] ∧ PureC Tryz.prog J0 69 #[.int .i64 (List.getD t.gaps i.toNat default), .int .i64 s.glo, .int .i64 s.ghi] (Value.bool true)] ++ rTruth_p4 B s days t sum i dJ0⟩ := by kernel_rfl
theorem rTruth_s10 (B : Lo) (s : ShStore) (days : Int) (t : ShTruth) (sum i : Int) (dJ0 : Nat → Value) : endT (srunT Tryz.prog (okFn Tryz.prog) J0 B 15 1 (headC 40 141 (([1, 3, 5, 11, 12] : List Nat).zip (rTruth_v3 s days t sum i)) dJ0 rTruth_t3) (headH (rTruth_o3 s days t sum i)) (2 + (rTruth_o3 s days t sum i).length)
 (rTruth_q4 s days t sum i dJ0 ++ [(16, HintT.pure (Value.bool false) [])]) 0 [] []) [] = some (Value.bool false,
 [AllP [] ∧ PureC Tryz.prog J0 69 #[.int .i64 (List.getD t.gaps i.toNat default), .int .i64 s.glo, .int .i64 s.ghi] (Value.bool false)] ++ rTruth_p4 B s days t sum i dJ0) := by kernel_rfl
noncomputable def rTruth_p5 (B : Lo) (s : ShStore) (days : Int) (t : ShTruth) (sum i : Int) (dJ0 : Nat → Value) : List Prop := [ltq i (↑t.gaps.length : Int) = false] ++ ([] : List Prop)
noncomputable def rTruth_q5 (s : ShStore) (days : Int) (t : ShTruth) (sum i : Int) (dJ0 : Nat → Value) : ScriptT := [(4, hvF)]
theorem rTruth_s11 (B : Lo) (s : ShStore) (days : Int) (t : ShTruth) (sum i : Int) (dJ0 : Nat → Value) : endT (srunT Tryz.prog (okFn Tryz.prog) J0 B 9 1 (headC 40 141 (([1, 3, 5, 11, 12] : List Nat).zip (rTruth_v3 s days t sum i)) dJ0 rTruth_t3) (headH (rTruth_o3 s days t sum i)) (2 + (rTruth_o3 s days t sum i).length)
 (rTruth_q5 s days t sum i dJ0 ++ [(7, hvT)]) 0 [] []) [] = some (Value.bool true,
 [(!ltq sum days) = true] ++ rTruth_p5 B s days t sum i dJ0) := by kernel_rfl
theorem rTruth_s12 (B : Lo) (s : ShStore) (days : Int) (t : ShTruth) (sum i : Int) (dJ0 : Nat → Value) : endT (srunT Tryz.prog (okFn Tryz.prog) J0 B 9 1 (headC 40 141 (([1, 3, 5, 11, 12] : List Nat).zip (rTruth_v3 s days t sum i)) dJ0 rTruth_t3) (headH (rTruth_o3 s days t sum i)) (2 + (rTruth_o3 s days t sum i).length)
 (rTruth_q5 s days t sum i dJ0 ++ [(7, hvF)]) 0 [] []) [] = some (Value.bool false,
 [(!ltq sum days) = false] ++ rTruth_p5 B s days t sum i dJ0) := by kernel_rfl
theorem rTruth_s13 (B : Lo) (s : ShStore) (days : Int) (t : ShTruth) : endT (srunT Tryz.prog (okFn Tryz.prog) J0 B 10 1 (entryC Tryz.prog 40 141 (([.agg (encStore s).toArray, .int .i64 days, .agg (encTruth t).toArray]).map (pushT 0 4))) H00 1
 [(9, hvT)] 0 [] []) [] = some (Value.bool false,
 [(!eqq (↑t.uses.length : Int) (↑s.stock.length : Int)) = true]) := by kernel_rfl
noncomputable def rTruth_p6 (B : Lo) (s : ShStore) (days : Int) (t : ShTruth) : List Prop := [(!eqq (↑t.uses.length : Int) (↑s.stock.length : Int)) = false] ++ ([] : List Prop)
noncomputable def rTruth_q6 (s : ShStore) (days : Int) (t : ShTruth) : ScriptT := [(9, hvF)]
theorem rTruth_s14 (B : Lo) (s : ShStore) (days : Int) (t : ShTruth) : endT (srunT Tryz.prog (okFn Tryz.prog) J0 B 10 1 (entryC Tryz.prog 40 141 (([.agg (encStore s).toArray, .int .i64 days, .agg (encTruth t).toArray]).map (pushT 0 4))) H00 1
 (rTruth_q6 s days t ++ [(17, hvT)]) 0 [] []) [] = some (Value.bool false,
 [(!eqq (↑t.goods.length : Int) (↑s.lots.length : Int)) = true] ++ rTruth_p6 B s days t) := by kernel_rfl
noncomputable def rTruth_p7 (B : Lo) (s : ShStore) (days : Int) (t : ShTruth) : List Prop := [(!eqq (↑t.goods.length : Int) (↑s.lots.length : Int)) = false] ++ rTruth_p6 B s days t
noncomputable def rTruth_q7 (s : ShStore) (days : Int) (t : ShTruth) : ScriptT := rTruth_q6 s days t ++ [(17, hvF)]
theorem rTruth_s15 (B : Lo) (s : ShStore) (days : Int) (t : ShTruth) : endT (srunT Tryz.prog (okFn Tryz.prog) J0 B 10 1 (entryC Tryz.prog 40 141 (([.agg (encStore s).toArray, .int .i64 days, .agg (encTruth t).toArray]).map (pushT 0 4))) H00 1
 (rTruth_q7 s days t ++ [(23, hvT)]) 0 [] []) [] = some (Value.bool false,
 [ltq 300 (↑t.gaps.length : Int) = true] ++ rTruth_p7 B s days t) := by kernel_rfl
theorem rTruth_s16 (B : Lo) (s : ShStore) (days : Int) (t : ShTruth) : landM (srunT Tryz.prog (okFn Tryz.prog) J0 B 12 1 (entryC Tryz.prog 40 141 (([.agg (encStore s).toArray, .int .i64 days, .agg (encTruth t).toArray]).map (pushT 0 4))) H00 1
 (rTruth_q7 s days t ++ [(23, hvF)]) 0 [] []) [1, 3, 5, 7] [(1, KS.auto), (2, KS.auto)] [] = some ⟨40, 141, rTruth_t0, [], .run, none, rTruth_v0 s days t (0), rTruth_o0 s days t (0),
 [ltq 300 (↑t.gaps.length : Int) = false] ++ rTruth_p7 B s days t⟩ := by kernel_rfl
set_option maxHeartbeats 4000000 in
theorem rTruth_ls (s : ShStore) (days : Int) (t : ShTruth) (hs : storeB s = true) (hfacts : t.uses.length ≤ 9223372036854775807 ∧ t.gaps.length ≤ 9223372036854775807 ∧ t.goods.length ≤ 9223372036854775807) {B : Lo} (hJ : ∀ w, B.has w → J0 w) {c0 : CF} : ∀ m : Nat, (∀ (i : Int), (t.uses.length - i.toNat) + wtR t.goods + t.gaps.length + 9 = m → ∀ (h0 : 0 ≤ i) (e1 : t.uses.length = s.stock.length) (e2 : t.goods.length = s.lots.length) (e3 : t.gaps.length ≤ 300), rTruth_h0 B c0 s days t i → EndsT Tryz.prog B c0 (.bool (allU t.uses s.use i && (allGR s t.goods 0 && (t.gaps.all (fun x => inB x s.glo s.ghi) && decide (days ≤ sumL t.gaps)))))) ∧ (∀ (i : Int), wtR (t.goods.drop i.toNat) + t.gaps.length + 8 = m → ∀ (h0 : 0 ≤ i) (e1 : t.uses.length = s.stock.length) (e2 : t.goods.length = s.lots.length) (e3 : t.gaps.length ≤ 300), rTruth_h1 B c0 s days t i → EndsT Tryz.prog B c0 (.bool (allGR s t.goods i && (t.gaps.all (fun x => inB x s.glo s.ghi) && decide (days ≤ sumL t.gaps))))) ∧ (∀ (i k : Int), ((t.goods.getD i.toNat default).length - k.toNat) + wtR (t.goods.drop (i + 1).toNat) + t.gaps.length + 9 = m → ∀ (h0 : 0 ≤ i) (h1 : i < t.goods.length) (k0 : 0 ≤ k) (hr : (t.goods.getD i.toNat default).length = s.stock.length) (e1 : t.uses.length = s.stock.length) (e2 : t.goods.length = s.lots.length) (e3 : t.gaps.length ≤ 300), rTruth_h2 B c0 s days t i k → EndsT Tryz.prog B c0 (.bool (allU (t.goods.getD i.toNat default) (s.lots.getD i.toNat default).goods k && (allGR s t.goods (i + 1) && (t.gaps.all (fun x => inB x s.glo s.ghi) && decide (days ≤ sumL t.gaps)))))) ∧ (∀ (sum i : Int), (t.gaps.length - i.toNat) = m → ∀ (h0 : 0 ≤ i) (h1 : 0 ≤ sum ∧ sum ≤ 60 * i) (e1 : t.uses.length = s.stock.length) (e2 : t.goods.length = s.lots.length) (e3 : t.gaps.length ≤ 300), rTruth_h3 B c0 s days t sum i → EndsT Tryz.prog B c0 (.bool ((t.gaps.drop i.toNat).all (fun x => inB x s.glo s.ghi) && decide (days ≤ sum + sumL (t.gaps.drop i.toNat))))) := by
 intro m0
 induction m0 using Nat.strongRecOn with
 | _ m0 ih0 =>
   refine ⟨?_, ?_, ?_, ?_⟩
   ·intro i hm0 h0 e1 e2 e3 ⟨dJ0, hdJ0, hg0⟩
    have hm := store_lots hs
    have hgp := store_gap hs
    have hst := store_stock hs
    by_cases q0 : (i : Int) < ((↑t.uses.length : Int))
    ·
     have hp0 : AllP (rTruth_p0 B s days t i dJ0) := by
      have s2 := allU_cons (ns := t.uses) (ss := s.use) q0
      exact ⟨⟨by omega, by omega, (rowL_extract (z := 2) (fun _ => rfl) (by omega))⟩, ⟨⟨by omega, by omega, (rowL_extract (z := 2) (fun _ => rfl) (by omega))⟩, ⟨⟨by omega, by omega, (rowL_extract (z := 1) (fun _ => rfl) (by omega))⟩, ⟨(ltq_t q0), trivial⟩⟩⟩⟩
     cases q1 : inB (List.getD t.uses i.toNat default) (Span.lo (List.getD s.use i.toNat default)) (Span.hi (List.getD s.use i.toNat default)) with
     | true =>
       have s2 := allU_cons (ns := t.uses) (ss := s.use) q0
       exact ((ih0 _ (by (first | omega | (simp only [Int.toNat_zero, List.drop_zero]; omega)))).1 (i + 1) rfl (by omega) (by with_reducible assumption) (by with_reducible assumption) (by with_reducible assumption)
        (hg0.landM okF hJ mixed_ok (rTruth_s0 B s days t i dJ0)
        ⟨(wq_in (by omega) (by omega)), ⟨⟨trivial, (by have t_ := rin (List.getD t.uses i.toNat default) (Span.lo (List.getD s.use i.toNat default)) (Span.hi (List.getD s.use i.toNat default)); rw [q1] at t_; exact t_)⟩, hp0⟩⟩ (by kernel_rfl) (by kernel_rfl))).cast (by (rw [s2, q1]; rfl))
     | false =>
       have s2 := allU_cons (ns := t.uses) (ss := s.use) q0
       exact (GoE.endsT okF hJ mixed_ok hg0 (rTruth_s1 B s days t i dJ0)
        ⟨⟨trivial, (by have t_ := rin (List.getD t.uses i.toNat default) (Span.lo (List.getD s.use i.toNat default)) (Span.hi (List.getD s.use i.toNat default)); rw [q1] at t_; exact t_)⟩, hp0⟩).cast (by (rw [s2, q1]; rfl))
    ·
     have s2 := allU_nil (ns := t.uses) (ss := s.use) (i := i) (by omega)
     exact ((ih0 _ (by (first | omega | (simp only [Int.toNat_zero, List.drop_zero]; omega)))).2.1 (0) rfl (by omega) (by with_reducible assumption) (by with_reducible assumption) (by with_reducible assumption)
      (hg0.landM okF hJ mixed_ok (rTruth_s2 B s days t i dJ0)
      ⟨(ltq_f (Int.not_lt.1 q0)), trivial⟩ (by kernel_rfl) (by kernel_rfl))).cast (by (rw [s2]; rfl))
   ·intro i hm0 h0 e1 e2 e3 ⟨dJ0, hdJ0, hg0⟩
    have hm := store_lots hs
    have hgp := store_gap hs
    have hst := store_stock hs
    by_cases q0 : (i : Int) < ((↑t.goods.length : Int))
    ·
     have hp1 : AllP (rTruth_p1 B s days t i dJ0) := by
      have s2 := allGR_cons (s := s) (all := t.goods) q0
      have s3 := wtR_cons (l := t.goods) h0 q0
      exact ⟨⟨by omega, by omega, (rowL_extract (z := 1) (fun _ => rfl) (by omega))⟩, ⟨(ltq_t q0), trivial⟩⟩
     by_cases q1 : ((↑(List.length (List.getD t.goods i.toNat default)) : Int) : Int) ≠ ((↑s.stock.length : Int))
     ·
      have s2 := allGR_cons (s := s) (all := t.goods) q0
      have s3 := wtR_cons (l := t.goods) h0 q0
      rw [decide_eq_false (by omega)] at s2
      exact (GoE.endsT okF hJ mixed_ok hg0 (rTruth_s3 B s days t i dJ0)
       ⟨(neqq_t q1), hp1⟩).cast (by (rw [s2]; rfl))
     ·
      have s2 := allGR_cons (s := s) (all := t.goods) q0
      have s3 := wtR_cons (l := t.goods) h0 q0
      rw [decide_eq_true (by omega)] at s2
      exact ((ih0 _ (by omega)).2.2.1 (i) (0) rfl (by with_reducible assumption) (by with_reducible assumption) (by omega) (by omega) (by with_reducible assumption) (by with_reducible assumption) (by with_reducible assumption)
       (hg0.landM okF hJ mixed_ok (rTruth_s4 B s days t i dJ0)
       ⟨(neqq_f (Decidable.of_not_not q1)), hp1⟩ (by kernel_rfl) (by kernel_rfl))).cast (by (rw [s2]; simp [Bool.and_assoc]; done))
    ·
     have s2 := allGR_nil (s := s) (all := t.goods) (i := i) (by omega)
     exact ((ih0 _ (by omega)).2.2.2 (0) (0) rfl (by omega) (by omega) (by with_reducible assumption) (by with_reducible assumption) (by with_reducible assumption)
      (hg0.landM okF hJ mixed_ok (rTruth_s5 B s days t i dJ0)
      ⟨(ltq_f (Int.not_lt.1 q0)), trivial⟩ (by kernel_rfl) (by kernel_rfl))).cast (by (rw [s2]; simp [Bool.and_assoc]; done))
   ·intro i k hm0 h0 h1 k0 hr e1 e2 e3 ⟨dJ0, hdJ0, hg0⟩
    have hm := store_lots hs
    have hgp := store_gap hs
    have hst := store_stock hs
    have hlt := (lot_facts (hm.2 _ (getD_mem (l := s.lots) (i := i) h0 (by omega)))).1
    have hp2 : AllP (rTruth_p2 B s days t i k dJ0) := by
     exact ⟨⟨by omega, by omega, (rowL_extract (z := 1) (fun _ => rfl) (by omega))⟩, trivial⟩
    by_cases q0 : (k : Int) < ((↑(List.length (List.getD t.goods i.toNat default)) : Int))
    ·
     have hp3 : AllP (rTruth_p3 B s days t i k dJ0) := by
      have s2 := allU_cons (ns := t.goods.getD i.toNat default) (ss := (s.lots.getD i.toNat default).goods) q0
      exact ⟨⟨by omega, by omega, (rowL_extract (z := 1) (fun _ => rfl) (by omega))⟩, ⟨⟨by omega, by omega, (rowL_extract (z := 1) (fun _ => rfl) (by omega))⟩, ⟨⟨by omega, by omega, (rowL_extract (z := 2) (fun _ => rfl) (by omega))⟩, ⟨⟨by omega, by omega, (rowL_extract (z := 3) (fun _ => rfl) (by omega))⟩, ⟨(ltq_t q0), hp2⟩⟩⟩⟩⟩
     cases q1 : inB (List.getD (List.getD t.goods i.toNat default) k.toNat default) (Span.lo (List.getD (ShLot.goods (List.getD s.lots i.toNat default)) k.toNat default)) (Span.hi (List.getD (ShLot.goods (List.getD s.lots i.toNat default)) k.toNat default)) with
     | true =>
       have s2 := allU_cons (ns := t.goods.getD i.toNat default) (ss := (s.lots.getD i.toNat default).goods) q0
       exact ((ih0 _ (by omega)).2.2.1 (i) (k + 1) rfl (by with_reducible assumption) (by with_reducible assumption) (by omega) (by with_reducible assumption) (by with_reducible assumption) (by with_reducible assumption) (by with_reducible assumption)
        (hg0.landM okF hJ mixed_ok (rTruth_s6 B s days t i k dJ0)
        ⟨(wq_in (by omega) (by omega)), ⟨⟨trivial, (by have t_ := rin (List.getD (List.getD t.goods i.toNat default) k.toNat default) (Span.lo (List.getD (ShLot.goods (List.getD s.lots i.toNat default)) k.toNat default)) (Span.hi (List.getD (ShLot.goods (List.getD s.lots i.toNat default)) k.toNat default)); rw [q1] at t_; exact t_)⟩, hp3⟩⟩ (by kernel_rfl) (by kernel_rfl))).cast (by (rw [s2, q1]; rfl))
     | false =>
       have s2 := allU_cons (ns := t.goods.getD i.toNat default) (ss := (s.lots.getD i.toNat default).goods) q0
       exact (GoE.endsT okF hJ mixed_ok hg0 (rTruth_s7 B s days t i k dJ0)
        ⟨⟨trivial, (by have t_ := rin (List.getD (List.getD t.goods i.toNat default) k.toNat default) (Span.lo (List.getD (ShLot.goods (List.getD s.lots i.toNat default)) k.toNat default)) (Span.hi (List.getD (ShLot.goods (List.getD s.lots i.toNat default)) k.toNat default)); rw [q1] at t_; exact t_)⟩, hp3⟩).cast (by (rw [s2, q1]; rfl))
    ·
     have s2 := allU_nil (ns := t.goods.getD i.toNat default) (ss := (s.lots.getD i.toNat default).goods) (i := k) (by omega)
     exact ((ih0 _ (by omega)).2.1 (i + 1) rfl (by omega) (by with_reducible assumption) (by with_reducible assumption) (by with_reducible assumption)
      (hg0.landM okF hJ mixed_ok (rTruth_s8 B s days t i k dJ0)
      ⟨(wq_in (by omega) (by omega)), ⟨(ltq_f (Int.not_lt.1 q0)), hp2⟩⟩ (by kernel_rfl) (by kernel_rfl))).cast (by (rw [s2]; rfl))
   ·intro sum i hm0 h0 h1 e1 e2 e3 ⟨dJ0, hdJ0, hg0⟩
    have hm := store_lots hs
    have hgp := store_gap hs
    have hst := store_stock hs
    by_cases q0 : (i : Int) < ((↑t.gaps.length : Int))
    ·
     have hp4 : AllP (rTruth_p4 B s days t sum i dJ0) := by
      have s2 := drop_all2 (l := t.gaps) (p := fun x => inB x s.glo s.ghi) h0 q0
      have s3 := sumL_cons (l := t.gaps) h0 q0
      exact ⟨⟨by omega, by omega, (rowL_extract (z := 1) (fun _ => rfl) (by omega))⟩, ⟨(ltq_t q0), trivial⟩⟩
     cases q1 : inB (List.getD t.gaps i.toNat default) s.glo s.ghi with
     | true =>
       have s2 := drop_all2 (l := t.gaps) (p := fun x => inB x s.glo s.ghi) h0 q0
       have s3 := sumL_cons (l := t.gaps) h0 q0
       have g1 := inB_iff.1 ‹inB (t.gaps.getD i.toNat default) _ _ = true›
       exact ((ih0 _ (by omega)).2.2.2 (sum + List.getD t.gaps i.toNat default) (i + 1) rfl (by omega) (by omega) (by with_reducible assumption) (by with_reducible assumption) (by with_reducible assumption)
        (hg0.landM okF hJ mixed_ok (rTruth_s9 B s days t sum i dJ0)
        ⟨(wq_in (by omega) (by omega)), ⟨(wq_in (by omega) (by omega)), ⟨⟨by omega, by omega, (rowL_extract (z := 1) (fun _ => rfl) (by omega))⟩, ⟨⟨trivial, (by have t_ := rin (List.getD t.gaps i.toNat default) s.glo s.ghi; rw [q1] at t_; exact t_)⟩, hp4⟩⟩⟩⟩ (by kernel_rfl) (by kernel_rfl))).cast (by (simp only [s2, s3, q1, Int.add_assoc, Bool.true_and, Bool.false_and]; done))
     | false =>
       have s2 := drop_all2 (l := t.gaps) (p := fun x => inB x s.glo s.ghi) h0 q0
       have s3 := sumL_cons (l := t.gaps) h0 q0
       exact (GoE.endsT okF hJ mixed_ok hg0 (rTruth_s10 B s days t sum i dJ0)
        ⟨⟨trivial, (by have t_ := rin (List.getD t.gaps i.toNat default) s.glo s.ghi; rw [q1] at t_; exact t_)⟩, hp4⟩).cast (by (simp only [s2, s3, q1, Int.add_assoc, Bool.true_and, Bool.false_and]; done))
    ·
     have hp5 : AllP (rTruth_p5 B s days t sum i dJ0) := by
      exact ⟨(ltq_f (Int.not_lt.1 q0)), trivial⟩
     by_cases q1 : (days : Int) ≤ (sum)
     ·
      have s2 := drop_nil2 (l := t.gaps) (p := fun x => inB x s.glo s.ghi) (i := i) (by omega)
      have s3 := sumL_nil (l := t.gaps) (i := i) (by omega)
      exact (GoE.endsT okF hJ mixed_ok hg0 (rTruth_s11 B s days t sum i dJ0)
       ⟨(nltq_t q1), hp5⟩).cast (by (simp only [s2, s3, Bool.true_and]; simp_all; done))
     ·
      have s2 := drop_nil2 (l := t.gaps) (p := fun x => inB x s.glo s.ghi) (i := i) (by omega)
      have s3 := sumL_nil (l := t.gaps) (i := i) (by omega)
      exact (GoE.endsT okF hJ mixed_ok hg0 (rTruth_s12 B s days t sum i dJ0)
       ⟨(nltq_f (Int.not_le.1 q1)), hp5⟩).cast (by (simp only [s2, s3, Bool.true_and]; simp_all; done))
set_option maxHeartbeats 4000000 in
theorem rTruth_e (s : ShStore) (days : Int) (t : ShTruth) (hs : storeB s = true) (hfacts : t.uses.length ≤ 9223372036854775807 ∧ t.gaps.length ≤ 9223372036854775807 ∧ t.goods.length ≤ 9223372036854775807) {B : Lo} (hJ : ∀ w, B.has w → J0 w) : EndsT Tryz.prog B (entryC Tryz.prog 40 141 (([.agg (encStore s).toArray, .int .i64 days, .agg (encTruth t).toArray]).map (pushT 0 4))) (.bool (truthR s days t)) := by
 have hm := store_lots hs
 have hgp := store_gap hs
 have hst := store_stock hs
 by_cases q0 : ((↑t.uses.length : Int) : Int) ≠ ((↑s.stock.length : Int))
 ·
  exact (GoE.endsT okF hJ mixed_ok GoE.start (rTruth_s13 B s days t)
   ⟨(neqq_t q0), trivial⟩).cast (by (simp only [truthR, decide_eq_false (show ¬ t.uses.length = s.stock.length by omega), Bool.false_and]; done))
 ·
  have hp6 : AllP (rTruth_p6 B s days t) := by
   exact ⟨(neqq_f (Decidable.of_not_not q0)), trivial⟩
  by_cases q1 : ((↑t.goods.length : Int) : Int) ≠ ((↑s.lots.length : Int))
  ·
   exact (GoE.endsT okF hJ mixed_ok GoE.start (rTruth_s14 B s days t)
    ⟨(neqq_t q1), hp6⟩).cast (by (simp only [truthR, decide_eq_false (show ¬ t.goods.length = s.lots.length by omega), Bool.false_and, Bool.and_false]; done))
  ·
   have hp7 : AllP (rTruth_p7 B s days t) := by
    exact ⟨(neqq_f (Decidable.of_not_not q1)), hp6⟩
   by_cases q2 : (300 : Int) < ((↑t.gaps.length : Int))
   ·
    exact (GoE.endsT okF hJ mixed_ok GoE.start (rTruth_s15 B s days t)
     ⟨(ltq_t q2), hp7⟩).cast (by (simp only [truthR, decide_eq_false (show ¬ t.gaps.length ≤ 300 by omega), Bool.false_and, Bool.and_false]; done))
   ·
    exact ((rTruth_ls s days t hs hfacts hJ _).1 (0) rfl (by omega) (by omega) (by omega) (by omega)
     (GoE.start.landM okF hJ mixed_ok (rTruth_s16 B s days t)
     ⟨(ltq_f (Int.not_lt.1 q2)), hp7⟩ (by kernel_rfl) (by kernel_rfl))).cast (by (simp only [truthR, decide_eq_true (show t.uses.length = s.stock.length by omega), decide_eq_true (show t.goods.length = s.lots.length by omega), decide_eq_true (show t.gaps.length ≤ 300 by omega), Bool.true_and]; done))
theorem rTruth (s : ShStore) (days : Int) (t : ShTruth) (hs : storeB s = true) : PureC Tryz.prog J0 40 #[.agg (encStore s).toArray, .int .i64 days, .agg (encTruth t).toArray] (.bool (truthR s days t)) :=
 pureC_ofF (ts := [.agg (encStore s).toArray, .int .i64 days, .agg (encTruth t).toArray]) (t.uses.length ≤ 9223372036854775807 ∧ t.gaps.length ≤ 9223372036854775807 ∧ t.goods.length ≤ 9223372036854775807) (fun _ _ ht => ⟨ht.ln2 (i := 2) (j := 0) rfl rfl, ht.ln2 (i := 2) (j := 1) rfl rfl, ht.ln2 (i := 2) (j := 2) rfl rfl⟩) J0_st (c0 := entryC Tryz.prog 40 141 (([.agg (encStore s).toArray, .int .i64 days, .agg (encTruth t).toArray]).map (pushT 0 4))) (by kernel_rfl) (by kernel_rfl) fun hfacts B hJ => rTruth_e s days t hs hfacts hJ
end Go.Proofs.YtiabgkiccaodmaaGreat

