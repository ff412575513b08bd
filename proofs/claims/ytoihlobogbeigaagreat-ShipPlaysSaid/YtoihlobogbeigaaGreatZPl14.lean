/- The reference's stores, loads and truths. -/
import Derived.Test.YtoihlobogbeigaaGreatZPl13
set_option linter.all false
namespace Go.Proofs.YtoihlobogbeigaaGreat
open Go Go.CE Go.RowKit
set_option maxRecDepth 100000
theorem drop_all2 {α : Type} [Inhabited α] {l : List α} {i : Int} {p : α → Bool} (h0 : 0 ≤ i) (h : i < l.length) : (l.drop i.toNat).all p = (p (l.getD i.toNat default) && (l.drop (i + 1).toNat).all p) := by
  obtain ⟨k, rfl⟩ : ∃ k : Nat, i = k := ⟨i.toNat, by omega⟩
  have hk : k < l.length := by omega
  have e1 : ((k : Int)).toNat = k := by omega
  have e2 : ((k : Int) + 1).toNat = k + 1 := by omega
  rw [e1, e2, List.drop_eq_getElem_cons hk, List.all_cons]
  simp [List.getD_eq_getElem?_getD, hk]
theorem drop_nil2 {α : Type} {l : List α} {i : Int} {p : α → Bool} (h : l.length ≤ i) : (l.drop i.toNat).all p = true := by
  rw [List.drop_eq_nil_of_le (by omega)]; rfl
def lotR (k : Nat) (l : ShLot) : Bool := spansB l.goods 100000 && (decide (l.goods.length = k) && (inB l.weight 0 100000 && inB l.cost 0 1000000))
def storeT (s : ShStore) : Bool := inB s.stock.length 1 4 && (decide (s.use.length = s.stock.length) && (spanB s.glo s.ghi 1 60 && (decide (s.lots.length ≤ 6) && inB s.hold 0 100000)))
def storeR (s : ShStore) : Bool := s.stock.all (fun x => inB x 0 100000) && (spansB s.use 1000 && (s.lots.all (lotR s.stock.length) && storeT s))
theorem storeR_eq {s : ShStore} : storeR s = storeB s := by
  have e : lotR s.stock.length = lotB s.stock.length := by
    funext l; unfold lotR lotB
    cases spansB l.goods 100000 <;> cases decide (l.goods.length = s.stock.length) <;> rfl
  unfold storeR storeB storeT lotsB
  rw [e]
  cases inB s.stock.length 1 4 <;> cases s.stock.all (fun x => inB x 0 100000) <;> cases decide (s.use.length = s.stock.length) <;> cases spansB s.use 1000 <;> cases spanB s.glo s.ghi 1 60 <;> cases decide (s.lots.length ≤ 6) <;> cases s.lots.all (lotB s.stock.length) <;> simp
def wtL (l : List ShLot) : Nat := (l.map fun x => x.goods.length + 2).sum
theorem wt_cons {l : List ShLot} {i : Int} (h0 : 0 ≤ i) (h : i < l.length) : wtL (l.drop i.toNat) = (l.getD i.toNat default).goods.length + 2 + wtL (l.drop (i + 1).toNat) := by
  obtain ⟨k, rfl⟩ : ∃ k : Nat, i = k := ⟨i.toNat, by omega⟩
  have hk : k < l.length := by omega
  have e1 : ((k : Int)).toNat = k := by omega
  have e2 : ((k : Int) + 1).toNat = k + 1 := by omega
  rw [e1, e2, List.drop_eq_getElem_cons hk]
  unfold wtL
  rw [List.map_cons, List.sum_cons]
  simp [List.getD_eq_getElem?_getD, hk]
def rStore_v0 (s : ShStore) (i : Int) : List Value := [pA 2 0, .int .i64 i]
def rStore_o0 (s : ShStore) (i : Int) : List Obj := [Obj.cells #[topV 1 (slT (List.length (ShStore.stock s)) (rowL encI (ShStore.stock s))), topV 1 (slT (List.length (ShStore.use s)) (rowL encSp (ShStore.use s))), Value.int IntKind.i64 (ShStore.glo s), Value.int IntKind.i64 (ShStore.ghi s), topV 1 (slT (List.length (ShStore.lots s)) (rowL encLot (ShStore.lots s))), Value.int IntKind.i64 (ShStore.hold s)] 62]
noncomputable def rStore_t0 : List Item := ([.code [1, 0, 1, 0, 0], .inLoop [1, 0, 1, 0, 0], .inBlock 0, .code [1, 1]]).map (it (bodyOf Tryz.prog 44))
def rStore_h0 (B : Lo) (c0 : CF) (s : ShStore) (i : Int) : Prop := ∃ dJ : Nat → Value, (∀ t, Loose (dJ t)) ∧ GoE Tryz.prog B c0 H00 1 (headC 44 110 (([1, 3] : List Nat).zip (rStore_v0 s i)) dJ rStore_t0) (headH (rStore_o0 s i)) (2 + (rStore_o0 s i).length) []
def rStore_v1 (s : ShStore) (i : Int) : List Value := [pA 2 0, .int .i64 i]
def rStore_o1 (s : ShStore) (i : Int) : List Obj := [Obj.cells #[topV 1 (slT (List.length (ShStore.stock s)) (rowL encI (ShStore.stock s))), topV 1 (slT (List.length (ShStore.use s)) (rowL encSp (ShStore.use s))), Value.int IntKind.i64 (ShStore.glo s), Value.int IntKind.i64 (ShStore.ghi s), topV 1 (slT (List.length (ShStore.lots s)) (rowL encLot (ShStore.lots s))), Value.int IntKind.i64 (ShStore.hold s)] 62]
noncomputable def rStore_t1 : List Item := ([.code [1, 1, 0, 1, 0, 0], .inLoop [1, 1, 0, 1, 0, 0], .inBlock 2, .code [1, 1, 1]]).map (it (bodyOf Tryz.prog 44))
def rStore_h1 (B : Lo) (c0 : CF) (s : ShStore) (i : Int) : Prop := ∃ dJ : Nat → Value, (∀ t, Loose (dJ t)) ∧ GoE Tryz.prog B c0 H00 1 (headC 44 110 (([1, 4] : List Nat).zip (rStore_v1 s i)) dJ rStore_t1) (headH (rStore_o1 s i)) (2 + (rStore_o1 s i).length) []
def rStore_v2 (s : ShStore) (i : Int) : List Value := [pA 2 0, .int .i64 i]
def rStore_o2 (s : ShStore) (i : Int) : List Obj := [Obj.cells #[topV 1 (slT (List.length (ShStore.stock s)) (rowL encI (ShStore.stock s))), topV 1 (slT (List.length (ShStore.use s)) (rowL encSp (ShStore.use s))), Value.int IntKind.i64 (ShStore.glo s), Value.int IntKind.i64 (ShStore.ghi s), topV 1 (slT (List.length (ShStore.lots s)) (rowL encLot (ShStore.lots s))), Value.int IntKind.i64 (ShStore.hold s)] 62]
noncomputable def rStore_t2 : List Item := ([.code [1, 1, 1, 0, 1, 0, 0], .inLoop [1, 1, 1, 0, 1, 0, 0], .inBlock 4, .code [1, 1, 1, 1]]).map (it (bodyOf Tryz.prog 44))
def rStore_h2 (B : Lo) (c0 : CF) (s : ShStore) (i : Int) : Prop := ∃ dJ : Nat → Value, (∀ t, Loose (dJ t)) ∧ GoE Tryz.prog B c0 H00 1 (headC 44 110 (([1, 5] : List Nat).zip (rStore_v2 s i)) dJ rStore_t2) (headH (rStore_o2 s i)) (2 + (rStore_o2 s i).length) []
def rStore_v3 (s : ShStore) (i j : Int) : List Value := [pA 2 0, .int .i64 i, pA 3 0, .int .i64 j]
def rStore_o3 (s : ShStore) (i j : Int) : List Obj := [Obj.cells #[topV 1 (slT (List.length (ShStore.stock s)) (rowL encI (ShStore.stock s))), topV 1 (slT (List.length (ShStore.use s)) (rowL encSp (ShStore.use s))), Value.int IntKind.i64 (ShStore.glo s), Value.int IntKind.i64 (ShStore.ghi s), topV 1 (slT (List.length (ShStore.lots s)) (rowL encLot (ShStore.lots s))), Value.int IntKind.i64 (ShStore.hold s)] 62, Obj.cells #[topV 1 (slT (List.length (ShLot.goods (List.getD (ShStore.lots s) (Int.toNat i) default))) (rowL encSp (ShLot.goods (List.getD (ShStore.lots s) (Int.toNat i) default)))), Value.int IntKind.i64 (ShLot.weight (List.getD (ShStore.lots s) (Int.toNat i) default)), Value.int IntKind.i64 (ShLot.cost (List.getD (ShStore.lots s) (Int.toNat i) default))] 118]
noncomputable def rStore_t3 : List Item := ([.code [1, 1, 1, 0, 1, 0, 0, 1, 0, 0, 1, 0, 1, 0, 0], .inLoop [1, 1, 1, 0, 1, 0, 0, 1, 0, 0, 1, 0, 1, 0, 0], .inBlock 6, .code [1, 1, 1, 0, 1, 0, 0, 1, 0, 0, 1, 1], .inBlock 5, .code [1, 1, 1, 0, 1, 0, 0, 1, 1], .inLoop [1, 1, 1, 0, 1, 0, 0], .inBlock 4, .code [1, 1, 1, 1]]).map (it (bodyOf Tryz.prog 44))
def rStore_h3 (B : Lo) (c0 : CF) (s : ShStore) (i j : Int) : Prop := ∃ dJ : Nat → Value, (∀ t, Loose (dJ t)) ∧ GoE Tryz.prog B c0 H00 1 (headC 44 110 (([1, 5, 6, 7] : List Nat).zip (rStore_v3 s i j)) dJ rStore_t3) (headH (rStore_o3 s i j)) (2 + (rStore_o3 s i j).length) []
noncomputable def rStore_p0 (B : Lo) (s : ShStore) (i : Int) (dJ0 : Nat → Value) : List Prop := [i = (↑(Int.toNat i) : Int) ∧ Int.toNat i < List.length (ShStore.stock s) ∧ Array.extract (rowL encI (ShStore.stock s)) (Int.toNat i * TypeInfo.size Tryz.t3) (Int.toNat i * TypeInfo.size Tryz.t3 + TypeInfo.size Tryz.t3) = #[Value.int IntKind.i64 (List.getD (ShStore.stock s) (Int.toNat i) default)], ltq i (↑(List.length (ShStore.stock s)) : Int) = true] ++ ([] : List Prop)
noncomputable def rStore_q0 (s : ShStore) (i : Int) (dJ0 : Nat → Value) : ScriptT := [(4, hvT), (8, HintT.tidx (Int.toNat i) #[Value.int IntKind.i64 (List.getD (ShStore.stock s) (Int.toNat i) default)])]
theorem rStore_s0 (B : Lo) (s : ShStore) (i : Int) (dJ0 : Nat → Value) : landM (srunT Tryz.prog (okFn Tryz.prog) J0 B 14 1 (headC 44 110 (([1, 3] : List Nat).zip (rStore_v0 s i)) dJ0 rStore_t0) (headH (rStore_o0 s i)) (2 + (rStore_o0 s i).length)
    (rStore_q0 s i dJ0 ++ [(10, HintT.pure (Value.bool true) []), (13, hvI (i + 1))]) 0 [] []) [1, 3] [(2, KS.auto)] [] = some ⟨44, 110, rStore_t0, [], .run, none, rStore_v0 s (i + 1), rStore_o0 s (i + 1),
    [wq (i + 1) = i + 1, AllP [] ∧ PureC Tryz.prog J0 69 #[Value.int IntKind.i64 (List.getD (ShStore.stock s) (Int.toNat i) default), Value.int IntKind.i64 0, Value.int IntKind.i64 100000] (Value.bool true)] ++ rStore_p0 B s i dJ0⟩ := by kernel_rfl
theorem rStore_s1 (B : Lo) (s : ShStore) (i : Int) (dJ0 : Nat → Value) : endT (srunT Tryz.prog (okFn Tryz.prog) J0 B 14 1 (headC 44 110 (([1, 3] : List Nat).zip (rStore_v0 s i)) dJ0 rStore_t0) (headH (rStore_o0 s i)) (2 + (rStore_o0 s i).length)
    (rStore_q0 s i dJ0 ++ [(10, HintT.pure (Value.bool false) [])]) 0 [] []) [] = some (Value.bool false,
    [AllP [] ∧ PureC Tryz.prog J0 69 #[Value.int IntKind.i64 (List.getD (ShStore.stock s) (Int.toNat i) default), Value.int IntKind.i64 0, Value.int IntKind.i64 100000] (Value.bool false)] ++ rStore_p0 B s i dJ0) := by kernel_rfl
theorem rStore_s2 (B : Lo) (s : ShStore) (i : Int) (dJ0 : Nat → Value) : landM (srunT Tryz.prog (okFn Tryz.prog) J0 B 10 1 (headC 44 110 (([1, 3] : List Nat).zip (rStore_v0 s i)) dJ0 rStore_t0) (headH (rStore_o0 s i)) (2 + (rStore_o0 s i).length)
    [(4, hvF)] 0 [] []) [1, 4] [(2, KS.auto)] [] = some ⟨44, 110, rStore_t1, [], .run, none, rStore_v1 s (0), rStore_o1 s (0),
    [ltq i (↑(List.length (ShStore.stock s)) : Int) = false]⟩ := by kernel_rfl
noncomputable def rStore_p1 (B : Lo) (s : ShStore) (i : Int) (dJ0 : Nat → Value) : List Prop := [i = (↑(Int.toNat i) : Int) ∧ Int.toNat i < List.length (ShStore.use s) ∧ Array.extract (rowL encSp (ShStore.use s)) (Int.toNat i * TypeInfo.size Tryz.t25) (Int.toNat i * TypeInfo.size Tryz.t25 + TypeInfo.size Tryz.t25) = #[Value.int IntKind.i64 (Span.lo (List.getD (ShStore.use s) (Int.toNat i) default)), Value.int IntKind.i64 (Span.hi (List.getD (ShStore.use s) (Int.toNat i) default))], ltq i (↑(List.length (ShStore.use s)) : Int) = true] ++ ([] : List Prop)
noncomputable def rStore_q1 (s : ShStore) (i : Int) (dJ0 : Nat → Value) : ScriptT := [(4, hvT), (8, HintT.tidx (Int.toNat i) #[Value.int IntKind.i64 (Span.lo (List.getD (ShStore.use s) (Int.toNat i) default)), Value.int IntKind.i64 (Span.hi (List.getD (ShStore.use s) (Int.toNat i) default))])]
theorem rStore_s3 (B : Lo) (s : ShStore) (i : Int) (dJ0 : Nat → Value) : landM (srunT Tryz.prog (okFn Tryz.prog) J0 B 14 1 (headC 44 110 (([1, 4] : List Nat).zip (rStore_v1 s i)) dJ0 rStore_t1) (headH (rStore_o1 s i)) (2 + (rStore_o1 s i).length)
    (rStore_q1 s i dJ0 ++ [(10, HintT.pure (Value.bool true) []), (13, hvI (i + 1))]) 0 [] []) [1, 4] [(2, KS.auto)] [] = some ⟨44, 110, rStore_t1, [], .run, none, rStore_v1 s (i + 1), rStore_o1 s (i + 1),
    [wq (i + 1) = i + 1, AllP [] ∧ PureC Tryz.prog J0 70 #[Value.agg #[Value.int IntKind.i64 (Span.lo (List.getD (ShStore.use s) (Int.toNat i) default)), Value.int IntKind.i64 (Span.hi (List.getD (ShStore.use s) (Int.toNat i) default))], Value.int IntKind.i64 0, Value.int IntKind.i64 1000] (Value.bool true)] ++ rStore_p1 B s i dJ0⟩ := by kernel_rfl
theorem rStore_s4 (B : Lo) (s : ShStore) (i : Int) (dJ0 : Nat → Value) : endT (srunT Tryz.prog (okFn Tryz.prog) J0 B 14 1 (headC 44 110 (([1, 4] : List Nat).zip (rStore_v1 s i)) dJ0 rStore_t1) (headH (rStore_o1 s i)) (2 + (rStore_o1 s i).length)
    (rStore_q1 s i dJ0 ++ [(10, HintT.pure (Value.bool false) [])]) 0 [] []) [] = some (Value.bool false,
    [AllP [] ∧ PureC Tryz.prog J0 70 #[Value.agg #[Value.int IntKind.i64 (Span.lo (List.getD (ShStore.use s) (Int.toNat i) default)), Value.int IntKind.i64 (Span.hi (List.getD (ShStore.use s) (Int.toNat i) default))], Value.int IntKind.i64 0, Value.int IntKind.i64 1000] (Value.bool false)] ++ rStore_p1 B s i dJ0) := by kernel_rfl
theorem rStore_s5 (B : Lo) (s : ShStore) (i : Int) (dJ0 : Nat → Value) : landM (srunT Tryz.prog (okFn Tryz.prog) J0 B 10 1 (headC 44 110 (([1, 4] : List Nat).zip (rStore_v1 s i)) dJ0 rStore_t1) (headH (rStore_o1 s i)) (2 + (rStore_o1 s i).length)
    [(4, hvF)] 0 [] []) [1, 5] [(2, KS.auto)] [] = some ⟨44, 110, rStore_t2, [], .run, none, rStore_v2 s (0), rStore_o2 s (0),
    [ltq i (↑(List.length (ShStore.use s)) : Int) = false]⟩ := by kernel_rfl
theorem rStore_s6 (B : Lo) (s : ShStore) (i : Int) (dJ0 : Nat → Value) : landM (srunT Tryz.prog (okFn Tryz.prog) J0 B 14 1 (headC 44 110 (([1, 5] : List Nat).zip (rStore_v2 s i)) dJ0 rStore_t2) (headH (rStore_o2 s i)) (2 + (rStore_o2 s i).length)
    [(4, hvT), (8, HintT.tidx (Int.toNat i) #[slT (List.length (ShLot.goods (List.getD (ShStore.lots s) (Int.toNat i) default))) (rowL encSp (ShLot.goods (List.getD (ShStore.lots s) (Int.toNat i) default))), Value.int IntKind.i64 (ShLot.weight (List.getD (ShStore.lots s) (Int.toNat i) default)), Value.int IntKind.i64 (ShLot.cost (List.getD (ShStore.lots s) (Int.toNat i) default))])] 0 [] []) [1, 5, 6, 7] [(2, KS.auto), (3, KS.auto)] [] = some ⟨44, 110, rStore_t3, [], .run, none, rStore_v3 s (i) (0), rStore_o3 s (i) (0),
    [i = (↑(Int.toNat i) : Int) ∧ Int.toNat i < List.length (ShStore.lots s) ∧ Array.extract (rowL encLot (ShStore.lots s)) (Int.toNat i * TypeInfo.size Tryz.t118) (Int.toNat i * TypeInfo.size Tryz.t118 + TypeInfo.size Tryz.t118) = #[slT (List.length (ShLot.goods (List.getD (ShStore.lots s) (Int.toNat i) default))) (rowL encSp (ShLot.goods (List.getD (ShStore.lots s) (Int.toNat i) default))), Value.int IntKind.i64 (ShLot.weight (List.getD (ShStore.lots s) (Int.toNat i) default)), Value.int IntKind.i64 (ShLot.cost (List.getD (ShStore.lots s) (Int.toNat i) default))], ltq i (↑(List.length (ShStore.lots s)) : Int) = true]⟩ := by kernel_rfl
noncomputable def rStore_p2 (B : Lo) (s : ShStore) (i : Int) (dJ0 : Nat → Value) : List Prop := [ltq i (↑(List.length (ShStore.lots s)) : Int) = false] ++ ([] : List Prop)
noncomputable def rStore_q2 (s : ShStore) (i : Int) (dJ0 : Nat → Value) : ScriptT := [(4, hvF)]
noncomputable def rStore_p3 (B : Lo) (s : ShStore) (i : Int) (dJ0 : Nat → Value) : List Prop := [AllP [] ∧ PureC Tryz.prog J0 69 #[Value.int IntKind.i64 (↑(List.length (ShStore.stock s)) : Int), Value.int IntKind.i64 1, Value.int IntKind.i64 4] (Value.bool true)] ++ rStore_p2 B s i dJ0
noncomputable def rStore_q3 (s : ShStore) (i : Int) (dJ0 : Nat → Value) : ScriptT := rStore_q2 s i dJ0 ++ [(8, HintT.pure (Value.bool true) [])]
noncomputable def rStore_p4 (B : Lo) (s : ShStore) (i : Int) (dJ0 : Nat → Value) : List Prop := [eqq (↑(List.length (ShStore.use s)) : Int) (↑(List.length (ShStore.stock s)) : Int) = true] ++ rStore_p3 B s i dJ0
noncomputable def rStore_q4 (s : ShStore) (i : Int) (dJ0 : Nat → Value) : ScriptT := rStore_q3 s i dJ0 ++ [(16, hvT)]
noncomputable def rStore_p5 (B : Lo) (s : ShStore) (i : Int) (dJ0 : Nat → Value) : List Prop := [AllP [] ∧ PureC Tryz.prog J0 30 #[Value.agg #[Value.int IntKind.i64 (ShStore.glo s), Value.int IntKind.i64 (ShStore.ghi s)]] (Value.bool true)] ++ rStore_p4 B s i dJ0
noncomputable def rStore_q5 (s : ShStore) (i : Int) (dJ0 : Nat → Value) : ScriptT := rStore_q4 s i dJ0 ++ [(21, HintT.pure (Value.bool true) [])]
noncomputable def rStore_p6 (B : Lo) (s : ShStore) (i : Int) (dJ0 : Nat → Value) : List Prop := [(!ltq 6 (↑(List.length (ShStore.lots s)) : Int)) = true] ++ rStore_p5 B s i dJ0
noncomputable def rStore_q6 (s : ShStore) (i : Int) (dJ0 : Nat → Value) : ScriptT := rStore_q5 s i dJ0 ++ [(27, hvT)]
theorem rStore_s7 (B : Lo) (s : ShStore) (i : Int) (dJ0 : Nat → Value) : endT (srunT Tryz.prog (okFn Tryz.prog) J0 B 9 1 (headC 44 110 (([1, 5] : List Nat).zip (rStore_v2 s i)) dJ0 rStore_t2) (headH (rStore_o2 s i)) (2 + (rStore_o2 s i).length)
    (rStore_q6 s i dJ0 ++ [(32, HintT.pure (Value.bool true) [])]) 0 [] []) [] = some (Value.bool true,
    [AllP [] ∧ PureC Tryz.prog J0 69 #[Value.int IntKind.i64 (ShStore.hold s), Value.int IntKind.i64 0, Value.int IntKind.i64 100000] (Value.bool true)] ++ rStore_p6 B s i dJ0) := by kernel_rfl
theorem rStore_s8 (B : Lo) (s : ShStore) (i : Int) (dJ0 : Nat → Value) : endT (srunT Tryz.prog (okFn Tryz.prog) J0 B 9 1 (headC 44 110 (([1, 5] : List Nat).zip (rStore_v2 s i)) dJ0 rStore_t2) (headH (rStore_o2 s i)) (2 + (rStore_o2 s i).length)
    (rStore_q6 s i dJ0 ++ [(32, HintT.pure (Value.bool false) [])]) 0 [] []) [] = some (Value.bool false,
    [AllP [] ∧ PureC Tryz.prog J0 69 #[Value.int IntKind.i64 (ShStore.hold s), Value.int IntKind.i64 0, Value.int IntKind.i64 100000] (Value.bool false)] ++ rStore_p6 B s i dJ0) := by kernel_rfl
theorem rStore_s9 (B : Lo) (s : ShStore) (i : Int) (dJ0 : Nat → Value) : endT (srunT Tryz.prog (okFn Tryz.prog) J0 B 9 1 (headC 44 110 (([1, 5] : List Nat).zip (rStore_v2 s i)) dJ0 rStore_t2) (headH (rStore_o2 s i)) (2 + (rStore_o2 s i).length)
    (rStore_q5 s i dJ0 ++ [(27, hvF)]) 0 [] []) [] = some (Value.bool false,
    [(!ltq 6 (↑(List.length (ShStore.lots s)) : Int)) = false] ++ rStore_p5 B s i dJ0) := by kernel_rfl
theorem rStore_s10 (B : Lo) (s : ShStore) (i : Int) (dJ0 : Nat → Value) : endT (srunT Tryz.prog (okFn Tryz.prog) J0 B 9 1 (headC 44 110 (([1, 5] : List Nat).zip (rStore_v2 s i)) dJ0 rStore_t2) (headH (rStore_o2 s i)) (2 + (rStore_o2 s i).length)
    (rStore_q4 s i dJ0 ++ [(21, HintT.pure (Value.bool false) [])]) 0 [] []) [] = some (Value.bool false,
    [AllP [] ∧ PureC Tryz.prog J0 30 #[Value.agg #[Value.int IntKind.i64 (ShStore.glo s), Value.int IntKind.i64 (ShStore.ghi s)]] (Value.bool false)] ++ rStore_p4 B s i dJ0) := by kernel_rfl
theorem rStore_s11 (B : Lo) (s : ShStore) (i : Int) (dJ0 : Nat → Value) : endT (srunT Tryz.prog (okFn Tryz.prog) J0 B 9 1 (headC 44 110 (([1, 5] : List Nat).zip (rStore_v2 s i)) dJ0 rStore_t2) (headH (rStore_o2 s i)) (2 + (rStore_o2 s i).length)
    (rStore_q3 s i dJ0 ++ [(16, hvF)]) 0 [] []) [] = some (Value.bool false,
    [eqq (↑(List.length (ShStore.use s)) : Int) (↑(List.length (ShStore.stock s)) : Int) = false] ++ rStore_p3 B s i dJ0) := by kernel_rfl
theorem rStore_s12 (B : Lo) (s : ShStore) (i : Int) (dJ0 : Nat → Value) : endT (srunT Tryz.prog (okFn Tryz.prog) J0 B 9 1 (headC 44 110 (([1, 5] : List Nat).zip (rStore_v2 s i)) dJ0 rStore_t2) (headH (rStore_o2 s i)) (2 + (rStore_o2 s i).length)
    (rStore_q2 s i dJ0 ++ [(8, HintT.pure (Value.bool false) [])]) 0 [] []) [] = some (Value.bool false,
    [AllP [] ∧ PureC Tryz.prog J0 69 #[Value.int IntKind.i64 (↑(List.length (ShStore.stock s)) : Int), Value.int IntKind.i64 1, Value.int IntKind.i64 4] (Value.bool false)] ++ rStore_p2 B s i dJ0) := by kernel_rfl
noncomputable def rStore_p7 (B : Lo) (s : ShStore) (i j : Int) (dJ0 : Nat → Value) : List Prop := [j = (↑(Int.toNat j) : Int) ∧ Int.toNat j < List.length (ShLot.goods (List.getD (ShStore.lots s) (Int.toNat i) default)) ∧ Array.extract (rowL encSp (ShLot.goods (List.getD (ShStore.lots s) (Int.toNat i) default))) (Int.toNat j * TypeInfo.size Tryz.t25) (Int.toNat j * TypeInfo.size Tryz.t25 + TypeInfo.size Tryz.t25) = #[Value.int IntKind.i64 (Span.lo (List.getD (ShLot.goods (List.getD (ShStore.lots s) (Int.toNat i) default)) (Int.toNat j) default)), Value.int IntKind.i64 (Span.hi (List.getD (ShLot.goods (List.getD (ShStore.lots s) (Int.toNat i) default)) (Int.toNat j) default))], ltq j (↑(List.length (ShLot.goods (List.getD (ShStore.lots s) (Int.toNat i) default))) : Int) = true] ++ ([] : List Prop)
noncomputable def rStore_q7 (s : ShStore) (i j : Int) (dJ0 : Nat → Value) : ScriptT := [(4, hvT), (8, HintT.tidx (Int.toNat j) #[Value.int IntKind.i64 (Span.lo (List.getD (ShLot.goods (List.getD (ShStore.lots s) (Int.toNat i) default)) (Int.toNat j) default)), Value.int IntKind.i64 (Span.hi (List.getD (ShLot.goods (List.getD (ShStore.lots s) (Int.toNat i) default)) (Int.toNat j) default))])]
theorem rStore_s13 (B : Lo) (s : ShStore) (i j : Int) (dJ0 : Nat → Value) : landM (srunT Tryz.prog (okFn Tryz.prog) J0 B 14 1 (headC 44 110 (([1, 5, 6, 7] : List Nat).zip (rStore_v3 s i j)) dJ0 rStore_t3) (headH (rStore_o3 s i j)) (2 + (rStore_o3 s i j).length)
    (rStore_q7 s i j dJ0 ++ [(10, HintT.pure (Value.bool true) []), (13, hvI (j + 1))]) 0 [] []) [1, 5, 6, 7] [(2, KS.auto), (3, KS.auto)] [] = some ⟨44, 110, rStore_t3, [], .run, none, rStore_v3 s (i) (j + 1), rStore_o3 s (i) (j + 1),
    [wq (j + 1) = j + 1, AllP [] ∧ PureC Tryz.prog J0 70 #[Value.agg #[Value.int IntKind.i64 (Span.lo (List.getD (ShLot.goods (List.getD (ShStore.lots s) (Int.toNat i) default)) (Int.toNat j) default)), Value.int IntKind.i64 (Span.hi (List.getD (ShLot.goods (List.getD (ShStore.lots s) (Int.toNat i) default)) (Int.toNat j) default))], Value.int IntKind.i64 0, Value.int IntKind.i64 100000] (Value.bool true)] ++ rStore_p7 B s i j dJ0⟩ := by kernel_rfl
theorem rStore_s14 (B : Lo) (s : ShStore) (i j : Int) (dJ0 : Nat → Value) : endT (srunT Tryz.prog (okFn Tryz.prog) J0 B 14 1 (headC 44 110 (([1, 5, 6, 7] : List Nat).zip (rStore_v3 s i j)) dJ0 rStore_t3) (headH (rStore_o3 s i j)) (2 + (rStore_o3 s i j).length)
    (rStore_q7 s i j dJ0 ++ [(10, HintT.pure (Value.bool false) [])]) 0 [] []) [] = some (Value.bool false,
    [AllP [] ∧ PureC Tryz.prog J0 70 #[Value.agg #[Value.int IntKind.i64 (Span.lo (List.getD (ShLot.goods (List.getD (ShStore.lots s) (Int.toNat i) default)) (Int.toNat j) default)), Value.int IntKind.i64 (Span.hi (List.getD (ShLot.goods (List.getD (ShStore.lots s) (Int.toNat i) default)) (Int.toNat j) default))], Value.int IntKind.i64 0, Value.int IntKind.i64 100000] (Value.bool false)] ++ rStore_p7 B s i j dJ0) := by kernel_rfl
noncomputable def rStore_p8 (B : Lo) (s : ShStore) (i j : Int) (dJ0 : Nat → Value) : List Prop := [ltq j (↑(List.length (ShLot.goods (List.getD (ShStore.lots s) (Int.toNat i) default))) : Int) = false] ++ ([] : List Prop)
noncomputable def rStore_q8 (s : ShStore) (i j : Int) (dJ0 : Nat → Value) : ScriptT := [(4, hvF)]
theorem rStore_s15 (B : Lo) (s : ShStore) (i j : Int) (dJ0 : Nat → Value) : endT (srunT Tryz.prog (okFn Tryz.prog) J0 B 12 1 (headC 44 110 (([1, 5, 6, 7] : List Nat).zip (rStore_v3 s i j)) dJ0 rStore_t3) (headH (rStore_o3 s i j)) (2 + (rStore_o3 s i j).length)
    (rStore_q8 s i j dJ0 ++ [(11, hvT)]) 0 [] []) [] = some (Value.bool false,
    [(!eqq (↑(List.length (ShLot.goods (List.getD (ShStore.lots s) (Int.toNat i) default))) : Int) (↑(List.length (ShStore.stock s)) : Int)) = true] ++ rStore_p8 B s i j dJ0) := by kernel_rfl
noncomputable def rStore_p9 (B : Lo) (s : ShStore) (i j : Int) (dJ0 : Nat → Value) : List Prop := [(!eqq (↑(List.length (ShLot.goods (List.getD (ShStore.lots s) (Int.toNat i) default))) : Int) (↑(List.length (ShStore.stock s)) : Int)) = false] ++ rStore_p8 B s i j dJ0
noncomputable def rStore_q9 (s : ShStore) (i j : Int) (dJ0 : Nat → Value) : ScriptT := rStore_q8 s i j dJ0 ++ [(11, hvF)]
noncomputable def rStore_p10 (B : Lo) (s : ShStore) (i j : Int) (dJ0 : Nat → Value) : List Prop := [AllP [] ∧ PureC Tryz.prog J0 69 #[Value.int IntKind.i64 (ShLot.weight (List.getD (ShStore.lots s) (Int.toNat i) default)), Value.int IntKind.i64 0, Value.int IntKind.i64 100000] (Value.bool true)] ++ rStore_p9 B s i j dJ0
noncomputable def rStore_q10 (s : ShStore) (i j : Int) (dJ0 : Nat → Value) : ScriptT := rStore_q9 s i j dJ0 ++ [(15, HintT.pure (Value.bool true) [])]
theorem rStore_s16 (B : Lo) (s : ShStore) (i j : Int) (dJ0 : Nat → Value) : landM (srunT Tryz.prog (okFn Tryz.prog) J0 B 12 1 (headC 44 110 (([1, 5, 6, 7] : List Nat).zip (rStore_v3 s i j)) dJ0 rStore_t3) (headH (rStore_o3 s i j)) (2 + (rStore_o3 s i j).length)
    (rStore_q10 s i j dJ0 ++ [(21, HintT.pure (Value.bool true) []), (25, hvI (i + 1))]) 0 [] []) [1, 5] [(2, KS.auto)] [] = some ⟨44, 110, rStore_t2, [], .run, none, rStore_v2 s (i + 1), rStore_o2 s (i + 1),
    [wq (i + 1) = i + 1, AllP [] ∧ PureC Tryz.prog J0 69 #[Value.int IntKind.i64 (ShLot.cost (List.getD (ShStore.lots s) (Int.toNat i) default)), Value.int IntKind.i64 0, Value.int IntKind.i64 1000000] (Value.bool true)] ++ rStore_p10 B s i j dJ0⟩ := by kernel_rfl
theorem rStore_s17 (B : Lo) (s : ShStore) (i j : Int) (dJ0 : Nat → Value) : endT (srunT Tryz.prog (okFn Tryz.prog) J0 B 12 1 (headC 44 110 (([1, 5, 6, 7] : List Nat).zip (rStore_v3 s i j)) dJ0 rStore_t3) (headH (rStore_o3 s i j)) (2 + (rStore_o3 s i j).length)
    (rStore_q10 s i j dJ0 ++ [(21, HintT.pure (Value.bool false) [])]) 0 [] []) [] = some (Value.bool false,
    [AllP [] ∧ PureC Tryz.prog J0 69 #[Value.int IntKind.i64 (ShLot.cost (List.getD (ShStore.lots s) (Int.toNat i) default)), Value.int IntKind.i64 0, Value.int IntKind.i64 1000000] (Value.bool false)] ++ rStore_p10 B s i j dJ0) := by kernel_rfl
theorem rStore_s18 (B : Lo) (s : ShStore) (i j : Int) (dJ0 : Nat → Value) : endT (srunT Tryz.prog (okFn Tryz.prog) J0 B 12 1 (headC 44 110 (([1, 5, 6, 7] : List Nat).zip (rStore_v3 s i j)) dJ0 rStore_t3) (headH (rStore_o3 s i j)) (2 + (rStore_o3 s i j).length)
    (rStore_q9 s i j dJ0 ++ [(15, HintT.pure (Value.bool false) [])]) 0 [] []) [] = some (Value.bool false,
    [AllP [] ∧ PureC Tryz.prog J0 69 #[Value.int IntKind.i64 (ShLot.weight (List.getD (ShStore.lots s) (Int.toNat i) default)), Value.int IntKind.i64 0, Value.int IntKind.i64 100000] (Value.bool false)] ++ rStore_p9 B s i j dJ0) := by kernel_rfl
theorem rStore_s19 (B : Lo) (s : ShStore) : landM (srunT Tryz.prog (okFn Tryz.prog) J0 B 7 1 (entryC Tryz.prog 44 110 (([.agg (encStore s).toArray]).map (pushT 0 4))) H00 1
    [] 0 [] []) [1, 3] [(1, KS.auto)] [] = some ⟨44, 110, rStore_t0, [], .run, none, rStore_v0 s (0), rStore_o0 s (0),
    []⟩ := by kernel_rfl
set_option maxHeartbeats 4000000 in
theorem rStore_ls (s : ShStore) (hb : ∀ l ∈ s.lots, l.goods.length ≤ 8) (hfacts : s.stock.length ≤ 9223372036854775807 ∧ s.use.length ≤ 9223372036854775807 ∧ s.lots.length ≤ 9223372036854775807) {B : Lo} (hJ : ∀ w, B.has w → J0 w) {c0 : CF} : ∀ m : Nat, (∀ (i : Int), (s.stock.length - i.toNat) + s.use.length + wtL s.lots + 9 = m → ∀ (h0 : 0 ≤ i), rStore_h0 B c0 s i → EndsT Tryz.prog B c0 (.bool ((s.stock.drop i.toNat).all (fun x => inB x 0 100000) && (spansB s.use 1000 && (s.lots.all (lotR s.stock.length) && storeT s))))) ∧ (∀ (i : Int), (s.use.length - i.toNat) + wtL s.lots + 8 = m → ∀ (h0 : 0 ≤ i), rStore_h1 B c0 s i → EndsT Tryz.prog B c0 (.bool ((s.use.drop i.toNat).all (fun s => spanB s.lo s.hi 0 1000) && (s.lots.all (lotR s.stock.length) && storeT s)))) ∧ (∀ (i : Int), wtL (s.lots.drop i.toNat) + 1 = m → ∀ (h0 : 0 ≤ i), rStore_h2 B c0 s i → EndsT Tryz.prog B c0 (.bool ((s.lots.drop i.toNat).all (lotR s.stock.length) && storeT s))) ∧ (∀ (i j : Int), ((s.lots.getD i.toNat default).goods.length - j.toNat) + wtL (s.lots.drop (i + 1).toNat) + 2 = m → ∀ (h0 : 0 ≤ i) (h1 : i < s.lots.length) (j0 : 0 ≤ j), rStore_h3 B c0 s i j → EndsT Tryz.prog B c0 (.bool ((((s.lots.getD i.toNat default).goods.drop j.toNat).all (fun s => spanB s.lo s.hi 0 100000) && (decide ((s.lots.getD i.toNat default).goods.length = s.stock.length) && (inB (s.lots.getD i.toNat default).weight 0 100000 && inB (s.lots.getD i.toNat default).cost 0 1000000))) && ((s.lots.drop (i + 1).toNat).all (lotR s.stock.length) && storeT s)))) := by
  intro m0
  induction m0 using Nat.strongRecOn with
  | _ m0 ih0 =>
    refine ⟨?_, ?_, ?_, ?_⟩
    · intro i hm0 h0 ⟨dJ0, hdJ0, hg0⟩
      by_cases q0 : (i : Int) < ((↑(List.length (ShStore.stock s)) : Int))
      ·
        have hp0 : AllP (rStore_p0 B s i dJ0) := by
          have s2 := drop_all2 (l := s.stock) (p := fun x => inB x 0 100000) h0 q0
          exact ⟨⟨by omega, by omega, (rowL_extract (z := 1) (fun _ => rfl) (by omega))⟩, ⟨(ltq_t q0), trivial⟩⟩
        cases q1 : inB (List.getD (ShStore.stock s) (Int.toNat i) default) 0 100000 with
        | true =>
          have s2 := drop_all2 (l := s.stock) (p := fun x => inB x 0 100000) h0 q0
          exact ((ih0 _ (by omega)).1 (i + 1) rfl (by omega)
            (hg0.landM okF hJ mixed_ok (rStore_s0 B s i dJ0)
            ⟨(wq_in (by omega) (by omega)), ⟨⟨trivial, (by have t_ := rin (List.getD (ShStore.stock s) (Int.toNat i) default) (0) (100000); rw [q1] at t_; exact t_)⟩, hp0⟩⟩ (by kernel_rfl) (by kernel_rfl))).cast (by (simp only [s2, q1, Bool.true_and, Bool.false_and]; done))
        | false =>
          have s2 := drop_all2 (l := s.stock) (p := fun x => inB x 0 100000) h0 q0
          exact (GoE.endsT okF hJ mixed_ok hg0 (rStore_s1 B s i dJ0)
            ⟨⟨trivial, (by have t_ := rin (List.getD (ShStore.stock s) (Int.toNat i) default) (0) (100000); rw [q1] at t_; exact t_)⟩, hp0⟩).cast (by (simp only [s2, q1, Bool.true_and, Bool.false_and]; done))
      ·
        have s2 := drop_nil2 (l := s.stock) (p := fun x => inB x 0 100000) (i := i) (by omega)
        exact ((ih0 _ (by (first | omega | (simp only [Int.toNat_zero, List.drop_zero]; omega)))).2.1 (0) rfl (by omega)
          (hg0.landM okF hJ mixed_ok (rStore_s2 B s i dJ0)
          ⟨(ltq_f (Int.not_lt.1 q0)), trivial⟩ (by kernel_rfl) (by kernel_rfl))).cast (by (simp only [s2, spansB, Int.toNat_zero, List.drop_zero, Bool.true_and]; done))
    · intro i hm0 h0 ⟨dJ0, hdJ0, hg0⟩
      by_cases q0 : (i : Int) < ((↑(List.length (ShStore.use s)) : Int))
      ·
        have hp1 : AllP (rStore_p1 B s i dJ0) := by
          have s2 := drop_all2 (l := s.use) (p := fun s => spanB s.lo s.hi 0 1000) h0 q0
          have m2 : wtL (s.lots.drop (Int.toNat 0)) = wtL s.lots := rfl
          exact ⟨⟨by omega, by omega, (rowL_extract (z := 2) (fun _ => rfl) (by omega))⟩, ⟨(ltq_t q0), trivial⟩⟩
        cases q1 : spanB (Span.lo (List.getD (ShStore.use s) (Int.toNat i) default)) (Span.hi (List.getD (ShStore.use s) (Int.toNat i) default)) 0 1000 with
        | true =>
          have s2 := drop_all2 (l := s.use) (p := fun s => spanB s.lo s.hi 0 1000) h0 q0
          have m2 : wtL (s.lots.drop (Int.toNat 0)) = wtL s.lots := rfl
          exact ((ih0 _ (by (first | omega | (simp only [Int.toNat_zero, List.drop_zero]; omega)))).2.1 (i + 1) rfl (by omega)
            (hg0.landM okF hJ mixed_ok (rStore_s3 B s i dJ0)
            ⟨(wq_in (by omega) (by omega)), ⟨⟨trivial, (by have t_ := rSpan (Span.lo (List.getD (ShStore.use s) (Int.toNat i) default)) (Span.hi (List.getD (ShStore.use s) (Int.toNat i) default)) (0) (1000); rw [q1] at t_; exact t_)⟩, hp1⟩⟩ (by kernel_rfl) (by kernel_rfl))).cast (by (simp only [s2, q1, Bool.true_and, Bool.false_and]; done))
        | false =>
          have s2 := drop_all2 (l := s.use) (p := fun s => spanB s.lo s.hi 0 1000) h0 q0
          have m2 : wtL (s.lots.drop (Int.toNat 0)) = wtL s.lots := rfl
          exact (GoE.endsT okF hJ mixed_ok hg0 (rStore_s4 B s i dJ0)
            ⟨⟨trivial, (by have t_ := rSpan (Span.lo (List.getD (ShStore.use s) (Int.toNat i) default)) (Span.hi (List.getD (ShStore.use s) (Int.toNat i) default)) (0) (1000); rw [q1] at t_; exact t_)⟩, hp1⟩).cast (by (simp only [s2, q1, Bool.true_and, Bool.false_and]; done))
      ·
        have s2 := drop_nil2 (l := s.use) (p := fun s => spanB s.lo s.hi 0 1000) (i := i) (by omega)
        have m2 : wtL (s.lots.drop (Int.toNat 0)) = wtL s.lots := rfl
        exact ((ih0 _ (by (first | omega | (simp only [Int.toNat_zero, List.drop_zero]; omega)))).2.2.1 (0) rfl (by omega)
          (hg0.landM okF hJ mixed_ok (rStore_s5 B s i dJ0)
          ⟨(ltq_f (Int.not_lt.1 q0)), trivial⟩ (by kernel_rfl) (by kernel_rfl))).cast (by (simp only [s2, Int.toNat_zero, List.drop_zero, Bool.true_and]; done))
    · intro i hm0 h0 ⟨dJ0, hdJ0, hg0⟩
      by_cases q0 : (i : Int) < ((↑(List.length (ShStore.lots s)) : Int))
      ·
        have s2 := drop_all2 (l := s.lots) (p := lotR s.stock.length) h0 q0
        have s3 := wt_cons (l := s.lots) h0 q0
        exact ((ih0 _ (by omega)).2.2.2 (i) (0) rfl (by with_reducible assumption) (by with_reducible assumption) (by omega)
          (hg0.landM okF hJ mixed_ok (rStore_s6 B s i dJ0)
          ⟨⟨by omega, by omega, (rowL_extract (z := 3) (fun _ => rfl) (by omega))⟩, ⟨(ltq_t q0), trivial⟩⟩ (by kernel_rfl) (by kernel_rfl))).cast (by (simp only [s2, lotR, spansB, Int.toNat_zero, List.drop_zero, Bool.and_assoc]; done))
      ·
        have hp2 : AllP (rStore_p2 B s i dJ0) := by
          exact ⟨(ltq_f (Int.not_lt.1 q0)), trivial⟩
        cases q1 : inB (↑(List.length (ShStore.stock s)) : Int) 1 4 with
        | true =>
          have hp3 : AllP (rStore_p3 B s i dJ0) := by
            have s2 := drop_nil2 (l := s.lots) (p := lotR s.stock.length) (i := i) (by omega)
            exact ⟨⟨trivial, (by have t_ := rin ((↑(List.length (ShStore.stock s)) : Int)) (1) (4); rw [q1] at t_; exact t_)⟩, hp2⟩
          by_cases q2 : ((↑(List.length (ShStore.use s)) : Int) : Int) = ((↑(List.length (ShStore.stock s)) : Int))
          ·
            have hp4 : AllP (rStore_p4 B s i dJ0) := by
              exact ⟨(eqq_t q2), hp3⟩
            cases q3 : spanB (ShStore.glo s) (ShStore.ghi s) 1 60 with
            | true =>
              have hp5 : AllP (rStore_p5 B s i dJ0) := by
                have s2 := drop_nil2 (l := s.lots) (p := lotR s.stock.length) (i := i) (by omega)
                exact ⟨⟨trivial, (by have t_ := rGap (ShStore.glo s) (ShStore.ghi s); rw [q3] at t_; exact t_)⟩, hp4⟩
              by_cases q4 : ((↑(List.length (ShStore.lots s)) : Int) : Int) ≤ (6)
              ·
                have hp6 : AllP (rStore_p6 B s i dJ0) := by
                  exact ⟨(nltq_t q4), hp5⟩
                cases q5 : inB (ShStore.hold s) 0 100000 with
                | true =>
                  have s2 := drop_nil2 (l := s.lots) (p := lotR s.stock.length) (i := i) (by omega)
                  exact (GoE.endsT okF hJ mixed_ok hg0 (rStore_s7 B s i dJ0)
                    ⟨⟨trivial, (by have t_ := rin (ShStore.hold s) (0) (100000); rw [q5] at t_; exact t_)⟩, hp6⟩).cast (by (rw [s2]; simp_all [storeT]; omega))
                | false =>
                  have s2 := drop_nil2 (l := s.lots) (p := lotR s.stock.length) (i := i) (by omega)
                  exact (GoE.endsT okF hJ mixed_ok hg0 (rStore_s8 B s i dJ0)
                    ⟨⟨trivial, (by have t_ := rin (ShStore.hold s) (0) (100000); rw [q5] at t_; exact t_)⟩, hp6⟩).cast (by (rw [s2]; simp [storeT, *]; done))
              ·
                have s2 := drop_nil2 (l := s.lots) (p := lotR s.stock.length) (i := i) (by omega)
                exact (GoE.endsT okF hJ mixed_ok hg0 (rStore_s9 B s i dJ0)
                  ⟨(nltq_f (Int.not_le.1 q4)), hp5⟩).cast (by (rw [s2]; simp_all [storeT]; omega))
            | false =>
              have s2 := drop_nil2 (l := s.lots) (p := lotR s.stock.length) (i := i) (by omega)
              exact (GoE.endsT okF hJ mixed_ok hg0 (rStore_s10 B s i dJ0)
                ⟨⟨trivial, (by have t_ := rGap (ShStore.glo s) (ShStore.ghi s); rw [q3] at t_; exact t_)⟩, hp4⟩).cast (by (rw [s2]; simp [storeT, *]; done))
          ·
            have s2 := drop_nil2 (l := s.lots) (p := lotR s.stock.length) (i := i) (by omega)
            exact (GoE.endsT okF hJ mixed_ok hg0 (rStore_s11 B s i dJ0)
              ⟨(eqq_f q2), hp3⟩).cast (by (rw [s2]; simp_all [storeT]; omega))
        | false =>
          have s2 := drop_nil2 (l := s.lots) (p := lotR s.stock.length) (i := i) (by omega)
          exact (GoE.endsT okF hJ mixed_ok hg0 (rStore_s12 B s i dJ0)
            ⟨⟨trivial, (by have t_ := rin ((↑(List.length (ShStore.stock s)) : Int)) (1) (4); rw [q1] at t_; exact t_)⟩, hp2⟩).cast (by (rw [s2]; simp [storeT, *]; done))
    · intro i j hm0 h0 h1 j0 ⟨dJ0, hdJ0, hg0⟩
      have hgl := hb _ (getD_mem h0 h1)
      by_cases q0 : (j : Int) < ((↑(List.length (ShLot.goods (List.getD (ShStore.lots s) (Int.toNat i) default))) : Int))
      ·
        have hp7 : AllP (rStore_p7 B s i j dJ0) := by
          have s2 := drop_all2 (l := (s.lots.getD i.toNat default).goods) (p := fun s => spanB s.lo s.hi 0 100000) j0 q0
          exact ⟨⟨by omega, by omega, (rowL_extract (z := 2) (fun _ => rfl) (by omega))⟩, ⟨(ltq_t q0), trivial⟩⟩
        cases q1 : spanB (Span.lo (List.getD (ShLot.goods (List.getD (ShStore.lots s) (Int.toNat i) default)) (Int.toNat j) default)) (Span.hi (List.getD (ShLot.goods (List.getD (ShStore.lots s) (Int.toNat i) default)) (Int.toNat j) default)) 0 100000 with
        | true =>
          have s2 := drop_all2 (l := (s.lots.getD i.toNat default).goods) (p := fun s => spanB s.lo s.hi 0 100000) j0 q0
          exact ((ih0 _ (by omega)).2.2.2 (i) (j + 1) rfl (by with_reducible assumption) (by with_reducible assumption) (by omega)
            (hg0.landM okF hJ mixed_ok (rStore_s13 B s i j dJ0)
            ⟨(wq_in (by omega) (by omega)), ⟨⟨trivial, (by have t_ := rSpan (Span.lo (List.getD (ShLot.goods (List.getD (ShStore.lots s) (Int.toNat i) default)) (Int.toNat j) default)) (Span.hi (List.getD (ShLot.goods (List.getD (ShStore.lots s) (Int.toNat i) default)) (Int.toNat j) default)) (0) (100000); rw [q1] at t_; exact t_)⟩, hp7⟩⟩ (by kernel_rfl) (by kernel_rfl))).cast (by (simp only [s2, q1, Bool.true_and, Bool.false_and]; done))
        | false =>
          have s2 := drop_all2 (l := (s.lots.getD i.toNat default).goods) (p := fun s => spanB s.lo s.hi 0 100000) j0 q0
          exact (GoE.endsT okF hJ mixed_ok hg0 (rStore_s14 B s i j dJ0)
            ⟨⟨trivial, (by have t_ := rSpan (Span.lo (List.getD (ShLot.goods (List.getD (ShStore.lots s) (Int.toNat i) default)) (Int.toNat j) default)) (Span.hi (List.getD (ShLot.goods (List.getD (ShStore.lots s) (Int.toNat i) default)) (Int.toNat j) default)) (0) (100000); rw [q1] at t_; exact t_)⟩, hp7⟩).cast (by (simp only [s2, q1, Bool.true_and, Bool.false_and]; done))
      ·
        have hp8 : AllP (rStore_p8 B s i j dJ0) := by
          exact ⟨(ltq_f (Int.not_lt.1 q0)), trivial⟩
        by_cases q1 : ((↑(List.length (ShLot.goods (List.getD (ShStore.lots s) (Int.toNat i) default))) : Int) : Int) ≠ ((↑(List.length (ShStore.stock s)) : Int))
        ·
          have s2 := drop_nil2 (l := (s.lots.getD i.toNat default).goods) (p := fun s => spanB s.lo s.hi 0 100000) (i := j) (by omega)
          exact (GoE.endsT okF hJ mixed_ok hg0 (rStore_s15 B s i j dJ0)
            ⟨(neqq_t q1), hp8⟩).cast (by (simp only [s2, Bool.true_and]; simp_all; omega))
        ·
          have hp9 : AllP (rStore_p9 B s i j dJ0) := by
            exact ⟨(neqq_f (Decidable.of_not_not q1)), hp8⟩
          cases q2 : inB (ShLot.weight (List.getD (ShStore.lots s) (Int.toNat i) default)) 0 100000 with
          | true =>
            have hp10 : AllP (rStore_p10 B s i j dJ0) := by
              have s2 := drop_nil2 (l := (s.lots.getD i.toNat default).goods) (p := fun s => spanB s.lo s.hi 0 100000) (i := j) (by omega)
              exact ⟨⟨trivial, (by have t_ := rin (ShLot.weight (List.getD (ShStore.lots s) (Int.toNat i) default)) (0) (100000); rw [q2] at t_; exact t_)⟩, hp9⟩
            cases q3 : inB (ShLot.cost (List.getD (ShStore.lots s) (Int.toNat i) default)) 0 1000000 with
            | true =>
              have s2 := drop_nil2 (l := (s.lots.getD i.toNat default).goods) (p := fun s => spanB s.lo s.hi 0 100000) (i := j) (by omega)
              exact ((ih0 _ (by omega)).2.2.1 (i + 1) rfl (by omega)
                (hg0.landM okF hJ mixed_ok (rStore_s16 B s i j dJ0)
                ⟨(wq_in (by omega) (by omega)), ⟨⟨trivial, (by have t_ := rin (ShLot.cost (List.getD (ShStore.lots s) (Int.toNat i) default)) (0) (1000000); rw [q3] at t_; exact t_)⟩, hp10⟩⟩ (by kernel_rfl) (by kernel_rfl))).cast (by (simp only [s2, Bool.true_and]; simp_all; omega))
            | false =>
              have s2 := drop_nil2 (l := (s.lots.getD i.toNat default).goods) (p := fun s => spanB s.lo s.hi 0 100000) (i := j) (by omega)
              exact (GoE.endsT okF hJ mixed_ok hg0 (rStore_s17 B s i j dJ0)
                ⟨⟨trivial, (by have t_ := rin (ShLot.cost (List.getD (ShStore.lots s) (Int.toNat i) default)) (0) (1000000); rw [q3] at t_; exact t_)⟩, hp10⟩).cast (by (simp only [s2, Bool.true_and]; simp [*]; done))
          | false =>
            have s2 := drop_nil2 (l := (s.lots.getD i.toNat default).goods) (p := fun s => spanB s.lo s.hi 0 100000) (i := j) (by omega)
            exact (GoE.endsT okF hJ mixed_ok hg0 (rStore_s18 B s i j dJ0)
              ⟨⟨trivial, (by have t_ := rin (ShLot.weight (List.getD (ShStore.lots s) (Int.toNat i) default)) (0) (100000); rw [q2] at t_; exact t_)⟩, hp9⟩).cast (by (simp only [s2, Bool.true_and]; simp [*]; done))
set_option maxHeartbeats 4000000 in
theorem rStore_e (s : ShStore) (hb : ∀ l ∈ s.lots, l.goods.length ≤ 8) (hfacts : s.stock.length ≤ 9223372036854775807 ∧ s.use.length ≤ 9223372036854775807 ∧ s.lots.length ≤ 9223372036854775807) {B : Lo} (hJ : ∀ w, B.has w → J0 w) : EndsT Tryz.prog B (entryC Tryz.prog 44 110 (([.agg (encStore s).toArray]).map (pushT 0 4))) (.bool (storeR s)) := by
  exact ((rStore_ls s hb hfacts hJ _).1 (0) rfl (by omega)
    (GoE.start.landM okF hJ mixed_ok (rStore_s19 B s)
    trivial (by kernel_rfl) (by kernel_rfl))).cast (by rfl)
theorem rStore (s : ShStore) (hb : ∀ l ∈ s.lots, l.goods.length ≤ 8) : PureC Tryz.prog J0 44 #[.agg (encStore s).toArray] (.bool (storeR s)) :=
  pureC_ofF (ts := [.agg (encStore s).toArray]) (s.stock.length ≤ 9223372036854775807 ∧ s.use.length ≤ 9223372036854775807 ∧ s.lots.length ≤ 9223372036854775807) (fun _ _ ht => ⟨ht.ln2 (i := 0) (j := 0) rfl rfl, ht.ln2 (i := 0) (j := 1) rfl rfl, ht.ln2 (i := 0) (j := 4) rfl rfl⟩) J0_st (c0 := entryC Tryz.prog 44 110 (([.agg (encStore s).toArray]).map (pushT 0 4))) (by kernel_rfl) (by kernel_rfl) fun hfacts B hJ => rStore_e s hb hfacts hJ
def lstore_v0 (s : ShStore) (i : Int) : List Value := [pA 2 0, .int .i64 i]
def lstore_o0 (s : ShStore) (i : Int) : List Obj := [Obj.cells #[topV 1 (slT (List.length (ShStore.stock s)) (rowL encI (ShStore.stock s))), topV 1 (slT (List.length (ShStore.use s)) (rowL encSp (ShStore.use s))), Value.int IntKind.i64 (ShStore.glo s), Value.int IntKind.i64 (ShStore.ghi s), topV 1 (slT (List.length (ShStore.lots s)) (rowL encLot (ShStore.lots s))), Value.int IntKind.i64 (ShStore.hold s)] 62]
noncomputable def lstore_t0 : List Item := ([.code [1, 0, 1, 0, 0], .inLoop [1, 0, 1, 0, 0], .inBlock 0, .code [1, 1]]).map (it (bodyOf Tryz.prog 36))
def lstore_h0 (B : Lo) (c0 : CF) (s : ShStore) (i : Int) : Prop := ∃ dJ : Nat → Value, (∀ t, Loose (dJ t)) ∧ GoE Tryz.prog B c0 H00 1 (headC 36 39 (([1, 3] : List Nat).zip (lstore_v0 s i)) dJ lstore_t0) (headH (lstore_o0 s i)) (2 + (lstore_o0 s i).length) []
noncomputable def lstore_p0 (B : Lo) (s : ShStore) (i : Int) (dJ0 : Nat → Value) : List Prop := [ltq i (↑(List.length (ShStore.lots s)) : Int) = true] ++ ([] : List Prop)
noncomputable def lstore_q0 (s : ShStore) (i : Int) (dJ0 : Nat → Value) : ScriptT := [(4, hvT)]
noncomputable def lstore_p1 (B : Lo) (s : ShStore) (i : Int) (dJ0 : Nat → Value) : List Prop := [i = (↑(Int.toNat i) : Int) ∧ Int.toNat i < List.length (ShStore.lots s) ∧ Array.extract (rowL encLot (ShStore.lots s)) (Int.toNat i * TypeInfo.size Tryz.t118) (Int.toNat i * TypeInfo.size Tryz.t118 + TypeInfo.size Tryz.t118) = #[slT (List.length (ShLot.goods (List.getD (ShStore.lots s) (Int.toNat i) default))) (rowL encSp (ShLot.goods (List.getD (ShStore.lots s) (Int.toNat i) default))), Value.int IntKind.i64 (ShLot.weight (List.getD (ShStore.lots s) (Int.toNat i) default)), Value.int IntKind.i64 (ShLot.cost (List.getD (ShStore.lots s) (Int.toNat i) default))], ltq i 12 = true] ++ lstore_p0 B s i dJ0
noncomputable def lstore_q1 (s : ShStore) (i : Int) (dJ0 : Nat → Value) : ScriptT := lstore_q0 s i dJ0 ++ [(7, hvT), (12, HintT.tidx (Int.toNat i) #[slT (List.length (ShLot.goods (List.getD (ShStore.lots s) (Int.toNat i) default))) (rowL encSp (ShLot.goods (List.getD (ShStore.lots s) (Int.toNat i) default))), Value.int IntKind.i64 (ShLot.weight (List.getD (ShStore.lots s) (Int.toNat i) default)), Value.int IntKind.i64 (ShLot.cost (List.getD (ShStore.lots s) (Int.toNat i) default))])]
theorem lstore_s0 (B : Lo) (s : ShStore) (i : Int) (dJ0 : Nat → Value) : endT (srunT Tryz.prog (okFn Tryz.prog) J0 B 14 1 (headC 36 39 (([1, 3] : List Nat).zip (lstore_v0 s i)) dJ0 lstore_t0) (headH (lstore_o0 s i)) (2 + (lstore_o0 s i).length)
    (lstore_q1 s i dJ0 ++ [(16, hvT)]) 0 [] []) [] = some (Value.bool false,
    [ltq 8 (↑(List.length (ShLot.goods (List.getD (ShStore.lots s) (Int.toNat i) default))) : Int) = true] ++ lstore_p1 B s i dJ0) := by kernel_rfl
theorem lstore_s1 (B : Lo) (s : ShStore) (i : Int) (dJ0 : Nat → Value) : landM (srunT Tryz.prog (okFn Tryz.prog) J0 B 14 1 (headC 36 39 (([1, 3] : List Nat).zip (lstore_v0 s i)) dJ0 lstore_t0) (headH (lstore_o0 s i)) (2 + (lstore_o0 s i).length)
    (lstore_q1 s i dJ0 ++ [(16, hvF), (18, hvI (i + 1))]) 0 [] []) [1, 3] [(2, KS.auto)] [] = some ⟨36, 39, lstore_t0, [], .run, none, lstore_v0 s (i + 1), lstore_o0 s (i + 1),
    [wq (i + 1) = i + 1, ltq 8 (↑(List.length (ShLot.goods (List.getD (ShStore.lots s) (Int.toNat i) default))) : Int) = false] ++ lstore_p1 B s i dJ0⟩ := by kernel_rfl
noncomputable def lstore_p2 (B : Lo) (s : ShStore) (i : Int) (dJ0 : Nat → Value) : List Prop := [ltq i 12 = false] ++ lstore_p0 B s i dJ0
noncomputable def lstore_q2 (s : ShStore) (i : Int) (dJ0 : Nat → Value) : ScriptT := lstore_q0 s i dJ0 ++ [(7, hvF)]
noncomputable def lstore_p3 (B : Lo) (s : ShStore) (i : Int) (dJ0 : Nat → Value) : List Prop := [(!ltq 8 (↑(List.length (ShStore.stock s)) : Int)) = true] ++ lstore_p2 B s i dJ0
noncomputable def lstore_q3 (s : ShStore) (i : Int) (dJ0 : Nat → Value) : ScriptT := lstore_q2 s i dJ0 ++ [(12, hvT)]
noncomputable def lstore_p4 (B : Lo) (s : ShStore) (i : Int) (dJ0 : Nat → Value) : List Prop := [(!ltq 8 (↑(List.length (ShStore.use s)) : Int)) = true] ++ lstore_p3 B s i dJ0
noncomputable def lstore_q4 (s : ShStore) (i : Int) (dJ0 : Nat → Value) : ScriptT := lstore_q3 s i dJ0 ++ [(17, hvT)]
theorem lstore_s2 (B : Lo) (s : ShStore) (i : Int) (dJ0 : Nat → Value) : endT (srunT Tryz.prog (okFn Tryz.prog) J0 B 9 1 (headC 36 39 (([1, 3] : List Nat).zip (lstore_v0 s i)) dJ0 lstore_t0) (headH (lstore_o0 s i)) (2 + (lstore_o0 s i).length)
    (lstore_q4 s i dJ0 ++ [(23, hvT)]) 0 [] []) [] = some (Value.bool true,
    [(!ltq 9 (↑(List.length (ShStore.lots s)) : Int)) = true] ++ lstore_p4 B s i dJ0) := by kernel_rfl
theorem lstore_s3 (B : Lo) (s : ShStore) (i : Int) (dJ0 : Nat → Value) : endT (srunT Tryz.prog (okFn Tryz.prog) J0 B 9 1 (headC 36 39 (([1, 3] : List Nat).zip (lstore_v0 s i)) dJ0 lstore_t0) (headH (lstore_o0 s i)) (2 + (lstore_o0 s i).length)
    (lstore_q4 s i dJ0 ++ [(23, hvF)]) 0 [] []) [] = some (Value.bool false,
    [(!ltq 9 (↑(List.length (ShStore.lots s)) : Int)) = false] ++ lstore_p4 B s i dJ0) := by kernel_rfl
theorem lstore_s4 (B : Lo) (s : ShStore) (i : Int) (dJ0 : Nat → Value) : endT (srunT Tryz.prog (okFn Tryz.prog) J0 B 9 1 (headC 36 39 (([1, 3] : List Nat).zip (lstore_v0 s i)) dJ0 lstore_t0) (headH (lstore_o0 s i)) (2 + (lstore_o0 s i).length)
    (lstore_q3 s i dJ0 ++ [(17, hvF)]) 0 [] []) [] = some (Value.bool false,
    [(!ltq 8 (↑(List.length (ShStore.use s)) : Int)) = false] ++ lstore_p3 B s i dJ0) := by kernel_rfl
theorem lstore_s5 (B : Lo) (s : ShStore) (i : Int) (dJ0 : Nat → Value) : endT (srunT Tryz.prog (okFn Tryz.prog) J0 B 9 1 (headC 36 39 (([1, 3] : List Nat).zip (lstore_v0 s i)) dJ0 lstore_t0) (headH (lstore_o0 s i)) (2 + (lstore_o0 s i).length)
    (lstore_q2 s i dJ0 ++ [(12, hvF)]) 0 [] []) [] = some (Value.bool false,
    [(!ltq 8 (↑(List.length (ShStore.stock s)) : Int)) = false] ++ lstore_p2 B s i dJ0) := by kernel_rfl
noncomputable def lstore_p5 (B : Lo) (s : ShStore) (i : Int) (dJ0 : Nat → Value) : List Prop := [ltq i (↑(List.length (ShStore.lots s)) : Int) = false] ++ ([] : List Prop)
noncomputable def lstore_q5 (s : ShStore) (i : Int) (dJ0 : Nat → Value) : ScriptT := [(4, hvF)]
noncomputable def lstore_p6 (B : Lo) (s : ShStore) (i : Int) (dJ0 : Nat → Value) : List Prop := [(!ltq 8 (↑(List.length (ShStore.stock s)) : Int)) = true] ++ lstore_p5 B s i dJ0
noncomputable def lstore_q6 (s : ShStore) (i : Int) (dJ0 : Nat → Value) : ScriptT := lstore_q5 s i dJ0 ++ [(12, hvT)]
noncomputable def lstore_p7 (B : Lo) (s : ShStore) (i : Int) (dJ0 : Nat → Value) : List Prop := [(!ltq 8 (↑(List.length (ShStore.use s)) : Int)) = true] ++ lstore_p6 B s i dJ0
noncomputable def lstore_q7 (s : ShStore) (i : Int) (dJ0 : Nat → Value) : ScriptT := lstore_q6 s i dJ0 ++ [(17, hvT)]
theorem lstore_s6 (B : Lo) (s : ShStore) (i : Int) (dJ0 : Nat → Value) : endT (srunT Tryz.prog (okFn Tryz.prog) J0 B 9 1 (headC 36 39 (([1, 3] : List Nat).zip (lstore_v0 s i)) dJ0 lstore_t0) (headH (lstore_o0 s i)) (2 + (lstore_o0 s i).length)
    (lstore_q7 s i dJ0 ++ [(23, hvT)]) 0 [] []) [] = some (Value.bool true,
    [(!ltq 9 (↑(List.length (ShStore.lots s)) : Int)) = true] ++ lstore_p7 B s i dJ0) := by kernel_rfl
theorem lstore_s7 (B : Lo) (s : ShStore) (i : Int) (dJ0 : Nat → Value) : endT (srunT Tryz.prog (okFn Tryz.prog) J0 B 9 1 (headC 36 39 (([1, 3] : List Nat).zip (lstore_v0 s i)) dJ0 lstore_t0) (headH (lstore_o0 s i)) (2 + (lstore_o0 s i).length)
    (lstore_q7 s i dJ0 ++ [(23, hvF)]) 0 [] []) [] = some (Value.bool false,
    [(!ltq 9 (↑(List.length (ShStore.lots s)) : Int)) = false] ++ lstore_p7 B s i dJ0) := by kernel_rfl
theorem lstore_s8 (B : Lo) (s : ShStore) (i : Int) (dJ0 : Nat → Value) : endT (srunT Tryz.prog (okFn Tryz.prog) J0 B 9 1 (headC 36 39 (([1, 3] : List Nat).zip (lstore_v0 s i)) dJ0 lstore_t0) (headH (lstore_o0 s i)) (2 + (lstore_o0 s i).length)
    (lstore_q6 s i dJ0 ++ [(17, hvF)]) 0 [] []) [] = some (Value.bool false,
    [(!ltq 8 (↑(List.length (ShStore.use s)) : Int)) = false] ++ lstore_p6 B s i dJ0) := by kernel_rfl
theorem lstore_s9 (B : Lo) (s : ShStore) (i : Int) (dJ0 : Nat → Value) : endT (srunT Tryz.prog (okFn Tryz.prog) J0 B 9 1 (headC 36 39 (([1, 3] : List Nat).zip (lstore_v0 s i)) dJ0 lstore_t0) (headH (lstore_o0 s i)) (2 + (lstore_o0 s i).length)
    (lstore_q5 s i dJ0 ++ [(12, hvF)]) 0 [] []) [] = some (Value.bool false,
    [(!ltq 8 (↑(List.length (ShStore.stock s)) : Int)) = false] ++ lstore_p5 B s i dJ0) := by kernel_rfl
theorem lstore_s10 (B : Lo) (s : ShStore) : landM (srunT Tryz.prog (okFn Tryz.prog) J0 B 7 1 (entryC Tryz.prog 36 39 (([.agg (encStore s).toArray]).map (pushT 0 4))) H00 1
    [] 0 [] []) [1, 3] [(1, KS.auto)] [] = some ⟨36, 39, lstore_t0, [], .run, none, lstore_v0 s (0), lstore_o0 s (0),
    []⟩ := by kernel_rfl
set_option maxHeartbeats 4000000 in
theorem lstore_ls (s : ShStore)  (hfacts : s.stock.length ≤ 9223372036854775807 ∧ s.use.length ≤ 9223372036854775807 ∧ s.lots.length ≤ 9223372036854775807) {B : Lo} (hJ : ∀ w, B.has w → J0 w) {c0 : CF} : ∀ m : Nat, (∀ (i : Int), s.lots.length - i.toNat = m → ∀ (h0 : 0 ≤ i), lstore_h0 B c0 s i → EndsT Tryz.prog B c0 (.bool (((s.lots.take 12).drop i.toNat).all (fun l => decide (l.goods.length ≤ 8)) && (decide (s.stock.length ≤ 8) && (decide (s.use.length ≤ 8) && decide (s.lots.length ≤ 9)))))) := by
  intro m0
  induction m0 using Nat.strongRecOn with
  | _ m0 ih0 =>
    intro i hm0 h0 ⟨dJ0, hdJ0, hg0⟩
    by_cases q0 : (i : Int) < ((↑(List.length (ShStore.lots s)) : Int))
    ·
      have hp0 : AllP (lstore_p0 B s i dJ0) := by
        exact ⟨(ltq_t q0), trivial⟩
      by_cases q1 : (i : Int) < (12)
      ·
        have hp1 : AllP (lstore_p1 B s i dJ0) := by
          have s2 := drop_all2 (l := s.lots.take 12) (p := fun l => decide (l.goods.length ≤ 8)) h0 (by rw [List.length_take]; omega)
          have e3 : (s.lots.take 12).getD i.toNat default = s.lots.getD i.toNat default := by simp only [List.getD_eq_getElem?_getD]; rw [List.getElem?_take_of_lt (by omega)]
          rw [e3] at s2
          exact ⟨⟨by omega, by omega, (rowL_extract (z := 3) (fun _ => rfl) (by omega))⟩, ⟨(ltq_t q1), hp0⟩⟩
        by_cases q2 : (8 : Int) < ((↑(List.length (ShLot.goods (List.getD (ShStore.lots s) (Int.toNat i) default))) : Int))
        ·
          have s2 := drop_all2 (l := s.lots.take 12) (p := fun l => decide (l.goods.length ≤ 8)) h0 (by rw [List.length_take]; omega)
          have e3 : (s.lots.take 12).getD i.toNat default = s.lots.getD i.toNat default := by simp only [List.getD_eq_getElem?_getD]; rw [List.getElem?_take_of_lt (by omega)]
          rw [e3] at s2
          rw [decide_eq_false (by omega)] at s2
          exact (GoE.endsT okF hJ mixed_ok hg0 (lstore_s0 B s i dJ0)
            ⟨(ltq_t q2), hp1⟩).cast (by (simp only [s2, Bool.true_and, Bool.false_and]; done))
        ·
          have s2 := drop_all2 (l := s.lots.take 12) (p := fun l => decide (l.goods.length ≤ 8)) h0 (by rw [List.length_take]; omega)
          have e3 : (s.lots.take 12).getD i.toNat default = s.lots.getD i.toNat default := by simp only [List.getD_eq_getElem?_getD]; rw [List.getElem?_take_of_lt (by omega)]
          rw [e3] at s2
          rw [decide_eq_true (by omega)] at s2
          exact ((ih0 _ (by omega)) (i + 1) rfl (by omega)
            (hg0.landM okF hJ mixed_ok (lstore_s1 B s i dJ0)
            ⟨(wq_in (by omega) (by omega)), ⟨(ltq_f (Int.not_lt.1 q2)), hp1⟩⟩ (by kernel_rfl) (by kernel_rfl))).cast (by (simp only [s2, Bool.true_and, Bool.false_and]; done))
      ·
        have hp2 : AllP (lstore_p2 B s i dJ0) := by
          exact ⟨(ltq_f (Int.not_lt.1 q1)), hp0⟩
        by_cases q2 : ((↑(List.length (ShStore.stock s)) : Int) : Int) ≤ (8)
        ·
          have hp3 : AllP (lstore_p3 B s i dJ0) := by
            exact ⟨(nltq_t q2), hp2⟩
          by_cases q3 : ((↑(List.length (ShStore.use s)) : Int) : Int) ≤ (8)
          ·
            have hp4 : AllP (lstore_p4 B s i dJ0) := by
              exact ⟨(nltq_t q3), hp3⟩
            by_cases q4 : ((↑(List.length (ShStore.lots s)) : Int) : Int) ≤ (9)
            ·
              have s2 := drop_all2 (l := s.lots.take 12) (p := fun l => decide (l.goods.length ≤ 8)) h0 (by rw [List.length_take]; omega)
              have e3 : (s.lots.take 12).getD i.toNat default = s.lots.getD i.toNat default := by simp only [List.getD_eq_getElem?_getD]; rw [List.getElem?_take_of_lt (by omega)]
              rw [e3] at s2
              rw [decide_eq_true (by omega)] at s2
              have s2 := drop_nil2 (l := s.lots.take 12) (p := fun l => decide (l.goods.length ≤ 8)) (i := i) (by rw [List.length_take]; omega)
              exact (GoE.endsT okF hJ mixed_ok hg0 (lstore_s2 B s i dJ0)
                ⟨(nltq_t q4), hp4⟩).cast (by (simp only [s2, Bool.true_and]; simp_all; omega))
            ·
              have s2 := drop_nil2 (l := s.lots.take 12) (p := fun l => decide (l.goods.length ≤ 8)) (i := i) (by rw [List.length_take]; omega)
              exact (GoE.endsT okF hJ mixed_ok hg0 (lstore_s3 B s i dJ0)
                ⟨(nltq_f (Int.not_le.1 q4)), hp4⟩).cast (by (simp only [s2, Bool.true_and]; simp_all; omega))
          ·
            have s2 := drop_nil2 (l := s.lots.take 12) (p := fun l => decide (l.goods.length ≤ 8)) (i := i) (by rw [List.length_take]; omega)
            exact (GoE.endsT okF hJ mixed_ok hg0 (lstore_s4 B s i dJ0)
              ⟨(nltq_f (Int.not_le.1 q3)), hp3⟩).cast (by (simp only [s2, Bool.true_and]; simp_all; omega))
        ·
          have s2 := drop_nil2 (l := s.lots.take 12) (p := fun l => decide (l.goods.length ≤ 8)) (i := i) (by rw [List.length_take]; omega)
          exact (GoE.endsT okF hJ mixed_ok hg0 (lstore_s5 B s i dJ0)
            ⟨(nltq_f (Int.not_le.1 q2)), hp2⟩).cast (by (simp only [s2, Bool.true_and]; simp_all; omega))
    ·
      have hp5 : AllP (lstore_p5 B s i dJ0) := by
        exact ⟨(ltq_f (Int.not_lt.1 q0)), trivial⟩
      by_cases q1 : ((↑(List.length (ShStore.stock s)) : Int) : Int) ≤ (8)
      ·
        have hp6 : AllP (lstore_p6 B s i dJ0) := by
          exact ⟨(nltq_t q1), hp5⟩
        by_cases q2 : ((↑(List.length (ShStore.use s)) : Int) : Int) ≤ (8)
        ·
          have hp7 : AllP (lstore_p7 B s i dJ0) := by
            exact ⟨(nltq_t q2), hp6⟩
          by_cases q3 : ((↑(List.length (ShStore.lots s)) : Int) : Int) ≤ (9)
          ·
            have s2 := drop_nil2 (l := s.lots.take 12) (p := fun l => decide (l.goods.length ≤ 8)) (i := i) (by rw [List.length_take]; omega)
            exact (GoE.endsT okF hJ mixed_ok hg0 (lstore_s6 B s i dJ0)
              ⟨(nltq_t q3), hp7⟩).cast (by (simp only [s2, Bool.true_and]; simp_all; omega))
          ·
            have s2 := drop_nil2 (l := s.lots.take 12) (p := fun l => decide (l.goods.length ≤ 8)) (i := i) (by rw [List.length_take]; omega)
            exact (GoE.endsT okF hJ mixed_ok hg0 (lstore_s7 B s i dJ0)
              ⟨(nltq_f (Int.not_le.1 q3)), hp7⟩).cast (by (simp only [s2, Bool.true_and]; simp_all; omega))
        ·
          have s2 := drop_nil2 (l := s.lots.take 12) (p := fun l => decide (l.goods.length ≤ 8)) (i := i) (by rw [List.length_take]; omega)
          exact (GoE.endsT okF hJ mixed_ok hg0 (lstore_s8 B s i dJ0)
            ⟨(nltq_f (Int.not_le.1 q2)), hp6⟩).cast (by (simp only [s2, Bool.true_and]; simp_all; omega))
      ·
        have s2 := drop_nil2 (l := s.lots.take 12) (p := fun l => decide (l.goods.length ≤ 8)) (i := i) (by rw [List.length_take]; omega)
        exact (GoE.endsT okF hJ mixed_ok hg0 (lstore_s9 B s i dJ0)
          ⟨(nltq_f (Int.not_le.1 q1)), hp5⟩).cast (by (simp only [s2, Bool.true_and]; simp_all; omega))
set_option maxHeartbeats 4000000 in
theorem lstore_e (s : ShStore)  (hfacts : s.stock.length ≤ 9223372036854775807 ∧ s.use.length ≤ 9223372036854775807 ∧ s.lots.length ≤ 9223372036854775807) {B : Lo} (hJ : ∀ w, B.has w → J0 w) : EndsT Tryz.prog B (entryC Tryz.prog 36 39 (([.agg (encStore s).toArray]).map (pushT 0 4))) (.bool (((s.lots.take 12).all fun l => decide (l.goods.length ≤ 8)) && (decide (s.stock.length ≤ 8) && (decide (s.use.length ≤ 8) && decide (s.lots.length ≤ 9))))) := by
  exact ((lstore_ls s hfacts hJ _) (0) rfl (by omega)
    (GoE.start.landM okF hJ mixed_ok (lstore_s10 B s)
    trivial (by kernel_rfl) (by kernel_rfl))).cast (by rfl)
theorem lstore (s : ShStore)  : PureC Tryz.prog J0 36 #[.agg (encStore s).toArray] (.bool (((s.lots.take 12).all fun l => decide (l.goods.length ≤ 8)) && (decide (s.stock.length ≤ 8) && (decide (s.use.length ≤ 8) && decide (s.lots.length ≤ 9))))) :=
  pureC_ofF (ts := [.agg (encStore s).toArray]) (s.stock.length ≤ 9223372036854775807 ∧ s.use.length ≤ 9223372036854775807 ∧ s.lots.length ≤ 9223372036854775807) (fun _ _ ht => ⟨ht.ln2 (i := 0) (j := 0) rfl rfl, ht.ln2 (i := 0) (j := 1) rfl rfl, ht.ln2 (i := 0) (j := 4) rfl rfl⟩) J0_st (c0 := entryC Tryz.prog 36 39 (([.agg (encStore s).toArray]).map (pushT 0 4))) (by kernel_rfl) (by kernel_rfl) fun hfacts B hJ => lstore_e s  hfacts hJ
end Go.Proofs.YtoihlobogbeigaaGreat

