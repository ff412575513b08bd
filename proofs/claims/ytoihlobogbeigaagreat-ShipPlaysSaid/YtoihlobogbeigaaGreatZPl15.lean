/- The reference's loads, truths, and goods that are kept. -/
import Derived.Test.YtoihlobogbeigaaGreatZPl14
set_option linter.all false
namespace Go.Proofs.YtoihlobogbeigaaGreat
open Go Go.CE Go.RowKit
set_option maxRecDepth 100000
def prevOf (l : List Int) (i : Int) : Int := if 0 < i then l.getD (i - 1).toNat default else -1
def wsum (s : ShStore) (l : List Int) : Int := sumL (l.map fun x => (s.lots.getD x.toNat default).weight)
theorem wsum_cons {s : ShStore} {i : Int} {l : List Int} (h0 : 0 ≤ i) (h : i < l.length) : wsum s (l.drop i.toNat) = (s.lots.getD (l.getD i.toNat default).toNat default).weight + wsum s (l.drop (i + 1).toNat) := by
  obtain ⟨k, rfl⟩ : ∃ k : Nat, i = k := ⟨i.toNat, by omega⟩
  have hk : k < l.length := by omega
  have e1 : ((k : Int)).toNat = k := by omega
  have e2 : ((k : Int) + 1).toNat = k + 1 := by omega
  unfold wsum
  rw [e1, e2, List.drop_eq_getElem_cons hk, List.map_cons]
  simp [sumL, List.getD_eq_getElem?_getD, hk]
theorem wsum_nil {s : ShStore} {i : Int} {l : List Int} (h : l.length ≤ i) : wsum s (l.drop i.toNat) = 0 := by
  rw [List.drop_eq_nil_of_le (by omega)]; rfl
theorem prevOf_next {l : List Int} {i : Int} (h0 : 0 ≤ i) : prevOf l (i + 1) = l.getD i.toNat default := by
  unfold prevOf; rw [if_pos (by omega), show i + 1 - 1 = i by omega]
theorem notIn5 {x lo hi : Int} (q : inB x lo hi = false) : ¬ (lo ≤ x ∧ x ≤ hi) := fun h => by rw [inB_iff.2 h] at q; cases q
theorem notB {x lo hi : Int} (h : ¬ (lo ≤ x ∧ x ≤ hi)) : inB x lo hi = false := by
  cases hc : inB x lo hi with
  | false => rfl
  | true => exact absurd (inB_iff.1 hc) h
def rLoad_v0 (s : ShStore) (load : List Int) (w i : Int) : List Value := [topV 1 (slT (List.length load) (rowL encI load)), pA 2 0, .int .i64 w, .int .i64 i]
def rLoad_o0 (s : ShStore) (load : List Int) (w i : Int) : List Obj := [Obj.cells #[topV 1 (slT (List.length (ShStore.stock s)) (rowL encI (ShStore.stock s))), topV 1 (slT (List.length (ShStore.use s)) (rowL encSp (ShStore.use s))), Value.int IntKind.i64 (ShStore.glo s), Value.int IntKind.i64 (ShStore.ghi s), topV 1 (slT (List.length (ShStore.lots s)) (rowL encLot (ShStore.lots s))), Value.int IntKind.i64 (ShStore.hold s)] 62]
noncomputable def rLoad_t0 : List Item := ([.code [1, 1, 0, 1, 0, 0], .inLoop [1, 1, 0, 1, 0, 0], .inBlock 0, .code [1, 1, 1]]).map (it (bodyOf Tryz.prog 56))
def rLoad_h0 (B : Lo) (c0 : CF) (s : ShStore) (load : List Int) (w i : Int) : Prop := ∃ dJ : Nat → Value, (∀ t, Loose (dJ t)) ∧ GoE Tryz.prog B c0 H00 1 (headC 56 54 (([1, 2, 5, 6] : List Nat).zip (rLoad_v0 s load w i)) dJ rLoad_t0) (headH (rLoad_o0 s load w i)) (2 + (rLoad_o0 s load w i).length) []
noncomputable def rLoad_z0 (s : ShStore) (load : List Int) (i : Int) : Array Value := #[slT (List.length (ShLot.goods (List.getD (ShStore.lots s) (Int.toNat (List.getD load (Int.toNat i) default)) default))) (rowL encSp (ShLot.goods (List.getD (ShStore.lots s) (Int.toNat (List.getD load (Int.toNat i) default)) default))), Value.int IntKind.i64 (ShLot.weight (List.getD (ShStore.lots s) (Int.toNat (List.getD load (Int.toNat i) default)) default)), Value.int IntKind.i64 (ShLot.cost (List.getD (ShStore.lots s) (Int.toNat (List.getD load (Int.toNat i) default)) default))]
noncomputable def rLoad_p0 (B : Lo) (s : ShStore) (load : List Int) (w i : Int) (dJ0 : Nat → Value) : List Prop := [wq ((↑(List.length (ShStore.lots s)) : Int) - 1) = (↑(List.length (ShStore.lots s)) : Int) - 1, i = (↑(Int.toNat i) : Int) ∧ Int.toNat i < List.length load ∧ Array.extract (rowL encI load) (Int.toNat i * TypeInfo.size Tryz.t3) (Int.toNat i * TypeInfo.size Tryz.t3 + TypeInfo.size Tryz.t3) = #[Value.int IntKind.i64 (List.getD load (Int.toNat i) default)], ltq i (↑(List.length load) : Int) = true] ++ ([] : List Prop)
noncomputable def rLoad_q0 (s : ShStore) (load : List Int) (w i : Int) (dJ0 : Nat → Value) : ScriptT := [(3, hvT), (6, HintT.tidx (Int.toNat i) #[Value.int IntKind.i64 (List.getD load (Int.toNat i) default)]), (11, hvI ((↑(List.length (ShStore.lots s)) : Int) - 1))]
noncomputable def rLoad_p1 (B : Lo) (s : ShStore) (load : List Int) (w i : Int) (dJ0 : Nat → Value) : List Prop := [AllP [] ∧ PureC Tryz.prog J0 69 #[Value.int IntKind.i64 (List.getD load (Int.toNat i) default), Value.int IntKind.i64 0, Value.int IntKind.i64 ((↑(List.length (ShStore.lots s)) : Int) - 1)] (Value.bool true)] ++ rLoad_p0 B s load w i dJ0
noncomputable def rLoad_q1 (s : ShStore) (load : List Int) (w i : Int) (dJ0 : Nat → Value) : ScriptT := rLoad_q0 s load w i dJ0 ++ [(12, HintT.pure (Value.bool true) [])]
noncomputable def rLoad_p2 (B : Lo) (s : ShStore) (load : List Int) (w i : Int) (dJ0 : Nat → Value) : List Prop := [i - 1 = (↑(Int.toNat (i - 1)) : Int) ∧ Int.toNat (i - 1) < List.length load ∧ Array.extract (rowL encI load) (Int.toNat (i - 1) * TypeInfo.size Tryz.t3) (Int.toNat (i - 1) * TypeInfo.size Tryz.t3 + TypeInfo.size Tryz.t3) = #[Value.int IntKind.i64 (List.getD load (Int.toNat (i - 1)) default)], wq (i - 1) = i - 1, i = (↑(Int.toNat i) : Int) ∧ Int.toNat i < List.length load ∧ Array.extract (rowL encI load) (Int.toNat i * TypeInfo.size Tryz.t3) (Int.toNat i * TypeInfo.size Tryz.t3 + TypeInfo.size Tryz.t3) = #[Value.int IntKind.i64 (List.getD load (Int.toNat i) default)], ltq 0 i = true] ++ rLoad_p1 B s load w i dJ0
noncomputable def rLoad_q2 (s : ShStore) (load : List Int) (w i : Int) (dJ0 : Nat → Value) : ScriptT := rLoad_q1 s load w i dJ0 ++ [(16, hvT), (20, HintT.tidx (Int.toNat i) #[Value.int IntKind.i64 (List.getD load (Int.toNat i) default)]), (24, hvI (i - 1)), (25, HintT.tidx (Int.toNat (i - 1)) #[Value.int IntKind.i64 (List.getD load (Int.toNat (i - 1)) default)])]
theorem rLoad_s0 (B : Lo) (s : ShStore) (load : List Int) (w i : Int) (dJ0 : Nat → Value) : endT (srunT Tryz.prog (okFn Tryz.prog) J0 B 15 1 (headC 56 54 (([1, 2, 5, 6] : List Nat).zip (rLoad_v0 s load w i)) dJ0 rLoad_t0) (headH (rLoad_o0 s load w i)) (2 + (rLoad_o0 s load w i).length)
    (rLoad_q2 s load w i dJ0 ++ [(27, hvT)]) 0 [] []) [] = some (Value.bool false,
    [(!ltq (List.getD load (Int.toNat (i - 1)) default) (List.getD load (Int.toNat i) default)) = true] ++ rLoad_p2 B s load w i dJ0) := by kernel_rfl
theorem rLoad_s1 (B : Lo) (s : ShStore) (load : List Int) (w i : Int) (dJ0 : Nat → Value) : landM (srunT Tryz.prog (okFn Tryz.prog) J0 B 16 1 (headC 56 54 (([1, 2, 5, 6] : List Nat).zip (rLoad_v0 s load w i)) dJ0 rLoad_t0) (headH (rLoad_o0 s load w i)) (2 + (rLoad_o0 s load w i).length)
    (rLoad_q2 s load w i dJ0 ++ [(27, hvF), (35, HintT.tidx (Int.toNat i) #[Value.int IntKind.i64 (List.getD load (Int.toNat i) default)]), (37, HintT.tidx (Int.toNat (List.getD load (Int.toNat i) default)) (rLoad_z0 s load i)), (40, hvI (w + ShLot.weight (List.getD (ShStore.lots s) (Int.toNat (List.getD load (Int.toNat i) default)) default))), (43, hvI (i + 1))]) 0 [] []) [1, 2, 5, 6] [(2, KS.auto)] [] = some ⟨56, 54, rLoad_t0, [], .run, none, rLoad_v0 s load (w + ShLot.weight (List.getD (ShStore.lots s) (Int.toNat (List.getD load (Int.toNat i) default)) default)) (i + 1), rLoad_o0 s load (w + ShLot.weight (List.getD (ShStore.lots s) (Int.toNat (List.getD load (Int.toNat i) default)) default)) (i + 1),
    [wq (i + 1) = i + 1, wq (w + ShLot.weight (List.getD (ShStore.lots s) (Int.toNat (List.getD load (Int.toNat i) default)) default)) = w + ShLot.weight (List.getD (ShStore.lots s) (Int.toNat (List.getD load (Int.toNat i) default)) default), List.getD load (Int.toNat i) default = (↑(Int.toNat (List.getD load (Int.toNat i) default)) : Int) ∧ Int.toNat (List.getD load (Int.toNat i) default) < List.length (ShStore.lots s) ∧ Array.extract (rowL encLot (ShStore.lots s)) (Int.toNat (List.getD load (Int.toNat i) default) * TypeInfo.size Tryz.t118) (Int.toNat (List.getD load (Int.toNat i) default) * TypeInfo.size Tryz.t118 + TypeInfo.size Tryz.t118) = (rLoad_z0 s load i), i = (↑(Int.toNat i) : Int) ∧ Int.toNat i < List.length load ∧ Array.extract (rowL encI load) (Int.toNat i * TypeInfo.size Tryz.t3) (Int.toNat i * TypeInfo.size Tryz.t3 + TypeInfo.size Tryz.t3) = #[Value.int IntKind.i64 (List.getD load (Int.toNat i) default)], (!ltq (List.getD load (Int.toNat (i - 1)) default) (List.getD load (Int.toNat i) default)) = false] ++ rLoad_p2 B s load w i dJ0⟩ := by kernel_rfl
theorem rLoad_s2 (B : Lo) (s : ShStore) (load : List Int) (w i : Int) (dJ0 : Nat → Value) : landM (srunT Tryz.prog (okFn Tryz.prog) J0 B 16 1 (headC 56 54 (([1, 2, 5, 6] : List Nat).zip (rLoad_v0 s load w i)) dJ0 rLoad_t0) (headH (rLoad_o0 s load w i)) (2 + (rLoad_o0 s load w i).length)
    (rLoad_q1 s load w i dJ0 ++ [(16, hvF), (35, HintT.tidx (Int.toNat i) #[Value.int IntKind.i64 (List.getD load (Int.toNat i) default)]), (37, HintT.tidx (Int.toNat (List.getD load (Int.toNat i) default)) (rLoad_z0 s load i)), (40, hvI (w + ShLot.weight (List.getD (ShStore.lots s) (Int.toNat (List.getD load (Int.toNat i) default)) default))), (43, hvI (i + 1))]) 0 [] []) [1, 2, 5, 6] [(2, KS.auto)] [] = some ⟨56, 54, rLoad_t0, [], .run, none, rLoad_v0 s load (w + ShLot.weight (List.getD (ShStore.lots s) (Int.toNat (List.getD load (Int.toNat i) default)) default)) (i + 1), rLoad_o0 s load (w + ShLot.weight (List.getD (ShStore.lots s) (Int.toNat (List.getD load (Int.toNat i) default)) default)) (i + 1),
    [wq (i + 1) = i + 1, wq (w + ShLot.weight (List.getD (ShStore.lots s) (Int.toNat (List.getD load (Int.toNat i) default)) default)) = w + ShLot.weight (List.getD (ShStore.lots s) (Int.toNat (List.getD load (Int.toNat i) default)) default), List.getD load (Int.toNat i) default = (↑(Int.toNat (List.getD load (Int.toNat i) default)) : Int) ∧ Int.toNat (List.getD load (Int.toNat i) default) < List.length (ShStore.lots s) ∧ Array.extract (rowL encLot (ShStore.lots s)) (Int.toNat (List.getD load (Int.toNat i) default) * TypeInfo.size Tryz.t118) (Int.toNat (List.getD load (Int.toNat i) default) * TypeInfo.size Tryz.t118 + TypeInfo.size Tryz.t118) = (rLoad_z0 s load i), i = (↑(Int.toNat i) : Int) ∧ Int.toNat i < List.length load ∧ Array.extract (rowL encI load) (Int.toNat i * TypeInfo.size Tryz.t3) (Int.toNat i * TypeInfo.size Tryz.t3 + TypeInfo.size Tryz.t3) = #[Value.int IntKind.i64 (List.getD load (Int.toNat i) default)], ltq 0 i = false] ++ rLoad_p1 B s load w i dJ0⟩ := by kernel_rfl
theorem rLoad_s3 (B : Lo) (s : ShStore) (load : List Int) (w i : Int) (dJ0 : Nat → Value) : endT (srunT Tryz.prog (okFn Tryz.prog) J0 B 15 1 (headC 56 54 (([1, 2, 5, 6] : List Nat).zip (rLoad_v0 s load w i)) dJ0 rLoad_t0) (headH (rLoad_o0 s load w i)) (2 + (rLoad_o0 s load w i).length)
    (rLoad_q0 s load w i dJ0 ++ [(12, HintT.pure (Value.bool false) [])]) 0 [] []) [] = some (Value.bool false,
    [AllP [] ∧ PureC Tryz.prog J0 69 #[Value.int IntKind.i64 (List.getD load (Int.toNat i) default), Value.int IntKind.i64 0, Value.int IntKind.i64 ((↑(List.length (ShStore.lots s)) : Int) - 1)] (Value.bool false)] ++ rLoad_p0 B s load w i dJ0) := by kernel_rfl
noncomputable def rLoad_p3 (B : Lo) (s : ShStore) (load : List Int) (w i : Int) (dJ0 : Nat → Value) : List Prop := [ltq i (↑(List.length load) : Int) = false] ++ ([] : List Prop)
noncomputable def rLoad_q3 (s : ShStore) (load : List Int) (w i : Int) (dJ0 : Nat → Value) : ScriptT := [(3, hvF)]
theorem rLoad_s4 (B : Lo) (s : ShStore) (load : List Int) (w i : Int) (dJ0 : Nat → Value) : endT (srunT Tryz.prog (okFn Tryz.prog) J0 B 9 1 (headC 56 54 (([1, 2, 5, 6] : List Nat).zip (rLoad_v0 s load w i)) dJ0 rLoad_t0) (headH (rLoad_o0 s load w i)) (2 + (rLoad_o0 s load w i).length)
    (rLoad_q3 s load w i dJ0 ++ [(7, hvT)]) 0 [] []) [] = some (Value.bool true,
    [(!ltq (ShStore.hold s) w) = true] ++ rLoad_p3 B s load w i dJ0) := by kernel_rfl
theorem rLoad_s5 (B : Lo) (s : ShStore) (load : List Int) (w i : Int) (dJ0 : Nat → Value) : endT (srunT Tryz.prog (okFn Tryz.prog) J0 B 9 1 (headC 56 54 (([1, 2, 5, 6] : List Nat).zip (rLoad_v0 s load w i)) dJ0 rLoad_t0) (headH (rLoad_o0 s load w i)) (2 + (rLoad_o0 s load w i).length)
    (rLoad_q3 s load w i dJ0 ++ [(7, hvF)]) 0 [] []) [] = some (Value.bool false,
    [(!ltq (ShStore.hold s) w) = false] ++ rLoad_p3 B s load w i dJ0) := by kernel_rfl
theorem rLoad_s6 (B : Lo) (s : ShStore) (load : List Int) : landM (srunT Tryz.prog (okFn Tryz.prog) J0 B 9 1 (entryC Tryz.prog 56 54 (([.agg (encStore s).toArray, slI load]).map (pushT 0 4))) H00 1
    [] 0 [] []) [1, 2, 5, 6] [(1, KS.auto)] [] = some ⟨56, 54, rLoad_t0, [], .run, none, rLoad_v0 s load (0) (0), rLoad_o0 s load (0) (0),
    []⟩ := by kernel_rfl
set_option maxHeartbeats 4000000 in
theorem rLoad_ls (s : ShStore) (load : List Int) (hs : storeB s = true) (hl : load.length ≤ 10) {B : Lo} (hJ : ∀ w, B.has w → J0 w) {c0 : CF} : ∀ m : Nat, (∀ (w i : Int), load.length - i.toNat = m → ∀ (h0 : 0 ≤ i) (h1 : 0 ≤ w ∧ w ≤ 100000 * i) (hp : -1 ≤ prevOf load i), rLoad_h0 B c0 s load w i → EndsT Tryz.prog B c0 (.bool (numsB s.lots.length (load.drop i.toNat) (prevOf load i + 1) && decide (w + wsum s (load.drop i.toNat) ≤ s.hold)))) := by
  intro m0
  induction m0 using Nat.strongRecOn with
  | _ m0 ih0 =>
    intro w i hm0 h0 h1 hp ⟨dJ0, hdJ0, hg0⟩
    have hm := store_lots hs
    have g3 := prevOf_next (l := load) h0
    by_cases q0 : (i : Int) < ((↑(List.length load) : Int))
    ·
      have hp0 : AllP (rLoad_p0 B s load w i dJ0) := by
        have s2 := numsB_cons (things := s.lots.length) (least := prevOf load i + 1) (l := load) h0 q0
        have s3 := wsum_cons (s := s) h0 q0
        exact ⟨(wq_in (by omega) (by omega)), ⟨⟨by omega, by omega, (rowL_extract (z := 1) (fun _ => rfl) (by omega))⟩, ⟨(ltq_t q0), trivial⟩⟩⟩
      cases q1 : inB (List.getD load (Int.toNat i) default) 0 ((↑(List.length (ShStore.lots s)) : Int) - 1) with
      | true =>
        have hp1 : AllP (rLoad_p1 B s load w i dJ0) := by
          have s2 := numsB_cons (things := s.lots.length) (least := prevOf load i + 1) (l := load) h0 q0
          have s3 := wsum_cons (s := s) h0 q0
          have g1 := inB_iff.1 ‹inB (load.getD i.toNat default) 0 _ = true›
          have g2 := lot_facts (hm.2 _ (getD_mem (l := s.lots) (i := load.getD i.toNat default) (by omega) (by omega)))
          exact ⟨⟨trivial, (by have t_ := rin (List.getD load (Int.toNat i) default) (0) ((↑(List.length (ShStore.lots s)) : Int) - 1); rw [q1] at t_; exact t_)⟩, hp0⟩
        by_cases q2 : (0 : Int) < (i)
        ·
          have hp2 : AllP (rLoad_p2 B s load w i dJ0) := by
            have s2 := numsB_cons (things := s.lots.length) (least := prevOf load i + 1) (l := load) h0 q0
            have s3 := wsum_cons (s := s) h0 q0
            have g1 := inB_iff.1 ‹inB (load.getD i.toNat default) 0 _ = true›
            have g2 := lot_facts (hm.2 _ (getD_mem (l := s.lots) (i := load.getD i.toNat default) (by omega) (by omega)))
            have pv : prevOf load i = load.getD (i - 1).toNat default := if_pos ‹0 < i›
            exact ⟨⟨by omega, by omega, (rowL_extract (z := 1) (fun _ => rfl) (by omega))⟩, ⟨(wq_in (by omega) (by omega)), ⟨⟨by omega, by omega, (rowL_extract (z := 1) (fun _ => rfl) (by omega))⟩, ⟨(ltq_t q2), hp1⟩⟩⟩⟩
          by_cases q3 : (List.getD load (Int.toNat i) default : Int) ≤ (List.getD load (Int.toNat (i - 1)) default)
          ·
            have s2 := numsB_cons (things := s.lots.length) (least := prevOf load i + 1) (l := load) h0 q0
            have s3 := wsum_cons (s := s) h0 q0
            have g1 := inB_iff.1 ‹inB (load.getD i.toNat default) 0 _ = true›
            have g2 := lot_facts (hm.2 _ (getD_mem (l := s.lots) (i := load.getD i.toNat default) (by omega) (by omega)))
            have pv : prevOf load i = load.getD (i - 1).toNat default := if_pos ‹0 < i›
            have et : inB (load.getD i.toNat default) (prevOf load i + 1) ((s.lots.length : Int) - 1) = false := notB (by omega)
            exact (GoE.endsT okF hJ mixed_ok hg0 (rLoad_s0 B s load w i dJ0)
              ⟨(nltq_t q3), hp2⟩).cast (by (rw [s2, et]; rfl))
          ·
            have s2 := numsB_cons (things := s.lots.length) (least := prevOf load i + 1) (l := load) h0 q0
            have s3 := wsum_cons (s := s) h0 q0
            have g1 := inB_iff.1 ‹inB (load.getD i.toNat default) 0 _ = true›
            have g2 := lot_facts (hm.2 _ (getD_mem (l := s.lots) (i := load.getD i.toNat default) (by omega) (by omega)))
            have pv : prevOf load i = load.getD (i - 1).toNat default := if_pos ‹0 < i›
            have et : inB (load.getD i.toNat default) (prevOf load i + 1) ((s.lots.length : Int) - 1) = true := inB_iff.2 (by omega)
            exact ((ih0 _ (by omega)) (w + ShLot.weight (List.getD (ShStore.lots s) (Int.toNat (List.getD load (Int.toNat i) default)) default)) (i + 1) rfl (by omega) (by omega) (by omega)
              (hg0.landM okF hJ mixed_ok (rLoad_s1 B s load w i dJ0)
              ⟨(wq_in (by omega) (by omega)), ⟨(wq_in (by omega) (by omega)), ⟨⟨by omega, by omega, (rowL_extract (z := 3) (fun _ => rfl) (by omega))⟩, ⟨⟨by omega, by omega, (rowL_extract (z := 1) (fun _ => rfl) (by omega))⟩, ⟨(nltq_f (Int.not_le.1 q3)), hp2⟩⟩⟩⟩⟩ (by kernel_rfl) (by kernel_rfl))).cast (by (rw [s2, s3, et, g3, Int.add_assoc]; rfl))
        ·
          have s2 := numsB_cons (things := s.lots.length) (least := prevOf load i + 1) (l := load) h0 q0
          have s3 := wsum_cons (s := s) h0 q0
          have g1 := inB_iff.1 ‹inB (load.getD i.toNat default) 0 _ = true›
          have g2 := lot_facts (hm.2 _ (getD_mem (l := s.lots) (i := load.getD i.toNat default) (by omega) (by omega)))
          have pv : prevOf load i = -1 := if_neg ‹¬ 0 < i›
          have et : inB (load.getD i.toNat default) (prevOf load i + 1) ((s.lots.length : Int) - 1) = true := inB_iff.2 (by omega)
          exact ((ih0 _ (by omega)) (w + ShLot.weight (List.getD (ShStore.lots s) (Int.toNat (List.getD load (Int.toNat i) default)) default)) (i + 1) rfl (by omega) (by omega) (by omega)
            (hg0.landM okF hJ mixed_ok (rLoad_s2 B s load w i dJ0)
            ⟨(wq_in (by omega) (by omega)), ⟨(wq_in (by omega) (by omega)), ⟨⟨by omega, by omega, (rowL_extract (z := 3) (fun _ => rfl) (by omega))⟩, ⟨⟨by omega, by omega, (rowL_extract (z := 1) (fun _ => rfl) (by omega))⟩, ⟨(ltq_f (Int.not_lt.1 q2)), hp1⟩⟩⟩⟩⟩ (by kernel_rfl) (by kernel_rfl))).cast (by (rw [s2, s3, et, g3, Int.add_assoc]; rfl))
      | false =>
        have s2 := numsB_cons (things := s.lots.length) (least := prevOf load i + 1) (l := load) h0 q0
        have s3 := wsum_cons (s := s) h0 q0
        have g1n : ¬ (0 ≤ load.getD i.toNat default ∧ load.getD i.toNat default ≤ (s.lots.length : Int) - 1) := notIn5 ‹inB (load.getD i.toNat default) 0 _ = false›
        have et : inB (load.getD i.toNat default) (prevOf load i + 1) ((s.lots.length : Int) - 1) = false := notB (by omega)
        exact (GoE.endsT okF hJ mixed_ok hg0 (rLoad_s3 B s load w i dJ0)
          ⟨⟨trivial, (by have t_ := rin (List.getD load (Int.toNat i) default) (0) ((↑(List.length (ShStore.lots s)) : Int) - 1); rw [q1] at t_; exact t_)⟩, hp0⟩).cast (by (rw [s2, et]; rfl))
    ·
      have hp3 : AllP (rLoad_p3 B s load w i dJ0) := by
        exact ⟨(ltq_f (Int.not_lt.1 q0)), trivial⟩
      by_cases q1 : (w : Int) ≤ (ShStore.hold s)
      ·
        have s2 := numsB_nil (things := s.lots.length) (least := prevOf load i + 1) (l := load) (i := i) (by omega)
        have s3 := wsum_nil (s := s) (l := load) (i := i) (by omega)
        exact (GoE.endsT okF hJ mixed_ok hg0 (rLoad_s4 B s load w i dJ0)
          ⟨(nltq_t q1), hp3⟩).cast (by (rw [s2, s3]; simp_all; done))
      ·
        have s2 := numsB_nil (things := s.lots.length) (least := prevOf load i + 1) (l := load) (i := i) (by omega)
        have s3 := wsum_nil (s := s) (l := load) (i := i) (by omega)
        exact (GoE.endsT okF hJ mixed_ok hg0 (rLoad_s5 B s load w i dJ0)
          ⟨(nltq_f (Int.not_le.1 q1)), hp3⟩).cast (by (rw [s2, s3]; simp_all; done))
set_option maxHeartbeats 4000000 in
theorem rLoad_e (s : ShStore) (load : List Int) (hs : storeB s = true) (hl : load.length ≤ 10) {B : Lo} (hJ : ∀ w, B.has w → J0 w) : EndsT Tryz.prog B (entryC Tryz.prog 56 54 (([.agg (encStore s).toArray, slI load]).map (pushT 0 4))) (.bool (numsB s.lots.length load 0 && decide (wsum s load ≤ s.hold))) := by
  have hm := store_lots hs
  exact ((rLoad_ls s load hs hl hJ _) (0) (0) rfl (by omega) (by omega) (by (simp [prevOf]; done))
    (GoE.start.landM okF hJ mixed_ok (rLoad_s6 B s load)
    trivial (by kernel_rfl) (by kernel_rfl))).cast (by simp [prevOf])
theorem rLoad (s : ShStore) (load : List Int) (hs : storeB s = true) (hl : load.length ≤ 10) : PureC Tryz.prog J0 56 #[.agg (encStore s).toArray, slI load] (.bool (numsB s.lots.length load 0 && decide (wsum s load ≤ s.hold))) :=
  pureC_of (ts := [.agg (encStore s).toArray, slI load]) J0_st (c0 := entryC Tryz.prog 56 54 (([.agg (encStore s).toArray, slI load]).map (pushT 0 4))) (by kernel_rfl) (by kernel_rfl) fun B hJ => rLoad_e s load hs hl hJ
theorem rDays_s0 (B : Lo) (n : Int) : endT (srunT Tryz.prog (okFn Tryz.prog) J0 B 6 1 (entryC Tryz.prog 52 5 (([.int .i64 n]).map (pushT 0 4))) H00 1
    [(2, HintT.pure (Value.bool true) [])] 0 [] []) [] = some (Value.bool true,
    [AllP [] ∧ PureC Tryz.prog J0 69 #[Value.int IntKind.i64 n, Value.int IntKind.i64 0, Value.int IntKind.i64 300] (Value.bool true)]) := by kernel_rfl
theorem rDays_s1 (B : Lo) (n : Int) : endT (srunT Tryz.prog (okFn Tryz.prog) J0 B 6 1 (entryC Tryz.prog 52 5 (([.int .i64 n]).map (pushT 0 4))) H00 1
    [(2, HintT.pure (Value.bool false) [])] 0 [] []) [] = some (Value.bool false,
    [AllP [] ∧ PureC Tryz.prog J0 69 #[Value.int IntKind.i64 n, Value.int IntKind.i64 0, Value.int IntKind.i64 300] (Value.bool false)]) := by kernel_rfl
set_option maxHeartbeats 4000000 in
theorem rDays_e (n : Int)  {B : Lo} (hJ : ∀ w, B.has w → J0 w) : EndsT Tryz.prog B (entryC Tryz.prog 52 5 (([.int .i64 n]).map (pushT 0 4))) (.bool (inB n 0 300)) := by
  cases q0 : inB n 0 300 with
  | true =>
    exact (GoE.endsT okF hJ mixed_ok GoE.start (rDays_s0 B n)
      ⟨⟨trivial, (by have t_ := rin (n) (0) (300); rw [q0] at t_; exact t_)⟩, trivial⟩).cast (by rfl)
  | false =>
    exact (GoE.endsT okF hJ mixed_ok GoE.start (rDays_s1 B n)
      ⟨⟨trivial, (by have t_ := rin (n) (0) (300); rw [q0] at t_; exact t_)⟩, trivial⟩).cast (by rfl)
theorem rDays (n : Int)  : PureC Tryz.prog J0 52 #[.int .i64 n] (.bool (inB n 0 300)) :=
  pureC_of (ts := [.int .i64 n]) J0_st (c0 := entryC Tryz.prog 52 5 (([.int .i64 n]).map (pushT 0 4))) (by kernel_rfl) (by kernel_rfl) fun B hJ => rDays_e n  hJ
def allGR (s : ShStore) (all : List Row) (i : Int) : Bool := (upI i all.length).all fun k => decide ((all.getD k.toNat default).length = s.stock.length) && allU (all.getD k.toNat default) (s.lots.getD k.toNat default).goods 0
theorem allGR_cons {s : ShStore} {all : List Row} {i : Int} (h : i < all.length) : allGR s all i = ((decide ((all.getD i.toNat default).length = s.stock.length) && allU (all.getD i.toNat default) (s.lots.getD i.toNat default).goods 0) && allGR s all (i + 1)) := by
  unfold allGR; rw [upI_cons h]; rfl
theorem allGR_nil {s : ShStore} {all : List Row} {i : Int} (h : all.length ≤ i) : allGR s all i = true := by unfold allGR; rw [upI_nil h]; rfl
def truthR (s : ShStore) (days : Int) (t : ShTruth) : Bool := (decide (t.uses.length = s.stock.length) && (decide (t.goods.length = s.lots.length) && decide (t.gaps.length ≤ 300))) && (allU t.uses s.use 0 && (allGR s t.goods 0 && (t.gaps.all (fun x => inB x s.glo s.ghi) && decide (days ≤ sumL t.gaps))))
theorem truthR_eq {s : ShStore} {days : Int} {t : ShTruth} (hs : storeB s = true) : truthR s days t = truthB s days t := by
  have hu : s.use.length = s.stock.length := (store_stock hs).2.2.1
  have hl := (store_lots hs).2
  by_cases hg : t.goods.length = s.lots.length
  · have e : allGR s t.goods 0 = allG s t.goods 0 := by
      unfold allGR allG
      rw [hg]
      have key : ∀ l : List Int, (∀ k ∈ l, 0 ≤ k ∧ k < s.lots.length) → l.all (fun k => decide ((t.goods.getD k.toNat default).length = s.stock.length) && allU (t.goods.getD k.toNat default) (s.lots.getD k.toNat default).goods 0) = l.all fun k => inSpansB (t.goods.getD k.toNat default) (s.lots.getD k.toNat default).goods := by
        intro l
        induction l with
        | nil => intro _; rfl
        | cons k l ih =>
          intro h
          have hk := h k (by simp)
          have h1 := (lot_facts (hl _ (getD_mem (l := s.lots) hk.1 hk.2))).1
          rw [List.all_cons, List.all_cons, ih fun q hq => h q (by simp [hq])]
          unfold inSpansB
          rw [h1]
      refine key _ fun k hk => ?_
      unfold upI at hk
      obtain ⟨q, hq, rfl⟩ := List.mem_map.1 hk
      have := List.mem_range.1 hq
      omega
    unfold truthR truthB inSpansB gapsB goodsB
    rw [e, hu, hg]
    cases decide (t.uses.length = s.stock.length) <;> cases decide (t.gaps.length ≤ 300) <;> cases allU t.uses s.use 0 <;> cases allG s t.goods 0 <;> simp
  · unfold truthR truthB goodsB
    rw [decide_eq_false hg]
    simp
def wtR (l : List Row) : Nat := (l.map fun x => x.length + 2).sum
theorem wtR_cons {l : List Row} {i : Int} (h0 : 0 ≤ i) (h : i < l.length) : wtR (l.drop i.toNat) = (l.getD i.toNat default).length + 2 + wtR (l.drop (i + 1).toNat) := by
  obtain ⟨k, rfl⟩ : ∃ k : Nat, i = k := ⟨i.toNat, by omega⟩
  have hk : k < l.length := by omega
  have e1 : ((k : Int)).toNat = k := by omega
  have e2 : ((k : Int) + 1).toNat = k + 1 := by omega
  rw [e1, e2, List.drop_eq_getElem_cons hk]
  unfold wtR
  rw [List.map_cons, List.sum_cons]
  simp [List.getD_eq_getElem?_getD, hk]
def rTruth_v0 (s : ShStore) (days : Int) (t : ShTruth) (i : Int) : List Value := [Value.int IntKind.i64 days, pA 2 0, pA 3 0, .int .i64 i]
def rTruth_o0 (s : ShStore) (days : Int) (t : ShTruth) (i : Int) : List Obj := [Obj.cells #[topV 1 (slT (List.length (ShStore.stock s)) (rowL encI (ShStore.stock s))), topV 1 (slT (List.length (ShStore.use s)) (rowL encSp (ShStore.use s))), Value.int IntKind.i64 (ShStore.glo s), Value.int IntKind.i64 (ShStore.ghi s), topV 1 (slT (List.length (ShStore.lots s)) (rowL encLot (ShStore.lots s))), Value.int IntKind.i64 (ShStore.hold s)] 62, Obj.cells #[topV 1 (slT (List.length (ShTruth.uses t)) (rowL encI (ShTruth.uses t))), topV 1 (slT (List.length (ShTruth.gaps t)) (rowL encI (ShTruth.gaps t))), topV 1 (slT (List.length (ShTruth.goods t)) (rowL encRow (ShTruth.goods t)))] 65]
noncomputable def rTruth_t0 : List Item := ([.code [1, 1, 0, 1, 0, 0], .inLoop [1, 1, 0, 1, 0, 0], .inBlock 0, .code [1, 1, 1]]).map (it (bodyOf Tryz.prog 40))
def rTruth_h0 (B : Lo) (c0 : CF) (s : ShStore) (days : Int) (t : ShTruth) (i : Int) : Prop := ∃ dJ : Nat → Value, (∀ t, Loose (dJ t)) ∧ GoE Tryz.prog B c0 H00 1 (headC 40 141 (([1, 3, 5, 7] : List Nat).zip (rTruth_v0 s days t i)) dJ rTruth_t0) (headH (rTruth_o0 s days t i)) (2 + (rTruth_o0 s days t i).length) []
def rTruth_v1 (s : ShStore) (days : Int) (t : ShTruth) (i : Int) : List Value := [Value.int IntKind.i64 days, pA 2 0, pA 3 0, .int .i64 i]
def rTruth_o1 (s : ShStore) (days : Int) (t : ShTruth) (i : Int) : List Obj := [Obj.cells #[topV 1 (slT (List.length (ShStore.stock s)) (rowL encI (ShStore.stock s))), topV 1 (slT (List.length (ShStore.use s)) (rowL encSp (ShStore.use s))), Value.int IntKind.i64 (ShStore.glo s), Value.int IntKind.i64 (ShStore.ghi s), topV 1 (slT (List.length (ShStore.lots s)) (rowL encLot (ShStore.lots s))), Value.int IntKind.i64 (ShStore.hold s)] 62, Obj.cells #[topV 1 (slT (List.length (ShTruth.uses t)) (rowL encI (ShTruth.uses t))), topV 1 (slT (List.length (ShTruth.gaps t)) (rowL encI (ShTruth.gaps t))), topV 1 (slT (List.length (ShTruth.goods t)) (rowL encRow (ShTruth.goods t)))] 65]
noncomputable def rTruth_t1 : List Item := ([.code [1, 1, 1, 0, 1, 0, 0], .inLoop [1, 1, 1, 0, 1, 0, 0], .inBlock 2, .code [1, 1, 1, 1]]).map (it (bodyOf Tryz.prog 40))
def rTruth_h1 (B : Lo) (c0 : CF) (s : ShStore) (days : Int) (t : ShTruth) (i : Int) : Prop := ∃ dJ : Nat → Value, (∀ t, Loose (dJ t)) ∧ GoE Tryz.prog B c0 H00 1 (headC 40 141 (([1, 3, 5, 8] : List Nat).zip (rTruth_v1 s days t i)) dJ rTruth_t1) (headH (rTruth_o1 s days t i)) (2 + (rTruth_o1 s days t i).length) []
def rTruth_v2 (s : ShStore) (days : Int) (t : ShTruth) (i k : Int) : List Value := [Value.int IntKind.i64 days, pA 2 0, pA 3 0, .int .i64 i, .int .i64 k]
def rTruth_o2 (s : ShStore) (days : Int) (t : ShTruth) (i k : Int) : List Obj := [Obj.cells #[topV 1 (slT (List.length (ShStore.stock s)) (rowL encI (ShStore.stock s))), topV 1 (slT (List.length (ShStore.use s)) (rowL encSp (ShStore.use s))), Value.int IntKind.i64 (ShStore.glo s), Value.int IntKind.i64 (ShStore.ghi s), topV 1 (slT (List.length (ShStore.lots s)) (rowL encLot (ShStore.lots s))), Value.int IntKind.i64 (ShStore.hold s)] 62, Obj.cells #[topV 1 (slT (List.length (ShTruth.uses t)) (rowL encI (ShTruth.uses t))), topV 1 (slT (List.length (ShTruth.gaps t)) (rowL encI (ShTruth.gaps t))), topV 1 (slT (List.length (ShTruth.goods t)) (rowL encRow (ShTruth.goods t)))] 65]
noncomputable def rTruth_t2 : List Item := ([.code [1, 1, 1, 0, 1, 0, 0, 1, 0, 0, 1, 1, 0, 0], .inLoop [1, 1, 1, 0, 1, 0, 0, 1, 0, 0, 1, 1, 0, 0], .inBlock 4, .inBlock 3, .code [1, 1, 1, 0, 1, 0, 0, 1, 1], .inLoop [1, 1, 1, 0, 1, 0, 0], .inBlock 2, .code [1, 1, 1, 1]]).map (it (bodyOf Tryz.prog 40))
def rTruth_h2 (B : Lo) (c0 : CF) (s : ShStore) (days : Int) (t : ShTruth) (i k : Int) : Prop := ∃ dJ : Nat → Value, (∀ t, Loose (dJ t)) ∧ GoE Tryz.prog B c0 H00 1 (headC 40 141 (([1, 3, 5, 8, 9] : List Nat).zip (rTruth_v2 s days t i k)) dJ rTruth_t2) (headH (rTruth_o2 s days t i k)) (2 + (rTruth_o2 s days t i k).length) []
def rTruth_v3 (s : ShStore) (days : Int) (t : ShTruth) (sum i : Int) : List Value := [Value.int IntKind.i64 days, pA 2 0, pA 3 0, .int .i64 sum, .int .i64 i]
def rTruth_o3 (s : ShStore) (days : Int) (t : ShTruth) (sum i : Int) : List Obj := [Obj.cells #[topV 1 (slT (List.length (ShStore.stock s)) (rowL encI (ShStore.stock s))), topV 1 (slT (List.length (ShStore.use s)) (rowL encSp (ShStore.use s))), Value.int IntKind.i64 (ShStore.glo s), Value.int IntKind.i64 (ShStore.ghi s), topV 1 (slT (List.length (ShStore.lots s)) (rowL encLot (ShStore.lots s))), Value.int IntKind.i64 (ShStore.hold s)] 62, Obj.cells #[topV 1 (slT (List.length (ShTruth.uses t)) (rowL encI (ShTruth.uses t))), topV 1 (slT (List.length (ShTruth.gaps t)) (rowL encI (ShTruth.gaps t))), topV 1 (slT (List.length (ShTruth.goods t)) (rowL encRow (ShTruth.goods t)))] 65]
noncomputable def rTruth_t3 : List Item := ([.code [1, 1, 1, 1, 1, 0, 1, 0, 0], .inLoop [1, 1, 1, 1, 1, 0, 1, 0, 0], .inBlock 6, .code [1, 1, 1, 1, 1, 1]]).map (it (bodyOf Tryz.prog 40))
def rTruth_h3 (B : Lo) (c0 : CF) (s : ShStore) (days : Int) (t : ShTruth) (sum i : Int) : Prop := ∃ dJ : Nat → Value, (∀ t, Loose (dJ t)) ∧ GoE Tryz.prog B c0 H00 1 (headC 40 141 (([1, 3, 5, 11, 12] : List Nat).zip (rTruth_v3 s days t sum i)) dJ rTruth_t3) (headH (rTruth_o3 s days t sum i)) (2 + (rTruth_o3 s days t sum i).length) []
noncomputable def rTruth_p0 (B : Lo) (s : ShStore) (days : Int) (t : ShTruth) (i : Int) (dJ0 : Nat → Value) : List Prop := [i = (↑(Int.toNat i) : Int) ∧ Int.toNat i < List.length (ShStore.use s) ∧ Array.extract (rowL encSp (ShStore.use s)) (Int.toNat i * TypeInfo.size Tryz.t25) (Int.toNat i * TypeInfo.size Tryz.t25 + TypeInfo.size Tryz.t25) = #[Value.int IntKind.i64 (Span.lo (List.getD (ShStore.use s) (Int.toNat i) default)), Value.int IntKind.i64 (Span.hi (List.getD (ShStore.use s) (Int.toNat i) default))], i = (↑(Int.toNat i) : Int) ∧ Int.toNat i < List.length (ShStore.use s) ∧ Array.extract (rowL encSp (ShStore.use s)) (Int.toNat i * TypeInfo.size Tryz.t25) (Int.toNat i * TypeInfo.size Tryz.t25 + TypeInfo.size Tryz.t25) = #[Value.int IntKind.i64 (Span.lo (List.getD (ShStore.use s) (Int.toNat i) default)), Value.int IntKind.i64 (Span.hi (List.getD (ShStore.use s) (Int.toNat i) default))], i = (↑(Int.toNat i) : Int) ∧ Int.toNat i < List.length (ShTruth.uses t) ∧ Array.extract (rowL encI (ShTruth.uses t)) (Int.toNat i * TypeInfo.size Tryz.t3) (Int.toNat i * TypeInfo.size Tryz.t3 + TypeInfo.size Tryz.t3) = #[Value.int IntKind.i64 (List.getD (ShTruth.uses t) (Int.toNat i) default)], ltq i (↑(List.length (ShTruth.uses t)) : Int) = true] ++ ([] : List Prop)
noncomputable def rTruth_q0 (s : ShStore) (days : Int) (t : ShTruth) (i : Int) (dJ0 : Nat → Value) : ScriptT := [(4, hvT), (8, HintT.tidx (Int.toNat i) #[Value.int IntKind.i64 (List.getD (ShTruth.uses t) (Int.toNat i) default)]), (13, HintT.tidx (Int.toNat i) #[Value.int IntKind.i64 (Span.lo (List.getD (ShStore.use s) (Int.toNat i) default)), Value.int IntKind.i64 (Span.hi (List.getD (ShStore.use s) (Int.toNat i) default))]), (19, HintT.tidx (Int.toNat i) #[Value.int IntKind.i64 (Span.lo (List.getD (ShStore.use s) (Int.toNat i) default)), Value.int IntKind.i64 (Span.hi (List.getD (ShStore.use s) (Int.toNat i) default))])]
theorem rTruth_s0 (B : Lo) (s : ShStore) (days : Int) (t : ShTruth) (i : Int) (dJ0 : Nat → Value) : landM (srunT Tryz.prog (okFn Tryz.prog) J0 B 14 1 (headC 40 141 (([1, 3, 5, 7] : List Nat).zip (rTruth_v0 s days t i)) dJ0 rTruth_t0) (headH (rTruth_o0 s days t i)) (2 + (rTruth_o0 s days t i).length)
    (rTruth_q0 s days t i dJ0 ++ [(22, HintT.pure (Value.bool true) []), (25, hvI (i + 1))]) 0 [] []) [1, 3, 5, 7] [(2, KS.auto), (3, KS.auto)] [] = some ⟨40, 141, rTruth_t0, [], .run, none, rTruth_v0 s days t (i + 1), rTruth_o0 s days t (i + 1),
    [wq (i + 1) = i + 1, AllP [] ∧ PureC Tryz.prog J0 69 #[Value.int IntKind.i64 (List.getD (ShTruth.uses t) (Int.toNat i) default), Value.int IntKind.i64 (Span.lo (List.getD (ShStore.use s) (Int.toNat i) default)), Value.int IntKind.i64 (Span.hi (List.getD (ShStore.use s) (Int.toNat i) default))] (Value.bool true)] ++ rTruth_p0 B s days t i dJ0⟩ := by kernel_rfl
theorem rTruth_s1 (B : Lo) (s : ShStore) (days : Int) (t : ShTruth) (i : Int) (dJ0 : Nat → Value) : endT (srunT Tryz.prog (okFn Tryz.prog) J0 B 14 1 (headC 40 141 (([1, 3, 5, 7] : List Nat).zip (rTruth_v0 s days t i)) dJ0 rTruth_t0) (headH (rTruth_o0 s days t i)) (2 + (rTruth_o0 s days t i).length)
    (rTruth_q0 s days t i dJ0 ++ [(22, HintT.pure (Value.bool false) [])]) 0 [] []) [] = some (Value.bool false,
    [AllP [] ∧ PureC Tryz.prog J0 69 #[Value.int IntKind.i64 (List.getD (ShTruth.uses t) (Int.toNat i) default), Value.int IntKind.i64 (Span.lo (List.getD (ShStore.use s) (Int.toNat i) default)), Value.int IntKind.i64 (Span.hi (List.getD (ShStore.use s) (Int.toNat i) default))] (Value.bool false)] ++ rTruth_p0 B s days t i dJ0) := by kernel_rfl
theorem rTruth_s2 (B : Lo) (s : ShStore) (days : Int) (t : ShTruth) (i : Int) (dJ0 : Nat → Value) : landM (srunT Tryz.prog (okFn Tryz.prog) J0 B 10 1 (headC 40 141 (([1, 3, 5, 7] : List Nat).zip (rTruth_v0 s days t i)) dJ0 rTruth_t0) (headH (rTruth_o0 s days t i)) (2 + (rTruth_o0 s days t i).length)
    [(4, hvF)] 0 [] []) [1, 3, 5, 8] [(2, KS.auto), (3, KS.auto)] [] = some ⟨40, 141, rTruth_t1, [], .run, none, rTruth_v1 s days t (0), rTruth_o1 s days t (0),
    [ltq i (↑(List.length (ShTruth.uses t)) : Int) = false]⟩ := by kernel_rfl
noncomputable def rTruth_p1 (B : Lo) (s : ShStore) (days : Int) (t : ShTruth) (i : Int) (dJ0 : Nat → Value) : List Prop := [i = (↑(Int.toNat i) : Int) ∧ Int.toNat i < List.length (ShTruth.goods t) ∧ Array.extract (rowL encRow (ShTruth.goods t)) (Int.toNat i * TypeInfo.size Tryz.t22) (Int.toNat i * TypeInfo.size Tryz.t22 + TypeInfo.size Tryz.t22) = #[slT (List.length (List.getD (ShTruth.goods t) (Int.toNat i) default)) (rowL encI (List.getD (ShTruth.goods t) (Int.toNat i) default))], ltq i (↑(List.length (ShTruth.goods t)) : Int) = true] ++ ([] : List Prop)
noncomputable def rTruth_q1 (s : ShStore) (days : Int) (t : ShTruth) (i : Int) (dJ0 : Nat → Value) : ScriptT := [(4, hvT), (8, HintT.tidx (Int.toNat i) #[slT (List.length (List.getD (ShTruth.goods t) (Int.toNat i) default)) (rowL encI (List.getD (ShTruth.goods t) (Int.toNat i) default))])]
theorem rTruth_s3 (B : Lo) (s : ShStore) (days : Int) (t : ShTruth) (i : Int) (dJ0 : Nat → Value) : endT (srunT Tryz.prog (okFn Tryz.prog) J0 B 15 1 (headC 40 141 (([1, 3, 5, 8] : List Nat).zip (rTruth_v1 s days t i)) dJ0 rTruth_t1) (headH (rTruth_o1 s days t i)) (2 + (rTruth_o1 s days t i).length)
    (rTruth_q1 s days t i dJ0 ++ [(14, hvT)]) 0 [] []) [] = some (Value.bool false,
    [(!eqq (↑(List.length (List.getD (ShTruth.goods t) (Int.toNat i) default)) : Int) (↑(List.length (ShStore.stock s)) : Int)) = true] ++ rTruth_p1 B s days t i dJ0) := by kernel_rfl
theorem rTruth_s4 (B : Lo) (s : ShStore) (days : Int) (t : ShTruth) (i : Int) (dJ0 : Nat → Value) : landM (srunT Tryz.prog (okFn Tryz.prog) J0 B 16 1 (headC 40 141 (([1, 3, 5, 8] : List Nat).zip (rTruth_v1 s days t i)) dJ0 rTruth_t1) (headH (rTruth_o1 s days t i)) (2 + (rTruth_o1 s days t i).length)
    (rTruth_q1 s days t i dJ0 ++ [(14, hvF)]) 0 [] []) [1, 3, 5, 8, 9] [(2, KS.auto), (3, KS.auto)] [] = some ⟨40, 141, rTruth_t2, [], .run, none, rTruth_v2 s days t (i) (0), rTruth_o2 s days t (i) (0),
    [(!eqq (↑(List.length (List.getD (ShTruth.goods t) (Int.toNat i) default)) : Int) (↑(List.length (ShStore.stock s)) : Int)) = false] ++ rTruth_p1 B s days t i dJ0⟩ := by kernel_rfl
theorem rTruth_s5 (B : Lo) (s : ShStore) (days : Int) (t : ShTruth) (i : Int) (dJ0 : Nat → Value) : landM (srunT Tryz.prog (okFn Tryz.prog) J0 B 12 1 (headC 40 141 (([1, 3, 5, 8] : List Nat).zip (rTruth_v1 s days t i)) dJ0 rTruth_t1) (headH (rTruth_o1 s days t i)) (2 + (rTruth_o1 s days t i).length)
    [(4, hvF)] 0 [] []) [1, 3, 5, 11, 12] [(2, KS.auto), (3, KS.auto)] [] = some ⟨40, 141, rTruth_t3, [], .run, none, rTruth_v3 s days t (0) (0), rTruth_o3 s days t (0) (0),
    [ltq i (↑(List.length (ShTruth.goods t)) : Int) = false]⟩ := by kernel_rfl
noncomputable def rTruth_p2 (B : Lo) (s : ShStore) (days : Int) (t : ShTruth) (i k : Int) (dJ0 : Nat → Value) : List Prop := [i = (↑(Int.toNat i) : Int) ∧ Int.toNat i < List.length (ShTruth.goods t) ∧ Array.extract (rowL encRow (ShTruth.goods t)) (Int.toNat i * TypeInfo.size Tryz.t22) (Int.toNat i * TypeInfo.size Tryz.t22 + TypeInfo.size Tryz.t22) = #[slT (List.length (List.getD (ShTruth.goods t) (Int.toNat i) default)) (rowL encI (List.getD (ShTruth.goods t) (Int.toNat i) default))]] ++ ([] : List Prop)
noncomputable def rTruth_q2 (s : ShStore) (days : Int) (t : ShTruth) (i k : Int) (dJ0 : Nat → Value) : ScriptT := [(4, HintT.tidx (Int.toNat i) #[slT (List.length (List.getD (ShTruth.goods t) (Int.toNat i) default)) (rowL encI (List.getD (ShTruth.goods t) (Int.toNat i) default))])]
noncomputable def rTruth_p3 (B : Lo) (s : ShStore) (days : Int) (t : ShTruth) (i k : Int) (dJ0 : Nat → Value) : List Prop := [k = (↑(Int.toNat k) : Int) ∧ Int.toNat k < List.length (List.getD (ShTruth.goods t) (Int.toNat i) default) ∧ Array.extract (rowL encI (List.getD (ShTruth.goods t) (Int.toNat i) default)) (Int.toNat k * TypeInfo.size Tryz.t3) (Int.toNat k * TypeInfo.size Tryz.t3 + TypeInfo.size Tryz.t3) = #[Value.int IntKind.i64 (List.getD (List.getD (ShTruth.goods t) (Int.toNat i) default) (Int.toNat k) default)], i = (↑(Int.toNat i) : Int) ∧ Int.toNat i < List.length (ShTruth.goods t) ∧ Array.extract (rowL encRow (ShTruth.goods t)) (Int.toNat i * TypeInfo.size Tryz.t22) (Int.toNat i * TypeInfo.size Tryz.t22 + TypeInfo.size Tryz.t22) = #[slT (List.length (List.getD (ShTruth.goods t) (Int.toNat i) default)) (rowL encI (List.getD (ShTruth.goods t) (Int.toNat i) default))], k = (↑(Int.toNat k) : Int) ∧ Int.toNat k < List.length (ShLot.goods (List.getD (ShStore.lots s) (Int.toNat i) default)) ∧ Array.extract (rowL encSp (ShLot.goods (List.getD (ShStore.lots s) (Int.toNat i) default))) (Int.toNat k * TypeInfo.size Tryz.t25) (Int.toNat k * TypeInfo.size Tryz.t25 + TypeInfo.size Tryz.t25) = #[Value.int IntKind.i64 (Span.lo (List.getD (ShLot.goods (List.getD (ShStore.lots s) (Int.toNat i) default)) (Int.toNat k) default)), Value.int IntKind.i64 (Span.hi (List.getD (ShLot.goods (List.getD (ShStore.lots s) (Int.toNat i) default)) (Int.toNat k) default))], i = (↑(Int.toNat i) : Int) ∧ Int.toNat i < List.length (ShStore.lots s) ∧ Array.extract (rowL encLot (ShStore.lots s)) (Int.toNat i * TypeInfo.size Tryz.t118) (Int.toNat i * TypeInfo.size Tryz.t118 + TypeInfo.size Tryz.t118) = #[slT (List.length (ShLot.goods (List.getD (ShStore.lots s) (Int.toNat i) default))) (rowL encSp (ShLot.goods (List.getD (ShStore.lots s) (Int.toNat i) default))), Value.int IntKind.i64 (ShLot.weight (List.getD (ShStore.lots s) (Int.toNat i) default)), Value.int IntKind.i64 (ShLot.cost (List.getD (ShStore.lots s) (Int.toNat i) default))], ltq k (↑(List.length (List.getD (ShTruth.goods t) (Int.toNat i) default)) : Int) = true] ++ rTruth_p2 B s days t i k dJ0
noncomputable def rTruth_q3 (s : ShStore) (days : Int) (t : ShTruth) (i k : Int) (dJ0 : Nat → Value) : ScriptT := rTruth_q2 s days t i k dJ0 ++ [(7, hvT), (11, HintT.tidx (Int.toNat i) #[slT (List.length (ShLot.goods (List.getD (ShStore.lots s) (Int.toNat i) default))) (rowL encSp (ShLot.goods (List.getD (ShStore.lots s) (Int.toNat i) default))), Value.int IntKind.i64 (ShLot.weight (List.getD (ShStore.lots s) (Int.toNat i) default)), Value.int IntKind.i64 (ShLot.cost (List.getD (ShStore.lots s) (Int.toNat i) default))]), (15, HintT.tidx (Int.toNat k) #[Value.int IntKind.i64 (Span.lo (List.getD (ShLot.goods (List.getD (ShStore.lots s) (Int.toNat i) default)) (Int.toNat k) default)), Value.int IntKind.i64 (Span.hi (List.getD (ShLot.goods (List.getD (ShStore.lots s) (Int.toNat i) default)) (Int.toNat k) default))]), (22, HintT.tidx (Int.toNat i) #[slT (List.length (List.getD (ShTruth.goods t) (Int.toNat i) default)) (rowL encI (List.getD (ShTruth.goods t) (Int.toNat i) default))]), (25, HintT.tidx (Int.toNat k) #[Value.int IntKind.i64 (List.getD (List.getD (ShTruth.goods t) (Int.toNat i) default) (Int.toNat k) default)])]
theorem rTruth_s6 (B : Lo) (s : ShStore) (days : Int) (t : ShTruth) (i k : Int) (dJ0 : Nat → Value) : landM (srunT Tryz.prog (okFn Tryz.prog) J0 B 16 1 (headC 40 141 (([1, 3, 5, 8, 9] : List Nat).zip (rTruth_v2 s days t i k)) dJ0 rTruth_t2) (headH (rTruth_o2 s days t i k)) (2 + (rTruth_o2 s days t i k).length)
    (rTruth_q3 s days t i k dJ0 ++ [(31, HintT.pure (Value.bool true) []), (34, hvI (k + 1))]) 0 [] []) [1, 3, 5, 8, 9] [(2, KS.auto), (3, KS.auto)] [] = some ⟨40, 141, rTruth_t2, [], .run, none, rTruth_v2 s days t (i) (k + 1), rTruth_o2 s days t (i) (k + 1),
    [wq (k + 1) = k + 1, AllP [] ∧ PureC Tryz.prog J0 69 #[Value.int IntKind.i64 (List.getD (List.getD (ShTruth.goods t) (Int.toNat i) default) (Int.toNat k) default), Value.int IntKind.i64 (Span.lo (List.getD (ShLot.goods (List.getD (ShStore.lots s) (Int.toNat i) default)) (Int.toNat k) default)), Value.int IntKind.i64 (Span.hi (List.getD (ShLot.goods (List.getD (ShStore.lots s) (Int.toNat i) default)) (Int.toNat k) default))] (Value.bool true)] ++ rTruth_p3 B s days t i k dJ0⟩ := by kernel_rfl
theorem rTruth_s7 (B : Lo) (s : ShStore) (days : Int) (t : ShTruth) (i k : Int) (dJ0 : Nat → Value) : endT (srunT Tryz.prog (okFn Tryz.prog) J0 B 16 1 (headC 40 141 (([1, 3, 5, 8, 9] : List Nat).zip (rTruth_v2 s days t i k)) dJ0 rTruth_t2) (headH (rTruth_o2 s days t i k)) (2 + (rTruth_o2 s days t i k).length)
    (rTruth_q3 s days t i k dJ0 ++ [(31, HintT.pure (Value.bool false) [])]) 0 [] []) [] = some (Value.bool false,
    [AllP [] ∧ PureC Tryz.prog J0 69 #[Value.int IntKind.i64 (List.getD (List.getD (ShTruth.goods t) (Int.toNat i) default) (Int.toNat k) default), Value.int IntKind.i64 (Span.lo (List.getD (ShLot.goods (List.getD (ShStore.lots s) (Int.toNat i) default)) (Int.toNat k) default)), Value.int IntKind.i64 (Span.hi (List.getD (ShLot.goods (List.getD (ShStore.lots s) (Int.toNat i) default)) (Int.toNat k) default))] (Value.bool false)] ++ rTruth_p3 B s days t i k dJ0) := by kernel_rfl
theorem rTruth_s8 (B : Lo) (s : ShStore) (days : Int) (t : ShTruth) (i k : Int) (dJ0 : Nat → Value) : landM (srunT Tryz.prog (okFn Tryz.prog) J0 B 8 1 (headC 40 141 (([1, 3, 5, 8, 9] : List Nat).zip (rTruth_v2 s days t i k)) dJ0 rTruth_t2) (headH (rTruth_o2 s days t i k)) (2 + (rTruth_o2 s days t i k).length)
    (rTruth_q2 s days t i k dJ0 ++ [(7, hvF), (9, hvI (i + 1))]) 0 [] []) [1, 3, 5, 8] [(2, KS.auto), (3, KS.auto)] [] = some ⟨40, 141, rTruth_t1, [], .run, none, rTruth_v1 s days t (i + 1), rTruth_o1 s days t (i + 1),
    [wq (i + 1) = i + 1, ltq k (↑(List.length (List.getD (ShTruth.goods t) (Int.toNat i) default)) : Int) = false] ++ rTruth_p2 B s days t i k dJ0⟩ := by kernel_rfl
noncomputable def rTruth_p4 (B : Lo) (s : ShStore) (days : Int) (t : ShTruth) (sum i : Int) (dJ0 : Nat → Value) : List Prop := [i = (↑(Int.toNat i) : Int) ∧ Int.toNat i < List.length (ShTruth.gaps t) ∧ Array.extract (rowL encI (ShTruth.gaps t)) (Int.toNat i * TypeInfo.size Tryz.t3) (Int.toNat i * TypeInfo.size Tryz.t3 + TypeInfo.size Tryz.t3) = #[Value.int IntKind.i64 (List.getD (ShTruth.gaps t) (Int.toNat i) default)], ltq i (↑(List.length (ShTruth.gaps t)) : Int) = true] ++ ([] : List Prop)
noncomputable def rTruth_q4 (s : ShStore) (days : Int) (t : ShTruth) (sum i : Int) (dJ0 : Nat → Value) : ScriptT := [(4, hvT), (8, HintT.tidx (Int.toNat i) #[Value.int IntKind.i64 (List.getD (ShTruth.gaps t) (Int.toNat i) default)])]
theorem rTruth_s9 (B : Lo) (s : ShStore) (days : Int) (t : ShTruth) (sum i : Int) (dJ0 : Nat → Value) : landM (srunT Tryz.prog (okFn Tryz.prog) J0 B 16 1 (headC 40 141 (([1, 3, 5, 11, 12] : List Nat).zip (rTruth_v3 s days t sum i)) dJ0 rTruth_t3) (headH (rTruth_o3 s days t sum i)) (2 + (rTruth_o3 s days t sum i).length)
    (rTruth_q4 s days t sum i dJ0 ++ [(16, HintT.pure (Value.bool true) []), (22, HintT.tidx (Int.toNat i) #[Value.int IntKind.i64 (List.getD (ShTruth.gaps t) (Int.toNat i) default)]), (24, hvI (sum + List.getD (ShTruth.gaps t) (Int.toNat i) default)), (27, hvI (i + 1))]) 0 [] []) [1, 3, 5, 11, 12] [(2, KS.auto), (3, KS.auto)] [] = some ⟨40, 141, rTruth_t3, [], .run, none, rTruth_v3 s days t (sum + List.getD (ShTruth.gaps t) (Int.toNat i) default) (i + 1), rTruth_o3 s days t (sum + List.getD (ShTruth.gaps t) (Int.toNat i) default) (i + 1),
    [wq (i + 1) = i + 1, wq (sum + List.getD (ShTruth.gaps t) (Int.toNat i) default) = sum + List.getD (ShTruth.gaps t) (Int.toNat i) default, i = (↑(Int.toNat i) : Int) ∧ Int.toNat i < List.length (ShTruth.gaps t) ∧ Array.extract (rowL encI (ShTruth.gaps t)) (Int.toNat i * TypeInfo.size Tryz.t3) (Int.toNat i * TypeInfo.size Tryz.t3 + TypeInfo.size Tryz.t3) = #[Value.int IntKind.i64 (List.getD (ShTruth.gaps t) (Int.toNat i) default)], AllP [] ∧ PureC Tryz.prog J0 69 #[Value.int IntKind.i64 (List.getD (ShTruth.gaps t) (Int.toNat i) default), Value.int IntKind.i64 (ShStore.glo s), Value.int IntKind.i64 (ShStore.ghi s)] (Value.bool true)] ++ rTruth_p4 B s days t sum i dJ0⟩ := by kernel_rfl
theorem rTruth_s10 (B : Lo) (s : ShStore) (days : Int) (t : ShTruth) (sum i : Int) (dJ0 : Nat → Value) : endT (srunT Tryz.prog (okFn Tryz.prog) J0 B 15 1 (headC 40 141 (([1, 3, 5, 11, 12] : List Nat).zip (rTruth_v3 s days t sum i)) dJ0 rTruth_t3) (headH (rTruth_o3 s days t sum i)) (2 + (rTruth_o3 s days t sum i).length)
    (rTruth_q4 s days t sum i dJ0 ++ [(16, HintT.pure (Value.bool false) [])]) 0 [] []) [] = some (Value.bool false,
    [AllP [] ∧ PureC Tryz.prog J0 69 #[Value.int IntKind.i64 (List.getD (ShTruth.gaps t) (Int.toNat i) default), Value.int IntKind.i64 (ShStore.glo s), Value.int IntKind.i64 (ShStore.ghi s)] (Value.bool false)] ++ rTruth_p4 B s days t sum i dJ0) := by kernel_rfl
noncomputable def rTruth_p5 (B : Lo) (s : ShStore) (days : Int) (t : ShTruth) (sum i : Int) (dJ0 : Nat → Value) : List Prop := [ltq i (↑(List.length (ShTruth.gaps t)) : Int) = false] ++ ([] : List Prop)
noncomputable def rTruth_q5 (s : ShStore) (days : Int) (t : ShTruth) (sum i : Int) (dJ0 : Nat → Value) : ScriptT := [(4, hvF)]
theorem rTruth_s11 (B : Lo) (s : ShStore) (days : Int) (t : ShTruth) (sum i : Int) (dJ0 : Nat → Value) : endT (srunT Tryz.prog (okFn Tryz.prog) J0 B 9 1 (headC 40 141 (([1, 3, 5, 11, 12] : List Nat).zip (rTruth_v3 s days t sum i)) dJ0 rTruth_t3) (headH (rTruth_o3 s days t sum i)) (2 + (rTruth_o3 s days t sum i).length)
    (rTruth_q5 s days t sum i dJ0 ++ [(7, hvT)]) 0 [] []) [] = some (Value.bool true,
    [(!ltq sum days) = true] ++ rTruth_p5 B s days t sum i dJ0) := by kernel_rfl
theorem rTruth_s12 (B : Lo) (s : ShStore) (days : Int) (t : ShTruth) (sum i : Int) (dJ0 : Nat → Value) : endT (srunT Tryz.prog (okFn Tryz.prog) J0 B 9 1 (headC 40 141 (([1, 3, 5, 11, 12] : List Nat).zip (rTruth_v3 s days t sum i)) dJ0 rTruth_t3) (headH (rTruth_o3 s days t sum i)) (2 + (rTruth_o3 s days t sum i).length)
    (rTruth_q5 s days t sum i dJ0 ++ [(7, hvF)]) 0 [] []) [] = some (Value.bool false,
    [(!ltq sum days) = false] ++ rTruth_p5 B s days t sum i dJ0) := by kernel_rfl
theorem rTruth_s13 (B : Lo) (s : ShStore) (days : Int) (t : ShTruth) : endT (srunT Tryz.prog (okFn Tryz.prog) J0 B 10 1 (entryC Tryz.prog 40 141 (([.agg (encStore s).toArray, .int .i64 days, .agg (encTruth t).toArray]).map (pushT 0 4))) H00 1
    [(9, hvT)] 0 [] []) [] = some (Value.bool false,
    [(!eqq (↑(List.length (ShTruth.uses t)) : Int) (↑(List.length (ShStore.stock s)) : Int)) = true]) := by kernel_rfl
noncomputable def rTruth_p6 (B : Lo) (s : ShStore) (days : Int) (t : ShTruth) : List Prop := [(!eqq (↑(List.length (ShTruth.uses t)) : Int) (↑(List.length (ShStore.stock s)) : Int)) = false] ++ ([] : List Prop)
noncomputable def rTruth_q6 (s : ShStore) (days : Int) (t : ShTruth) : ScriptT := [(9, hvF)]
theorem rTruth_s14 (B : Lo) (s : ShStore) (days : Int) (t : ShTruth) : endT (srunT Tryz.prog (okFn Tryz.prog) J0 B 10 1 (entryC Tryz.prog 40 141 (([.agg (encStore s).toArray, .int .i64 days, .agg (encTruth t).toArray]).map (pushT 0 4))) H00 1
    (rTruth_q6 s days t ++ [(17, hvT)]) 0 [] []) [] = some (Value.bool false,
    [(!eqq (↑(List.length (ShTruth.goods t)) : Int) (↑(List.length (ShStore.lots s)) : Int)) = true] ++ rTruth_p6 B s days t) := by kernel_rfl
noncomputable def rTruth_p7 (B : Lo) (s : ShStore) (days : Int) (t : ShTruth) : List Prop := [(!eqq (↑(List.length (ShTruth.goods t)) : Int) (↑(List.length (ShStore.lots s)) : Int)) = false] ++ rTruth_p6 B s days t
noncomputable def rTruth_q7 (s : ShStore) (days : Int) (t : ShTruth) : ScriptT := rTruth_q6 s days t ++ [(17, hvF)]
theorem rTruth_s15 (B : Lo) (s : ShStore) (days : Int) (t : ShTruth) : endT (srunT Tryz.prog (okFn Tryz.prog) J0 B 10 1 (entryC Tryz.prog 40 141 (([.agg (encStore s).toArray, .int .i64 days, .agg (encTruth t).toArray]).map (pushT 0 4))) H00 1
    (rTruth_q7 s days t ++ [(23, hvT)]) 0 [] []) [] = some (Value.bool false,
    [ltq 300 (↑(List.length (ShTruth.gaps t)) : Int) = true] ++ rTruth_p7 B s days t) := by kernel_rfl
theorem rTruth_s16 (B : Lo) (s : ShStore) (days : Int) (t : ShTruth) : landM (srunT Tryz.prog (okFn Tryz.prog) J0 B 12 1 (entryC Tryz.prog 40 141 (([.agg (encStore s).toArray, .int .i64 days, .agg (encTruth t).toArray]).map (pushT 0 4))) H00 1
    (rTruth_q7 s days t ++ [(23, hvF)]) 0 [] []) [1, 3, 5, 7] [(1, KS.auto), (2, KS.auto)] [] = some ⟨40, 141, rTruth_t0, [], .run, none, rTruth_v0 s days t (0), rTruth_o0 s days t (0),
    [ltq 300 (↑(List.length (ShTruth.gaps t)) : Int) = false] ++ rTruth_p7 B s days t⟩ := by kernel_rfl
set_option maxHeartbeats 4000000 in
theorem rTruth_ls (s : ShStore) (days : Int) (t : ShTruth) (hs : storeB s = true) (hfacts : t.uses.length ≤ 9223372036854775807 ∧ t.gaps.length ≤ 9223372036854775807 ∧ t.goods.length ≤ 9223372036854775807) {B : Lo} (hJ : ∀ w, B.has w → J0 w) {c0 : CF} : ∀ m : Nat, (∀ (i : Int), (t.uses.length - i.toNat) + wtR t.goods + t.gaps.length + 9 = m → ∀ (h0 : 0 ≤ i) (e1 : t.uses.length = s.stock.length) (e2 : t.goods.length = s.lots.length) (e3 : t.gaps.length ≤ 300), rTruth_h0 B c0 s days t i → EndsT Tryz.prog B c0 (.bool (allU t.uses s.use i && (allGR s t.goods 0 && (t.gaps.all (fun x => inB x s.glo s.ghi) && decide (days ≤ sumL t.gaps)))))) ∧ (∀ (i : Int), wtR (t.goods.drop i.toNat) + t.gaps.length + 8 = m → ∀ (h0 : 0 ≤ i) (e1 : t.uses.length = s.stock.length) (e2 : t.goods.length = s.lots.length) (e3 : t.gaps.length ≤ 300), rTruth_h1 B c0 s days t i → EndsT Tryz.prog B c0 (.bool (allGR s t.goods i && (t.gaps.all (fun x => inB x s.glo s.ghi) && decide (days ≤ sumL t.gaps))))) ∧ (∀ (i k : Int), ((t.goods.getD i.toNat default).length - k.toNat) + wtR (t.goods.drop (i + 1).toNat) + t.gaps.length + 9 = m → ∀ (h0 : 0 ≤ i) (h1 : i < t.goods.length) (k0 : 0 ≤ k) (hr : (t.goods.getD i.toNat default).length = s.stock.length) (e1 : t.uses.length = s.stock.length) (e2 : t.goods.length = s.lots.length) (e3 : t.gaps.length ≤ 300), rTruth_h2 B c0 s days t i k → EndsT Tryz.prog B c0 (.bool (allU (t.goods.getD i.toNat default) (s.lots.getD i.toNat default).goods k && (allGR s t.goods (i + 1) && (t.gaps.all (fun x => inB x s.glo s.ghi) && decide (days ≤ sumL t.gaps)))))) ∧ (∀ (sum i : Int), (t.gaps.length - i.toNat) = m → ∀ (h0 : 0 ≤ i) (h1 : 0 ≤ sum ∧ sum ≤ 60 * i) (e1 : t.uses.length = s.stock.length) (e2 : t.goods.length = s.lots.length) (e3 : t.gaps.length ≤ 300), rTruth_h3 B c0 s days t sum i → EndsT Tryz.prog B c0 (.bool ((t.gaps.drop i.toNat).all (fun x => inB x s.glo s.ghi) && decide (days ≤ sum + sumL (t.gaps.drop i.toNat))))) := by
  intro m0
  induction m0 using Nat.strongRecOn with
  | _ m0 ih0 =>
    refine ⟨?_, ?_, ?_, ?_⟩
    · intro i hm0 h0 e1 e2 e3 ⟨dJ0, hdJ0, hg0⟩
      have hm := store_lots hs
      have hgp := store_gap hs
      have hst := store_stock hs
      by_cases q0 : (i : Int) < ((↑(List.length (ShTruth.uses t)) : Int))
      ·
        have hp0 : AllP (rTruth_p0 B s days t i dJ0) := by
          have s2 := allU_cons (ns := t.uses) (ss := s.use) q0
          exact ⟨⟨by omega, by omega, (rowL_extract (z := 2) (fun _ => rfl) (by omega))⟩, ⟨⟨by omega, by omega, (rowL_extract (z := 2) (fun _ => rfl) (by omega))⟩, ⟨⟨by omega, by omega, (rowL_extract (z := 1) (fun _ => rfl) (by omega))⟩, ⟨(ltq_t q0), trivial⟩⟩⟩⟩
        cases q1 : inB (List.getD (ShTruth.uses t) (Int.toNat i) default) (Span.lo (List.getD (ShStore.use s) (Int.toNat i) default)) (Span.hi (List.getD (ShStore.use s) (Int.toNat i) default)) with
        | true =>
          have s2 := allU_cons (ns := t.uses) (ss := s.use) q0
          exact ((ih0 _ (by (first | omega | (simp only [Int.toNat_zero, List.drop_zero]; omega)))).1 (i + 1) rfl (by omega) (by with_reducible assumption) (by with_reducible assumption) (by with_reducible assumption)
            (hg0.landM okF hJ mixed_ok (rTruth_s0 B s days t i dJ0)
            ⟨(wq_in (by omega) (by omega)), ⟨⟨trivial, (by have t_ := rin (List.getD (ShTruth.uses t) (Int.toNat i) default) (Span.lo (List.getD (ShStore.use s) (Int.toNat i) default)) (Span.hi (List.getD (ShStore.use s) (Int.toNat i) default)); rw [q1] at t_; exact t_)⟩, hp0⟩⟩ (by kernel_rfl) (by kernel_rfl))).cast (by (rw [s2, q1]; rfl))
        | false =>
          have s2 := allU_cons (ns := t.uses) (ss := s.use) q0
          exact (GoE.endsT okF hJ mixed_ok hg0 (rTruth_s1 B s days t i dJ0)
            ⟨⟨trivial, (by have t_ := rin (List.getD (ShTruth.uses t) (Int.toNat i) default) (Span.lo (List.getD (ShStore.use s) (Int.toNat i) default)) (Span.hi (List.getD (ShStore.use s) (Int.toNat i) default)); rw [q1] at t_; exact t_)⟩, hp0⟩).cast (by (rw [s2, q1]; rfl))
      ·
        have s2 := allU_nil (ns := t.uses) (ss := s.use) (i := i) (by omega)
        exact ((ih0 _ (by (first | omega | (simp only [Int.toNat_zero, List.drop_zero]; omega)))).2.1 (0) rfl (by omega) (by with_reducible assumption) (by with_reducible assumption) (by with_reducible assumption)
          (hg0.landM okF hJ mixed_ok (rTruth_s2 B s days t i dJ0)
          ⟨(ltq_f (Int.not_lt.1 q0)), trivial⟩ (by kernel_rfl) (by kernel_rfl))).cast (by (rw [s2]; rfl))
    · intro i hm0 h0 e1 e2 e3 ⟨dJ0, hdJ0, hg0⟩
      have hm := store_lots hs
      have hgp := store_gap hs
      have hst := store_stock hs
      by_cases q0 : (i : Int) < ((↑(List.length (ShTruth.goods t)) : Int))
      ·
        have hp1 : AllP (rTruth_p1 B s days t i dJ0) := by
          have s2 := allGR_cons (s := s) (all := t.goods) q0
          have s3 := wtR_cons (l := t.goods) h0 q0
          exact ⟨⟨by omega, by omega, (rowL_extract (z := 1) (fun _ => rfl) (by omega))⟩, ⟨(ltq_t q0), trivial⟩⟩
        by_cases q1 : ((↑(List.length (List.getD (ShTruth.goods t) (Int.toNat i) default)) : Int) : Int) ≠ ((↑(List.length (ShStore.stock s)) : Int))
        ·
          have s2 := allGR_cons (s := s) (all := t.goods) q0
          have s3 := wtR_cons (l := t.goods) h0 q0
          rw [decide_eq_false (by omega)] at s2
          exact (GoE.endsT okF hJ mixed_ok hg0 (rTruth_s3 B s days t i dJ0)
            ⟨(neqq_t q1), hp1⟩).cast (by (rw [s2]; rfl))
        ·
          have s2 := allGR_cons (s := s) (all := t.goods) q0
          have s3 := wtR_cons (l := t.goods) h0 q0
          rw [decide_eq_true (by omega)] at s2
          exact ((ih0 _ (by omega)).2.2.1 (i) (0) rfl (by with_reducible assumption) (by with_reducible assumption) (by omega) (by omega) (by with_reducible assumption) (by with_reducible assumption) (by with_reducible assumption)
            (hg0.landM okF hJ mixed_ok (rTruth_s4 B s days t i dJ0)
            ⟨(neqq_f (Decidable.of_not_not q1)), hp1⟩ (by kernel_rfl) (by kernel_rfl))).cast (by (rw [s2]; simp [Bool.and_assoc]; done))
      ·
        have s2 := allGR_nil (s := s) (all := t.goods) (i := i) (by omega)
        exact ((ih0 _ (by omega)).2.2.2 (0) (0) rfl (by omega) (by omega) (by with_reducible assumption) (by with_reducible assumption) (by with_reducible assumption)
          (hg0.landM okF hJ mixed_ok (rTruth_s5 B s days t i dJ0)
          ⟨(ltq_f (Int.not_lt.1 q0)), trivial⟩ (by kernel_rfl) (by kernel_rfl))).cast (by (rw [s2]; simp [Bool.and_assoc]; done))
    · intro i k hm0 h0 h1 k0 hr e1 e2 e3 ⟨dJ0, hdJ0, hg0⟩
      have hm := store_lots hs
      have hgp := store_gap hs
      have hst := store_stock hs
      have hlt := (lot_facts (hm.2 _ (getD_mem (l := s.lots) (i := i) h0 (by omega)))).1
      have hp2 : AllP (rTruth_p2 B s days t i k dJ0) := by
        exact ⟨⟨by omega, by omega, (rowL_extract (z := 1) (fun _ => rfl) (by omega))⟩, trivial⟩
      by_cases q0 : (k : Int) < ((↑(List.length (List.getD (ShTruth.goods t) (Int.toNat i) default)) : Int))
      ·
        have hp3 : AllP (rTruth_p3 B s days t i k dJ0) := by
          have s2 := allU_cons (ns := t.goods.getD i.toNat default) (ss := (s.lots.getD i.toNat default).goods) q0
          exact ⟨⟨by omega, by omega, (rowL_extract (z := 1) (fun _ => rfl) (by omega))⟩, ⟨⟨by omega, by omega, (rowL_extract (z := 1) (fun _ => rfl) (by omega))⟩, ⟨⟨by omega, by omega, (rowL_extract (z := 2) (fun _ => rfl) (by omega))⟩, ⟨⟨by omega, by omega, (rowL_extract (z := 3) (fun _ => rfl) (by omega))⟩, ⟨(ltq_t q0), hp2⟩⟩⟩⟩⟩
        cases q1 : inB (List.getD (List.getD (ShTruth.goods t) (Int.toNat i) default) (Int.toNat k) default) (Span.lo (List.getD (ShLot.goods (List.getD (ShStore.lots s) (Int.toNat i) default)) (Int.toNat k) default)) (Span.hi (List.getD (ShLot.goods (List.getD (ShStore.lots s) (Int.toNat i) default)) (Int.toNat k) default)) with
        | true =>
          have s2 := allU_cons (ns := t.goods.getD i.toNat default) (ss := (s.lots.getD i.toNat default).goods) q0
          exact ((ih0 _ (by omega)).2.2.1 (i) (k + 1) rfl (by with_reducible assumption) (by with_reducible assumption) (by omega) (by with_reducible assumption) (by with_reducible assumption) (by with_reducible assumption) (by with_reducible assumption)
            (hg0.landM okF hJ mixed_ok (rTruth_s6 B s days t i k dJ0)
            ⟨(wq_in (by omega) (by omega)), ⟨⟨trivial, (by have t_ := rin (List.getD (List.getD (ShTruth.goods t) (Int.toNat i) default) (Int.toNat k) default) (Span.lo (List.getD (ShLot.goods (List.getD (ShStore.lots s) (Int.toNat i) default)) (Int.toNat k) default)) (Span.hi (List.getD (ShLot.goods (List.getD (ShStore.lots s) (Int.toNat i) default)) (Int.toNat k) default)); rw [q1] at t_; exact t_)⟩, hp3⟩⟩ (by kernel_rfl) (by kernel_rfl))).cast (by (rw [s2, q1]; rfl))
        | false =>
          have s2 := allU_cons (ns := t.goods.getD i.toNat default) (ss := (s.lots.getD i.toNat default).goods) q0
          exact (GoE.endsT okF hJ mixed_ok hg0 (rTruth_s7 B s days t i k dJ0)
            ⟨⟨trivial, (by have t_ := rin (List.getD (List.getD (ShTruth.goods t) (Int.toNat i) default) (Int.toNat k) default) (Span.lo (List.getD (ShLot.goods (List.getD (ShStore.lots s) (Int.toNat i) default)) (Int.toNat k) default)) (Span.hi (List.getD (ShLot.goods (List.getD (ShStore.lots s) (Int.toNat i) default)) (Int.toNat k) default)); rw [q1] at t_; exact t_)⟩, hp3⟩).cast (by (rw [s2, q1]; rfl))
      ·
        have s2 := allU_nil (ns := t.goods.getD i.toNat default) (ss := (s.lots.getD i.toNat default).goods) (i := k) (by omega)
        exact ((ih0 _ (by omega)).2.1 (i + 1) rfl (by omega) (by with_reducible assumption) (by with_reducible assumption) (by with_reducible assumption)
          (hg0.landM okF hJ mixed_ok (rTruth_s8 B s days t i k dJ0)
          ⟨(wq_in (by omega) (by omega)), ⟨(ltq_f (Int.not_lt.1 q0)), hp2⟩⟩ (by kernel_rfl) (by kernel_rfl))).cast (by (rw [s2]; rfl))
    · intro sum i hm0 h0 h1 e1 e2 e3 ⟨dJ0, hdJ0, hg0⟩
      have hm := store_lots hs
      have hgp := store_gap hs
      have hst := store_stock hs
      by_cases q0 : (i : Int) < ((↑(List.length (ShTruth.gaps t)) : Int))
      ·
        have hp4 : AllP (rTruth_p4 B s days t sum i dJ0) := by
          have s2 := drop_all2 (l := t.gaps) (p := fun x => inB x s.glo s.ghi) h0 q0
          have s3 := sumL_cons (l := t.gaps) h0 q0
          exact ⟨⟨by omega, by omega, (rowL_extract (z := 1) (fun _ => rfl) (by omega))⟩, ⟨(ltq_t q0), trivial⟩⟩
        cases q1 : inB (List.getD (ShTruth.gaps t) (Int.toNat i) default) (ShStore.glo s) (ShStore.ghi s) with
        | true =>
          have s2 := drop_all2 (l := t.gaps) (p := fun x => inB x s.glo s.ghi) h0 q0
          have s3 := sumL_cons (l := t.gaps) h0 q0
          have g1 := inB_iff.1 ‹inB (t.gaps.getD i.toNat default) _ _ = true›
          exact ((ih0 _ (by omega)).2.2.2 (sum + List.getD (ShTruth.gaps t) (Int.toNat i) default) (i + 1) rfl (by omega) (by omega) (by with_reducible assumption) (by with_reducible assumption) (by with_reducible assumption)
            (hg0.landM okF hJ mixed_ok (rTruth_s9 B s days t sum i dJ0)
            ⟨(wq_in (by omega) (by omega)), ⟨(wq_in (by omega) (by omega)), ⟨⟨by omega, by omega, (rowL_extract (z := 1) (fun _ => rfl) (by omega))⟩, ⟨⟨trivial, (by have t_ := rin (List.getD (ShTruth.gaps t) (Int.toNat i) default) (ShStore.glo s) (ShStore.ghi s); rw [q1] at t_; exact t_)⟩, hp4⟩⟩⟩⟩ (by kernel_rfl) (by kernel_rfl))).cast (by (simp only [s2, s3, q1, Int.add_assoc, Bool.true_and, Bool.false_and]; done))
        | false =>
          have s2 := drop_all2 (l := t.gaps) (p := fun x => inB x s.glo s.ghi) h0 q0
          have s3 := sumL_cons (l := t.gaps) h0 q0
          exact (GoE.endsT okF hJ mixed_ok hg0 (rTruth_s10 B s days t sum i dJ0)
            ⟨⟨trivial, (by have t_ := rin (List.getD (ShTruth.gaps t) (Int.toNat i) default) (ShStore.glo s) (ShStore.ghi s); rw [q1] at t_; exact t_)⟩, hp4⟩).cast (by (simp only [s2, s3, q1, Int.add_assoc, Bool.true_and, Bool.false_and]; done))
      ·
        have hp5 : AllP (rTruth_p5 B s days t sum i dJ0) := by
          exact ⟨(ltq_f (Int.not_lt.1 q0)), trivial⟩
        by_cases q1 : (days : Int) ≤ (sum)
        ·
          have s2 := drop_nil2 (l := t.gaps) (p := fun x => inB x s.glo s.ghi) (i := i) (by omega)
          have s3 := sumL_nil (l := t.gaps) (i := i) (by omega)
          exact (GoE.endsT okF hJ mixed_ok hg0 (rTruth_s11 B s days t sum i dJ0)
            ⟨(nltq_t q1), hp5⟩).cast (by (simp only [s2, s3, Bool.true_and]; simp_all; done))
        ·
          have s2 := drop_nil2 (l := t.gaps) (p := fun x => inB x s.glo s.ghi) (i := i) (by omega)
          have s3 := sumL_nil (l := t.gaps) (i := i) (by omega)
          exact (GoE.endsT okF hJ mixed_ok hg0 (rTruth_s12 B s days t sum i dJ0)
            ⟨(nltq_f (Int.not_le.1 q1)), hp5⟩).cast (by (simp only [s2, s3, Bool.true_and]; simp_all; done))
set_option maxHeartbeats 4000000 in
theorem rTruth_e (s : ShStore) (days : Int) (t : ShTruth) (hs : storeB s = true) (hfacts : t.uses.length ≤ 9223372036854775807 ∧ t.gaps.length ≤ 9223372036854775807 ∧ t.goods.length ≤ 9223372036854775807) {B : Lo} (hJ : ∀ w, B.has w → J0 w) : EndsT Tryz.prog B (entryC Tryz.prog 40 141 (([.agg (encStore s).toArray, .int .i64 days, .agg (encTruth t).toArray]).map (pushT 0 4))) (.bool (truthR s days t)) := by
  have hm := store_lots hs
  have hgp := store_gap hs
  have hst := store_stock hs
  by_cases q0 : ((↑(List.length (ShTruth.uses t)) : Int) : Int) ≠ ((↑(List.length (ShStore.stock s)) : Int))
  ·
    exact (GoE.endsT okF hJ mixed_ok GoE.start (rTruth_s13 B s days t)
      ⟨(neqq_t q0), trivial⟩).cast (by (simp only [truthR, decide_eq_false (show ¬ t.uses.length = s.stock.length by omega), Bool.false_and]; done))
  ·
    have hp6 : AllP (rTruth_p6 B s days t) := by
      exact ⟨(neqq_f (Decidable.of_not_not q0)), trivial⟩
    by_cases q1 : ((↑(List.length (ShTruth.goods t)) : Int) : Int) ≠ ((↑(List.length (ShStore.lots s)) : Int))
    ·
      exact (GoE.endsT okF hJ mixed_ok GoE.start (rTruth_s14 B s days t)
        ⟨(neqq_t q1), hp6⟩).cast (by (simp only [truthR, decide_eq_false (show ¬ t.goods.length = s.lots.length by omega), Bool.false_and, Bool.and_false]; done))
    ·
      have hp7 : AllP (rTruth_p7 B s days t) := by
        exact ⟨(neqq_f (Decidable.of_not_not q1)), hp6⟩
      by_cases q2 : (300 : Int) < ((↑(List.length (ShTruth.gaps t)) : Int))
      ·
        exact (GoE.endsT okF hJ mixed_ok GoE.start (rTruth_s15 B s days t)
          ⟨(ltq_t q2), hp7⟩).cast (by (simp only [truthR, decide_eq_false (show ¬ t.gaps.length ≤ 300 by omega), Bool.false_and, Bool.and_false]; done))
      ·
        exact ((rTruth_ls s days t hs hfacts hJ _).1 (0) rfl (by omega) (by omega) (by omega) (by omega)
          (GoE.start.landM okF hJ mixed_ok (rTruth_s16 B s days t)
          ⟨(ltq_f (Int.not_lt.1 q2)), hp7⟩ (by kernel_rfl) (by kernel_rfl))).cast (by (simp only [truthR, decide_eq_true (show t.uses.length = s.stock.length by omega), decide_eq_true (show t.goods.length = s.lots.length by omega), decide_eq_true (show t.gaps.length ≤ 300 by omega), Bool.true_and]; done))
theorem rTruth (s : ShStore) (days : Int) (t : ShTruth) (hs : storeB s = true) : PureC Tryz.prog J0 40 #[.agg (encStore s).toArray, .int .i64 days, .agg (encTruth t).toArray] (.bool (truthR s days t)) :=
  pureC_ofF (ts := [.agg (encStore s).toArray, .int .i64 days, .agg (encTruth t).toArray]) (t.uses.length ≤ 9223372036854775807 ∧ t.gaps.length ≤ 9223372036854775807 ∧ t.goods.length ≤ 9223372036854775807) (fun _ _ ht => ⟨ht.ln2 (i := 2) (j := 0) rfl rfl, ht.ln2 (i := 2) (j := 1) rfl rfl, ht.ln2 (i := 2) (j := 2) rfl rfl⟩) J0_st (c0 := entryC Tryz.prog 40 141 (([.agg (encStore s).toArray, .int .i64 days, .agg (encTruth t).toArray]).map (pushT 0 4))) (by kernel_rfl) (by kernel_rfl) fun hfacts B hJ => rTruth_e s days t hs hfacts hJ
end Go.Proofs.YtoihlobogbeigaaGreat

namespace Go.Proofs.YtoihlobogbeigaaGreat
open Go Go.CE Go.RowKit
set_option maxRecDepth 100000
def comesL (day : Int) : List Int → Int → Bool
  | [], _ => false
  | g :: l, s => decide (s + g = day) || comesL day l (s + g)
theorem comesL_cons {day s i : Int} {l : List Int} (h0 : 0 ≤ i) (h : i < l.length) : comesL day (l.drop i.toNat) s = (decide (s + l.getD i.toNat default = day) || comesL day (l.drop (i + 1).toNat) (s + l.getD i.toNat default)) := by
  obtain ⟨k, rfl⟩ : ∃ k : Nat, i = k := ⟨i.toNat, by omega⟩
  have hk : k < l.length := by omega
  have e1 : ((k : Int)).toNat = k := by omega
  have e2 : ((k : Int) + 1).toNat = k + 1 := by omega
  rw [e1, e2, List.drop_eq_getElem_cons hk]
  simp [comesL, List.getD_eq_getElem?_getD, hk]
theorem comesL_nil {day s i : Int} {l : List Int} (h : l.length ≤ i) : comesL day (l.drop i.toNat) s = false := by
  rw [List.drop_eq_nil_of_le (by omega)]; rfl
def gsum (t : ShTruth) (kind : Int) (l : List Int) : Int := sumL (l.map fun x => (t.goods.getD x.toNat default).getD kind.toNat default)
theorem gsum_cons {t : ShTruth} {kind i : Int} {l : List Int} (h0 : 0 ≤ i) (h : i < l.length) : gsum t kind (l.drop i.toNat) = (t.goods.getD (l.getD i.toNat default).toNat default).getD kind.toNat default + gsum t kind (l.drop (i + 1).toNat) := by
  obtain ⟨k, rfl⟩ : ∃ k : Nat, i = k := ⟨i.toNat, by omega⟩
  have hk : k < l.length := by omega
  have e1 : ((k : Int)).toNat = k := by omega
  have e2 : ((k : Int) + 1).toNat = k + 1 := by omega
  unfold gsum
  rw [e1, e2, List.drop_eq_getElem_cons hk, List.map_cons]
  simp [sumL, List.getD_eq_getElem?_getD, hk]
theorem gsum_nil {t : ShTruth} {kind i : Int} {l : List Int} (h : l.length ≤ i) : gsum t kind (l.drop i.toNat) = 0 := by
  rw [List.drop_eq_nil_of_le (by omega)]; rfl
def keptF (use br : Int) (comes : Int → Bool) : List Int → Int × Int → Int × Int
  | [], st => st
  | d :: ds, st => keptF use br comes ds (if (st.2 + if comes d = true then br else 0) < use ∧ st.1 < 0 then d else st.1, if 0 < (st.2 + if comes d = true then br else 0) - use then (st.2 + if comes d = true then br else 0) - use else 0)
def keptD (use br : Int) (comes : Int → Bool) (days d w L : Int) : Int × Int := keptF use br comes (upI (d + 1) days) (if L < use ∧ w < 0 then d else w, if 0 < L - use then L - use else 0)
theorem kept_cons {use br days d w s : Int} {comes : Int → Bool} (h : d < days) : keptF use br comes (upI d days) (w, s) = keptD use br comes days d w (s + if comes d = true then br else 0) := by
  rw [upI_cons h]; rfl
theorem kept_nil {use br days d w s : Int} {comes : Int → Bool} (h : days ≤ d) : keptF use br comes (upI d days) (w, s) = (w, s) := by
  rw [upI_nil h]; rfl
theorem kD {use br days d w L w' s' : Int} {comes : Int → Bool} (h1 : (if L < use ∧ w < 0 then d else w) = w') (h2 : (if 0 < L - use then L - use else 0) = s') : keptF use br comes (upI (d + 1) days) (w', s') = keptD use br comes days d w L := by subst h1 h2; rfl
def pairV (p : Int × Int) : Value := .tuple #[.int .i64 p.1, .int .i64 p.2]
def useR (t : ShTruth) (kind ration : Int) : Int := (t.uses.getD kind.toNat default * ration + 999).tdiv 1000
def comesT (t : ShTruth) (d : Int) : Bool := comesL d t.gaps 0
def rcomes_v0 (t : ShTruth) (day : Int) (s i : Int) : List Value := [Value.int IntKind.i64 day, pA 2 0, .int .i64 s, .int .i64 i]
def rcomes_o0 (t : ShTruth) (day : Int) (s i : Int) : List Obj := [Obj.cells #[topV 1 (slT (List.length (ShTruth.uses t)) (rowL encI (ShTruth.uses t))), topV 1 (slT (List.length (ShTruth.gaps t)) (rowL encI (ShTruth.gaps t))), topV 1 (slT (List.length (ShTruth.goods t)) (rowL encRow (ShTruth.goods t)))] 65]
noncomputable def rcomes_t0 : List Item := ([.code [1, 1, 0, 1, 0, 0], .inLoop [1, 1, 0, 1, 0, 0], .inBlock 0, .code [1, 1, 1]]).map (it (bodyOf Tryz.prog 88))
def rcomes_h0 (B : Lo) (c0 : CF) (t : ShTruth) (day : Int) (s i : Int) : Prop := ∃ dJ : Nat → Value, (∀ t, Loose (dJ t)) ∧ GoE Tryz.prog B c0 H00 1 (headC 88 24 (([1, 2, 5, 6] : List Nat).zip (rcomes_v0 t day s i)) dJ rcomes_t0) (headH (rcomes_o0 t day s i)) (2 + (rcomes_o0 t day s i).length) []
noncomputable def rcomes_p0 (B : Lo) (t : ShTruth) (day : Int) (s i : Int) (dJ0 : Nat → Value) : List Prop := [wq (s + List.getD (ShTruth.gaps t) (Int.toNat i) default) = s + List.getD (ShTruth.gaps t) (Int.toNat i) default, i = (↑(Int.toNat i) : Int) ∧ Int.toNat i < List.length (ShTruth.gaps t) ∧ Array.extract (rowL encI (ShTruth.gaps t)) (Int.toNat i * TypeInfo.size Tryz.t3) (Int.toNat i * TypeInfo.size Tryz.t3 + TypeInfo.size Tryz.t3) = #[Value.int IntKind.i64 (List.getD (ShTruth.gaps t) (Int.toNat i) default)], ltq i (↑(List.length (ShTruth.gaps t)) : Int) = true] ++ ([] : List Prop)
noncomputable def rcomes_q0 (t : ShTruth) (day : Int) (s i : Int) (dJ0 : Nat → Value) : ScriptT := [(4, hvT), (9, HintT.tidx (Int.toNat i) #[Value.int IntKind.i64 (List.getD (ShTruth.gaps t) (Int.toNat i) default)]), (11, hvI (s + List.getD (ShTruth.gaps t) (Int.toNat i) default))]
theorem rcomes_s0 (B : Lo) (t : ShTruth) (day : Int) (s i : Int) (dJ0 : Nat → Value) : endT (srunT Tryz.prog (okFn Tryz.prog) J0 B 16 1 (headC 88 24 (([1, 2, 5, 6] : List Nat).zip (rcomes_v0 t day s i)) dJ0 rcomes_t0) (headH (rcomes_o0 t day s i)) (2 + (rcomes_o0 t day s i).length)
    (rcomes_q0 t day s i dJ0 ++ [(15, hvT)]) 0 [] []) [] = some (Value.bool true,
    [eqq (s + List.getD (ShTruth.gaps t) (Int.toNat i) default) day = true] ++ rcomes_p0 B t day s i dJ0) := by kernel_rfl
theorem rcomes_s1 (B : Lo) (t : ShTruth) (day : Int) (s i : Int) (dJ0 : Nat → Value) : landM (srunT Tryz.prog (okFn Tryz.prog) J0 B 16 1 (headC 88 24 (([1, 2, 5, 6] : List Nat).zip (rcomes_v0 t day s i)) dJ0 rcomes_t0) (headH (rcomes_o0 t day s i)) (2 + (rcomes_o0 t day s i).length)
    (rcomes_q0 t day s i dJ0 ++ [(15, hvF), (17, hvI (i + 1))]) 0 [] []) [1, 2, 5, 6] [(2, KS.auto)] [] = some ⟨88, 24, rcomes_t0, [], .run, none, rcomes_v0 t day (s + List.getD (ShTruth.gaps t) (Int.toNat i) default) (i + 1), rcomes_o0 t day (s + List.getD (ShTruth.gaps t) (Int.toNat i) default) (i + 1),
    [wq (i + 1) = i + 1, eqq (s + List.getD (ShTruth.gaps t) (Int.toNat i) default) day = false] ++ rcomes_p0 B t day s i dJ0⟩ := by kernel_rfl
theorem rcomes_s2 (B : Lo) (t : ShTruth) (day : Int) (s i : Int) (dJ0 : Nat → Value) : endT (srunT Tryz.prog (okFn Tryz.prog) J0 B 9 1 (headC 88 24 (([1, 2, 5, 6] : List Nat).zip (rcomes_v0 t day s i)) dJ0 rcomes_t0) (headH (rcomes_o0 t day s i)) (2 + (rcomes_o0 t day s i).length)
    [(4, hvF)] 0 [] []) [] = some (Value.bool false,
    [ltq i (↑(List.length (ShTruth.gaps t)) : Int) = false]) := by kernel_rfl
theorem rcomes_s3 (B : Lo) (t : ShTruth) (day : Int) : landM (srunT Tryz.prog (okFn Tryz.prog) J0 B 9 1 (entryC Tryz.prog 88 24 (([.agg (encTruth t).toArray, .int .i64 day]).map (pushT 0 4))) H00 1
    [] 0 [] []) [1, 2, 5, 6] [(1, KS.auto)] [] = some ⟨88, 24, rcomes_t0, [], .run, none, rcomes_v0 t day (0) (0), rcomes_o0 t day (0) (0),
    []⟩ := by kernel_rfl
set_option maxHeartbeats 4000000 in
theorem rcomes_ls (t : ShTruth) (day : Int) (hg : ∀ x ∈ t.gaps, 0 ≤ x ∧ x ≤ 60) (hl : t.gaps.length ≤ 300) {B : Lo} (hJ : ∀ w, B.has w → J0 w) {c0 : CF} : ∀ m : Nat, (∀ (s i : Int), t.gaps.length - i.toNat = m → ∀ (h0 : 0 ≤ i) (h1 : 0 ≤ s ∧ s ≤ 60 * i), rcomes_h0 B c0 t day s i → EndsT Tryz.prog B c0 (.bool (comesL day (t.gaps.drop i.toNat) s))) := by
  intro m0
  induction m0 using Nat.strongRecOn with
  | _ m0 ih0 =>
    intro s i hm0 h0 h1 ⟨dJ0, hdJ0, hg0⟩
    by_cases q0 : (i : Int) < ((↑(List.length (ShTruth.gaps t)) : Int))
    ·
      have hp0 : AllP (rcomes_p0 B t day s i dJ0) := by
        have s2 := comesL_cons (day := day) (s := s) (l := t.gaps) h0 q0
        have g1 := hg _ (getD_mem h0 q0)
        exact ⟨(wq_in (by omega) (by omega)), ⟨⟨by omega, by omega, (rowL_extract (z := 1) (fun _ => rfl) (by omega))⟩, ⟨(ltq_t q0), trivial⟩⟩⟩
      by_cases q1 : (s + List.getD (ShTruth.gaps t) (Int.toNat i) default : Int) = (day)
      ·
        have s2 := comesL_cons (day := day) (s := s) (l := t.gaps) h0 q0
        have g1 := hg _ (getD_mem h0 q0)
        exact (GoE.endsT okF hJ mixed_ok hg0 (rcomes_s0 B t day s i dJ0)
          ⟨(eqq_t q1), hp0⟩).cast (by (rw [s2, decide_eq_true (by assumption)]; rfl))
      ·
        have s2 := comesL_cons (day := day) (s := s) (l := t.gaps) h0 q0
        have g1 := hg _ (getD_mem h0 q0)
        exact ((ih0 _ (by omega)) (s + List.getD (ShTruth.gaps t) (Int.toNat i) default) (i + 1) rfl (by omega) (by omega)
          (hg0.landM okF hJ mixed_ok (rcomes_s1 B t day s i dJ0)
          ⟨(wq_in (by omega) (by omega)), ⟨(eqq_f q1), hp0⟩⟩ (by kernel_rfl) (by kernel_rfl))).cast (by (rw [s2, decide_eq_false (by assumption)]; rfl))
    ·
      have s2 := comesL_nil (day := day) (s := s) (l := t.gaps) (i := i) (by omega)
      exact (GoE.endsT okF hJ mixed_ok hg0 (rcomes_s2 B t day s i dJ0)
        ⟨(ltq_f (Int.not_lt.1 q0)), trivial⟩).cast (by (rw [s2]; done))
set_option maxHeartbeats 4000000 in
theorem rcomes_e (t : ShTruth) (day : Int) (hg : ∀ x ∈ t.gaps, 0 ≤ x ∧ x ≤ 60) (hl : t.gaps.length ≤ 300) {B : Lo} (hJ : ∀ w, B.has w → J0 w) : EndsT Tryz.prog B (entryC Tryz.prog 88 24 (([.agg (encTruth t).toArray, .int .i64 day]).map (pushT 0 4))) (.bool (comesT t day)) := by
  exact ((rcomes_ls t day hg hl hJ _) (0) (0) rfl (by omega) (by omega)
    (GoE.start.landM okF hJ mixed_ok (rcomes_s3 B t day)
    trivial (by kernel_rfl) (by kernel_rfl))).cast (by rfl)
theorem rcomes (t : ShTruth) (day : Int) (hg : ∀ x ∈ t.gaps, 0 ≤ x ∧ x ≤ 60) (hl : t.gaps.length ≤ 300) : PureC Tryz.prog J0 88 #[.agg (encTruth t).toArray, .int .i64 day] (.bool (comesT t day)) :=
  pureC_of (ts := [.agg (encTruth t).toArray, .int .i64 day]) J0_st (c0 := entryC Tryz.prog 88 24 (([.agg (encTruth t).toArray, .int .i64 day]).map (pushT 0 4))) (by kernel_rfl) (by kernel_rfl) fun B hJ => rcomes_e t day hg hl hJ
def rKept_v0 (s : ShStore) (load : List Int) (days : Int) (t : ShTruth) (kind ration : Int) (d stock w : Int) : List Value := [topV 1 (slT (List.length load) (rowL encI load)), Value.int IntKind.i64 days, Value.int IntKind.i64 kind, pA 2 0, .int .i64 stock, .int .i64 w, Value.int IntKind.i64 (Int.tdiv (List.getD (ShTruth.uses t) (Int.toNat kind) default * ration + 999) 1000), .int .i64 d]
def rKept_o0 (s : ShStore) (load : List Int) (days : Int) (t : ShTruth) (kind ration : Int) (d stock w : Int) : List Obj := [Obj.cells #[topV 1 (slT (List.length (ShTruth.uses t)) (rowL encI (ShTruth.uses t))), topV 1 (slT (List.length (ShTruth.gaps t)) (rowL encI (ShTruth.gaps t))), topV 1 (slT (List.length (ShTruth.goods t)) (rowL encRow (ShTruth.goods t)))] 65]
noncomputable def rKept_t0 : List Item := ([.code [1, 1, 1, 0, 1, 0, 0], .inLoop [1, 1, 1, 0, 1, 0, 0], .inBlock 0, .code [1, 1, 1, 1]]).map (it (bodyOf Tryz.prog 41))
def rKept_h0 (B : Lo) (c0 : CF) (s : ShStore) (load : List Int) (days : Int) (t : ShTruth) (kind ration : Int) (d stock w : Int) : Prop := ∃ dJ : Nat → Value, (∀ t, Loose (dJ t)) ∧ GoE Tryz.prog B c0 H00 1 (headC 41 74 (([1, 2, 4, 9, 14, 15, 16, 17] : List Nat).zip (rKept_v0 s load days t kind ration d stock w)) dJ rKept_t0) (headH (rKept_o0 s load days t kind ration d stock w)) (2 + (rKept_o0 s load days t kind ration d stock w).length) []
def rKept_v1 (s : ShStore) (load : List Int) (days : Int) (t : ShTruth) (kind ration : Int) (d i stock w : Int) : List Value := [topV 1 (slT (List.length load) (rowL encI load)), Value.int IntKind.i64 days, Value.int IntKind.i64 kind, pA 2 0, .int .i64 stock, .int .i64 w, Value.int IntKind.i64 (Int.tdiv (List.getD (ShTruth.uses t) (Int.toNat kind) default * ration + 999) 1000), .int .i64 d, .int .i64 i]
def rKept_o1 (s : ShStore) (load : List Int) (days : Int) (t : ShTruth) (kind ration : Int) (d i stock w : Int) : List Obj := [Obj.cells #[topV 1 (slT (List.length (ShTruth.uses t)) (rowL encI (ShTruth.uses t))), topV 1 (slT (List.length (ShTruth.gaps t)) (rowL encI (ShTruth.gaps t))), topV 1 (slT (List.length (ShTruth.goods t)) (rowL encRow (ShTruth.goods t)))] 65]
noncomputable def rKept_t1 : List Item := ([.code [1, 1, 1, 0, 1, 0, 0, 1, 0, 0, 0, 1, 0, 1, 0, 0], .inLoop [1, 1, 1, 0, 1, 0, 0, 1, 0, 0, 0, 1, 0, 1, 0, 0], .inBlock 2, .code [1, 1, 1, 0, 1, 0, 0, 1, 0, 0, 1], .inBlock 1, .code [1, 1, 1, 0, 1, 0, 0, 1, 1], .inLoop [1, 1, 1, 0, 1, 0, 0], .inBlock 0, .code [1, 1, 1, 1]]).map (it (bodyOf Tryz.prog 41))
def rKept_h1 (B : Lo) (c0 : CF) (s : ShStore) (load : List Int) (days : Int) (t : ShTruth) (kind ration : Int) (d i stock w : Int) : Prop := ∃ dJ : Nat → Value, (∀ t, Loose (dJ t)) ∧ GoE Tryz.prog B c0 H00 1 (headC 41 74 (([1, 2, 4, 9, 14, 15, 16, 17, 18] : List Nat).zip (rKept_v1 s load days t kind ration d i stock w)) dJ rKept_t1) (headH (rKept_o1 s load days t kind ration d i stock w)) (2 + (rKept_o1 s load days t kind ration d i stock w).length) []
noncomputable def rKept_p0 (B : Lo) (s : ShStore) (load : List Int) (days : Int) (t : ShTruth) (kind ration : Int) (d stock w : Int) (dJ0 : Nat → Value) : List Prop := [ltq d days = true] ++ ([] : List Prop)
noncomputable def rKept_q0 (s : ShStore) (load : List Int) (days : Int) (t : ShTruth) (kind ration : Int) (d stock w : Int) (dJ0 : Nat → Value) : ScriptT := [(2, hvT)]
theorem rKept_s0 (B : Lo) (s : ShStore) (load : List Int) (days : Int) (t : ShTruth) (kind ration : Int) (d stock w : Int) (dJ0 : Nat → Value) : landM (srunT Tryz.prog (okFn Tryz.prog) J0 B 15 1 (headC 41 74 (([1, 2, 4, 9, 14, 15, 16, 17] : List Nat).zip (rKept_v0 s load days t kind ration d stock w)) dJ0 rKept_t0) (headH (rKept_o0 s load days t kind ration d stock w)) (2 + (rKept_o0 s load days t kind ration d stock w).length)
    (rKept_q0 s load days t kind ration d stock w dJ0 ++ [(5, HintT.pure (Value.bool true) [])]) 0 [] []) [1, 2, 4, 9, 14, 15, 16, 17, 18] [(2, KS.auto)] [] = some ⟨41, 74, rKept_t1, [], .run, none, rKept_v1 s load days t kind ration (d) (0) (stock) (w), rKept_o1 s load days t kind ration (d) (0) (stock) (w),
    [AllP [] ∧ PureC Tryz.prog J0 88 #[Value.agg #[slT (List.length (ShTruth.uses t)) (rowL encI (ShTruth.uses t)), slT (List.length (ShTruth.gaps t)) (rowL encI (ShTruth.gaps t)), slT (List.length (ShTruth.goods t)) (rowL encRow (ShTruth.goods t))], Value.int IntKind.i64 d] (Value.bool true)] ++ rKept_p0 B s load days t kind ration d stock w dJ0⟩ := by kernel_rfl
noncomputable def rKept_p1 (B : Lo) (s : ShStore) (load : List Int) (days : Int) (t : ShTruth) (kind ration : Int) (d stock w : Int) (dJ0 : Nat → Value) : List Prop := [AllP [] ∧ PureC Tryz.prog J0 88 #[Value.agg #[slT (List.length (ShTruth.uses t)) (rowL encI (ShTruth.uses t)), slT (List.length (ShTruth.gaps t)) (rowL encI (ShTruth.gaps t)), slT (List.length (ShTruth.goods t)) (rowL encRow (ShTruth.goods t))], Value.int IntKind.i64 d] (Value.bool false)] ++ rKept_p0 B s load days t kind ration d stock w dJ0
noncomputable def rKept_q1 (s : ShStore) (load : List Int) (days : Int) (t : ShTruth) (kind ration : Int) (d stock w : Int) (dJ0 : Nat → Value) : ScriptT := rKept_q0 s load days t kind ration d stock w dJ0 ++ [(5, HintT.pure (Value.bool false) [])]
noncomputable def rKept_p2 (B : Lo) (s : ShStore) (load : List Int) (days : Int) (t : ShTruth) (kind ration : Int) (d stock w : Int) (dJ0 : Nat → Value) : List Prop := [ltq stock (Int.tdiv (List.getD (ShTruth.uses t) (Int.toNat kind) default * ration + 999) 1000) = true] ++ rKept_p1 B s load days t kind ration d stock w dJ0
noncomputable def rKept_q2 (s : ShStore) (load : List Int) (days : Int) (t : ShTruth) (kind ration : Int) (d stock w : Int) (dJ0 : Nat → Value) : ScriptT := rKept_q1 s load days t kind ration d stock w dJ0 ++ [(8, hvT)]
theorem rKept_s1 (B : Lo) (s : ShStore) (load : List Int) (days : Int) (t : ShTruth) (kind ration : Int) (d stock w : Int) (dJ0 : Nat → Value) : landM (srunT Tryz.prog (okFn Tryz.prog) J0 B 21 1 (headC 41 74 (([1, 2, 4, 9, 14, 15, 16, 17] : List Nat).zip (rKept_v0 s load days t kind ration d stock w)) dJ0 rKept_t0) (headH (rKept_o0 s load days t kind ration d stock w)) (2 + (rKept_o0 s load days t kind ration d stock w).length)
    (rKept_q2 s load days t kind ration d stock w dJ0 ++ [(11, hvT), (17, hvI (stock - Int.tdiv (List.getD (ShTruth.uses t) (Int.toNat kind) default * ration + 999) 1000)), (21, hvI (d + 1))]) 0 [] []) [1, 2, 4, 9, 14, 15, 16, 17] [(2, KS.auto)] [] = some ⟨41, 74, rKept_t0, [], .run, none, rKept_v0 s load days t kind ration (d + 1) (if stock - Int.tdiv (List.getD (ShTruth.uses t) (Int.toNat kind) default * ration + 999) 1000 > 0 then stock - Int.tdiv (List.getD (ShTruth.uses t) (Int.toNat kind) default * ration + 999) 1000 else 0) (d), rKept_o0 s load days t kind ration (d + 1) (if stock - Int.tdiv (List.getD (ShTruth.uses t) (Int.toNat kind) default * ration + 999) 1000 > 0 then stock - Int.tdiv (List.getD (ShTruth.uses t) (Int.toNat kind) default * ration + 999) 1000 else 0) (d),
    [wq (d + 1) = d + 1, wq (stock - Int.tdiv (List.getD (ShTruth.uses t) (Int.toNat kind) default * ration + 999) 1000) = stock - Int.tdiv (List.getD (ShTruth.uses t) (Int.toNat kind) default * ration + 999) 1000, ltq w 0 = true] ++ rKept_p2 B s load days t kind ration d stock w dJ0⟩ := by kernel_rfl
theorem rKept_s2 (B : Lo) (s : ShStore) (load : List Int) (days : Int) (t : ShTruth) (kind ration : Int) (d stock w : Int) (dJ0 : Nat → Value) : landM (srunT Tryz.prog (okFn Tryz.prog) J0 B 21 1 (headC 41 74 (([1, 2, 4, 9, 14, 15, 16, 17] : List Nat).zip (rKept_v0 s load days t kind ration d stock w)) dJ0 rKept_t0) (headH (rKept_o0 s load days t kind ration d stock w)) (2 + (rKept_o0 s load days t kind ration d stock w).length)
    (rKept_q2 s load days t kind ration d stock w dJ0 ++ [(11, hvF), (15, hvI (stock - Int.tdiv (List.getD (ShTruth.uses t) (Int.toNat kind) default * ration + 999) 1000)), (19, hvI (d + 1))]) 0 [] []) [1, 2, 4, 9, 14, 15, 16, 17] [(2, KS.auto)] [] = some ⟨41, 74, rKept_t0, [], .run, none, rKept_v0 s load days t kind ration (d + 1) (if stock - Int.tdiv (List.getD (ShTruth.uses t) (Int.toNat kind) default * ration + 999) 1000 > 0 then stock - Int.tdiv (List.getD (ShTruth.uses t) (Int.toNat kind) default * ration + 999) 1000 else 0) (w), rKept_o0 s load days t kind ration (d + 1) (if stock - Int.tdiv (List.getD (ShTruth.uses t) (Int.toNat kind) default * ration + 999) 1000 > 0 then stock - Int.tdiv (List.getD (ShTruth.uses t) (Int.toNat kind) default * ration + 999) 1000 else 0) (w),
    [wq (d + 1) = d + 1, wq (stock - Int.tdiv (List.getD (ShTruth.uses t) (Int.toNat kind) default * ration + 999) 1000) = stock - Int.tdiv (List.getD (ShTruth.uses t) (Int.toNat kind) default * ration + 999) 1000, ltq w 0 = false] ++ rKept_p2 B s load days t kind ration d stock w dJ0⟩ := by kernel_rfl
theorem rKept_s3 (B : Lo) (s : ShStore) (load : List Int) (days : Int) (t : ShTruth) (kind ration : Int) (d stock w : Int) (dJ0 : Nat → Value) : landM (srunT Tryz.prog (okFn Tryz.prog) J0 B 21 1 (headC 41 74 (([1, 2, 4, 9, 14, 15, 16, 17] : List Nat).zip (rKept_v0 s load days t kind ration d stock w)) dJ0 rKept_t0) (headH (rKept_o0 s load days t kind ration d stock w)) (2 + (rKept_o0 s load days t kind ration d stock w).length)
    (rKept_q1 s load days t kind ration d stock w dJ0 ++ [(8, hvF), (15, hvI (stock - Int.tdiv (List.getD (ShTruth.uses t) (Int.toNat kind) default * ration + 999) 1000)), (19, hvI (d + 1))]) 0 [] []) [1, 2, 4, 9, 14, 15, 16, 17] [(2, KS.auto)] [] = some ⟨41, 74, rKept_t0, [], .run, none, rKept_v0 s load days t kind ration (d + 1) (if stock - Int.tdiv (List.getD (ShTruth.uses t) (Int.toNat kind) default * ration + 999) 1000 > 0 then stock - Int.tdiv (List.getD (ShTruth.uses t) (Int.toNat kind) default * ration + 999) 1000 else 0) (w), rKept_o0 s load days t kind ration (d + 1) (if stock - Int.tdiv (List.getD (ShTruth.uses t) (Int.toNat kind) default * ration + 999) 1000 > 0 then stock - Int.tdiv (List.getD (ShTruth.uses t) (Int.toNat kind) default * ration + 999) 1000 else 0) (w),
    [wq (d + 1) = d + 1, wq (stock - Int.tdiv (List.getD (ShTruth.uses t) (Int.toNat kind) default * ration + 999) 1000) = stock - Int.tdiv (List.getD (ShTruth.uses t) (Int.toNat kind) default * ration + 999) 1000, ltq stock (Int.tdiv (List.getD (ShTruth.uses t) (Int.toNat kind) default * ration + 999) 1000) = false] ++ rKept_p1 B s load days t kind ration d stock w dJ0⟩ := by kernel_rfl
theorem rKept_s4 (B : Lo) (s : ShStore) (load : List Int) (days : Int) (t : ShTruth) (kind ration : Int) (d stock w : Int) (dJ0 : Nat → Value) : endT (srunT Tryz.prog (okFn Tryz.prog) J0 B 9 1 (headC 41 74 (([1, 2, 4, 9, 14, 15, 16, 17] : List Nat).zip (rKept_v0 s load days t kind ration d stock w)) dJ0 rKept_t0) (headH (rKept_o0 s load days t kind ration d stock w)) (2 + (rKept_o0 s load days t kind ration d stock w).length)
    [(2, hvF)] 0 [] []) [] = some (Value.tuple #[Value.int IntKind.i64 w, Value.int IntKind.i64 stock],
    [ltq d days = false]) := by kernel_rfl
theorem rKept_s5 (B : Lo) (s : ShStore) (load : List Int) (days : Int) (t : ShTruth) (kind ration : Int) (d i stock w : Int) (dJ0 : Nat → Value) : landM (srunT Tryz.prog (okFn Tryz.prog) J0 B 11 1 (headC 41 74 (([1, 2, 4, 9, 14, 15, 16, 17, 18] : List Nat).zip (rKept_v1 s load days t kind ration d i stock w)) dJ0 rKept_t1) (headH (rKept_o1 s load days t kind ration d i stock w)) (2 + (rKept_o1 s load days t kind ration d i stock w).length)
    [(3, hvT), (9, HintT.tidx (Int.toNat i) #[Value.int IntKind.i64 (List.getD load (Int.toNat i) default)]), (11, HintT.tidx (Int.toNat (List.getD load (Int.toNat i) default)) #[slT (List.length (List.getD (ShTruth.goods t) (Int.toNat (List.getD load (Int.toNat i) default)) default)) (rowL encI (List.getD (ShTruth.goods t) (Int.toNat (List.getD load (Int.toNat i) default)) default))]), (14, HintT.tidx (Int.toNat kind) #[Value.int IntKind.i64 (List.getD (List.getD (ShTruth.goods t) (Int.toNat (List.getD load (Int.toNat i) default)) default) (Int.toNat kind) default)]), (16, hvI (stock + List.getD (List.getD (ShTruth.goods t) (Int.toNat (List.getD load (Int.toNat i) default)) default) (Int.toNat kind) default)), (19, hvI (i + 1))] 0 [] []) [1, 2, 4, 9, 14, 15, 16, 17, 18] [(2, KS.auto)] [] = some ⟨41, 74, rKept_t1, [], .run, none, rKept_v1 s load days t kind ration (d) (i + 1) (stock + List.getD (List.getD (ShTruth.goods t) (Int.toNat (List.getD load (Int.toNat i) default)) default) (Int.toNat kind) default) (w), rKept_o1 s load days t kind ration (d) (i + 1) (stock + List.getD (List.getD (ShTruth.goods t) (Int.toNat (List.getD load (Int.toNat i) default)) default) (Int.toNat kind) default) (w),
    [wq (i + 1) = i + 1, wq (stock + List.getD (List.getD (ShTruth.goods t) (Int.toNat (List.getD load (Int.toNat i) default)) default) (Int.toNat kind) default) = stock + List.getD (List.getD (ShTruth.goods t) (Int.toNat (List.getD load (Int.toNat i) default)) default) (Int.toNat kind) default, kind = (↑(Int.toNat kind) : Int) ∧ Int.toNat kind < List.length (List.getD (ShTruth.goods t) (Int.toNat (List.getD load (Int.toNat i) default)) default) ∧ Array.extract (rowL encI (List.getD (ShTruth.goods t) (Int.toNat (List.getD load (Int.toNat i) default)) default)) (Int.toNat kind * TypeInfo.size Tryz.t3) (Int.toNat kind * TypeInfo.size Tryz.t3 + TypeInfo.size Tryz.t3) = #[Value.int IntKind.i64 (List.getD (List.getD (ShTruth.goods t) (Int.toNat (List.getD load (Int.toNat i) default)) default) (Int.toNat kind) default)], List.getD load (Int.toNat i) default = (↑(Int.toNat (List.getD load (Int.toNat i) default)) : Int) ∧ Int.toNat (List.getD load (Int.toNat i) default) < List.length (ShTruth.goods t) ∧ Array.extract (rowL encRow (ShTruth.goods t)) (Int.toNat (List.getD load (Int.toNat i) default) * TypeInfo.size Tryz.t22) (Int.toNat (List.getD load (Int.toNat i) default) * TypeInfo.size Tryz.t22 + TypeInfo.size Tryz.t22) = #[slT (List.length (List.getD (ShTruth.goods t) (Int.toNat (List.getD load (Int.toNat i) default)) default)) (rowL encI (List.getD (ShTruth.goods t) (Int.toNat (List.getD load (Int.toNat i) default)) default))], i = (↑(Int.toNat i) : Int) ∧ Int.toNat i < List.length load ∧ Array.extract (rowL encI load) (Int.toNat i * TypeInfo.size Tryz.t3) (Int.toNat i * TypeInfo.size Tryz.t3 + TypeInfo.size Tryz.t3) = #[Value.int IntKind.i64 (List.getD load (Int.toNat i) default)], ltq i (↑(List.length load) : Int) = true]⟩ := by kernel_rfl
noncomputable def rKept_p3 (B : Lo) (s : ShStore) (load : List Int) (days : Int) (t : ShTruth) (kind ration : Int) (d i stock w : Int) (dJ0 : Nat → Value) : List Prop := [ltq i (↑(List.length load) : Int) = false] ++ ([] : List Prop)
noncomputable def rKept_q3 (s : ShStore) (load : List Int) (days : Int) (t : ShTruth) (kind ration : Int) (d i stock w : Int) (dJ0 : Nat → Value) : ScriptT := [(3, hvF)]
noncomputable def rKept_p4 (B : Lo) (s : ShStore) (load : List Int) (days : Int) (t : ShTruth) (kind ration : Int) (d i stock w : Int) (dJ0 : Nat → Value) : List Prop := [ltq stock (Int.tdiv (List.getD (ShTruth.uses t) (Int.toNat kind) default * ration + 999) 1000) = true] ++ rKept_p3 B s load days t kind ration d i stock w dJ0
noncomputable def rKept_q4 (s : ShStore) (load : List Int) (days : Int) (t : ShTruth) (kind ration : Int) (d i stock w : Int) (dJ0 : Nat → Value) : ScriptT := rKept_q3 s load days t kind ration d i stock w dJ0 ++ [(6, hvT)]
theorem rKept_s6 (B : Lo) (s : ShStore) (load : List Int) (days : Int) (t : ShTruth) (kind ration : Int) (d i stock w : Int) (dJ0 : Nat → Value) : landM (srunT Tryz.prog (okFn Tryz.prog) J0 B 14 1 (headC 41 74 (([1, 2, 4, 9, 14, 15, 16, 17, 18] : List Nat).zip (rKept_v1 s load days t kind ration d i stock w)) dJ0 rKept_t1) (headH (rKept_o1 s load days t kind ration d i stock w)) (2 + (rKept_o1 s load days t kind ration d i stock w).length)
    (rKept_q4 s load days t kind ration d i stock w dJ0 ++ [(9, hvT), (15, hvI (stock - Int.tdiv (List.getD (ShTruth.uses t) (Int.toNat kind) default * ration + 999) 1000)), (19, hvI (d + 1))]) 0 [] []) [1, 2, 4, 9, 14, 15, 16, 17] [(2, KS.auto)] [] = some ⟨41, 74, rKept_t0, [], .run, none, rKept_v0 s load days t kind ration (d + 1) (if stock - Int.tdiv (List.getD (ShTruth.uses t) (Int.toNat kind) default * ration + 999) 1000 > 0 then stock - Int.tdiv (List.getD (ShTruth.uses t) (Int.toNat kind) default * ration + 999) 1000 else 0) (d), rKept_o0 s load days t kind ration (d + 1) (if stock - Int.tdiv (List.getD (ShTruth.uses t) (Int.toNat kind) default * ration + 999) 1000 > 0 then stock - Int.tdiv (List.getD (ShTruth.uses t) (Int.toNat kind) default * ration + 999) 1000 else 0) (d),
    [wq (d + 1) = d + 1, wq (stock - Int.tdiv (List.getD (ShTruth.uses t) (Int.toNat kind) default * ration + 999) 1000) = stock - Int.tdiv (List.getD (ShTruth.uses t) (Int.toNat kind) default * ration + 999) 1000, ltq w 0 = true] ++ rKept_p4 B s load days t kind ration d i stock w dJ0⟩ := by kernel_rfl
theorem rKept_s7 (B : Lo) (s : ShStore) (load : List Int) (days : Int) (t : ShTruth) (kind ration : Int) (d i stock w : Int) (dJ0 : Nat → Value) : landM (srunT Tryz.prog (okFn Tryz.prog) J0 B 14 1 (headC 41 74 (([1, 2, 4, 9, 14, 15, 16, 17, 18] : List Nat).zip (rKept_v1 s load days t kind ration d i stock w)) dJ0 rKept_t1) (headH (rKept_o1 s load days t kind ration d i stock w)) (2 + (rKept_o1 s load days t kind ration d i stock w).length)
    (rKept_q4 s load days t kind ration d i stock w dJ0 ++ [(9, hvF), (13, hvI (stock - Int.tdiv (List.getD (ShTruth.uses t) (Int.toNat kind) default * ration + 999) 1000)), (17, hvI (d + 1))]) 0 [] []) [1, 2, 4, 9, 14, 15, 16, 17] [(2, KS.auto)] [] = some ⟨41, 74, rKept_t0, [], .run, none, rKept_v0 s load days t kind ration (d + 1) (if stock - Int.tdiv (List.getD (ShTruth.uses t) (Int.toNat kind) default * ration + 999) 1000 > 0 then stock - Int.tdiv (List.getD (ShTruth.uses t) (Int.toNat kind) default * ration + 999) 1000 else 0) (w), rKept_o0 s load days t kind ration (d + 1) (if stock - Int.tdiv (List.getD (ShTruth.uses t) (Int.toNat kind) default * ration + 999) 1000 > 0 then stock - Int.tdiv (List.getD (ShTruth.uses t) (Int.toNat kind) default * ration + 999) 1000 else 0) (w),
    [wq (d + 1) = d + 1, wq (stock - Int.tdiv (List.getD (ShTruth.uses t) (Int.toNat kind) default * ration + 999) 1000) = stock - Int.tdiv (List.getD (ShTruth.uses t) (Int.toNat kind) default * ration + 999) 1000, ltq w 0 = false] ++ rKept_p4 B s load days t kind ration d i stock w dJ0⟩ := by kernel_rfl
theorem rKept_s8 (B : Lo) (s : ShStore) (load : List Int) (days : Int) (t : ShTruth) (kind ration : Int) (d i stock w : Int) (dJ0 : Nat → Value) : landM (srunT Tryz.prog (okFn Tryz.prog) J0 B 14 1 (headC 41 74 (([1, 2, 4, 9, 14, 15, 16, 17, 18] : List Nat).zip (rKept_v1 s load days t kind ration d i stock w)) dJ0 rKept_t1) (headH (rKept_o1 s load days t kind ration d i stock w)) (2 + (rKept_o1 s load days t kind ration d i stock w).length)
    (rKept_q3 s load days t kind ration d i stock w dJ0 ++ [(6, hvF), (13, hvI (stock - Int.tdiv (List.getD (ShTruth.uses t) (Int.toNat kind) default * ration + 999) 1000)), (17, hvI (d + 1))]) 0 [] []) [1, 2, 4, 9, 14, 15, 16, 17] [(2, KS.auto)] [] = some ⟨41, 74, rKept_t0, [], .run, none, rKept_v0 s load days t kind ration (d + 1) (if stock - Int.tdiv (List.getD (ShTruth.uses t) (Int.toNat kind) default * ration + 999) 1000 > 0 then stock - Int.tdiv (List.getD (ShTruth.uses t) (Int.toNat kind) default * ration + 999) 1000 else 0) (w), rKept_o0 s load days t kind ration (d + 1) (if stock - Int.tdiv (List.getD (ShTruth.uses t) (Int.toNat kind) default * ration + 999) 1000 > 0 then stock - Int.tdiv (List.getD (ShTruth.uses t) (Int.toNat kind) default * ration + 999) 1000 else 0) (w),
    [wq (d + 1) = d + 1, wq (stock - Int.tdiv (List.getD (ShTruth.uses t) (Int.toNat kind) default * ration + 999) 1000) = stock - Int.tdiv (List.getD (ShTruth.uses t) (Int.toNat kind) default * ration + 999) 1000, ltq stock (Int.tdiv (List.getD (ShTruth.uses t) (Int.toNat kind) default * ration + 999) 1000) = false] ++ rKept_p3 B s load days t kind ration d i stock w dJ0⟩ := by kernel_rfl
theorem rKept_s9 (B : Lo) (s : ShStore) (load : List Int) (days : Int) (t : ShTruth) (kind ration : Int) : landM (srunT Tryz.prog (okFn Tryz.prog) J0 B 11 1 (entryC Tryz.prog 41 74 (([.agg (encStore s).toArray, slI load, .int .i64 days, .agg (encTruth t).toArray, .int .i64 kind, .int .i64 ration]).map (pushT 0 4))) H00 1
    [(7, HintT.tidx (Int.toNat kind) #[Value.int IntKind.i64 (List.getD (ShStore.stock s) (Int.toNat kind) default)]), (14, HintT.tidx (Int.toNat kind) #[Value.int IntKind.i64 (List.getD (ShTruth.uses t) (Int.toNat kind) default)]), (17, hvI (List.getD (ShTruth.uses t) (Int.toNat kind) default * ration)), (18, hvI (List.getD (ShTruth.uses t) (Int.toNat kind) default * ration + 999)), (19, hvI (Int.tdiv (List.getD (ShTruth.uses t) (Int.toNat kind) default * ration + 999) 1000))] 0 [] []) [1, 2, 4, 9, 14, 15, 16, 17] [(2, KS.auto)] [] = some ⟨41, 74, rKept_t0, [], .run, none, rKept_v0 s load days t kind ration (0) (List.getD (ShStore.stock s) (Int.toNat kind) default) (-1), rKept_o0 s load days t kind ration (0) (List.getD (ShStore.stock s) (Int.toNat kind) default) (-1),
    [IntKind.wrap IntKind.i64 (Int.tdiv (List.getD (ShTruth.uses t) (Int.toNat kind) default * ration + 999) 1000) = Int.tdiv (List.getD (ShTruth.uses t) (Int.toNat kind) default * ration + 999) 1000, wq (List.getD (ShTruth.uses t) (Int.toNat kind) default * ration + 999) = List.getD (ShTruth.uses t) (Int.toNat kind) default * ration + 999, wq (List.getD (ShTruth.uses t) (Int.toNat kind) default * ration) = List.getD (ShTruth.uses t) (Int.toNat kind) default * ration, kind = (↑(Int.toNat kind) : Int) ∧ Int.toNat kind < List.length (ShTruth.uses t) ∧ Array.extract (rowL encI (ShTruth.uses t)) (Int.toNat kind * TypeInfo.size Tryz.t3) (Int.toNat kind * TypeInfo.size Tryz.t3 + TypeInfo.size Tryz.t3) = #[Value.int IntKind.i64 (List.getD (ShTruth.uses t) (Int.toNat kind) default)], kind = (↑(Int.toNat kind) : Int) ∧ Int.toNat kind < List.length (ShStore.stock s) ∧ Array.extract (rowL encI (ShStore.stock s)) (Int.toNat kind * TypeInfo.size Tryz.t3) (Int.toNat kind * TypeInfo.size Tryz.t3 + TypeInfo.size Tryz.t3) = #[Value.int IntKind.i64 (List.getD (ShStore.stock s) (Int.toNat kind) default)]]⟩ := by kernel_rfl
set_option maxHeartbeats 4000000 in
theorem rKept_ls (s : ShStore) (load : List Int) (days : Int) (t : ShTruth) (kind ration : Int) (hs : storeB s = true) (hl : load.length ≤ 10) (hx : ∀ x ∈ load, 0 ≤ x ∧ x < s.lots.length) (ht : truthB s days t = true) (hd : 0 ≤ days ∧ days ≤ 300) (hk : 0 ≤ kind ∧ kind < s.stock.length) (hr : 0 ≤ ration ∧ ration ≤ 1001) {B : Lo} (hJ : ∀ w, B.has w → J0 w) {c0 : CF} : ∀ m : Nat, (∀ (d stock w : Int), (days - d).toNat * 20 = m → ∀ (d0 : 0 ≤ d) (s0 : 0 ≤ stock ∧ stock ≤ 100000 + 1000000 * d) (w0 : -1 ≤ w ∧ w ≤ 300), rKept_h0 B c0 s load days t kind ration d stock w → EndsT Tryz.prog B c0 (pairV (keptF (useR t kind ration) (gsum t kind load) (comesT t) (upI d days) (w, stock)))) ∧ (∀ (d i stock w : Int), (days - d).toNat * 20 - 15 + (load.length - i.toNat) = m → ∀ (d0 : 0 ≤ d) (d1 : d < days) (i0 : 0 ≤ i) (i1 : i ≤ load.length) (s0 : 0 ≤ stock ∧ stock ≤ 100000 + 1000000 * d + 100000 * i) (w0 : -1 ≤ w ∧ w ≤ 300), rKept_h1 B c0 s load days t kind ration d i stock w → EndsT Tryz.prog B c0 (pairV (keptD (useR t kind ration) (gsum t kind load) (comesT t) days d w (stock + gsum t kind (load.drop i.toNat))))) := by
  intro m0
  induction m0 using Nat.strongRecOn with
  | _ m0 ih0 =>
    refine ⟨?_, ?_⟩
    · intro d stock w hm0 d0 s0 w0 ⟨dJ0, hdJ0, hg0⟩
      have ht' := ht; simp only [truthB, gapsB, Bool.and_eq_true, decide_eq_true_iff, List.all_eq_true, inB_iff] at ht'
      have hgp := store_gap hs
      have hst := store_stock hs
      have hrows := truth_rows hs ht'.2.2
      have hus := (inSpans_facts ht'.1)
      have hgg : ∀ x ∈ t.gaps, 0 ≤ x ∧ x ≤ 60 := fun x h => by have := ht'.2.1.2.1 x h; omega
      have hgl : t.gaps.length ≤ 300 := ht'.2.1.1
      have hu1 := hus.2 kind hk.1 (by omega)
      have hu2 := hst.2.2.2 _ (getD_mem (l := s.use) hk.1 (by omega))
      have hs1 := hst.2.1 _ (getD_mem (l := s.stock) hk.1 hk.2)
      have hu3 : 0 ≤ t.uses.getD kind.toNat default * ration := Int.mul_nonneg (by omega) (by omega)
      have hu4 : t.uses.getD kind.toNat default * ration ≤ 1000 * 1001 := Int.mul_le_mul (by omega) (by omega) (by omega) (by omega)
      have hu5 : (t.uses.getD kind.toNat default * ration + 999).tdiv 1000 = (t.uses.getD kind.toNat default * ration + 999) / 1000 := Int.tdiv_eq_ediv_of_nonneg (by omega)
      have hU : useR t kind ration = (t.uses.getD kind.toNat default * ration + 999).tdiv 1000 := rfl
      by_cases q0 : (d : Int) < (days)
      ·
        have hp0 : AllP (rKept_p0 B s load days t kind ration d stock w dJ0) := by
          exact ⟨(ltq_t q0), trivial⟩
        cases q1 : comesT t d with
        | true =>
          have s2 := kept_cons (use := useR t kind ration) (br := gsum t kind load) (comes := comesT t) (days := days) (d := d) (w := w) (s := stock) (by omega)
          have hc : (if comesT t d = true then gsum t kind load else 0) = gsum t kind load := if_pos ‹comesT t d = true›
          exact ((ih0 _ (by omega)).2 (d) (0) (stock) (w) rfl (by with_reducible assumption) (by with_reducible assumption) (by omega) (by omega) (by omega) (by with_reducible assumption)
            (hg0.landM okF hJ mixed_ok (rKept_s0 B s load days t kind ration d stock w dJ0)
            ⟨⟨trivial, (by have t_ := rcomes (t) (d) (by with_reducible assumption) (by with_reducible assumption); rw [q1] at t_; exact t_)⟩, hp0⟩ (by kernel_rfl) (by kernel_rfl))).cast (by (rw [s2, hc]; rfl))
        | false =>
          have hp1 : AllP (rKept_p1 B s load days t kind ration d stock w dJ0) := by
            have s2 := kept_cons (use := useR t kind ration) (br := gsum t kind load) (comes := comesT t) (days := days) (d := d) (w := w) (s := stock) (by omega)
            have hc : (if comesT t d = true then gsum t kind load else 0) = 0 := if_neg (by rw [‹comesT t d = false›]; decide)
            exact ⟨⟨trivial, (by have t_ := rcomes (t) (d) (by with_reducible assumption) (by with_reducible assumption); rw [q1] at t_; exact t_)⟩, hp0⟩
          by_cases q2 : (stock : Int) < (Int.tdiv (List.getD (ShTruth.uses t) (Int.toNat kind) default * ration + 999) 1000)
          ·
            have hp2 : AllP (rKept_p2 B s load days t kind ration d stock w dJ0) := by
              exact ⟨(ltq_t q2), hp1⟩
            by_cases q3 : (w : Int) < (0)
            ·
              have s2 := kept_cons (use := useR t kind ration) (br := gsum t kind load) (comes := comesT t) (days := days) (d := d) (w := w) (s := stock) (by omega)
              have hc : (if comesT t d = true then gsum t kind load else 0) = 0 := if_neg (by rw [‹comesT t d = false›]; decide)
              exact ((ih0 _ (by omega)).1 (d + 1) (if stock - Int.tdiv (List.getD (ShTruth.uses t) (Int.toNat kind) default * ration + 999) 1000 > 0 then stock - Int.tdiv (List.getD (ShTruth.uses t) (Int.toNat kind) default * ration + 999) 1000 else 0) (d) rfl (by omega) (by omega) (by omega)
                (hg0.landM okF hJ mixed_ok (rKept_s1 B s load days t kind ration d stock w dJ0)
                ⟨(wq_in (by omega) (by omega)), ⟨(wq_in (by omega) (by omega)), ⟨(ltq_t q3), hp2⟩⟩⟩ (by kernel_rfl) (by kernel_rfl))).cast (by (rw [s2, hc]; exact congrArg pairV (kD (by split <;> omega) (by split <;> omega))))
            ·
              have s2 := kept_cons (use := useR t kind ration) (br := gsum t kind load) (comes := comesT t) (days := days) (d := d) (w := w) (s := stock) (by omega)
              have hc : (if comesT t d = true then gsum t kind load else 0) = 0 := if_neg (by rw [‹comesT t d = false›]; decide)
              exact ((ih0 _ (by omega)).1 (d + 1) (if stock - Int.tdiv (List.getD (ShTruth.uses t) (Int.toNat kind) default * ration + 999) 1000 > 0 then stock - Int.tdiv (List.getD (ShTruth.uses t) (Int.toNat kind) default * ration + 999) 1000 else 0) (w) rfl (by omega) (by omega) (by with_reducible assumption)
                (hg0.landM okF hJ mixed_ok (rKept_s2 B s load days t kind ration d stock w dJ0)
                ⟨(wq_in (by omega) (by omega)), ⟨(wq_in (by omega) (by omega)), ⟨(ltq_f (Int.not_lt.1 q3)), hp2⟩⟩⟩ (by kernel_rfl) (by kernel_rfl))).cast (by (rw [s2, hc]; exact congrArg pairV (kD (by split <;> omega) (by split <;> omega))))
          ·
            have s2 := kept_cons (use := useR t kind ration) (br := gsum t kind load) (comes := comesT t) (days := days) (d := d) (w := w) (s := stock) (by omega)
            have hc : (if comesT t d = true then gsum t kind load else 0) = 0 := if_neg (by rw [‹comesT t d = false›]; decide)
            exact ((ih0 _ (by omega)).1 (d + 1) (if stock - Int.tdiv (List.getD (ShTruth.uses t) (Int.toNat kind) default * ration + 999) 1000 > 0 then stock - Int.tdiv (List.getD (ShTruth.uses t) (Int.toNat kind) default * ration + 999) 1000 else 0) (w) rfl (by omega) (by omega) (by with_reducible assumption)
              (hg0.landM okF hJ mixed_ok (rKept_s3 B s load days t kind ration d stock w dJ0)
              ⟨(wq_in (by omega) (by omega)), ⟨(wq_in (by omega) (by omega)), ⟨(ltq_f (Int.not_lt.1 q2)), hp1⟩⟩⟩ (by kernel_rfl) (by kernel_rfl))).cast (by (rw [s2, hc]; exact congrArg pairV (kD (by split <;> omega) (by split <;> omega))))
      ·
        have s2 := kept_nil (use := useR t kind ration) (br := gsum t kind load) (comes := comesT t) (days := days) (d := d) (w := w) (s := stock) (by omega)
        exact (GoE.endsT okF hJ mixed_ok hg0 (rKept_s4 B s load days t kind ration d stock w dJ0)
          ⟨(ltq_f (Int.not_lt.1 q0)), trivial⟩).cast (by (rw [s2]; rfl))
    · intro d i stock w hm0 d0 d1 i0 i1 s0 w0 ⟨dJ0, hdJ0, hg0⟩
      have ht' := ht; simp only [truthB, gapsB, Bool.and_eq_true, decide_eq_true_iff, List.all_eq_true, inB_iff] at ht'
      have hgp := store_gap hs
      have hst := store_stock hs
      have hrows := truth_rows hs ht'.2.2
      have hus := (inSpans_facts ht'.1)
      have hgg : ∀ x ∈ t.gaps, 0 ≤ x ∧ x ≤ 60 := fun x h => by have := ht'.2.1.2.1 x h; omega
      have hgl : t.gaps.length ≤ 300 := ht'.2.1.1
      have hu1 := hus.2 kind hk.1 (by omega)
      have hu2 := hst.2.2.2 _ (getD_mem (l := s.use) hk.1 (by omega))
      have hs1 := hst.2.1 _ (getD_mem (l := s.stock) hk.1 hk.2)
      have hu3 : 0 ≤ t.uses.getD kind.toNat default * ration := Int.mul_nonneg (by omega) (by omega)
      have hu4 : t.uses.getD kind.toNat default * ration ≤ 1000 * 1001 := Int.mul_le_mul (by omega) (by omega) (by omega) (by omega)
      have hu5 : (t.uses.getD kind.toNat default * ration + 999).tdiv 1000 = (t.uses.getD kind.toNat default * ration + 999) / 1000 := Int.tdiv_eq_ediv_of_nonneg (by omega)
      have hU : useR t kind ration = (t.uses.getD kind.toNat default * ration + 999).tdiv 1000 := rfl
      by_cases q0 : (i : Int) < ((↑(List.length load) : Int))
      ·
        have s2 := gsum_cons (t := t) (kind := kind) (l := load) i0 q0
        have g1 := hx _ (getD_mem i0 q0)
        have g2 := hrows.2 _ (getD_mem (l := t.goods) (i := load.getD i.toNat default) g1.1 (by omega))
        have g3 := g2.2 _ (getD_mem (l := t.goods.getD (load.getD i.toNat default).toNat default) (i := kind) hk.1 (by omega))
        exact ((ih0 _ (by omega)).2 (d) (i + 1) (stock + List.getD (List.getD (ShTruth.goods t) (Int.toNat (List.getD load (Int.toNat i) default)) default) (Int.toNat kind) default) (w) rfl (by with_reducible assumption) (by with_reducible assumption) (by omega) (by omega) (by omega) (by with_reducible assumption)
          (hg0.landM okF hJ mixed_ok (rKept_s5 B s load days t kind ration d i stock w dJ0)
          ⟨(wq_in (by omega) (by omega)), ⟨(wq_in (by omega) (by omega)), ⟨⟨by first | omega | (split <;> omega), by first | omega | (split <;> omega), (rowL_extract (z := 1) (fun _ => rfl) (by omega))⟩, ⟨⟨by first | omega | (split <;> omega), by first | omega | (split <;> omega), (rowL_extract (z := 1) (fun _ => rfl) (by omega))⟩, ⟨⟨by first | omega | (split <;> omega), by first | omega | (split <;> omega), (rowL_extract (z := 1) (fun _ => rfl) (by omega))⟩, ⟨(ltq_t q0), trivial⟩⟩⟩⟩⟩⟩ (by kernel_rfl) (by kernel_rfl))).cast (by (rw [s2, ← Int.add_assoc]; done))
      ·
        have hp3 : AllP (rKept_p3 B s load days t kind ration d i stock w dJ0) := by
          exact ⟨(ltq_f (Int.not_lt.1 q0)), trivial⟩
        by_cases q1 : (stock : Int) < (Int.tdiv (List.getD (ShTruth.uses t) (Int.toNat kind) default * ration + 999) 1000)
        ·
          have hp4 : AllP (rKept_p4 B s load days t kind ration d i stock w dJ0) := by
            exact ⟨(ltq_t q1), hp3⟩
          by_cases q2 : (w : Int) < (0)
          ·
            have s2 := gsum_nil (t := t) (kind := kind) (l := load) (i := i) (by omega)
            exact ((ih0 _ (by omega)).1 (d + 1) (if stock - Int.tdiv (List.getD (ShTruth.uses t) (Int.toNat kind) default * ration + 999) 1000 > 0 then stock - Int.tdiv (List.getD (ShTruth.uses t) (Int.toNat kind) default * ration + 999) 1000 else 0) (d) rfl (by omega) (by omega) (by omega)
              (hg0.landM okF hJ mixed_ok (rKept_s6 B s load days t kind ration d i stock w dJ0)
              ⟨(wq_in (by omega) (by omega)), ⟨(wq_in (by omega) (by omega)), ⟨(ltq_t q2), hp4⟩⟩⟩ (by kernel_rfl) (by kernel_rfl))).cast (by (rw [s2]; exact congrArg pairV (kD (by split <;> omega) (by split <;> omega))))
          ·
            have s2 := gsum_nil (t := t) (kind := kind) (l := load) (i := i) (by omega)
            exact ((ih0 _ (by omega)).1 (d + 1) (if stock - Int.tdiv (List.getD (ShTruth.uses t) (Int.toNat kind) default * ration + 999) 1000 > 0 then stock - Int.tdiv (List.getD (ShTruth.uses t) (Int.toNat kind) default * ration + 999) 1000 else 0) (w) rfl (by omega) (by omega) (by with_reducible assumption)
              (hg0.landM okF hJ mixed_ok (rKept_s7 B s load days t kind ration d i stock w dJ0)
              ⟨(wq_in (by omega) (by omega)), ⟨(wq_in (by omega) (by omega)), ⟨(ltq_f (Int.not_lt.1 q2)), hp4⟩⟩⟩ (by kernel_rfl) (by kernel_rfl))).cast (by (rw [s2]; exact congrArg pairV (kD (by split <;> omega) (by split <;> omega))))
        ·
          have s2 := gsum_nil (t := t) (kind := kind) (l := load) (i := i) (by omega)
          exact ((ih0 _ (by omega)).1 (d + 1) (if stock - Int.tdiv (List.getD (ShTruth.uses t) (Int.toNat kind) default * ration + 999) 1000 > 0 then stock - Int.tdiv (List.getD (ShTruth.uses t) (Int.toNat kind) default * ration + 999) 1000 else 0) (w) rfl (by omega) (by omega) (by with_reducible assumption)
            (hg0.landM okF hJ mixed_ok (rKept_s8 B s load days t kind ration d i stock w dJ0)
            ⟨(wq_in (by omega) (by omega)), ⟨(wq_in (by omega) (by omega)), ⟨(ltq_f (Int.not_lt.1 q1)), hp3⟩⟩⟩ (by kernel_rfl) (by kernel_rfl))).cast (by (rw [s2]; exact congrArg pairV (kD (by split <;> omega) (by split <;> omega))))
set_option maxHeartbeats 4000000 in
theorem rKept_e (s : ShStore) (load : List Int) (days : Int) (t : ShTruth) (kind ration : Int) (hs : storeB s = true) (hl : load.length ≤ 10) (hx : ∀ x ∈ load, 0 ≤ x ∧ x < s.lots.length) (ht : truthB s days t = true) (hd : 0 ≤ days ∧ days ≤ 300) (hk : 0 ≤ kind ∧ kind < s.stock.length) (hr : 0 ≤ ration ∧ ration ≤ 1001) {B : Lo} (hJ : ∀ w, B.has w → J0 w) : EndsT Tryz.prog B (entryC Tryz.prog 41 74 (([.agg (encStore s).toArray, slI load, .int .i64 days, .agg (encTruth t).toArray, .int .i64 kind, .int .i64 ration]).map (pushT 0 4))) (pairV (keptF (useR t kind ration) (gsum t kind load) (comesT t) (upI 0 days) (-1, s.stock.getD kind.toNat default))) := by
  have ht' := ht; simp only [truthB, gapsB, Bool.and_eq_true, decide_eq_true_iff, List.all_eq_true, inB_iff] at ht'
  have hgp := store_gap hs
  have hst := store_stock hs
  have hrows := truth_rows hs ht'.2.2
  have hus := (inSpans_facts ht'.1)
  have hgg : ∀ x ∈ t.gaps, 0 ≤ x ∧ x ≤ 60 := fun x h => by have := ht'.2.1.2.1 x h; omega
  have hgl : t.gaps.length ≤ 300 := ht'.2.1.1
  have hu1 := hus.2 kind hk.1 (by omega)
  have hu2 := hst.2.2.2 _ (getD_mem (l := s.use) hk.1 (by omega))
  have hs1 := hst.2.1 _ (getD_mem (l := s.stock) hk.1 hk.2)
  have hu3 : 0 ≤ t.uses.getD kind.toNat default * ration := Int.mul_nonneg (by omega) (by omega)
  have hu4 : t.uses.getD kind.toNat default * ration ≤ 1000 * 1001 := Int.mul_le_mul (by omega) (by omega) (by omega) (by omega)
  have hu5 : (t.uses.getD kind.toNat default * ration + 999).tdiv 1000 = (t.uses.getD kind.toNat default * ration + 999) / 1000 := Int.tdiv_eq_ediv_of_nonneg (by omega)
  have hU : useR t kind ration = (t.uses.getD kind.toNat default * ration + 999).tdiv 1000 := rfl
  exact ((rKept_ls s load days t kind ration hs hl hx ht hd hk hr hJ _).1 (0) (List.getD (ShStore.stock s) (Int.toNat kind) default) (-1) rfl (by omega) (by omega) (by omega)
    (GoE.start.landM okF hJ mixed_ok (rKept_s9 B s load days t kind ration)
    ⟨(wrap_in (by omega) (by omega)), ⟨(wq_in (by omega) (by omega)), ⟨(wq_in (by omega) (by omega)), ⟨⟨by omega, by omega, (rowL_extract (z := 1) (fun _ => rfl) (by omega))⟩, ⟨⟨by omega, by omega, (rowL_extract (z := 1) (fun _ => rfl) (by omega))⟩, trivial⟩⟩⟩⟩⟩ (by kernel_rfl) (by kernel_rfl))).cast (by rfl)
theorem rKept (s : ShStore) (load : List Int) (days : Int) (t : ShTruth) (kind ration : Int) (hs : storeB s = true) (hl : load.length ≤ 10) (hx : ∀ x ∈ load, 0 ≤ x ∧ x < s.lots.length) (ht : truthB s days t = true) (hd : 0 ≤ days ∧ days ≤ 300) (hk : 0 ≤ kind ∧ kind < s.stock.length) (hr : 0 ≤ ration ∧ ration ≤ 1001) : PureC Tryz.prog J0 41 #[.agg (encStore s).toArray, slI load, .int .i64 days, .agg (encTruth t).toArray, .int .i64 kind, .int .i64 ration] (pairV (keptF (useR t kind ration) (gsum t kind load) (comesT t) (upI 0 days) (-1, s.stock.getD kind.toNat default))) :=
  pureC_of (ts := [.agg (encStore s).toArray, slI load, .int .i64 days, .agg (encTruth t).toArray, .int .i64 kind, .int .i64 ration]) J0_st (c0 := entryC Tryz.prog 41 74 (([.agg (encStore s).toArray, slI load, .int .i64 days, .agg (encTruth t).toArray, .int .i64 kind, .int .i64 ration]).map (pushT 0 4))) (by kernel_rfl) (by kernel_rfl) fun B hJ => rKept_e s load days t kind ration hs hl hx ht hd hk hr hJ
end Go.Proofs.YtoihlobogbeigaaGreat

