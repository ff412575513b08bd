/- ShipPlays: whatever the input, it returns true, and each argument reads as it did. The row, from the walk. -/
import Derived.Test.YtiabgkiccaodmaaGreatZPL14
import Derived.Test.YtiabgkiccaodmaaGreatZPL09
import Derived.JoinedOf
import Derived.Test.YtiabgkiccaodmaaGreatRows
set_option linter.all false
namespace Go.Proofs.YtiabgkiccaodmaaGreat
open Go Go.CE Go.RowKit
set_option maxRecDepth 100000
def comesL (day : Int) : List Int → Int → Bool
 | [], _ => false
 | g :: l, s => decide (s + g = day) || comesL day l (s + g)
theorem comesL_cons {day s i : Int} {l : List Int} (h0 : 0 ≤ i) (h : i < l.length) : comesL day (l.drop i.toNat) s = (decide (s + l.getD i.toNat default = day) || comesL day (l.drop (i + 1).toNat) (s + l.getD i.toNat default)) := by
 obtain ⟨k, rfl⟩ : ∃ k : Nat, i = k := ⟨i.toNat, by omega⟩
 have hk : k < l.length := by omega
 have e1 : ((k : Int)).toNat = k := by omega
 have e2 : ((k : Int) + 1).toNat = k + 1 := by omega
 rw [e1, e2, List.drop_eq_getElem_cons hk]
 simp [comesL, List.getD_eq_getElem?_getD, hk]
theorem comesL_nil {day s i : Int} {l : List Int} (h : l.length ≤ i) : comesL day (l.drop i.toNat) s = false := by
 rw [List.drop_eq_nil_of_le (by omega)]; rfl
def gsum (t : ShTruth) (kind : Int) (l : List Int) : Int := sumL (l.map fun x => (t.goods.getD x.toNat default).getD kind.toNat default)
theorem gsum_cons {t : ShTruth} {kind i : Int} {l : List Int} (h0 : 0 ≤ i) (h : i < l.length) : gsum t kind (l.drop i.toNat) = (t.goods.getD (l.getD i.toNat default).toNat default).getD kind.toNat default + gsum t kind (l.drop (i + 1).toNat) := by
 obtain ⟨k, rfl⟩ : ∃ k : Nat, i = k := ⟨i.toNat, by omega⟩
 have hk : k < l.length := by omega
 have e1 : ((k : Int)).toNat = k := by omega
 have e2 : ((k : Int) + 1).toNat = k + 1 := by omega
 unfold gsum
 rw [e1, e2, List.drop_eq_getElem_cons hk, List.map_cons]
 simp [sumL, List.getD_eq_getElem?_getD, hk]
theorem gsum_nil {t : ShTruth} {kind i : Int} {l : List Int} (h : l.length ≤ i) : gsum t kind (l.drop i.toNat) = 0 := by
 rw [List.drop_eq_nil_of_le (by omega)]; rfl
def keptF (use br : Int) (comes : Int → Bool) : List Int → Int × Int → Int × Int
 | [], st => st
 | d :: ds, st => keptF use br comes ds (if (st.2 + if comes d = true then br else 0) < use ∧ st.1 < 0 then d else st.1, if 0 < (st.2 + if comes d = true then br else 0) - use then (st.2 + if comes d = true then br else 0) - use else 0)
def keptD (use br : Int) (comes : Int → Bool) (days d w L : Int) : Int × Int := keptF use br comes (upI (d + 1) days) (if L < use ∧ w < 0 then d else w, if 0 < L - use then L - use else 0)
theorem kept_cons {use br days d w s : Int} {comes : Int → Bool} (h : d < days) : keptF use br comes (upI d days) (w, s) = keptD use br comes days d w (s + if comes d = true then br else 0) := by
 rw [upI_cons h]; rfl
theorem kept_nil {use br days d w s : Int} {comes : Int → Bool} (h : days ≤ d) : keptF use br comes (upI d days) (w, s) = (w, s) := by
 rw [upI_nil h]; rfl
theorem kD {use br days d w L w' s' : Int} {comes : Int → Bool} (h1 : (if L < use ∧ w < 0 then d else w) = w') (h2 : (if 0 < L - use then L - use else 0) = s') : keptF use br comes (upI (d + 1) days) (w', s') = keptD use br comes days d w L := by subst h1 h2; rfl
def pairV (p : Int × Int) : Value := .tuple #[.int .i64 p.1, .int .i64 p.2]
def useR (t : ShTruth) (kind ration : Int) : Int := (t.uses.getD kind.toNat default * ration + 999).tdiv 1000
def comesT (t : ShTruth) (d : Int) : Bool := comesL d t.gaps 0
def rcomes_v0 (t : ShTruth) (day : Int) (s i : Int) : List Value := [.int .i64 day, pA 2 0, .int .i64 s, .int .i64 i]
def rcomes_o0 (t : ShTruth) (day : Int) (s i : Int) : List Obj := [Obj.cells #[topV 1 (slT t.uses.length (rowL encI t.uses)), topV 1 (slT t.gaps.length (rowL encI t.gaps)), topV 1 (slT t.goods.length (rowL encRow t.goods))] 65]
noncomputable def rcomes_t0 : List Item := ([.code [1, 1, 0, 1, 0, 0], .inLoop [1, 1, 0, 1, 0, 0], .inBlock 0, .code [1, 1, 1]]).map (it (bodyOf Tryz.prog 88))
def rcomes_h0 (B : Lo) (c0 : CF) (t : ShTruth) (day : Int) (s i : Int) : Prop := ∃ dJ : Nat → Value, (∀ t, Loose (dJ t)) ∧ GoE Tryz.prog B c0 H00 1 (headC 88 24 (([1, 2, 5, 6] : List Nat).zip (rcomes_v0 t day s i)) dJ rcomes_t0) (headH (rcomes_o0 t day s i)) (2 + (rcomes_o0 t day s i).length) []
noncomputable def rcomes_p0 (B : Lo) (t : ShTruth) (day : Int) (s i : Int) (dJ0 : Nat → Value) : List Prop := [wq (s + List.getD t.gaps i.toNat default) = s + List.getD t.gaps i.toNat default, i = (↑i.toNat : Int) ∧ Int.toNat i < List.length t.gaps ∧ Array.extract (rowL encI t.gaps) (Int.toNat i * TypeInfo.size Tryz.t3) (Int.toNat i * TypeInfo.size Tryz.t3 + TypeInfo.size Tryz.t3) = #[.int .i64 (List.getD t.gaps i.toNat default)], ltq i (↑t.gaps.length : Int) = true] ++ ([] : List Prop)
noncomputable def rcomes_q0 (t : ShTruth) (day : Int) (s i : Int) (dJ0 : Nat → Value) : ScriptT := [(4, hvT), (9, HintT.tidx i.toNat #[.int .i64 (List.getD t.gaps i.toNat default)]), (11, hvI (s + List.getD t.gaps i.toNat default))]
theorem rcomes_s0 (B : Lo) (t : ShTruth) (day : Int) (s i : Int) (dJ0 : Nat → Value) : endT (srunT Tryz.prog (okFn Tryz.prog) J0 B 16 1 (headC 88 24 (([1, 2, 5, 6] : List Nat).zip (rcomes_v0 t day s i)) dJ0 rcomes_t0) (headH (rcomes_o0 t day s i)) (2 + (rcomes_o0 t day s i).length)
 (rcomes_q0 t day s i dJ0 ++ [(15, hvT)]) 0 [] []) [] = some (Value.bool true,
 [eqq (s + List.getD t.gaps i.toNat default) day = true] ++ rcomes_p0 B t day s i dJ0) := by kernel_rfl
theorem rcomes_s1 (B : Lo) (t : ShTruth) (day : Int) (s i : Int) (dJ0 : Nat → Value) : landM (srunT Tryz.prog (okFn Tryz.prog) J0 B 16 1 (headC 88 24 (([1, 2, 5, 6] : List Nat).zip (rcomes_v0 t day s i)) dJ0 rcomes_t0) (headH (rcomes_o0 t day s i)) (2 + (rcomes_o0 t day s i).length)
 (rcomes_q0 t day s i dJ0 ++ [(15, hvF), (17, hvI (i + 1))]) 0 [] []) [1, 2, 5, 6] [(2, KS.auto)] [] = some ⟨88, 24, rcomes_t0, [], .run, none, rcomes_v0 t day (s + List.getD t.gaps i.toNat default) (i + 1), rcomes_o0 t day (s + List.getD t.gaps i.toNat default) (i + 1),
 [wq (i + 1) = i + 1, eqq (s + List.getD t.gaps i.toNat default) day = false] ++ rcomes_p0 B t day s i dJ0⟩ := by kernel_rfl
theorem rcomes_s2 (B : Lo) (t : ShTruth) (day : Int) (s i : Int) (dJ0 : Nat → Value) : endT (srunT Tryz.prog (okFn Tryz.prog) J0 B 9 1 (headC 88 24 (([1, 2, 5, 6] : List Nat).zip (rcomes_v0 t day s i)) dJ0 rcomes_t0) (headH (rcomes_o0 t day s i)) (2 + (rcomes_o0 t day s i).length)
 [(4, hvF)] 0 [] []) [] = some (Value.bool false,
 [ltq i (↑t.gaps.length : Int) = false]) := by kernel_rfl
theorem rcomes_s3 (B : Lo) (t : ShTruth) (day : Int) : landM (srunT Tryz.prog (okFn Tryz.prog) J0 B 9 1 (entryC Tryz.prog 88 24 (([.agg (encTruth t).toArray, .int .i64 day]).map (pushT 0 4))) H00 1
 [] 0 [] []) [1, 2, 5, 6] [(1, KS.auto)] [] = some ⟨88, 24, rcomes_t0, [], .run, none, rcomes_v0 t day (0) (0), rcomes_o0 t day (0) (0),
 []⟩ := by kernel_rfl
set_option maxHeartbeats 4000000 in
theorem rcomes_ls (t : ShTruth) (day : Int) (hg : ∀ x ∈ t.gaps, 0 ≤ x ∧ x ≤ 60) (hl : t.gaps.length ≤ 300) {B : Lo} (hJ : ∀ w, B.has w → J0 w) {c0 : CF} : ∀ m : Nat, (∀ (s i : Int), t.gaps.length - i.toNat = m → ∀ (h0 : 0 ≤ i) (h1 : 0 ≤ s ∧ s ≤ 60 * i), rcomes_h0 B c0 t day s i → EndsT Tryz.prog B c0 (.bool (comesL day (t.gaps.drop i.toNat) s))) := by
 intro m0
 induction m0 using Nat.strongRecOn with
 | _ m0 ih0 =>
   intro s i hm0 h0 h1 ⟨dJ0, hdJ0, hg0⟩
   by_cases q0 : (i : Int) < ((↑t.gaps.length : Int))
   ·
    have hp0 : AllP (rcomes_p0 B t day s i dJ0) := by
     have s2 := comesL_cons (day := day) (s := s) (l := t.gaps) h0 q0
     have g1 := hg _ (getD_mem h0 q0)
     exact ⟨(wq_in (by omega) (by omega)), ⟨⟨by omega, by omega, (rowL_extract (z := 1) (fun _ => rfl) (by omega))⟩, ⟨(ltq_t q0), trivial⟩⟩⟩
    by_cases q1 : (s + List.getD t.gaps i.toNat default : Int) = (day)
    ·
     have s2 := comesL_cons (day := day) (s := s) (l := t.gaps) h0 q0
     have g1 := hg _ (getD_mem h0 q0)
     exact (GoE.endsT okF hJ mixed_ok hg0 (rcomes_s0 B t day s i dJ0)
      ⟨(eqq_t q1), hp0⟩).cast (by (rw [s2, decide_eq_true (by assumption)]; rfl))
    ·
     have s2 := comesL_cons (day := day) (s := s) (l := t.gaps) h0 q0
     have g1 := hg _ (getD_mem h0 q0)
     exact ((ih0 _ (by omega)) (s + List.getD t.gaps i.toNat default) (i + 1) rfl (by omega) (by omega)
      (hg0.landM okF hJ mixed_ok (rcomes_s1 B t day s i dJ0)
      ⟨(wq_in (by omega) (by omega)), ⟨(eqq_f q1), hp0⟩⟩ (by kernel_rfl) (by kernel_rfl))).cast (by (rw [s2, decide_eq_false (by assumption)]; rfl))
   ·
    have s2 := comesL_nil (day := day) (s := s) (l := t.gaps) (i := i) (by omega)
    exact (GoE.endsT okF hJ mixed_ok hg0 (rcomes_s2 B t day s i dJ0)
     ⟨(ltq_f (Int.not_lt.1 q0)), trivial⟩).cast (by (rw [s2]; done))
set_option maxHeartbeats 4000000 in
theorem rcomes_e (t : ShTruth) (day : Int) (hg : ∀ x ∈ t.gaps, 0 ≤ x ∧ x ≤ 60) (hl : t.gaps.length ≤ 300) {B : Lo} (hJ : ∀ w, B.has w → J0 w) : EndsT Tryz.prog B (entryC Tryz.prog 88 24 (([.agg (encTruth t).toArray, .int .i64 day]).map (pushT 0 4))) (.bool (comesT t day)) := by
 exact ((rcomes_ls t day hg hl hJ _) (0) (0) rfl (by omega) (by omega)
  (GoE.start.landM okF hJ mixed_ok (rcomes_s3 B t day)
  trivial (by kernel_rfl) (by kernel_rfl))).cast (by rfl)
theorem rcomes (t : ShTruth) (day : Int) (hg : ∀ x ∈ t.gaps, 0 ≤ x ∧ x ≤ 60) (hl : t.gaps.length ≤ 300) : PureC Tryz.prog J0 88 #[.agg (encTruth t).toArray, .int .i64 day] (.bool (comesT t day)) :=
 pureC_of (ts := [.agg (encTruth t).toArray, .int .i64 day]) J0_st (c0 := entryC Tryz.prog 88 24 (([.agg (encTruth t).toArray, .int .i64 day]).map (pushT 0 4))) (by kernel_rfl) (by kernel_rfl) fun B hJ => rcomes_e t day hg hl hJ
def rKept_v0 (s : ShStore) (load : List Int) (days : Int) (t : ShTruth) (kind ration : Int) (d stock w : Int) : List Value := [topV 1 (slT load.length (rowL encI load)), .int .i64 days, .int .i64 kind, pA 2 0, .int .i64 stock, .int .i64 w, .int .i64 (Int.tdiv (List.getD t.uses kind.toNat default * ration + 999) 1000), .int .i64 d]
def rKept_o0 (s : ShStore) (load : List Int) (days : Int) (t : ShTruth) (kind ration : Int) (d stock w : Int) : List Obj := [Obj.cells #[topV 1 (slT t.uses.length (rowL encI t.uses)), topV 1 (slT t.gaps.length (rowL encI t.gaps)), topV 1 (slT t.goods.length (rowL encRow t.goods))] 65]
noncomputable def rKept_t0 : List Item := ([.code [1, 1, 1, 0, 1, 0, 0], .inLoop [1, 1, 1, 0, 1, 0, 0], .inBlock 0, .code [1, 1, 1, 1]]).map (it (bodyOf Tryz.prog 41))
def rKept_h0 (B : Lo) (c0 : CF) (s : ShStore) (load : List Int) (days : Int) (t : ShTruth) (kind ration : Int) (d stock w : Int) : Prop := ∃ dJ : Nat → Value, (∀ t, Loose (dJ t)) ∧ GoE Tryz.prog B c0 H00 1 (headC 41 74 (([1, 2, 4, 9, 14, 15, 16, 17] : List Nat).zip (rKept_v0 s load days t kind ration d stock w)) dJ rKept_t0) (headH (rKept_o0 s load days t kind ration d stock w)) (2 + (rKept_o0 s load days t kind ration d stock w).length) []
def rKept_v1 (s : ShStore) (load : List Int) (days : Int) (t : ShTruth) (kind ration : Int) (d i stock w : Int) : List Value := [topV 1 (slT load.length (rowL encI load)), .int .i64 days, .int .i64 kind, pA 2 0, .int .i64 stock, .int .i64 w, .int .i64 (Int.tdiv (List.getD t.uses kind.toNat default * ration + 999) 1000), .int .i64 d, .int .i64 i]
def rKept_o1 (s : ShStore) (load : List Int) (days : Int) (t : ShTruth) (kind ration : Int) (d i stock w : Int) : List Obj := [Obj.cells #[topV 1 (slT t.uses.length (rowL encI t.uses)), topV 1 (slT t.gaps.length (rowL encI t.gaps)), topV 1 (slT t.goods.length (rowL encRow t.goods))] 65]
noncomputable def rKept_t1 : List Item := ([.code [1, 1, 1, 0, 1, 0, 0, 1, 0, 0, 0, 1, 0, 1, 0, 0], .inLoop [1, 1, 1, 0, 1, 0, 0, 1, 0, 0, 0, 1, 0, 1, 0, 0], .inBlock 2, .code [1, 1, 1, 0, 1, 0, 0, 1, 0, 0, 1], .inBlock 1, .code [1, 1, 1, 0, 1, 0, 0, 1, 1], .inLoop [1, 1, 1, 0, 1, 0, 0], .inBlock 0, .code [1, 1, 1, 1]]).map (it (bodyOf Tryz.prog 41))
def rKept_h1 (B : Lo) (c0 : CF) (s : ShStore) (load : List Int) (days : Int) (t : ShTruth) (kind ration : Int) (d i stock w : Int) : Prop := ∃ dJ : Nat → Value, (∀ t, Loose (dJ t)) ∧ GoE Tryz.prog B c0 H00 1 (headC 41 74 (([1, 2, 4, 9, 14, 15, 16, 17, 18] : List Nat).zip (rKept_v1 s load days t kind ration d i stock w)) dJ rKept_t1) (headH (rKept_o1 s load days t kind ration d i stock w)) (2 + (rKept_o1 s load days t kind ration d i stock w).length) []
noncomputable def rKept_p0 (B : Lo) (s : ShStore) (load : List Int) (days : Int) (t : ShTruth) (kind ration : Int) (d stock w : Int) (dJ0 : Nat → Value) : List Prop := [ltq d days = true] ++ ([] : List Prop)
noncomputable def rKept_q0 (s : ShStore) (load : List Int) (days : Int) (t : ShTruth) (kind ration : Int) (d stock w : Int) (dJ0 : Nat → Value) : ScriptT := [(2, hvT)]
theorem rKept_s0 (B : Lo) (s : ShStore) (load : List Int) (days : Int) (t : ShTruth) (kind ration : Int) (d stock w : Int) (dJ0 : Nat → Value) : landM (srunT Tryz.prog (okFn Tryz.prog) J0 B 15 1 (headC 41 74 (([1, 2, 4, 9, 14, 15, 16, 17] : List Nat).zip (rKept_v0 s load days t kind ration d stock w)) dJ0 rKept_t0) (headH (rKept_o0 s load days t kind ration d stock w)) (2 + (rKept_o0 s load days t kind ration d stock w).length)
 (rKept_q0 s load days t kind ration d stock w dJ0 ++ [(5, HintT.pure (Value.bool true) [])]) 0 [] []) [1, 2, 4, 9, 14, 15, 16, 17, 18] [(2, KS.auto)] [] = some ⟨41, 74, rKept_t1, [], .run, none, rKept_v1 s load days t kind ration (d) (0) (stock) (w), rKept_o1 s load days t kind ration (d) (0) (stock) (w),
 [AllP [] ∧ PureC Tryz.prog J0 88 #[Value.agg #[slT t.uses.length (rowL encI t.uses), slT t.gaps.length (rowL encI t.gaps), slT t.goods.length (rowL encRow t.goods)], .int .i64 d] (Value.bool true)] ++ rKept_p0 B s load days t kind ration d stock w dJ0⟩ := by kernel_rfl
noncomputable def rKept_p1 (B : Lo) (s : ShStore) (load : List Int) (days : Int) (t : ShTruth) (kind ration : Int) (d stock w : Int) (dJ0 : Nat → Value) : List Prop := [AllP [] ∧ PureC Tryz.prog J0 88 #[Value.agg #[slT t.uses.length (rowL encI t.uses), slT t.gaps.length (rowL encI t.gaps), slT t.goods.length (rowL encRow t.goods)], .int .i64 d] (Value.bool false)] ++ rKept_p0 B s load days t kind ration d stock w dJ0
noncomputable def rKept_q1 (s : ShStore) (load : List Int) (days : Int) (t : ShTruth) (kind ration : Int) (d stock w : Int) (dJ0 : Nat → Value) : ScriptT := rKept_q0 s load days t kind ration d stock w dJ0 ++ [(5, HintT.pure (Value.bool false) [])]
noncomputable def rKept_p2 (B : Lo) (s : ShStore) (load : List Int) (days : Int) (t : ShTruth) (kind ration : Int) (d stock w : Int) (dJ0 : Nat → Value) : List Prop := [ltq stock (Int.tdiv (List.getD t.uses kind.toNat default * ration + 999) 1000) = true] ++ rKept_p1 B s load days t kind ration d stock w dJ0
noncomputable def rKept_q2 (s : ShStore) (load : List Int) (days : Int) (t : ShTruth) (kind ration : Int) (d stock w : Int) (dJ0 : Nat → Value) : ScriptT := rKept_q1 s load days t kind ration d stock w dJ0 ++ [(8, hvT)]
theorem rKept_s1 (B : Lo) (s : ShStore) (load : List Int) (days : Int) (t : ShTruth) (kind ration : Int) (d stock w : Int) (dJ0 : Nat → Value) : landM (srunT Tryz.prog (okFn Tryz.prog) J0 B 21 1 (headC 41 74 (([1, 2, 4, 9, 14, 15, 16, 17] : List Nat).zip (rKept_v0 s load days t kind ration d stock w)) dJ0 rKept_t0) (headH (rKept_o0 s load days t kind ration d stock w)) (2 + (rKept_o0 s load days t kind ration d stock w).length)
 (rKept_q2 s load days t kind ration d stock w dJ0 ++ [(11, hvT), (17, hvI (stock - Int.tdiv (List.getD t.uses kind.toNat default * ration + 999) 1000)), (21, hvI (d + 1))]) 0 [] []) [1, 2, 4, 9, 14, 15, 16, 17] [(2, KS.auto)] [] = some ⟨41, 74, rKept_t0, [], .run, none, rKept_v0 s load days t kind ration (d + 1) (if stock - Int.tdiv (List.getD t.uses kind.toNat default * ration + 999) 1000 > 0 then stock - Int.tdiv (List.getD t.uses kind.toNat default * ration + 999) 1000 else 0) (d), rKept_o0 s load days t kind ration (d + 1) (if stock - Int.tdiv (List.getD t.uses kind.toNat default * ration + 999) 1000 > 0 then stock - Int.tdiv (List.getD t.uses kind.toNat default * ration + 999) 1000 else 0) (d),
 [wq (d + 1) = d + 1, wq (stock - Int.tdiv (List.getD t.uses kind.toNat default * ration + 999) 1000) = stock - Int.tdiv (List.getD t.uses kind.toNat default * ration + 999) 1000, ltq w 0 = true] ++ rKept_p2 B s load days t kind ration d stock w dJ0⟩ := by kernel_rfl
theorem rKept_s2 (B : Lo) (s : ShStore) (load : List Int) (days : Int) (t : ShTruth) (kind ration : Int) (d stock w : Int) (dJ0 : Nat → Value) : landM (srunT Tryz.prog (okFn Tryz.prog) J0 B 21 1 (headC 41 74 (([1, 2, 4, 9, 14, 15, 16, 17] : List Nat).zip (rKept_v0 s load days t kind ration d stock w)) dJ0 rKept_t0) (headH (rKept_o0 s load days t kind ration d stock w)) (2 + (rKept_o0 s load days t kind ration d stock w).length)
 (rKept_q2 s load days t kind ration d stock w dJ0 ++ [(11, hvF), (15, hvI (stock - Int.tdiv (List.getD t.uses kind.toNat default * ration + 999) 1000)), (19, hvI (d + 1))]) 0 [] []) [1, 2, 4, 9, 14, 15, 16, 17] [(2, KS.auto)] [] = some ⟨41, 74, rKept_t0, [], .run, none, rKept_v0 s load days t kind ration (d + 1) (if stock - Int.tdiv (List.getD t.uses kind.toNat default * ration + 999) 1000 > 0 then stock - Int.tdiv (List.getD t.uses kind.toNat default * ration + 999) 1000 else 0) (w), rKept_o0 s load days t kind ration (d + 1) (if stock - Int.tdiv (List.getD t.uses kind.toNat default * ration + 999) 1000 > 0 then stock - Int.tdiv (List.getD t.uses kind.toNat default * ration + 999) 1000 else 0) (w),
 [wq (d + 1) = d + 1, wq (stock - Int.tdiv (List.getD t.uses kind.toNat default * ration + 999) 1000) = stock - Int.tdiv (List.getD t.uses kind.toNat default * ration + 999) 1000, ltq w 0 = false] ++ rKept_p2 B s load days t kind ration d stock w dJ0⟩ := by kernel_rfl
theorem rKept_s3 (B : Lo) (s : ShStore) (load : List Int) (days : Int) (t : ShTruth) (kind ration : Int) (d stock w : Int) (dJ0 : Nat → Value) : landM (srunT Tryz.prog (okFn Tryz.prog) J0 B 21 1 (headC 41 74 (([1, 2, 4, 9, 14, 15, 16, 17] : List Nat).zip (rKept_v0 s load days t kind ration d stock w)) dJ0 rKept_t0) (headH (rKept_o0 s load days t kind ration d stock w)) (2 + (rKept_o0 s load days t kind ration d stock w).length)
 (rKept_q1 s load days t kind ration d stock w dJ0 ++ [(8, hvF), (15, hvI (stock - Int.tdiv (List.getD t.uses kind.toNat default * ration + 999) 1000)), (19, hvI (d + 1))]) 0 [] []) [1, 2, 4, 9, 14, 15, 16, 17] [(2, KS.auto)] [] = some ⟨41, 74, rKept_t0, [], .run, none, rKept_v0 s load days t kind ration (d + 1) (if stock - Int.tdiv (List.getD t.uses kind.toNat default * ration + 999) 1000 > 0 then stock - Int.tdiv (List.getD t.uses kind.toNat default * ration + 999) 1000 else 0) (w), rKept_o0 s load days t kind ration (d + 1) (if stock - Int.tdiv (List.getD t.uses kind.toNat default * ration + 999) 1000 > 0 then stock - Int.tdiv (List.getD t.uses kind.toNat default * ration + 999) 1000 else 0) (w),
 [wq (d + 1) = d + 1, wq (stock - Int.tdiv (List.getD t.uses kind.toNat default * ration + 999) 1000) = stock - Int.tdiv (List.getD t.uses kind.toNat default * ration + 999) 1000, ltq stock (Int.tdiv (List.getD t.uses kind.toNat default * ration + 999) 1000) = false] ++ rKept_p1 B s load days t kind ration d stock w dJ0⟩ := by kernel_rfl
theorem rKept_s4 (B : Lo) (s : ShStore) (load : List Int) (days : Int) (t : ShTruth) (kind ration : Int) (d stock w : Int) (dJ0 : Nat → Value) : endT (srunT Tryz.prog (okFn Tryz.prog) J0 B 9 1 (headC 41 74 (([1, 2, 4, 9, 14, 15, 16, 17] : List Nat).zip (rKept_v0 s load days t kind ration d stock w)) dJ0 rKept_t0) (headH (rKept_o0 s load days t kind ration d stock w)) (2 + (rKept_o0 s load days t kind ration d stock w).length)
 [(2, hvF)] 0 [] []) [] = some (Value.tuple #[.int .i64 w, .int .i64 stock],
 [ltq d days = false]) := by kernel_rfl
theorem rKept_s5 (B : Lo) (s : ShStore) (load : List Int) (days : Int) (t : ShTruth) (kind ration : Int) (d i stock w : Int) (dJ0 : Nat → Value) : landM (srunT Tryz.prog (okFn Tryz.prog) J0 B 11 1 (headC 41 74 (([1, 2, 4, 9, 14, 15, 16, 17, 18] : List Nat).zip (rKept_v1 s load days t kind ration d i stock w)) dJ0 rKept_t1) (headH (rKept_o1 s load days t kind ration d i stock w)) (2 + (rKept_o1 s load days t kind ration d i stock w).length)
 [(3, hvT), (9, HintT.tidx i.toNat #[.int .i64 (List.getD load i.toNat default)]), (11, HintT.tidx (Int.toNat (List.getD load i.toNat default)) #[slT (List.length (List.getD t.goods (Int.toNat (List.getD load i.toNat default)) default)) (rowL encI (List.getD t.goods (Int.toNat (List.getD load i.toNat default)) default))]), (14, HintT.tidx kind.toNat #[.int .i64 (List.getD (List.getD t.goods (Int.toNat (List.getD load i.toNat default)) default) kind.toNat default)]), (16, hvI (stock + List.getD (List.getD t.goods (Int.toNat (List.getD load i.toNat default)) default) kind.toNat default)), (19, hvI (i + 1))] 0 [] []) [1, 2, 4, 9, 14, 15, 16, 17, 18] [(2, KS.auto)] [] = some ⟨41, 74, rKept_t1, [], .run, none, rKept_v1 s load days t kind ration (d) (i + 1) (stock + List.getD (List.getD t.goods (Int.toNat (List.getD load i.toNat default)) default) kind.toNat default) (w), rKept_o1 s load days t kind ration (d) (i + 1) (stock + List.getD (List.getD t.goods (Int.toNat (List.getD load i.toNat default)) default) kind.toNat default) (w),
 [wq (i + 1) = i + 1, wq (stock + List.getD (List.getD t.goods (Int.toNat (List.getD load i.toNat default)) default) kind.toNat default) = stock + List.getD (List.getD t.goods (Int.toNat (List.getD load i.toNat default)) default) kind.toNat default, kind = (↑kind.toNat : Int) ∧ Int.toNat kind < List.length (List.getD t.goods (Int.toNat (List.getD load i.toNat default)) default) ∧ Array.extract (rowL encI (List.getD t.goods (Int.toNat (List.getD load i.toNat default)) default)) (Int.toNat kind * TypeInfo.size Tryz.t3) (Int.toNat kind * TypeInfo.size Tryz.t3 + TypeInfo.size Tryz.t3) = #[.int .i64 (List.getD (List.getD t.goods (Int.toNat (List.getD load i.toNat default)) default) kind.toNat default)], List.getD load i.toNat default = (↑(Int.toNat (List.getD load i.toNat default)) : Int) ∧ Int.toNat (List.getD load i.toNat default) < List.length t.goods ∧ Array.extract (rowL encRow t.goods) (Int.toNat (List.getD load i.toNat default) * TypeInfo.size Tryz.t22) (Int.toNat (List.getD load i.toNat default) * TypeInfo.size Tryz.t22 + TypeInfo.size Tryz.t22) = #[slT (List.length (List.getD t.goods (Int.toNat (List.getD load i.toNat default)) default)) (rowL encI (List.getD t.goods (Int.toNat (List.getD load i.toNat default)) default))], i = (↑i.toNat : Int) ∧ Int.toNat i < List.length load ∧ Array.extract (rowL encI load) (Int.toNat i * TypeInfo.size Tryz.t3) (Int.toNat i * TypeInfo.size Tryz.t3 + TypeInfo.size Tryz.t3) = #[.int .i64 (List.getD load i.toNat default)], ltq i (↑load.length : Int) = true]⟩ := by kernel_rfl
noncomputable def rKept_p3 (B : Lo) (s : ShStore) (load : List Int) (days : Int) (t : ShTruth) (kind ration : Int) (d i stock w : Int) (dJ0 : Nat → Value) : List Prop := [ltq i (↑load.length : Int) = false] ++ ([] : List Prop)
noncomputable def rKept_q3 (s : ShStore) (load : List Int) (days : Int) (t : ShTruth) (kind ration : Int) (d i stock w : Int) (dJ0 : Nat → Value) : ScriptT := [(3, hvF)]
noncomputable def rKept_p4 (B : Lo) (s : ShStore) (load : List Int) (days : Int) (t : ShTruth) (kind ration : Int) (d i stock w : Int) (dJ0 : Nat → Value) : List Prop := [ltq stock (Int.tdiv (List.getD t.uses kind.toNat default * ration + 999) 1000) = true] ++ rKept_p3 B s load days t kind ration d i stock w dJ0
noncomputable def rKept_q4 (s : ShStore) (load : List Int) (days : Int) (t : ShTruth) (kind ration : Int) (d i stock w : Int) (dJ0 : Nat → Value) : ScriptT := rKept_q3 s load days t kind ration d i stock w dJ0 ++ [(6, hvT)]
theorem rKept_s6 (B : Lo) (s : ShStore) (load : List Int) (days : Int) (t : ShTruth) (kind ration : Int) (d i stock w : Int) (dJ0 : Nat → Value) : landM (srunT Tryz.prog (okFn Tryz.prog) J0 B 14 1 (headC 41 74 (([1, 2, 4, 9, 14, 15, 16, 17, 18] : List Nat).zip (rKept_v1 s load days t kind ration d i stock w)) dJ0 rKept_t1) (headH (rKept_o1 s load days t kind ration d i stock w)) (2 + (rKept_o1 s load days t kind ration d i stock w).length)
 (rKept_q4 s load days t kind ration d i stock w dJ0 ++ [(9, hvT), (15, hvI (stock - Int.tdiv (List.getD t.uses kind.toNat default * ration + 999) 1000)), (19, hvI (d + 1))]) 0 [] []) [1, 2, 4, 9, 14, 15, 16, 17] [(2, KS.auto)] [] = some ⟨41, 74, rKept_t0, [], .run, none, rKept_v0 s load days t kind ration (d + 1) (if stock - Int.tdiv (List.getD t.uses kind.toNat default * ration + 999) 1000 > 0 then stock - Int.tdiv (List.getD t.uses kind.toNat default * ration + 999) 1000 else 0) (d), rKept_o0 s load days t kind ration (d + 1) (if stock - Int.tdiv (List.getD t.uses kind.toNat default * ration + 999) 1000 > 0 then stock - Int.tdiv (List.getD t.uses kind.toNat default * ration + 999) 1000 else 0) (d),
 [wq (d + 1) = d + 1, wq (stock - Int.tdiv (List.getD t.uses kind.toNat default * ration + 999) 1000) = stock - Int.tdiv (List.getD t.uses kind.toNat default * ration + 999) 1000, ltq w 0 = true] ++ rKept_p4 B s load days t kind ration d i stock w dJ0⟩ := by kernel_rfl
theorem rKept_s7 (B : Lo) (s : ShStore) (load : List Int) (days : Int) (t : ShTruth) (kind ration : Int) (d i stock w : Int) (dJ0 : Nat → Value) : landM (srunT Tryz.prog (okFn Tryz.prog) J0 B 14 1 (headC 41 74 (([1, 2, 4, 9, 14, 15, 16, 17, 18] : List Nat).zip (rKept_v1 s load days t kind ration d i stock w)) dJ0 rKept_t1) (headH (rKept_o1 s load days t kind ration d i stock w)) (2 + (rKept_o1 s load days t kind ration d i stock w).length)
 (rKept_q4 s load days t kind ration d i stock w dJ0 ++ [(9, hvF), (13, hvI (stock - Int.tdiv (List.getD t.uses kind.toNat default * ration + 999) 1000)), (17, hvI (d + 1))]) 0 [] []) [1, 2, 4, 9, 14, 15, 16, 17] [(2, KS.auto)] [] = some ⟨41, 74, rKept_t0, [], .run, none, rKept_v0 s load days t kind ration (d + 1) (if stock - Int.tdiv (List.getD t.uses kind.toNat default * ration + 999) 1000 > 0 then stock - Int.tdiv (List.getD t.uses kind.toNat default * ration + 999) 1000 else 0) (w), rKept_o0 s load days t kind ration (d + 1) (if stock - Int.tdiv (List.getD t.uses kind.toNat default * ration + 999) 1000 > 0 then stock - Int.tdiv (List.getD t.uses kind.toNat default * ration + 999) 1000 else 0) (w),
 [wq (d + 1) = d + 1, wq (stock - Int.tdiv (List.getD t.uses kind.toNat default * ration + 999) 1000) = stock - Int.tdiv (List.getD t.uses kind.toNat default * ration + 999) 1000, ltq w 0 = false] ++ rKept_p4 B s load days t kind ration d i stock w dJ0⟩ := by kernel_rfl
theorem rKept_s8 (B : Lo) (s : ShStore) (load : List Int) (days : Int) (t : ShTruth) (kind ration : Int) (d i stock w : Int) (dJ0 : Nat → Value) : landM (srunT Tryz.prog (okFn Tryz.prog) J0 B 14 1 (headC 41 74 (([1, 2, 4, 9, 14, 15, 16, 17, 18] : List Nat).zip (rKept_v1 s load days t kind ration d i stock w)) dJ0 rKept_t1) (headH (rKept_o1 s load days t kind ration d i stock w)) (2 + (rKept_o1 s load days t kind ration d i stock w).length)
 (rKept_q3 s load days t kind ration d i stock w dJ0 ++ [(6, hvF), (13, hvI (stock - Int.tdiv (List.getD t.uses kind.toNat default * ration + 999) 1000)), (17, hvI (d + 1))]) 0 [] []) [1, 2, 4, 9, 14, 15, 16, 17] [(2, KS.auto)] [] = some ⟨41, 74, rKept_t0, [], .run, none, rKept_v0 s load days t kind ration (d + 1) (if stock - Int.tdiv (List.getD t.uses kind.toNat default * ration + 999) 1000 > 0 then stock - Int.tdiv (List.getD t.uses kind.toNat default * ration + 999) 1000 else 0) (w), rKept_o0 s load days t kind ration (d + 1) (if stock - Int.tdiv (List.getD t.uses kind.toNat default * ration + 999) 1000 > 0 then stock - Int.tdiv (List.getD t.uses kind.toNat default * ration + 999) 1000 else 0) (w),
 [wq (d + 1) = d + 1, wq (stock - Int.tdiv (List.getD t.uses kind.toNat default * ration + 999) 1000) = stock - Int.tdiv (List.getD t.uses kind.toNat default * ration + 999) 1000, ltq stock (Int.tdiv (List.getD t.uses kind.toNat default * ration + 999) 1000) = false] ++ rKept_p3 B s load days t kind ration d i stock w dJ0⟩ := by kernel_rfl
theorem rKept_s9 (B : Lo) (s : ShStore) (load : List Int) (days : Int) (t : ShTruth) (kind ration : Int) : landM (srunT Tryz.prog (okFn Tryz.prog) J0 B 11 1 (entryC Tryz.prog 41 74 (([.agg (encStore s).toArray, slI load, .int .i64 days, .agg (encTruth t).toArray, .int .i64 kind, .int .i64 ration]).map (pushT 0 4))) H00 1
 [(7, HintT.tidx kind.toNat #[.int .i64 (List.getD s.stock kind.toNat default)]), (14, HintT.tidx kind.toNat #[.int .i64 (List.getD t.uses kind.toNat default)]), (17, hvI (List.getD t.uses kind.toNat default * ration)), (18, hvI (List.getD t.uses kind.toNat default * ration + 999)), (19, hvI (Int.tdiv (List.getD t.uses kind.toNat default * ration + 999) 1000))] 0 [] []) [1, 2, 4, 9, 14, 15, 16, 17] [(2, KS.auto)] [] = some ⟨41, 74, rKept_t0, [], .run, none, rKept_v0 s load days t kind ration (0) (List.getD s.stock kind.toNat default) (-1), rKept_o0 s load days t kind ration (0) (List.getD s.stock kind.toNat default) (-1),
 [IntKind.wrap IntKind.i64 (Int.tdiv (List.getD t.uses kind.toNat default * ration + 999) 1000) = Int.tdiv (List.getD t.uses kind.toNat default * ration + 999) 1000, wq (List.getD t.uses kind.toNat default * ration + 999) = List.getD t.uses kind.toNat default * ration + 999, wq (List.getD t.uses kind.toNat default * ration) = List.getD t.uses kind.toNat default * ration, kind = (↑kind.toNat : Int) ∧ Int.toNat kind < List.length t.uses ∧ Array.extract (rowL encI t.uses) (Int.toNat kind * TypeInfo.size Tryz.t3) (Int.toNat kind * TypeInfo.size Tryz.t3 + TypeInfo.size Tryz.t3) = #[.int .i64 (List.getD t.uses kind.toNat default)], kind = (↑kind.toNat : Int) ∧ Int.toNat kind < List.length s.stock ∧ Array.extract (rowL encI s.stock) (Int.toNat kind * TypeInfo.size Tryz.t3) (Int.toNat kind * TypeInfo.size Tryz.t3 + TypeInfo.size Tryz.t3) = #[.int .i64 (List.getD s.stock kind.toNat default)]]⟩ := by kernel_rfl
set_option maxHeartbeats 4000000 in
theorem rKept_ls (s : ShStore) (load : List Int) (days : Int) (t : ShTruth) (kind ration : Int) (hs : storeB s = true) (hl : load.length ≤ 10) (hx : ∀ x ∈ load, 0 ≤ x ∧ x < s.lots.length) (ht : truthB s days t = true) (hd : 0 ≤ days ∧ days ≤ 300) (hk : 0 ≤ kind ∧ kind < s.stock.length) (hr : 0 ≤ ration ∧ ration ≤ 1001) {B : Lo} (hJ : ∀ w, B.has w → J0 w) {c0 : CF} : ∀ m : Nat, (∀ (d stock w : Int), (days - d).toNat * 20 = m → ∀ (d0 : 0 ≤ d) (s0 : 0 ≤ stock ∧ stock ≤ 100000 + 1000000 * d) (w0 : -1 ≤ w ∧ w ≤ 300), rKept_h0 B c0 s load days t kind ration d stock w → EndsT Tryz.prog B c0 (pairV (keptF (useR t kind ration) (gsum t kind load) (comesT t) (upI d days) (w, stock)))) ∧ (∀ (d i stock w : Int), (days - d).toNat * 20 - 15 + (load.length - i.toNat) = m → ∀ (d0 : 0 ≤ d) (d1 : d < days) (i0 : 0 ≤ i) (i1 : i ≤ load.length) (s0 : 0 ≤ stock ∧ stock ≤ 100000 + 1000000 * d + 100000 * i) (w0 : -1 ≤ w ∧ w ≤ 300), rKept_h1 B c0 s load days t kind ration d i stock w → EndsT Tryz.prog B c0 (pairV (keptD (useR t kind ration) (gsum t kind load) (comesT t) days d w (stock + gsum t kind (load.drop i.toNat))))) := by
 intro m0
 induction m0 using Nat.strongRecOn with
 | _ m0 ih0 =>
   refine ⟨?_, ?_⟩
   ·intro d stock w hm0 d0 s0 w0 ⟨dJ0, hdJ0, hg0⟩
    have ht' := ht; simp only [truthB, gapsB, Bool.and_eq_true, decide_eq_true_iff, List.all_eq_true, inB_iff] at ht'
    have hgp := store_gap hs
    have hst := store_stock hs
    have hrows := truth_rows hs ht'.2.2
    have hus := (inSpans_facts ht'.1)
    have hgg : ∀ x ∈ t.gaps, 0 ≤ x ∧ x ≤ 60 := fun x h => by have := ht'.2.1.2.1 x h; omega
    have hgl : t.gaps.length ≤ 300 := ht'.2.1.1
    have hu1 := hus.2 kind hk.1 (by omega)
    have hu2 := hst.2.2.2 _ (getD_mem (l := s.use) hk.1 (by omega))
    have hs1 := hst.2.1 _ (getD_mem (l := s.stock) hk.1 hk.2)
    have hu3 : 0 ≤ t.uses.getD kind.toNat default * ration := Int.mul_nonneg (by omega) (by omega)
    have hu4 : t.uses.getD kind.toNat default * ration ≤ 1000 * 1001 := Int.mul_le_mul (by omega) (by omega) (by omega) (by omega)
    have hu5 : (t.uses.getD kind.toNat default * ration + 999).tdiv 1000 = (t.uses.getD kind.toNat default * ration + 999) / 1000 := Int.tdiv_eq_ediv_of_nonneg (by omega)
    have hU : useR t kind ration = (t.uses.getD kind.toNat default * ration + 999).tdiv 1000 := rfl
    by_cases q0 : (d : Int) < (days)
    ·
     have hp0 : AllP (rKept_p0 B s load days t kind ration d stock w dJ0) := by
      exact ⟨(ltq_t q0), trivial⟩
     cases q1 : comesT t d with
     | true =>
       have s2 := kept_cons (use := useR t kind ration) (br := gsum t kind load) (comes := comesT t) (days := days) (d := d) (w := w) (s := stock) (by omega)
       have hc : (if comesT t d = true then gsum t kind load else 0) = gsum t kind load := if_pos ‹comesT t d = true›
       exact ((ih0 _ (by omega)).2 (d) (0) (stock) (w) rfl (by with_reducible assumption) (by with_reducible assumption) (by omega) (by omega) (by omega) (by with_reducible assumption)
        (hg0.landM okF hJ mixed_ok (rKept_s0 B s load days t kind ration d stock w dJ0)
        ⟨⟨trivial, (by have t_ := rcomes (t) (d) (by with_reducible assumption) (by with_reducible assumption); rw [q1] at t_; exact t_)⟩, hp0⟩ (by kernel_rfl) (by kernel_rfl))).cast (by (rw [s2, hc]; rfl))
     | false =>
       have hp1 : AllP (rKept_p1 B s load days t kind ration d stock w dJ0) := by
        have s2 := kept_cons (use := useR t kind ration) (br := gsum t kind load) (comes := comesT t) (days := days) (d := d) (w := w) (s := stock) (by omega)
        have hc : (if comesT t d = true then gsum t kind load else 0) = 0 := if_neg (by rw [‹comesT t d = false›]; decide)
        exact ⟨⟨trivial, (by have t_ := rcomes (t) (d) (by with_reducible assumption) (by with_reducible assumption); rw [q1] at t_; exact t_)⟩, hp0⟩
       by_cases q2 : (stock : Int) < (Int.tdiv (List.getD t.uses kind.toNat default * ration + 999) 1000)
       ·
        have hp2 : AllP (rKept_p2 B s load days t kind ration d stock w dJ0) := by
         exact ⟨(ltq_t q2), hp1⟩
        by_cases q3 : (w : Int) < (0)
        ·
         have s2 := kept_cons (use := useR t kind ration) (br := gsum t kind load) (comes := comesT t) (days := days) (d := d) (w := w) (s := stock) (by omega)
         have hc : (if comesT t d = true then gsum t kind load else 0) = 0 := if_neg (by rw [‹comesT t d = false›]; decide)
         exact ((ih0 _ (by omega)).1 (d + 1) (if stock - Int.tdiv (List.getD t.uses kind.toNat default * ration + 999) 1000 > 0 then stock - Int.tdiv (List.getD t.uses kind.toNat default * ration + 999) 1000 else 0) (d) rfl (by omega) (by omega) (by omega)
          (hg0.landM okF hJ mixed_ok (rKept_s1 B s load days t kind ration d stock w dJ0)
          ⟨(wq_in (by omega) (by omega)), ⟨(wq_in (by omega) (by omega)), ⟨(ltq_t q3), hp2⟩⟩⟩ (by kernel_rfl) (by kernel_rfl))).cast (by (rw [s2, hc]; exact congrArg pairV (kD (by split <;> omega) (by split <;> omega))))
        ·
         have s2 := kept_cons (use := useR t kind ration) (br := gsum t kind load) (comes := comesT t) (days := days) (d := d) (w := w) (s := stock) (by omega)
         have hc : (if comesT t d = true then gsum t kind load else 0) = 0 := if_neg (by rw [‹comesT t d = false›]; decide)
         exact ((ih0 _ (by omega)).1 (d + 1) (if stock - Int.tdiv (List.getD t.uses kind.toNat default * ration + 999) 1000 > 0 then stock - Int.tdiv (List.getD t.uses kind.toNat default * ration + 999) 1000 else 0) (w) rfl (by omega) (by omega) (by with_reducible assumption)
          (hg0.landM okF hJ mixed_ok (rKept_s2 B s load days t kind ration d stock w dJ0)
          ⟨(wq_in (by omega) (by omega)), ⟨(wq_in (by omega) (by omega)), ⟨(ltq_f (Int.not_lt.1 q3)), hp2⟩⟩⟩ (by kernel_rfl) (by kernel_rfl))).cast (by (rw [s2, hc]; exact congrArg pairV (kD (by split <;> omega) (by split <;> omega))))
       ·
        have s2 := kept_cons (use := useR t kind ration) (br := gsum t kind load) (comes := comesT t) (days := days) (d := d) (w := w) (s := stock) (by omega)
        have hc : (if comesT t d = true then gsum t kind load else 0) = 0 := if_neg (by rw [‹comesT t d = false›]; decide)
        exact ((ih0 _ (by omega)).1 (d + 1) (if stock - Int.tdiv (List.getD t.uses kind.toNat default * ration + 999) 1000 > 0 then stock - Int.tdiv (List.getD t.uses kind.toNat default * ration + 999) 1000 else 0) (w) rfl (by omega) (by omega) (by with_reducible assumption)
         (hg0.landM okF hJ mixed_ok (rKept_s3 B s load days t kind ration d stock w dJ0)
         ⟨(wq_in (by omega) (by omega)), ⟨(wq_in (by omega) (by omega)), ⟨(ltq_f (Int.not_lt.1 q2)), hp1⟩⟩⟩ (by kernel_rfl) (by kernel_rfl))).cast (by (rw [s2, hc]; exact congrArg pairV (kD (by split <;> omega) (by split <;> omega))))
    ·
     have s2 := kept_nil (use := useR t kind ration) (br := gsum t kind load) (comes := comesT t) (days := days) (d := d) (w := w) (s := stock) (by omega)
     exact (GoE.endsT okF hJ mixed_ok hg0 (rKept_s4 B s load days t kind ration d stock w dJ0)
      ⟨(ltq_f (Int.not_lt.1 q0)), trivial⟩).cast (by (rw [s2]; rfl))
   ·intro d i stock w hm0 d0 d1 i0 i1 s0 w0 ⟨dJ0, hdJ0, hg0⟩
    have ht' := ht; simp only [truthB, gapsB, Bool.and_eq_true, decide_eq_true_iff, List.all_eq_true, inB_iff] at ht'
    have hgp := store_gap hs
    have hst := store_stock hs
    have hrows := truth_rows hs ht'.2.2
    have hus := (inSpans_facts ht'.1)
    have hgg : ∀ x ∈ t.gaps, 0 ≤ x ∧ x ≤ 60 := fun x h => by have := ht'.2.1.2.1 x h; omega
    have hgl : t.gaps.length ≤ 300 := ht'.2.1.1
    have hu1 := hus.2 kind hk.1 (by omega)
    have hu2 := hst.2.2.2 _ (getD_mem (l := s.use) hk.1 (by omega))
    have hs1 := hst.2.1 _ (getD_mem (l := s.stock) hk.1 hk.2)
    have hu3 : 0 ≤ t.uses.getD kind.toNat default * ration := Int.mul_nonneg (by omega) (by omega)
    have hu4 : t.uses.getD kind.toNat default * ration ≤ 1000 * 1001 := Int.mul_le_mul (by omega) (by omega) (by omega) (by omega)
    have hu5 : (t.uses.getD kind.toNat default * ration + 999).tdiv 1000 = (t.uses.getD kind.toNat default * ration + 999) / 1000 := Int.tdiv_eq_ediv_of_nonneg (by omega)
    have hU : useR t kind ration = (t.uses.getD kind.toNat default * ration + 999).tdiv 1000 := rfl
    by_cases q0 : (i : Int) < ((↑load.length : Int))
    ·
     have s2 := gsum_cons (t := t) (kind := kind) (l := load) i0 q0
     have g1 := hx _ (getD_mem i0 q0)
     have g2 := hrows.2 _ (getD_mem (l := t.goods) (i := load.getD i.toNat default) g1.1 (by omega))
     have g3 := g2.2 _ (getD_mem (l := t.goods.getD (load.getD i.toNat default).toNat default) (i := kind) hk.1 (by omega))
     exact ((ih0 _ (by omega)).2 (d) (i + 1) (stock + List.getD (List.getD t.goods (Int.toNat (List.getD load i.toNat default)) default) kind.toNat default) (w) rfl (by with_reducible assumption) (by with_reducible assumption) (by omega) (by omega) (by omega) (by with_reducible assumption)
      (hg0.landM okF hJ mixed_ok (rKept_s5 B s load days t kind ration d i stock w dJ0)
      ⟨(wq_in (by omega) (by omega)), ⟨(wq_in (by omega) (by omega)), ⟨⟨by first | omega | (split <;> omega), by first | omega | (split <;> omega), (rowL_extract (z := 1) (fun _ => rfl) (by omega))⟩, ⟨⟨by first | omega | (split <;> omega), by first | omega | (split <;> omega), (rowL_extract (z := 1) (fun _ => rfl) (by omega))⟩, ⟨⟨by first | omega | (split <;> omega), by first | omega | (split <;> omega), (rowL_extract (z := 1) (fun _ => rfl) (by omega))⟩, ⟨(ltq_t q0), trivial⟩⟩⟩⟩⟩⟩ (by kernel_rfl) (by kernel_rfl))).cast (by (rw [s2, ← Int.add_assoc]; done))
    ·
     have hp3 : AllP (rKept_p3 B s load days t kind ration d i stock w dJ0) := by
      exact ⟨(ltq_f (Int.not_lt.1 q0)), trivial⟩
     by_cases q1 : (stock : Int) < (Int.tdiv (List.getD t.uses kind.toNat default * ration + 999) 1000)
     ·
      have hp4 : AllP (rKept_p4 B s load days t kind ration d i stock w dJ0) := by
       exact ⟨(ltq_t q1), hp3⟩
      by_cases q2 : (w : Int) < (0)
      ·
       have s2 := gsum_nil (t := t) (kind := kind) (l := load) (i := i) (by omega)
       exact ((ih0 _ (by omega)).1 (d + 1) (if stock - Int.tdiv (List.getD t.uses kind.toNat default * ration + 999) 1000 > 0 then stock - Int.tdiv (List.getD t.uses kind.toNat default * ration + 999) 1000 else 0) (d) rfl (by omega) (by omega) (by omega)
        (hg0.landM okF hJ mixed_ok (rKept_s6 B s load days t kind ration d i stock w dJ0)
        ⟨(wq_in (by omega) (by omega)), ⟨(wq_in (by omega) (by omega)), ⟨(ltq_t q2), hp4⟩⟩⟩ (by kernel_rfl) (by kernel_rfl))).cast (by (rw [s2]; exact congrArg pairV (kD (by split <;> omega) (by split <;> omega))))
      ·
       have s2 := gsum_nil (t := t) (kind := kind) (l := load) (i := i) (by omega)
       exact ((ih0 _ (by omega)).1 (d + 1) (if stock - Int.tdiv (List.getD t.uses kind.toNat default * ration + 999) 1000 > 0 then stock - Int.tdiv (List.getD t.uses kind.toNat default * ration + 999) 1000 else 0) (w) rfl (by omega) (by omega) (by with_reducible assumption)
        (hg0.landM okF hJ mixed_ok (rKept_s7 B s load days t kind ration d i stock w dJ0)
        ⟨(wq_in (by omega) (by omega)), ⟨(wq_in (by omega) (by omega)), ⟨(ltq_f (Int.not_lt.1 q2)), hp4⟩⟩⟩ (by kernel_rfl) (by kernel_rfl))).cast (by (rw [s2]; exact congrArg pairV (kD (by split <;> omega) (by split <;> omega))))
     ·
      have s2 := gsum_nil (t := t) (kind := kind) (l := load) (i := i) (by omega)
      exact ((ih0 _ (by omega)).1 (d + 1) (if stock - Int.tdiv (List.getD t.uses kind.toNat default * ration + 999) 1000 > 0 then stock - Int.tdiv (List.getD t.uses kind.toNat default * ration + 999) 1000 else 0) (w) rfl (by omega) (by omega) (by with_reducible assumption)
       (hg0.landM okF hJ mixed_ok (rKept_s8 B s load days t kind ration d i stock w dJ0)
       ⟨(wq_in (by omega) (by omega)), ⟨(wq_in (by omega) (by omega)), ⟨(ltq_f (Int.not_lt.1 q1)), hp3⟩⟩⟩ (by kernel_rfl) (by kernel_rfl))).cast (by (rw [s2]; exact congrArg pairV (kD (by split <;> omega) (by split <;> omega))))
set_option maxHeartbeats 4000000 in
theorem rKept_e (s : ShStore) (load : List Int) (days : Int) (t : ShTruth) (kind ration : Int) (hs : storeB s = true) (hl : load.length ≤ 10) (hx : ∀ x ∈ load, 0 ≤ x ∧ x < s.lots.length) (ht : truthB s days t = true) (hd : 0 ≤ days ∧ days ≤ 300) (hk : 0 ≤ kind ∧ kind < s.stock.length) (hr : 0 ≤ ration ∧ ration ≤ 1001) {B : Lo} (hJ : ∀ w, B.has w → J0 w) : EndsT Tryz.prog B (entryC Tryz.prog 41 74 (([.agg (encStore s).toArray, slI load, .int .i64 days, .agg (encTruth t).toArray, .int .i64 kind, .int .i64 ration]).map (pushT 0 4))) (pairV (keptF (useR t kind ration) (gsum t kind load) (comesT t) (upI 0 days) (-1, s.stock.getD kind.toNat default))) := by
 have ht' := ht; simp only [truthB, gapsB, Bool.and_eq_true, decide_eq_true_iff, List.all_eq_true, inB_iff] at ht'
 have hgp := store_gap hs
 have hst := store_stock hs
 have hrows := truth_rows hs ht'.2.2
 have hus := (inSpans_facts ht'.1)
 have hgg : ∀ x ∈ t.gaps, 0 ≤ x ∧ x ≤ 60 := fun x h => by have := ht'.2.1.2.1 x h; omega
 have hgl : t.gaps.length ≤ 300 := ht'.2.1.1
 have hu1 := hus.2 kind hk.1 (by omega)
 have hu2 := hst.2.2.2 _ (getD_mem (l := s.use) hk.1 (by omega))
 have hs1 := hst.2.1 _ (getD_mem (l := s.stock) hk.1 hk.2)
 have hu3 : 0 ≤ t.uses.getD kind.toNat default * ration := Int.mul_nonneg (by omega) (by omega)
 have hu4 : t.uses.getD kind.toNat default * ration ≤ 1000 * 1001 := Int.mul_le_mul (by omega) (by omega) (by omega) (by omega)
 have hu5 : (t.uses.getD kind.toNat default * ration + 999).tdiv 1000 = (t.uses.getD kind.toNat default * ration + 999) / 1000 := Int.tdiv_eq_ediv_of_nonneg (by omega)
 have hU : useR t kind ration = (t.uses.getD kind.toNat default * ration + 999).tdiv 1000 := rfl
 exact ((rKept_ls s load days t kind ration hs hl hx ht hd hk hr hJ _).1 (0) (List.getD s.stock kind.toNat default) (-1) rfl (by omega) (by omega) (by omega)
  (GoE.start.landM okF hJ mixed_ok (rKept_s9 B s load days t kind ration)
  ⟨(wrap_in (by omega) (by omega)), ⟨(wq_in (by omega) (by omega)), ⟨(wq_in (by omega) (by omega)), ⟨⟨by omega, by omega, (rowL_extract (z := 1) (fun _ => rfl) (by omega))⟩, ⟨⟨by omega, by omega, (rowL_extract (z := 1) (fun _ => rfl) (by omega))⟩, trivial⟩⟩⟩⟩⟩ (by kernel_rfl) (by kernel_rfl))).cast (by rfl)
theorem rKept (s : ShStore) (load : List Int) (days : Int) (t : ShTruth) (kind ration : Int) (hs : storeB s = true) (hl : load.length ≤ 10) (hx : ∀ x ∈ load, 0 ≤ x ∧ x < s.lots.length) (ht : truthB s days t = true) (hd : 0 ≤ days ∧ days ≤ 300) (hk : 0 ≤ kind ∧ kind < s.stock.length) (hr : 0 ≤ ration ∧ ration ≤ 1001) : PureC Tryz.prog J0 41 #[.agg (encStore s).toArray, slI load, .int .i64 days, .agg (encTruth t).toArray, .int .i64 kind, .int .i64 ration] (pairV (keptF (useR t kind ration) (gsum t kind load) (comesT t) (upI 0 days) (-1, s.stock.getD kind.toNat default))) :=
 pureC_of (ts := [.agg (encStore s).toArray, slI load, .int .i64 days, .agg (encTruth t).toArray, .int .i64 kind, .int .i64 ration]) J0_st (c0 := entryC Tryz.prog 41 74 (([.agg (encStore s).toArray, slI load, .int .i64 days, .agg (encTruth t).toArray, .int .i64 kind, .int .i64 ration]).map (pushT 0 4))) (by kernel_rfl) (by kernel_rfl) fun B hJ => rKept_e s load days t kind ration hs hl hx ht hd hk hr hJ
end Go.Proofs.YtiabgkiccaodmaaGreat

namespace Go.Proofs.YtiabgkiccaodmaaGreat
open Go Go.CE Go.RowKit
theorem upI_append {a b c : Int} (h1 : a ≤ b) (h2 : b ≤ c) : upI a c = upI a b ++ upI b c := by
 obtain ⟨n, hn⟩ : ∃ n : Nat, b = a + n := ⟨(b - a).toNat, by omega⟩
 subst hn
 induction n generalizing a with
 | zero => rw [upI_nil (a := a) (b := a + ((0 : Nat) : Int)) (by omega), show a + ((0 : Nat) : Int) = a by omega]; rfl
 | succ n ih =>
   rw [upI_cons (a := a) (b := c) (by omega), upI_cons (a := a) (b := a + ((n + 1 : Nat) : Int)) (by omega), show a + ((n + 1 : Nat) : Int) = (a + 1) + (n : Int) by omega, ih (by omega) (by omega)]
   rfl
theorem upI_mem {a b x : Int} (h : x ∈ upI a b) : a ≤ x ∧ x < b := by
 unfold upI at h
 obtain ⟨k, hk, rfl⟩ := List.mem_map.1 h
 have := List.mem_range.1 hk
 omega
theorem setB_setW {s x n : Int} (hs : 0 ≤ s) (hx : 0 ≤ x) (hn : 0 ≤ n) : setB (setW s x) n = (setB s n || decide (x = n)) := by
 rw [setB_eq, setB_eq]
 unfold setW orN pow2
 rw [Int.toNat_natCast, Int.toNat_natCast, Nat.testBit_or, Nat.testBit_two_pow]
 congr 1
 exact decide_eq_decide.2 (by omega)
theorem setW_0 {s n : Int} : 0 ≤ setW s n := Int.natCast_nonneg _
theorem setB_setL {n : Int} (hn : 0 ≤ n) : ∀ (l : List Int) (s : Int), (∀ x ∈ l, 0 ≤ x) → 0 ≤ s → setB (setL l s) n = (setB s n || l.contains n)
 | [], s, _, _ => by simp [setL]
 | x :: l, s, h, hs => by
   rw [setL, setB_setL hn l (setW s x) (fun y hy => h y (by simp [hy])) setW_0, setB_setW hs (h x (by simp)) hn, List.contains_cons, Bool.or_assoc]
   congr 1
   congr 1
   by_cases e : x = n
   ·subst e; simp
   ·rw [decide_eq_false e]; symm; exact beq_eq_false_iff_ne.2 (Ne.symm e)
theorem setB_zero {n : Int} : setB 0 n = false := by rw [setB_eq]; simp
theorem setB_big {s n : Int} (h0 : 0 ≤ s) (hn : lenI s ≤ n) : setB s n = false := by
 rw [setB_eq]
 refine Nat.testBit_lt_two_pow ?_
 unfold lenI at hn
 by_cases hs : s = 0
 ·subst hs; exact Nat.two_pow_pos _
 ·rw [if_neg hs] at hn
  have hb : s.toNat ≠ 0 := by omega
  have : s.toNat < 2 ^ (s.toNat.log2 + 1) := Nat.lt_log2_self
  exact Nat.lt_of_lt_of_le this (Nat.pow_le_pow_right (by decide) (by omega))
theorem nums_ge {things : Int} : ∀ {l : List Int} {least : Int}, numsB things l least = true → ∀ x ∈ l, least ≤ x ∧ x < things
 | [], _, _, x, hx => by simp at hx
 | n :: l, least, h, x, hx => by
   simp only [numsB, Bool.and_eq_true, inB_iff] at h
   rcases List.mem_cons.1 hx with rfl | hx
   ·omega
   ·have := nums_ge h.2 x hx; omega
theorem nums_filter {things : Int} : ∀ (m : Nat) (l : List Int) (least : Int), (things - least).toNat = m → numsB things l least = true → (upI least things).filter (fun n => l.contains n) = l := by
 intro m
 induction m with
 | zero =>
   intro l least hm h
   rw [upI_nil (by omega)]
   cases l with
   | nil => rfl
   | cons x l => have := nums_ge h x (by simp); omega
 | succ m ih =>
   intro l least hm h
   cases l with
   | nil => simp
   | cons x l =>
     have hx := nums_ge h x (by simp)
     rw [upI_cons (by omega)]
     by_cases e : least = x
     ·subst e
      rw [List.filter_cons_of_pos (by simp)]
      simp only [numsB, Bool.and_eq_true] at h
      congr 1
      refine (List.filter_congr fun n hn => ?_).trans (ih l (least + 1) (by omega) h.2)
      have := (upI_mem hn).1
      rw [List.contains_cons, beq_eq_false_iff_ne.2 (by omega), Bool.false_or]
     ·have hne : (x :: l).contains least = false := by
       cases hc : (x :: l).contains least with
       | false => rfl
       | true =>
         have hm2 : least ∈ x :: l := List.contains_iff_mem.1 hc
         simp only [numsB, Bool.and_eq_true, inB_iff] at h
         rcases List.mem_cons.1 hm2 with rfl | hm2
         ·exact absurd rfl e
         ·have := nums_ge h.2 least hm2; omega
      rw [List.filter_cons_of_neg (by rw [hne]; decide)]
      refine ih (x :: l) (least + 1) (by omega) ?_
      simp only [numsB, Bool.and_eq_true, inB_iff] at h ⊢
      exact ⟨by omega, h.2⟩
theorem pick_load {α : Type} [Inhabited α] {xs : List α} {load : List Int} {things : Nat} (ht : things ≤ 61) (h : numsB things load 0 = true) : pickL (setL load 0) xs 0 = load.map fun x => xs.getD x.toNat default := by
 have hin := nums_in h (Int.le_refl 0)
 have hlt := setL_lt ht load 0 hin (Int.le_refl 0) (Int.pow_pos (by decide))
 have hle := lenI_lt hlt.1 hlt.2
 have h0 : 0 ≤ lenI (setL load 0) := by unfold lenI; split <;> omega
 have e1 : (upI 0 (lenI (setL load 0))).filter (setB (setL load 0)) = (upI 0 things).filter (setB (setL load 0)) := by
  rw [upI_append (a := 0) (b := lenI (setL load 0)) (c := things) h0 hle, List.filter_append]
  have : (upI (lenI (setL load 0)) things).filter (setB (setL load 0)) = [] := by
   rw [List.filter_eq_nil_iff]
   intro n hn
   rw [setB_big hlt.1 (upI_mem hn).1]; decide
  rw [this, List.append_nil]
 have e2 : (upI 0 things).filter (setB (setL load 0)) = load := by
  refine (List.filter_congr fun n hn => ?_).trans (nums_filter _ load 0 rfl h)
  rw [setB_setL (upI_mem hn).1 load 0 (fun x hx => (hin x hx).1) (Int.le_refl 0), setB_zero, Bool.false_or]
 unfold pickL
 rw [e1, e2]
theorem load_eq {s : ShStore} {load : List Int} (hs : storeB s = true) : (numsB s.lots.length load 0 && decide (wsum s load ≤ s.hold)) = loadB s load := by
 have hm := store_lots hs
 unfold loadB fitsB wsum
 cases h : numsB s.lots.length load 0 with
 | false => rfl
 | true => rw [pick_load (by omega) h, List.map_map]; rfl
theorem brought_eq {s : ShStore} {t : ShTruth} {load : List Int} {k : Int} (hs : storeB s = true) (h : loadB s load = true) : broughtL (setL load 0) t.goods k = gsum t k load := by
 have hm := store_lots hs
 simp only [loadB, Bool.and_eq_true] at h
 unfold broughtL gsum
 rw [pick_load (by omega) h.1, List.map_map]; rfl
theorem ships_get {days : Int} : ∀ (l : List Int) (day : Int) (bs : List Bool) (d : Int), (∀ g ∈ l, 0 ≤ g) → 0 ≤ day → bs.length = days.toNat → 0 ≤ d → d < days → (shipsL days l day bs).getD d.toNat default = (bs.getD d.toNat default || comesL d l day)
 | [], day, bs, d, _, _, _, _, _ => by simp [shipsL, comesL]
 | g :: l, day, bs, d, h, h0, hb, d0, d1 => by
   have hg := h g (by simp)
   simp only [shipsL, comesL]
   rw [ships_get l (day + g) _ d (fun x hx => h x (by simp [hx])) (by omega) (by cases decide (day + g < days) <;> simp [hb]) d0 d1, ← Bool.or_assoc]
   congr 1
   have hk : d.toNat < bs.length := by omega
   by_cases e : day + g < days
   ·rw [decide_eq_true e, cond_true]
    simp only [List.getD_eq_getElem?_getD, List.getElem?_set]
    by_cases e2 : day + g = d
    ·rw [if_pos (by omega), decide_eq_true e2, if_pos (by omega)]; simp
    ·rw [if_neg (by omega), decide_eq_false e2, Bool.or_false]
   ·rw [decide_eq_false e, cond_false, decide_eq_false (by omega), Bool.or_false]
theorem ships0_get {days d : Int} {gaps : List Int} (h : ∀ g ∈ gaps, 0 ≤ g) (d0 : 0 ≤ d) (d1 : d < days) : (ships0 days gaps).getD d.toNat default = comesL d gaps 0 := by
 unfold ships0
 rw [ships_get gaps 0 _ d h (Int.le_refl 0) (by simp) d0 d1]
 have hk : d.toNat < days.toNat := by omega
 simp [List.getD_eq_getElem?_getD, hk]
theorem kept_eq {use br : Int} {comes : Int → Bool} : ∀ (cs : List Bool) (d left w : Int), 0 ≤ d → (∀ j : Nat, j < cs.length → comes (d + j) = cs.getD j default) → keptF use br comes (upI d (d + cs.length)) (w, left) = (if w < 0 ∧ 0 ≤ firstD use br cs d left then firstD use br cs d left else w, leftD use br cs left)
 | [], d, left, w, h0, _ => by
   rw [upI_nil (by simp)]
   simp [keptF, firstD, leftD]
 | c :: cs, d, left, w, h0, h => by
   have hc : comes d = c := by have := h 0 (by simp); simpa using this
   rw [upI_cons (by simp; omega), show d + ((c :: cs).length : Int) = (d + 1) + cs.length by simp; omega]
   simp only [keptF]
   rw [hc]
   have eL : (left + if c = true then br else 0) = left + bif c then br else 0 := by cases c <;> rfl
   have f1 : firstD use br (c :: cs) d left = bif decide ((left + bif c then br else 0) < use) then d else firstD use br cs (d + 1) (lessD use (left + bif c then br else 0)) := rfl
   have f2 : leftD use br (c :: cs) left = leftD use br cs (lessD use (left + bif c then br else 0)) := rfl
   rw [eL, f1, f2]
   generalize (left + bif c then br else 0 : Int) = L at *
   have hs : (if 0 < L - use then L - use else 0) = lessD use L := by unfold lessD; split <;> split <;> omega
   rw [hs, kept_eq cs (d + 1) (lessD use L) _ (by omega) (fun j hj => by
    have := h (j + 1) (by simp; omega)
    rw [show d + ((j + 1 : Nat) : Int) = d + 1 + (j : Int) by omega] at this
    rw [this]; simp)]
   have hor := firstD_or (use := use) (br := br) cs (d + 1) (lessD use L) (by omega)
   by_cases e : L < use
   ·rw [decide_eq_true e, cond_true]
    by_cases hw : w < 0
    ·rw [if_pos (show L < use ∧ w < 0 from ⟨e, hw⟩), if_neg (by omega), if_pos (by omega)]
    ·rw [if_neg (show ¬ (L < use ∧ w < 0) by omega), if_neg (by omega), if_neg (by omega)]
   ·rw [decide_eq_false e, cond_false, if_neg (show ¬ (L < use ∧ w < 0) by omega)]
theorem play_kept {s : ShStore} {load : List Int} {days : Int} {t : ShTruth} {k : Int} (hs : storeB s = true) (hl : loadB s load = true) (ht : truthB s days t = true) (hd : 0 ≤ days ∧ days ≤ 300) :
 keptF (useR t k 1000) (gsum t k load) (comesT t) (upI 0 days) (-1, s.stock.getD k.toNat default) = (firstG (gdOf s (setL load 0) days t k), leftG (gdOf s (setL load 0) days t k)) := by
 have ht' := ht
 simp only [truthB, gapsB, Bool.and_eq_true, decide_eq_true_iff, List.all_eq_true, inB_iff] at ht'
 have hgp := store_gap hs
 have hlen : (ships0 days t.gaps).length = days.toNat := by unfold ships0; rw [shipsL_len, List.length_replicate]
 have hu : useR t k 1000 = t.uses.getD k.toNat default := by
  have hnn : 0 ≤ t.uses.getD k.toNat default := by
   by_cases hk : k.toNat < t.uses.length
   ·have hus := inSpans_facts ht'.1
    have h1 := hus.2 k.toNat (by omega) (by omega)
    have h2 := (store_stock hs).2.2.2 _ (getD_mem (l := s.use) (i := (k.toNat : Int)) (by omega) (by omega))
    rw [Int.toNat_natCast] at h1 h2
    omega
   ·rw [List.getD_eq_getElem?_getD, List.getElem?_eq_none (by omega)]; exact Int.le_refl _
  unfold useR
  rw [Int.tdiv_eq_ediv_of_nonneg (by omega)]
  omega
 have hk := kept_eq (use := useR t k 1000) (br := gsum t k load) (comes := comesT t) (ships0 days t.gaps) 0 (s.stock.getD k.toNat default) (-1) (Int.le_refl 0) (fun j hj => by
  have := ships0_get (days := days) (d := (j : Int)) (gaps := t.gaps) (fun g hg => by have := ht'.2.1.2.1 g hg; omega) (by omega) (by omega)
  rw [Int.zero_add, ← Int.toNat_natCast j, this]; rfl)
 rw [hlen, show (0 : Int) + (days.toNat : Int) = days by omega] at hk
 rw [hk, hu, ← brought_eq hs hl]
 have hor := firstD_or (use := t.uses.getD k.toNat default) (br := broughtL (setL load 0) t.goods k) (ships0 days t.gaps) 0 (s.stock.getD k.toNat default) (Int.le_refl 0)
 unfold firstG leftG gdOf
 simp only
 congr 1
 split <;> omega
theorem gds_get {s : ShStore} {load days k : Int} {t : ShTruth} (h0 : 0 ≤ k) (h1 : k < s.stock.length) : (gdsL s load days t).getD k.toNat default = gdOf s load days t k := by
 have hk : k.toNat < (upI 0 (s.stock.length : Int)).length := by rw [upI_len]; omega
 have e := upI_getD h0 h1
 rw [List.getD_eq_getElem?_getD, List.getElem?_eq_getElem hk] at e
 unfold gdsL
 rw [List.getD_eq_getElem?_getD, List.getElem?_map, List.getElem?_eq_getElem hk]
 simp only [Option.map_some, Option.getD_some] at e ⊢
 rw [e]
theorem gds_len {s : ShStore} {load days : Int} {t : ShTruth} : (gdsL s load days t).length = s.stock.length := by simp [gdsL, upI_len]
theorem mapG_get {s : ShStore} {load days k : Int} {t : ShTruth} {f : Gd → Int} (h0 : 0 ≤ k) (h1 : k < s.stock.length) : ((gdsL s load days t).map f).getD k.toNat default = f (gdOf s load days t k) := by
 have hk : k.toNat < (gdsL s load days t).length := by rw [gds_len]; omega
 have e := gds_get (s := s) (load := load) (days := days) (t := t) h0 h1
 rw [List.getD_eq_getElem?_getD, List.getElem?_eq_getElem hk] at e
 rw [List.getD_eq_getElem?_getD, List.getElem?_map, List.getElem?_eq_getElem hk]
 simp only [Option.map_some, Option.getD_some] at e ⊢
 rw [e]
end Go.Proofs.YtiabgkiccaodmaaGreat

namespace Go.Proofs.YtiabgkiccaodmaaGreat
open Go Go.CE Go.RowKit
set_option maxRecDepth 100000
theorem rStore2 (s : ShStore) (hb : ∀ l ∈ s.lots, l.goods.length ≤ 8) : PureC Tryz.prog J0 44 #[.agg (encStore s).toArray] (.bool (storeB s)) := by
 have h := rStore s hb; rw [storeR_eq] at h; exact h
theorem rLoad2 (s : ShStore) (load : List Int) (hs : storeB s = true) (hl : load.length ≤ 10) : PureC Tryz.prog J0 56 #[.agg (encStore s).toArray, slI load] (.bool (loadB s load)) := by
 have h := rLoad s load hs hl; rw [load_eq hs] at h; exact h
theorem rTruth2 (s : ShStore) (days : Int) (t : ShTruth) (hs : storeB s = true) : PureC Tryz.prog J0 40 #[.agg (encStore s).toArray, .int .i64 days, .agg (encTruth t).toArray] (.bool (truthB s days t)) := by
 have h := rTruth s days t hs; rw [truthR_eq hs] at h; exact h
theorem rKept2 (s : ShStore) (load : List Int) (days : Int) (t : ShTruth) (kind : Int) (hs : storeB s = true) (hl : load.length ≤ 10) (hx : loadB s load = true) (ht : truthB s days t = true) (hd : 0 ≤ days ∧ days ≤ 300) (hk : 0 ≤ kind ∧ kind < s.stock.length) : PureC Tryz.prog J0 41 #[.agg (encStore s).toArray, slI load, .int .i64 days, .agg (encTruth t).toArray, .int .i64 kind, .int .i64 1000] (.tuple #[.int .i64 (firstG (gdOf s (setL load 0) days t kind)), .int .i64 (leftG (gdOf s (setL load 0) days t kind))]) := by
 have hx' := hx
 simp only [loadB, Bool.and_eq_true] at hx'
 have h := rKept s load days t kind 1000 hs hl (nums_in hx'.1 (Int.le_refl 0)) ht hd hk (by omega)
 rw [play_kept hs hx ht hd] at h
 exact h
noncomputable def lloaded_z0 (s : ShStore) : Array Value := #[slT s.stock.length (rowL encI s.stock), slT s.use.length (rowL encSp s.use), .int .i64 s.glo, .int .i64 s.ghi, slT s.lots.length (rowL encLot s.lots), .int .i64 s.hold]
noncomputable def lloaded_p0 (B : Lo) (s : ShStore) (load : List Int) (days : Int) : List Prop := [AllP [] ∧ PureC Tryz.prog J0 44 #[Value.agg (lloaded_z0 s)] (Value.bool true)] ++ ([] : List Prop)
noncomputable def lloaded_q0 (s : ShStore) (load : List Int) (days : Int) : ScriptT := [(3, HintT.pure (Value.bool true) [])]
noncomputable def lloaded_p1 (B : Lo) (s : ShStore) (load : List Int) (days : Int) : List Prop := [AllP [] ∧ PureC Tryz.prog J0 56 #[Value.agg (lloaded_z0 s), slT load.length (rowL encI load)] (Value.bool true)] ++ lloaded_p0 B s load days
noncomputable def lloaded_q1 (s : ShStore) (load : List Int) (days : Int) : ScriptT := lloaded_q0 s load days ++ [(7, HintT.pure (Value.bool true) [])]
theorem lloaded_s0 (B : Lo) (s : ShStore) (load : List Int) (days : Int) : endT (srunT Tryz.prog (okFn Tryz.prog) J0 B 6 1 (entryC Tryz.prog 39 18 (([.agg (encStore s).toArray, slI load, .int .i64 days]).map (pushT 0 4))) H00 1
 (lloaded_q1 s load days ++ [(11, HintT.pure (Value.bool true) [])]) 0 [] []) [] = some (Value.bool true,
 [AllP [] ∧ PureC Tryz.prog J0 52 #[.int .i64 days] (Value.bool true)] ++ lloaded_p1 B s load days) := by kernel_rfl
theorem lloaded_s1 (B : Lo) (s : ShStore) (load : List Int) (days : Int) : endT (srunT Tryz.prog (okFn Tryz.prog) J0 B 6 1 (entryC Tryz.prog 39 18 (([.agg (encStore s).toArray, slI load, .int .i64 days]).map (pushT 0 4))) H00 1
 (lloaded_q1 s load days ++ [(11, HintT.pure (Value.bool false) [])]) 0 [] []) [] = some (Value.bool false,
 [AllP [] ∧ PureC Tryz.prog J0 52 #[.int .i64 days] (Value.bool false)] ++ lloaded_p1 B s load days) := by kernel_rfl
theorem lloaded_s2 (B : Lo) (s : ShStore) (load : List Int) (days : Int) : endT (srunT Tryz.prog (okFn Tryz.prog) J0 B 6 1 (entryC Tryz.prog 39 18 (([.agg (encStore s).toArray, slI load, .int .i64 days]).map (pushT 0 4))) H00 1
 (lloaded_q0 s load days ++ [(7, HintT.pure (Value.bool false) [])]) 0 [] []) [] = some (Value.bool false,
 [AllP [] ∧ PureC Tryz.prog J0 56 #[Value.agg (lloaded_z0 s), slT load.length (rowL encI load)] (Value.bool false)] ++ lloaded_p0 B s load days) := by kernel_rfl
theorem lloaded_s3 (B : Lo) (s : ShStore) (load : List Int) (days : Int) : endT (srunT Tryz.prog (okFn Tryz.prog) J0 B 6 1 (entryC Tryz.prog 39 18 (([.agg (encStore s).toArray, slI load, .int .i64 days]).map (pushT 0 4))) H00 1
 [(3, HintT.pure (Value.bool false) [])] 0 [] []) [] = some (Value.bool false,
 [AllP [] ∧ PureC Tryz.prog J0 44 #[Value.agg (lloaded_z0 s)] (Value.bool false)]) := by kernel_rfl
set_option maxHeartbeats 4000000 in
theorem lloaded_e (s : ShStore) (load : List Int) (days : Int) (hb : ∀ l ∈ s.lots, l.goods.length ≤ 8) (hl : load.length ≤ 10) {B : Lo} (hJ : ∀ w, B.has w → J0 w) : EndsT Tryz.prog B (entryC Tryz.prog 39 18 (([.agg (encStore s).toArray, slI load, .int .i64 days]).map (pushT 0 4))) (.bool (storeB s && (loadB s load && inB days 0 300))) := by
 cases q0 : storeB s with
 | true =>
   have hp0 : AllP (lloaded_p0 B s load days) := by
    exact ⟨⟨trivial, (by have t_ := rStore2 (s) (by with_reducible assumption); rw [q0] at t_; exact t_)⟩, trivial⟩
   cases q1 : loadB s load with
   | true =>
     have hp1 : AllP (lloaded_p1 B s load days) := by
      exact ⟨⟨trivial, (by have t_ := rLoad2 (s) (load) (by with_reducible assumption) (by with_reducible assumption); rw [q1] at t_; exact t_)⟩, hp0⟩
     cases q2 : inB days 0 300 with
     | true =>
       exact (GoE.endsT okF hJ mixed_ok GoE.start (lloaded_s0 B s load days)
        ⟨⟨trivial, (by have t_ := rDays (days); rw [q2] at t_; exact t_)⟩, hp1⟩).cast (by rfl)
     | false =>
       exact (GoE.endsT okF hJ mixed_ok GoE.start (lloaded_s1 B s load days)
        ⟨⟨trivial, (by have t_ := rDays (days); rw [q2] at t_; exact t_)⟩, hp1⟩).cast (by rfl)
   | false =>
     exact (GoE.endsT okF hJ mixed_ok GoE.start (lloaded_s2 B s load days)
      ⟨⟨trivial, (by have t_ := rLoad2 (s) (load) (by with_reducible assumption) (by with_reducible assumption); rw [q1] at t_; exact t_)⟩, hp0⟩).cast (by rfl)
 | false =>
   exact (GoE.endsT okF hJ mixed_ok GoE.start (lloaded_s3 B s load days)
    ⟨⟨trivial, (by have t_ := rStore2 (s) (by with_reducible assumption); rw [q0] at t_; exact t_)⟩, trivial⟩).cast (by rfl)
theorem lloaded (s : ShStore) (load : List Int) (days : Int) (hb : ∀ l ∈ s.lots, l.goods.length ≤ 8) (hl : load.length ≤ 10) : PureC Tryz.prog J0 39 #[.agg (encStore s).toArray, slI load, .int .i64 days] (.bool (storeB s && (loadB s load && inB days 0 300))) :=
 pureC_of (ts := [.agg (encStore s).toArray, slI load, .int .i64 days]) J0_st (c0 := entryC Tryz.prog 39 18 (([.agg (encStore s).toArray, slI load, .int .i64 days]).map (pushT 0 4))) (by kernel_rfl) (by kernel_rfl) fun B hJ => lloaded_e s load days hb hl hJ
def ltruth_v0 (t : ShTruth) (i : Int) : List Value := [pA 2 0, .int .i64 i]
def ltruth_o0 (t : ShTruth) (i : Int) : List Obj := [Obj.cells #[topV 1 (slT t.uses.length (rowL encI t.uses)), topV 1 (slT t.gaps.length (rowL encI t.gaps)), topV 1 (slT t.goods.length (rowL encRow t.goods))] 65]
noncomputable def ltruth_t0 : List Item := ([.code [1, 0, 1, 0, 0], .inLoop [1, 0, 1, 0, 0], .inBlock 0, .code [1, 1]]).map (it (bodyOf Tryz.prog 37))
def ltruth_h0 (B : Lo) (c0 : CF) (t : ShTruth) (i : Int) : Prop := ∃ dJ : Nat → Value, (∀ t, Loose (dJ t)) ∧ GoE Tryz.prog B c0 H00 1 (headC 37 38 (([1, 3] : List Nat).zip (ltruth_v0 t i)) dJ ltruth_t0) (headH (ltruth_o0 t i)) (2 + (ltruth_o0 t i).length) []
noncomputable def ltruth_p0 (B : Lo) (t : ShTruth) (i : Int) (dJ0 : Nat → Value) : List Prop := [ltq i (↑t.goods.length : Int) = true] ++ ([] : List Prop)
noncomputable def ltruth_q0 (t : ShTruth) (i : Int) (dJ0 : Nat → Value) : ScriptT := [(4, hvT)]
noncomputable def ltruth_p1 (B : Lo) (t : ShTruth) (i : Int) (dJ0 : Nat → Value) : List Prop := [i = (↑i.toNat : Int) ∧ Int.toNat i < List.length t.goods ∧ Array.extract (rowL encRow t.goods) (Int.toNat i * TypeInfo.size Tryz.t22) (Int.toNat i * TypeInfo.size Tryz.t22 + TypeInfo.size Tryz.t22) = #[slT (List.length (List.getD t.goods i.toNat default)) (rowL encI (List.getD t.goods i.toNat default))], ltq i 12 = true] ++ ltruth_p0 B t i dJ0
noncomputable def ltruth_q1 (t : ShTruth) (i : Int) (dJ0 : Nat → Value) : ScriptT := ltruth_q0 t i dJ0 ++ [(7, hvT), (12, HintT.tidx i.toNat #[slT (List.length (List.getD t.goods i.toNat default)) (rowL encI (List.getD t.goods i.toNat default))])]
theorem ltruth_s0 (B : Lo) (t : ShTruth) (i : Int) (dJ0 : Nat → Value) : endT (srunT Tryz.prog (okFn Tryz.prog) J0 B 14 1 (headC 37 38 (([1, 3] : List Nat).zip (ltruth_v0 t i)) dJ0 ltruth_t0) (headH (ltruth_o0 t i)) (2 + (ltruth_o0 t i).length)
 (ltruth_q1 t i dJ0 ++ [(15, hvT)]) 0 [] []) [] = some (Value.bool false,
 [ltq 8 (↑(List.length (List.getD t.goods i.toNat default)) : Int) = true] ++ ltruth_p1 B t i dJ0) := by kernel_rfl
theorem ltruth_s1 (B : Lo) (t : ShTruth) (i : Int) (dJ0 : Nat → Value) : landM (srunT Tryz.prog (okFn Tryz.prog) J0 B 14 1 (headC 37 38 (([1, 3] : List Nat).zip (ltruth_v0 t i)) dJ0 ltruth_t0) (headH (ltruth_o0 t i)) (2 + (ltruth_o0 t i).length)
 (ltruth_q1 t i dJ0 ++ [(15, hvF), (17, hvI (i + 1))]) 0 [] []) [1, 3] [(2, KS.auto)] [] = some ⟨37, 38, ltruth_t0, [], .run, none, ltruth_v0 t (i + 1), ltruth_o0 t (i + 1),
 [wq (i + 1) = i + 1, ltq 8 (↑(List.length (List.getD t.goods i.toNat default)) : Int) = false] ++ ltruth_p1 B t i dJ0⟩ := by kernel_rfl
noncomputable def ltruth_p2 (B : Lo) (t : ShTruth) (i : Int) (dJ0 : Nat → Value) : List Prop := [ltq i 12 = false] ++ ltruth_p0 B t i dJ0
noncomputable def ltruth_q2 (t : ShTruth) (i : Int) (dJ0 : Nat → Value) : ScriptT := ltruth_q0 t i dJ0 ++ [(7, hvF)]
noncomputable def ltruth_p3 (B : Lo) (t : ShTruth) (i : Int) (dJ0 : Nat → Value) : List Prop := [(!ltq 8 (↑t.uses.length : Int)) = true] ++ ltruth_p2 B t i dJ0
noncomputable def ltruth_q3 (t : ShTruth) (i : Int) (dJ0 : Nat → Value) : ScriptT := ltruth_q2 t i dJ0 ++ [(12, hvT)]
noncomputable def ltruth_p4 (B : Lo) (t : ShTruth) (i : Int) (dJ0 : Nat → Value) : List Prop := [(!ltq 9 (↑t.goods.length : Int)) = true] ++ ltruth_p3 B t i dJ0
noncomputable def ltruth_q4 (t : ShTruth) (i : Int) (dJ0 : Nat → Value) : ScriptT := ltruth_q3 t i dJ0 ++ [(17, hvT)]
theorem ltruth_s2 (B : Lo) (t : ShTruth) (i : Int) (dJ0 : Nat → Value) : endT (srunT Tryz.prog (okFn Tryz.prog) J0 B 9 1 (headC 37 38 (([1, 3] : List Nat).zip (ltruth_v0 t i)) dJ0 ltruth_t0) (headH (ltruth_o0 t i)) (2 + (ltruth_o0 t i).length)
 (ltruth_q4 t i dJ0 ++ [(23, hvT)]) 0 [] []) [] = some (Value.bool true,
 [(!ltq 310 (↑t.gaps.length : Int)) = true] ++ ltruth_p4 B t i dJ0) := by kernel_rfl
theorem ltruth_s3 (B : Lo) (t : ShTruth) (i : Int) (dJ0 : Nat → Value) : endT (srunT Tryz.prog (okFn Tryz.prog) J0 B 9 1 (headC 37 38 (([1, 3] : List Nat).zip (ltruth_v0 t i)) dJ0 ltruth_t0) (headH (ltruth_o0 t i)) (2 + (ltruth_o0 t i).length)
 (ltruth_q4 t i dJ0 ++ [(23, hvF)]) 0 [] []) [] = some (Value.bool false,
 [(!ltq 310 (↑t.gaps.length : Int)) = false] ++ ltruth_p4 B t i dJ0) := by kernel_rfl
theorem ltruth_s4 (B : Lo) (t : ShTruth) (i : Int) (dJ0 : Nat → Value) : endT (srunT Tryz.prog (okFn Tryz.prog) J0 B 9 1 (headC 37 38 (([1, 3] : List Nat).zip (ltruth_v0 t i)) dJ0 ltruth_t0) (headH (ltruth_o0 t i)) (2 + (ltruth_o0 t i).length)
 (ltruth_q3 t i dJ0 ++ [(17, hvF)]) 0 [] []) [] = some (Value.bool false,
 [(!ltq 9 (↑t.goods.length : Int)) = false] ++ ltruth_p3 B t i dJ0) := by kernel_rfl
theorem ltruth_s5 (B : Lo) (t : ShTruth) (i : Int) (dJ0 : Nat → Value) : endT (srunT Tryz.prog (okFn Tryz.prog) J0 B 9 1 (headC 37 38 (([1, 3] : List Nat).zip (ltruth_v0 t i)) dJ0 ltruth_t0) (headH (ltruth_o0 t i)) (2 + (ltruth_o0 t i).length)
 (ltruth_q2 t i dJ0 ++ [(12, hvF)]) 0 [] []) [] = some (Value.bool false,
 [(!ltq 8 (↑t.uses.length : Int)) = false] ++ ltruth_p2 B t i dJ0) := by kernel_rfl
noncomputable def ltruth_p5 (B : Lo) (t : ShTruth) (i : Int) (dJ0 : Nat → Value) : List Prop := [ltq i (↑t.goods.length : Int) = false] ++ ([] : List Prop)
noncomputable def ltruth_q5 (t : ShTruth) (i : Int) (dJ0 : Nat → Value) : ScriptT := [(4, hvF)]
noncomputable def ltruth_p6 (B : Lo) (t : ShTruth) (i : Int) (dJ0 : Nat → Value) : List Prop := [(!ltq 8 (↑t.uses.length : Int)) = true] ++ ltruth_p5 B t i dJ0
noncomputable def ltruth_q6 (t : ShTruth) (i : Int) (dJ0 : Nat → Value) : ScriptT := ltruth_q5 t i dJ0 ++ [(12, hvT)]
noncomputable def ltruth_p7 (B : Lo) (t : ShTruth) (i : Int) (dJ0 : Nat → Value) : List Prop := [(!ltq 9 (↑t.goods.length : Int)) = true] ++ ltruth_p6 B t i dJ0
noncomputable def ltruth_q7 (t : ShTruth) (i : Int) (dJ0 : Nat → Value) : ScriptT := ltruth_q6 t i dJ0 ++ [(17, hvT)]
theorem ltruth_s6 (B : Lo) (t : ShTruth) (i : Int) (dJ0 : Nat → Value) : endT (srunT Tryz.prog (okFn Tryz.prog) J0 B 9 1 (headC 37 38 (([1, 3] : List Nat).zip (ltruth_v0 t i)) dJ0 ltruth_t0) (headH (ltruth_o0 t i)) (2 + (ltruth_o0 t i).length)
 (ltruth_q7 t i dJ0 ++ [(23, hvT)]) 0 [] []) [] = some (Value.bool true,
 [(!ltq 310 (↑t.gaps.length : Int)) = true] ++ ltruth_p7 B t i dJ0) := by kernel_rfl
theorem ltruth_s7 (B : Lo) (t : ShTruth) (i : Int) (dJ0 : Nat → Value) : endT (srunT Tryz.prog (okFn Tryz.prog) J0 B 9 1 (headC 37 38 (([1, 3] : List Nat).zip (ltruth_v0 t i)) dJ0 ltruth_t0) (headH (ltruth_o0 t i)) (2 + (ltruth_o0 t i).length)
 (ltruth_q7 t i dJ0 ++ [(23, hvF)]) 0 [] []) [] = some (Value.bool false,
 [(!ltq 310 (↑t.gaps.length : Int)) = false] ++ ltruth_p7 B t i dJ0) := by kernel_rfl
theorem ltruth_s8 (B : Lo) (t : ShTruth) (i : Int) (dJ0 : Nat → Value) : endT (srunT Tryz.prog (okFn Tryz.prog) J0 B 9 1 (headC 37 38 (([1, 3] : List Nat).zip (ltruth_v0 t i)) dJ0 ltruth_t0) (headH (ltruth_o0 t i)) (2 + (ltruth_o0 t i).length)
 (ltruth_q6 t i dJ0 ++ [(17, hvF)]) 0 [] []) [] = some (Value.bool false,
 [(!ltq 9 (↑t.goods.length : Int)) = false] ++ ltruth_p6 B t i dJ0) := by kernel_rfl
theorem ltruth_s9 (B : Lo) (t : ShTruth) (i : Int) (dJ0 : Nat → Value) : endT (srunT Tryz.prog (okFn Tryz.prog) J0 B 9 1 (headC 37 38 (([1, 3] : List Nat).zip (ltruth_v0 t i)) dJ0 ltruth_t0) (headH (ltruth_o0 t i)) (2 + (ltruth_o0 t i).length)
 (ltruth_q5 t i dJ0 ++ [(12, hvF)]) 0 [] []) [] = some (Value.bool false,
 [(!ltq 8 (↑t.uses.length : Int)) = false] ++ ltruth_p5 B t i dJ0) := by kernel_rfl
theorem ltruth_s10 (B : Lo) (t : ShTruth) : landM (srunT Tryz.prog (okFn Tryz.prog) J0 B 7 1 (entryC Tryz.prog 37 38 (([.agg (encTruth t).toArray]).map (pushT 0 4))) H00 1
 [] 0 [] []) [1, 3] [(1, KS.auto)] [] = some ⟨37, 38, ltruth_t0, [], .run, none, ltruth_v0 t (0), ltruth_o0 t (0),
 []⟩ := by kernel_rfl
set_option maxHeartbeats 4000000 in
theorem ltruth_ls (t : ShTruth)  (hfacts : t.uses.length ≤ 9223372036854775807 ∧ t.gaps.length ≤ 9223372036854775807 ∧ t.goods.length ≤ 9223372036854775807) {B : Lo} (hJ : ∀ w, B.has w → J0 w) {c0 : CF} : ∀ m : Nat, (∀ (i : Int), t.goods.length - i.toNat = m → ∀ (h0 : 0 ≤ i), ltruth_h0 B c0 t i → EndsT Tryz.prog B c0 (.bool (((t.goods.take 12).drop i.toNat).all (fun l => decide (l.length ≤ 8)) && (decide (t.uses.length ≤ 8) && (decide (t.goods.length ≤ 9) && decide (t.gaps.length ≤ 310)))))) := by
 intro m0
 induction m0 using Nat.strongRecOn with
 | _ m0 ih0 =>
   intro i hm0 h0 ⟨dJ0, hdJ0, hg0⟩
   by_cases q0 : (i : Int) < ((↑t.goods.length : Int))
   ·
    have hp0 : AllP (ltruth_p0 B t i dJ0) := by
     exact ⟨(ltq_t q0), trivial⟩
    by_cases q1 : (i : Int) < (12)
    ·
     have hp1 : AllP (ltruth_p1 B t i dJ0) := by
      have s2 := drop_all2 (l := t.goods.take 12) (p := fun l => decide (l.length ≤ 8)) h0 (by rw [List.length_take]; omega)
      have e3 : (t.goods.take 12).getD i.toNat default = t.goods.getD i.toNat default := by simp only [List.getD_eq_getElem?_getD]; rw [List.getElem?_take_of_lt (by omega)]
      rw [e3] at s2
      exact ⟨⟨by omega, by omega, (rowL_extract (z := 1) (fun _ => rfl) (by omega))⟩, ⟨(ltq_t q1), hp0⟩⟩
     by_cases q2 : (8 : Int) < ((↑(List.length (List.getD t.goods i.toNat default)) : Int))
     ·
      have s2 := drop_all2 (l := t.goods.take 12) (p := fun l => decide (l.length ≤ 8)) h0 (by rw [List.length_take]; omega)
      have e3 : (t.goods.take 12).getD i.toNat default = t.goods.getD i.toNat default := by simp only [List.getD_eq_getElem?_getD]; rw [List.getElem?_take_of_lt (by omega)]
      rw [e3] at s2
      rw [decide_eq_false (by omega)] at s2
      exact (GoE.endsT okF hJ mixed_ok hg0 (ltruth_s0 B t i dJ0)
       ⟨(ltq_t q2), hp1⟩).cast (by (simp only [s2, Bool.true_and, Bool.false_and]; done))
     ·
      have s2 := drop_all2 (l := t.goods.take 12) (p := fun l => decide (l.length ≤ 8)) h0 (by rw [List.length_take]; omega)
      have e3 : (t.goods.take 12).getD i.toNat default = t.goods.getD i.toNat default := by simp only [List.getD_eq_getElem?_getD]; rw [List.getElem?_take_of_lt (by omega)]
      rw [e3] at s2
      rw [decide_eq_true (by omega)] at s2
      exact ((ih0 _ (by omega)) (i + 1) rfl (by omega)
       (hg0.landM okF hJ mixed_ok (ltruth_s1 B t i dJ0)
       ⟨(wq_in (by omega) (by omega)), ⟨(ltq_f (Int.not_lt.1 q2)), hp1⟩⟩ (by kernel_rfl) (by kernel_rfl))).cast (by (simp only [s2, Bool.true_and, Bool.false_and]; done))
    ·
     have hp2 : AllP (ltruth_p2 B t i dJ0) := by
      exact ⟨(ltq_f (Int.not_lt.1 q1)), hp0⟩
     by_cases q2 : ((↑t.uses.length : Int) : Int) ≤ (8)
     ·
      have hp3 : AllP (ltruth_p3 B t i dJ0) := by
       exact ⟨(nltq_t q2), hp2⟩
      by_cases q3 : ((↑t.goods.length : Int) : Int) ≤ (9)
      ·
       have hp4 : AllP (ltruth_p4 B t i dJ0) := by
        exact ⟨(nltq_t q3), hp3⟩
       by_cases q4 : ((↑t.gaps.length : Int) : Int) ≤ (310)
       ·
        have s2 := drop_all2 (l := t.goods.take 12) (p := fun l => decide (l.length ≤ 8)) h0 (by rw [List.length_take]; omega)
        have e3 : (t.goods.take 12).getD i.toNat default = t.goods.getD i.toNat default := by simp only [List.getD_eq_getElem?_getD]; rw [List.getElem?_take_of_lt (by omega)]
        rw [e3] at s2
        rw [decide_eq_true (by omega)] at s2
        have s2 := drop_nil2 (l := t.goods.take 12) (p := fun l => decide (l.length ≤ 8)) (i := i) (by rw [List.length_take]; omega)
        exact (GoE.endsT okF hJ mixed_ok hg0 (ltruth_s2 B t i dJ0)
         ⟨(nltq_t q4), hp4⟩).cast (by (simp only [s2, Bool.true_and]; simp_all; omega))
       ·
        have s2 := drop_all2 (l := t.goods.take 12) (p := fun l => decide (l.length ≤ 8)) h0 (by rw [List.length_take]; omega)
        have e3 : (t.goods.take 12).getD i.toNat default = t.goods.getD i.toNat default := by simp only [List.getD_eq_getElem?_getD]; rw [List.getElem?_take_of_lt (by omega)]
        rw [e3] at s2
        rw [decide_eq_true (by omega)] at s2
        have s2 := drop_nil2 (l := t.goods.take 12) (p := fun l => decide (l.length ≤ 8)) (i := i) (by rw [List.length_take]; omega)
        exact (GoE.endsT okF hJ mixed_ok hg0 (ltruth_s3 B t i dJ0)
         ⟨(nltq_f (Int.not_le.1 q4)), hp4⟩).cast (by (simp only [s2, Bool.true_and]; simp_all; omega))
      ·
       have s2 := drop_nil2 (l := t.goods.take 12) (p := fun l => decide (l.length ≤ 8)) (i := i) (by rw [List.length_take]; omega)
       exact (GoE.endsT okF hJ mixed_ok hg0 (ltruth_s4 B t i dJ0)
        ⟨(nltq_f (Int.not_le.1 q3)), hp3⟩).cast (by (simp only [s2, Bool.true_and]; simp_all; omega))
     ·
      have s2 := drop_nil2 (l := t.goods.take 12) (p := fun l => decide (l.length ≤ 8)) (i := i) (by rw [List.length_take]; omega)
      exact (GoE.endsT okF hJ mixed_ok hg0 (ltruth_s5 B t i dJ0)
       ⟨(nltq_f (Int.not_le.1 q2)), hp2⟩).cast (by (simp only [s2, Bool.true_and]; simp_all; omega))
   ·
    have hp5 : AllP (ltruth_p5 B t i dJ0) := by
     exact ⟨(ltq_f (Int.not_lt.1 q0)), trivial⟩
    by_cases q1 : ((↑t.uses.length : Int) : Int) ≤ (8)
    ·
     have hp6 : AllP (ltruth_p6 B t i dJ0) := by
      exact ⟨(nltq_t q1), hp5⟩
     by_cases q2 : ((↑t.goods.length : Int) : Int) ≤ (9)
     ·
      have hp7 : AllP (ltruth_p7 B t i dJ0) := by
       exact ⟨(nltq_t q2), hp6⟩
      by_cases q3 : ((↑t.gaps.length : Int) : Int) ≤ (310)
      ·
       have s2 := drop_nil2 (l := t.goods.take 12) (p := fun l => decide (l.length ≤ 8)) (i := i) (by rw [List.length_take]; omega)
       exact (GoE.endsT okF hJ mixed_ok hg0 (ltruth_s6 B t i dJ0)
        ⟨(nltq_t q3), hp7⟩).cast (by (simp only [s2, Bool.true_and]; simp_all; omega))
      ·
       have s2 := drop_nil2 (l := t.goods.take 12) (p := fun l => decide (l.length ≤ 8)) (i := i) (by rw [List.length_take]; omega)
       exact (GoE.endsT okF hJ mixed_ok hg0 (ltruth_s7 B t i dJ0)
        ⟨(nltq_f (Int.not_le.1 q3)), hp7⟩).cast (by (simp only [s2, Bool.true_and]; simp_all; omega))
     ·
      have s2 := drop_nil2 (l := t.goods.take 12) (p := fun l => decide (l.length ≤ 8)) (i := i) (by rw [List.length_take]; omega)
      exact (GoE.endsT okF hJ mixed_ok hg0 (ltruth_s8 B t i dJ0)
       ⟨(nltq_f (Int.not_le.1 q2)), hp6⟩).cast (by (simp only [s2, Bool.true_and]; simp_all; omega))
    ·
     have s2 := drop_nil2 (l := t.goods.take 12) (p := fun l => decide (l.length ≤ 8)) (i := i) (by rw [List.length_take]; omega)
     exact (GoE.endsT okF hJ mixed_ok hg0 (ltruth_s9 B t i dJ0)
      ⟨(nltq_f (Int.not_le.1 q1)), hp5⟩).cast (by (simp only [s2, Bool.true_and]; simp_all; omega))
set_option maxHeartbeats 4000000 in
theorem ltruth_e (t : ShTruth)  (hfacts : t.uses.length ≤ 9223372036854775807 ∧ t.gaps.length ≤ 9223372036854775807 ∧ t.goods.length ≤ 9223372036854775807) {B : Lo} (hJ : ∀ w, B.has w → J0 w) : EndsT Tryz.prog B (entryC Tryz.prog 37 38 (([.agg (encTruth t).toArray]).map (pushT 0 4))) (.bool (((t.goods.take 12).all fun l => decide (l.length ≤ 8)) && (decide (t.uses.length ≤ 8) && (decide (t.goods.length ≤ 9) && decide (t.gaps.length ≤ 310))))) := by
 exact ((ltruth_ls t hfacts hJ _) (0) rfl (by omega)
  (GoE.start.landM okF hJ mixed_ok (ltruth_s10 B t)
  trivial (by kernel_rfl) (by kernel_rfl))).cast (by rfl)
theorem ltruth (t : ShTruth)  : PureC Tryz.prog J0 37 #[.agg (encTruth t).toArray] (.bool (((t.goods.take 12).all fun l => decide (l.length ≤ 8)) && (decide (t.uses.length ≤ 8) && (decide (t.goods.length ≤ 9) && decide (t.gaps.length ≤ 310))))) :=
 pureC_ofF (ts := [.agg (encTruth t).toArray]) (t.uses.length ≤ 9223372036854775807 ∧ t.gaps.length ≤ 9223372036854775807 ∧ t.goods.length ≤ 9223372036854775807) (fun _ _ ht => ⟨ht.ln2 (i := 0) (j := 0) rfl rfl, ht.ln2 (i := 0) (j := 1) rfl rfl, ht.ln2 (i := 0) (j := 2) rfl rfl⟩) J0_st (c0 := entryC Tryz.prog 37 38 (([.agg (encTruth t).toArray]).map (pushT 0 4))) (by kernel_rfl) (by kernel_rfl) fun hfacts B hJ => ltruth_e t  hfacts hJ
def shortS (s : ShStore) : Bool := ((s.lots.take 12).all fun l => decide (l.goods.length ≤ 8)) && (decide (s.stock.length ≤ 8) && (decide (s.use.length ≤ 8) && decide (s.lots.length ≤ 9)))
theorem shortS_facts {s : ShStore} (h : shortS s = true) : ∀ l ∈ s.lots, l.goods.length ≤ 8 := by
 simp only [shortS, Bool.and_eq_true, decide_eq_true_iff, List.all_eq_true] at h
 intro l hl
 refine h.1 l ?_
 rw [List.take_of_length_le (by omega)]; exact hl
theorem lstore2 (s : ShStore) : PureC Tryz.prog J0 36 #[.agg (encStore s).toArray] (.bool (shortS s)) := lstore s
def shortT (t : ShTruth) : Bool := ((t.goods.take 12).all fun l => decide (l.length ≤ 8)) && (decide (t.uses.length ≤ 8) && (decide (t.goods.length ≤ 9) && decide (t.gaps.length ≤ 310)))
theorem ltruth2 (t : ShTruth) : PureC Tryz.prog J0 37 #[.agg (encTruth t).toArray] (.bool (shortT t)) := ltruth t
def wPlays_v0 (s : ShStore) (load : List Int) (days : Int) (t : ShTruth) (k : Int) : List Value := [topV 1 (slT load.length (rowL encI load)), .int .i64 days, pA 2 0, pA 3 0, topV 1 (slT (List.length (List.map firstG (gdsL s (setL load 0) days t))) (rowL encI (List.map firstG (gdsL s (setL load 0) days t)))), topV 1 (slT (List.length (List.map leftG (gdsL s (setL load 0) days t))) (rowL encI (List.map leftG (gdsL s (setL load 0) days t)))), .int .i64 k]
def wPlays_o0 (s : ShStore) (load : List Int) (days : Int) (t : ShTruth) (k : Int) : List Obj := [Obj.cells #[topV 1 (slT s.stock.length (rowL encI s.stock)), topV 1 (slT s.use.length (rowL encSp s.use)), .int .i64 s.glo, .int .i64 s.ghi, topV 1 (slT s.lots.length (rowL encLot s.lots)), .int .i64 s.hold] 62, Obj.cells #[topV 1 (slT t.uses.length (rowL encI t.uses)), topV 1 (slT t.gaps.length (rowL encI t.gaps)), topV 1 (slT t.goods.length (rowL encRow t.goods))] 65]
noncomputable def wPlays_t0 : List Item := ([.code [1, 1, 1, 1, 1, 0, 1, 0, 0], .inLoop [1, 1, 1, 1, 1, 0, 1, 0, 0], .inBlock 0, .code [1, 1, 1, 1, 1, 1]]).map (it (bodyOf Tryz.prog 7))
def wPlays_h0 (B : Lo) (c0 : CF) (s : ShStore) (load : List Int) (days : Int) (t : ShTruth) (k : Int) : Prop := ∃ dJ : Nat → Value, (∀ t, Loose (dJ t)) ∧ GoE Tryz.prog B c0 H00 1 (headC 7 112 (([1, 2, 4, 7, 9, 10, 12] : List Nat).zip (wPlays_v0 s load days t k)) dJ wPlays_t0) (headH (wPlays_o0 s load days t k)) (2 + (wPlays_o0 s load days t k).length) []
noncomputable def wPlays_z0 (s : ShStore) (load : List Int) (days : Int) (t : ShTruth) : Array Value := #[Value.agg #[slT s.stock.length (rowL encI s.stock), slT s.use.length (rowL encSp s.use), .int .i64 s.glo, .int .i64 s.ghi, slT s.lots.length (rowL encLot s.lots), .int .i64 s.hold], slT load.length (rowL encI load), .int .i64 days, Value.agg #[slT t.uses.length (rowL encI t.uses), slT t.gaps.length (rowL encI t.gaps), slT t.goods.length (rowL encRow t.goods)]]
noncomputable def wPlays_z1 (s : ShStore) (load : List Int) (days : Int) : Array Value := #[Value.agg #[slT s.stock.length (rowL encI s.stock), slT s.use.length (rowL encSp s.use), .int .i64 s.glo, .int .i64 s.ghi, slT s.lots.length (rowL encLot s.lots), .int .i64 s.hold], slT load.length (rowL encI load), .int .i64 days]
noncomputable def wPlays_z2 (s : ShStore) : Array Value := #[slT s.stock.length (rowL encI s.stock), slT s.use.length (rowL encSp s.use), .int .i64 s.glo, .int .i64 s.ghi, slT s.lots.length (rowL encLot s.lots), .int .i64 s.hold]
noncomputable def wPlays_z3 (t : ShTruth) : Array Value := #[slT t.uses.length (rowL encI t.uses), slT t.gaps.length (rowL encI t.gaps), slT t.goods.length (rowL encRow t.goods)]
noncomputable def wPlays_p0 (B : Lo) (s : ShStore) (load : List Int) (days : Int) (t : ShTruth) (k : Int) (dJ0 : Nat → Value) : List Prop := [k = (↑k.toNat : Int) ∧ Int.toNat k < List.length (List.map firstG (gdsL s (setL load 0) days t)) ∧ Array.extract (rowL encI (List.map firstG (gdsL s (setL load 0) days t))) (Int.toNat k * TypeInfo.size Tryz.t3) (Int.toNat k * TypeInfo.size Tryz.t3 + TypeInfo.size Tryz.t3) = #[.int .i64 (List.getD (List.map firstG (gdsL s (setL load 0) days t)) k.toNat default)], AllP [] ∧ PureC Tryz.prog J0 41 #[Value.agg (wPlays_z2 s), slT load.length (rowL encI load), .int .i64 days, Value.agg (wPlays_z3 t), .int .i64 k, .int .i64 1000] (Value.tuple #[.int .i64 (firstG (gdOf s (setL load 0) days t k)), .int .i64 (leftG (gdOf s (setL load 0) days t k))]), ltq k (↑s.stock.length : Int) = true] ++ ([] : List Prop)
noncomputable def wPlays_q0 (s : ShStore) (load : List Int) (days : Int) (t : ShTruth) (k : Int) (dJ0 : Nat → Value) : ScriptT := [(4, hvT), (10, HintT.pure (Value.tuple #[.int .i64 (firstG (gdOf s (setL load 0) days t k)), .int .i64 (leftG (gdOf s (setL load 0) days t k))]) []), (18, HintT.tidx k.toNat #[.int .i64 (List.getD (List.map firstG (gdsL s (setL load 0) days t)) k.toNat default)])]
theorem wPlays_s0 (B : Lo) (s : ShStore) (load : List Int) (days : Int) (t : ShTruth) (k : Int) (dJ0 : Nat → Value) : endT (srunT Tryz.prog (okFn Tryz.prog) J0 B 16 1 (headC 7 112 (([1, 2, 4, 7, 9, 10, 12] : List Nat).zip (wPlays_v0 s load days t k)) dJ0 wPlays_t0) (headH (wPlays_o0 s load days t k)) (2 + (wPlays_o0 s load days t k).length)
 (wPlays_q0 s load days t k dJ0 ++ [(21, hvT)]) 0 [] []) [] = some (Value.bool false,
 [(!eqq (List.getD (List.map firstG (gdsL s (setL load 0) days t)) k.toNat default) (firstG (gdOf s (setL load 0) days t k))) = true] ++ wPlays_p0 B s load days t k dJ0) := by kernel_rfl
noncomputable def wPlays_p1 (B : Lo) (s : ShStore) (load : List Int) (days : Int) (t : ShTruth) (k : Int) (dJ0 : Nat → Value) : List Prop := [k = (↑k.toNat : Int) ∧ Int.toNat k < List.length (List.map leftG (gdsL s (setL load 0) days t)) ∧ Array.extract (rowL encI (List.map leftG (gdsL s (setL load 0) days t))) (Int.toNat k * TypeInfo.size Tryz.t3) (Int.toNat k * TypeInfo.size Tryz.t3 + TypeInfo.size Tryz.t3) = #[.int .i64 (List.getD (List.map leftG (gdsL s (setL load 0) days t)) k.toNat default)], (!eqq (List.getD (List.map firstG (gdsL s (setL load 0) days t)) k.toNat default) (firstG (gdOf s (setL load 0) days t k))) = false] ++ wPlays_p0 B s load days t k dJ0
noncomputable def wPlays_q1 (s : ShStore) (load : List Int) (days : Int) (t : ShTruth) (k : Int) (dJ0 : Nat → Value) : ScriptT := wPlays_q0 s load days t k dJ0 ++ [(21, hvF), (25, HintT.tidx k.toNat #[.int .i64 (List.getD (List.map leftG (gdsL s (setL load 0) days t)) k.toNat default)])]
theorem wPlays_s1 (B : Lo) (s : ShStore) (load : List Int) (days : Int) (t : ShTruth) (k : Int) (dJ0 : Nat → Value) : endT (srunT Tryz.prog (okFn Tryz.prog) J0 B 16 1 (headC 7 112 (([1, 2, 4, 7, 9, 10, 12] : List Nat).zip (wPlays_v0 s load days t k)) dJ0 wPlays_t0) (headH (wPlays_o0 s load days t k)) (2 + (wPlays_o0 s load days t k).length)
 (wPlays_q1 s load days t k dJ0 ++ [(28, hvT)]) 0 [] []) [] = some (Value.bool false,
 [(!eqq (List.getD (List.map leftG (gdsL s (setL load 0) days t)) k.toNat default) (leftG (gdOf s (setL load 0) days t k))) = true] ++ wPlays_p1 B s load days t k dJ0) := by kernel_rfl
theorem wPlays_s2 (B : Lo) (s : ShStore) (load : List Int) (days : Int) (t : ShTruth) (k : Int) (dJ0 : Nat → Value) : landM (srunT Tryz.prog (okFn Tryz.prog) J0 B 16 1 (headC 7 112 (([1, 2, 4, 7, 9, 10, 12] : List Nat).zip (wPlays_v0 s load days t k)) dJ0 wPlays_t0) (headH (wPlays_o0 s load days t k)) (2 + (wPlays_o0 s load days t k).length)
 (wPlays_q1 s load days t k dJ0 ++ [(28, hvF), (31, hvI (k + 1))]) 0 [] []) [1, 2, 4, 7, 9, 10, 12] [(2, KS.auto), (3, KS.auto)] [] = some ⟨7, 112, wPlays_t0, [], .run, none, wPlays_v0 s load days t (k + 1), wPlays_o0 s load days t (k + 1),
 [wq (k + 1) = k + 1, (!eqq (List.getD (List.map leftG (gdsL s (setL load 0) days t)) k.toNat default) (leftG (gdOf s (setL load 0) days t k))) = false] ++ wPlays_p1 B s load days t k dJ0⟩ := by kernel_rfl
theorem wPlays_s3 (B : Lo) (s : ShStore) (load : List Int) (days : Int) (t : ShTruth) (k : Int) (dJ0 : Nat → Value) : endT (srunT Tryz.prog (okFn Tryz.prog) J0 B 9 1 (headC 7 112 (([1, 2, 4, 7, 9, 10, 12] : List Nat).zip (wPlays_v0 s load days t k)) dJ0 wPlays_t0) (headH (wPlays_o0 s load days t k)) (2 + (wPlays_o0 s load days t k).length)
 [(4, hvF), (5, HintT.pure (Value.bool true) [])] 0 [] []) [] = some (Value.bool true,
 [AllP [] ∧ PureC Tryz.prog J0 17 #[] (Value.bool true), ltq k (↑s.stock.length : Int) = false]) := by kernel_rfl
noncomputable def wPlays_p2 (B : Lo) (s : ShStore) (load : List Int) (days : Int) (t : ShTruth) : List Prop := [AllP [] ∧ PureC Tryz.prog J0 36 #[Value.agg (wPlays_z2 s)] (Value.bool true)] ++ ([] : List Prop)
noncomputable def wPlays_q2 (s : ShStore) (load : List Int) (days : Int) (t : ShTruth) : ScriptT := [(4, HintT.pure (Value.bool true) [])]
theorem wPlays_s4 (B : Lo) (s : ShStore) (load : List Int) (days : Int) (t : ShTruth) : endT (srunT Tryz.prog (okFn Tryz.prog) J0 B 10 1 (entryC Tryz.prog 7 112 (([.agg (encStore s).toArray, slI load, .int .i64 days, .agg (encTruth t).toArray]).map (pushT 0 4))) H00 1
 (wPlays_q2 s load days t ++ [(9, hvT), (16, HintT.pure (Value.bool true) [])]) 0 [] []) [] = some (Value.bool true,
 [AllP [] ∧ PureC Tryz.prog J0 17 #[] (Value.bool true), ltq 10 (↑load.length : Int) = true] ++ wPlays_p2 B s load days t) := by kernel_rfl
noncomputable def wPlays_p3 (B : Lo) (s : ShStore) (load : List Int) (days : Int) (t : ShTruth) : List Prop := [ltq 10 (↑load.length : Int) = false] ++ wPlays_p2 B s load days t
noncomputable def wPlays_q3 (s : ShStore) (load : List Int) (days : Int) (t : ShTruth) : ScriptT := wPlays_q2 s load days t ++ [(9, hvF)]
noncomputable def wPlays_p4 (B : Lo) (s : ShStore) (load : List Int) (days : Int) (t : ShTruth) : List Prop := [AllP [] ∧ PureC Tryz.prog J0 37 #[Value.agg (wPlays_z3 t)] (Value.bool true)] ++ wPlays_p3 B s load days t
noncomputable def wPlays_q4 (s : ShStore) (load : List Int) (days : Int) (t : ShTruth) : ScriptT := wPlays_q3 s load days t ++ [(13, HintT.pure (Value.bool true) [])]
noncomputable def wPlays_p5 (B : Lo) (s : ShStore) (load : List Int) (days : Int) (t : ShTruth) : List Prop := [AllP [] ∧ PureC Tryz.prog J0 40 #[Value.agg (wPlays_z2 s), .int .i64 days, Value.agg (wPlays_z3 t)] (Value.bool true), AllP [] ∧ PureC Tryz.prog J0 39 (wPlays_z1 s load days) (Value.bool true), AllP [] ∧ PureC Tryz.prog J0 38 (wPlays_z0 s load days t) (Value.tuple #[slT (List.length (List.map firstG (gdsL s (setL load 0) days t))) (rowL encI (List.map firstG (gdsL s (setL load 0) days t))), slT (List.length (List.map leftG (gdsL s (setL load 0) days t))) (rowL encI (List.map leftG (gdsL s (setL load 0) days t))), .int .i64 0])] ++ wPlays_p4 B s load days t
noncomputable def wPlays_q5 (s : ShStore) (load : List Int) (days : Int) (t : ShTruth) : ScriptT := wPlays_q4 s load days t ++ [(20, HintT.pure (Value.tuple #[slT (List.length (List.map firstG (gdsL s (setL load 0) days t))) (rowL encI (List.map firstG (gdsL s (setL load 0) days t))), slT (List.length (List.map leftG (gdsL s (setL load 0) days t))) (rowL encI (List.map leftG (gdsL s (setL load 0) days t))), .int .i64 0]) []), (31, HintT.pure (Value.bool true) []), (37, HintT.pure (Value.bool true) [])]
theorem wPlays_s5 (B : Lo) (s : ShStore) (load : List Int) (days : Int) (t : ShTruth) : endT (srunT Tryz.prog (okFn Tryz.prog) J0 B 22 1 (entryC Tryz.prog 7 112 (([.agg (encStore s).toArray, slI load, .int .i64 days, .agg (encTruth t).toArray]).map (pushT 0 4))) H00 1
 (wPlays_q5 s load days t ++ [(48, hvT)]) 0 [] []) [] = some (Value.bool false,
 [(!eqq (↑(List.length (List.map firstG (gdsL s (setL load 0) days t))) : Int) (↑s.stock.length : Int)) = true] ++ wPlays_p5 B s load days t) := by kernel_rfl
noncomputable def wPlays_p6 (B : Lo) (s : ShStore) (load : List Int) (days : Int) (t : ShTruth) : List Prop := [(!eqq (↑(List.length (List.map firstG (gdsL s (setL load 0) days t))) : Int) (↑s.stock.length : Int)) = false] ++ wPlays_p5 B s load days t
noncomputable def wPlays_q6 (s : ShStore) (load : List Int) (days : Int) (t : ShTruth) : ScriptT := wPlays_q5 s load days t ++ [(48, hvF)]
theorem wPlays_s6 (B : Lo) (s : ShStore) (load : List Int) (days : Int) (t : ShTruth) : endT (srunT Tryz.prog (okFn Tryz.prog) J0 B 22 1 (entryC Tryz.prog 7 112 (([.agg (encStore s).toArray, slI load, .int .i64 days, .agg (encTruth t).toArray]).map (pushT 0 4))) H00 1
 (wPlays_q6 s load days t ++ [(56, hvT)]) 0 [] []) [] = some (Value.bool false,
 [(!eqq (↑(List.length (List.map leftG (gdsL s (setL load 0) days t))) : Int) (↑s.stock.length : Int)) = true] ++ wPlays_p6 B s load days t) := by kernel_rfl
theorem wPlays_s7 (B : Lo) (s : ShStore) (load : List Int) (days : Int) (t : ShTruth) : landM (srunT Tryz.prog (okFn Tryz.prog) J0 B 24 1 (entryC Tryz.prog 7 112 (([.agg (encStore s).toArray, slI load, .int .i64 days, .agg (encTruth t).toArray]).map (pushT 0 4))) H00 1
 (wPlays_q6 s load days t ++ [(56, hvF)]) 0 [] []) [1, 2, 4, 7, 9, 10, 12] [(1, KS.auto), (2, KS.auto)] [] = some ⟨7, 112, wPlays_t0, [], .run, none, wPlays_v0 s load days t (0), wPlays_o0 s load days t (0),
 [(!eqq (↑(List.length (List.map leftG (gdsL s (setL load 0) days t))) : Int) (↑s.stock.length : Int)) = false] ++ wPlays_p6 B s load days t⟩ := by kernel_rfl
theorem wPlays_s8 (B : Lo) (s : ShStore) (load : List Int) (days : Int) (t : ShTruth) : endT (srunT Tryz.prog (okFn Tryz.prog) J0 B 17 1 (entryC Tryz.prog 7 112 (([.agg (encStore s).toArray, slI load, .int .i64 days, .agg (encTruth t).toArray]).map (pushT 0 4))) H00 1
 (wPlays_q4 s load days t ++ [(20, HintT.pure (Value.tuple #[slT 0 #[], slT 0 #[], .int .i64 2]) []), (31, HintT.pure (Value.bool true) []), (37, HintT.pure (Value.bool false) []), (51, HintT.pure (Value.bool true) [])]) 0 [] []) [] = some (Value.bool true,
 [AllP [] ∧ PureC Tryz.prog J0 17 #[] (Value.bool true), AllP [] ∧ PureC Tryz.prog J0 40 #[Value.agg (wPlays_z2 s), .int .i64 days, Value.agg (wPlays_z3 t)] (Value.bool false), AllP [] ∧ PureC Tryz.prog J0 39 (wPlays_z1 s load days) (Value.bool true), AllP [] ∧ PureC Tryz.prog J0 38 (wPlays_z0 s load days t) (Value.tuple #[slT 0 #[], slT 0 #[], .int .i64 2])] ++ wPlays_p4 B s load days t) := by kernel_rfl
theorem wPlays_s9 (B : Lo) (s : ShStore) (load : List Int) (days : Int) (t : ShTruth) : endT (srunT Tryz.prog (okFn Tryz.prog) J0 B 17 1 (entryC Tryz.prog 7 112 (([.agg (encStore s).toArray, slI load, .int .i64 days, .agg (encTruth t).toArray]).map (pushT 0 4))) H00 1
 (wPlays_q4 s load days t ++ [(20, HintT.pure (Value.tuple #[slT 0 #[], slT 0 #[], .int .i64 2]) []), (31, HintT.pure (Value.bool false) []), (51, HintT.pure (Value.bool true) [])]) 0 [] []) [] = some (Value.bool true,
 [AllP [] ∧ PureC Tryz.prog J0 17 #[] (Value.bool true), AllP [] ∧ PureC Tryz.prog J0 39 (wPlays_z1 s load days) (Value.bool false), AllP [] ∧ PureC Tryz.prog J0 38 (wPlays_z0 s load days t) (Value.tuple #[slT 0 #[], slT 0 #[], .int .i64 2])] ++ wPlays_p4 B s load days t) := by kernel_rfl
theorem wPlays_s10 (B : Lo) (s : ShStore) (load : List Int) (days : Int) (t : ShTruth) : endT (srunT Tryz.prog (okFn Tryz.prog) J0 B 17 1 (entryC Tryz.prog 7 112 (([.agg (encStore s).toArray, slI load, .int .i64 days, .agg (encTruth t).toArray]).map (pushT 0 4))) H00 1
 (wPlays_q4 s load days t ++ [(20, HintT.pure (Value.tuple #[slT 0 #[], slT 0 #[], .int .i64 2]) []), (31, HintT.pure (Value.bool false) []), (51, HintT.pure (Value.bool true) [])]) 0 [] []) [] = some (Value.bool true,
 [AllP [] ∧ PureC Tryz.prog J0 17 #[] (Value.bool true), AllP [] ∧ PureC Tryz.prog J0 39 (wPlays_z1 s load days) (Value.bool false), AllP [] ∧ PureC Tryz.prog J0 38 (wPlays_z0 s load days t) (Value.tuple #[slT 0 #[], slT 0 #[], .int .i64 2])] ++ wPlays_p4 B s load days t) := by kernel_rfl
theorem wPlays_s11 (B : Lo) (s : ShStore) (load : List Int) (days : Int) (t : ShTruth) : endT (srunT Tryz.prog (okFn Tryz.prog) J0 B 17 1 (entryC Tryz.prog 7 112 (([.agg (encStore s).toArray, slI load, .int .i64 days, .agg (encTruth t).toArray]).map (pushT 0 4))) H00 1
 (wPlays_q4 s load days t ++ [(20, HintT.pure (Value.tuple #[slT 0 #[], slT 0 #[], .int .i64 2]) []), (31, HintT.pure (Value.bool false) []), (51, HintT.pure (Value.bool true) [])]) 0 [] []) [] = some (Value.bool true,
 [AllP [] ∧ PureC Tryz.prog J0 17 #[] (Value.bool true), AllP [] ∧ PureC Tryz.prog J0 39 (wPlays_z1 s load days) (Value.bool false), AllP [] ∧ PureC Tryz.prog J0 38 (wPlays_z0 s load days t) (Value.tuple #[slT 0 #[], slT 0 #[], .int .i64 2])] ++ wPlays_p4 B s load days t) := by kernel_rfl
theorem wPlays_s12 (B : Lo) (s : ShStore) (load : List Int) (days : Int) (t : ShTruth) : endT (srunT Tryz.prog (okFn Tryz.prog) J0 B 10 1 (entryC Tryz.prog 7 112 (([.agg (encStore s).toArray, slI load, .int .i64 days, .agg (encTruth t).toArray]).map (pushT 0 4))) H00 1
 (wPlays_q3 s load days t ++ [(13, HintT.pure (Value.bool false) []), (16, HintT.pure (Value.bool true) [])]) 0 [] []) [] = some (Value.bool true,
 [AllP [] ∧ PureC Tryz.prog J0 17 #[] (Value.bool true), AllP [] ∧ PureC Tryz.prog J0 37 #[Value.agg (wPlays_z3 t)] (Value.bool false)] ++ wPlays_p3 B s load days t) := by kernel_rfl
theorem wPlays_s13 (B : Lo) (s : ShStore) (load : List Int) (days : Int) (t : ShTruth) : endT (srunT Tryz.prog (okFn Tryz.prog) J0 B 10 1 (entryC Tryz.prog 7 112 (([.agg (encStore s).toArray, slI load, .int .i64 days, .agg (encTruth t).toArray]).map (pushT 0 4))) H00 1
 [(4, HintT.pure (Value.bool false) []), (16, HintT.pure (Value.bool true) [])] 0 [] []) [] = some (Value.bool true,
 [AllP [] ∧ PureC Tryz.prog J0 17 #[] (Value.bool true), AllP [] ∧ PureC Tryz.prog J0 36 #[Value.agg (wPlays_z2 s)] (Value.bool false)]) := by kernel_rfl
set_option maxHeartbeats 4000000 in
theorem wPlays_ls (s : ShStore) (load : List Int) (days : Int) (t : ShTruth)  (hfacts : s.stock.length ≤ 9223372036854775807) {B : Lo} (hJ : ∀ w, B.has w → J0 w) {c0 : CF} : ∀ m : Nat, (∀ (k : Int), s.stock.length - k.toNat = m → ∀ (k0 : 0 ≤ k) (hs : storeB s = true) (hl : loadB s load = true) (ht : truthB s days t = true) (hd : 0 ≤ days ∧ days ≤ 300) (h10 : load.length ≤ 10), wPlays_h0 B c0 s load days t k → EndsT Tryz.prog B c0 (.bool true)) := by
 intro m0
 induction m0 using Nat.strongRecOn with
 | _ m0 ih0 =>
   intro k hm0 k0 hs hl ht hd h10 ⟨dJ0, hdJ0, hg0⟩
   have hgl := gds_len (s := s) (load := setL load 0) (days := days) (t := t)
   have hgm : ((gdsL s (setL load 0) days t).map firstG).length = s.stock.length := by rw [List.length_map, hgl]
   have hgn : ((gdsL s (setL load 0) days t).map leftG).length = s.stock.length := by rw [List.length_map, hgl]
   by_cases q0 : (k : Int) < ((↑s.stock.length : Int))
   ·
    have hp0 : AllP (wPlays_p0 B s load days t k dJ0) := by
     have m1 := mapG_get (s := s) (load := setL load 0) (days := days) (t := t) (f := firstG) k0 (by assumption)
     have m2 := mapG_get (s := s) (load := setL load 0) (days := days) (t := t) (f := leftG) k0 (by assumption)
     exact ⟨⟨by omega, by omega, (rowL_extract (z := 1) (fun _ => rfl) (by omega))⟩, ⟨⟨trivial, rKept2 (s) (load) (days) (t) (k) (by with_reducible assumption) (by with_reducible assumption) (by with_reducible assumption) (by with_reducible assumption) (by with_reducible assumption) (by omega)⟩, ⟨(ltq_t q0), trivial⟩⟩⟩
    by_cases q1 : (List.getD (List.map firstG (gdsL s (setL load 0) days t)) k.toNat default : Int) ≠ (firstG (gdOf s (setL load 0) days t k))
    ·
     have m1 := mapG_get (s := s) (load := setL load 0) (days := days) (t := t) (f := firstG) k0 (by assumption)
     have m2 := mapG_get (s := s) (load := setL load 0) (days := days) (t := t) (f := leftG) k0 (by assumption)
     exact (GoE.endsT okF hJ mixed_ok hg0 (wPlays_s0 B s load days t k dJ0)
      ⟨(neqq_t q1), hp0⟩).cast (by (exfalso; omega))
    ·
     have hp1 : AllP (wPlays_p1 B s load days t k dJ0) := by
      have m1 := mapG_get (s := s) (load := setL load 0) (days := days) (t := t) (f := firstG) k0 (by assumption)
      have m2 := mapG_get (s := s) (load := setL load 0) (days := days) (t := t) (f := leftG) k0 (by assumption)
      exact ⟨⟨by omega, by omega, (rowL_extract (z := 1) (fun _ => rfl) (by omega))⟩, ⟨(neqq_f (Decidable.of_not_not q1)), hp0⟩⟩
     by_cases q2 : (List.getD (List.map leftG (gdsL s (setL load 0) days t)) k.toNat default : Int) ≠ (leftG (gdOf s (setL load 0) days t k))
     ·
      have m1 := mapG_get (s := s) (load := setL load 0) (days := days) (t := t) (f := firstG) k0 (by assumption)
      have m2 := mapG_get (s := s) (load := setL load 0) (days := days) (t := t) (f := leftG) k0 (by assumption)
      exact (GoE.endsT okF hJ mixed_ok hg0 (wPlays_s1 B s load days t k dJ0)
       ⟨(neqq_t q2), hp1⟩).cast (by (exfalso; omega))
     ·
      have m1 := mapG_get (s := s) (load := setL load 0) (days := days) (t := t) (f := firstG) k0 (by assumption)
      have m2 := mapG_get (s := s) (load := setL load 0) (days := days) (t := t) (f := leftG) k0 (by assumption)
      exact ((ih0 _ (by omega)) (k + 1) rfl (by omega) (by with_reducible assumption) (by with_reducible assumption) (by with_reducible assumption) (by with_reducible assumption) (by with_reducible assumption)
       (hg0.landM okF hJ mixed_ok (wPlays_s2 B s load days t k dJ0)
       ⟨(wq_in (by omega) (by omega)), ⟨(neqq_f (Decidable.of_not_not q2)), hp1⟩⟩ (by kernel_rfl) (by kernel_rfl))).cast (by rfl)
   ·
    exact (GoE.endsT okF hJ mixed_ok hg0 (wPlays_s3 B s load days t k dJ0)
     ⟨⟨trivial, known⟩, ⟨(ltq_f (Int.not_lt.1 q0)), trivial⟩⟩).cast rfl
set_option maxHeartbeats 4000000 in
theorem wPlays_e (s : ShStore) (load : List Int) (days : Int) (t : ShTruth)  (hfacts : s.stock.length ≤ 9223372036854775807) {B : Lo} (hJ : ∀ w, B.has w → J0 w) : EndsT Tryz.prog B (entryC Tryz.prog 7 112 (([.agg (encStore s).toArray, slI load, .int .i64 days, .agg (encTruth t).toArray]).map (pushT 0 4))) (.bool true) := by
 have hgl := gds_len (s := s) (load := setL load 0) (days := days) (t := t)
 have hgm : ((gdsL s (setL load 0) days t).map firstG).length = s.stock.length := by rw [List.length_map, hgl]
 have hgn : ((gdsL s (setL load 0) days t).map leftG).length = s.stock.length := by rw [List.length_map, hgl]
 cases q0 : shortS s with
 | true =>
   have hp2 : AllP (wPlays_p2 B s load days t) := by
    have hb := shortS_facts ‹shortS s = true›
    exact ⟨⟨trivial, (by have t_ := lstore2 (s); rw [q0] at t_; exact t_)⟩, trivial⟩
   by_cases q1 : (10 : Int) < ((↑load.length : Int))
   ·
    exact (GoE.endsT okF hJ mixed_ok GoE.start (wPlays_s4 B s load days t)
     ⟨⟨trivial, known⟩, ⟨(ltq_t q1), hp2⟩⟩).cast rfl
   ·
    have hp3 : AllP (wPlays_p3 B s load days t) := by
     exact ⟨(ltq_f (Int.not_lt.1 q1)), hp2⟩
    cases q2 : shortT t with
    | true =>
      have hp4 : AllP (wPlays_p4 B s load days t) := by
       have hb := shortS_facts ‹shortS s = true›
       exact ⟨⟨trivial, (by have t_ := ltruth2 (t); rw [q2] at t_; exact t_)⟩, hp3⟩
      cases q3 : storeB s with
      | true =>
        cases q4 : loadB s load with
        | true =>
          cases q5 : inB days 0 300 with
          | true =>
            cases q6 : truthB s days t with
            | true =>
              have hp5 : AllP (wPlays_p5 B s load days t) := by
               have hb := shortS_facts ‹shortS s = true›
               have g2 := inB_iff.1 ‹inB days 0 300 = true›
               exact ⟨⟨trivial, (by have t_ := rTruth2 (s) (days) (t) (by with_reducible assumption); rw [q6] at t_; exact t_)⟩, ⟨⟨trivial, (by have t_ := lloaded (s) (load) (days) (by with_reducible assumption) (by omega); rw [q3, q4, q5] at t_; exact t_)⟩, ⟨⟨trivial, (by have t_ := pPlay (s) (load) (days) (t); rw [q3, q4, q5, q6] at t_; exact t_)⟩, hp4⟩⟩⟩
              by_cases q7 : ((↑(List.length (List.map firstG (gdsL s (setL load 0) days t))) : Int) : Int) ≠ ((↑s.stock.length : Int))
              ·
               have hb := shortS_facts ‹shortS s = true›
               have g2 := inB_iff.1 ‹inB days 0 300 = true›
               exact (GoE.endsT okF hJ mixed_ok GoE.start (wPlays_s5 B s load days t)
                ⟨(neqq_t q7), hp5⟩).cast (by (exfalso; omega))
              ·
               have hp6 : AllP (wPlays_p6 B s load days t) := by
                exact ⟨(neqq_f (Decidable.of_not_not q7)), hp5⟩
               by_cases q8 : ((↑(List.length (List.map leftG (gdsL s (setL load 0) days t))) : Int) : Int) ≠ ((↑s.stock.length : Int))
               ·
                have hb := shortS_facts ‹shortS s = true›
                have g2 := inB_iff.1 ‹inB days 0 300 = true›
                exact (GoE.endsT okF hJ mixed_ok GoE.start (wPlays_s6 B s load days t)
                 ⟨(neqq_t q8), hp6⟩).cast (by (exfalso; omega))
               ·
                have hb := shortS_facts ‹shortS s = true›
                have g2 := inB_iff.1 ‹inB days 0 300 = true›
                exact ((wPlays_ls s load days t hfacts hJ _) (0) rfl (by omega) (by with_reducible assumption) (by with_reducible assumption) (by with_reducible assumption) (by with_reducible assumption) (by omega)
                 (GoE.start.landM okF hJ mixed_ok (wPlays_s7 B s load days t)
                 ⟨(neqq_f (Decidable.of_not_not q8)), hp6⟩ (by kernel_rfl) (by kernel_rfl))).cast (by rfl)
            | false =>
              have hb := shortS_facts ‹shortS s = true›
              have g2 := inB_iff.1 ‹inB days 0 300 = true›
              exact (GoE.endsT okF hJ mixed_ok GoE.start (wPlays_s8 B s load days t)
               ⟨⟨trivial, known⟩, ⟨⟨trivial, (by have t_ := rTruth2 (s) (days) (t) (by with_reducible assumption); rw [q6] at t_; exact t_)⟩, ⟨⟨trivial, (by have t_ := lloaded (s) (load) (days) (by with_reducible assumption) (by omega); rw [q3, q4, q5] at t_; exact t_)⟩, ⟨⟨trivial, (by have t_ := pPlay (s) (load) (days) (t); rw [q3, q4, q5, q6] at t_; exact t_)⟩, hp4⟩⟩⟩⟩).cast rfl
          | false =>
            have hb := shortS_facts ‹shortS s = true›
            exact (GoE.endsT okF hJ mixed_ok GoE.start (wPlays_s9 B s load days t)
             ⟨⟨trivial, known⟩, ⟨⟨trivial, (by have t_ := lloaded (s) (load) (days) (by with_reducible assumption) (by omega); rw [q3, q4, q5] at t_; exact t_)⟩, ⟨⟨trivial, (by have t_ := pPlay (s) (load) (days) (t); rw [q3, q4, q5] at t_; exact t_)⟩, hp4⟩⟩⟩).cast rfl
        | false =>
          have hb := shortS_facts ‹shortS s = true›
          exact (GoE.endsT okF hJ mixed_ok GoE.start (wPlays_s10 B s load days t)
           ⟨⟨trivial, known⟩, ⟨⟨trivial, (by have t_ := lloaded (s) (load) (days) (by with_reducible assumption) (by omega); rw [q3, q4] at t_; exact t_)⟩, ⟨⟨trivial, (by have t_ := pPlay (s) (load) (days) (t); rw [q3, q4] at t_; exact t_)⟩, hp4⟩⟩⟩).cast rfl
      | false =>
        have hb := shortS_facts ‹shortS s = true›
        exact (GoE.endsT okF hJ mixed_ok GoE.start (wPlays_s11 B s load days t)
         ⟨⟨trivial, known⟩, ⟨⟨trivial, (by have t_ := lloaded (s) (load) (days) (by with_reducible assumption) (by omega); rw [q3] at t_; exact t_)⟩, ⟨⟨trivial, (by have t_ := pPlay (s) (load) (days) (t); rw [q3] at t_; exact t_)⟩, hp4⟩⟩⟩).cast rfl
    | false =>
      have hb := shortS_facts ‹shortS s = true›
      exact (GoE.endsT okF hJ mixed_ok GoE.start (wPlays_s12 B s load days t)
       ⟨⟨trivial, known⟩, ⟨⟨trivial, (by have t_ := ltruth2 (t); rw [q2] at t_; exact t_)⟩, hp3⟩⟩).cast rfl
 | false =>
   exact (GoE.endsT okF hJ mixed_ok GoE.start (wPlays_s13 B s load days t)
    ⟨⟨trivial, known⟩, ⟨⟨trivial, (by have t_ := lstore2 (s); rw [q0] at t_; exact t_)⟩, trivial⟩⟩).cast rfl
theorem wPlays (s : ShStore) (load : List Int) (days : Int) (t : ShTruth)  : PureC Tryz.prog J0 7 #[.agg (encStore s).toArray, slI load, .int .i64 days, .agg (encTruth t).toArray] (.bool true) :=
 pureC_ofF (ts := [.agg (encStore s).toArray, slI load, .int .i64 days, .agg (encTruth t).toArray]) (s.stock.length ≤ 9223372036854775807) (fun _ _ ht => ht.ln2 (i := 0) (j := 0) rfl rfl) J0_st (c0 := entryC Tryz.prog 7 112 (([.agg (encStore s).toArray, slI load, .int .i64 days, .agg (encTruth t).toArray]).map (pushT 0 4))) (by kernel_rfl) (by kernel_rfl) fun hfacts B hJ => wPlays_e s load days t  hfacts hJ
end Go.Proofs.YtiabgkiccaodmaaGreat

namespace Go.Proofs.YtiabgkiccaodmaaGreat
open Go Go.CE Go.RowKit
def shLot : Sh := shS [.slice shSpan, .int, .int]
def shStore : Sh := shS [.slice .int, .slice shSpan, shSpan, .slice shLot, .int]
def shTruth : Sh := shS [.slice .int, .slice .int, .slice (.slice .int)]
theorem dec_lot {cs : List Value} (h : shLot.ok cs) : ∃ l : ShLot, cs = encLot l := by
 obtain ⟨_, _, rfl, h1, _, _, rfl, ⟨a, _, rfl⟩, _, _, rfl, ⟨b, _, rfl⟩, rfl⟩ := h
 obtain ⟨ss, rfl⟩ := sh_slice (fun _ => dec_span) h1
 exact ⟨⟨ss, a, b⟩, rfl⟩
theorem dec_row {cs : List Value} (h : Sh.ok (.slice .int) cs) : ∃ l : Row, cs = encRow l := by
 obtain ⟨xs, rfl⟩ := sh_slice (fun _ => sh_int) h
 exact ⟨xs, rfl⟩
theorem arg_store {v : Value} (h : shStore.arg v) : ∃ s : ShStore, v = .agg (encStore s).toArray := by
 obtain ⟨cs, rfl, h⟩ := h
 obtain ⟨_, _, rfl, h1, _, _, rfl, h2, _, _, rfl, h3, _, _, rfl, h4, _, _, rfl, ⟨f, _, rfl⟩, rfl⟩ := h
 obtain ⟨xs, rfl⟩ := sh_slice (fun _ => sh_int) h1
 obtain ⟨us, rfl⟩ := sh_slice (fun _ => dec_span) h2
 obtain ⟨g, rfl⟩ := dec_span h3
 obtain ⟨ls, rfl⟩ := sh_slice (fun _ => dec_lot) h4
 exact ⟨⟨xs, us, g.lo, g.hi, ls, f⟩, rfl⟩
theorem arg_truth {v : Value} (h : shTruth.arg v) : ∃ t : ShTruth, v = .agg (encTruth t).toArray := by
 obtain ⟨cs, rfl, h⟩ := h
 obtain ⟨_, _, rfl, h1, _, _, rfl, h2, _, _, rfl, h3, rfl⟩ := h
 obtain ⟨xs, rfl⟩ := sh_slice (fun _ => sh_int) h1
 obtain ⟨ys, rfl⟩ := sh_slice (fun _ => sh_int) h2
 obtain ⟨zs, rfl⟩ := sh_slice (fun _ => dec_row) h3
 exact ⟨⟨xs, ys, zs⟩, rfl⟩
theorem arg_ints {v : Value} (h : Sh.arg (.slice .int) v) : ∃ xs : List Int, v = slI xs := by
 obtain ⟨xs, hx⟩ := sh_slice (fun _ => sh_int) (show Sh.ok (.slice .int) [v] from h)
 exact ⟨xs, by simpa using hx⟩
theorem plays_all : ∀ trs, ArgAll [shStore, .slice .int, .int, shTruth] trs → PureC Tryz.prog J0 7 trs.toArray (.bool true) := by
 rintro trs ⟨t0, _, rfl, h0, t1, _, rfl, h1, t2, _, rfl, h2, t3, _, rfl, h3, rfl⟩
 obtain ⟨s, rfl⟩ := arg_store h0
 obtain ⟨l, rfl⟩ := arg_ints h1
 obtain ⟨z, rfl⟩ := arg_int h2
 obtain ⟨t, rfl⟩ := arg_truth h3
 exact wPlays s l z t
end Go.Proofs.YtiabgkiccaodmaaGreat

namespace Go.Proofs.YtiabgkiccaodmaaGreat
open Go Go.CE Go.ChangeShapes Go.WideShapes Go.RowKit
set_option maxRecDepth 100000 in
theorem shipPlays_lifted (os : Os) (started : os.Started) (H : Type) (enc : TypeId × Value → H) :
 ReturnsInHanded {} Tryz.checked os 7 .any (Rows.shipPlaysSpec.pre6 enc Tryz.prog Tryz.f7 Rows.shipPlaysRow.domain false) (Rows.shipPlaysSpec.post enc Tryz.prog Tryz.f7 false true false false) := by
 refine returnsInHanded_of_change (C := Tryz.checked) (show ownKnob Tryz.prog.godebug = none by kernel_rfl) started (by kernel_rfl) Tryz.func7
  (ChangeSpec.witness6 (enc := enc) (C := Tryz.checked) false ⟨#[], #[Sh.zeroA shStore, Sh.zeroA ((.slice .int)), Sh.zeroA .int, Sh.zeroA shTruth], []⟩ 8 (by kernel_rfl) (by kernel_rfl) (by kernel_rfl) (by kernel_rfl)) ?_
 intro W base args ds gs before hval0 hW _ _
 have hval : ∀ (j : Nat) t v, Tryz.f7.params[j]? = some t → args[j]? = some v → Value.okWide Tryz.prog W .any base t v := hval0
 have hW' := hW
 obtain ⟨p, q, hA0, hV, rfl, _, _⟩ := hW
 obtain ⟨rfl, rfl⟩ := trodVars_none hV
 have hA1 : DataW.TrodAll enc Tryz.prog W 0 (fun _ => true) true Tryz.f7.params.toList args.toList ds p := hA0
 have hlt : ∀ x ∈ p, x.block < W.heap.size := fun x hx => hW'.lt x (by simpa using hx)
 have hch : chkAll Tryz.prog [shStore, (.slice .int), .int, shTruth] Tryz.f7.params.toList = true := by kernel_rfl
 have hrd : (Tryz.f7.params.toList.all fun t => Tryz.prog.readableRec t && decide (t < Tryz.prog.types.size)) = true := by kernel_rfl
 refine (law_call (J := J0) (ss := [shStore, (.slice .int), .int, shTruth]) trivial hch hA1 (fun j t v h1 h2 => hval j t v (by simpa using h1) h2) plays_all).mono fun e W' ⟨he, hB⟩ => ?_
 subst he
 have hB2 := trodAll_below (show laidOutB Tryz.prog = true by kernel_rfl) hB _ _ _ _ hrd hA1 hlt
 have hA : DataW.TrodAll enc Tryz.prog W 0 (fun _ => true) true Tryz.f7.params.toList args.toList ds p := hA1
 rw [Tryz.params7] at hA
 simp only [List.toList_toArray] at hA
 have hA := hA
 obtain ⟨v0, vs0, d0, ds0, p0, q0, _, rfl, _, h0, _⟩ := CE.trodAll_cons hA
 obtain ⟨v1, vs1, d1, ds1, p1, q1, _, rfl, _, h1, _⟩ := CE.trodAll_cons h0
 obtain ⟨v2, vs2, d2, ds2, p2, q2, _, rfl, _, h2, _⟩ := CE.trodAll_cons h1
 obtain ⟨v3, vs3, d3, ds3, p3, q3, _, rfl, _, h3, _⟩ := CE.trodAll_cons h2
 obtain ⟨_, rfl, _⟩ := CE.trodAll_nil h3
 exact ⟨_, rfl, _, _, _, [], _, [], hW', trodAll_mk1 (shut_bool Tryz.underlying4 _), hB2, rfl, hB.frame _, fun h => by cases h⟩
theorem shipPlays_row : Rows.ShipPlaysSaid :=
 OpenClaim.holds_of_wide 7 Tryz.f7 rfl rfl rfl rfl rfl rfl rfl ⟨rfl, rfl, rfl, rfl, rfl⟩ rfl rfl rfl rfl rfl (by kernel_rfl) Tryz.func7 (by kernel_rfl)
  (of_decide_eq_true (by kernel_rfl)) (by unfold Func.isWrapper; first | (rw [if_pos (by decide +kernel)]; kernel_rfl) | (rw [if_neg (by decide +kernel)]; exact ⟨rfl, rfl⟩))
  (fun os started H enc _ => shipPlays_lifted os started H enc)
end Go.Proofs.YtiabgkiccaodmaaGreat
