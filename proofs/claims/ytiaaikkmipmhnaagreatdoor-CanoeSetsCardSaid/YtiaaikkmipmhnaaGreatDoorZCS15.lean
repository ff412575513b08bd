/- Canoe: Past of the program; the reference's Image, both, Where, Possible. -/
import Derived.Test.YtiaaikkmipmhnaaGreatDoorZCS14
set_option linter.all false
namespace Go.Proofs.YtiaaikkmipmhnaaGreatDoor
open Go Go.CE Go.RowKit
theorem int_ext {x y : Int} (hx : 0 ≤ x) (hy : 0 ≤ y) (h : ∀ b : Int, 0 ≤ b → setB x b = setB y b) : x = y := by
  have : x.toNat = y.toNat := Nat.eq_of_testBit_eq fun k => by
    have := h (k : Int) (by omega)
    rw [setB_eq, setB_eq, Int.toNat_natCast] at this
    exact this
  omega
theorem setW_bit {o j b : Int} (j0 : 0 ≤ j) (b0 : 0 ≤ b) : setB (setW o j) b = (setB o b || decide (b = j)) := by
  rw [setB_eq, setB_eq]; unfold setW orN pow2
  rw [Int.toNat_natCast, Int.toNat_natCast, Nat.testBit_or, Nat.testBit_two_pow]
  congr 1
  exact decide_eq_decide.2 (by omega)
theorem bit_cell {v c b : Int} (h0 : 0 ≤ v) (h1 : v ≤ topI c) (c0 : 0 ≤ c) (b0 : 0 ≤ b) (h : setB v b = true) : b < c := by
  have := bit_len h0 b0 h
  have := len_cells h0 h1 c0
  omega
def addS (p : Int → Bool) (o j : Int) : Int := bif p j then setW o j else o
def addI (p : Int → Bool) (c k o : Int) : Int := (upI k c).foldl (addS p) o
theorem add_in {p : Int → Bool} {c k o : Int} (h : k < c) (hp : p k = true) : addI p c k o = addI p c (k + 1) (setW o k) := by
  unfold addI; rw [upI_cons h, List.foldl_cons]; unfold addS; rw [hp]; rfl
theorem add_out {p : Int → Bool} {c k o : Int} (h : k < c) (hp : p k = false) : addI p c k o = addI p c (k + 1) o := by
  unfold addI; rw [upI_cons h, List.foldl_cons]; unfold addS; rw [hp]; rfl
theorem add_end {p : Int → Bool} {c k o : Int} (h : c ≤ k) : addI p c k o = o := by
  unfold addI; rw [upI_nil h]; rfl
theorem add_bit {p : Int → Bool} {c b : Int} (b0 : 0 ≤ b) : ∀ (m : Nat) (k o : Int), 0 ≤ k → (c - k).toNat = m → setB (addI p c k o) b = (setB o b || (p b && decide (k ≤ b ∧ b < c))) := by
  intro m
  induction m with
  | zero => intro k o k0 hm; rw [add_end (by omega), decide_eq_false (by omega), Bool.and_false, Bool.or_false]
  | succ m ih =>
    intro k o k0 hm
    cases hp : p k with
    | true =>
      rw [add_in (by omega) hp, ih (k + 1) _ (by omega) (by omega), setW_bit k0 b0, Bool.or_assoc]
      congr 1
      by_cases e : b = k
      · subst e; rw [hp, decide_eq_true rfl, decide_eq_true (show b ≤ b ∧ b < c by omega)]; rfl
      · rw [decide_eq_false e, Bool.false_or]
        congr 1
        exact decide_eq_decide.2 (by omega)
    | false =>
      rw [add_out (by omega) hp, ih (k + 1) o (by omega) (by omega)]
      congr 1
      by_cases e : b = k
      · subst e; rw [hp, Bool.false_and, Bool.false_and]
      · congr 1
        exact decide_eq_decide.2 (by omega)
theorem add_top {p : Int → Bool} {c : Int} : ∀ (m : Nat) (k o : Int), 0 ≤ k → (c - k).toNat = m → 0 ≤ o → o ≤ topI c → 0 ≤ addI p c k o ∧ addI p c k o ≤ topI c := by
  intro m
  induction m with
  | zero => intro k o k0 hm o0 o1; rw [add_end (by omega)]; exact ⟨o0, o1⟩
  | succ m ih =>
    intro k o k0 hm o0 o1
    cases hp : p k with
    | true =>
      have hw := setW_top (s := o) (n := c) (c := k) o0 o1 k0 (by omega)
      rw [add_in (by omega) hp]; exact ih (k + 1) _ (by omega) (by omega) hw.1 hw.2
    | false => rw [add_out (by omega) hp]; exact ih (k + 1) o (by omega) (by omega) o0 o1
def imgP (row : List Int) (fr i : Int) (j : Int) : Bool := setB fr i && setB (row.getD i.toNat default) j
def imgI (row : List Int) (fr c i o : Int) : Int := (upI i c).foldl (fun o m => addI (imgP row fr m) c 0 o) o
theorem img_cons {row : List Int} {fr c i o : Int} (h : i < c) : imgI row fr c i o = imgI row fr c (i + 1) (addI (imgP row fr i) c 0 o) := by
  unfold imgI; rw [upI_cons h, List.foldl_cons]
theorem img_nil {row : List Int} {fr c i o : Int} (h : c ≤ i) : imgI row fr c i o = o := by
  unfold imgI; rw [upI_nil h]; rfl
theorem img_bit {row : List Int} {fr c b : Int} (b0 : 0 ≤ b) : ∀ (m : Nat) (i o : Int), 0 ≤ i → (c - i).toNat = m → setB (imgI row fr c i o) b = (setB o b || (((upI i c).any fun x => setB fr x && setB (row.getD x.toNat default) b) && decide (b < c))) := by
  intro m
  induction m with
  | zero => intro i o i0 hm; rw [img_nil (by omega), upI_nil (by omega)]; simp
  | succ m ih =>
    intro i o i0 hm
    rw [img_cons (by omega), ih (i + 1) _ (by omega) (by omega), add_bit b0 _ 0 o (by omega) rfl, upI_cons (show i < c by omega), List.any_cons, Bool.or_assoc]
    congr 1
    have : decide (0 ≤ b ∧ b < c) = decide (b < c) := decide_eq_decide.2 (by omega)
    rw [this]; unfold imgP
    cases decide (b < c) <;> simp
theorem img_top {row : List Int} {fr c : Int} : ∀ (m : Nat) (i o : Int), 0 ≤ i → (c - i).toNat = m → 0 ≤ o → o ≤ topI c → 0 ≤ imgI row fr c i o ∧ imgI row fr c i o ≤ topI c := by
  intro m
  induction m with
  | zero => intro i o i0 hm o0 o1; rw [img_nil (by omega)]; exact ⟨o0, o1⟩
  | succ m ih =>
    intro i o i0 hm o0 o1
    have ha := add_top (p := imgP row fr i) (c := c) _ 0 o (by omega) rfl o0 o1
    rw [img_cons (by omega)]; exact ih (i + 1) _ (by omega) (by omega) ha.1 ha.2
theorem img_lead {row : List Int} {fr c : Int} (c0 : 0 ≤ c) (hr : ∀ k : Int, 0 ≤ k → k < c → 1 ≤ row.getD k.toNat default ∧ row.getD k.toNat default ≤ topI c) (f0 : 0 ≤ fr) (f1 : fr ≤ topI c) : imgI row fr c 0 0 = leadI row fr 0 0 := by
  have hl := len_cells f0 f1 c0
  have h1 := img_top (row := row) (fr := fr) (c := c) _ 0 0 (by omega) rfl (by omega) topI_0
  have h2 := lead_top hr f0 f1 c0 _ 0 0 (by omega) rfl (by omega) topI_0
  refine int_ext h1.1 h2.1 fun b b0 => ?_
  rw [img_bit b0 _ 0 0 (by omega) rfl, lead_bit c hr hl.2 _ 0 0 (by omega) (by omega) rfl]
  congr 1
  rw [Bool.eq_iff_iff, Bool.and_eq_true, List.any_eq_true, List.any_eq_true]
  constructor
  · rintro ⟨⟨x, hx, hb⟩, _⟩
    have hu := up_ge hx
    simp only [Bool.and_eq_true] at hb
    have := bit_len f0 hu.1 hb.1
    exact ⟨x, List.mem_map.2 ⟨x.toNat, List.mem_range.2 (by omega), by omega⟩, by rw [hb.1, hb.2]; rfl⟩
  · rintro ⟨x, hx, hb⟩
    have hu := up_ge hx
    have hb' := hb
    simp only [Bool.and_eq_true] at hb'
    have hrx := hr x hu.1 (by omega)
    exact ⟨⟨x, List.mem_map.2 ⟨x.toNat, List.mem_range.2 (by omega), by omega⟩, hb⟩, decide_eq_true (bit_cell (by omega) hrx.2 c0 b0 hb'.2)⟩
def botP (a b j : Int) : Bool := setB a j && setB b j
theorem both_and {a b c : Int} (c0 : 0 ≤ c) (a0 : 0 ≤ a) (a1 : a ≤ topI c) : addI (botP a b) c 0 0 = ((andN a b : Nat) : Int) := by
  have h1 := add_top (p := botP a b) (c := c) _ 0 0 (by omega) rfl (by omega) topI_0
  refine int_ext h1.1 (Int.natCast_nonneg _) fun k k0 => ?_
  rw [add_bit k0 _ 0 0 (by omega) rfl, bit_and, show setB 0 k = false by rw [setB_eq]; simp, Bool.false_or]
  unfold botP
  cases hk : (setB a k && setB b k) with
  | false => rfl
  | true =>
    simp only [Bool.and_eq_true] at hk
    rw [decide_eq_true (show 0 ≤ k ∧ k < c from ⟨k0, bit_cell a0 a1 c0 k0 hk.1⟩)]; rfl
def psets1_v0 (s : CSea) (l : List Hour) (i : Int) : List Value := [.slice none 0 0, topV 1 (slT (List.length (paL s l)) (rowL encI (paL s l))), Value.int IntKind.i64 (↑(List.length (paL s l)) : Int), .int .i64 i]
def psets1_o0 (s : CSea) (l : List Hour) (i : Int) : List Obj := []
noncomputable def psets1_t0 : List Item := ([.code [1, 1, 1, 0, 1, 0, 0], .inLoop [1, 1, 1, 0, 1, 0, 0], .inBlock 0, .code [1, 1, 1, 1]]).map (it (bodyOf Tryz.prog 58))
def psets1_h0 (B : Lo) (c0 : CF) (s : CSea) (l : List Hour) (i : Int) : Prop := ∃ dJ : Nat → Value, (∀ t, Loose (dJ t)) ∧ GoE Tryz.prog B c0 H00 1 (headC 58 29 (([6, 17, 18, 19] : List Nat).zip (psets1_v0 s l i)) dJ psets1_t0) (headH (psets1_o0 s l i)) (2 + (psets1_o0 s l i).length) []
def psets1_v1 (s : CSea) (l : List Hour) (i : Int) (out : List Int) (out_n : Nat) : List Value := [.slice (some ⟨2, 0, none⟩) out_n 1, topV 1 (slT (List.length (paL s l)) (rowL encI (paL s l))), Value.int IntKind.i64 (↑(List.length (paL s l)) : Int), .int .i64 i]
def psets1_o1 (s : CSea) (l : List Hour) (i : Int) (out : List Int) (out_n : Nat) : List Obj := [Obj.cells (rowL encI out) 3 (0, 0)]
noncomputable def psets1_t1 : List Item := ([.code [1, 1, 1, 0, 1, 0, 0], .inLoop [1, 1, 1, 0, 1, 0, 0], .inBlock 0, .code [1, 1, 1, 1]]).map (it (bodyOf Tryz.prog 58))
def psets1_h1 (B : Lo) (c0 : CF) (s : CSea) (l : List Hour) (i : Int) (out : List Int) (out_n : Nat) : Prop := ∃ dJ : Nat → Value, (∀ t, Loose (dJ t)) ∧ GoE Tryz.prog B c0 H00 1 (headC 58 29 (([6, 17, 18, 19] : List Nat).zip (psets1_v1 s l i out out_n)) dJ psets1_t1) (headH (psets1_o1 s l i out out_n)) (2 + (psets1_o1 s l i out out_n).length) []
set_option maxRecDepth 100000 in
theorem psets1_s0 (B : Lo) (s : CSea) (l : List Hour) (i : Int) (dJ0 : Nat → Value) : landM (srunT Tryz.prog (okFn Tryz.prog) J0 B 13 1 (headC 58 29 (([6, 17, 18, 19] : List Nat).zip (psets1_v0 s l i)) dJ0 psets1_t0) (headH (psets1_o0 s l i)) (2 + (psets1_o0 s l i).length)
    [(0, hvT), (1, HintT.tidx i.toNat #[Value.int IntKind.i64 (List.getD (paL s l) i.toNat default)]), (9, hvI (i + 1))] 0 [] []) [6, 17, 18, 19] [(3, KS.cells [] (rowL encI [List.getD (paL s l) i.toNat default]))] [] = some ⟨58, 29, psets1_t1, [], .run, none, psets1_v1 s l (i + 1) ([List.getD (paL s l) i.toNat default]) (1), psets1_o1 s l (i + 1) ([List.getD (paL s l) i.toNat default]) (1),
    [CellsM 1 [] (#[Value.int IntKind.i64 (List.getD (paL s l) i.toNat default)]) (rowL encI [List.getD (paL s l) i.toNat default]), wq (i + 1) = i + 1, i = (↑i.toNat : Int) ∧ Int.toNat i < List.length (paL s l) ∧ Array.extract (rowL encI (paL s l)) (Int.toNat i * TypeInfo.size Tryz.t79) (Int.toNat i * TypeInfo.size Tryz.t79 + TypeInfo.size Tryz.t79) = #[Value.int IntKind.i64 (List.getD (paL s l) i.toNat default)], ltq i (↑(List.length (paL s l)) : Int) = true]⟩ := by kernel_rfl
set_option maxRecDepth 100000 in
theorem psets1_s1 (B : Lo) (s : CSea) (l : List Hour) (i : Int) (dJ0 : Nat → Value) : endT (srunT Tryz.prog (okFn Tryz.prog) J0 B 9 1 (headC 58 29 (([6, 17, 18, 19] : List Nat).zip (psets1_v0 s l i)) dJ0 psets1_t0) (headH (psets1_o0 s l i)) (2 + (psets1_o0 s l i).length)
    [(0, hvF)] 0 [] []) [] = some (slT 0 #[],
    [ltq i (↑(List.length (paL s l)) : Int) = false]) := by kernel_rfl
set_option maxRecDepth 100000 in
theorem psets1_s2 (B : Lo) (s : CSea) (l : List Hour) (i : Int) (out : List Int) (out_n : Nat) (dJ0 : Nat → Value) : landM (srunT Tryz.prog (okFn Tryz.prog) J0 B 13 1 (headC 58 29 (([6, 17, 18, 19] : List Nat).zip (psets1_v1 s l i out out_n)) dJ0 psets1_t1) (headH (psets1_o1 s l i out out_n)) (2 + (psets1_o1 s l i out out_n).length)
    [(0, hvT), (1, HintT.tidx i.toNat #[Value.int IntKind.i64 (List.getD (paL s l) i.toNat default)]), (7, HintT.old (Hint.app (rowL encI (out ++ [List.getD (paL s l) i.toNat default])))), (9, hvI (i + 1))] 0 [] []) [6, 17, 18, 19] [(4, KS.cells [] (rowL encI (out ++ [List.getD (paL s l) i.toNat default])))] [] = some ⟨58, 29, psets1_t1, [], .run, none, psets1_v1 s l (i + 1) (out ++ [List.getD (paL s l) i.toNat default]) (out_n + 1), psets1_o1 s l (i + 1) (out ++ [List.getD (paL s l) i.toNat default]) (out_n + 1),
    [CellsM 1 [] (rowL encI (out ++ [List.getD (paL s l) i.toNat default])) (rowL encI (out ++ [List.getD (paL s l) i.toNat default])), wq (i + 1) = i + 1, Array.size (rowL encI out) = out_n * (0 + 1) ∧ out_n + 1 ≤ maxLen ∧ (out_n + 1) * 8 ≤ 140737488355328 ∧ rowL encI out ++ #[Value.int IntKind.i64 (List.getD (paL s l) i.toNat default)] = rowL encI (out ++ [List.getD (paL s l) i.toNat default]), i = (↑i.toNat : Int) ∧ Int.toNat i < List.length (paL s l) ∧ Array.extract (rowL encI (paL s l)) (Int.toNat i * TypeInfo.size Tryz.t79) (Int.toNat i * TypeInfo.size Tryz.t79 + TypeInfo.size Tryz.t79) = #[Value.int IntKind.i64 (List.getD (paL s l) i.toNat default)], ltq i (↑(List.length (paL s l)) : Int) = true]⟩ := by kernel_rfl
set_option maxRecDepth 100000 in
theorem psets1_s3 (B : Lo) (s : CSea) (l : List Hour) (i : Int) (out : List Int) (out_n : Nat) (dJ0 : Nat → Value) : endT (srunT Tryz.prog (okFn Tryz.prog) J0 B 9 1 (headC 58 29 (([6, 17, 18, 19] : List Nat).zip (psets1_v1 s l i out out_n)) dJ0 psets1_t1) (headH (psets1_o1 s l i out out_n)) (2 + (psets1_o1 s l i out out_n).length)
    [(0, hvF)] 0 [] []) [{ k := 2, rs := [], cs := rowL encI out }] = some (slT out_n (Fz.cs { k := 2, rs := [], cs := rowL encI out }),
    [CellsT (Fz.rs { k := 2, rs := [], cs := rowL encI out }) (rowL encI out) (Fz.cs { k := 2, rs := [], cs := rowL encI out }), ltq i (↑(List.length (paL s l)) : Int) = false]) := by kernel_rfl
set_option maxRecDepth 100000 in
theorem psets1_s4 (B : Lo) (s : CSea) (l : List Hour) : landM (srunT Tryz.prog (okFn Tryz.prog) J0 B 11 1 (entryC Tryz.prog 58 29 (([.agg (encLogged s l).toArray, .int .i64 1]).map (pushT 0 4))) H00 1
    [(13, HintT.pure (slT (List.length (paL s l)) (rowL encI (paL s l))) [])] 0 [] []) [6, 17, 18, 19] [] [] = some ⟨58, 29, psets1_t0, [], .run, none, psets1_v0 s l (0), psets1_o0 s l (0),
    [AllP [] ∧ PureC Tryz.prog J0 79 #[Value.agg #[Value.int IntKind.i64 s.cells, Value.int IntKind.i64 s.start, slT s.courses.length (rowL slI2 s.courses), slT s.stars.length (rowL encI s.stars), slT s.boats.length (rowL encI s.boats), slT s.roads.length (rowL encI s.roads), slT l.length (rowL encHour l)]] (slT (List.length (paL s l)) (rowL encI (paL s l)))]⟩ := by kernel_rfl
set_option maxHeartbeats 4000000 in
theorem psets1_ls (s : CSea) (l : List Hour) (hs : seaB s = true) (hl : logB s l = true) (hn : (l.length : Int) ≤ 12) {B : Lo} (hJ : ∀ w, B.has w → J0 w) {c0 : CF} : ∀ m : Nat, (∀ (i : Int), (paL s l).length - i.toNat = m → ∀ (i0 : 0 ≤ i), psets1_h0 B c0 s l i → EndsT Tryz.prog B c0 (slI (([] : List Int) ++ (paL s l).drop i.toNat))) ∧ (∀ (i : Int) (out : List Int) (out_n : Nat), (paL s l).length - i.toNat = m → ∀ (i0 : 0 ≤ i) (hout : out_n = out.length) (houtb : (out_n : Int) ≤ i), psets1_h1 B c0 s l i out out_n → EndsT Tryz.prog B c0 (slI (out ++ (paL s l).drop i.toNat))) := by
  intro m0
  induction m0 using Nat.strongRecOn with
  | _ m0 ih0 =>
    refine ⟨?_, ?_⟩
    · intro i hm0 i0 ⟨dJ0, hdJ0, hg0⟩
      have hwl := paL_len (s := s) (l := l)
      have hwl := paL_len (s := s) (l := l)
      by_cases q0 : (i : Int) < ((↑(List.length (paL s l)) : Int))
      ·
        try have s2 := drop_cons (xs := paL s l) i0 q0
        try have s2 := drop_end (xs := paL s l) (i := i) (by omega)
        exact ((ih0 _ (by omega)).2 (i + 1) ([List.getD (paL s l) i.toNat default]) (1) rfl (by first | with_reducible assumption | omega | (simp_all; done)) (by first | with_reducible assumption | omega | (simp_all; done)) (by first | with_reducible assumption | omega | (simp_all; done))
          (hg0.landM okF hJ mixed_ok (psets1_s0 B s l i dJ0)
          ⟨(cellsM_lit (by kernel_rfl)), ⟨(wq_in (by omega) (by omega)), ⟨⟨by omega, by omega, (rowL_extract (z := 1) (fun _ => rfl) (by first | omega | (rw [List.length_set]; omega) | (rw [List.length_replicate]; omega)))⟩, ⟨(ltq_t q0), trivial⟩⟩⟩⟩ (by kernel_rfl) (by kernel_rfl))).cast (by first | (rw [s2]; simp; done) | (rw [s2, List.append_nil, hout]; done) | (rw [s2]; rfl) | (rw [s2]; done))
      ·
        try have s2 := drop_cons (xs := paL s l) i0 q0
        try have s2 := drop_end (xs := paL s l) (i := i) (by omega)
        exact (GoE.endsT okF hJ mixed_ok hg0 (psets1_s1 B s l i dJ0)
          ⟨(ltq_f (Int.not_lt.1 q0)), trivial⟩).cast (by first | (rw [s2]; simp; done) | (rw [s2, List.append_nil, hout]; done) | (rw [s2]; rfl) | (rw [s2]; done))
    · intro i out out_n hm0 i0 hout houtb ⟨dJ0, hdJ0, hg0⟩
      have hwl := paL_len (s := s) (l := l)
      have hwl := paL_len (s := s) (l := l)
      by_cases q0 : (i : Int) < ((↑(List.length (paL s l)) : Int))
      ·
        try have s2 := drop_cons (xs := paL s l) i0 q0
        try have s2 := drop_end (xs := paL s l) (i := i) (by omega)
        exact ((ih0 _ (by omega)).2 (i + 1) (out ++ [List.getD (paL s l) i.toNat default]) (out_n + 1) rfl (by first | with_reducible assumption | omega | (simp_all; done)) (by first | with_reducible assumption | omega | (simp_all; done)) (by first | with_reducible assumption | omega | (simp_all; done))
          (hg0.landM okF hJ mixed_ok (psets1_s2 B s l i out out_n dJ0)
          ⟨(cellsM_simple (rowL_simple (fun x => List.all_eq_true.1 (by first | rfl | (cases x <;> rfl))))), ⟨(wq_in (by omega) (by omega)), ⟨⟨(by first | rfl | exact rowL_size (z := 1) (fun _ => rfl) | (rw [rowL_size (z := 1) (fun _ => rfl)]; first | omega | (simp; omega) | (simp_all; done))), (by unfold maxLen; omega), by omega, by first | exact rowL_push | exact rowL_pushC rfl⟩, ⟨⟨by omega, by omega, (rowL_extract (z := 1) (fun _ => rfl) (by first | omega | (rw [List.length_set]; omega) | (rw [List.length_replicate]; omega)))⟩, ⟨(ltq_t q0), trivial⟩⟩⟩⟩⟩ (by kernel_rfl) (by kernel_rfl))).cast (by first | (rw [s2]; simp; done) | (rw [s2, List.append_nil, hout]; done) | (rw [s2]; rfl) | (rw [s2]; done))
      ·
        try have s2 := drop_cons (xs := paL s l) i0 q0
        try have s2 := drop_end (xs := paL s l) (i := i) (by omega)
        exact (GoE.endsT okF hJ mixed_ok hg0 (psets1_s3 B s l i out out_n dJ0)
          ⟨(rowL_cellsT (fun x => List.all_eq_true.1 (by first | rfl | (cases x <;> rfl)))), ⟨(ltq_f (Int.not_lt.1 q0)), trivial⟩⟩).cast (by first | (rw [s2]; simp; done) | (rw [s2, List.append_nil, hout]; done) | (rw [s2]; rfl) | (rw [s2]; done))
set_option maxHeartbeats 4000000 in
theorem psets1_e (s : CSea) (l : List Hour) (hs : seaB s = true) (hl : logB s l = true) (hn : (l.length : Int) ≤ 12) {B : Lo} (hJ : ∀ w, B.has w → J0 w) : EndsT Tryz.prog B (entryC Tryz.prog 58 29 (([.agg (encLogged s l).toArray, .int .i64 1]).map (pushT 0 4))) (slI (paL s l)) := by
  have hwl := paL_len (s := s) (l := l)
  exact ((psets1_ls s l hs hl hn hJ _).1 (0) rfl (by first | with_reducible assumption | omega | (simp_all; done))
    (GoE.start.landM okF hJ mixed_ok (psets1_s4 B s l)
    ⟨⟨trivial, ppast (s) (l) (by first | with_reducible assumption | omega | simp_all) (by first | with_reducible assumption | omega | simp_all) (by first | with_reducible assumption | omega | simp_all)⟩, trivial⟩ (by kernel_rfl) (by kernel_rfl))).cast (by first | rfl | (simp [*]; done) | (simp_all []; done) | (simp_all []; omega))
theorem psets1 (s : CSea) (l : List Hour) (hs : seaB s = true) (hl : logB s l = true) (hn : (l.length : Int) ≤ 12) : PureC Tryz.prog J0 58 #[.agg (encLogged s l).toArray, .int .i64 1] (slI (paL s l)) :=
  pureC_of (ts := [.agg (encLogged s l).toArray, .int .i64 1]) J0_st (c0 := entryC Tryz.prog 58 29 (([.agg (encLogged s l).toArray, .int .i64 1]).map (pushT 0 4))) (by kernel_rfl) (by kernel_rfl) fun B hJ => psets1_e s l hs hl hn hJ
noncomputable def pPast_H0 (s : CSea) (l : List Hour) : Heap := [(1, Obj.cells #[Value.int IntKind.i64 s.cells, Value.int IntKind.i64 s.start, topV 0 (slT s.courses.length (rowL slI2 s.courses)), topV 0 (slT s.stars.length (rowL encI s.stars)), topV 0 (slT s.boats.length (rowL encI s.boats)), topV 0 (slT s.roads.length (rowL encI s.roads))] 25), (0, Obj.coro none)]
noncomputable def pPast_c0 (s : CSea) (l : List Hour) : CF := ⟨34, ofList 29 [Value.agg #[Value.int IntKind.i64 s.cells, Value.int IntKind.i64 s.start, topV 0 (slT s.courses.length (rowL slI2 s.courses)), topV 0 (slT s.stars.length (rowL encI s.stars)), topV 0 (slT s.boats.length (rowL encI s.boats)), topV 0 (slT s.roads.length (rowL encI s.roads))], topV 0 (slT l.length (rowL encHour l)), Value.int IntKind.i64 1], [Item.code (bodyOf Tryz.prog 34)], [], .run, none⟩
noncomputable def pPast_z0 (s : CSea) (l : List Hour) : Array Value := #[Value.agg #[Value.int IntKind.i64 s.cells, Value.int IntKind.i64 s.start, slT s.courses.length (rowL slI2 s.courses), slT s.stars.length (rowL encI s.stars), slT s.boats.length (rowL encI s.boats), slT s.roads.length (rowL encI s.roads)], slT l.length (rowL encHour l)]
noncomputable def pPast_z1 (s : CSea) (l : List Hour) : Array Value := #[Value.int IntKind.i64 s.cells, Value.int IntKind.i64 s.start, slT s.courses.length (rowL slI2 s.courses), slT s.stars.length (rowL encI s.stars), slT s.boats.length (rowL encI s.boats), slT s.roads.length (rowL encI s.roads), slT l.length (rowL encHour l)]
noncomputable def pPast_z2 (s : CSea) : Array Value := #[Value.agg #[Value.int IntKind.i64 s.cells, Value.int IntKind.i64 s.start, slT s.courses.length (rowL slI2 s.courses), slT s.stars.length (rowL encI s.stars), slT s.boats.length (rowL encI s.boats), slT s.roads.length (rowL encI s.roads)]]
set_option maxRecDepth 100000 in
theorem pPast_s0 (B : Lo) (s : CSea) (l : List Hour) : CE.finK 2 (srunT Tryz.prog (okFn Tryz.prog) J0 B 10 2 (pPast_c0 s l) (pPast_H0 s l) 2
    [(4, HintT.pure (Value.bool true) [])] 0 [] []) [] [] [] = some (OO.ret (Value.tuple #[Value.slice none 0 0, Value.int IntKind.i64 3]), [], [],
    [AllP [] ∧ PureC Tryz.prog J0 41 #[slT l.length (rowL encHour l)] (Value.bool true)]) := by kernel_rfl
set_option maxRecDepth 100000 in
theorem pPast_s1 (B : Lo) (s : CSea) (l : List Hour) : endT (srunT Tryz.prog (okFn Tryz.prog) J0 B 6 1 (entryC Tryz.prog 12 11 (([.agg (encSea s).toArray, slH l]).map (pushT 0 4))) H00 1
    [(5, HintT.call (List.range 2) (OO.ret (Value.tuple #[Value.slice none 0 0, Value.int IntKind.i64 3])) ([] ++ (2, regO) :: heapL 3 []) 3 [])] 0 [] []) [] = some (Value.tuple #[slT 0 #[], Value.int IntKind.i64 3],
    [FJ Tryz.prog B (pPast_c0 s l) (pPast_H0 s l) 2 (OO.ret (Value.tuple #[Value.slice none 0 0, Value.int IntKind.i64 3])) (([] ++ ((2, regO) :: heapL (2 + 1) [])) ++ pPast_H0 s l) 3 (List.range 2) []]) := by kernel_rfl
set_option maxRecDepth 100000 in
theorem pPast_s2 (B : Lo) (s : CSea) (l : List Hour) : CE.finK 2 (srunT Tryz.prog (okFn Tryz.prog) J0 B 22 2 (pPast_c0 s l) (pPast_H0 s l) 2
    [(4, HintT.pure (Value.bool false) []), (6, HintT.pure (Value.bool true) []), (11, HintT.pure (Value.bool true) []), (20, HintT.pure (Value.bool false) [])] 0 [] []) [] [] [] = some (OO.ret (Value.tuple #[Value.slice none 0 0, Value.int IntKind.i64 5]), [], [],
    [AllP [] ∧ PureC Tryz.prog J0 47 #[Value.agg (pPast_z1 s l)] (Value.bool false), AllP [] ∧ PureC Tryz.prog J0 42 (pPast_z0 s l) (Value.bool true), AllP [] ∧ PureC Tryz.prog J0 33 (pPast_z2 s) (Value.bool true), AllP [] ∧ PureC Tryz.prog J0 41 #[slT l.length (rowL encHour l)] (Value.bool false)]) := by kernel_rfl
set_option maxRecDepth 100000 in
theorem pPast_s3 (B : Lo) (s : CSea) (l : List Hour) : endT (srunT Tryz.prog (okFn Tryz.prog) J0 B 6 1 (entryC Tryz.prog 12 11 (([.agg (encSea s).toArray, slH l]).map (pushT 0 4))) H00 1
    [(5, HintT.call (List.range 2) (OO.ret (Value.tuple #[Value.slice none 0 0, Value.int IntKind.i64 5])) ([] ++ (2, regO) :: heapL 3 []) 3 [])] 0 [] []) [] = some (Value.tuple #[slT 0 #[], Value.int IntKind.i64 5],
    [FJ Tryz.prog B (pPast_c0 s l) (pPast_H0 s l) 2 (OO.ret (Value.tuple #[Value.slice none 0 0, Value.int IntKind.i64 5])) (([] ++ ((2, regO) :: heapL (2 + 1) [])) ++ pPast_H0 s l) 3 (List.range 2) []]) := by kernel_rfl
set_option maxRecDepth 100000 in
theorem pPast_s4 (B : Lo) (s : CSea) (l : List Hour) : CE.finK 2 (srunT Tryz.prog (okFn Tryz.prog) J0 B 23 2 (pPast_c0 s l) (pPast_H0 s l) 2
    [(4, HintT.pure (Value.bool false) []), (6, HintT.pure (Value.bool true) []), (11, HintT.pure (Value.bool true) []), (20, HintT.pure (Value.bool true) []), (24, HintT.pure (slT (List.length (paL s l)) (rowL encI (paL s l))) [])] 0 [] []) [] [] [] = some (OO.ret (Value.tuple #[topV 2 (slT (List.length (paL s l)) (rowL encI (paL s l))), Value.int IntKind.i64 0]), [], [],
    [AllP [] ∧ PureC Tryz.prog J0 58 #[Value.agg (pPast_z1 s l), Value.int IntKind.i64 1] (slT (List.length (paL s l)) (rowL encI (paL s l))), AllP [] ∧ PureC Tryz.prog J0 47 #[Value.agg (pPast_z1 s l)] (Value.bool true), AllP [] ∧ PureC Tryz.prog J0 42 (pPast_z0 s l) (Value.bool true), AllP [] ∧ PureC Tryz.prog J0 33 (pPast_z2 s) (Value.bool true), AllP [] ∧ PureC Tryz.prog J0 41 #[slT l.length (rowL encHour l)] (Value.bool false)]) := by kernel_rfl
set_option maxRecDepth 100000 in
theorem pPast_s5 (B : Lo) (s : CSea) (l : List Hour) : endT (srunT Tryz.prog (okFn Tryz.prog) J0 B 6 1 (entryC Tryz.prog 12 11 (([.agg (encSea s).toArray, slH l]).map (pushT 0 4))) H00 1
    [(5, HintT.call (List.range 2) (OO.ret (Value.tuple #[topV 2 (slT (List.length (paL s l)) (rowL encI (paL s l))), Value.int IntKind.i64 0])) ([] ++ (2, regO) :: heapL 3 []) 3 [])] 0 [] []) [] = some (Value.tuple #[slT (List.length (paL s l)) (rowL encI (paL s l)), Value.int IntKind.i64 0],
    [FJ Tryz.prog B (pPast_c0 s l) (pPast_H0 s l) 2 (OO.ret (Value.tuple #[topV 2 (slT (List.length (paL s l)) (rowL encI (paL s l))), Value.int IntKind.i64 0])) (([] ++ ((2, regO) :: heapL (2 + 1) [])) ++ pPast_H0 s l) 3 (List.range 2) []]) := by kernel_rfl
set_option maxRecDepth 100000 in
theorem pPast_s6 (B : Lo) (s : CSea) (l : List Hour) : CE.finK 2 (srunT Tryz.prog (okFn Tryz.prog) J0 B 15 2 (pPast_c0 s l) (pPast_H0 s l) 2
    [(4, HintT.pure (Value.bool false) []), (6, HintT.pure (Value.bool true) []), (11, HintT.pure (Value.bool false) [])] 0 [] []) [] [] [] = some (OO.ret (Value.tuple #[Value.slice none 0 0, Value.int IntKind.i64 2]), [], [],
    [AllP [] ∧ PureC Tryz.prog J0 42 (pPast_z0 s l) (Value.bool false), AllP [] ∧ PureC Tryz.prog J0 33 (pPast_z2 s) (Value.bool true), AllP [] ∧ PureC Tryz.prog J0 41 #[slT l.length (rowL encHour l)] (Value.bool false)]) := by kernel_rfl
set_option maxRecDepth 100000 in
theorem pPast_s7 (B : Lo) (s : CSea) (l : List Hour) : endT (srunT Tryz.prog (okFn Tryz.prog) J0 B 6 1 (entryC Tryz.prog 12 11 (([.agg (encSea s).toArray, slH l]).map (pushT 0 4))) H00 1
    [(5, HintT.call (List.range 2) (OO.ret (Value.tuple #[Value.slice none 0 0, Value.int IntKind.i64 2])) ([] ++ (2, regO) :: heapL 3 []) 3 [])] 0 [] []) [] = some (Value.tuple #[slT 0 #[], Value.int IntKind.i64 2],
    [FJ Tryz.prog B (pPast_c0 s l) (pPast_H0 s l) 2 (OO.ret (Value.tuple #[Value.slice none 0 0, Value.int IntKind.i64 2])) (([] ++ ((2, regO) :: heapL (2 + 1) [])) ++ pPast_H0 s l) 3 (List.range 2) []]) := by kernel_rfl
set_option maxRecDepth 100000 in
theorem pPast_s8 (B : Lo) (s : CSea) (l : List Hour) : CE.finK 2 (srunT Tryz.prog (okFn Tryz.prog) J0 B 15 2 (pPast_c0 s l) (pPast_H0 s l) 2
    [(4, HintT.pure (Value.bool false) []), (6, HintT.pure (Value.bool false) [])] 0 [] []) [] [] [] = some (OO.ret (Value.tuple #[Value.slice none 0 0, Value.int IntKind.i64 2]), [], [],
    [AllP [] ∧ PureC Tryz.prog J0 33 (pPast_z2 s) (Value.bool false), AllP [] ∧ PureC Tryz.prog J0 41 #[slT l.length (rowL encHour l)] (Value.bool false)]) := by kernel_rfl
set_option maxRecDepth 100000 in
theorem pPast_s9 (B : Lo) (s : CSea) (l : List Hour) : endT (srunT Tryz.prog (okFn Tryz.prog) J0 B 6 1 (entryC Tryz.prog 12 11 (([.agg (encSea s).toArray, slH l]).map (pushT 0 4))) H00 1
    [(5, HintT.call (List.range 2) (OO.ret (Value.tuple #[Value.slice none 0 0, Value.int IntKind.i64 2])) ([] ++ (2, regO) :: heapL 3 []) 3 [])] 0 [] []) [] = some (Value.tuple #[slT 0 #[], Value.int IntKind.i64 2],
    [FJ Tryz.prog B (pPast_c0 s l) (pPast_H0 s l) 2 (OO.ret (Value.tuple #[Value.slice none 0 0, Value.int IntKind.i64 2])) (([] ++ ((2, regO) :: heapL (2 + 1) [])) ++ pPast_H0 s l) 3 (List.range 2) []]) := by kernel_rfl
set_option maxHeartbeats 4000000 in
theorem pPast_e (s : CSea) (l : List Hour)  (hfacts : l.length ≤ 9223372036854775807) {B : Lo} (hJ : ∀ w, B.has w → J0 w) : EndsT Tryz.prog B (entryC Tryz.prog 12 11 (([.agg (encSea s).toArray, slH l]).map (pushT 0 4))) (.tuple #[if decide ((12 : Int) < l.length) = true then slI [] else if (seaB s && logB s l) = true then (if decide (endI s l = 0) = true then slI [] else slI (paL s l)) else slI [], .int .i64 (if decide ((12 : Int) < l.length) = true then 3 else if (seaB s && logB s l) = true then (if decide (endI s l = 0) = true then 5 else 0) else 2)]) := by
  cases q0 : decide (12 < (↑l.length : Int)) with
  | true =>
    have rj0 : FJ Tryz.prog B (pPast_c0 s l) (pPast_H0 s l) 2 (OO.ret (Value.tuple #[Value.slice none 0 0, Value.int IntKind.i64 3])) (([] ++ ((2, regO) :: heapL (2 + 1) [])) ++ pPast_H0 s l) 3 (List.range 2) [] := by
      try have hsf := sea_facts ‹seaB s = true›
      exact FinK.fjB (GoE.finK okF hJ mixed_ok (under_all (by kernel_rfl)) (writable_of (by kernel_rfl)) ((GoE.refl (P := Tryz.prog) (B := B) (c0 := pPast_c0 s l) (under_all (by kernel_rfl))).widen (Wf := ((([]) : List (Nat × KS)).map (·.1))) (by simp) (writable_of (by kernel_rfl))) (pPast_s0 B s l)
        ⟨⟨trivial, (by have t_ := pisLong (l); rw [q0] at t_; exact t_)⟩, trivial⟩) (ex := []) (by kernel_rfl) (lowX_nil _)
    try have hsf := sea_facts ‹seaB s = true›
    exact (GoE.endsT okF hJ mixed_ok GoE.start (pPast_s1 B s l)
      ⟨rj0, trivial⟩).cast (by first | rfl | (simp [*]; done) | (simp_all; done))
  | false =>
    cases q1 : seaB s with
    | true =>
      cases q2 : logB s l with
      | true =>
        cases q3 : decide (endI s l = 0) with
        | true =>
          have rj0 : FJ Tryz.prog B (pPast_c0 s l) (pPast_H0 s l) 2 (OO.ret (Value.tuple #[Value.slice none 0 0, Value.int IntKind.i64 5])) (([] ++ ((2, regO) :: heapL (2 + 1) [])) ++ pPast_H0 s l) 3 (List.range 2) [] := by
            try have hsf := sea_facts ‹seaB s = true›
            exact FinK.fjB (GoE.finK okF hJ mixed_ok (under_all (by kernel_rfl)) (writable_of (by kernel_rfl)) ((GoE.refl (P := Tryz.prog) (B := B) (c0 := pPast_c0 s l) (under_all (by kernel_rfl))).widen (Wf := ((([]) : List (Nat × KS)).map (·.1))) (by simp) (writable_of (by kernel_rfl))) (pPast_s2 B s l)
              ⟨⟨trivial, (by have t_ := pisPossible (s) (l) (by first | with_reducible assumption | omega | simp_all) (by first | with_reducible assumption | omega | simp_all) (by first | with_reducible assumption | omega | simp_all); rw [q3] at t_; exact t_)⟩, ⟨⟨trivial, (by have t_ := pisLog (s) (l); rw [q2] at t_; exact t_)⟩, ⟨⟨trivial, (by have t_ := pisSea (s); rw [q1] at t_; exact t_)⟩, ⟨⟨trivial, (by have t_ := pisLong (l); rw [q0] at t_; exact t_)⟩, trivial⟩⟩⟩⟩) (ex := []) (by kernel_rfl) (lowX_nil _)
          try have hsf := sea_facts ‹seaB s = true›
          exact (GoE.endsT okF hJ mixed_ok GoE.start (pPast_s3 B s l)
            ⟨rj0, trivial⟩).cast (by first | rfl | (simp [*]; done) | (simp_all; done))
        | false =>
          have rj0 : FJ Tryz.prog B (pPast_c0 s l) (pPast_H0 s l) 2 (OO.ret (Value.tuple #[topV 2 (slT (List.length (paL s l)) (rowL encI (paL s l))), Value.int IntKind.i64 0])) (([] ++ ((2, regO) :: heapL (2 + 1) [])) ++ pPast_H0 s l) 3 (List.range 2) [] := by
            try have hsf := sea_facts ‹seaB s = true›
            exact FinK.fjB (GoE.finK okF hJ mixed_ok (under_all (by kernel_rfl)) (writable_of (by kernel_rfl)) ((GoE.refl (P := Tryz.prog) (B := B) (c0 := pPast_c0 s l) (under_all (by kernel_rfl))).widen (Wf := ((([]) : List (Nat × KS)).map (·.1))) (by simp) (writable_of (by kernel_rfl))) (pPast_s4 B s l)
              ⟨⟨trivial, psets1 (s) (l) (by first | with_reducible assumption | omega | simp_all) (by first | with_reducible assumption | omega | simp_all) (by first | with_reducible assumption | omega | simp_all)⟩, ⟨⟨trivial, (by have t_ := pisPossible (s) (l) (by first | with_reducible assumption | omega | simp_all) (by first | with_reducible assumption | omega | simp_all) (by first | with_reducible assumption | omega | simp_all); rw [q3] at t_; exact t_)⟩, ⟨⟨trivial, (by have t_ := pisLog (s) (l); rw [q2] at t_; exact t_)⟩, ⟨⟨trivial, (by have t_ := pisSea (s); rw [q1] at t_; exact t_)⟩, ⟨⟨trivial, (by have t_ := pisLong (l); rw [q0] at t_; exact t_)⟩, trivial⟩⟩⟩⟩⟩) (ex := []) (by kernel_rfl) (lowX_nil _)
          try have hsf := sea_facts ‹seaB s = true›
          exact (GoE.endsT okF hJ mixed_ok GoE.start (pPast_s5 B s l)
            ⟨rj0, trivial⟩).cast (by first | rfl | (simp [*]; done) | (simp_all; done))
      | false =>
        have rj0 : FJ Tryz.prog B (pPast_c0 s l) (pPast_H0 s l) 2 (OO.ret (Value.tuple #[Value.slice none 0 0, Value.int IntKind.i64 2])) (([] ++ ((2, regO) :: heapL (2 + 1) [])) ++ pPast_H0 s l) 3 (List.range 2) [] := by
          try have hsf := sea_facts ‹seaB s = true›
          exact FinK.fjB (GoE.finK okF hJ mixed_ok (under_all (by kernel_rfl)) (writable_of (by kernel_rfl)) ((GoE.refl (P := Tryz.prog) (B := B) (c0 := pPast_c0 s l) (under_all (by kernel_rfl))).widen (Wf := ((([]) : List (Nat × KS)).map (·.1))) (by simp) (writable_of (by kernel_rfl))) (pPast_s6 B s l)
            ⟨⟨trivial, (by have t_ := pisLog (s) (l); rw [q2] at t_; exact t_)⟩, ⟨⟨trivial, (by have t_ := pisSea (s); rw [q1] at t_; exact t_)⟩, ⟨⟨trivial, (by have t_ := pisLong (l); rw [q0] at t_; exact t_)⟩, trivial⟩⟩⟩) (ex := []) (by kernel_rfl) (lowX_nil _)
        try have hsf := sea_facts ‹seaB s = true›
        exact (GoE.endsT okF hJ mixed_ok GoE.start (pPast_s7 B s l)
          ⟨rj0, trivial⟩).cast (by first | rfl | (simp [*]; done) | (simp_all; done))
    | false =>
      have rj0 : FJ Tryz.prog B (pPast_c0 s l) (pPast_H0 s l) 2 (OO.ret (Value.tuple #[Value.slice none 0 0, Value.int IntKind.i64 2])) (([] ++ ((2, regO) :: heapL (2 + 1) [])) ++ pPast_H0 s l) 3 (List.range 2) [] := by
        try have hsf := sea_facts ‹seaB s = true›
        exact FinK.fjB (GoE.finK okF hJ mixed_ok (under_all (by kernel_rfl)) (writable_of (by kernel_rfl)) ((GoE.refl (P := Tryz.prog) (B := B) (c0 := pPast_c0 s l) (under_all (by kernel_rfl))).widen (Wf := ((([]) : List (Nat × KS)).map (·.1))) (by simp) (writable_of (by kernel_rfl))) (pPast_s8 B s l)
          ⟨⟨trivial, (by have t_ := pisSea (s); rw [q1] at t_; exact t_)⟩, ⟨⟨trivial, (by have t_ := pisLong (l); rw [q0] at t_; exact t_)⟩, trivial⟩⟩) (ex := []) (by kernel_rfl) (lowX_nil _)
      try have hsf := sea_facts ‹seaB s = true›
      exact (GoE.endsT okF hJ mixed_ok GoE.start (pPast_s9 B s l)
        ⟨rj0, trivial⟩).cast (by first | rfl | (simp [*]; done) | (simp_all; done))
theorem pPast (s : CSea) (l : List Hour)  : PureC Tryz.prog J0 12 #[.agg (encSea s).toArray, slH l] (.tuple #[if decide ((12 : Int) < l.length) = true then slI [] else if (seaB s && logB s l) = true then (if decide (endI s l = 0) = true then slI [] else slI (paL s l)) else slI [], .int .i64 (if decide ((12 : Int) < l.length) = true then 3 else if (seaB s && logB s l) = true then (if decide (endI s l = 0) = true then 5 else 0) else 2)]) :=
  pureC_ofF (ts := [.agg (encSea s).toArray, slH l]) (l.length ≤ 9223372036854775807) (fun _ _ ht => ht.ln (i := 1) rfl) J0_st (c0 := entryC Tryz.prog 12 11 (([.agg (encSea s).toArray, slH l]).map (pushT 0 4))) (by kernel_rfl) (by kernel_rfl) fun hfacts B hJ => pPast_e s l  hfacts hJ
def rImage_v0 (s : CSea) (c fr : Int) (out i : Int) : List Value := [Value.int IntKind.i64 c, Value.int IntKind.i64 fr, pA 2 0, .int .i64 out, .int .i64 i]
def rImage_o0 (s : CSea) (c fr : Int) (out i : Int) : List Obj := [Obj.cells #[Value.int IntKind.i64 s.cells, Value.int IntKind.i64 s.start, topV 1 (slT s.courses.length (rowL slI2 s.courses)), topV 1 (slT s.stars.length (rowL encI s.stars)), topV 1 (slT s.boats.length (rowL encI s.boats)), topV 1 (slT s.roads.length (rowL encI s.roads))] 25]
noncomputable def rImage_t0 : List Item := ([.code [1, 1, 0, 1, 0, 0], .inLoop [1, 1, 0, 1, 0, 0], .inBlock 0, .code [1, 1, 1]]).map (it (bodyOf Tryz.prog 38))
def rImage_h0 (B : Lo) (c0 : CF) (s : CSea) (c fr : Int) (out i : Int) : Prop := ∃ dJ : Nat → Value, (∀ t, Loose (dJ t)) ∧ GoE Tryz.prog B c0 H00 1 (headC 38 41 (([1, 2, 3, 7, 8] : List Nat).zip (rImage_v0 s c fr out i)) dJ rImage_t0) (headH (rImage_o0 s c fr out i)) (2 + (rImage_o0 s c fr out i).length) []
def rImage_v1 (s : CSea) (c fr : Int) (out i k : Int) : List Value := [Value.int IntKind.i64 c, Value.int IntKind.i64 fr, pA 2 0, .int .i64 out, .int .i64 i, .int .i64 k]
def rImage_o1 (s : CSea) (c fr : Int) (out i k : Int) : List Obj := [Obj.cells #[Value.int IntKind.i64 s.cells, Value.int IntKind.i64 s.start, topV 1 (slT s.courses.length (rowL slI2 s.courses)), topV 1 (slT s.stars.length (rowL encI s.stars)), topV 1 (slT s.boats.length (rowL encI s.boats)), topV 1 (slT s.roads.length (rowL encI s.roads))] 25]
noncomputable def rImage_t1 : List Item := ([.code [1, 1, 0, 1, 0, 0, 1, 0, 0, 1, 0, 0], .inLoop [1, 1, 0, 1, 0, 0, 1, 0, 0, 1, 0, 0], .inBlock 2, .inBlock 1, .code [1, 1, 0, 1, 0, 0, 1, 1], .inLoop [1, 1, 0, 1, 0, 0], .inBlock 0, .code [1, 1, 1]]).map (it (bodyOf Tryz.prog 38))
def rImage_h1 (B : Lo) (c0 : CF) (s : CSea) (c fr : Int) (out i k : Int) : Prop := ∃ dJ : Nat → Value, (∀ t, Loose (dJ t)) ∧ GoE Tryz.prog B c0 H00 1 (headC 38 41 (([1, 2, 3, 7, 8, 9] : List Nat).zip (rImage_v1 s c fr out i k)) dJ rImage_t1) (headH (rImage_o1 s c fr out i k)) (2 + (rImage_o1 s c fr out i k).length) []
set_option maxRecDepth 100000 in
theorem rImage_s0 (B : Lo) (s : CSea) (c fr : Int) (out i : Int) (dJ0 : Nat → Value) : landM (srunT Tryz.prog (okFn Tryz.prog) J0 B 11 1 (headC 38 41 (([1, 2, 3, 7, 8] : List Nat).zip (rImage_v0 s c fr out i)) dJ0 rImage_t0) (headH (rImage_o0 s c fr out i)) (2 + (rImage_o0 s c fr out i).length)
    [(3, hvT)] 0 [] []) [1, 2, 3, 7, 8, 9] [(2, KS.auto)] [] = some ⟨38, 41, rImage_t1, [], .run, none, rImage_v1 s c fr (out) (i) (0), rImage_o1 s c fr (out) (i) (0),
    [ltq i s.cells = true]⟩ := by kernel_rfl
set_option maxRecDepth 100000 in
theorem rImage_s1 (B : Lo) (s : CSea) (c fr : Int) (out i : Int) (dJ0 : Nat → Value) : endT (srunT Tryz.prog (okFn Tryz.prog) J0 B 9 1 (headC 38 41 (([1, 2, 3, 7, 8] : List Nat).zip (rImage_v0 s c fr out i)) dJ0 rImage_t0) (headH (rImage_o0 s c fr out i)) (2 + (rImage_o0 s c fr out i).length)
    [(3, hvF)] 0 [] []) [] = some (Value.int IntKind.i64 out,
    [ltq i s.cells = false]) := by kernel_rfl
noncomputable def rImage_p0 (B : Lo) (s : CSea) (c fr : Int) (out i k : Int) (dJ0 : Nat → Value) : List Prop := [ltq k s.cells = true] ++ ([] : List Prop)
noncomputable def rImage_q0 (s : CSea) (c fr : Int) (out i k : Int) (dJ0 : Nat → Value) : ScriptT := [(3, hvT)]
noncomputable def rImage_p1 (B : Lo) (s : CSea) (c fr : Int) (out i k : Int) (dJ0 : Nat → Value) : List Prop := [i = (↑i.toNat : Int) ∧ Int.toNat i < List.length (List.getD s.courses c.toNat default) ∧ Array.extract (rowL encI (List.getD s.courses c.toNat default)) (Int.toNat i * TypeInfo.size Tryz.t3) (Int.toNat i * TypeInfo.size Tryz.t3 + TypeInfo.size Tryz.t3) = #[Value.int IntKind.i64 (List.getD (List.getD s.courses c.toNat default) i.toNat default)], c = (↑c.toNat : Int) ∧ Int.toNat c < List.length s.courses ∧ Array.extract (rowL slI2 s.courses) (Int.toNat c * TypeInfo.size Tryz.t23) (Int.toNat c * TypeInfo.size Tryz.t23 + TypeInfo.size Tryz.t23) = #[slT (List.length (List.getD s.courses c.toNat default)) (rowL encI (List.getD s.courses c.toNat default))], AllP [] ∧ PureC Tryz.prog J0 22 #[Value.int IntKind.i64 fr, Value.int IntKind.i64 i] (Value.bool true)] ++ rImage_p0 B s c fr out i k dJ0
noncomputable def rImage_q1 (s : CSea) (c fr : Int) (out i k : Int) (dJ0 : Nat → Value) : ScriptT := rImage_q0 s c fr out i k dJ0 ++ [(6, HintT.pure (Value.bool true) []), (11, HintT.tidx c.toNat #[slT (List.length (List.getD s.courses c.toNat default)) (rowL encI (List.getD s.courses c.toNat default))]), (14, HintT.tidx i.toNat #[Value.int IntKind.i64 (List.getD (List.getD s.courses c.toNat default) i.toNat default)])]
set_option maxRecDepth 100000 in
theorem rImage_s2 (B : Lo) (s : CSea) (c fr : Int) (out i k : Int) (dJ0 : Nat → Value) : landM (srunT Tryz.prog (okFn Tryz.prog) J0 B 14 1 (headC 38 41 (([1, 2, 3, 7, 8, 9] : List Nat).zip (rImage_v1 s c fr out i k)) dJ0 rImage_t1) (headH (rImage_o1 s c fr out i k)) (2 + (rImage_o1 s c fr out i k).length)
    (rImage_q1 s c fr out i k dJ0 ++ [(17, HintT.pure (Value.bool true) []), (21, HintT.pure (Value.int IntKind.i64 (setW out k)) []), (24, hvI (k + 1))]) 0 [] []) [1, 2, 3, 7, 8, 9] [(2, KS.auto)] [] = some ⟨38, 41, rImage_t1, [], .run, none, rImage_v1 s c fr (setW out k) (i) (k + 1), rImage_o1 s c fr (setW out k) (i) (k + 1),
    [wq (k + 1) = k + 1, AllP [] ∧ PureC Tryz.prog J0 40 #[Value.int IntKind.i64 out, Value.int IntKind.i64 k] (Value.int IntKind.i64 (setW out k)), AllP [] ∧ PureC Tryz.prog J0 22 #[Value.int IntKind.i64 (List.getD (List.getD s.courses c.toNat default) i.toNat default), Value.int IntKind.i64 k] (Value.bool true)] ++ rImage_p1 B s c fr out i k dJ0⟩ := by kernel_rfl
set_option maxRecDepth 100000 in
theorem rImage_s3 (B : Lo) (s : CSea) (c fr : Int) (out i k : Int) (dJ0 : Nat → Value) : landM (srunT Tryz.prog (okFn Tryz.prog) J0 B 14 1 (headC 38 41 (([1, 2, 3, 7, 8, 9] : List Nat).zip (rImage_v1 s c fr out i k)) dJ0 rImage_t1) (headH (rImage_o1 s c fr out i k)) (2 + (rImage_o1 s c fr out i k).length)
    (rImage_q1 s c fr out i k dJ0 ++ [(17, HintT.pure (Value.bool false) []), (20, hvI (k + 1))]) 0 [] []) [1, 2, 3, 7, 8, 9] [(2, KS.auto)] [] = some ⟨38, 41, rImage_t1, [], .run, none, rImage_v1 s c fr (out) (i) (k + 1), rImage_o1 s c fr (out) (i) (k + 1),
    [wq (k + 1) = k + 1, AllP [] ∧ PureC Tryz.prog J0 22 #[Value.int IntKind.i64 (List.getD (List.getD s.courses c.toNat default) i.toNat default), Value.int IntKind.i64 k] (Value.bool false)] ++ rImage_p1 B s c fr out i k dJ0⟩ := by kernel_rfl
set_option maxRecDepth 100000 in
theorem rImage_s4 (B : Lo) (s : CSea) (c fr : Int) (out i k : Int) (dJ0 : Nat → Value) : landM (srunT Tryz.prog (okFn Tryz.prog) J0 B 14 1 (headC 38 41 (([1, 2, 3, 7, 8, 9] : List Nat).zip (rImage_v1 s c fr out i k)) dJ0 rImage_t1) (headH (rImage_o1 s c fr out i k)) (2 + (rImage_o1 s c fr out i k).length)
    (rImage_q0 s c fr out i k dJ0 ++ [(6, HintT.pure (Value.bool false) []), (20, hvI (k + 1))]) 0 [] []) [1, 2, 3, 7, 8, 9] [(2, KS.auto)] [] = some ⟨38, 41, rImage_t1, [], .run, none, rImage_v1 s c fr (out) (i) (k + 1), rImage_o1 s c fr (out) (i) (k + 1),
    [wq (k + 1) = k + 1, AllP [] ∧ PureC Tryz.prog J0 22 #[Value.int IntKind.i64 fr, Value.int IntKind.i64 i] (Value.bool false)] ++ rImage_p0 B s c fr out i k dJ0⟩ := by kernel_rfl
set_option maxRecDepth 100000 in
theorem rImage_s5 (B : Lo) (s : CSea) (c fr : Int) (out i k : Int) (dJ0 : Nat → Value) : landM (srunT Tryz.prog (okFn Tryz.prog) J0 B 8 1 (headC 38 41 (([1, 2, 3, 7, 8, 9] : List Nat).zip (rImage_v1 s c fr out i k)) dJ0 rImage_t1) (headH (rImage_o1 s c fr out i k)) (2 + (rImage_o1 s c fr out i k).length)
    [(3, hvF), (5, hvI (i + 1))] 0 [] []) [1, 2, 3, 7, 8] [(2, KS.auto)] [] = some ⟨38, 41, rImage_t0, [], .run, none, rImage_v0 s c fr (out) (i + 1), rImage_o0 s c fr (out) (i + 1),
    [wq (i + 1) = i + 1, ltq k s.cells = false]⟩ := by kernel_rfl
set_option maxRecDepth 100000 in
theorem rImage_s6 (B : Lo) (s : CSea) (c fr : Int) : landM (srunT Tryz.prog (okFn Tryz.prog) J0 B 9 1 (entryC Tryz.prog 38 41 (([.agg (encSea s).toArray, .int .i64 c, .int .i64 fr]).map (pushT 0 4))) H00 1
    [] 0 [] []) [1, 2, 3, 7, 8] [(1, KS.auto)] [] = some ⟨38, 41, rImage_t0, [], .run, none, rImage_v0 s c fr (0) (0), rImage_o0 s c fr (0) (0),
    []⟩ := by kernel_rfl
set_option maxHeartbeats 4000000 in
theorem rImage_ls (s : CSea) (c fr : Int) (hs : seaB s = true) (v0 : 0 ≤ c) (v1 : c < s.courses.length) (f0 : 0 ≤ fr) (f1 : fr ≤ topI s.cells) {B : Lo} (hJ : ∀ w, B.has w → J0 w) {c0 : CF} : ∀ m : Nat, (∀ (out i : Int), 100 * (s.cells - i).toNat + 99 = m → ∀ (i0 : 0 ≤ i) (o0 : 0 ≤ out) (o1 : out ≤ topI s.cells), rImage_h0 B c0 s c fr out i → EndsT Tryz.prog B c0 (.int .i64 (imgI (s.courses.getD c.toNat default) fr s.cells i out))) ∧ (∀ (out i k : Int), 100 * (s.cells - i).toNat + (s.cells - k).toNat = m → ∀ (i0 : 0 ≤ i) (i1 : i < s.cells) (k0 : 0 ≤ k) (k1 : k ≤ s.cells) (o0 : 0 ≤ out) (o1 : out ≤ topI s.cells), rImage_h1 B c0 s c fr out i k → EndsT Tryz.prog B c0 (.int .i64 (imgI (s.courses.getD c.toNat default) fr s.cells (i + 1) (addI (imgP (s.courses.getD c.toNat default) fr i) s.cells k out)))) := by
  intro m0
  induction m0 using Nat.strongRecOn with
  | _ m0 ih0 =>
    refine ⟨?_, ?_⟩
    · intro out i hm0 i0 o0 o1 ⟨dJ0, hdJ0, hg0⟩
      have hsf := sea_facts hs
      have hcr := course_row hs v0 v1
      have hsf := sea_facts hs
      have hcr := course_row hs v0 v1
      by_cases q0 : (i : Int) < s.cells
      ·
        try have s2 := img_cons (row := s.courses.getD c.toNat default) (fr := fr) (o := out) q0
        try have s2 := img_nil (row := s.courses.getD c.toNat default) (fr := fr) (c := s.cells) (i := i) (o := out) (by omega)
        exact ((ih0 _ (by omega)).2 (out) (i) (0) rfl (by first | with_reducible assumption | omega | (simp_all; done)) (by first | with_reducible assumption | omega | (simp_all; done)) (by first | with_reducible assumption | omega | (simp_all; done)) (by first | with_reducible assumption | omega | (simp_all; done)) (by first | with_reducible assumption | omega | (simp_all; done)) (by first | with_reducible assumption | omega | (simp_all; done))
          (hg0.landM okF hJ mixed_ok (rImage_s0 B s c fr out i dJ0)
          ⟨(ltq_t q0), trivial⟩ (by kernel_rfl) (by kernel_rfl))).cast (by first | rfl | (rw [s2]; done) | (rw [s2]; rfl))
      ·
        try have s2 := img_cons (row := s.courses.getD c.toNat default) (fr := fr) (o := out) q0
        try have s2 := img_nil (row := s.courses.getD c.toNat default) (fr := fr) (c := s.cells) (i := i) (o := out) (by omega)
        exact (GoE.endsT okF hJ mixed_ok hg0 (rImage_s1 B s c fr out i dJ0)
          ⟨(ltq_f (Int.not_lt.1 q0)), trivial⟩).cast (by first | rfl | (rw [s2]; done) | (rw [s2]; rfl))
    · intro out i k hm0 i0 i1 k0 k1 o0 o1 ⟨dJ0, hdJ0, hg0⟩
      have hsf := sea_facts hs
      have hcr := course_row hs v0 v1
      have hsf := sea_facts hs
      have hcr := course_row hs v0 v1
      have hck := hcr.2 i i0 i1
      by_cases q0 : (k : Int) < s.cells
      ·
        have hp0 : AllP (rImage_p0 B s c fr out i k dJ0) := by
          exact ⟨(ltq_t q0), trivial⟩
        cases q1 : setB fr i with
        | true =>
          have hp1 : AllP (rImage_p1 B s c fr out i k dJ0) := by
            try have hkw := setW_top (s := out) (n := s.cells) (c := k) o0 o1 k0 (by omega)
            try have hpt : imgP (s.courses.getD c.toNat default) fr i k = true := by unfold imgP; rw [q1, q2]; rfl
            try have hpf : imgP (s.courses.getD c.toNat default) fr i k = false := by unfold imgP; rw [q1, q2]; rfl
            try have hpf : imgP (s.courses.getD c.toNat default) fr i k = false := by unfold imgP; rw [q1]; rfl
            try have s2 := add_in (o := out) q0 hpt
            try have s2 := add_out (o := out) q0 hpf
            try have s2 := add_end (p := imgP (s.courses.getD c.toNat default) fr i) (c := s.cells) (k := k) (o := out) (by omega)
            exact ⟨⟨by omega, by omega, (rowL_extract (z := 1) (fun _ => rfl) (by first | omega | (rw [List.length_set]; omega) | (rw [List.length_replicate]; omega)))⟩, ⟨⟨by omega, by omega, (rowL_extract (z := 1) (fun _ => rfl) (by first | omega | (rw [List.length_set]; omega) | (rw [List.length_replicate]; omega)))⟩, ⟨⟨trivial, (by have t_ := rHas (fr) (i) (by first | with_reducible assumption | omega | simp_all) (by first | with_reducible assumption | omega | simp_all) (by first | with_reducible assumption | omega | simp_all); rw [q1] at t_; exact t_)⟩, hp0⟩⟩⟩
          cases q2 : setB (List.getD (List.getD s.courses c.toNat default) i.toNat default) k with
          | true =>
            try have hkw := setW_top (s := out) (n := s.cells) (c := k) o0 o1 k0 (by omega)
            try have hpt : imgP (s.courses.getD c.toNat default) fr i k = true := by unfold imgP; rw [q1, q2]; rfl
            try have hpf : imgP (s.courses.getD c.toNat default) fr i k = false := by unfold imgP; rw [q1, q2]; rfl
            try have hpf : imgP (s.courses.getD c.toNat default) fr i k = false := by unfold imgP; rw [q1]; rfl
            try have s2 := add_in (o := out) q0 hpt
            try have s2 := add_out (o := out) q0 hpf
            try have s2 := add_end (p := imgP (s.courses.getD c.toNat default) fr i) (c := s.cells) (k := k) (o := out) (by omega)
            exact ((ih0 _ (by omega)).2 (setW out k) (i) (k + 1) rfl (by first | with_reducible assumption | omega | (simp_all; done)) (by first | with_reducible assumption | omega | (simp_all; done)) (by first | with_reducible assumption | omega | (simp_all; done)) (by first | with_reducible assumption | omega | (simp_all; done)) (by first | with_reducible assumption | omega | (simp_all; done)) (by first | with_reducible assumption | omega | (simp_all; done))
              (hg0.landM okF hJ mixed_ok (rImage_s2 B s c fr out i k dJ0)
              ⟨(wq_in (by omega) (by omega)), ⟨⟨trivial, rwith (out) (k) (by first | with_reducible assumption | omega | simp_all) (by first | with_reducible assumption | omega | simp_all) (by first | with_reducible assumption | omega | simp_all) (by first | with_reducible assumption | omega | simp_all)⟩, ⟨⟨trivial, (by have t_ := rHas (List.getD (List.getD s.courses c.toNat default) i.toNat default) (k) (by first | with_reducible assumption | omega | simp_all) (by first | with_reducible assumption | omega | simp_all) (by first | with_reducible assumption | omega | simp_all); rw [q2] at t_; exact t_)⟩, hp1⟩⟩⟩ (by kernel_rfl) (by kernel_rfl))).cast (by first | rfl | (rw [s2]; done) | (rw [s2]; rfl))
          | false =>
            try have hkw := setW_top (s := out) (n := s.cells) (c := k) o0 o1 k0 (by omega)
            try have hpt : imgP (s.courses.getD c.toNat default) fr i k = true := by unfold imgP; rw [q1, q2]; rfl
            try have hpf : imgP (s.courses.getD c.toNat default) fr i k = false := by unfold imgP; rw [q1, q2]; rfl
            try have hpf : imgP (s.courses.getD c.toNat default) fr i k = false := by unfold imgP; rw [q1]; rfl
            try have s2 := add_in (o := out) q0 hpt
            try have s2 := add_out (o := out) q0 hpf
            try have s2 := add_end (p := imgP (s.courses.getD c.toNat default) fr i) (c := s.cells) (k := k) (o := out) (by omega)
            exact ((ih0 _ (by omega)).2 (out) (i) (k + 1) rfl (by first | with_reducible assumption | omega | (simp_all; done)) (by first | with_reducible assumption | omega | (simp_all; done)) (by first | with_reducible assumption | omega | (simp_all; done)) (by first | with_reducible assumption | omega | (simp_all; done)) (by first | with_reducible assumption | omega | (simp_all; done)) (by first | with_reducible assumption | omega | (simp_all; done))
              (hg0.landM okF hJ mixed_ok (rImage_s3 B s c fr out i k dJ0)
              ⟨(wq_in (by omega) (by omega)), ⟨⟨trivial, (by have t_ := rHas (List.getD (List.getD s.courses c.toNat default) i.toNat default) (k) (by first | with_reducible assumption | omega | simp_all) (by first | with_reducible assumption | omega | simp_all) (by first | with_reducible assumption | omega | simp_all); rw [q2] at t_; exact t_)⟩, hp1⟩⟩ (by kernel_rfl) (by kernel_rfl))).cast (by first | rfl | (rw [s2]; done) | (rw [s2]; rfl))
        | false =>
          try have hkw := setW_top (s := out) (n := s.cells) (c := k) o0 o1 k0 (by omega)
          try have hpt : imgP (s.courses.getD c.toNat default) fr i k = true := by unfold imgP; rw [q1, q2]; rfl
          try have hpf : imgP (s.courses.getD c.toNat default) fr i k = false := by unfold imgP; rw [q1, q2]; rfl
          try have hpf : imgP (s.courses.getD c.toNat default) fr i k = false := by unfold imgP; rw [q1]; rfl
          try have s2 := add_in (o := out) q0 hpt
          try have s2 := add_out (o := out) q0 hpf
          try have s2 := add_end (p := imgP (s.courses.getD c.toNat default) fr i) (c := s.cells) (k := k) (o := out) (by omega)
          exact ((ih0 _ (by omega)).2 (out) (i) (k + 1) rfl (by first | with_reducible assumption | omega | (simp_all; done)) (by first | with_reducible assumption | omega | (simp_all; done)) (by first | with_reducible assumption | omega | (simp_all; done)) (by first | with_reducible assumption | omega | (simp_all; done)) (by first | with_reducible assumption | omega | (simp_all; done)) (by first | with_reducible assumption | omega | (simp_all; done))
            (hg0.landM okF hJ mixed_ok (rImage_s4 B s c fr out i k dJ0)
            ⟨(wq_in (by omega) (by omega)), ⟨⟨trivial, (by have t_ := rHas (fr) (i) (by first | with_reducible assumption | omega | simp_all) (by first | with_reducible assumption | omega | simp_all) (by first | with_reducible assumption | omega | simp_all); rw [q1] at t_; exact t_)⟩, hp0⟩⟩ (by kernel_rfl) (by kernel_rfl))).cast (by first | rfl | (rw [s2]; done) | (rw [s2]; rfl))
      ·
        try have hkw := setW_top (s := out) (n := s.cells) (c := k) o0 o1 k0 (by omega)
        try have hpt : imgP (s.courses.getD c.toNat default) fr i k = true := by unfold imgP; rw [q1, q2]; rfl
        try have hpf : imgP (s.courses.getD c.toNat default) fr i k = false := by unfold imgP; rw [q1, q2]; rfl
        try have hpf : imgP (s.courses.getD c.toNat default) fr i k = false := by unfold imgP; rw [q1]; rfl
        try have s2 := add_in (o := out) q0 hpt
        try have s2 := add_out (o := out) q0 hpf
        try have s2 := add_end (p := imgP (s.courses.getD c.toNat default) fr i) (c := s.cells) (k := k) (o := out) (by omega)
        exact ((ih0 _ (by omega)).1 (out) (i + 1) rfl (by first | with_reducible assumption | omega | (simp_all; done)) (by first | with_reducible assumption | omega | (simp_all; done)) (by first | with_reducible assumption | omega | (simp_all; done))
          (hg0.landM okF hJ mixed_ok (rImage_s5 B s c fr out i k dJ0)
          ⟨(wq_in (by omega) (by omega)), ⟨(ltq_f (Int.not_lt.1 q0)), trivial⟩⟩ (by kernel_rfl) (by kernel_rfl))).cast (by first | rfl | (rw [s2]; done) | (rw [s2]; rfl))
set_option maxHeartbeats 4000000 in
theorem rImage_e (s : CSea) (c fr : Int) (hs : seaB s = true) (v0 : 0 ≤ c) (v1 : c < s.courses.length) (f0 : 0 ≤ fr) (f1 : fr ≤ topI s.cells) {B : Lo} (hJ : ∀ w, B.has w → J0 w) : EndsT Tryz.prog B (entryC Tryz.prog 38 41 (([.agg (encSea s).toArray, .int .i64 c, .int .i64 fr]).map (pushT 0 4))) (.int .i64 (leadI (s.courses.getD c.toNat default) fr 0 0)) := by
  have hsf := sea_facts hs
  have hcr := course_row hs v0 v1
  exact ((rImage_ls s c fr hs v0 v1 f0 f1 hJ _).1 (0) (0) rfl (by first | with_reducible assumption | omega | (simp_all; done)) (by first | with_reducible assumption | omega | (simp_all; done)) (by first | with_reducible assumption | omega | (simp_all; done))
    (GoE.start.landM okF hJ mixed_ok (rImage_s6 B s c fr)
    trivial (by kernel_rfl) (by kernel_rfl))).cast (by first | rfl | (rw [img_lead (by omega) hcr.2 f0 f1]; done))
theorem rImage (s : CSea) (c fr : Int) (hs : seaB s = true) (v0 : 0 ≤ c) (v1 : c < s.courses.length) (f0 : 0 ≤ fr) (f1 : fr ≤ topI s.cells) : PureC Tryz.prog J0 38 #[.agg (encSea s).toArray, .int .i64 c, .int .i64 fr] (.int .i64 (leadI (s.courses.getD c.toNat default) fr 0 0)) :=
  pureC_of (ts := [.agg (encSea s).toArray, .int .i64 c, .int .i64 fr]) J0_st (c0 := entryC Tryz.prog 38 41 (([.agg (encSea s).toArray, .int .i64 c, .int .i64 fr]).map (pushT 0 4))) (by kernel_rfl) (by kernel_rfl) fun B hJ => rImage_e s c fr hs v0 v1 f0 f1 hJ
def rboth_v0 (s : CSea) (a b : Int) (out i : Int) : List Value := [Value.int IntKind.i64 a, Value.int IntKind.i64 b, pA 2 0, .int .i64 out, .int .i64 i]
def rboth_o0 (s : CSea) (a b : Int) (out i : Int) : List Obj := [Obj.cells #[Value.int IntKind.i64 s.cells, Value.int IntKind.i64 s.start, topV 1 (slT s.courses.length (rowL slI2 s.courses)), topV 1 (slT s.stars.length (rowL encI s.stars)), topV 1 (slT s.boats.length (rowL encI s.boats)), topV 1 (slT s.roads.length (rowL encI s.roads))] 25]
noncomputable def rboth_t0 : List Item := ([.code [1, 1, 0, 1, 0, 0], .inLoop [1, 1, 0, 1, 0, 0], .inBlock 0, .code [1, 1, 1]]).map (it (bodyOf Tryz.prog 39))
def rboth_h0 (B : Lo) (c0 : CF) (s : CSea) (a b : Int) (out i : Int) : Prop := ∃ dJ : Nat → Value, (∀ t, Loose (dJ t)) ∧ GoE Tryz.prog B c0 H00 1 (headC 39 27 (([1, 2, 3, 7, 8] : List Nat).zip (rboth_v0 s a b out i)) dJ rboth_t0) (headH (rboth_o0 s a b out i)) (2 + (rboth_o0 s a b out i).length) []
noncomputable def rboth_p0 (B : Lo) (s : CSea) (a b : Int) (out i : Int) (dJ0 : Nat → Value) : List Prop := [ltq i s.cells = true] ++ ([] : List Prop)
noncomputable def rboth_q0 (s : CSea) (a b : Int) (out i : Int) (dJ0 : Nat → Value) : ScriptT := [(3, hvT)]
noncomputable def rboth_p1 (B : Lo) (s : CSea) (a b : Int) (out i : Int) (dJ0 : Nat → Value) : List Prop := [AllP [] ∧ PureC Tryz.prog J0 22 #[Value.int IntKind.i64 a, Value.int IntKind.i64 i] (Value.bool true)] ++ rboth_p0 B s a b out i dJ0
noncomputable def rboth_q1 (s : CSea) (a b : Int) (out i : Int) (dJ0 : Nat → Value) : ScriptT := rboth_q0 s a b out i dJ0 ++ [(6, HintT.pure (Value.bool true) [])]
set_option maxRecDepth 100000 in
theorem rboth_s0 (B : Lo) (s : CSea) (a b : Int) (out i : Int) (dJ0 : Nat → Value) : landM (srunT Tryz.prog (okFn Tryz.prog) J0 B 14 1 (headC 39 27 (([1, 2, 3, 7, 8] : List Nat).zip (rboth_v0 s a b out i)) dJ0 rboth_t0) (headH (rboth_o0 s a b out i)) (2 + (rboth_o0 s a b out i).length)
    (rboth_q1 s a b out i dJ0 ++ [(10, HintT.pure (Value.bool true) []), (14, HintT.pure (Value.int IntKind.i64 (setW out i)) []), (17, hvI (i + 1))]) 0 [] []) [1, 2, 3, 7, 8] [(2, KS.auto)] [] = some ⟨39, 27, rboth_t0, [], .run, none, rboth_v0 s a b (setW out i) (i + 1), rboth_o0 s a b (setW out i) (i + 1),
    [wq (i + 1) = i + 1, AllP [] ∧ PureC Tryz.prog J0 40 #[Value.int IntKind.i64 out, Value.int IntKind.i64 i] (Value.int IntKind.i64 (setW out i)), AllP [] ∧ PureC Tryz.prog J0 22 #[Value.int IntKind.i64 b, Value.int IntKind.i64 i] (Value.bool true)] ++ rboth_p1 B s a b out i dJ0⟩ := by kernel_rfl
set_option maxRecDepth 100000 in
theorem rboth_s1 (B : Lo) (s : CSea) (a b : Int) (out i : Int) (dJ0 : Nat → Value) : landM (srunT Tryz.prog (okFn Tryz.prog) J0 B 14 1 (headC 39 27 (([1, 2, 3, 7, 8] : List Nat).zip (rboth_v0 s a b out i)) dJ0 rboth_t0) (headH (rboth_o0 s a b out i)) (2 + (rboth_o0 s a b out i).length)
    (rboth_q1 s a b out i dJ0 ++ [(10, HintT.pure (Value.bool false) []), (13, hvI (i + 1))]) 0 [] []) [1, 2, 3, 7, 8] [(2, KS.auto)] [] = some ⟨39, 27, rboth_t0, [], .run, none, rboth_v0 s a b (out) (i + 1), rboth_o0 s a b (out) (i + 1),
    [wq (i + 1) = i + 1, AllP [] ∧ PureC Tryz.prog J0 22 #[Value.int IntKind.i64 b, Value.int IntKind.i64 i] (Value.bool false)] ++ rboth_p1 B s a b out i dJ0⟩ := by kernel_rfl
set_option maxRecDepth 100000 in
theorem rboth_s2 (B : Lo) (s : CSea) (a b : Int) (out i : Int) (dJ0 : Nat → Value) : landM (srunT Tryz.prog (okFn Tryz.prog) J0 B 14 1 (headC 39 27 (([1, 2, 3, 7, 8] : List Nat).zip (rboth_v0 s a b out i)) dJ0 rboth_t0) (headH (rboth_o0 s a b out i)) (2 + (rboth_o0 s a b out i).length)
    (rboth_q0 s a b out i dJ0 ++ [(6, HintT.pure (Value.bool false) []), (13, hvI (i + 1))]) 0 [] []) [1, 2, 3, 7, 8] [(2, KS.auto)] [] = some ⟨39, 27, rboth_t0, [], .run, none, rboth_v0 s a b (out) (i + 1), rboth_o0 s a b (out) (i + 1),
    [wq (i + 1) = i + 1, AllP [] ∧ PureC Tryz.prog J0 22 #[Value.int IntKind.i64 a, Value.int IntKind.i64 i] (Value.bool false)] ++ rboth_p0 B s a b out i dJ0⟩ := by kernel_rfl
set_option maxRecDepth 100000 in
theorem rboth_s3 (B : Lo) (s : CSea) (a b : Int) (out i : Int) (dJ0 : Nat → Value) : endT (srunT Tryz.prog (okFn Tryz.prog) J0 B 9 1 (headC 39 27 (([1, 2, 3, 7, 8] : List Nat).zip (rboth_v0 s a b out i)) dJ0 rboth_t0) (headH (rboth_o0 s a b out i)) (2 + (rboth_o0 s a b out i).length)
    [(3, hvF)] 0 [] []) [] = some (Value.int IntKind.i64 out,
    [ltq i s.cells = false]) := by kernel_rfl
set_option maxRecDepth 100000 in
theorem rboth_s4 (B : Lo) (s : CSea) (a b : Int) : landM (srunT Tryz.prog (okFn Tryz.prog) J0 B 9 1 (entryC Tryz.prog 39 27 (([.agg (encSea s).toArray, .int .i64 a, .int .i64 b]).map (pushT 0 4))) H00 1
    [] 0 [] []) [1, 2, 3, 7, 8] [(1, KS.auto)] [] = some ⟨39, 27, rboth_t0, [], .run, none, rboth_v0 s a b (0) (0), rboth_o0 s a b (0) (0),
    []⟩ := by kernel_rfl
set_option maxHeartbeats 4000000 in
theorem rboth_ls (s : CSea) (a b : Int) (v0 : 0 ≤ s.cells) (v1 : s.cells ≤ 10) (a0 : 0 ≤ a) (a1 : a ≤ topI s.cells) (b0 : 0 ≤ b) (b1 : b ≤ topI s.cells) {B : Lo} (hJ : ∀ w, B.has w → J0 w) {c0 : CF} : ∀ m : Nat, (∀ (out i : Int), (s.cells - i).toNat = m → ∀ (i0 : 0 ≤ i) (o0 : 0 ≤ out) (o1 : out ≤ topI s.cells), rboth_h0 B c0 s a b out i → EndsT Tryz.prog B c0 (.int .i64 (addI (botP a b) s.cells i out))) := by
  intro m0
  induction m0 using Nat.strongRecOn with
  | _ m0 ih0 =>
    intro out i hm0 i0 o0 o1 ⟨dJ0, hdJ0, hg0⟩
    have ht := topI_in v0 v1
    have ht := topI_in v0 v1
    by_cases q0 : (i : Int) < s.cells
    ·
      have hp0 : AllP (rboth_p0 B s a b out i dJ0) := by
        exact ⟨(ltq_t q0), trivial⟩
      cases q1 : setB a i with
      | true =>
        have hp1 : AllP (rboth_p1 B s a b out i dJ0) := by
          try have hkw := setW_top (s := out) (n := s.cells) (c := i) o0 o1 i0 (by omega)
          try have hpt : botP a b i = true := by unfold botP; rw [q1, q2]; rfl
          try have hpf : botP a b i = false := by unfold botP; rw [q1, q2]; rfl
          try have hpf : botP a b i = false := by unfold botP; rw [q1]; rfl
          try have s2 := add_in (o := out) q0 hpt
          try have s2 := add_out (o := out) q0 hpf
          try have s2 := add_end (p := botP a b) (c := s.cells) (k := i) (o := out) (by omega)
          exact ⟨⟨trivial, (by have t_ := rHas (a) (i) (by first | with_reducible assumption | omega | simp_all) (by first | with_reducible assumption | omega | simp_all) (by first | with_reducible assumption | omega | simp_all); rw [q1] at t_; exact t_)⟩, hp0⟩
        cases q2 : setB b i with
        | true =>
          try have hkw := setW_top (s := out) (n := s.cells) (c := i) o0 o1 i0 (by omega)
          try have hpt : botP a b i = true := by unfold botP; rw [q1, q2]; rfl
          try have hpf : botP a b i = false := by unfold botP; rw [q1, q2]; rfl
          try have hpf : botP a b i = false := by unfold botP; rw [q1]; rfl
          try have s2 := add_in (o := out) q0 hpt
          try have s2 := add_out (o := out) q0 hpf
          try have s2 := add_end (p := botP a b) (c := s.cells) (k := i) (o := out) (by omega)
          exact ((ih0 _ (by omega)) (setW out i) (i + 1) rfl (by first | with_reducible assumption | omega | (simp_all; done)) (by first | with_reducible assumption | omega | (simp_all; done)) (by first | with_reducible assumption | omega | (simp_all; done))
            (hg0.landM okF hJ mixed_ok (rboth_s0 B s a b out i dJ0)
            ⟨(wq_in (by omega) (by omega)), ⟨⟨trivial, rwith (out) (i) (by first | with_reducible assumption | omega | simp_all) (by first | with_reducible assumption | omega | simp_all) (by first | with_reducible assumption | omega | simp_all) (by first | with_reducible assumption | omega | simp_all)⟩, ⟨⟨trivial, (by have t_ := rHas (b) (i) (by first | with_reducible assumption | omega | simp_all) (by first | with_reducible assumption | omega | simp_all) (by first | with_reducible assumption | omega | simp_all); rw [q2] at t_; exact t_)⟩, hp1⟩⟩⟩ (by kernel_rfl) (by kernel_rfl))).cast (by first | rfl | (rw [s2]; done) | (rw [s2]; rfl))
        | false =>
          try have hkw := setW_top (s := out) (n := s.cells) (c := i) o0 o1 i0 (by omega)
          try have hpt : botP a b i = true := by unfold botP; rw [q1, q2]; rfl
          try have hpf : botP a b i = false := by unfold botP; rw [q1, q2]; rfl
          try have hpf : botP a b i = false := by unfold botP; rw [q1]; rfl
          try have s2 := add_in (o := out) q0 hpt
          try have s2 := add_out (o := out) q0 hpf
          try have s2 := add_end (p := botP a b) (c := s.cells) (k := i) (o := out) (by omega)
          exact ((ih0 _ (by omega)) (out) (i + 1) rfl (by first | with_reducible assumption | omega | (simp_all; done)) (by first | with_reducible assumption | omega | (simp_all; done)) (by first | with_reducible assumption | omega | (simp_all; done))
            (hg0.landM okF hJ mixed_ok (rboth_s1 B s a b out i dJ0)
            ⟨(wq_in (by omega) (by omega)), ⟨⟨trivial, (by have t_ := rHas (b) (i) (by first | with_reducible assumption | omega | simp_all) (by first | with_reducible assumption | omega | simp_all) (by first | with_reducible assumption | omega | simp_all); rw [q2] at t_; exact t_)⟩, hp1⟩⟩ (by kernel_rfl) (by kernel_rfl))).cast (by first | rfl | (rw [s2]; done) | (rw [s2]; rfl))
      | false =>
        try have hkw := setW_top (s := out) (n := s.cells) (c := i) o0 o1 i0 (by omega)
        try have hpt : botP a b i = true := by unfold botP; rw [q1, q2]; rfl
        try have hpf : botP a b i = false := by unfold botP; rw [q1, q2]; rfl
        try have hpf : botP a b i = false := by unfold botP; rw [q1]; rfl
        try have s2 := add_in (o := out) q0 hpt
        try have s2 := add_out (o := out) q0 hpf
        try have s2 := add_end (p := botP a b) (c := s.cells) (k := i) (o := out) (by omega)
        exact ((ih0 _ (by omega)) (out) (i + 1) rfl (by first | with_reducible assumption | omega | (simp_all; done)) (by first | with_reducible assumption | omega | (simp_all; done)) (by first | with_reducible assumption | omega | (simp_all; done))
          (hg0.landM okF hJ mixed_ok (rboth_s2 B s a b out i dJ0)
          ⟨(wq_in (by omega) (by omega)), ⟨⟨trivial, (by have t_ := rHas (a) (i) (by first | with_reducible assumption | omega | simp_all) (by first | with_reducible assumption | omega | simp_all) (by first | with_reducible assumption | omega | simp_all); rw [q1] at t_; exact t_)⟩, hp0⟩⟩ (by kernel_rfl) (by kernel_rfl))).cast (by first | rfl | (rw [s2]; done) | (rw [s2]; rfl))
    ·
      try have hkw := setW_top (s := out) (n := s.cells) (c := i) o0 o1 i0 (by omega)
      try have hpt : botP a b i = true := by unfold botP; rw [q1, q2]; rfl
      try have hpf : botP a b i = false := by unfold botP; rw [q1, q2]; rfl
      try have hpf : botP a b i = false := by unfold botP; rw [q1]; rfl
      try have s2 := add_in (o := out) q0 hpt
      try have s2 := add_out (o := out) q0 hpf
      try have s2 := add_end (p := botP a b) (c := s.cells) (k := i) (o := out) (by omega)
      exact (GoE.endsT okF hJ mixed_ok hg0 (rboth_s3 B s a b out i dJ0)
        ⟨(ltq_f (Int.not_lt.1 q0)), trivial⟩).cast (by first | rfl | (rw [s2]; done) | (rw [s2]; rfl))
set_option maxHeartbeats 4000000 in
theorem rboth_e (s : CSea) (a b : Int) (v0 : 0 ≤ s.cells) (v1 : s.cells ≤ 10) (a0 : 0 ≤ a) (a1 : a ≤ topI s.cells) (b0 : 0 ≤ b) (b1 : b ≤ topI s.cells) {B : Lo} (hJ : ∀ w, B.has w → J0 w) : EndsT Tryz.prog B (entryC Tryz.prog 39 27 (([.agg (encSea s).toArray, .int .i64 a, .int .i64 b]).map (pushT 0 4))) (.int .i64 ((andN a b : Nat) : Int)) := by
  have ht := topI_in v0 v1
  exact ((rboth_ls s a b v0 v1 a0 a1 b0 b1 hJ _) (0) (0) rfl (by first | with_reducible assumption | omega | (simp_all; done)) (by first | with_reducible assumption | omega | (simp_all; done)) (by first | with_reducible assumption | omega | (simp_all; done))
    (GoE.start.landM okF hJ mixed_ok (rboth_s4 B s a b)
    trivial (by kernel_rfl) (by kernel_rfl))).cast (by first | rfl | (rw [both_and v0 a0 a1]; done))
theorem rboth (s : CSea) (a b : Int) (v0 : 0 ≤ s.cells) (v1 : s.cells ≤ 10) (a0 : 0 ≤ a) (a1 : a ≤ topI s.cells) (b0 : 0 ≤ b) (b1 : b ≤ topI s.cells) : PureC Tryz.prog J0 39 #[.agg (encSea s).toArray, .int .i64 a, .int .i64 b] (.int .i64 ((andN a b : Nat) : Int)) :=
  pureC_of (ts := [.agg (encSea s).toArray, .int .i64 a, .int .i64 b]) J0_st (c0 := entryC Tryz.prog 39 27 (([.agg (encSea s).toArray, .int .i64 a, .int .i64 b]).map (pushT 0 4))) (by kernel_rfl) (by kernel_rfl) fun B hJ => rboth_e s a b v0 v1 a0 a1 b0 b1 hJ
end Go.Proofs.YtiaaikkmipmhnaaGreatDoor

namespace Go.Proofs.YtiaaikkmipmhnaaGreatDoor
open Go Go.CE Go.RowKit
def bP (s : CSea) (h : Hour) (to fr n : Int) : Bool := setB fr n && !decide (((andN (aftI s h (setW 0 n)) to : Nat) : Int) = 0)
def rP (s : CSea) (h : Hour) (to fr n : Int) : Bool := setB fr n && !decide (((andN ((s.courses.getD h.course.toNat default).getD n.toNat default) to : Nat) : Int) = 0)
theorem bef_add {s : CSea} {h : Hour} {to fr n kept : Int} : befI s h to fr n kept = addI (bP s h to fr) (lenI fr) n kept := rfl
def SeenIn (s : CSea) (h : Hour) (to : Int) : Prop := ∀ b : Int, 0 ≤ b → setB to b = true → (decide (h.star < 0) || setB (s.stars.getD h.star.toNat default) b) = true
theorem and_eq {s : CSea} (hs : seaB s = true) {h : Hour} (hh : hourB s.courses.length s.stars.length h = true) {to n : Int} (n0 : 0 ≤ n) (n1 : n < s.cells) (ht : SeenIn s h to) : ((andN (aftI s h (setW 0 n)) to : Nat) : Int) = ((andN ((s.courses.getD h.course.toNat default).getD n.toNat default) to : Nat) : Int) := by
  refine int_ext (Int.natCast_nonneg _) (Int.natCast_nonneg _) fun b b0 => ?_
  rw [bit_and, bit_and]
  have e := step_eq hs hh (b := b) n0 n1
  unfold stepB stepR at e
  rw [e]
  cases hb : setB to b with
  | false => simp
  | true => rw [ht b b0 hb, Bool.and_true]
theorem bef_ref {s : CSea} (hs : seaB s = true) {h : Hour} (hh : hourB s.courses.length s.stars.length h = true) {to fr : Int} (f0 : 0 ≤ fr) (f1 : fr ≤ topI s.cells) (ht : SeenIn s h to) : addI (rP s h to fr) s.cells 0 0 = befI s h to fr 0 0 := by
  have hsf := sea_facts hs
  have h1 := add_top (p := rP s h to fr) (c := s.cells) _ 0 0 (by omega) rfl (by omega) topI_0
  have h2 := bef_top (s := s) (h := h) (to := to) f0 f1 (by omega) _ 0 0 (by omega) rfl (by omega) topI_0
  refine int_ext h1.1 h2.1 fun b b0 => ?_
  rw [bef_add, add_bit b0 _ 0 0 (by omega) rfl, add_bit b0 _ 0 0 (by omega) rfl]
  congr 1
  cases hb : setB fr b with
  | false => unfold rP bP; rw [hb]; rfl
  | true =>
    have hc := bit_cell f0 f1 (by omega) b0 hb
    have hl := bit_len f0 b0 hb
    rw [decide_eq_true (show 0 ≤ b ∧ b < s.cells from ⟨b0, hc⟩), decide_eq_true (show 0 ≤ b ∧ b < lenI fr from ⟨b0, hl⟩)]
    unfold rP bP
    rw [and_eq hs hh b0 hc ht]
theorem bef_sub {s : CSea} {h : Hour} {to fr b : Int} (b0 : 0 ≤ b) (hb : setB (befI s h to fr 0 0) b = true) : setB fr b = true := by
  rw [bef_add, add_bit b0 _ 0 0 (by omega) rfl, show setB 0 b = false by rw [setB_eq]; simp, Bool.false_or] at hb
  simp only [bP, Bool.and_eq_true] at hb
  exact hb.1.1
theorem pa_sub {s : CSea} {l : List Hour} {fr b : Int} {j : Nat} (hj : j ≤ l.length) (b0 : 0 ≤ b) (hb : setB ((paF s l fr).getD j default) b = true) : setB ((whF s l fr).getD j default) b = true := by
  by_cases h : j < l.length
  · rw [paF_get h] at hb; exact bef_sub b0 hb
  · obtain rfl : j = l.length := by omega
    rw [paF_last] at hb; exact hb
theorem seen_in {s : CSea} {l : List Hour} {k : Int} (h0 : 0 ≤ k) (h : k < l.length) (hst : -1 ≤ (l.getD k.toNat default).star) : SeenIn s (l.getD k.toNat default) ((paL s l).getD (k + 1).toNat default) := by
  intro b b0 hb
  have e1 : (k + 1).toNat = k.toNat + 1 := by omega
  rw [e1] at hb
  have hw := pa_sub (by omega) b0 hb
  rw [whF_next (by omega)] at hw
  unfold aftI starI at hw
  by_cases e : (l.getD k.toNat default).star = -1
  · rw [decide_eq_true (by omega)]; rfl
  · rw [if_neg e, bit_and, Bool.and_eq_true] at hw
    rw [hw.2, Bool.or_true]
def rWhere_v0 (s : CSea) (l : List Hour) (i : Int) (ys : List Int) (yn : Nat) : List Value := [topV 1 (slT l.length (rowL encHour l)), pA 2 0, .slice (some ⟨3, 0, none⟩) yn 1, .int .i64 i]
def rWhere_o0 (s : CSea) (l : List Hour) (i : Int) (ys : List Int) (yn : Nat) : List Obj := [Obj.cells #[Value.int IntKind.i64 s.cells, Value.int IntKind.i64 s.start, topV 1 (slT s.courses.length (rowL slI2 s.courses)), topV 1 (slT s.stars.length (rowL encI s.stars)), topV 1 (slT s.boats.length (rowL encI s.boats)), topV 1 (slT s.roads.length (rowL encI s.roads))] 25, .cells (rowL encI ys) 3 (0, 0)]
noncomputable def rWhere_t0 : List Item := ([.code [1, 1, 0, 1, 0, 0], .inLoop [1, 1, 0, 1, 0, 0], .inBlock 0, .code [1, 1, 1]]).map (it (bodyOf Tryz.prog 17))
def rWhere_h0 (B : Lo) (c0 : CF) (s : CSea) (l : List Hour) (i : Int) (ys : List Int) (yn : Nat) : Prop := ∃ dJ : Nat → Value, (∀ t, Loose (dJ t)) ∧ GoE Tryz.prog B c0 H00 1 (headC 17 51 (([1, 2, 5, 6] : List Nat).zip (rWhere_v0 s l i ys yn)) dJ rWhere_t0) (headH (rWhere_o0 s l i ys yn)) (2 + (rWhere_o0 s l i ys yn).length) []
noncomputable def rWhere_z0 (l : List Hour) (i : Int) : Array Value := #[Value.int IntKind.i64 (Hour.course (List.getD l i.toNat default)), Value.int IntKind.i64 (Hour.star (List.getD l i.toNat default))]
noncomputable def rWhere_p0 (B : Lo) (s : CSea) (l : List Hour) (i : Int) (ys : List Int) (yn : Nat) (dJ0 : Nat → Value) : List Prop := [i = (↑i.toNat : Int) ∧ Int.toNat i < List.length l ∧ Array.extract (rowL encHour l) (Int.toNat i * TypeInfo.size Tryz.t49) (Int.toNat i * TypeInfo.size Tryz.t49 + TypeInfo.size Tryz.t49) = (rWhere_z0 l i), AllP [] ∧ PureC Tryz.prog J0 38 #[Value.agg #[Value.int IntKind.i64 s.cells, Value.int IntKind.i64 s.start, slT s.courses.length (rowL slI2 s.courses), slT s.stars.length (rowL encI s.stars), slT s.boats.length (rowL encI s.boats), slT s.roads.length (rowL encI s.roads)], Value.int IntKind.i64 (Hour.course (List.getD l i.toNat default)), Value.int IntKind.i64 (List.getD ys i.toNat default)] (Value.int IntKind.i64 (leadI (List.getD s.courses (Int.toNat (Hour.course (List.getD l i.toNat default))) default) (List.getD ys i.toNat default) 0 0)), (rowL encI ys)[0 + Int.toNat i * 1]? = some (Value.int IntKind.i64 (List.getD ys i.toNat default)), i = (↑i.toNat : Int) ∧ Int.toNat i < yn, i = (↑i.toNat : Int) ∧ Int.toNat i < List.length l ∧ Array.extract (rowL encHour l) (Int.toNat i * TypeInfo.size Tryz.t49) (Int.toNat i * TypeInfo.size Tryz.t49 + TypeInfo.size Tryz.t49) = (rWhere_z0 l i), ltq i (↑l.length : Int) = true] ++ ([] : List Prop)
noncomputable def rWhere_q0 (s : CSea) (l : List Hour) (i : Int) (ys : List Int) (yn : Nat) (dJ0 : Nat → Value) : ScriptT := [(3, hvT), (7, HintT.tidx i.toNat (rWhere_z0 l i)), (12, HintT.old (Hint.idx i.toNat)), (13, HintT.old (Hint.ld (Value.int IntKind.i64 (List.getD ys i.toNat default)))), (14, HintT.pure (Value.int IntKind.i64 (leadI (List.getD s.courses (Int.toNat (Hour.course (List.getD l i.toNat default))) default) (List.getD ys i.toNat default) 0 0)) []), (18, HintT.tidx i.toNat (rWhere_z0 l i))]
set_option maxRecDepth 100000 in
theorem rWhere_s0 (B : Lo) (s : CSea) (l : List Hour) (i : Int) (ys : List Int) (yn : Nat) (dJ0 : Nat → Value) : landM (srunT Tryz.prog (okFn Tryz.prog) J0 B 18 1 (headC 17 51 (([1, 2, 5, 6] : List Nat).zip (rWhere_v0 s l i ys yn)) dJ0 rWhere_t0) (headH (rWhere_o0 s l i ys yn)) (2 + (rWhere_o0 s l i ys yn).length)
    (rWhere_q0 s l i ys yn dJ0 ++ [(21, hvT), (28, HintT.tidx i.toNat (rWhere_z0 l i)), (31, HintT.tidx (Int.toNat (Hour.star (List.getD l i.toNat default))) #[Value.int IntKind.i64 (List.getD s.stars (Int.toNat (Hour.star (List.getD l i.toNat default))) default)]), (33, HintT.pure (Value.int IntKind.i64 (↑(andN (leadI (List.getD s.courses (Int.toNat (Hour.course (List.getD l i.toNat default))) default) (List.getD ys i.toNat default) 0 0) (List.getD s.stars (Int.toNat (Hour.star (List.getD l i.toNat default))) default)) : Int)) []), (38, HintT.old (Hint.app (rowL encI (ys ++ [(↑(andN (leadI (List.getD s.courses (Int.toNat (Hour.course (List.getD l i.toNat default))) default) (List.getD ys i.toNat default) 0 0) (List.getD s.stars (Int.toNat (Hour.star (List.getD l i.toNat default))) default)) : Int)])))), (41, hvI (i + 1))]) 0 [] []) [1, 2, 5, 6] [(2, KS.auto), (5, KS.cells [] (rowL encI (ys ++ [(↑(andN (leadI (List.getD s.courses (Int.toNat (Hour.course (List.getD l i.toNat default))) default) (List.getD ys i.toNat default) 0 0) (List.getD s.stars (Int.toNat (Hour.star (List.getD l i.toNat default))) default)) : Int)])))] [] = some ⟨17, 51, rWhere_t0, [], .run, none, rWhere_v0 s l (i + 1) (ys ++ [(↑(andN (leadI (List.getD s.courses (Int.toNat (Hour.course (List.getD l i.toNat default))) default) (List.getD ys i.toNat default) 0 0) (List.getD s.stars (Int.toNat (Hour.star (List.getD l i.toNat default))) default)) : Int)]) (yn + 1), rWhere_o0 s l (i + 1) (ys ++ [(↑(andN (leadI (List.getD s.courses (Int.toNat (Hour.course (List.getD l i.toNat default))) default) (List.getD ys i.toNat default) 0 0) (List.getD s.stars (Int.toNat (Hour.star (List.getD l i.toNat default))) default)) : Int)]) (yn + 1),
    [CellsM 1 [] (rowL encI (ys ++ [(↑(andN (leadI (List.getD s.courses (Int.toNat (Hour.course (List.getD l i.toNat default))) default) (List.getD ys i.toNat default) 0 0) (List.getD s.stars (Int.toNat (Hour.star (List.getD l i.toNat default))) default)) : Int)])) (rowL encI (ys ++ [(↑(andN (leadI (List.getD s.courses (Int.toNat (Hour.course (List.getD l i.toNat default))) default) (List.getD ys i.toNat default) 0 0) (List.getD s.stars (Int.toNat (Hour.star (List.getD l i.toNat default))) default)) : Int)])), wq (i + 1) = i + 1, Array.size (rowL encI ys) = yn * (0 + 1) ∧ yn + 1 ≤ maxLen ∧ (yn + 1) * 8 ≤ 140737488355328 ∧ rowL encI ys ++ #[Value.int IntKind.i64 (↑(andN (leadI (List.getD s.courses (Int.toNat (Hour.course (List.getD l i.toNat default))) default) (List.getD ys i.toNat default) 0 0) (List.getD s.stars (Int.toNat (Hour.star (List.getD l i.toNat default))) default)) : Int)] = rowL encI (ys ++ [(↑(andN (leadI (List.getD s.courses (Int.toNat (Hour.course (List.getD l i.toNat default))) default) (List.getD ys i.toNat default) 0 0) (List.getD s.stars (Int.toNat (Hour.star (List.getD l i.toNat default))) default)) : Int)]), AllP [] ∧ PureC Tryz.prog J0 39 #[Value.agg #[Value.int IntKind.i64 s.cells, Value.int IntKind.i64 s.start, slT s.courses.length (rowL slI2 s.courses), slT s.stars.length (rowL encI s.stars), slT s.boats.length (rowL encI s.boats), slT s.roads.length (rowL encI s.roads)], Value.int IntKind.i64 (leadI (List.getD s.courses (Int.toNat (Hour.course (List.getD l i.toNat default))) default) (List.getD ys i.toNat default) 0 0), Value.int IntKind.i64 (List.getD s.stars (Int.toNat (Hour.star (List.getD l i.toNat default))) default)] (Value.int IntKind.i64 (↑(andN (leadI (List.getD s.courses (Int.toNat (Hour.course (List.getD l i.toNat default))) default) (List.getD ys i.toNat default) 0 0) (List.getD s.stars (Int.toNat (Hour.star (List.getD l i.toNat default))) default)) : Int)), Hour.star (List.getD l i.toNat default) = (↑(Int.toNat (Hour.star (List.getD l i.toNat default))) : Int) ∧ Int.toNat (Hour.star (List.getD l i.toNat default)) < List.length s.stars ∧ Array.extract (rowL encI s.stars) (Int.toNat (Hour.star (List.getD l i.toNat default)) * TypeInfo.size Tryz.t3) (Int.toNat (Hour.star (List.getD l i.toNat default)) * TypeInfo.size Tryz.t3 + TypeInfo.size Tryz.t3) = #[Value.int IntKind.i64 (List.getD s.stars (Int.toNat (Hour.star (List.getD l i.toNat default))) default)], i = (↑i.toNat : Int) ∧ Int.toNat i < List.length l ∧ Array.extract (rowL encHour l) (Int.toNat i * TypeInfo.size Tryz.t49) (Int.toNat i * TypeInfo.size Tryz.t49 + TypeInfo.size Tryz.t49) = (rWhere_z0 l i), (!ltq (Hour.star (List.getD l i.toNat default)) 0) = true] ++ rWhere_p0 B s l i ys yn dJ0⟩ := by kernel_rfl
set_option maxRecDepth 100000 in
theorem rWhere_s1 (B : Lo) (s : CSea) (l : List Hour) (i : Int) (ys : List Int) (yn : Nat) (dJ0 : Nat → Value) : landM (srunT Tryz.prog (okFn Tryz.prog) J0 B 18 1 (headC 17 51 (([1, 2, 5, 6] : List Nat).zip (rWhere_v0 s l i ys yn)) dJ0 rWhere_t0) (headH (rWhere_o0 s l i ys yn)) (2 + (rWhere_o0 s l i ys yn).length)
    (rWhere_q0 s l i ys yn dJ0 ++ [(21, hvF), (25, HintT.old (Hint.app (rowL encI (ys ++ [leadI (List.getD s.courses (Int.toNat (Hour.course (List.getD l i.toNat default))) default) (List.getD ys i.toNat default) 0 0])))), (28, hvI (i + 1))]) 0 [] []) [1, 2, 5, 6] [(2, KS.auto), (5, KS.cells [] (rowL encI (ys ++ [leadI (List.getD s.courses (Int.toNat (Hour.course (List.getD l i.toNat default))) default) (List.getD ys i.toNat default) 0 0])))] [] = some ⟨17, 51, rWhere_t0, [], .run, none, rWhere_v0 s l (i + 1) (ys ++ [leadI (List.getD s.courses (Int.toNat (Hour.course (List.getD l i.toNat default))) default) (List.getD ys i.toNat default) 0 0]) (yn + 1), rWhere_o0 s l (i + 1) (ys ++ [leadI (List.getD s.courses (Int.toNat (Hour.course (List.getD l i.toNat default))) default) (List.getD ys i.toNat default) 0 0]) (yn + 1),
    [CellsM 1 [] (rowL encI (ys ++ [leadI (List.getD s.courses (Int.toNat (Hour.course (List.getD l i.toNat default))) default) (List.getD ys i.toNat default) 0 0])) (rowL encI (ys ++ [leadI (List.getD s.courses (Int.toNat (Hour.course (List.getD l i.toNat default))) default) (List.getD ys i.toNat default) 0 0])), wq (i + 1) = i + 1, Array.size (rowL encI ys) = yn * (0 + 1) ∧ yn + 1 ≤ maxLen ∧ (yn + 1) * 8 ≤ 140737488355328 ∧ rowL encI ys ++ #[Value.int IntKind.i64 (leadI (List.getD s.courses (Int.toNat (Hour.course (List.getD l i.toNat default))) default) (List.getD ys i.toNat default) 0 0)] = rowL encI (ys ++ [leadI (List.getD s.courses (Int.toNat (Hour.course (List.getD l i.toNat default))) default) (List.getD ys i.toNat default) 0 0]), (!ltq (Hour.star (List.getD l i.toNat default)) 0) = false] ++ rWhere_p0 B s l i ys yn dJ0⟩ := by kernel_rfl
set_option maxRecDepth 100000 in
theorem rWhere_s2 (B : Lo) (s : CSea) (l : List Hour) (i : Int) (ys : List Int) (yn : Nat) (dJ0 : Nat → Value) : endT (srunT Tryz.prog (okFn Tryz.prog) J0 B 9 1 (headC 17 51 (([1, 2, 5, 6] : List Nat).zip (rWhere_v0 s l i ys yn)) dJ0 rWhere_t0) (headH (rWhere_o0 s l i ys yn)) (2 + (rWhere_o0 s l i ys yn).length)
    [(3, hvF)] 0 [] []) [{ k := 3, rs := [], cs := rowL encI ys }] = some (slT yn (Fz.cs { k := 3, rs := [], cs := rowL encI ys }),
    [CellsT (Fz.rs { k := 3, rs := [], cs := rowL encI ys }) (rowL encI ys) (Fz.cs { k := 3, rs := [], cs := rowL encI ys }), ltq i (↑l.length : Int) = false]) := by kernel_rfl
set_option maxRecDepth 100000 in
theorem rWhere_s3 (B : Lo) (s : CSea) (l : List Hour) : landM (srunT Tryz.prog (okFn Tryz.prog) J0 B 9 1 (entryC Tryz.prog 17 51 (([.agg (encSea s).toArray, slH l]).map (pushT 0 4))) H00 1
    [] 0 [] []) [1, 2, 5, 6] [(1, KS.auto), (2, KS.cells [] (rowL encI [s.start]))] [] = some ⟨17, 51, rWhere_t0, [], .run, none, rWhere_v0 s l (0) ([s.start]) (1), rWhere_o0 s l (0) ([s.start]) (1),
    [CellsM 1 [] (#[Value.int IntKind.i64 s.start]) (rowL encI [s.start])]⟩ := by kernel_rfl
set_option maxHeartbeats 4000000 in
theorem rWhere_ls (s : CSea) (l : List Hour) (hs : seaB s = true) (hl : logB s l = true) (hn : (l.length : Int) ≤ 12) {B : Lo} (hJ : ∀ w, B.has w → J0 w) {c0 : CF} : ∀ m : Nat, (∀ (i : Int) (ys : List Int) (yn : Nat), l.length - i.toNat = m → ∀ (i0 : 0 ≤ i) (i1 : i ≤ l.length) (hyn : yn = ys.length) (hy : ys = (whL s l).take (i + 1).toNat), rWhere_h0 B c0 s l i ys yn → EndsT Tryz.prog B c0 (slI (whL s l))) := by
  intro m0
  induction m0 using Nat.strongRecOn with
  | _ m0 ih0 =>
    intro i ys yn hm0 i0 i1 hyn hy ⟨dJ0, hdJ0, hg0⟩
    have hsf := sea_facts hs
    have hwl := whL_len (s := s) (l := l)
    have hsf := sea_facts hs
    have hwl := whL_len (s := s) (l := l)
    have hyl : (ys.length : Int) = i + 1 := by rw [hy, List.length_take, hwl]; omega
    by_cases q0 : (i : Int) < ((↑l.length : Int))
    ·
      have hp0 : AllP (rWhere_p0 B s l i ys yn dJ0) := by
        try have hhi := log_in hl i0 q0
        try have hhf := hour_facts hhi
        try have hyk : ys.getD i.toNat default = (whL s l).getD i.toNat default := by rw [hy]; exact take_getD (by omega)
        try have hwk := whL_get hs hl i0 (by omega)
        try have hcr := course_row hs hhf.1.1 hhf.1.2
        try have hlt := lead_top (fr := ys.getD i.toNat default) hcr.2 (by omega) (by omega) (by omega) _ 0 0 (by omega) rfl (by omega) topI_0
        try have hst := star_in hs (k := (l.getD i.toNat default).star) (by omega) hhf.2.2
        try have haf : ((andN (leadI (s.courses.getD (l.getD i.toNat default).course.toNat default) (ys.getD i.toNat default) 0 0) (s.stars.getD (l.getD i.toNat default).star.toNat default) : Nat) : Int) = aftI s (l.getD i.toNat default) (ys.getD i.toNat default) := by unfold aftI starI; rw [if_neg (show ¬ (l.getD i.toNat default).star = -1 by omega)]
        try have haf : leadI (s.courses.getD (l.getD i.toNat default).course.toNat default) (ys.getD i.toNat default) 0 0 = aftI s (l.getD i.toNat default) (ys.getD i.toNat default) := by unfold aftI starI; rw [if_pos (show (l.getD i.toNat default).star = -1 by omega)]
        exact ⟨⟨by omega, by omega, (rowL_extract (z := 2) (fun _ => rfl) (by first | omega | (rw [List.length_set]; omega) | (rw [List.length_replicate]; omega)))⟩, ⟨⟨trivial, rImage (s) (Hour.course (List.getD l i.toNat default)) (List.getD ys i.toNat default) (by first | with_reducible assumption | omega | simp_all) (by first | with_reducible assumption | omega | simp_all) (by first | with_reducible assumption | omega | simp_all) (by first | with_reducible assumption | omega | simp_all) (by first | with_reducible assumption | omega | simp_all)⟩, ⟨(by exact rowL_ld0 (z := 1) (j := 0) (k := Int.toNat i) (fun _ => rfl) (by first | omega | (rw [List.length_set]; omega) | (rw [List.length_replicate]; omega)) rfl), ⟨⟨by omega, by omega⟩, ⟨⟨by omega, by omega, (rowL_extract (z := 2) (fun _ => rfl) (by first | omega | (rw [List.length_set]; omega) | (rw [List.length_replicate]; omega)))⟩, ⟨(ltq_t q0), trivial⟩⟩⟩⟩⟩⟩
      by_cases q1 : (0 : Int) ≤ (Hour.star (List.getD l i.toNat default))
      ·
        try have hhi := log_in hl i0 q0
        try have hhf := hour_facts hhi
        try have hyk : ys.getD i.toNat default = (whL s l).getD i.toNat default := by rw [hy]; exact take_getD (by omega)
        try have hwk := whL_get hs hl i0 (by omega)
        try have hcr := course_row hs hhf.1.1 hhf.1.2
        try have hlt := lead_top (fr := ys.getD i.toNat default) hcr.2 (by omega) (by omega) (by omega) _ 0 0 (by omega) rfl (by omega) topI_0
        try have hst := star_in hs (k := (l.getD i.toNat default).star) (by omega) hhf.2.2
        try have haf : ((andN (leadI (s.courses.getD (l.getD i.toNat default).course.toNat default) (ys.getD i.toNat default) 0 0) (s.stars.getD (l.getD i.toNat default).star.toNat default) : Nat) : Int) = aftI s (l.getD i.toNat default) (ys.getD i.toNat default) := by unfold aftI starI; rw [if_neg (show ¬ (l.getD i.toNat default).star = -1 by omega)]
        try have haf : leadI (s.courses.getD (l.getD i.toNat default).course.toNat default) (ys.getD i.toNat default) 0 0 = aftI s (l.getD i.toNat default) (ys.getD i.toNat default) := by unfold aftI starI; rw [if_pos (show (l.getD i.toNat default).star = -1 by omega)]
        exact ((ih0 _ (by omega)) (i + 1) (ys ++ [(↑(andN (leadI (List.getD s.courses (Int.toNat (Hour.course (List.getD l i.toNat default))) default) (List.getD ys i.toNat default) 0 0) (List.getD s.stars (Int.toNat (Hour.star (List.getD l i.toNat default))) default)) : Int)]) (yn + 1) rfl (by first | with_reducible assumption | omega | rfl | exact whL_one | (rw [haf]; exact whL_snoc i0 q0 hy) | (simp only [List.length_append, List.length_cons, List.length_nil]; omega) | (simp_all; done)) (by first | with_reducible assumption | omega | rfl | exact whL_one | (rw [haf]; exact whL_snoc i0 q0 hy) | (simp only [List.length_append, List.length_cons, List.length_nil]; omega) | (simp_all; done)) (by first | with_reducible assumption | omega | rfl | exact whL_one | (rw [haf]; exact whL_snoc i0 q0 hy) | (simp only [List.length_append, List.length_cons, List.length_nil]; omega) | (simp_all; done)) (by first | with_reducible assumption | omega | rfl | exact whL_one | (rw [haf]; exact whL_snoc i0 q0 hy) | (simp only [List.length_append, List.length_cons, List.length_nil]; omega) | (simp_all; done))
          (hg0.landM okF hJ mixed_ok (rWhere_s0 B s l i ys yn dJ0)
          ⟨(cellsM_simple (rowL_simple (fun x => List.all_eq_true.1 (by first | rfl | (cases x <;> rfl))))), ⟨(wq_in (by omega) (by omega)), ⟨⟨(by first | rfl | exact rowL_size (z := 1) (fun _ => rfl) | (rw [rowL_size (z := 1) (fun _ => rfl)]; first | omega | (simp; omega) | (simp_all; done))), (by unfold maxLen; omega), by omega, by first | exact rowL_push | exact rowL_pushC rfl⟩, ⟨⟨trivial, rboth (s) (leadI (List.getD s.courses (Int.toNat (Hour.course (List.getD l i.toNat default))) default) (List.getD ys i.toNat default) 0 0) (List.getD s.stars (Int.toNat (Hour.star (List.getD l i.toNat default))) default) (by first | with_reducible assumption | omega | simp_all) (by first | with_reducible assumption | omega | simp_all) (by first | with_reducible assumption | omega | simp_all) (by first | with_reducible assumption | omega | simp_all) (by first | with_reducible assumption | omega | simp_all) (by first | with_reducible assumption | omega | simp_all)⟩, ⟨⟨by omega, by omega, (rowL_extract (z := 1) (fun _ => rfl) (by first | omega | (rw [List.length_set]; omega) | (rw [List.length_replicate]; omega)))⟩, ⟨⟨by omega, by omega, (rowL_extract (z := 2) (fun _ => rfl) (by first | omega | (rw [List.length_set]; omega) | (rw [List.length_replicate]; omega)))⟩, ⟨(nltq_t q1), hp0⟩⟩⟩⟩⟩⟩⟩ (by kernel_rfl) (by kernel_rfl))).cast (by first | rfl | exact row_len (whL_all (by omega) hy) (by rw [hyn, whL_all (by omega) hy]))
      ·
        try have hhi := log_in hl i0 q0
        try have hhf := hour_facts hhi
        try have hyk : ys.getD i.toNat default = (whL s l).getD i.toNat default := by rw [hy]; exact take_getD (by omega)
        try have hwk := whL_get hs hl i0 (by omega)
        try have hcr := course_row hs hhf.1.1 hhf.1.2
        try have hlt := lead_top (fr := ys.getD i.toNat default) hcr.2 (by omega) (by omega) (by omega) _ 0 0 (by omega) rfl (by omega) topI_0
        try have hst := star_in hs (k := (l.getD i.toNat default).star) (by omega) hhf.2.2
        try have haf : ((andN (leadI (s.courses.getD (l.getD i.toNat default).course.toNat default) (ys.getD i.toNat default) 0 0) (s.stars.getD (l.getD i.toNat default).star.toNat default) : Nat) : Int) = aftI s (l.getD i.toNat default) (ys.getD i.toNat default) := by unfold aftI starI; rw [if_neg (show ¬ (l.getD i.toNat default).star = -1 by omega)]
        try have haf : leadI (s.courses.getD (l.getD i.toNat default).course.toNat default) (ys.getD i.toNat default) 0 0 = aftI s (l.getD i.toNat default) (ys.getD i.toNat default) := by unfold aftI starI; rw [if_pos (show (l.getD i.toNat default).star = -1 by omega)]
        exact ((ih0 _ (by omega)) (i + 1) (ys ++ [leadI (List.getD s.courses (Int.toNat (Hour.course (List.getD l i.toNat default))) default) (List.getD ys i.toNat default) 0 0]) (yn + 1) rfl (by first | with_reducible assumption | omega | rfl | exact whL_one | (rw [haf]; exact whL_snoc i0 q0 hy) | (simp only [List.length_append, List.length_cons, List.length_nil]; omega) | (simp_all; done)) (by first | with_reducible assumption | omega | rfl | exact whL_one | (rw [haf]; exact whL_snoc i0 q0 hy) | (simp only [List.length_append, List.length_cons, List.length_nil]; omega) | (simp_all; done)) (by first | with_reducible assumption | omega | rfl | exact whL_one | (rw [haf]; exact whL_snoc i0 q0 hy) | (simp only [List.length_append, List.length_cons, List.length_nil]; omega) | (simp_all; done)) (by first | with_reducible assumption | omega | rfl | exact whL_one | (rw [haf]; exact whL_snoc i0 q0 hy) | (simp only [List.length_append, List.length_cons, List.length_nil]; omega) | (simp_all; done))
          (hg0.landM okF hJ mixed_ok (rWhere_s1 B s l i ys yn dJ0)
          ⟨(cellsM_simple (rowL_simple (fun x => List.all_eq_true.1 (by first | rfl | (cases x <;> rfl))))), ⟨(wq_in (by omega) (by omega)), ⟨⟨(by first | rfl | exact rowL_size (z := 1) (fun _ => rfl) | (rw [rowL_size (z := 1) (fun _ => rfl)]; first | omega | (simp; omega) | (simp_all; done))), (by unfold maxLen; omega), by omega, by first | exact rowL_push | exact rowL_pushC rfl⟩, ⟨(nltq_f (Int.not_le.1 q1)), hp0⟩⟩⟩⟩ (by kernel_rfl) (by kernel_rfl))).cast (by first | rfl | exact row_len (whL_all (by omega) hy) (by rw [hyn, whL_all (by omega) hy]))
    ·
      try have hhi := log_in hl i0 q0
      try have hhf := hour_facts hhi
      try have hyk : ys.getD i.toNat default = (whL s l).getD i.toNat default := by rw [hy]; exact take_getD (by omega)
      try have hwk := whL_get hs hl i0 (by omega)
      try have hcr := course_row hs hhf.1.1 hhf.1.2
      try have hlt := lead_top (fr := ys.getD i.toNat default) hcr.2 (by omega) (by omega) (by omega) _ 0 0 (by omega) rfl (by omega) topI_0
      try have hst := star_in hs (k := (l.getD i.toNat default).star) (by omega) hhf.2.2
      try have haf : ((andN (leadI (s.courses.getD (l.getD i.toNat default).course.toNat default) (ys.getD i.toNat default) 0 0) (s.stars.getD (l.getD i.toNat default).star.toNat default) : Nat) : Int) = aftI s (l.getD i.toNat default) (ys.getD i.toNat default) := by unfold aftI starI; rw [if_neg (show ¬ (l.getD i.toNat default).star = -1 by omega)]
      try have haf : leadI (s.courses.getD (l.getD i.toNat default).course.toNat default) (ys.getD i.toNat default) 0 0 = aftI s (l.getD i.toNat default) (ys.getD i.toNat default) := by unfold aftI starI; rw [if_pos (show (l.getD i.toNat default).star = -1 by omega)]
      exact (GoE.endsT okF hJ mixed_ok hg0 (rWhere_s2 B s l i ys yn dJ0)
        ⟨(rowL_cellsT (fun x => List.all_eq_true.1 (by first | rfl | (cases x <;> rfl)))), ⟨(ltq_f (Int.not_lt.1 q0)), trivial⟩⟩).cast (by first | rfl | exact row_len (whL_all (by omega) hy) (by rw [hyn, whL_all (by omega) hy]))
set_option maxHeartbeats 4000000 in
theorem rWhere_e (s : CSea) (l : List Hour) (hs : seaB s = true) (hl : logB s l = true) (hn : (l.length : Int) ≤ 12) {B : Lo} (hJ : ∀ w, B.has w → J0 w) : EndsT Tryz.prog B (entryC Tryz.prog 17 51 (([.agg (encSea s).toArray, slH l]).map (pushT 0 4))) (slI (whL s l)) := by
  have hsf := sea_facts hs
  have hwl := whL_len (s := s) (l := l)
  exact ((rWhere_ls s l hs hl hn hJ _) (0) ([s.start]) (1) rfl (by first | with_reducible assumption | omega | rfl | exact whL_one | (rw [haf]; exact whL_snoc i0 q0 hy) | (simp only [List.length_append, List.length_cons, List.length_nil]; omega) | (simp_all; done)) (by first | with_reducible assumption | omega | rfl | exact whL_one | (rw [haf]; exact whL_snoc i0 q0 hy) | (simp only [List.length_append, List.length_cons, List.length_nil]; omega) | (simp_all; done)) (by first | with_reducible assumption | omega | rfl | exact whL_one | (rw [haf]; exact whL_snoc i0 q0 hy) | (simp only [List.length_append, List.length_cons, List.length_nil]; omega) | (simp_all; done)) (by first | with_reducible assumption | omega | rfl | exact whL_one | (rw [haf]; exact whL_snoc i0 q0 hy) | (simp only [List.length_append, List.length_cons, List.length_nil]; omega) | (simp_all; done))
    (GoE.start.landM okF hJ mixed_ok (rWhere_s3 B s l)
    ⟨(cellsM_lit (by kernel_rfl)), trivial⟩ (by kernel_rfl) (by kernel_rfl))).cast (by first | rfl | (simp [*]; done) | (simp_all []; done) | (simp_all []; omega))
theorem rWhere (s : CSea) (l : List Hour) (hs : seaB s = true) (hl : logB s l = true) (hn : (l.length : Int) ≤ 12) : PureC Tryz.prog J0 17 #[.agg (encSea s).toArray, slH l] (slI (whL s l)) :=
  pureC_of (ts := [.agg (encSea s).toArray, slH l]) J0_st (c0 := entryC Tryz.prog 17 51 (([.agg (encSea s).toArray, slH l]).map (pushT 0 4))) (by kernel_rfl) (by kernel_rfl) fun B hJ => rWhere_e s l hs hl hn hJ
noncomputable def rPossible_p0 (B : Lo) (s : CSea) (l : List Hour) : List Prop := [(↑l.length : Int) = (↑l.length : Int) ∧ List.length l < List.length (whL s l) ∧ Array.extract (rowL encI (whL s l)) (List.length l * TypeInfo.size Tryz.t3) (List.length l * TypeInfo.size Tryz.t3 + TypeInfo.size Tryz.t3) = #[Value.int IntKind.i64 (List.getD (whL s l) l.length default)], AllP [] ∧ PureC Tryz.prog J0 17 #[Value.agg #[Value.int IntKind.i64 s.cells, Value.int IntKind.i64 s.start, slT s.courses.length (rowL slI2 s.courses), slT s.stars.length (rowL encI s.stars), slT s.boats.length (rowL encI s.boats), slT s.roads.length (rowL encI s.roads)], slT l.length (rowL encHour l)] (slT (List.length (whL s l)) (rowL encI (whL s l)))] ++ ([] : List Prop)
noncomputable def rPossible_q0 (s : CSea) (l : List Hour) : ScriptT := [(4, HintT.pure (slT (List.length (whL s l)) (rowL encI (whL s l))) []), (7, HintT.tidx l.length #[Value.int IntKind.i64 (List.getD (whL s l) l.length default)])]
set_option maxRecDepth 100000 in
theorem rPossible_s0 (B : Lo) (s : CSea) (l : List Hour) : endT (srunT Tryz.prog (okFn Tryz.prog) J0 B 6 1 (entryC Tryz.prog 15 13 (([.agg (encSea s).toArray, slH l]).map (pushT 0 4))) H00 1
    (rPossible_q0 s l ++ [(9, hvT)]) 0 [] []) [] = some (Value.bool true,
    [(!eqq (List.getD (whL s l) l.length default) 0) = true] ++ rPossible_p0 B s l) := by kernel_rfl
set_option maxRecDepth 100000 in
theorem rPossible_s1 (B : Lo) (s : CSea) (l : List Hour) : endT (srunT Tryz.prog (okFn Tryz.prog) J0 B 6 1 (entryC Tryz.prog 15 13 (([.agg (encSea s).toArray, slH l]).map (pushT 0 4))) H00 1
    (rPossible_q0 s l ++ [(9, hvF)]) 0 [] []) [] = some (Value.bool false,
    [(!eqq (List.getD (whL s l) l.length default) 0) = false] ++ rPossible_p0 B s l) := by kernel_rfl
set_option maxHeartbeats 4000000 in
theorem rPossible_e (s : CSea) (l : List Hour) (hs : seaB s = true) (hl : logB s l = true) (hn : (l.length : Int) ≤ 12) {B : Lo} (hJ : ∀ w, B.has w → J0 w) : EndsT Tryz.prog B (entryC Tryz.prog 15 13 (([.agg (encSea s).toArray, slH l]).map (pushT 0 4))) (.bool (!decide (endI s l = 0))) := by
  have hwl := whL_len (s := s) (l := l)
  have hp0 : AllP (rPossible_p0 B s l) := by
    exact ⟨⟨by omega, by omega, (rowL_extract (z := 1) (fun _ => rfl) (by first | omega | (rw [List.length_set]; omega) | (rw [List.length_replicate]; omega)))⟩, ⟨⟨trivial, rWhere (s) (l) (by first | with_reducible assumption | omega | simp_all) (by first | with_reducible assumption | omega | simp_all) (by first | with_reducible assumption | omega | simp_all)⟩, trivial⟩⟩
  by_cases q0 : (List.getD (whL s l) l.length default : Int) ≠ (0)
  ·
    exact (GoE.endsT okF hJ mixed_ok GoE.start (rPossible_s0 B s l)
      ⟨(neqq_t q0), hp0⟩).cast (by first | rfl | (simp [endI, *]; done) | (simp_all [endI]; done) | (simp_all [endI]; omega))
  ·
    exact (GoE.endsT okF hJ mixed_ok GoE.start (rPossible_s1 B s l)
      ⟨(neqq_f (Decidable.of_not_not q0)), hp0⟩).cast (by first | rfl | (simp [endI, *]; done) | (simp_all [endI]; done) | (simp_all [endI]; omega))
theorem rPossible (s : CSea) (l : List Hour) (hs : seaB s = true) (hl : logB s l = true) (hn : (l.length : Int) ≤ 12) : PureC Tryz.prog J0 15 #[.agg (encSea s).toArray, slH l] (.bool (!decide (endI s l = 0))) :=
  pureC_of (ts := [.agg (encSea s).toArray, slH l]) J0_st (c0 := entryC Tryz.prog 15 13 (([.agg (encSea s).toArray, slH l]).map (pushT 0 4))) (by kernel_rfl) (by kernel_rfl) fun B hJ => rPossible_e s l hs hl hn hJ
end Go.Proofs.YtiaaikkmipmhnaaGreatDoor

