/- Canoe: sets, and the program's fits. -/
import Derived.Test.YtiaaikkmipmhnaaGreatDoorZCS10
set_option linter.all false
namespace Go.Proofs.YtiaaikkmipmhnaaGreatDoor
open Go Go.CE Go.RowKit
theorem setW_lt {s n : Int} {k : Nat} (h0 : 0 ≤ s) (h : s < 2 ^ k) (hn : n.toNat < k) : setW s n < 2 ^ k := by
  obtain ⟨b, rfl⟩ : ∃ b : Nat, s = b := ⟨s.toNat, by omega⟩
  have e : (2 : Int) ^ k = ((2 ^ k : Nat) : Int) := by rw [Int.natCast_pow]; rfl
  rw [e] at h ⊢
  have h' : b < 2 ^ k := by exact_mod_cast h
  have : b ||| 2 ^ n.toNat < 2 ^ k := Nat.or_lt_two_pow h' (Nat.pow_lt_pow_right (by decide) hn)
  unfold setW orN pow2
  rw [Int.toNat_natCast, Int.toNat_natCast]
  exact_mod_cast this
theorem lenI_le {s : Int} {c : Nat} (h0 : 0 ≤ s) (h1 : s < 2 ^ c) : 0 ≤ lenI s ∧ lenI s ≤ c := by
  unfold lenI
  by_cases e : s = 0
  · rw [if_pos e]; omega
  · rw [if_neg e]
    have h : s.toNat < 2 ^ c := by
      have e2 : (2 : Int) ^ c = ((2 ^ c : Nat) : Int) := by rw [Int.natCast_pow]; rfl
      rw [e2] at h1; omega
    have := (Nat.log2_lt (by omega)).2 h
    omega
theorem topI_lt {s n : Int} (h : s ≤ topI n) : s < 2 ^ n.toNat := by
  have e2 : (2 : Int) ^ n.toNat = ((2 ^ n.toNat : Nat) : Int) := by rw [Int.natCast_pow]; rfl
  unfold topI pow2 at h
  rw [e2]; omega
theorem lt_topI {s n : Int} (h : s < 2 ^ n.toNat) : s ≤ topI n := by
  have e2 : (2 : Int) ^ n.toNat = ((2 ^ n.toNat : Nat) : Int) := by rw [Int.natCast_pow]; rfl
  unfold topI pow2
  rw [e2] at h; omega
theorem len_cells {s n : Int} (h0 : 0 ≤ s) (h1 : s ≤ topI n) (hn : 0 ≤ n) : 0 ≤ lenI s ∧ lenI s ≤ n := by
  have := lenI_le h0 (topI_lt h1)
  omega
theorem bit_len {s k : Int} (h0 : 0 ≤ s) (hk : 0 ≤ k) (h : setB s k = true) : k < lenI s := by
  rw [setB_eq] at h
  unfold lenI
  have hs : s.toNat ≠ 0 := by
    intro e; rw [e] at h; simp at h
  rw [if_neg (by omega)]
  have h2 := Nat.ge_two_pow_of_testBit h
  have := (Nat.le_log2 hs).2 h2
  omega
theorem bit_or {a b k : Int} (ha : 0 ≤ a) (hb : 0 ≤ b) : setB ((orN a b : Nat) : Int) k = (setB a k || setB b k) := by
  rw [setB_eq, setB_eq, setB_eq]; unfold orN; rw [Int.toNat_natCast, Nat.testBit_or]
theorem bit_and {a b k : Int} : setB ((andN a b : Nat) : Int) k = (setB a k && setB b k) := by
  rw [setB_eq, setB_eq, setB_eq]; unfold andN; rw [Int.toNat_natCast, Nat.testBit_and]
theorem or_top {a b n : Int} (ha : a ≤ topI n) (hb : b ≤ topI n) : ((orN a b : Nat) : Int) ≤ topI n := by
  refine lt_topI ?_
  have e2 : (2 : Int) ^ n.toNat = ((2 ^ n.toNat : Nat) : Int) := by rw [Int.natCast_pow]; rfl
  have h1 := topI_lt ha
  have h2 := topI_lt hb
  rw [e2] at h1 h2 ⊢
  have := Nat.or_lt_two_pow (x := a.toNat) (y := b.toNat) (n := n.toNat) (by have := Nat.two_pow_pos n.toNat; omega) (by have := Nat.two_pow_pos n.toNat; omega)
  unfold orN; exact_mod_cast this
theorem and_top {a b n : Int} (h0 : 0 ≤ a) (ha : a ≤ topI n) : ((andN a b : Nat) : Int) ≤ topI n := by
  have : andN a b ≤ a.toNat := Nat.and_le_left
  omega
def leadS (row : List Int) (fr to n : Int) : Int := bif setB fr n then ((orN to (row.getD n.toNat default) : Nat) : Int) else to
def leadI (row : List Int) (fr n to : Int) : Int := (upI n (lenI fr)).foldl (leadS row fr) to
theorem lead_in {row : List Int} {fr n to : Int} (h : n < lenI fr) (hb : setB fr n = true) : leadI row fr n to = leadI row fr (n + 1) ((orN to (row.getD n.toNat default) : Nat) : Int) := by
  unfold leadI; rw [upI_cons h, List.foldl_cons]; unfold leadS; rw [hb]; rfl
theorem lead_out {row : List Int} {fr n to : Int} (h : n < lenI fr) (hb : setB fr n = false) : leadI row fr n to = leadI row fr (n + 1) to := by
  unfold leadI; rw [upI_cons h, List.foldl_cons]; unfold leadS; rw [hb]; rfl
theorem lead_end {row : List Int} {fr n to : Int} (h : lenI fr ≤ n) : leadI row fr n to = to := by
  unfold leadI; rw [upI_nil h]; rfl
theorem course_row {s : CSea} (hs : seaB s = true) {c : Int} (c0 : 0 ≤ c) (c1 : c < s.courses.length) : ((s.courses.getD c.toNat default).length : Int) = s.cells ∧ ∀ k : Int, 0 ≤ k → k < s.cells → 1 ≤ (s.courses.getD c.toNat default).getD k.toNat default ∧ (s.courses.getD c.toNat default).getD k.toNat default ≤ topI s.cells := by
  simp only [seaB, coursesB, Bool.and_eq_true, inB_iff] at hs
  have := List.all_eq_true.1 hs.2.2.1.2 _ (getD_mem (l := s.courses) c0 c1)
  simp only [courseB, Bool.and_eq_true, decide_eq_true_iff] at this
  refine ⟨this.1, fun k k0 k1 => ?_⟩
  have := List.all_eq_true.1 this.2 _ (getD_mem (l := s.courses.getD c.toNat default) k0 (by omega))
  exact inB_iff.1 this
theorem sea_facts {s : CSea} (hs : seaB s = true) : (1 ≤ s.cells ∧ s.cells ≤ 10) ∧ (1 ≤ s.start ∧ s.start ≤ topI s.cells) ∧ topI s.cells ≤ 1023 ∧ (1 ≤ (s.courses.length : Int) ∧ (s.courses.length : Int) ≤ 4) ∧ (s.stars.length : Int) ≤ 6 := by
  simp only [seaB, coursesB, starsB, Bool.and_eq_true, inB_iff, decide_eq_true_iff] at hs
  have := topI_in (n := s.cells) (by omega) hs.1.2
  exact ⟨hs.1, hs.2.1, this.2, hs.2.2.1.1, hs.2.2.2.1.1⟩
theorem star_in {s : CSea} (hs : seaB s = true) {k : Int} (k0 : 0 ≤ k) (k1 : k < s.stars.length) : 1 ≤ s.stars.getD k.toNat default ∧ s.stars.getD k.toNat default ≤ topI s.cells := by
  simp only [seaB, starsB, Bool.and_eq_true] at hs
  have := List.all_eq_true.1 hs.2.2.2.1.2 _ (getD_mem (l := s.stars) k0 k1)
  exact inB_iff.1 this
theorem log_in {s : CSea} {l : List Hour} (hl : logB s l = true) {k : Int} (k0 : 0 ≤ k) (k1 : k < l.length) : hourB s.courses.length s.stars.length (l.getD k.toNat default) = true := List.all_eq_true.1 hl _ (getD_mem k0 k1)
theorem hour_facts {a b : Int} {h : Hour} (hh : hourB a b h = true) : (0 ≤ h.course ∧ h.course < a) ∧ -1 ≤ h.star ∧ h.star < b := by
  simp only [hourB, Bool.and_eq_true, inB_iff] at hh; omega
theorem setW_top {s : Int} {c n : Int} (h0 : 0 ≤ s) (h1 : s ≤ topI n) (c0 : 0 ≤ c) (c1 : c < n) : 0 ≤ setW s c ∧ setW s c ≤ topI n := ⟨Int.natCast_nonneg _, lt_topI (setW_lt h0 (topI_lt h1) (by omega))⟩
theorem topI_0 {n : Int} : 0 ≤ topI n := by unfold topI pow2; have := Nat.two_pow_pos n.toNat; omega
def starI (s : CSea) (h : Hour) (x : Int) : Int := if h.star = -1 then x else ((andN x (s.stars.getD h.star.toNat default) : Nat) : Int)
def aftI (s : CSea) (h : Hour) (fr : Int) : Int := starI s h (leadI (s.courses.getD h.course.toNat default) fr 0 0)
def encLogged (s : CSea) (l : List Hour) : List Value := [.int .i64 s.cells, .int .i64 s.start, slT s.courses.length (rowL slI2 s.courses), slI s.stars, slI s.boats, slI s.roads, slH l]
def stepB (s : CSea) (h : Hour) (a b : Int) : Bool := setB (aftI s h (setW 0 a)) b
theorem lead_top {row : List Int} {c fr : Int} (hr : ∀ k : Int, 0 ≤ k → k < c → 1 ≤ row.getD k.toNat default ∧ row.getD k.toNat default ≤ topI c) (f0 : 0 ≤ fr) (f1 : fr ≤ topI c) (c0 : 0 ≤ c) : ∀ (m : Nat) (n to : Int), 0 ≤ n → (lenI fr - n).toNat = m → 0 ≤ to → to ≤ topI c → 0 ≤ leadI row fr n to ∧ leadI row fr n to ≤ topI c := by
  intro m
  have hl := len_cells f0 f1 c0
  induction m with
  | zero => intro n to n0 hm t0 t1; rw [lead_end (by omega)]; exact ⟨t0, t1⟩
  | succ m ih =>
    intro n to n0 hm t0 t1
    cases hb : setB fr n with
    | true =>
      rw [lead_in (by omega) hb]
      exact ih (n + 1) _ (by omega) (by omega) (Int.natCast_nonneg _) (or_top t1 (hr n n0 (by omega)).2)
    | false =>
      rw [lead_out (by omega) hb]
      exact ih (n + 1) to (by omega) (by omega) t0 t1
theorem aft_top {s : CSea} (hs : seaB s = true) {h : Hour} (hh : hourB s.courses.length s.stars.length h = true) {fr : Int} (f0 : 0 ≤ fr) (f1 : fr ≤ topI s.cells) : 0 ≤ aftI s h fr ∧ aftI s h fr ≤ topI s.cells := by
  have hf := hour_facts hh
  have hc := course_row hs hf.1.1 hf.1.2
  have := lead_top hc.2 f0 f1 (by have := (sea_facts hs).1; omega) _ 0 0 (by omega) rfl (by omega) topI_0
  unfold aftI starI
  split
  · exact this
  · exact ⟨Int.natCast_nonneg _, and_top this.1 this.2⟩
noncomputable def pHas_p0 (B : Lo) (s n : Int) : List Prop := [BinTo Tryz.prog BinOp.and 79 (tget { len := 16000, tr := Tri.set 14 Tri.lf 7 (Value.int IntKind.i64 (↑(shrN s n) : Int)) } 7) (Value.int IntKind.i64 1) (Value.int IntKind.i64 (↑(andN (↑(shrN s n) : Int) 1) : Int)), BinTo Tryz.prog BinOp.shr 79 (tget { len := 16000, tr := Tri.set 14 (Tri.set 14 Tri.lf 6 (Value.int IntKind.i64 n)) 5 (Value.int IntKind.i64 s) } 5) (tget { len := 16000, tr := Tri.set 14 (Tri.set 14 Tri.lf 6 (Value.int IntKind.i64 n)) 5 (Value.int IntKind.i64 s) } 6) (Value.int IntKind.i64 (↑(shrN s n) : Int))] ++ ([] : List Prop)
noncomputable def pHas_q0 (s n : Int) : ScriptT := [(3, HintT.bin (Value.int IntKind.i64 (↑(shrN s n) : Int))), (4, HintT.bin (Value.int IntKind.i64 (↑(andN (↑(shrN s n) : Int) 1) : Int)))]
set_option maxRecDepth 100000 in
theorem pHas_s0 (B : Lo) (s n : Int) : endT (srunT Tryz.prog (okFn Tryz.prog) J0 B 6 1 (entryC Tryz.prog 60 10 (([.int .i64 s, .int .i64 n]).map (pushT 0 4))) H00 1
    (pHas_q0 s n ++ [(5, hvT)]) 0 [] []) [] = some (Value.bool true,
    [eqq (↑(andN (↑(shrN s n) : Int) 1) : Int) 1 = true] ++ pHas_p0 B s n) := by kernel_rfl
set_option maxRecDepth 100000 in
theorem pHas_s1 (B : Lo) (s n : Int) : endT (srunT Tryz.prog (okFn Tryz.prog) J0 B 6 1 (entryC Tryz.prog 60 10 (([.int .i64 s, .int .i64 n]).map (pushT 0 4))) H00 1
    (pHas_q0 s n ++ [(5, hvF)]) 0 [] []) [] = some (Value.bool false,
    [eqq (↑(andN (↑(shrN s n) : Int) 1) : Int) 1 = false] ++ pHas_p0 B s n) := by kernel_rfl
set_option maxHeartbeats 4000000 in
theorem pHas_e (s n : Int) (hn : 0 ≤ n ∧ n ≤ 61) (hs : 0 ≤ s ∧ s ≤ 4611686018427387904) {B : Lo} (hJ : ∀ w, B.has w → J0 w) : EndsT Tryz.prog B (entryC Tryz.prog 60 10 (([.int .i64 s, .int .i64 n]).map (pushT 0 4))) (.bool (setB s n)) := by
  have e1 : shrN s n ≤ s.toNat := shrN_le
  have hp0 : AllP (pHas_p0 B s n) := by
    exact ⟨(bin_and (by omega) (by omega) (by omega) (by omega)), ⟨(bin_shr (by omega) (by omega) (by omega)), trivial⟩⟩
  by_cases q0 : ((↑(andN (↑(shrN s n) : Int) 1) : Int) : Int) = (1)
  ·
    exact (GoE.endsT okF hJ mixed_ok GoE.start (pHas_s0 B s n)
      ⟨(eqq_t q0), hp0⟩).cast (by first | rfl | (simp [setB, *]; done) | (simp_all [setB]; done) | (simp_all [setB]; omega))
  ·
    exact (GoE.endsT okF hJ mixed_ok GoE.start (pHas_s1 B s n)
      ⟨(eqq_f q0), hp0⟩).cast (by first | rfl | (simp [setB, *]; done) | (simp_all [setB]; done) | (simp_all [setB]; omega))
theorem pHas (s n : Int) (hn : 0 ≤ n ∧ n ≤ 61) (hs : 0 ≤ s ∧ s ≤ 4611686018427387904) : PureC Tryz.prog J0 60 #[.int .i64 s, .int .i64 n] (.bool (setB s n)) :=
  pureC_of (ts := [.int .i64 s, .int .i64 n]) J0_st (c0 := entryC Tryz.prog 60 10 (([.int .i64 s, .int .i64 n]).map (pushT 0 4))) (by kernel_rfl) (by kernel_rfl) fun B hJ => pHas_e s n hn hs hJ
noncomputable def plead_H0 (s : CSea) (l : List Hour) (c fr : Int) : Heap := [(3, Obj.cells #[Value.int IntKind.i64 0] 79), (2, Obj.cells #[Value.int IntKind.i64 c] 3), (1, Obj.cells #[Value.int IntKind.i64 s.cells, Value.int IntKind.i64 s.start, topV 0 (slT s.courses.length (rowL slI2 s.courses)), topV 0 (slT s.stars.length (rowL encI s.stars)), topV 0 (slT s.boats.length (rowL encI s.boats)), topV 0 (slT s.roads.length (rowL encI s.roads)), topV 0 (slT l.length (rowL encHour l))] 66), (0, Obj.coro none)]
noncomputable def plead_c0 (s : CSea) (l : List Hour) (c fr : Int) : CF := ⟨72, ofList 4 [Value.int IntKind.i64 fr], [Item.code (bodyOf Tryz.prog 72)], [], .run, none⟩
noncomputable def plead_z0 (s : CSea) (l : List Hour) (c fr : Int) : Array Value := #[Value.agg #[Value.int IntKind.i64 s.cells, Value.int IntKind.i64 s.start, topV 0 (slT s.courses.length (rowL slI2 s.courses)), topV 0 (slT s.stars.length (rowL encI s.stars)), topV 0 (slT s.boats.length (rowL encI s.boats)), topV 0 (slT s.roads.length (rowL encI s.roads)), topV 0 (slT l.length (rowL encHour l))], Value.int IntKind.i64 c, Value.int IntKind.i64 fr, pA 1 0, pA 2 0, Value.tuple #[], Value.int IntKind.i64 0, pA 3 0, Value.tuple #[], Value.int IntKind.i64 fr, Value.func (Fn.func 88) #[] #[topV 4 (ptT 0 #[Value.int IntKind.i64 fr])], Value.tuple #[], Value.tuple #[], Value.tuple #[], Value.tuple #[], Value.tuple #[], Value.tuple #[], Value.tuple #[], Value.tuple #[], Value.tuple #[], Value.tuple #[], Value.tuple #[], Value.tuple #[], Value.tuple #[]]
set_option maxRecDepth 100000 in
theorem plead_s0 (B : Lo) (s : CSea) (l : List Hour) (c fr : Int) : CE.finK 4 (srunT Tryz.prog (okFn Tryz.prog) J0 B 6 4 (plead_c0 s l c fr) (plead_H0 s l c fr) 4
    [] 0 [] []) [] [] [{ k := 4, rs := [], cs := #[Value.int IntKind.i64 fr] }] = some (OO.ret (Value.func (Fn.func 88) #[] #[topV 4 (ptT 0 #[Value.int IntKind.i64 fr])]), [], [],
    [CellsT (Fz.rs { k := 4, rs := [], cs := #[Value.int IntKind.i64 fr] }) #[Value.int IntKind.i64 fr] (Fz.cs { k := 4, rs := [], cs := #[Value.int IntKind.i64 fr] })]) := by kernel_rfl
noncomputable def plead_H1 (s : CSea) (l : List Hour) (c fr : Int) : Heap := [(6, Obj.loop { state := LoopState.ready, pending := none, fn := 73, tmps := #[Value.agg #[Value.int IntKind.i64 s.cells, Value.int IntKind.i64 s.start, topV 0 (slT s.courses.length (rowL slI2 s.courses)), topV 0 (slT s.stars.length (rowL encI s.stars)), topV 0 (slT s.boats.length (rowL encI s.boats)), topV 0 (slT s.roads.length (rowL encI s.roads)), topV 0 (slT l.length (rowL encHour l))], Value.int IntKind.i64 c, Value.int IntKind.i64 fr, pA 1 0, pA 2 0, Value.tuple #[], Value.int IntKind.i64 0, pA 3 0, Value.tuple #[], Value.int IntKind.i64 fr, Value.func (Fn.func 88) #[] #[topV 4 (ptT 0 #[Value.int IntKind.i64 fr])], Value.tuple #[], Value.tuple #[], Value.tuple #[], Value.tuple #[], Value.tuple #[], Value.tuple #[], Value.tuple #[], Value.tuple #[], Value.tuple #[], Value.tuple #[], Value.tuple #[], Value.tuple #[], Value.tuple #[]], params := #[11], assign := nav (bodyOf Tryz.prog 73) [1, 1, 0, 1, 0, 0], body := nav (bodyOf Tryz.prog 73) [1, 1, 0, 1, 0, 1], defers := 5 }), (5, Obj.deferred (some [])), (4, Obj.coro none), (3, Obj.cells #[Value.int IntKind.i64 0] 79), (2, Obj.cells #[Value.int IntKind.i64 c] 3), (1, Obj.cells #[Value.int IntKind.i64 s.cells, Value.int IntKind.i64 s.start, topV 0 (slT s.courses.length (rowL slI2 s.courses)), topV 0 (slT s.stars.length (rowL encI s.stars)), topV 0 (slT s.boats.length (rowL encI s.boats)), topV 0 (slT s.roads.length (rowL encI s.roads)), topV 0 (slT l.length (rowL encHour l))] 66), (0, Obj.coro none)]
noncomputable def plead_c1 (s : CSea) (l : List Hour) (c fr : Int) : CF := ⟨88, ofList 20 [Value.func (Fn.yield 6) #[] #[], topV 4 (ptT 0 #[Value.int IntKind.i64 fr])], [Item.code (bodyOf Tryz.prog 88)], [], .run, none⟩
noncomputable def plead_k1_v0 (s : CSea) (l : List Hour) (c fr : Int) (n to : Int) : List Value := [Value.func (Fn.yield 6) #[] #[], topV 4 (ptT 0 #[Value.int IntKind.i64 fr]), Value.int IntKind.i64 (lenI fr), .int .i64 n]
noncomputable def plead_k1_w0 (s : CSea) (l : List Hour) (c fr : Int) (n to : Int) : List Obj := [Obj.loop { state := LoopState.ready, pending := none, fn := 73, tmps := #[Value.agg #[Value.int IntKind.i64 s.cells, Value.int IntKind.i64 s.start, topV 0 (slT s.courses.length (rowL slI2 s.courses)), topV 0 (slT s.stars.length (rowL encI s.stars)), topV 0 (slT s.boats.length (rowL encI s.boats)), topV 0 (slT s.roads.length (rowL encI s.roads)), topV 0 (slT l.length (rowL encHour l))], Value.int IntKind.i64 c, Value.int IntKind.i64 fr, pA 1 0, pA 2 0, Value.tuple #[], Value.int IntKind.i64 0, pA 3 0, Value.tuple #[], Value.int IntKind.i64 fr, Value.func (Fn.func 88) #[] #[topV 4 (ptT 0 #[Value.int IntKind.i64 fr])], Value.tuple #[], Value.tuple #[], Value.tuple #[], Value.tuple #[], Value.tuple #[], Value.tuple #[], Value.tuple #[], Value.tuple #[], Value.tuple #[], Value.tuple #[], Value.tuple #[], Value.tuple #[], Value.tuple #[]], params := #[11], assign := nav (bodyOf Tryz.prog 73) [1, 1, 0, 1, 0, 0], body := nav (bodyOf Tryz.prog 73) [1, 1, 0, 1, 0, 1], defers := 5 }, .cells #[.int .i64 to] 79 (0, 0)]
noncomputable def plead_k1_o0 (s : CSea) (l : List Hour) (c fr : Int) (n to : Int) : List Obj := []
noncomputable def plead_k1_t0 : List Item := ([.code [1, 0, 0], .inLoop [1, 0, 0], .inBlock 0]).map (it (bodyOf Tryz.prog 88))
noncomputable def plead_p0 (B : Lo) (s : CSea) (l : List Hour) (c fr : Int) (n to : Int) (dJ0 : Nat → Value) : List Prop := [ltq n (lenI fr) = true] ++ ([] : List Prop)
noncomputable def plead_q0 (s : CSea) (l : List Hour) (c fr : Int) (n to : Int) (dJ0 : Nat → Value) : ScriptT := [(0, hvT)]
noncomputable def plead_H2 (s : CSea) (l : List Hour) (c fr : Int) (n to : Int) (dJ0 : Nat → Value) : Heap := [(6, Obj.loop { state := LoopState.ready, pending := none, fn := 73, tmps := #[Value.agg #[Value.int IntKind.i64 s.cells, Value.int IntKind.i64 s.start, topV 0 (slT s.courses.length (rowL slI2 s.courses)), topV 0 (slT s.stars.length (rowL encI s.stars)), topV 0 (slT s.boats.length (rowL encI s.boats)), topV 0 (slT s.roads.length (rowL encI s.roads)), topV 0 (slT l.length (rowL encHour l))], Value.int IntKind.i64 c, Value.int IntKind.i64 fr, pA 1 0, pA 2 0, Value.tuple #[], Value.int IntKind.i64 0, pA 3 0, Value.tuple #[], Value.int IntKind.i64 fr, Value.func (Fn.func 88) #[] #[topV 4 (ptT 0 #[Value.int IntKind.i64 fr])], Value.tuple #[], Value.tuple #[], Value.tuple #[], Value.tuple #[], Value.tuple #[], Value.tuple #[], Value.tuple #[], Value.tuple #[], Value.tuple #[], Value.tuple #[], Value.tuple #[], Value.tuple #[], Value.tuple #[]], params := #[11], assign := nav (bodyOf Tryz.prog 73) [1, 1, 0, 1, 0, 0], body := nav (bodyOf Tryz.prog 73) [1, 1, 0, 1, 0, 1], defers := 5 }), (3, Obj.cells #[Value.int IntKind.i64 to] 79), (7, Obj.coro none), (6, Obj.loop { state := LoopState.ready, pending := none, fn := 73, tmps := #[Value.agg #[Value.int IntKind.i64 s.cells, Value.int IntKind.i64 s.start, topV 0 (slT s.courses.length (rowL slI2 s.courses)), topV 0 (slT s.stars.length (rowL encI s.stars)), topV 0 (slT s.boats.length (rowL encI s.boats)), topV 0 (slT s.roads.length (rowL encI s.roads)), topV 0 (slT l.length (rowL encHour l))], Value.int IntKind.i64 c, Value.int IntKind.i64 fr, pA 1 0, pA 2 0, Value.tuple #[], Value.int IntKind.i64 0, pA 3 0, Value.tuple #[], Value.int IntKind.i64 fr, Value.func (Fn.func 88) #[] #[topV 4 (ptT 0 #[Value.int IntKind.i64 fr])], Value.tuple #[], Value.tuple #[], Value.tuple #[], Value.tuple #[], Value.tuple #[], Value.tuple #[], Value.tuple #[], Value.tuple #[], Value.tuple #[], Value.tuple #[], Value.tuple #[], Value.tuple #[], Value.tuple #[]], params := #[11], assign := nav (bodyOf Tryz.prog 73) [1, 1, 0, 1, 0, 0], body := nav (bodyOf Tryz.prog 73) [1, 1, 0, 1, 0, 1], defers := 5 }), (5, Obj.deferred (some [])), (4, Obj.coro none), (3, Obj.cells #[Value.int IntKind.i64 0] 79), (2, Obj.cells #[Value.int IntKind.i64 c] 3), (1, Obj.cells #[Value.int IntKind.i64 s.cells, Value.int IntKind.i64 s.start, topV 0 (slT s.courses.length (rowL slI2 s.courses)), topV 0 (slT s.stars.length (rowL encI s.stars)), topV 0 (slT s.boats.length (rowL encI s.boats)), topV 0 (slT s.roads.length (rowL encI s.roads)), topV 0 (slT l.length (rowL encHour l))] 66), (0, Obj.coro none)]
noncomputable def plead_c2 (s : CSea) (l : List Hour) (c fr : Int) (n to : Int) (dJ0 : Nat → Value) : CF := ⟨73, ofList 24 [Value.agg #[Value.int IntKind.i64 s.cells, Value.int IntKind.i64 s.start, topV 0 (slT s.courses.length (rowL slI2 s.courses)), topV 0 (slT s.stars.length (rowL encI s.stars)), topV 0 (slT s.boats.length (rowL encI s.boats)), topV 0 (slT s.roads.length (rowL encI s.roads)), topV 0 (slT l.length (rowL encHour l))], Value.int IntKind.i64 c, Value.int IntKind.i64 fr, pA 1 0, pA 2 0, Value.tuple #[], Value.int IntKind.i64 0, pA 3 0, Value.tuple #[], Value.int IntKind.i64 fr, Value.func (Fn.func 88) #[] #[topV 4 (ptT 0 #[Value.int IntKind.i64 fr])], Value.int IntKind.i64 n, Value.tuple #[], Value.tuple #[], Value.tuple #[], Value.tuple #[], Value.tuple #[], Value.tuple #[], Value.tuple #[], Value.tuple #[], Value.tuple #[], Value.tuple #[], Value.tuple #[], Value.tuple #[]], [Item.code (nav (bodyOf Tryz.prog 73) [1, 1, 0, 1, 0, 0]), Item.beginRound, Item.code (nav (bodyOf Tryz.prog 73) [1, 1, 0, 1, 0, 1])], [], .run, some 6⟩
set_option maxRecDepth 100000 in
theorem plead_s2 (B : Lo) (s : CSea) (l : List Hour) (c fr : Int) (n to : Int) (dJ0 : Nat → Value) : CE.finK 8 (srunT Tryz.prog (okFn Tryz.prog) J0 B 6 8 (plead_c2 s l c fr n to dJ0) (plead_H2 s l c fr n to dJ0) 8
    [(6, HintT.tidx c.toNat #[slT (List.length (List.getD s.courses c.toNat default)) (rowL encI (List.getD s.courses c.toNat default))]), (9, HintT.tidx n.toNat #[Value.int IntKind.i64 (List.getD (List.getD s.courses c.toNat default) n.toNat default)]), (11, HintT.bin (Value.int IntKind.i64 (↑(orN to (List.getD (List.getD s.courses c.toNat default) n.toNat default)) : Int)))] 0 [] []) [(6, KS.auto), (3, KS.auto)] [] [] = some (OO.ret (Value.bool true), [(6, Obj.loop { state := LoopState.ready, pending := none, fn := 73, tmps := #[Value.agg #[Value.int IntKind.i64 s.cells, Value.int IntKind.i64 s.start, topV 0 (slT s.courses.length (rowL slI2 s.courses)), topV 0 (slT s.stars.length (rowL encI s.stars)), topV 0 (slT s.boats.length (rowL encI s.boats)), topV 0 (slT s.roads.length (rowL encI s.roads)), topV 0 (slT l.length (rowL encHour l))], Value.int IntKind.i64 c, Value.int IntKind.i64 fr, pA 1 0, pA 2 0, Value.tuple #[], Value.int IntKind.i64 0, pA 3 0, Value.tuple #[], Value.int IntKind.i64 fr, Value.func (Fn.func 88) #[] #[topV 4 (ptT 0 #[Value.int IntKind.i64 fr])], Value.tuple #[], Value.tuple #[], Value.tuple #[], Value.tuple #[], Value.tuple #[], Value.tuple #[], Value.tuple #[], Value.tuple #[], Value.tuple #[], Value.tuple #[], Value.tuple #[], Value.tuple #[], Value.tuple #[]], params := #[11], assign := nav (bodyOf Tryz.prog 73) [1, 1, 0, 1, 0, 0], body := nav (bodyOf Tryz.prog 73) [1, 1, 0, 1, 0, 1], defers := 5 }), (3, Obj.cells #[Value.int IntKind.i64 (↑(orN to (List.getD (List.getD s.courses c.toNat default) n.toNat default)) : Int)] 79)], [],
    [BinTo Tryz.prog BinOp.or 79 (tget { len := 16000, tr := Tri.set 14 (Tri.set 14 Tri.lf 21 (Value.int IntKind.i64 (List.getD (List.getD s.courses c.toNat default) n.toNat default))) 12 (Value.int IntKind.i64 to) } 12) (tget { len := 16000, tr := Tri.set 14 (Tri.set 14 Tri.lf 21 (Value.int IntKind.i64 (List.getD (List.getD s.courses c.toNat default) n.toNat default))) 12 (Value.int IntKind.i64 to) } 21) (Value.int IntKind.i64 (↑(orN to (List.getD (List.getD s.courses c.toNat default) n.toNat default)) : Int)), n = (↑n.toNat : Int) ∧ Int.toNat n < List.length (List.getD s.courses c.toNat default) ∧ Array.extract (rowL encI (List.getD s.courses c.toNat default)) (Int.toNat n * TypeInfo.size Tryz.t3) (Int.toNat n * TypeInfo.size Tryz.t3 + TypeInfo.size Tryz.t3) = #[Value.int IntKind.i64 (List.getD (List.getD s.courses c.toNat default) n.toNat default)], c = (↑c.toNat : Int) ∧ Int.toNat c < List.length s.courses ∧ Array.extract (rowL slI2 s.courses) (Int.toNat c * TypeInfo.size Tryz.t23) (Int.toNat c * TypeInfo.size Tryz.t23 + TypeInfo.size Tryz.t23) = #[slT (List.length (List.getD s.courses c.toNat default)) (rowL encI (List.getD s.courses c.toNat default))]]) := by kernel_rfl
set_option maxRecDepth 100000 in
theorem plead_s3 (B : Lo) (s : CSea) (l : List Hour) (c fr : Int) (n to : Int) (dJ0 : Nat → Value) : CE.landA 7 (srunT Tryz.prog (okFn Tryz.prog) J0 B 16 7 (headR (none) 88 20 (([0, 1, 6, 7] : List Nat).zip (plead_k1_v0 s l c fr n to)) dJ0 plead_k1_t0) (headA (plead_H1 s l c fr) 7 (([6, 3] : List Nat).zip (plead_k1_w0 s l c fr n to)) (plead_k1_o0 s l c fr n to)) (7 + 1 + (plead_k1_o0 s l c fr n to).length)
    (plead_q0 s l c fr n to dJ0 ++ [(5, HintT.pure (Value.bool true) []), (9, HintT.call (List.range 8) (OO.ret (Value.bool true)) ([(6, Obj.loop { state := LoopState.ready, pending := none, fn := 73, tmps := (plead_z0 s l c fr), params := #[11], assign := nav (bodyOf Tryz.prog 73) [1, 1, 0, 1, 0, 0], body := nav (bodyOf Tryz.prog 73) [1, 1, 0, 1, 0, 1], defers := 5 }), (3, Obj.cells #[Value.int IntKind.i64 (↑(orN to (List.getD (List.getD s.courses c.toNat default) n.toNat default)) : Int)] 79)] ++ (8, regO) :: heapL 9 []) 9 [6, 3]), (12, hvI (n + 1))]) 0 [] []) [0, 1, 6, 7] [(6, KS.auto), (3, KS.auto)] [] [] = some ⟨88, 20, plead_k1_t0, [], .run, none, plead_k1_v0 s l c fr (n + 1) ((↑(orN to (List.getD (List.getD s.courses c.toNat default) n.toNat default)) : Int)), ([6, 3] : List Nat).zip (plead_k1_w0 s l c fr (n + 1) ((↑(orN to (List.getD (List.getD s.courses c.toNat default) n.toNat default)) : Int))), plead_k1_o0 s l c fr (n + 1) ((↑(orN to (List.getD (List.getD s.courses c.toNat default) n.toNat default)) : Int)),
    [wq (n + 1) = n + 1, FJ Tryz.prog B (plead_c2 s l c fr n to dJ0) (plead_H2 s l c fr n to dJ0) 8 (OO.ret (Value.bool true)) (([(6, Obj.loop { state := LoopState.ready, pending := none, fn := 73, tmps := (plead_z0 s l c fr), params := #[11], assign := nav (bodyOf Tryz.prog 73) [1, 1, 0, 1, 0, 0], body := nav (bodyOf Tryz.prog 73) [1, 1, 0, 1, 0, 1], defers := 5 }), (3, Obj.cells #[Value.int IntKind.i64 (↑(orN to (List.getD (List.getD s.courses c.toNat default) n.toNat default)) : Int)] 79)] ++ ((8, regO) :: heapL (8 + 1) [])) ++ plead_H2 s l c fr n to dJ0) 9 (List.range 8) [6, 3], AllP [] ∧ PureC Tryz.prog J0 60 #[Value.int IntKind.i64 fr, Value.int IntKind.i64 n] (Value.bool true)] ++ plead_p0 B s l c fr n to dJ0⟩ := by kernel_rfl
set_option maxRecDepth 100000 in
theorem plead_s4 (B : Lo) (s : CSea) (l : List Hour) (c fr : Int) (n to : Int) (dJ0 : Nat → Value) : CE.landA 7 (srunT Tryz.prog (okFn Tryz.prog) J0 B 16 7 (headR (none) 88 20 (([0, 1, 6, 7] : List Nat).zip (plead_k1_v0 s l c fr n to)) dJ0 plead_k1_t0) (headA (plead_H1 s l c fr) 7 (([6, 3] : List Nat).zip (plead_k1_w0 s l c fr n to)) (plead_k1_o0 s l c fr n to)) (7 + 1 + (plead_k1_o0 s l c fr n to).length)
    (plead_q0 s l c fr n to dJ0 ++ [(5, HintT.pure (Value.bool false) []), (12, hvI (n + 1))]) 0 [] []) [0, 1, 6, 7] [(6, KS.auto), (3, KS.auto)] [] [] = some ⟨88, 20, plead_k1_t0, [], .run, none, plead_k1_v0 s l c fr (n + 1) (to), ([6, 3] : List Nat).zip (plead_k1_w0 s l c fr (n + 1) (to)), plead_k1_o0 s l c fr (n + 1) (to),
    [wq (n + 1) = n + 1, AllP [] ∧ PureC Tryz.prog J0 60 #[Value.int IntKind.i64 fr, Value.int IntKind.i64 n] (Value.bool false)] ++ plead_p0 B s l c fr n to dJ0⟩ := by kernel_rfl
set_option maxRecDepth 100000 in
theorem plead_s5 (B : Lo) (s : CSea) (l : List Hour) (c fr : Int) (n to : Int) (dJ0 : Nat → Value) : CE.finK 7 (srunT Tryz.prog (okFn Tryz.prog) J0 B 7 7 (headR (none) 88 20 (([0, 1, 6, 7] : List Nat).zip (plead_k1_v0 s l c fr n to)) dJ0 plead_k1_t0) (headA (plead_H1 s l c fr) 7 (([6, 3] : List Nat).zip (plead_k1_w0 s l c fr n to)) (plead_k1_o0 s l c fr n to)) (7 + 1 + (plead_k1_o0 s l c fr n to).length)
    [(0, hvF)] 0 [] []) [(6, KS.auto), (3, KS.auto)] [] [] = some (OO.ret (Value.tuple #[]), [(6, Obj.loop { state := LoopState.ready, pending := none, fn := 73, tmps := #[Value.agg #[Value.int IntKind.i64 s.cells, Value.int IntKind.i64 s.start, topV 0 (slT s.courses.length (rowL slI2 s.courses)), topV 0 (slT s.stars.length (rowL encI s.stars)), topV 0 (slT s.boats.length (rowL encI s.boats)), topV 0 (slT s.roads.length (rowL encI s.roads)), topV 0 (slT l.length (rowL encHour l))], Value.int IntKind.i64 c, Value.int IntKind.i64 fr, pA 1 0, pA 2 0, Value.tuple #[], Value.int IntKind.i64 0, pA 3 0, Value.tuple #[], Value.int IntKind.i64 fr, Value.func (Fn.func 88) #[] #[topV 4 (ptT 0 #[Value.int IntKind.i64 fr])], Value.tuple #[], Value.tuple #[], Value.tuple #[], Value.tuple #[], Value.tuple #[], Value.tuple #[], Value.tuple #[], Value.tuple #[], Value.tuple #[], Value.tuple #[], Value.tuple #[], Value.tuple #[], Value.tuple #[]], params := #[11], assign := nav (bodyOf Tryz.prog 73) [1, 1, 0, 1, 0, 0], body := nav (bodyOf Tryz.prog 73) [1, 1, 0, 1, 0, 1], defers := 5 }), (3, Obj.cells #[Value.int IntKind.i64 to] 79)], [],
    [ltq n (lenI fr) = false]) := by kernel_rfl
set_option maxHeartbeats 4000000 in
theorem plead_k1_ls (s : CSea) (l : List Hour) (c fr : Int) (hs : seaB s = true) (c0 : 0 ≤ c) (c1 : c < s.courses.length) (f0 : 0 ≤ fr) (f1 : fr ≤ topI s.cells) {B : Lo} (hJ : ∀ w, B.has w → J0 w) : ∀ m : Nat, (∀ (n to : Int), (lenI fr - n).toNat = m → ∀ (n0 : 0 ≤ n) (t0 : 0 ≤ to) (t1 : to ≤ topI s.cells), (∃ dJ0 : Nat → Value, (∀ t, Loose (dJ0 t)) ∧ GoE Tryz.prog B (plead_c1 s l c fr) (plead_H1 s l c fr) 7 (headR (none) 88 20 (([0, 1, 6, 7] : List Nat).zip (plead_k1_v0 s l c fr n to)) dJ0 plead_k1_t0) (headA (plead_H1 s l c fr) 7 (([6, 3] : List Nat).zip (plead_k1_w0 s l c fr n to)) (plead_k1_o0 s l c fr n to)) (7 + 1 + (plead_k1_o0 s l c fr n to).length) ([6, 3] : List Nat)) → FinK Tryz.prog B (plead_c1 s l c fr) (plead_H1 s l c fr) 7 (.ret (.tuple #[])) (([6, 3] : List Nat).zip ([Obj.loop { state := LoopState.ready, pending := none, fn := 73, tmps := #[Value.agg #[Value.int IntKind.i64 s.cells, Value.int IntKind.i64 s.start, topV 0 (slT s.courses.length (rowL slI2 s.courses)), topV 0 (slT s.stars.length (rowL encI s.stars)), topV 0 (slT s.boats.length (rowL encI s.boats)), topV 0 (slT s.roads.length (rowL encI s.roads)), topV 0 (slT l.length (rowL encHour l))], Value.int IntKind.i64 c, Value.int IntKind.i64 fr, pA 1 0, pA 2 0, Value.tuple #[], Value.int IntKind.i64 0, pA 3 0, Value.tuple #[], Value.int IntKind.i64 fr, Value.func (Fn.func 88) #[] #[topV 4 (ptT 0 #[Value.int IntKind.i64 fr])], Value.tuple #[], Value.tuple #[], Value.tuple #[], Value.tuple #[], Value.tuple #[], Value.tuple #[], Value.tuple #[], Value.tuple #[], Value.tuple #[], Value.tuple #[], Value.tuple #[], Value.tuple #[], Value.tuple #[]], params := #[11], assign := nav (bodyOf Tryz.prog 73) [1, 1, 0, 1, 0, 0], body := nav (bodyOf Tryz.prog 73) [1, 1, 0, 1, 0, 1], defers := 5 }, .cells #[.int .i64 (leadI (s.courses.getD c.toNat default) fr n to)] 79 (0, 0)])) ([]) ([6, 3] : List Nat)) := by
  intro m0
  induction m0 using Nat.strongRecOn with
  | _ m0 ih0 =>
    intro n to hm0 n0 t0 t1 ⟨dJ0, hdJ0, hg0⟩
    have hsf := sea_facts hs
    have hlc := len_cells f0 f1 (by omega)
    have hcr := course_row hs c0 c1
    have hsf := sea_facts hs
    have hlc := len_cells f0 f1 (by omega)
    have hcr := course_row hs c0 c1
    by_cases q0 : (n : Int) < (lenI fr)
    ·
      have hp0 : AllP (plead_p0 B s l c fr n to dJ0) := by
        exact ⟨(ltq_t q0), trivial⟩
      cases q1 : setB fr n with
      | true =>
        have rj2 : FJ Tryz.prog B (plead_c2 s l c fr n to dJ0) (plead_H2 s l c fr n to dJ0) 8 (OO.ret (Value.bool true)) (([(6, Obj.loop { state := LoopState.ready, pending := none, fn := 73, tmps := #[Value.agg #[Value.int IntKind.i64 s.cells, Value.int IntKind.i64 s.start, topV 0 (slT s.courses.length (rowL slI2 s.courses)), topV 0 (slT s.stars.length (rowL encI s.stars)), topV 0 (slT s.boats.length (rowL encI s.boats)), topV 0 (slT s.roads.length (rowL encI s.roads)), topV 0 (slT l.length (rowL encHour l))], Value.int IntKind.i64 c, Value.int IntKind.i64 fr, pA 1 0, pA 2 0, Value.tuple #[], Value.int IntKind.i64 0, pA 3 0, Value.tuple #[], Value.int IntKind.i64 fr, Value.func (Fn.func 88) #[] #[topV 4 (ptT 0 #[Value.int IntKind.i64 fr])], Value.tuple #[], Value.tuple #[], Value.tuple #[], Value.tuple #[], Value.tuple #[], Value.tuple #[], Value.tuple #[], Value.tuple #[], Value.tuple #[], Value.tuple #[], Value.tuple #[], Value.tuple #[], Value.tuple #[]], params := #[11], assign := nav (bodyOf Tryz.prog 73) [1, 1, 0, 1, 0, 0], body := nav (bodyOf Tryz.prog 73) [1, 1, 0, 1, 0, 1], defers := 5 }), (3, Obj.cells #[Value.int IntKind.i64 (↑(orN to (List.getD (List.getD s.courses c.toNat default) n.toNat default)) : Int)] 79)] ++ ((8, regO) :: heapL (8 + 1) [])) ++ plead_H2 s l c fr n to dJ0) 9 (List.range 8) [6, 3] := by
          try have hrk := hcr.2 n n0 (by omega)
          try have hot := or_top t1 hrk.2
          try have s2 := lead_in (row := s.courses.getD c.toNat default) (to := to) q0 q1
          try have s2 := lead_out (row := s.courses.getD c.toNat default) (to := to) q0 q1
          try have s2 := lead_end (row := s.courses.getD c.toNat default) (fr := fr) (to := to) (n := n) (by omega)
          exact FinK.fjB (GoE.finK okF hJ mixed_ok (under_all (by kernel_rfl)) (writable_of (by kernel_rfl)) ((GoE.refl (P := Tryz.prog) (B := B) (c0 := plead_c2 s l c fr n to dJ0) (under_all (by kernel_rfl))).widen (Wf := ((([(6, KS.auto), (3, KS.auto)]) : List (Nat × KS)).map (·.1))) (by simp) (writable_of (by kernel_rfl))) (plead_s2 B s l c fr n to dJ0)
            ⟨(bin_or (by omega) (by omega) (by omega) (by omega)), ⟨⟨by omega, by omega, (rowL_extract (z := 1) (fun _ => rfl) (by first | omega | (rw [List.length_set]; omega) | (rw [List.length_replicate]; omega)))⟩, ⟨⟨by omega, by omega, (rowL_extract (z := 1) (fun _ => rfl) (by first | omega | (rw [List.length_set]; omega) | (rw [List.length_replicate]; omega)))⟩, trivial⟩⟩⟩) (ex := []) (by kernel_rfl) (lowX_nil _)
        try have hrk := hcr.2 n n0 (by omega)
        try have hot := or_top t1 hrk.2
        try have s2 := lead_in (row := s.courses.getD c.toNat default) (to := to) q0 q1
        try have s2 := lead_out (row := s.courses.getD c.toNat default) (to := to) q0 q1
        try have s2 := lead_end (row := s.courses.getD c.toNat default) (fr := fr) (to := to) (n := n) (by omega)
        exact ((ih0 _ (by omega)) (n + 1) ((↑(orN to (List.getD (List.getD s.courses c.toNat default) n.toNat default)) : Int)) rfl (by first | with_reducible assumption | omega | (simp_all; done)) (by first | with_reducible assumption | omega | (simp_all; done)) (by first | with_reducible assumption | omega | (simp_all; done))
          (GoE.landA okF hJ mixed_ok (under_all (by kernel_rfl)) (writable_of (by kernel_rfl)) hg0 (plead_s3 B s l c fr n to dJ0)
          ⟨(wq_in (by omega) (by omega)), ⟨rj2, ⟨⟨trivial, (by have t_ := pHas (fr) (n) (by first | with_reducible assumption | omega | simp_all) (by first | with_reducible assumption | omega | simp_all); rw [q1] at t_; exact t_)⟩, hp0⟩⟩⟩ (by kernel_rfl) (by kernel_rfl) (fun l hl => by cases hl <;> decide))).cast (by first | rfl | (rw [s2]; done) | (rw [s2]; rfl)) (by first | rfl | (rw [s2]; done) | (rw [s2]; rfl)) (by first | rfl | (rw [s2]; done) | (rw [s2]; rfl))
      | false =>
        try have hrk := hcr.2 n n0 (by omega)
        try have hot := or_top t1 hrk.2
        try have s2 := lead_in (row := s.courses.getD c.toNat default) (to := to) q0 q1
        try have s2 := lead_out (row := s.courses.getD c.toNat default) (to := to) q0 q1
        try have s2 := lead_end (row := s.courses.getD c.toNat default) (fr := fr) (to := to) (n := n) (by omega)
        exact ((ih0 _ (by omega)) (n + 1) (to) rfl (by first | with_reducible assumption | omega | (simp_all; done)) (by first | with_reducible assumption | omega | (simp_all; done)) (by first | with_reducible assumption | omega | (simp_all; done))
          (GoE.landA okF hJ mixed_ok (under_all (by kernel_rfl)) (writable_of (by kernel_rfl)) hg0 (plead_s4 B s l c fr n to dJ0)
          ⟨(wq_in (by omega) (by omega)), ⟨⟨trivial, (by have t_ := pHas (fr) (n) (by first | with_reducible assumption | omega | simp_all) (by first | with_reducible assumption | omega | simp_all); rw [q1] at t_; exact t_)⟩, hp0⟩⟩ (by kernel_rfl) (by kernel_rfl) (fun l hl => by cases hl <;> decide))).cast (by first | rfl | (rw [s2]; done) | (rw [s2]; rfl)) (by first | rfl | (rw [s2]; done) | (rw [s2]; rfl)) (by first | rfl | (rw [s2]; done) | (rw [s2]; rfl))
    ·
      try have hrk := hcr.2 n n0 (by omega)
      try have hot := or_top t1 hrk.2
      try have s2 := lead_in (row := s.courses.getD c.toNat default) (to := to) q0 q1
      try have s2 := lead_out (row := s.courses.getD c.toNat default) (to := to) q0 q1
      try have s2 := lead_end (row := s.courses.getD c.toNat default) (fr := fr) (to := to) (n := n) (by omega)
      exact (GoE.finK okF hJ mixed_ok (under_all (by kernel_rfl)) (writable_of (by kernel_rfl)) hg0 (plead_s5 B s l c fr n to dJ0)
        ⟨(ltq_f (Int.not_lt.1 q0)), trivial⟩).cast (by first | rfl | (rw [s2]; done) | (rw [s2]; rfl)) (by first | rfl | (rw [s2]; done) | (rw [s2]; rfl)) (by first | rfl | (rw [s2]; done) | (rw [s2]; rfl))

set_option maxRecDepth 100000 in
theorem plead_s1 (B : Lo) (s : CSea) (l : List Hour) (c fr : Int) : CE.landA 7 (srunT Tryz.prog (okFn Tryz.prog) J0 B 4 7 (plead_c1 s l c fr) (plead_H1 s l c fr) 7
    [(1, HintT.old (Hint.val (Value.int IntKind.u64 fr))), (2, HintT.pure (Value.int IntKind.i64 (lenI fr)) [])] 0 [] []) [0, 1, 6, 7] [(6, KS.auto), (3, KS.auto)] [] [] = some ⟨88, 20, plead_k1_t0, [], .run, none, plead_k1_v0 s l c fr (0) (0), ([6, 3] : List Nat).zip (plead_k1_w0 s l c fr (0) (0)), plead_k1_o0 s l c fr (0) (0),
    [AllP [] ∧ PureC Tryz.prog J0 89 #[Value.int IntKind.u64 fr] (Value.int IntKind.i64 (lenI fr)), IntKind.wrap IntKind.u64 fr = fr]⟩ := by kernel_rfl
set_option maxRecDepth 100000 in
theorem plead_s6 (B : Lo) (s : CSea) (l : List Hour) (c fr : Int) : endT (srunT Tryz.prog (okFn Tryz.prog) J0 B 16 1 (entryC Tryz.prog 73 24 (([.agg (encLogged s l).toArray, .int .i64 c, .int .i64 fr]).map (pushT 0 4))) H00 1
    [(5, HintT.call (List.range 4) (OO.ret (Value.func (Fn.func 88) #[] #[topV 4 (ptT 0 #[Value.int IntKind.i64 fr])])) ([] ++ (4, regO) :: heapL 5 []) 5 []), (6, HintT.call (List.range 7) (OO.ret (Value.tuple #[])) ([(6, Obj.loop { state := LoopState.ready, pending := none, fn := 73, tmps := (plead_z0 s l c fr), params := #[11], assign := nav (bodyOf Tryz.prog 73) [1, 1, 0, 1, 0, 0], body := nav (bodyOf Tryz.prog 73) [1, 1, 0, 1, 0, 1], defers := 5 }), (3, Obj.cells #[Value.int IntKind.i64 (leadI (List.getD s.courses c.toNat default) fr 0 0)] 79)] ++ (7, regO) :: heapL 8 []) 8 [6, 3])] 0 [] []) [] = some (Value.int IntKind.i64 (leadI (List.getD s.courses c.toNat default) fr 0 0),
    [FJ Tryz.prog B (plead_c1 s l c fr) (plead_H1 s l c fr) 7 (OO.ret (Value.tuple #[])) (([(6, Obj.loop { state := LoopState.ready, pending := none, fn := 73, tmps := (plead_z0 s l c fr), params := #[11], assign := nav (bodyOf Tryz.prog 73) [1, 1, 0, 1, 0, 0], body := nav (bodyOf Tryz.prog 73) [1, 1, 0, 1, 0, 1], defers := 5 }), (3, Obj.cells #[Value.int IntKind.i64 (leadI (List.getD s.courses c.toNat default) fr 0 0)] 79)] ++ ((7, regO) :: heapL (7 + 1) [])) ++ plead_H1 s l c fr) 8 (List.range 7) [6, 3], FJ Tryz.prog B (plead_c0 s l c fr) (plead_H0 s l c fr) 4 (OO.ret (Value.func (Fn.func 88) #[] #[topV 4 (ptT 0 #[Value.int IntKind.i64 fr])])) (([] ++ ((4, regO) :: heapL (4 + 1) [])) ++ plead_H0 s l c fr) 5 (List.range 4) []]) := by kernel_rfl
set_option maxHeartbeats 4000000 in
theorem plead_e (s : CSea) (l : List Hour) (c fr : Int) (hs : seaB s = true) (c0 : 0 ≤ c) (c1 : c < s.courses.length) (f0 : 0 ≤ fr) (f1 : fr ≤ topI s.cells) {B : Lo} (hJ : ∀ w, B.has w → J0 w) : EndsT Tryz.prog B (entryC Tryz.prog 73 24 (([.agg (encLogged s l).toArray, .int .i64 c, .int .i64 fr]).map (pushT 0 4))) (.int .i64 (leadI (s.courses.getD c.toNat default) fr 0 0)) := by
  have hsf := sea_facts hs
  have hlc := len_cells f0 f1 (by omega)
  have hcr := course_row hs c0 c1
  have rj0 : FJ Tryz.prog B (plead_c0 s l c fr) (plead_H0 s l c fr) 4 (OO.ret (Value.func (Fn.func 88) #[] #[topV 4 (ptT 0 #[Value.int IntKind.i64 fr])])) (([] ++ ((4, regO) :: heapL (4 + 1) [])) ++ plead_H0 s l c fr) 5 (List.range 4) [] := by
    exact FinK.fjB (GoE.finK okF hJ mixed_ok (under_all (by kernel_rfl)) (writable_of (by kernel_rfl)) ((GoE.refl (P := Tryz.prog) (B := B) (c0 := plead_c0 s l c fr) (under_all (by kernel_rfl))).widen (Wf := ((([]) : List (Nat × KS)).map (·.1))) (by simp) (writable_of (by kernel_rfl))) (plead_s0 B s l c fr)
      ⟨(cellsT_simple (by kernel_rfl)), trivial⟩) (ex := []) (by kernel_rfl) (lowX_nil _)
  have rj1 : FJ Tryz.prog B (plead_c1 s l c fr) (plead_H1 s l c fr) 7 (OO.ret (Value.tuple #[])) (([(6, Obj.loop { state := LoopState.ready, pending := none, fn := 73, tmps := #[Value.agg #[Value.int IntKind.i64 s.cells, Value.int IntKind.i64 s.start, topV 0 (slT s.courses.length (rowL slI2 s.courses)), topV 0 (slT s.stars.length (rowL encI s.stars)), topV 0 (slT s.boats.length (rowL encI s.boats)), topV 0 (slT s.roads.length (rowL encI s.roads)), topV 0 (slT l.length (rowL encHour l))], Value.int IntKind.i64 c, Value.int IntKind.i64 fr, pA 1 0, pA 2 0, Value.tuple #[], Value.int IntKind.i64 0, pA 3 0, Value.tuple #[], Value.int IntKind.i64 fr, Value.func (Fn.func 88) #[] #[topV 4 (ptT 0 #[Value.int IntKind.i64 fr])], Value.tuple #[], Value.tuple #[], Value.tuple #[], Value.tuple #[], Value.tuple #[], Value.tuple #[], Value.tuple #[], Value.tuple #[], Value.tuple #[], Value.tuple #[], Value.tuple #[], Value.tuple #[], Value.tuple #[]], params := #[11], assign := nav (bodyOf Tryz.prog 73) [1, 1, 0, 1, 0, 0], body := nav (bodyOf Tryz.prog 73) [1, 1, 0, 1, 0, 1], defers := 5 }), (3, Obj.cells #[Value.int IntKind.i64 (leadI (List.getD s.courses c.toNat default) fr 0 0)] 79)] ++ ((7, regO) :: heapL (7 + 1) [])) ++ plead_H1 s l c fr) 8 (List.range 7) [6, 3] := by
    exact FinK.fjB ((plead_k1_ls s l c fr hs c0 c1 f0 f1 hJ _) (0) (0) rfl (by first | with_reducible assumption | omega | (simp_all; done)) (by first | with_reducible assumption | omega | (simp_all; done)) (by first | with_reducible assumption | omega | (simp_all; done))
      (GoE.landA okF hJ mixed_ok (under_all (by kernel_rfl)) (writable_of (by kernel_rfl)) ((GoE.refl (P := Tryz.prog) (B := B) (c0 := plead_c1 s l c fr) (under_all (by kernel_rfl))).widen (Wf := ((([(6, KS.auto), (3, KS.auto)]) : List (Nat × KS)).map (·.1))) (by simp) (writable_of (by kernel_rfl))) (plead_s1 B s l c fr)
      ⟨⟨trivial, pLen (fr) (by first | with_reducible assumption | omega | simp_all) (by first | with_reducible assumption | omega | simp_all)⟩, ⟨(IntWalk.u64_in _ ⟨by omega, by omega⟩), trivial⟩⟩ (by kernel_rfl) (by kernel_rfl) (fun l hl => by cases hl <;> decide))) (ex := []) (by kernel_rfl) (lowX_nil _)
  exact (GoE.endsT okF hJ mixed_ok GoE.start (plead_s6 B s l c fr)
    ⟨rj1, ⟨rj0, trivial⟩⟩).cast (by first | rfl | (simp [*]; done) | (simp_all []; done) | (simp_all []; omega))
theorem plead (s : CSea) (l : List Hour) (c fr : Int) (hs : seaB s = true) (c0 : 0 ≤ c) (c1 : c < s.courses.length) (f0 : 0 ≤ fr) (f1 : fr ≤ topI s.cells) : PureC Tryz.prog J0 73 #[.agg (encLogged s l).toArray, .int .i64 c, .int .i64 fr] (.int .i64 (leadI (s.courses.getD c.toNat default) fr 0 0)) :=
  pureC_of (ts := [.agg (encLogged s l).toArray, .int .i64 c, .int .i64 fr]) J0_st (c0 := entryC Tryz.prog 73 24 (([.agg (encLogged s l).toArray, .int .i64 c, .int .i64 fr]).map (pushT 0 4))) (by kernel_rfl) (by kernel_rfl) fun B hJ => plead_e s l c fr hs c0 c1 f0 f1 hJ
noncomputable def pafter_p0 (B : Lo) (s : CSea) (l : List Hour) (h : Hour) (fr : Int) : List Prop := [AllP [] ∧ PureC Tryz.prog J0 73 #[Value.agg #[Value.int IntKind.i64 s.cells, Value.int IntKind.i64 s.start, slT s.courses.length (rowL slI2 s.courses), slT s.stars.length (rowL encI s.stars), slT s.boats.length (rowL encI s.boats), slT s.roads.length (rowL encI s.roads), slT l.length (rowL encHour l)], Value.int IntKind.i64 h.course, Value.int IntKind.i64 fr] (Value.int IntKind.i64 (leadI (List.getD s.courses (Int.toNat h.course) default) fr 0 0))] ++ ([] : List Prop)
noncomputable def pafter_q0 (s : CSea) (l : List Hour) (h : Hour) (fr : Int) : ScriptT := [(7, HintT.pure (Value.int IntKind.i64 (leadI (List.getD s.courses (Int.toNat h.course) default) fr 0 0)) [])]
set_option maxRecDepth 100000 in
theorem pafter_s0 (B : Lo) (s : CSea) (l : List Hour) (h : Hour) (fr : Int) : endT (srunT Tryz.prog (okFn Tryz.prog) J0 B 12 1 (entryC Tryz.prog 61 26 (([.agg (encLogged s l).toArray, .agg (encHour h).toArray, .int .i64 fr]).map (pushT 0 4))) H00 1
    (pafter_q0 s l h fr ++ [(11, hvT)]) 0 [] []) [] = some (Value.int IntKind.i64 (leadI (List.getD s.courses (Int.toNat h.course) default) fr 0 0),
    [eqq h.star (-1) = true] ++ pafter_p0 B s l h fr) := by kernel_rfl
set_option maxRecDepth 100000 in
theorem pafter_s1 (B : Lo) (s : CSea) (l : List Hour) (h : Hour) (fr : Int) : endT (srunT Tryz.prog (okFn Tryz.prog) J0 B 13 1 (entryC Tryz.prog 61 26 (([.agg (encLogged s l).toArray, .agg (encHour h).toArray, .int .i64 fr]).map (pushT 0 4))) H00 1
    (pafter_q0 s l h fr ++ [(11, hvF), (18, HintT.tidx (Int.toNat h.star) #[Value.int IntKind.i64 (List.getD s.stars (Int.toNat h.star) default)]), (20, HintT.bin (Value.int IntKind.i64 (↑(andN (leadI (List.getD s.courses (Int.toNat h.course) default) fr 0 0) (List.getD s.stars (Int.toNat h.star) default)) : Int)))]) 0 [] []) [] = some (Value.int IntKind.i64 (↑(andN (leadI (List.getD s.courses (Int.toNat h.course) default) fr 0 0) (List.getD s.stars (Int.toNat h.star) default)) : Int),
    [BinTo Tryz.prog BinOp.and 79 (tget { len := 16000, tr := Tri.set 14 (Tri.set 14 Tri.lf 24 (Value.int IntKind.i64 (List.getD s.stars (Int.toNat h.star) default))) 17 (Value.int IntKind.i64 (leadI (List.getD s.courses (Int.toNat h.course) default) fr 0 0)) } 17) (tget { len := 16000, tr := Tri.set 14 (Tri.set 14 Tri.lf 24 (Value.int IntKind.i64 (List.getD s.stars (Int.toNat h.star) default))) 17 (Value.int IntKind.i64 (leadI (List.getD s.courses (Int.toNat h.course) default) fr 0 0)) } 24) (Value.int IntKind.i64 (↑(andN (leadI (List.getD s.courses (Int.toNat h.course) default) fr 0 0) (List.getD s.stars (Int.toNat h.star) default)) : Int)), h.star = (↑(Int.toNat h.star) : Int) ∧ Int.toNat h.star < List.length s.stars ∧ Array.extract (rowL encI s.stars) (Int.toNat h.star * TypeInfo.size Tryz.t3) (Int.toNat h.star * TypeInfo.size Tryz.t3 + TypeInfo.size Tryz.t3) = #[Value.int IntKind.i64 (List.getD s.stars (Int.toNat h.star) default)], eqq h.star (-1) = false] ++ pafter_p0 B s l h fr) := by kernel_rfl
set_option maxHeartbeats 4000000 in
theorem pafter_e (s : CSea) (l : List Hour) (h : Hour) (fr : Int) (hs : seaB s = true) (hh : hourB s.courses.length s.stars.length h = true) (f0 : 0 ≤ fr) (f1 : fr ≤ topI s.cells) {B : Lo} (hJ : ∀ w, B.has w → J0 w) : EndsT Tryz.prog B (entryC Tryz.prog 61 26 (([.agg (encLogged s l).toArray, .agg (encHour h).toArray, .int .i64 fr]).map (pushT 0 4))) (.int .i64 (aftI s h fr)) := by
  have hhf := hour_facts hh
  have hcr := course_row hs hhf.1.1 hhf.1.2
  have hlt := lead_top hcr.2 f0 f1 (by have := (sea_facts hs).1; omega) _ 0 0 (by omega) rfl (by omega) topI_0
  have hsf := sea_facts hs
  have hp0 : AllP (pafter_p0 B s l h fr) := by
    try have hst := star_in hs (k := h.star) (by omega) hhf.2.2
    exact ⟨⟨trivial, plead (s) (l) h.course (fr) (by first | with_reducible assumption | omega | simp_all) (by first | with_reducible assumption | omega | simp_all) (by first | with_reducible assumption | omega | simp_all) (by first | with_reducible assumption | omega | simp_all) (by first | with_reducible assumption | omega | simp_all)⟩, trivial⟩
  by_cases q0 : (h.star : Int) = (-1)
  ·
    try have hst := star_in hs (k := h.star) (by omega) hhf.2.2
    exact (GoE.endsT okF hJ mixed_ok GoE.start (pafter_s0 B s l h fr)
      ⟨(eqq_t q0), hp0⟩).cast (by first | (unfold aftI starI; rw [if_pos (by assumption)]; done) | (unfold aftI starI; rw [if_neg (by assumption)]; done) | (unfold aftI starI; simp [*]; done))
  ·
    try have hst := star_in hs (k := h.star) (by omega) hhf.2.2
    exact (GoE.endsT okF hJ mixed_ok GoE.start (pafter_s1 B s l h fr)
      ⟨(bin_and (by omega) (by omega) (by omega) (by omega)), ⟨⟨by omega, by omega, (rowL_extract (z := 1) (fun _ => rfl) (by first | omega | (rw [List.length_set]; omega) | (rw [List.length_replicate]; omega)))⟩, ⟨(eqq_f q0), hp0⟩⟩⟩).cast (by first | (unfold aftI starI; rw [if_pos (by assumption)]; done) | (unfold aftI starI; rw [if_neg (by assumption)]; done) | (unfold aftI starI; simp [*]; done))
theorem pafter (s : CSea) (l : List Hour) (h : Hour) (fr : Int) (hs : seaB s = true) (hh : hourB s.courses.length s.stars.length h = true) (f0 : 0 ≤ fr) (f1 : fr ≤ topI s.cells) : PureC Tryz.prog J0 61 #[.agg (encLogged s l).toArray, .agg (encHour h).toArray, .int .i64 fr] (.int .i64 (aftI s h fr)) :=
  pureC_of (ts := [.agg (encLogged s l).toArray, .agg (encHour h).toArray, .int .i64 fr]) J0_st (c0 := entryC Tryz.prog 61 26 (([.agg (encLogged s l).toArray, .agg (encHour h).toArray, .int .i64 fr]).map (pushT 0 4))) (by kernel_rfl) (by kernel_rfl) fun B hJ => pafter_e s l h fr hs hh f0 f1 hJ
end Go.Proofs.YtiaaikkmipmhnaaGreatDoor

