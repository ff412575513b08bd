/- Canoe: the reference's small functions, and its fits. -/
import Derived.Test.YtiaaikkmipmhnaaGreatDoorZCS11
import Derived.Shelf.Strings.Builder1
import Derived.Shelf.Strings.Builder2
import Derived.Shelf.Strings.OnBuilder
import Derived.Shelf.Small.Bits
import Derived.Shelf.Strconv.Itoa0
import Derived.Shelf.Strconv.Itoa1
import Derived.Shelf.LaysM
import Derived.Shelf.Strconv.Itoa2
import Derived.Shelf.Strconv.Itoa3
import Derived.Shelf.Bits.Mul64
import Derived.Ground.Names2Prog
import Derived.Shelf.Slices.Clone
import Derived.Ground.SlgnProg
import Derived.Shelf.SlicesE.Clone
import Derived.Test.YtiaaikkmipmhnaaGreatDoorProg
import Derived.Test.YtiaaikkmipmhnaaGreatDoorZCS07
import Derived.Test.YtiaaikkmipmhnaaGreatDoorZCS10
import Derived.Lib.SmallJoins
set_option linter.all false
namespace Go.Proofs.YtiaaikkmipmhnaaGreatDoor
open Go Go.CE Go.RowKit
theorem has_half {s n : Int} (h0 : 0 ≤ s) (h : 0 < n) : setB s n = setB (s.tdiv 2) (n - 1) := by
  have e : s.tdiv 2 = s / 2 := Int.tdiv_eq_ediv_of_nonneg h0
  rw [e, setB_eq, setB_eq, show n.toNat = (n - 1).toNat + 1 by omega, Nat.testBit_succ, show (s / 2).toNat = s.toNat / 2 by omega]
theorem has_last {s n : Int} (h0 : 0 ≤ s) (h : n ≤ 0) : setB s n = decide (s.tmod 2 = 1) := by
  have e : s.tmod 2 = s % 2 := Int.tmod_eq_emod_of_nonneg h0
  rw [e, setB_eq, show n.toNat = 0 by omega, Nat.testBit_zero]
  exact decide_eq_decide.2 (by omega)
theorem with_all : (List.range 1024).all (fun s => (List.range 10).all fun n => (bif Nat.testBit s n then Nat.beq (s ||| 2 ^ n) s else Nat.beq (s ||| 2 ^ n) (s + 2 ^ n))) = true := by decide +kernel
theorem with_eq {s n : Int} (h0 : 0 ≤ s) (h1 : s ≤ 1023) (n0 : 0 ≤ n) (n1 : n ≤ 9) : setW s n = if setB s n = true then s else s + ((pow2 n : Nat) : Int) := by
  have := List.all_eq_true.1 with_all s.toNat (List.mem_range.2 (by omega))
  have := List.all_eq_true.1 this n.toNat (List.mem_range.2 (by omega))
  unfold setW orN pow2
  rw [setB_eq, Int.toNat_natCast]
  cases hb : Nat.testBit s.toNat n.toNat with
  | true =>
    rw [hb, cond_true] at this
    rw [Nat.eq_of_beq_eq_true this, if_pos rfl]; omega
  | false =>
    rw [hb, cond_false] at this
    rw [Nat.eq_of_beq_eq_true this, if_neg (by decide)]; omega
theorem pow2_next {i n : Int} (h0 : 0 ≤ i) : ((pow2 (i + 1) : Nat) : Int) = 2 * ((pow2 i : Nat) : Int) := by
  unfold pow2
  rw [show (i + 1).toNat = i.toNat + 1 by omega, Nat.pow_succ]; omega
theorem pow2_le9 {i : Int} (h : i ≤ 10) : 1 ≤ ((pow2 i : Nat) : Int) ∧ ((pow2 i : Nat) : Int) ≤ 1024 := by
  unfold pow2
  have h1 : i.toNat ≤ 10 := by omega
  have h2 : 2 ^ i.toNat ≤ 2 ^ 10 := Nat.pow_le_pow_right (by decide) h1
  have h3 : 1 ≤ 2 ^ i.toNat := Nat.one_le_two_pow
  omega
def stepR (s : CSea) (h : Hour) (a b : Int) : Bool := setB ((s.courses.getD h.course.toNat default).getD a.toNat default) b && (decide (h.star < 0) || setB (s.stars.getD h.star.toNat default) b)
theorem lead_bit {row : List Int} {fr k : Int} (c : Int) (hr : ∀ k : Int, 0 ≤ k → k < c → 1 ≤ row.getD k.toNat default ∧ row.getD k.toNat default ≤ topI c) (hl : lenI fr ≤ c) : ∀ (m : Nat) (n to : Int), 0 ≤ n → 0 ≤ to → (lenI fr - n).toNat = m → setB (leadI row fr n to) k = (setB to k || (upI n (lenI fr)).any fun x => setB fr x && setB (row.getD x.toNat default) k) := by
  intro m
  induction m with
  | zero => intro n to n0 t0 hm; rw [lead_end (by omega), upI_nil (by omega)]; simp
  | succ m ih =>
    intro n to n0 t0 hm
    rw [upI_cons (by omega), List.any_cons]
    cases hb : setB fr n with
    | true =>
      have h1 := (hr n n0 (by omega)).1
      rw [lead_in (by omega) hb, ih (n + 1) _ (by omega) (Int.natCast_nonneg _) (by omega), bit_or t0 (by omega), Bool.true_and, Bool.or_assoc]
    | false =>
      rw [lead_out (by omega) hb, ih (n + 1) to (by omega) t0 (by omega), Bool.false_and, Bool.false_or]
theorem one_bit {a k : Int} (a0 : 0 ≤ a) (k0 : 0 ≤ k) : setB (setW 0 a) k = decide (k = a) := by
  rw [setB_eq]; unfold setW orN pow2
  rw [Int.toNat_natCast, Int.toNat_natCast, show (0 : Int).toNat = 0 from rfl, Nat.zero_or, Nat.testBit_two_pow]
  exact decide_eq_decide.2 (by omega)
theorem one_len {a : Int} (a0 : 0 ≤ a) : a < lenI (setW 0 a) := bit_len (Int.natCast_nonneg _) a0 (by rw [one_bit a0 a0]; simp)
theorem any_one {a b : Int} {p : Int → Bool} (h : a < b) (a0 : 0 ≤ a) : ((upI 0 b).any fun x => decide (x = a) && p x) = p a := by
  cases hp : p a with
  | true => exact List.any_eq_true.2 ⟨a, List.mem_map.2 ⟨a.toNat, List.mem_range.2 (by omega), by omega⟩, by simp [hp]⟩
  | false =>
    refine List.any_eq_false.2 fun x _ => ?_
    by_cases e : x = a
    · subst e; simp [hp]
    · simp [e]
theorem any_congr {l : List Int} {p q : Int → Bool} (h : ∀ x ∈ l, p x = q x) : l.any p = l.any q := by
  induction l with
  | nil => rfl
  | cons x l ih => rw [List.any_cons, List.any_cons, h x List.mem_cons_self, ih fun y hy => h y (List.mem_cons_of_mem _ hy)]
theorem up_ge {a b x : Int} (h : x ∈ upI a b) : a ≤ x ∧ x < b := by
  unfold upI at h
  obtain ⟨m, hm, rfl⟩ := List.mem_map.1 h
  have := List.mem_range.1 hm
  omega
theorem lead_one {s : CSea} (hs : seaB s = true) {c a k : Int} (c0 : 0 ≤ c) (c1 : c < s.courses.length) (a0 : 0 ≤ a) (a1 : a < s.cells) : setB (leadI (s.courses.getD c.toNat default) (setW 0 a) 0 0) k = setB ((s.courses.getD c.toNat default).getD a.toNat default) k := by
  have hr := course_row hs c0 c1
  have hsf := sea_facts hs
  have hw := setW_top (s := 0) (n := s.cells) (Int.le_refl 0) topI_0 a0 a1
  have hl := len_cells hw.1 hw.2 (by omega)
  rw [lead_bit s.cells hr.2 hl.2 _ 0 0 (by omega) (by omega) rfl]
  rw [any_congr (q := fun x => decide (x = a) && setB ((s.courses.getD c.toNat default).getD x.toNat default) k) (fun x hx => by rw [one_bit a0 (up_ge hx).1]), any_one (one_len a0) a0]
  rw [show setB 0 k = false by rw [setB_eq]; simp, Bool.false_or]
theorem step_eq {s : CSea} (hs : seaB s = true) {h : Hour} (hh : hourB s.courses.length s.stars.length h = true) {a b : Int} (a0 : 0 ≤ a) (a1 : a < s.cells) : stepB s h a b = stepR s h a b := by
  have hf := hour_facts hh
  unfold stepB stepR aftI starI
  by_cases e : h.star = -1
  · rw [if_pos e, lead_one hs hf.1.1 hf.1.2 a0 a1, decide_eq_true (show h.star < 0 by omega), Bool.true_or, Bool.and_true]
  · rw [if_neg e, bit_and, lead_one hs hf.1.1 hf.1.2 a0 a1, decide_eq_false (show ¬ h.star < 0 by omega), Bool.false_or]
def rSets_v0 (s : CSea) (n i : Int) : List Value := [pA 2 0, .int .i64 n, .int .i64 i]
def rSets_o0 (s : CSea) (n i : Int) : List Obj := [Obj.cells #[Value.int IntKind.i64 s.cells, Value.int IntKind.i64 s.start, topV 1 (slT s.courses.length (rowL slI2 s.courses)), topV 1 (slT s.stars.length (rowL encI s.stars)), topV 1 (slT s.boats.length (rowL encI s.boats)), topV 1 (slT s.roads.length (rowL encI s.roads))] 25]
noncomputable def rSets_t0 : List Item := ([.code [1, 1, 0, 1, 0, 0], .inLoop [1, 1, 0, 1, 0, 0], .inBlock 0, .code [1, 1, 1]]).map (it (bodyOf Tryz.prog 24))
def rSets_h0 (B : Lo) (c0 : CF) (s : CSea) (n i : Int) : Prop := ∃ dJ : Nat → Value, (∀ t, Loose (dJ t)) ∧ GoE Tryz.prog B c0 H00 1 (headC 24 18 (([1, 3, 4] : List Nat).zip (rSets_v0 s n i)) dJ rSets_t0) (headH (rSets_o0 s n i)) (2 + (rSets_o0 s n i).length) []
noncomputable def rSets_p0 (B : Lo) (s : CSea) (n i : Int) (dJ0 : Nat → Value) : List Prop := [ltq i s.cells = true] ++ ([] : List Prop)
noncomputable def rSets_q0 (s : CSea) (n i : Int) (dJ0 : Nat → Value) : ScriptT := [(3, hvT)]
set_option maxRecDepth 100000 in
theorem rSets_s0 (B : Lo) (s : CSea) (n i : Int) (dJ0 : Nat → Value) : landM (srunT Tryz.prog (okFn Tryz.prog) J0 B 11 1 (headC 24 18 (([1, 3, 4] : List Nat).zip (rSets_v0 s n i)) dJ0 rSets_t0) (headH (rSets_o0 s n i)) (2 + (rSets_o0 s n i).length)
    (rSets_q0 s n i dJ0 ++ [(6, hvT), (9, hvI (2 * n)), (12, hvI (i + 1))]) 0 [] []) [1, 3, 4] [(2, KS.auto)] [] = some ⟨24, 18, rSets_t0, [], .run, none, rSets_v0 s (2 * n) (i + 1), rSets_o0 s (2 * n) (i + 1),
    [wq (i + 1) = i + 1, wq (2 * n) = 2 * n, ltq i 10 = true] ++ rSets_p0 B s n i dJ0⟩ := by kernel_rfl
set_option maxRecDepth 100000 in
theorem rSets_s1 (B : Lo) (s : CSea) (n i : Int) (dJ0 : Nat → Value) : endT (srunT Tryz.prog (okFn Tryz.prog) J0 B 9 1 (headC 24 18 (([1, 3, 4] : List Nat).zip (rSets_v0 s n i)) dJ0 rSets_t0) (headH (rSets_o0 s n i)) (2 + (rSets_o0 s n i).length)
    (rSets_q0 s n i dJ0 ++ [(6, hvF)]) 0 [] []) [] = some (Value.int IntKind.i64 n,
    [ltq i 10 = false] ++ rSets_p0 B s n i dJ0) := by kernel_rfl
set_option maxRecDepth 100000 in
theorem rSets_s2 (B : Lo) (s : CSea) (n i : Int) (dJ0 : Nat → Value) : endT (srunT Tryz.prog (okFn Tryz.prog) J0 B 9 1 (headC 24 18 (([1, 3, 4] : List Nat).zip (rSets_v0 s n i)) dJ0 rSets_t0) (headH (rSets_o0 s n i)) (2 + (rSets_o0 s n i).length)
    [(3, hvF)] 0 [] []) [] = some (Value.int IntKind.i64 n,
    [ltq i s.cells = false]) := by kernel_rfl
set_option maxRecDepth 100000 in
theorem rSets_s3 (B : Lo) (s : CSea) : landM (srunT Tryz.prog (okFn Tryz.prog) J0 B 9 1 (entryC Tryz.prog 24 18 (([.agg (encSea s).toArray]).map (pushT 0 4))) H00 1
    [] 0 [] []) [1, 3, 4] [(1, KS.auto)] [] = some ⟨24, 18, rSets_t0, [], .run, none, rSets_v0 s (1) (0), rSets_o0 s (1) (0),
    []⟩ := by kernel_rfl
set_option maxHeartbeats 4000000 in
theorem rSets_ls (s : CSea) (h0 : 0 ≤ s.cells) (h1 : s.cells ≤ 10) {B : Lo} (hJ : ∀ w, B.has w → J0 w) {c0 : CF} : ∀ m : Nat, (∀ (n i : Int), (s.cells - i).toNat = m → ∀ (i0 : 0 ≤ i) (i1 : i ≤ s.cells) (hn : n = ((pow2 i : Nat) : Int)), rSets_h0 B c0 s n i → EndsT Tryz.prog B c0 (.int .i64 ((pow2 s.cells : Nat) : Int))) := by
  intro m0
  induction m0 using Nat.strongRecOn with
  | _ m0 ih0 =>
    intro n i hm0 i0 i1 hn ⟨dJ0, hdJ0, hg0⟩
    have hp := pow2_le9 (i := i) (by omega)
    have hx := pow2_next (n := 0) i0
    by_cases q0 : (i : Int) < s.cells
    ·
      have hp0 : AllP (rSets_p0 B s n i dJ0) := by
        exact ⟨(ltq_t q0), trivial⟩
      by_cases q1 : (i : Int) < (10)
      ·
        exact ((ih0 _ (by omega)) (2 * n) (i + 1) rfl (by first | with_reducible assumption | omega | rfl | (simp_all; done)) (by first | with_reducible assumption | omega | rfl | (simp_all; done)) (by first | with_reducible assumption | omega | rfl | (simp_all; done))
          (hg0.landM okF hJ mixed_ok (rSets_s0 B s n i dJ0)
          ⟨(wq_in (by omega) (by omega)), ⟨(wq_in (by omega) (by omega)), ⟨(ltq_t q1), hp0⟩⟩⟩ (by kernel_rfl) (by kernel_rfl))).cast (by first | rfl | (rw [hn, show i = s.cells by omega]; done))
      ·
        exact (GoE.endsT okF hJ mixed_ok hg0 (rSets_s1 B s n i dJ0)
          ⟨(ltq_f (Int.not_lt.1 q1)), hp0⟩).cast (by first | rfl | (rw [hn, show i = s.cells by omega]; done))
    ·
      exact (GoE.endsT okF hJ mixed_ok hg0 (rSets_s2 B s n i dJ0)
        ⟨(ltq_f (Int.not_lt.1 q0)), trivial⟩).cast (by first | rfl | (rw [hn, show i = s.cells by omega]; done))
set_option maxHeartbeats 4000000 in
theorem rSets_e (s : CSea) (h0 : 0 ≤ s.cells) (h1 : s.cells ≤ 10) {B : Lo} (hJ : ∀ w, B.has w → J0 w) : EndsT Tryz.prog B (entryC Tryz.prog 24 18 (([.agg (encSea s).toArray]).map (pushT 0 4))) (.int .i64 ((pow2 s.cells : Nat) : Int)) := by
  exact ((rSets_ls s h0 h1 hJ _) (1) (0) rfl (by first | with_reducible assumption | omega | rfl | (simp_all; done)) (by first | with_reducible assumption | omega | rfl | (simp_all; done)) (by first | with_reducible assumption | omega | rfl | (simp_all; done))
    (GoE.start.landM okF hJ mixed_ok (rSets_s3 B s)
    trivial (by kernel_rfl) (by kernel_rfl))).cast (by first | rfl | (simp [*]; done) | (simp_all []; done) | (simp_all []; omega))
theorem rSets (s : CSea) (h0 : 0 ≤ s.cells) (h1 : s.cells ≤ 10) : PureC Tryz.prog J0 24 #[.agg (encSea s).toArray] (.int .i64 ((pow2 s.cells : Nat) : Int)) :=
  pureC_of (ts := [.agg (encSea s).toArray]) J0_st (c0 := entryC Tryz.prog 24 18 (([.agg (encSea s).toArray]).map (pushT 0 4))) (by kernel_rfl) (by kernel_rfl) fun B hJ => rSets_e s h0 h1 hJ
def rHas_v0 (st n : Int) (x i : Int) : List Value := [.int .i64 x, Value.int IntKind.i64 n, .int .i64 i]
def rHas_o0 (st n : Int) (x i : Int) : List Obj := []
noncomputable def rHas_t0 : List Item := ([.code [1, 0, 1, 0, 0], .inLoop [1, 0, 1, 0, 0], .inBlock 0, .code [1, 1]]).map (it (bodyOf Tryz.prog 22))
def rHas_h0 (B : Lo) (c0 : CF) (st n : Int) (x i : Int) : Prop := ∃ dJ : Nat → Value, (∀ t, Loose (dJ t)) ∧ GoE Tryz.prog B c0 H00 1 (headC 22 16 (([0, 1, 5] : List Nat).zip (rHas_v0 st n x i)) dJ rHas_t0) (headH (rHas_o0 st n x i)) (2 + (rHas_o0 st n x i).length) []
set_option maxRecDepth 100000 in
theorem rHas_s0 (B : Lo) (st n : Int) (x i : Int) (dJ0 : Nat → Value) : landM (srunT Tryz.prog (okFn Tryz.prog) J0 B 11 1 (headC 22 16 (([0, 1, 5] : List Nat).zip (rHas_v0 st n x i)) dJ0 rHas_t0) (headH (rHas_o0 st n x i)) (2 + (rHas_o0 st n x i).length)
    [(2, hvT), (4, hvI (Int.tdiv x 2)), (7, hvI (i + 1))] 0 [] []) [0, 1, 5] [] [] = some ⟨22, 16, rHas_t0, [], .run, none, rHas_v0 st n (Int.tdiv x 2) (i + 1), rHas_o0 st n (Int.tdiv x 2) (i + 1),
    [wq (i + 1) = i + 1, IntKind.wrap IntKind.i64 (Int.tdiv x 2) = Int.tdiv x 2, ltq i n = true]⟩ := by kernel_rfl
noncomputable def rHas_p0 (B : Lo) (st n : Int) (x i : Int) (dJ0 : Nat → Value) : List Prop := [ltq i n = false] ++ ([] : List Prop)
noncomputable def rHas_q0 (st n : Int) (x i : Int) (dJ0 : Nat → Value) : ScriptT := [(2, hvF)]
set_option maxRecDepth 100000 in
theorem rHas_s1 (B : Lo) (st n : Int) (x i : Int) (dJ0 : Nat → Value) : endT (srunT Tryz.prog (okFn Tryz.prog) J0 B 9 1 (headC 22 16 (([0, 1, 5] : List Nat).zip (rHas_v0 st n x i)) dJ0 rHas_t0) (headH (rHas_o0 st n x i)) (2 + (rHas_o0 st n x i).length)
    (rHas_q0 st n x i dJ0 ++ [(5, hvT)]) 0 [] []) [] = some (Value.bool true,
    [eqq (Int.tmod x 2) 1 = true] ++ rHas_p0 B st n x i dJ0) := by kernel_rfl
set_option maxRecDepth 100000 in
theorem rHas_s2 (B : Lo) (st n : Int) (x i : Int) (dJ0 : Nat → Value) : endT (srunT Tryz.prog (okFn Tryz.prog) J0 B 9 1 (headC 22 16 (([0, 1, 5] : List Nat).zip (rHas_v0 st n x i)) dJ0 rHas_t0) (headH (rHas_o0 st n x i)) (2 + (rHas_o0 st n x i).length)
    (rHas_q0 st n x i dJ0 ++ [(5, hvF)]) 0 [] []) [] = some (Value.bool false,
    [eqq (Int.tmod x 2) 1 = false] ++ rHas_p0 B st n x i dJ0) := by kernel_rfl
set_option maxRecDepth 100000 in
theorem rHas_s3 (B : Lo) (st n : Int) : landM (srunT Tryz.prog (okFn Tryz.prog) J0 B 7 1 (entryC Tryz.prog 22 16 (([.int .i64 st, .int .i64 n]).map (pushT 0 4))) H00 1
    [] 0 [] []) [0, 1, 5] [] [] = some ⟨22, 16, rHas_t0, [], .run, none, rHas_v0 st n (st) (0), rHas_o0 st n (st) (0),
    []⟩ := by kernel_rfl
set_option maxHeartbeats 4000000 in
theorem rHas_ls (st n : Int) (s0 : 0 ≤ st) (s1 : st ≤ 9223372036854775807) (n1 : n ≤ 1000000) {B : Lo} (hJ : ∀ w, B.has w → J0 w) {c0 : CF} : ∀ m : Nat, (∀ (x i : Int), (n - i).toNat = m → ∀ (i0 : 0 ≤ i) (x0 : 0 ≤ x) (x1 : x ≤ 9223372036854775807), rHas_h0 B c0 st n x i → EndsT Tryz.prog B c0 (.bool (setB x (n - i)))) := by
  intro m0
  induction m0 using Nat.strongRecOn with
  | _ m0 ih0 =>
    intro x i hm0 i0 x0 x1 ⟨dJ0, hdJ0, hg0⟩
    have e2 : x.tdiv 2 = x / 2 := Int.tdiv_eq_ediv_of_nonneg x0
    by_cases q0 : (i : Int) < (n)
    ·
      try have s2 := has_half (n := n - i) x0 (by omega)
      try have s2 := has_last (n := n - i) x0 (by omega)
      exact ((ih0 _ (by omega)) (Int.tdiv x 2) (i + 1) rfl (by first | with_reducible assumption | omega | (simp_all; done)) (by first | with_reducible assumption | omega | (simp_all; done)) (by first | with_reducible assumption | omega | (simp_all; done))
        (hg0.landM okF hJ mixed_ok (rHas_s0 B st n x i dJ0)
        ⟨(wq_in (by omega) (by omega)), ⟨(wrap_in (by omega) (by omega)), ⟨(ltq_t q0), trivial⟩⟩⟩ (by kernel_rfl) (by kernel_rfl))).cast (by first | rfl | (rw [s2]; done) | (rw [s2, show n - (i + 1) = n - i - 1 by omega]; done) | (rw [s2]; simp_all; done))
    ·
      have hp0 : AllP (rHas_p0 B st n x i dJ0) := by
        exact ⟨(ltq_f (Int.not_lt.1 q0)), trivial⟩
      by_cases q1 : (Int.tmod x 2 : Int) = (1)
      ·
        try have s2 := has_half (n := n - i) x0 (by omega)
        try have s2 := has_last (n := n - i) x0 (by omega)
        exact (GoE.endsT okF hJ mixed_ok hg0 (rHas_s1 B st n x i dJ0)
          ⟨(eqq_t q1), hp0⟩).cast (by first | rfl | (rw [s2]; done) | (rw [s2, show n - (i + 1) = n - i - 1 by omega]; done) | (rw [s2]; simp_all; done))
      ·
        try have s2 := has_half (n := n - i) x0 (by omega)
        try have s2 := has_last (n := n - i) x0 (by omega)
        exact (GoE.endsT okF hJ mixed_ok hg0 (rHas_s2 B st n x i dJ0)
          ⟨(eqq_f q1), hp0⟩).cast (by first | rfl | (rw [s2]; done) | (rw [s2, show n - (i + 1) = n - i - 1 by omega]; done) | (rw [s2]; simp_all; done))
set_option maxHeartbeats 4000000 in
theorem rHas_e (st n : Int) (s0 : 0 ≤ st) (s1 : st ≤ 9223372036854775807) (n1 : n ≤ 1000000) {B : Lo} (hJ : ∀ w, B.has w → J0 w) : EndsT Tryz.prog B (entryC Tryz.prog 22 16 (([.int .i64 st, .int .i64 n]).map (pushT 0 4))) (.bool (setB st n)) := by
  exact ((rHas_ls st n s0 s1 n1 hJ _) (st) (0) rfl (by first | with_reducible assumption | omega | (simp_all; done)) (by first | with_reducible assumption | omega | (simp_all; done)) (by first | with_reducible assumption | omega | (simp_all; done))
    (GoE.start.landM okF hJ mixed_ok (rHas_s3 B st n)
    trivial (by kernel_rfl) (by kernel_rfl))).cast (by first | rfl | (rw [Int.sub_zero]; done))
theorem rHas (st n : Int) (s0 : 0 ≤ st) (s1 : st ≤ 9223372036854775807) (n1 : n ≤ 1000000) : PureC Tryz.prog J0 22 #[.int .i64 st, .int .i64 n] (.bool (setB st n)) :=
  pureC_of (ts := [.int .i64 st, .int .i64 n]) J0_st (c0 := entryC Tryz.prog 22 16 (([.int .i64 st, .int .i64 n]).map (pushT 0 4))) (by kernel_rfl) (by kernel_rfl) fun B hJ => rHas_e st n s0 s1 n1 hJ
def rwith_v0 (st n : Int) (bit i : Int) : List Value := [Value.int IntKind.i64 st, Value.int IntKind.i64 n, .int .i64 bit, .int .i64 i]
def rwith_o0 (st n : Int) (bit i : Int) : List Obj := []
noncomputable def rwith_t0 : List Item := ([.code [1, 1, 1, 0, 1, 0, 0], .inLoop [1, 1, 1, 0, 1, 0, 0], .inBlock 0, .code [1, 1, 1, 1]]).map (it (bodyOf Tryz.prog 40))
def rwith_h0 (B : Lo) (c0 : CF) (st n : Int) (bit i : Int) : Prop := ∃ dJ : Nat → Value, (∀ t, Loose (dJ t)) ∧ GoE Tryz.prog B c0 H00 1 (headC 40 21 (([0, 1, 5, 6] : List Nat).zip (rwith_v0 st n bit i)) dJ rwith_t0) (headH (rwith_o0 st n bit i)) (2 + (rwith_o0 st n bit i).length) []
set_option maxRecDepth 100000 in
theorem rwith_s0 (B : Lo) (st n : Int) (bit i : Int) (dJ0 : Nat → Value) : landM (srunT Tryz.prog (okFn Tryz.prog) J0 B 11 1 (headC 40 21 (([0, 1, 5, 6] : List Nat).zip (rwith_v0 st n bit i)) dJ0 rwith_t0) (headH (rwith_o0 st n bit i)) (2 + (rwith_o0 st n bit i).length)
    [(2, hvT), (4, hvI (2 * bit)), (7, hvI (i + 1))] 0 [] []) [0, 1, 5, 6] [] [] = some ⟨40, 21, rwith_t0, [], .run, none, rwith_v0 st n (2 * bit) (i + 1), rwith_o0 st n (2 * bit) (i + 1),
    [wq (i + 1) = i + 1, wq (2 * bit) = 2 * bit, ltq i n = true]⟩ := by kernel_rfl
set_option maxRecDepth 100000 in
theorem rwith_s1 (B : Lo) (st n : Int) (bit i : Int) (dJ0 : Nat → Value) : endT (srunT Tryz.prog (okFn Tryz.prog) J0 B 9 1 (headC 40 21 (([0, 1, 5, 6] : List Nat).zip (rwith_v0 st n bit i)) dJ0 rwith_t0) (headH (rwith_o0 st n bit i)) (2 + (rwith_o0 st n bit i).length)
    [(2, hvF), (5, hvI (st + bit))] 0 [] []) [] = some (Value.int IntKind.i64 (st + bit),
    [wq (st + bit) = st + bit, ltq i n = false]) := by kernel_rfl
set_option maxRecDepth 100000 in
theorem rwith_s2 (B : Lo) (st n : Int) : endT (srunT Tryz.prog (okFn Tryz.prog) J0 B 10 1 (entryC Tryz.prog 40 21 (([.int .i64 st, .int .i64 n]).map (pushT 0 4))) H00 1
    [(3, HintT.pure (Value.bool true) [])] 0 [] []) [] = some (Value.int IntKind.i64 st,
    [AllP [] ∧ PureC Tryz.prog J0 22 #[Value.int IntKind.i64 st, Value.int IntKind.i64 n] (Value.bool true)]) := by kernel_rfl
set_option maxRecDepth 100000 in
theorem rwith_s3 (B : Lo) (st n : Int) : landM (srunT Tryz.prog (okFn Tryz.prog) J0 B 14 1 (entryC Tryz.prog 40 21 (([.int .i64 st, .int .i64 n]).map (pushT 0 4))) H00 1
    [(3, HintT.pure (Value.bool false) [])] 0 [] []) [0, 1, 5, 6] [] [] = some ⟨40, 21, rwith_t0, [], .run, none, rwith_v0 st n (1) (0), rwith_o0 st n (1) (0),
    [AllP [] ∧ PureC Tryz.prog J0 22 #[Value.int IntKind.i64 st, Value.int IntKind.i64 n] (Value.bool false)]⟩ := by kernel_rfl
set_option maxHeartbeats 4000000 in
theorem rwith_ls (st n : Int) (s0 : 0 ≤ st) (s1 : st ≤ 1023) (n0 : 0 ≤ n) (n1 : n ≤ 9) {B : Lo} (hJ : ∀ w, B.has w → J0 w) {c0 : CF} : ∀ m : Nat, (∀ (bit i : Int), (n - i).toNat = m → ∀ (i0 : 0 ≤ i) (i1 : i ≤ n) (hb : bit = ((pow2 i : Nat) : Int)) (hq : setB st n = false), rwith_h0 B c0 st n bit i → EndsT Tryz.prog B c0 (.int .i64 (setW st n))) := by
  intro m0
  induction m0 using Nat.strongRecOn with
  | _ m0 ih0 =>
    intro bit i hm0 i0 i1 hb hq ⟨dJ0, hdJ0, hg0⟩
    have hwe := with_eq s0 s1 n0 n1
    have hwe := with_eq s0 s1 n0 n1
    have hp := pow2_le9 (i := i) (by omega)
    have hx := pow2_next (n := 0) i0
    by_cases q0 : (i : Int) < (n)
    ·
      exact ((ih0 _ (by omega)) (2 * bit) (i + 1) rfl (by first | with_reducible assumption | omega | rfl | (simp_all; done)) (by first | with_reducible assumption | omega | rfl | (simp_all; done)) (by first | with_reducible assumption | omega | rfl | (simp_all; done)) (by first | with_reducible assumption | omega | rfl | (simp_all; done))
        (hg0.landM okF hJ mixed_ok (rwith_s0 B st n bit i dJ0)
        ⟨(wq_in (by omega) (by omega)), ⟨(wq_in (by omega) (by omega)), ⟨(ltq_t q0), trivial⟩⟩⟩ (by kernel_rfl) (by kernel_rfl))).cast (by first | rfl | (rw [hwe, if_neg (by rw [hq]; decide), hb, show i = n by omega]; done))
    ·
      exact (GoE.endsT okF hJ mixed_ok hg0 (rwith_s1 B st n bit i dJ0)
        ⟨(wq_in (by omega) (by omega)), ⟨(ltq_f (Int.not_lt.1 q0)), trivial⟩⟩).cast (by first | rfl | (rw [hwe, if_neg (by rw [hq]; decide), hb, show i = n by omega]; done))
set_option maxHeartbeats 4000000 in
theorem rwith_e (st n : Int) (s0 : 0 ≤ st) (s1 : st ≤ 1023) (n0 : 0 ≤ n) (n1 : n ≤ 9) {B : Lo} (hJ : ∀ w, B.has w → J0 w) : EndsT Tryz.prog B (entryC Tryz.prog 40 21 (([.int .i64 st, .int .i64 n]).map (pushT 0 4))) (.int .i64 (setW st n)) := by
  have hwe := with_eq s0 s1 n0 n1
  cases q0 : setB st n with
  | true =>
    exact (GoE.endsT okF hJ mixed_ok GoE.start (rwith_s2 B st n)
      ⟨⟨trivial, (by have t_ := rHas (st) (n) (by first | with_reducible assumption | omega | simp_all) (by first | with_reducible assumption | omega | simp_all) (by first | with_reducible assumption | omega | simp_all); rw [q0] at t_; exact t_)⟩, trivial⟩).cast (by first | rfl | (rw [hwe, if_pos (by assumption)]; done) | (simp_all; done))
  | false =>
    exact ((rwith_ls st n s0 s1 n0 n1 hJ _) (1) (0) rfl (by first | with_reducible assumption | omega | rfl | (simp_all; done)) (by first | with_reducible assumption | omega | rfl | (simp_all; done)) (by first | with_reducible assumption | omega | rfl | (simp_all; done)) (by first | with_reducible assumption | omega | rfl | (simp_all; done))
      (GoE.start.landM okF hJ mixed_ok (rwith_s3 B st n)
      ⟨⟨trivial, (by have t_ := rHas (st) (n) (by first | with_reducible assumption | omega | simp_all) (by first | with_reducible assumption | omega | simp_all) (by first | with_reducible assumption | omega | simp_all); rw [q0] at t_; exact t_)⟩, trivial⟩ (by kernel_rfl) (by kernel_rfl))).cast (by first | rfl | (rw [hwe, if_pos (by assumption)]; done) | (simp_all; done))
theorem rwith (st n : Int) (s0 : 0 ≤ st) (s1 : st ≤ 1023) (n0 : 0 ≤ n) (n1 : n ≤ 9) : PureC Tryz.prog J0 40 #[.int .i64 st, .int .i64 n] (.int .i64 (setW st n)) :=
  pureC_of (ts := [.int .i64 st, .int .i64 n]) J0_st (c0 := entryC Tryz.prog 40 21 (([.int .i64 st, .int .i64 n]).map (pushT 0 4))) (by kernel_rfl) (by kernel_rfl) fun B hJ => rwith_e st n s0 s1 n0 n1 hJ
def rsets_v0 (s : CSea) (l : List Int) (lo : Int) (i : Int) : List Value := [topV 1 (slT l.length (rowL encI l)), Value.int IntKind.i64 lo, pA 2 0, .int .i64 i]
def rsets_o0 (s : CSea) (l : List Int) (lo : Int) (i : Int) : List Obj := [Obj.cells #[Value.int IntKind.i64 s.cells, Value.int IntKind.i64 s.start, topV 1 (slT s.courses.length (rowL slI2 s.courses)), topV 1 (slT s.stars.length (rowL encI s.stars)), topV 1 (slT s.boats.length (rowL encI s.boats)), topV 1 (slT s.roads.length (rowL encI s.roads))] 25]
noncomputable def rsets_t0 : List Item := ([.code [1, 0, 1, 0, 0], .inLoop [1, 0, 1, 0, 0], .inBlock 0, .code [1, 1]]).map (it (bodyOf Tryz.prog 36))
def rsets_h0 (B : Lo) (c0 : CF) (s : CSea) (l : List Int) (lo : Int) (i : Int) : Prop := ∃ dJ : Nat → Value, (∀ t, Loose (dJ t)) ∧ GoE Tryz.prog B c0 H00 1 (headC 36 24 (([1, 2, 3, 7] : List Nat).zip (rsets_v0 s l lo i)) dJ rsets_t0) (headH (rsets_o0 s l lo i)) (2 + (rsets_o0 s l lo i).length) []
noncomputable def rsets_p0 (B : Lo) (s : CSea) (l : List Int) (lo : Int) (i : Int) (dJ0 : Nat → Value) : List Prop := [wq ((↑(pow2 s.cells) : Int) - 1) = (↑(pow2 s.cells) : Int) - 1, AllP [] ∧ PureC Tryz.prog J0 24 #[Value.agg #[Value.int IntKind.i64 s.cells, Value.int IntKind.i64 s.start, slT s.courses.length (rowL slI2 s.courses), slT s.stars.length (rowL encI s.stars), slT s.boats.length (rowL encI s.boats), slT s.roads.length (rowL encI s.roads)]] (Value.int IntKind.i64 (↑(pow2 s.cells) : Int)), i = (↑i.toNat : Int) ∧ Int.toNat i < List.length l ∧ Array.extract (rowL encI l) (Int.toNat i * TypeInfo.size Tryz.t3) (Int.toNat i * TypeInfo.size Tryz.t3 + TypeInfo.size Tryz.t3) = #[Value.int IntKind.i64 (List.getD l i.toNat default)], ltq i (↑l.length : Int) = true] ++ ([] : List Prop)
noncomputable def rsets_q0 (s : CSea) (l : List Int) (lo : Int) (i : Int) (dJ0 : Nat → Value) : ScriptT := [(3, hvT), (6, HintT.tidx i.toNat #[Value.int IntKind.i64 (List.getD l i.toNat default)]), (10, HintT.pure (Value.int IntKind.i64 (↑(pow2 s.cells) : Int)) []), (11, hvI ((↑(pow2 s.cells) : Int) - 1))]
set_option maxRecDepth 100000 in
theorem rsets_s0 (B : Lo) (s : CSea) (l : List Int) (lo : Int) (i : Int) (dJ0 : Nat → Value) : landM (srunT Tryz.prog (okFn Tryz.prog) J0 B 14 1 (headC 36 24 (([1, 2, 3, 7] : List Nat).zip (rsets_v0 s l lo i)) dJ0 rsets_t0) (headH (rsets_o0 s l lo i)) (2 + (rsets_o0 s l lo i).length)
    (rsets_q0 s l lo i dJ0 ++ [(12, HintT.pure (Value.bool true) []), (15, hvI (i + 1))]) 0 [] []) [1, 2, 3, 7] [(2, KS.auto)] [] = some ⟨36, 24, rsets_t0, [], .run, none, rsets_v0 s l lo (i + 1), rsets_o0 s l lo (i + 1),
    [wq (i + 1) = i + 1, AllP [] ∧ PureC Tryz.prog J0 35 #[Value.int IntKind.i64 (List.getD l i.toNat default), Value.int IntKind.i64 lo, Value.int IntKind.i64 ((↑(pow2 s.cells) : Int) - 1)] (Value.bool true)] ++ rsets_p0 B s l lo i dJ0⟩ := by kernel_rfl
set_option maxRecDepth 100000 in
theorem rsets_s1 (B : Lo) (s : CSea) (l : List Int) (lo : Int) (i : Int) (dJ0 : Nat → Value) : endT (srunT Tryz.prog (okFn Tryz.prog) J0 B 14 1 (headC 36 24 (([1, 2, 3, 7] : List Nat).zip (rsets_v0 s l lo i)) dJ0 rsets_t0) (headH (rsets_o0 s l lo i)) (2 + (rsets_o0 s l lo i).length)
    (rsets_q0 s l lo i dJ0 ++ [(12, HintT.pure (Value.bool false) [])]) 0 [] []) [] = some (Value.bool false,
    [AllP [] ∧ PureC Tryz.prog J0 35 #[Value.int IntKind.i64 (List.getD l i.toNat default), Value.int IntKind.i64 lo, Value.int IntKind.i64 ((↑(pow2 s.cells) : Int) - 1)] (Value.bool false)] ++ rsets_p0 B s l lo i dJ0) := by kernel_rfl
set_option maxRecDepth 100000 in
theorem rsets_s2 (B : Lo) (s : CSea) (l : List Int) (lo : Int) (i : Int) (dJ0 : Nat → Value) : endT (srunT Tryz.prog (okFn Tryz.prog) J0 B 9 1 (headC 36 24 (([1, 2, 3, 7] : List Nat).zip (rsets_v0 s l lo i)) dJ0 rsets_t0) (headH (rsets_o0 s l lo i)) (2 + (rsets_o0 s l lo i).length)
    [(3, hvF)] 0 [] []) [] = some (Value.bool true,
    [ltq i (↑l.length : Int) = false]) := by kernel_rfl
set_option maxRecDepth 100000 in
theorem rsets_s3 (B : Lo) (s : CSea) (l : List Int) (lo : Int) : landM (srunT Tryz.prog (okFn Tryz.prog) J0 B 7 1 (entryC Tryz.prog 36 24 (([.agg (encSea s).toArray, slI l, .int .i64 lo]).map (pushT 0 4))) H00 1
    [] 0 [] []) [1, 2, 3, 7] [(1, KS.auto)] [] = some ⟨36, 24, rsets_t0, [], .run, none, rsets_v0 s l lo (0), rsets_o0 s l lo (0),
    []⟩ := by kernel_rfl
set_option maxHeartbeats 4000000 in
theorem rsets_ls (s : CSea) (l : List Int) (lo : Int) (h0 : 0 ≤ s.cells) (h1 : s.cells ≤ 10) (hfacts : l.length ≤ 9223372036854775807) {B : Lo} (hJ : ∀ w, B.has w → J0 w) {c0 : CF} : ∀ m : Nat, (∀ (i : Int), l.length - i.toNat = m → ∀ (i0 : 0 ≤ i), rsets_h0 B c0 s l lo i → EndsT Tryz.prog B c0 (.bool ((l.drop i.toNat).all fun x => inB x lo (topI s.cells)))) := by
  intro m0
  induction m0 using Nat.strongRecOn with
  | _ m0 ih0 =>
    intro i hm0 i0 ⟨dJ0, hdJ0, hg0⟩
    have hp := pow2_le9 h1
    by_cases q0 : (i : Int) < ((↑l.length : Int))
    ·
      have hp0 : AllP (rsets_p0 B s l lo i dJ0) := by
        try have s2 := drop_all2 (p := fun x => inB x lo (topI s.cells)) i0 q0
        try have s2 := drop_nil2 (l := l) (p := fun x => inB x lo (topI s.cells)) (i := i) (by omega)
        exact ⟨(wq_in (by omega) (by omega)), ⟨⟨trivial, rSets (s) (by first | with_reducible assumption | omega | simp_all) (by first | with_reducible assumption | omega | simp_all)⟩, ⟨⟨by omega, by omega, (rowL_extract (z := 1) (fun _ => rfl) (by first | omega | (rw [List.length_set]; omega) | (rw [List.length_replicate]; omega)))⟩, ⟨(ltq_t q0), trivial⟩⟩⟩⟩
      cases q1 : inB (List.getD l i.toNat default) lo ((↑(pow2 s.cells) : Int) - 1) with
      | true =>
        try have s2 := drop_all2 (p := fun x => inB x lo (topI s.cells)) i0 q0
        try have s2 := drop_nil2 (l := l) (p := fun x => inB x lo (topI s.cells)) (i := i) (by omega)
        exact ((ih0 _ (by omega)) (i + 1) rfl (by first | with_reducible assumption | omega | (simp_all; done))
          (hg0.landM okF hJ mixed_ok (rsets_s0 B s l lo i dJ0)
          ⟨(wq_in (by omega) (by omega)), ⟨⟨trivial, (by have t_ := rin (List.getD l i.toNat default) (lo) ((↑(pow2 s.cells) : Int) - 1); rw [q1] at t_; exact t_)⟩, hp0⟩⟩ (by kernel_rfl) (by kernel_rfl))).cast (by first | rfl | (rw [s2]; simp [topI, *]; done) | (rw [s2]; simp_all [topI]; done) | (rw [s2]; done))
      | false =>
        try have s2 := drop_all2 (p := fun x => inB x lo (topI s.cells)) i0 q0
        try have s2 := drop_nil2 (l := l) (p := fun x => inB x lo (topI s.cells)) (i := i) (by omega)
        exact (GoE.endsT okF hJ mixed_ok hg0 (rsets_s1 B s l lo i dJ0)
          ⟨⟨trivial, (by have t_ := rin (List.getD l i.toNat default) (lo) ((↑(pow2 s.cells) : Int) - 1); rw [q1] at t_; exact t_)⟩, hp0⟩).cast (by first | rfl | (rw [s2]; simp [topI, *]; done) | (rw [s2]; simp_all [topI]; done) | (rw [s2]; done))
    ·
      try have s2 := drop_all2 (p := fun x => inB x lo (topI s.cells)) i0 q0
      try have s2 := drop_nil2 (l := l) (p := fun x => inB x lo (topI s.cells)) (i := i) (by omega)
      exact (GoE.endsT okF hJ mixed_ok hg0 (rsets_s2 B s l lo i dJ0)
        ⟨(ltq_f (Int.not_lt.1 q0)), trivial⟩).cast (by first | rfl | (rw [s2]; simp [topI, *]; done) | (rw [s2]; simp_all [topI]; done) | (rw [s2]; done))
set_option maxHeartbeats 4000000 in
theorem rsets_e (s : CSea) (l : List Int) (lo : Int) (h0 : 0 ≤ s.cells) (h1 : s.cells ≤ 10) (hfacts : l.length ≤ 9223372036854775807) {B : Lo} (hJ : ∀ w, B.has w → J0 w) : EndsT Tryz.prog B (entryC Tryz.prog 36 24 (([.agg (encSea s).toArray, slI l, .int .i64 lo]).map (pushT 0 4))) (.bool (setsB l lo s.cells)) := by
  exact ((rsets_ls s l lo h0 h1 hfacts hJ _) (0) rfl (by first | with_reducible assumption | omega | (simp_all; done))
    (GoE.start.landM okF hJ mixed_ok (rsets_s3 B s l lo)
    trivial (by kernel_rfl) (by kernel_rfl))).cast (by first | rfl | (simp [*]; done) | (simp_all []; done) | (simp_all []; omega))
theorem rsets (s : CSea) (l : List Int) (lo : Int) (h0 : 0 ≤ s.cells) (h1 : s.cells ≤ 10) : PureC Tryz.prog J0 36 #[.agg (encSea s).toArray, slI l, .int .i64 lo] (.bool (setsB l lo s.cells)) :=
  pureC_ofF (ts := [.agg (encSea s).toArray, slI l, .int .i64 lo]) (l.length ≤ 9223372036854775807) (fun _ _ ht => ht.ln (i := 1) rfl) J0_st (c0 := entryC Tryz.prog 36 24 (([.agg (encSea s).toArray, slI l, .int .i64 lo]).map (pushT 0 4))) (by kernel_rfl) (by kernel_rfl) fun hfacts B hJ => rsets_e s l lo h0 h1 hfacts hJ
noncomputable def rCell_p0 (B : Lo) (s : CSea) (n : Int) : List Prop := [wq (s.cells - 1) = s.cells - 1] ++ ([] : List Prop)
noncomputable def rCell_q0 (s : CSea) (n : Int) : ScriptT := [(5, hvI (s.cells - 1))]
set_option maxRecDepth 100000 in
theorem rCell_s0 (B : Lo) (s : CSea) (n : Int) : endT (srunT Tryz.prog (okFn Tryz.prog) J0 B 6 1 (entryC Tryz.prog 23 10 (([.agg (encSea s).toArray, .int .i64 n]).map (pushT 0 4))) H00 1
    (rCell_q0 s n ++ [(6, HintT.pure (Value.bool true) [])]) 0 [] []) [] = some (Value.bool true,
    [AllP [] ∧ PureC Tryz.prog J0 35 #[Value.int IntKind.i64 n, Value.int IntKind.i64 0, Value.int IntKind.i64 (s.cells - 1)] (Value.bool true)] ++ rCell_p0 B s n) := by kernel_rfl
set_option maxRecDepth 100000 in
theorem rCell_s1 (B : Lo) (s : CSea) (n : Int) : endT (srunT Tryz.prog (okFn Tryz.prog) J0 B 6 1 (entryC Tryz.prog 23 10 (([.agg (encSea s).toArray, .int .i64 n]).map (pushT 0 4))) H00 1
    (rCell_q0 s n ++ [(6, HintT.pure (Value.bool false) [])]) 0 [] []) [] = some (Value.bool false,
    [AllP [] ∧ PureC Tryz.prog J0 35 #[Value.int IntKind.i64 n, Value.int IntKind.i64 0, Value.int IntKind.i64 (s.cells - 1)] (Value.bool false)] ++ rCell_p0 B s n) := by kernel_rfl
set_option maxHeartbeats 4000000 in
theorem rCell_e (s : CSea) (n : Int) (h0 : 0 ≤ s.cells) (h1 : s.cells ≤ 10) {B : Lo} (hJ : ∀ w, B.has w → J0 w) : EndsT Tryz.prog B (entryC Tryz.prog 23 10 (([.agg (encSea s).toArray, .int .i64 n]).map (pushT 0 4))) (.bool (inB n 0 (s.cells - 1))) := by
  have hp0 : AllP (rCell_p0 B s n) := by
    exact ⟨(wq_in (by omega) (by omega)), trivial⟩
  cases q0 : inB n 0 (s.cells - 1) with
  | true =>
    exact (GoE.endsT okF hJ mixed_ok GoE.start (rCell_s0 B s n)
      ⟨⟨trivial, (by have t_ := rin (n) (0) (s.cells - 1); rw [q0] at t_; exact t_)⟩, hp0⟩).cast (by first | rfl | (simp [*]; done) | (simp_all []; done) | (simp_all []; omega))
  | false =>
    exact (GoE.endsT okF hJ mixed_ok GoE.start (rCell_s1 B s n)
      ⟨⟨trivial, (by have t_ := rin (n) (0) (s.cells - 1); rw [q0] at t_; exact t_)⟩, hp0⟩).cast (by first | rfl | (simp [*]; done) | (simp_all []; done) | (simp_all []; omega))
theorem rCell (s : CSea) (n : Int) (h0 : 0 ≤ s.cells) (h1 : s.cells ≤ 10) : PureC Tryz.prog J0 23 #[.agg (encSea s).toArray, .int .i64 n] (.bool (inB n 0 (s.cells - 1))) :=
  pureC_of (ts := [.agg (encSea s).toArray, .int .i64 n]) J0_st (c0 := entryC Tryz.prog 23 10 (([.agg (encSea s).toArray, .int .i64 n]).map (pushT 0 4))) (by kernel_rfl) (by kernel_rfl) fun B hJ => rCell_e s n h0 h1 hJ
noncomputable def rCourse_p0 (B : Lo) (s : CSea) (n : Int) : List Prop := [wq ((↑s.courses.length : Int) - 1) = (↑s.courses.length : Int) - 1] ++ ([] : List Prop)
noncomputable def rCourse_q0 (s : CSea) (n : Int) : ScriptT := [(6, hvI ((↑s.courses.length : Int) - 1))]
set_option maxRecDepth 100000 in
theorem rCourse_s0 (B : Lo) (s : CSea) (n : Int) : endT (srunT Tryz.prog (okFn Tryz.prog) J0 B 6 1 (entryC Tryz.prog 45 11 (([.agg (encSea s).toArray, .int .i64 n]).map (pushT 0 4))) H00 1
    (rCourse_q0 s n ++ [(7, HintT.pure (Value.bool true) [])]) 0 [] []) [] = some (Value.bool true,
    [AllP [] ∧ PureC Tryz.prog J0 35 #[Value.int IntKind.i64 n, Value.int IntKind.i64 0, Value.int IntKind.i64 ((↑s.courses.length : Int) - 1)] (Value.bool true)] ++ rCourse_p0 B s n) := by kernel_rfl
set_option maxRecDepth 100000 in
theorem rCourse_s1 (B : Lo) (s : CSea) (n : Int) : endT (srunT Tryz.prog (okFn Tryz.prog) J0 B 6 1 (entryC Tryz.prog 45 11 (([.agg (encSea s).toArray, .int .i64 n]).map (pushT 0 4))) H00 1
    (rCourse_q0 s n ++ [(7, HintT.pure (Value.bool false) [])]) 0 [] []) [] = some (Value.bool false,
    [AllP [] ∧ PureC Tryz.prog J0 35 #[Value.int IntKind.i64 n, Value.int IntKind.i64 0, Value.int IntKind.i64 ((↑s.courses.length : Int) - 1)] (Value.bool false)] ++ rCourse_p0 B s n) := by kernel_rfl
set_option maxHeartbeats 4000000 in
theorem rCourse_e (s : CSea) (n : Int)  (hfacts : s.courses.length ≤ 9223372036854775807) {B : Lo} (hJ : ∀ w, B.has w → J0 w) : EndsT Tryz.prog B (entryC Tryz.prog 45 11 (([.agg (encSea s).toArray, .int .i64 n]).map (pushT 0 4))) (.bool (inB n 0 (s.courses.length - 1))) := by
  have hp0 : AllP (rCourse_p0 B s n) := by
    exact ⟨(wq_in (by omega) (by omega)), trivial⟩
  cases q0 : inB n 0 ((↑s.courses.length : Int) - 1) with
  | true =>
    exact (GoE.endsT okF hJ mixed_ok GoE.start (rCourse_s0 B s n)
      ⟨⟨trivial, (by have t_ := rin (n) (0) ((↑s.courses.length : Int) - 1); rw [q0] at t_; exact t_)⟩, hp0⟩).cast (by first | rfl | (simp [*]; done) | (simp_all []; done) | (simp_all []; omega))
  | false =>
    exact (GoE.endsT okF hJ mixed_ok GoE.start (rCourse_s1 B s n)
      ⟨⟨trivial, (by have t_ := rin (n) (0) ((↑s.courses.length : Int) - 1); rw [q0] at t_; exact t_)⟩, hp0⟩).cast (by first | rfl | (simp [*]; done) | (simp_all []; done) | (simp_all []; omega))
theorem rCourse (s : CSea) (n : Int)  : PureC Tryz.prog J0 45 #[.agg (encSea s).toArray, .int .i64 n] (.bool (inB n 0 (s.courses.length - 1))) :=
  pureC_ofF (ts := [.agg (encSea s).toArray, .int .i64 n]) (s.courses.length ≤ 9223372036854775807) (fun _ _ ht => ht.ln2 (i := 0) (j := 2) rfl rfl) J0_st (c0 := entryC Tryz.prog 45 11 (([.agg (encSea s).toArray, .int .i64 n]).map (pushT 0 4))) (by kernel_rfl) (by kernel_rfl) fun hfacts B hJ => rCourse_e s n  hfacts hJ
def rSea_v0 (s : CSea) (i : Int) : List Value := [pA 2 0, .int .i64 i]
def rSea_o0 (s : CSea) (i : Int) : List Obj := [Obj.cells #[Value.int IntKind.i64 s.cells, Value.int IntKind.i64 s.start, topV 1 (slT s.courses.length (rowL slI2 s.courses)), topV 1 (slT s.stars.length (rowL encI s.stars)), topV 1 (slT s.boats.length (rowL encI s.boats)), topV 1 (slT s.roads.length (rowL encI s.roads))] 25]
noncomputable def rSea_t0 : List Item := ([.code [1, 1, 0, 1, 0, 0], .inLoop [1, 1, 0, 1, 0, 0], .inBlock 0, .code [1, 1, 1]]).map (it (bodyOf Tryz.prog 13))
def rSea_h0 (B : Lo) (c0 : CF) (s : CSea) (i : Int) : Prop := ∃ dJ : Nat → Value, (∀ t, Loose (dJ t)) ∧ GoE Tryz.prog B c0 H00 1 (headC 13 100 (([1, 3] : List Nat).zip (rSea_v0 s i)) dJ rSea_t0) (headH (rSea_o0 s i)) (2 + (rSea_o0 s i).length) []
def rSea_v1 (s : CSea) (i : Int) : List Value := [pA 2 0, .int .i64 i]
def rSea_o1 (s : CSea) (i : Int) : List Obj := [Obj.cells #[Value.int IntKind.i64 s.cells, Value.int IntKind.i64 s.start, topV 1 (slT s.courses.length (rowL slI2 s.courses)), topV 1 (slT s.stars.length (rowL encI s.stars)), topV 1 (slT s.boats.length (rowL encI s.boats)), topV 1 (slT s.roads.length (rowL encI s.roads))] 25]
noncomputable def rSea_t1 : List Item := ([.code [1, 1, 1, 0, 1, 0, 0], .inLoop [1, 1, 1, 0, 1, 0, 0], .inBlock 2, .code [1, 1, 1, 1]]).map (it (bodyOf Tryz.prog 13))
def rSea_h1 (B : Lo) (c0 : CF) (s : CSea) (i : Int) : Prop := ∃ dJ : Nat → Value, (∀ t, Loose (dJ t)) ∧ GoE Tryz.prog B c0 H00 1 (headC 13 100 (([1, 4] : List Nat).zip (rSea_v1 s i)) dJ rSea_t1) (headH (rSea_o1 s i)) (2 + (rSea_o1 s i).length) []
noncomputable def rSea_z0 (s : CSea) : Array Value := #[Value.int IntKind.i64 s.cells, Value.int IntKind.i64 s.start, slT s.courses.length (rowL slI2 s.courses), slT s.stars.length (rowL encI s.stars), slT s.boats.length (rowL encI s.boats), slT s.roads.length (rowL encI s.roads)]
noncomputable def rSea_z1 (s : CSea) (i : Int) : Array Value := #[slT (List.length (List.getD s.courses i.toNat default)) (rowL encI (List.getD s.courses i.toNat default))]
noncomputable def rSea_p0 (B : Lo) (s : CSea) (i : Int) (dJ0 : Nat → Value) : List Prop := [i = (↑i.toNat : Int) ∧ Int.toNat i < List.length s.courses ∧ Array.extract (rowL slI2 s.courses) (Int.toNat i * TypeInfo.size Tryz.t23) (Int.toNat i * TypeInfo.size Tryz.t23 + TypeInfo.size Tryz.t23) = (rSea_z1 s i), ltq i (↑s.courses.length : Int) = true] ++ ([] : List Prop)
noncomputable def rSea_q0 (s : CSea) (i : Int) (dJ0 : Nat → Value) : ScriptT := [(4, hvT), (8, HintT.tidx i.toNat (rSea_z1 s i))]
set_option maxRecDepth 100000 in
theorem rSea_s0 (B : Lo) (s : CSea) (i : Int) (dJ0 : Nat → Value) : endT (srunT Tryz.prog (okFn Tryz.prog) J0 B 14 1 (headC 13 100 (([1, 3] : List Nat).zip (rSea_v0 s i)) dJ0 rSea_t0) (headH (rSea_o0 s i)) (2 + (rSea_o0 s i).length)
    (rSea_q0 s i dJ0 ++ [(13, hvT)]) 0 [] []) [] = some (Value.bool false,
    [(!eqq (↑(List.length (List.getD s.courses i.toNat default)) : Int) s.cells) = true] ++ rSea_p0 B s i dJ0) := by kernel_rfl
noncomputable def rSea_p1 (B : Lo) (s : CSea) (i : Int) (dJ0 : Nat → Value) : List Prop := [i = (↑i.toNat : Int) ∧ Int.toNat i < List.length s.courses ∧ Array.extract (rowL slI2 s.courses) (Int.toNat i * TypeInfo.size Tryz.t23) (Int.toNat i * TypeInfo.size Tryz.t23 + TypeInfo.size Tryz.t23) = (rSea_z1 s i), (!eqq (↑(List.length (List.getD s.courses i.toNat default)) : Int) s.cells) = false] ++ rSea_p0 B s i dJ0
noncomputable def rSea_q1 (s : CSea) (i : Int) (dJ0 : Nat → Value) : ScriptT := rSea_q0 s i dJ0 ++ [(13, hvF), (19, HintT.tidx i.toNat (rSea_z1 s i))]
set_option maxRecDepth 100000 in
theorem rSea_s1 (B : Lo) (s : CSea) (i : Int) (dJ0 : Nat → Value) : landM (srunT Tryz.prog (okFn Tryz.prog) J0 B 14 1 (headC 13 100 (([1, 3] : List Nat).zip (rSea_v0 s i)) dJ0 rSea_t0) (headH (rSea_o0 s i)) (2 + (rSea_o0 s i).length)
    (rSea_q1 s i dJ0 ++ [(21, HintT.pure (Value.bool true) []), (25, hvI (i + 1))]) 0 [] []) [1, 3] [(2, KS.auto)] [] = some ⟨13, 100, rSea_t0, [], .run, none, rSea_v0 s (i + 1), rSea_o0 s (i + 1),
    [wq (i + 1) = i + 1, AllP [] ∧ PureC Tryz.prog J0 36 #[Value.agg (rSea_z0 s), slT (List.length (List.getD s.courses i.toNat default)) (rowL encI (List.getD s.courses i.toNat default)), Value.int IntKind.i64 1] (Value.bool true)] ++ rSea_p1 B s i dJ0⟩ := by kernel_rfl
set_option maxRecDepth 100000 in
theorem rSea_s2 (B : Lo) (s : CSea) (i : Int) (dJ0 : Nat → Value) : endT (srunT Tryz.prog (okFn Tryz.prog) J0 B 14 1 (headC 13 100 (([1, 3] : List Nat).zip (rSea_v0 s i)) dJ0 rSea_t0) (headH (rSea_o0 s i)) (2 + (rSea_o0 s i).length)
    (rSea_q1 s i dJ0 ++ [(21, HintT.pure (Value.bool false) [])]) 0 [] []) [] = some (Value.bool false,
    [AllP [] ∧ PureC Tryz.prog J0 36 #[Value.agg (rSea_z0 s), slT (List.length (List.getD s.courses i.toNat default)) (rowL encI (List.getD s.courses i.toNat default)), Value.int IntKind.i64 1] (Value.bool false)] ++ rSea_p1 B s i dJ0) := by kernel_rfl
set_option maxRecDepth 100000 in
theorem rSea_s3 (B : Lo) (s : CSea) (i : Int) (dJ0 : Nat → Value) : landM (srunT Tryz.prog (okFn Tryz.prog) J0 B 10 1 (headC 13 100 (([1, 3] : List Nat).zip (rSea_v0 s i)) dJ0 rSea_t0) (headH (rSea_o0 s i)) (2 + (rSea_o0 s i).length)
    [(4, hvF)] 0 [] []) [1, 4] [(2, KS.auto)] [] = some ⟨13, 100, rSea_t1, [], .run, none, rSea_v1 s (0), rSea_o1 s (0),
    [ltq i (↑s.courses.length : Int) = false]⟩ := by kernel_rfl
noncomputable def rSea_p2 (B : Lo) (s : CSea) (i : Int) (dJ0 : Nat → Value) : List Prop := [i = (↑i.toNat : Int) ∧ Int.toNat i < List.length s.boats ∧ Array.extract (rowL encI s.boats) (Int.toNat i * TypeInfo.size Tryz.t3) (Int.toNat i * TypeInfo.size Tryz.t3 + TypeInfo.size Tryz.t3) = #[Value.int IntKind.i64 (List.getD s.boats i.toNat default)], ltq i (↑s.boats.length : Int) = true] ++ ([] : List Prop)
noncomputable def rSea_q2 (s : CSea) (i : Int) (dJ0 : Nat → Value) : ScriptT := [(4, hvT), (9, HintT.tidx i.toNat #[Value.int IntKind.i64 (List.getD s.boats i.toNat default)])]
set_option maxRecDepth 100000 in
theorem rSea_s4 (B : Lo) (s : CSea) (i : Int) (dJ0 : Nat → Value) : landM (srunT Tryz.prog (okFn Tryz.prog) J0 B 14 1 (headC 13 100 (([1, 4] : List Nat).zip (rSea_v1 s i)) dJ0 rSea_t1) (headH (rSea_o1 s i)) (2 + (rSea_o1 s i).length)
    (rSea_q2 s i dJ0 ++ [(11, HintT.pure (Value.bool true) []), (14, hvI (i + 1))]) 0 [] []) [1, 4] [(2, KS.auto)] [] = some ⟨13, 100, rSea_t1, [], .run, none, rSea_v1 s (i + 1), rSea_o1 s (i + 1),
    [wq (i + 1) = i + 1, AllP [] ∧ PureC Tryz.prog J0 23 #[Value.agg (rSea_z0 s), Value.int IntKind.i64 (List.getD s.boats i.toNat default)] (Value.bool true)] ++ rSea_p2 B s i dJ0⟩ := by kernel_rfl
set_option maxRecDepth 100000 in
theorem rSea_s5 (B : Lo) (s : CSea) (i : Int) (dJ0 : Nat → Value) : endT (srunT Tryz.prog (okFn Tryz.prog) J0 B 14 1 (headC 13 100 (([1, 4] : List Nat).zip (rSea_v1 s i)) dJ0 rSea_t1) (headH (rSea_o1 s i)) (2 + (rSea_o1 s i).length)
    (rSea_q2 s i dJ0 ++ [(11, HintT.pure (Value.bool false) [])]) 0 [] []) [] = some (Value.bool false,
    [AllP [] ∧ PureC Tryz.prog J0 23 #[Value.agg (rSea_z0 s), Value.int IntKind.i64 (List.getD s.boats i.toNat default)] (Value.bool false)] ++ rSea_p2 B s i dJ0) := by kernel_rfl
set_option maxRecDepth 100000 in
theorem rSea_s6 (B : Lo) (s : CSea) (i : Int) (dJ0 : Nat → Value) : endT (srunT Tryz.prog (okFn Tryz.prog) J0 B 9 1 (headC 13 100 (([1, 4] : List Nat).zip (rSea_v1 s i)) dJ0 rSea_t1) (headH (rSea_o1 s i)) (2 + (rSea_o1 s i).length)
    [(4, hvF)] 0 [] []) [] = some (Value.bool true,
    [ltq i (↑s.boats.length : Int) = false]) := by kernel_rfl
noncomputable def rSea_p3 (B : Lo) (s : CSea) : List Prop := [wq ((↑(pow2 s.cells) : Int) - 1) = (↑(pow2 s.cells) : Int) - 1, AllP [] ∧ PureC Tryz.prog J0 24 #[Value.agg (rSea_z0 s)] (Value.int IntKind.i64 (↑(pow2 s.cells) : Int)), AllP [] ∧ PureC Tryz.prog J0 35 #[Value.int IntKind.i64 s.cells, Value.int IntKind.i64 1, Value.int IntKind.i64 10] (Value.bool true)] ++ ([] : List Prop)
noncomputable def rSea_q3 (s : CSea) : ScriptT := [(4, HintT.pure (Value.bool true) []), (10, HintT.pure (Value.int IntKind.i64 (↑(pow2 s.cells) : Int)) []), (11, hvI ((↑(pow2 s.cells) : Int) - 1))]
noncomputable def rSea_p4 (B : Lo) (s : CSea) : List Prop := [AllP [] ∧ PureC Tryz.prog J0 35 #[Value.int IntKind.i64 s.start, Value.int IntKind.i64 1, Value.int IntKind.i64 ((↑(pow2 s.cells) : Int) - 1)] (Value.bool true)] ++ rSea_p3 B s
noncomputable def rSea_q4 (s : CSea) : ScriptT := rSea_q3 s ++ [(12, HintT.pure (Value.bool true) [])]
noncomputable def rSea_p5 (B : Lo) (s : CSea) : List Prop := [AllP [] ∧ PureC Tryz.prog J0 35 #[Value.int IntKind.i64 (↑s.courses.length : Int), Value.int IntKind.i64 1, Value.int IntKind.i64 4] (Value.bool true)] ++ rSea_p4 B s
noncomputable def rSea_q5 (s : CSea) : ScriptT := rSea_q4 s ++ [(19, HintT.pure (Value.bool true) [])]
set_option maxRecDepth 100000 in
theorem rSea_s7 (B : Lo) (s : CSea) : endT (srunT Tryz.prog (okFn Tryz.prog) J0 B 10 1 (entryC Tryz.prog 13 100 (([.agg (encSea s).toArray]).map (pushT 0 4))) H00 1
    (rSea_q5 s ++ [(26, hvT)]) 0 [] []) [] = some (Value.bool false,
    [ltq 6 (↑s.stars.length : Int) = true] ++ rSea_p5 B s) := by kernel_rfl
noncomputable def rSea_p6 (B : Lo) (s : CSea) : List Prop := [ltq 6 (↑s.stars.length : Int) = false] ++ rSea_p5 B s
noncomputable def rSea_q6 (s : CSea) : ScriptT := rSea_q5 s ++ [(26, hvF)]
set_option maxRecDepth 100000 in
theorem rSea_s8 (B : Lo) (s : CSea) : endT (srunT Tryz.prog (okFn Tryz.prog) J0 B 10 1 (entryC Tryz.prog 13 100 (([.agg (encSea s).toArray]).map (pushT 0 4))) H00 1
    (rSea_q6 s ++ [(32, hvT)]) 0 [] []) [] = some (Value.bool false,
    [ltq 2 (↑s.boats.length : Int) = true] ++ rSea_p6 B s) := by kernel_rfl
noncomputable def rSea_p7 (B : Lo) (s : CSea) : List Prop := [ltq 2 (↑s.boats.length : Int) = false] ++ rSea_p6 B s
noncomputable def rSea_q7 (s : CSea) : ScriptT := rSea_q6 s ++ [(32, hvF)]
set_option maxRecDepth 100000 in
theorem rSea_s9 (B : Lo) (s : CSea) : endT (srunT Tryz.prog (okFn Tryz.prog) J0 B 10 1 (entryC Tryz.prog 13 100 (([.agg (encSea s).toArray]).map (pushT 0 4))) H00 1
    (rSea_q7 s ++ [(40, hvT)]) 0 [] []) [] = some (Value.bool false,
    [(!eqq (↑s.roads.length : Int) s.cells) = true] ++ rSea_p7 B s) := by kernel_rfl
noncomputable def rSea_p8 (B : Lo) (s : CSea) : List Prop := [(!eqq (↑s.roads.length : Int) s.cells) = false] ++ rSea_p7 B s
noncomputable def rSea_q8 (s : CSea) : ScriptT := rSea_q7 s ++ [(40, hvF)]
noncomputable def rSea_p9 (B : Lo) (s : CSea) : List Prop := [AllP [] ∧ PureC Tryz.prog J0 36 #[Value.agg (rSea_z0 s), slT s.stars.length (rowL encI s.stars), Value.int IntKind.i64 1] (Value.bool true)] ++ rSea_p8 B s
noncomputable def rSea_q9 (s : CSea) : ScriptT := rSea_q8 s ++ [(46, HintT.pure (Value.bool true) [])]
set_option maxRecDepth 100000 in
theorem rSea_s10 (B : Lo) (s : CSea) : landM (srunT Tryz.prog (okFn Tryz.prog) J0 B 12 1 (entryC Tryz.prog 13 100 (([.agg (encSea s).toArray]).map (pushT 0 4))) H00 1
    (rSea_q9 s ++ [(53, HintT.pure (Value.bool true) [])]) 0 [] []) [1, 3] [(1, KS.auto)] [] = some ⟨13, 100, rSea_t0, [], .run, none, rSea_v0 s (0), rSea_o0 s (0),
    [AllP [] ∧ PureC Tryz.prog J0 36 #[Value.agg (rSea_z0 s), slT s.roads.length (rowL encI s.roads), Value.int IntKind.i64 0] (Value.bool true)] ++ rSea_p9 B s⟩ := by kernel_rfl
set_option maxRecDepth 100000 in
theorem rSea_s11 (B : Lo) (s : CSea) : endT (srunT Tryz.prog (okFn Tryz.prog) J0 B 10 1 (entryC Tryz.prog 13 100 (([.agg (encSea s).toArray]).map (pushT 0 4))) H00 1
    (rSea_q9 s ++ [(53, HintT.pure (Value.bool false) [])]) 0 [] []) [] = some (Value.bool false,
    [AllP [] ∧ PureC Tryz.prog J0 36 #[Value.agg (rSea_z0 s), slT s.roads.length (rowL encI s.roads), Value.int IntKind.i64 0] (Value.bool false)] ++ rSea_p9 B s) := by kernel_rfl
set_option maxRecDepth 100000 in
theorem rSea_s12 (B : Lo) (s : CSea) : endT (srunT Tryz.prog (okFn Tryz.prog) J0 B 10 1 (entryC Tryz.prog 13 100 (([.agg (encSea s).toArray]).map (pushT 0 4))) H00 1
    (rSea_q8 s ++ [(46, HintT.pure (Value.bool false) [])]) 0 [] []) [] = some (Value.bool false,
    [AllP [] ∧ PureC Tryz.prog J0 36 #[Value.agg (rSea_z0 s), slT s.stars.length (rowL encI s.stars), Value.int IntKind.i64 1] (Value.bool false)] ++ rSea_p8 B s) := by kernel_rfl
set_option maxRecDepth 100000 in
theorem rSea_s13 (B : Lo) (s : CSea) : endT (srunT Tryz.prog (okFn Tryz.prog) J0 B 10 1 (entryC Tryz.prog 13 100 (([.agg (encSea s).toArray]).map (pushT 0 4))) H00 1
    (rSea_q4 s ++ [(19, HintT.pure (Value.bool false) [])]) 0 [] []) [] = some (Value.bool false,
    [AllP [] ∧ PureC Tryz.prog J0 35 #[Value.int IntKind.i64 (↑s.courses.length : Int), Value.int IntKind.i64 1, Value.int IntKind.i64 4] (Value.bool false)] ++ rSea_p4 B s) := by kernel_rfl
set_option maxRecDepth 100000 in
theorem rSea_s14 (B : Lo) (s : CSea) : endT (srunT Tryz.prog (okFn Tryz.prog) J0 B 10 1 (entryC Tryz.prog 13 100 (([.agg (encSea s).toArray]).map (pushT 0 4))) H00 1
    (rSea_q3 s ++ [(12, HintT.pure (Value.bool false) [])]) 0 [] []) [] = some (Value.bool false,
    [AllP [] ∧ PureC Tryz.prog J0 35 #[Value.int IntKind.i64 s.start, Value.int IntKind.i64 1, Value.int IntKind.i64 ((↑(pow2 s.cells) : Int) - 1)] (Value.bool false)] ++ rSea_p3 B s) := by kernel_rfl
set_option maxRecDepth 100000 in
theorem rSea_s15 (B : Lo) (s : CSea) : endT (srunT Tryz.prog (okFn Tryz.prog) J0 B 10 1 (entryC Tryz.prog 13 100 (([.agg (encSea s).toArray]).map (pushT 0 4))) H00 1
    [(4, HintT.pure (Value.bool false) [])] 0 [] []) [] = some (Value.bool false,
    [AllP [] ∧ PureC Tryz.prog J0 35 #[Value.int IntKind.i64 s.cells, Value.int IntKind.i64 1, Value.int IntKind.i64 10] (Value.bool false)]) := by kernel_rfl
set_option maxHeartbeats 4000000 in
theorem rSea_ls (s : CSea)  (hfacts : s.courses.length ≤ 9223372036854775807 ∧ s.stars.length ≤ 9223372036854775807 ∧ s.boats.length ≤ 9223372036854775807) {B : Lo} (hJ : ∀ w, B.has w → J0 w) {c0 : CF} : ∀ m : Nat, (∀ (i : Int), s.courses.length - i.toNat + s.boats.length + 1 = m → ∀ (i0 : 0 ≤ i) (h0 : 0 ≤ s.cells) (h1 : s.cells ≤ 10), rSea_h0 B c0 s i → EndsT Tryz.prog B c0 (.bool ((s.courses.drop i.toNat).all (courseB s.cells) && cellsB s s.boats))) ∧ (∀ (i : Int), s.boats.length - i.toNat = m → ∀ (i0 : 0 ≤ i) (h0 : 0 ≤ s.cells) (h1 : s.cells ≤ 10), rSea_h1 B c0 s i → EndsT Tryz.prog B c0 (.bool ((s.boats.drop i.toNat).all fun x => inB x 0 (s.cells - 1)))) := by
  intro m0
  induction m0 using Nat.strongRecOn with
  | _ m0 ih0 =>
    refine ⟨?_, ?_⟩
    · intro i hm0 i0 h0 h1 ⟨dJ0, hdJ0, hg0⟩
      have hfa := hfacts.1
      by_cases q0 : (i : Int) < ((↑s.courses.length : Int))
      ·
        have hp0 : AllP (rSea_p0 B s i dJ0) := by
          try have hcs := inB_iff.1 q0
          try have hp := pow2_le9 hcs.2
          try have s2 := drop_all2 (p := courseB s.cells) i0 q0
          try have s2 := drop_nil2 (l := s.courses) (p := courseB s.cells) (i := i) (by omega)
          exact ⟨⟨by omega, by omega, (rowL_extract (z := 1) (fun _ => rfl) (by first | omega | (rw [List.length_set]; omega) | (rw [List.length_replicate]; omega)))⟩, ⟨(ltq_t q0), trivial⟩⟩
        by_cases q1 : ((↑(List.length (List.getD s.courses i.toNat default)) : Int) : Int) ≠ s.cells
        ·
          try have hcs := inB_iff.1 q0
          try have hp := pow2_le9 hcs.2
          try have s2 := drop_all2 (p := courseB s.cells) i0 q0
          try have s2 := drop_nil2 (l := s.courses) (p := courseB s.cells) (i := i) (by omega)
          exact (GoE.endsT okF hJ mixed_ok hg0 (rSea_s0 B s i dJ0)
            ⟨(neqq_t q1), hp0⟩).cast (by first | rfl | (rw [s2]; rfl) | (rw [s2]; simp [courseB, *]; done) | (rw [s2]; simp_all [courseB]; done) | (rw [s2]; done))
        ·
          have hp1 : AllP (rSea_p1 B s i dJ0) := by
            try have hcs := inB_iff.1 q0
            try have hp := pow2_le9 hcs.2
            try have s2 := drop_all2 (p := courseB s.cells) i0 q0
            try have s2 := drop_nil2 (l := s.courses) (p := courseB s.cells) (i := i) (by omega)
            exact ⟨⟨by omega, by omega, (rowL_extract (z := 1) (fun _ => rfl) (by first | omega | (rw [List.length_set]; omega) | (rw [List.length_replicate]; omega)))⟩, ⟨(neqq_f (Decidable.of_not_not q1)), hp0⟩⟩
          cases q2 : setsB (List.getD s.courses i.toNat default) 1 s.cells with
          | true =>
            try have hcs := inB_iff.1 q0
            try have hp := pow2_le9 hcs.2
            try have s2 := drop_all2 (p := courseB s.cells) i0 q0
            try have s2 := drop_nil2 (l := s.courses) (p := courseB s.cells) (i := i) (by omega)
            exact ((ih0 _ (by omega)).1 (i + 1) rfl (by first | with_reducible assumption | omega | (simp_all; done)) (by first | with_reducible assumption | omega | (simp_all; done)) (by first | with_reducible assumption | omega | (simp_all; done))
              (hg0.landM okF hJ mixed_ok (rSea_s1 B s i dJ0)
              ⟨(wq_in (by omega) (by omega)), ⟨⟨trivial, (by have t_ := rsets (s) (List.getD s.courses i.toNat default) (1) (by first | with_reducible assumption | omega | simp_all) (by first | with_reducible assumption | omega | simp_all); rw [q2] at t_; exact t_)⟩, hp1⟩⟩ (by kernel_rfl) (by kernel_rfl))).cast (by first | rfl | (rw [s2]; rfl) | (rw [s2]; simp [courseB, *]; done) | (rw [s2]; simp_all [courseB]; done) | (rw [s2]; done))
          | false =>
            try have hcs := inB_iff.1 q0
            try have hp := pow2_le9 hcs.2
            try have s2 := drop_all2 (p := courseB s.cells) i0 q0
            try have s2 := drop_nil2 (l := s.courses) (p := courseB s.cells) (i := i) (by omega)
            exact (GoE.endsT okF hJ mixed_ok hg0 (rSea_s2 B s i dJ0)
              ⟨⟨trivial, (by have t_ := rsets (s) (List.getD s.courses i.toNat default) (1) (by first | with_reducible assumption | omega | simp_all) (by first | with_reducible assumption | omega | simp_all); rw [q2] at t_; exact t_)⟩, hp1⟩).cast (by first | rfl | (rw [s2]; rfl) | (rw [s2]; simp [courseB, *]; done) | (rw [s2]; simp_all [courseB]; done) | (rw [s2]; done))
      ·
        try have hcs := inB_iff.1 q0
        try have hp := pow2_le9 hcs.2
        try have s2 := drop_all2 (p := courseB s.cells) i0 q0
        try have s2 := drop_nil2 (l := s.courses) (p := courseB s.cells) (i := i) (by omega)
        exact ((ih0 _ (by omega)).2 (0) rfl (by first | with_reducible assumption | omega | (simp_all; done)) (by first | with_reducible assumption | omega | (simp_all; done)) (by first | with_reducible assumption | omega | (simp_all; done))
          (hg0.landM okF hJ mixed_ok (rSea_s3 B s i dJ0)
          ⟨(ltq_f (Int.not_lt.1 q0)), trivial⟩ (by kernel_rfl) (by kernel_rfl))).cast (by first | rfl | (rw [s2]; rfl) | (rw [s2]; simp [courseB, *]; done) | (rw [s2]; simp_all [courseB]; done) | (rw [s2]; done))
    · intro i hm0 i0 h0 h1 ⟨dJ0, hdJ0, hg0⟩
      have hfa := hfacts.2.2
      by_cases q0 : (i : Int) < ((↑s.boats.length : Int))
      ·
        have hp2 : AllP (rSea_p2 B s i dJ0) := by
          try have hcs := inB_iff.1 q0
          try have hp := pow2_le9 hcs.2
          try have s2 := drop_all2 (p := fun x => inB x 0 (s.cells - 1)) i0 q0
          try have s2 := drop_nil2 (l := s.boats) (p := fun x => inB x 0 (s.cells - 1)) (i := i) (by omega)
          exact ⟨⟨by omega, by omega, (rowL_extract (z := 1) (fun _ => rfl) (by first | omega | (rw [List.length_set]; omega) | (rw [List.length_replicate]; omega)))⟩, ⟨(ltq_t q0), trivial⟩⟩
        cases q1 : inB (List.getD s.boats i.toNat default) 0 (s.cells - 1) with
        | true =>
          try have hcs := inB_iff.1 q0
          try have hp := pow2_le9 hcs.2
          try have s2 := drop_all2 (p := fun x => inB x 0 (s.cells - 1)) i0 q0
          try have s2 := drop_nil2 (l := s.boats) (p := fun x => inB x 0 (s.cells - 1)) (i := i) (by omega)
          exact ((ih0 _ (by omega)).2 (i + 1) rfl (by first | with_reducible assumption | omega | (simp_all; done)) (by first | with_reducible assumption | omega | (simp_all; done)) (by first | with_reducible assumption | omega | (simp_all; done))
            (hg0.landM okF hJ mixed_ok (rSea_s4 B s i dJ0)
            ⟨(wq_in (by omega) (by omega)), ⟨⟨trivial, (by have t_ := rCell (s) (List.getD s.boats i.toNat default) (by first | with_reducible assumption | omega | simp_all) (by first | with_reducible assumption | omega | simp_all); rw [q1] at t_; exact t_)⟩, hp2⟩⟩ (by kernel_rfl) (by kernel_rfl))).cast (by first | rfl | (rw [s2]; simp [*]; done) | (rw [s2]; simp_all; done) | (rw [s2]; done))
        | false =>
          try have hcs := inB_iff.1 q0
          try have hp := pow2_le9 hcs.2
          try have s2 := drop_all2 (p := fun x => inB x 0 (s.cells - 1)) i0 q0
          try have s2 := drop_nil2 (l := s.boats) (p := fun x => inB x 0 (s.cells - 1)) (i := i) (by omega)
          exact (GoE.endsT okF hJ mixed_ok hg0 (rSea_s5 B s i dJ0)
            ⟨⟨trivial, (by have t_ := rCell (s) (List.getD s.boats i.toNat default) (by first | with_reducible assumption | omega | simp_all) (by first | with_reducible assumption | omega | simp_all); rw [q1] at t_; exact t_)⟩, hp2⟩).cast (by first | rfl | (rw [s2]; simp [*]; done) | (rw [s2]; simp_all; done) | (rw [s2]; done))
      ·
        try have hcs := inB_iff.1 q0
        try have hp := pow2_le9 hcs.2
        try have s2 := drop_all2 (p := fun x => inB x 0 (s.cells - 1)) i0 q0
        try have s2 := drop_nil2 (l := s.boats) (p := fun x => inB x 0 (s.cells - 1)) (i := i) (by omega)
        exact (GoE.endsT okF hJ mixed_ok hg0 (rSea_s6 B s i dJ0)
          ⟨(ltq_f (Int.not_lt.1 q0)), trivial⟩).cast (by first | rfl | (rw [s2]; simp [*]; done) | (rw [s2]; simp_all; done) | (rw [s2]; done))
set_option maxHeartbeats 4000000 in
theorem rSea_e (s : CSea)  (hfacts : s.courses.length ≤ 9223372036854775807 ∧ s.stars.length ≤ 9223372036854775807 ∧ s.boats.length ≤ 9223372036854775807) {B : Lo} (hJ : ∀ w, B.has w → J0 w) : EndsT Tryz.prog B (entryC Tryz.prog 13 100 (([.agg (encSea s).toArray]).map (pushT 0 4))) (.bool (seaB s)) := by
  cases q0 : inB s.cells 1 10 with
  | true =>
    have hp3 : AllP (rSea_p3 B s) := by
      try have hcs := inB_iff.1 q0
      try have hp := pow2_le9 hcs.2
      exact ⟨(wq_in (by omega) (by omega)), ⟨⟨trivial, rSets (s) (by first | with_reducible assumption | omega | simp_all) (by first | with_reducible assumption | omega | simp_all)⟩, ⟨⟨trivial, (by have t_ := rin s.cells (1) (10); rw [q0] at t_; exact t_)⟩, trivial⟩⟩⟩
    cases q1 : inB s.start 1 ((↑(pow2 s.cells) : Int) - 1) with
    | true =>
      have hp4 : AllP (rSea_p4 B s) := by
        try have hcs := inB_iff.1 q0
        try have hp := pow2_le9 hcs.2
        exact ⟨⟨trivial, (by have t_ := rin s.start (1) ((↑(pow2 s.cells) : Int) - 1); rw [q1] at t_; exact t_)⟩, hp3⟩
      cases q2 : inB (↑s.courses.length : Int) 1 4 with
      | true =>
        have hp5 : AllP (rSea_p5 B s) := by
          try have hcs := inB_iff.1 q0
          try have hp := pow2_le9 hcs.2
          exact ⟨⟨trivial, (by have t_ := rin ((↑s.courses.length : Int)) (1) (4); rw [q2] at t_; exact t_)⟩, hp4⟩
        by_cases q3 : (6 : Int) < ((↑s.stars.length : Int))
        ·
          try have hcs := inB_iff.1 q0
          try have hp := pow2_le9 hcs.2
          exact (GoE.endsT okF hJ mixed_ok GoE.start (rSea_s7 B s)
            ⟨(ltq_t q3), hp5⟩).cast (by first | rfl | (simp only [seaB, coursesB, starsB]; rw [decide_eq_false (show ¬ (s.stars.length : Int) ≤ 6 by omega)]; simp; done) | (simp only [seaB, coursesB, starsB]; rw [decide_eq_false (show ¬ (s.boats.length : Int) ≤ 2 by omega)]; simp; done) | (simp only [seaB, coursesB, starsB, cellsB]; simp [topI, *]; done) | (simp_all [seaB, coursesB, starsB, topI]; done))
        ·
          have hp6 : AllP (rSea_p6 B s) := by
            exact ⟨(ltq_f (Int.not_lt.1 q3)), hp5⟩
          by_cases q4 : (2 : Int) < ((↑s.boats.length : Int))
          ·
            try have hcs := inB_iff.1 q0
            try have hp := pow2_le9 hcs.2
            exact (GoE.endsT okF hJ mixed_ok GoE.start (rSea_s8 B s)
              ⟨(ltq_t q4), hp6⟩).cast (by first | rfl | (simp only [seaB, coursesB, starsB]; rw [decide_eq_false (show ¬ (s.stars.length : Int) ≤ 6 by omega)]; simp; done) | (simp only [seaB, coursesB, starsB]; rw [decide_eq_false (show ¬ (s.boats.length : Int) ≤ 2 by omega)]; simp; done) | (simp only [seaB, coursesB, starsB, cellsB]; simp [topI, *]; done) | (simp_all [seaB, coursesB, starsB, topI]; done))
          ·
            have hp7 : AllP (rSea_p7 B s) := by
              exact ⟨(ltq_f (Int.not_lt.1 q4)), hp6⟩
            by_cases q5 : ((↑s.roads.length : Int) : Int) ≠ s.cells
            ·
              try have hcs := inB_iff.1 q0
              try have hp := pow2_le9 hcs.2
              exact (GoE.endsT okF hJ mixed_ok GoE.start (rSea_s9 B s)
                ⟨(neqq_t q5), hp7⟩).cast (by first | rfl | (simp only [seaB, coursesB, starsB]; rw [decide_eq_false (show ¬ (s.stars.length : Int) ≤ 6 by omega)]; simp; done) | (simp only [seaB, coursesB, starsB]; rw [decide_eq_false (show ¬ (s.boats.length : Int) ≤ 2 by omega)]; simp; done) | (simp only [seaB, coursesB, starsB, cellsB]; simp [topI, *]; done) | (simp_all [seaB, coursesB, starsB, topI]; done))
            ·
              have hp8 : AllP (rSea_p8 B s) := by
                exact ⟨(neqq_f (Decidable.of_not_not q5)), hp7⟩
              cases q6 : setsB s.stars 1 s.cells with
              | true =>
                have hp9 : AllP (rSea_p9 B s) := by
                  try have hcs := inB_iff.1 q0
                  try have hp := pow2_le9 hcs.2
                  exact ⟨⟨trivial, (by have t_ := rsets (s) s.stars (1) (by first | with_reducible assumption | omega | simp_all) (by first | with_reducible assumption | omega | simp_all); rw [q6] at t_; exact t_)⟩, hp8⟩
                cases q7 : setsB s.roads 0 s.cells with
                | true =>
                  try have hcs := inB_iff.1 q0
                  try have hp := pow2_le9 hcs.2
                  exact ((rSea_ls s hfacts hJ _).1 (0) rfl (by first | with_reducible assumption | omega | (simp_all; done)) (by first | with_reducible assumption | omega | (simp_all; done)) (by first | with_reducible assumption | omega | (simp_all; done))
                    (GoE.start.landM okF hJ mixed_ok (rSea_s10 B s)
                    ⟨⟨trivial, (by have t_ := rsets (s) s.roads (0) (by first | with_reducible assumption | omega | simp_all) (by first | with_reducible assumption | omega | simp_all); rw [q7] at t_; exact t_)⟩, hp9⟩ (by kernel_rfl) (by kernel_rfl))).cast (by first | rfl | (simp only [seaB, coursesB, starsB]; rw [decide_eq_false (show ¬ (s.stars.length : Int) ≤ 6 by omega)]; simp; done) | (simp only [seaB, coursesB, starsB]; rw [decide_eq_false (show ¬ (s.boats.length : Int) ≤ 2 by omega)]; simp; done) | (simp only [seaB, coursesB, starsB, cellsB]; simp [topI, *]; done) | (simp_all [seaB, coursesB, starsB, topI]; done))
                | false =>
                  try have hcs := inB_iff.1 q0
                  try have hp := pow2_le9 hcs.2
                  exact (GoE.endsT okF hJ mixed_ok GoE.start (rSea_s11 B s)
                    ⟨⟨trivial, (by have t_ := rsets (s) s.roads (0) (by first | with_reducible assumption | omega | simp_all) (by first | with_reducible assumption | omega | simp_all); rw [q7] at t_; exact t_)⟩, hp9⟩).cast (by first | rfl | (simp only [seaB, coursesB, starsB]; rw [decide_eq_false (show ¬ (s.stars.length : Int) ≤ 6 by omega)]; simp; done) | (simp only [seaB, coursesB, starsB]; rw [decide_eq_false (show ¬ (s.boats.length : Int) ≤ 2 by omega)]; simp; done) | (simp only [seaB, coursesB, starsB, cellsB]; simp [topI, *]; done) | (simp_all [seaB, coursesB, starsB, topI]; done))
              | false =>
                try have hcs := inB_iff.1 q0
                try have hp := pow2_le9 hcs.2
                exact (GoE.endsT okF hJ mixed_ok GoE.start (rSea_s12 B s)
                  ⟨⟨trivial, (by have t_ := rsets (s) s.stars (1) (by first | with_reducible assumption | omega | simp_all) (by first | with_reducible assumption | omega | simp_all); rw [q6] at t_; exact t_)⟩, hp8⟩).cast (by first | rfl | (simp only [seaB, coursesB, starsB]; rw [decide_eq_false (show ¬ (s.stars.length : Int) ≤ 6 by omega)]; simp; done) | (simp only [seaB, coursesB, starsB]; rw [decide_eq_false (show ¬ (s.boats.length : Int) ≤ 2 by omega)]; simp; done) | (simp only [seaB, coursesB, starsB, cellsB]; simp [topI, *]; done) | (simp_all [seaB, coursesB, starsB, topI]; done))
      | false =>
        try have hcs := inB_iff.1 q0
        try have hp := pow2_le9 hcs.2
        exact (GoE.endsT okF hJ mixed_ok GoE.start (rSea_s13 B s)
          ⟨⟨trivial, (by have t_ := rin ((↑s.courses.length : Int)) (1) (4); rw [q2] at t_; exact t_)⟩, hp4⟩).cast (by first | rfl | (simp only [seaB, coursesB, starsB]; rw [decide_eq_false (show ¬ (s.stars.length : Int) ≤ 6 by omega)]; simp; done) | (simp only [seaB, coursesB, starsB]; rw [decide_eq_false (show ¬ (s.boats.length : Int) ≤ 2 by omega)]; simp; done) | (simp only [seaB, coursesB, starsB, cellsB]; simp [topI, *]; done) | (simp_all [seaB, coursesB, starsB, topI]; done))
    | false =>
      try have hcs := inB_iff.1 q0
      try have hp := pow2_le9 hcs.2
      exact (GoE.endsT okF hJ mixed_ok GoE.start (rSea_s14 B s)
        ⟨⟨trivial, (by have t_ := rin s.start (1) ((↑(pow2 s.cells) : Int) - 1); rw [q1] at t_; exact t_)⟩, hp3⟩).cast (by first | rfl | (simp only [seaB, coursesB, starsB]; rw [decide_eq_false (show ¬ (s.stars.length : Int) ≤ 6 by omega)]; simp; done) | (simp only [seaB, coursesB, starsB]; rw [decide_eq_false (show ¬ (s.boats.length : Int) ≤ 2 by omega)]; simp; done) | (simp only [seaB, coursesB, starsB, cellsB]; simp [topI, *]; done) | (simp_all [seaB, coursesB, starsB, topI]; done))
  | false =>
    try have hcs := inB_iff.1 q0
    try have hp := pow2_le9 hcs.2
    exact (GoE.endsT okF hJ mixed_ok GoE.start (rSea_s15 B s)
      ⟨⟨trivial, (by have t_ := rin s.cells (1) (10); rw [q0] at t_; exact t_)⟩, trivial⟩).cast (by first | rfl | (simp only [seaB, coursesB, starsB]; rw [decide_eq_false (show ¬ (s.stars.length : Int) ≤ 6 by omega)]; simp; done) | (simp only [seaB, coursesB, starsB]; rw [decide_eq_false (show ¬ (s.boats.length : Int) ≤ 2 by omega)]; simp; done) | (simp only [seaB, coursesB, starsB, cellsB]; simp [topI, *]; done) | (simp_all [seaB, coursesB, starsB, topI]; done))
theorem rSea (s : CSea)  : PureC Tryz.prog J0 13 #[.agg (encSea s).toArray] (.bool (seaB s)) :=
  pureC_ofF (ts := [.agg (encSea s).toArray]) (s.courses.length ≤ 9223372036854775807 ∧ s.stars.length ≤ 9223372036854775807 ∧ s.boats.length ≤ 9223372036854775807) (fun _ _ ht => ⟨ht.ln2 (i := 0) (j := 2) rfl rfl, ht.ln2 (i := 0) (j := 3) rfl rfl, ht.ln2 (i := 0) (j := 4) rfl rfl⟩) J0_st (c0 := entryC Tryz.prog 13 100 (([.agg (encSea s).toArray]).map (pushT 0 4))) (by kernel_rfl) (by kernel_rfl) fun hfacts B hJ => rSea_e s  hfacts hJ
def rLog_v0 (s : CSea) (l : List Hour) (i : Int) : List Value := [topV 1 (slT l.length (rowL encHour l)), pA 2 0, .int .i64 i]
def rLog_o0 (s : CSea) (l : List Hour) (i : Int) : List Obj := [Obj.cells #[Value.int IntKind.i64 s.cells, Value.int IntKind.i64 s.start, topV 1 (slT s.courses.length (rowL slI2 s.courses)), topV 1 (slT s.stars.length (rowL encI s.stars)), topV 1 (slT s.boats.length (rowL encI s.boats)), topV 1 (slT s.roads.length (rowL encI s.roads))] 25]
noncomputable def rLog_t0 : List Item := ([.code [1, 0, 1, 0, 0], .inLoop [1, 0, 1, 0, 0], .inBlock 0, .code [1, 1]]).map (it (bodyOf Tryz.prog 37))
def rLog_h0 (B : Lo) (c0 : CF) (s : CSea) (l : List Hour) (i : Int) : Prop := ∃ dJ : Nat → Value, (∀ t, Loose (dJ t)) ∧ GoE Tryz.prog B c0 H00 1 (headC 37 33 (([1, 2, 5] : List Nat).zip (rLog_v0 s l i)) dJ rLog_t0) (headH (rLog_o0 s l i)) (2 + (rLog_o0 s l i).length) []
noncomputable def rLog_z0 (l : List Hour) (i : Int) : Array Value := #[Value.int IntKind.i64 (Hour.course (List.getD l i.toNat default)), Value.int IntKind.i64 (Hour.star (List.getD l i.toNat default))]
noncomputable def rLog_p0 (B : Lo) (s : CSea) (l : List Hour) (i : Int) (dJ0 : Nat → Value) : List Prop := [i = (↑i.toNat : Int) ∧ Int.toNat i < List.length l ∧ Array.extract (rowL encHour l) (Int.toNat i * TypeInfo.size Tryz.t49) (Int.toNat i * TypeInfo.size Tryz.t49 + TypeInfo.size Tryz.t49) = (rLog_z0 l i), ltq i (↑l.length : Int) = true] ++ ([] : List Prop)
noncomputable def rLog_q0 (s : CSea) (l : List Hour) (i : Int) (dJ0 : Nat → Value) : ScriptT := [(3, hvT), (7, HintT.tidx i.toNat (rLog_z0 l i))]
noncomputable def rLog_p1 (B : Lo) (s : CSea) (l : List Hour) (i : Int) (dJ0 : Nat → Value) : List Prop := [wq ((↑s.stars.length : Int) - 1) = (↑s.stars.length : Int) - 1, i = (↑i.toNat : Int) ∧ Int.toNat i < List.length l ∧ Array.extract (rowL encHour l) (Int.toNat i * TypeInfo.size Tryz.t49) (Int.toNat i * TypeInfo.size Tryz.t49 + TypeInfo.size Tryz.t49) = (rLog_z0 l i), AllP [] ∧ PureC Tryz.prog J0 45 #[Value.agg #[Value.int IntKind.i64 s.cells, Value.int IntKind.i64 s.start, slT s.courses.length (rowL slI2 s.courses), slT s.stars.length (rowL encI s.stars), slT s.boats.length (rowL encI s.boats), slT s.roads.length (rowL encI s.roads)], Value.int IntKind.i64 (Hour.course (List.getD l i.toNat default))] (Value.bool true)] ++ rLog_p0 B s l i dJ0
noncomputable def rLog_q1 (s : CSea) (l : List Hour) (i : Int) (dJ0 : Nat → Value) : ScriptT := rLog_q0 s l i dJ0 ++ [(10, HintT.pure (Value.bool true) []), (15, HintT.tidx i.toNat (rLog_z0 l i)), (21, hvI ((↑s.stars.length : Int) - 1))]
set_option maxRecDepth 100000 in
theorem rLog_s0 (B : Lo) (s : CSea) (l : List Hour) (i : Int) (dJ0 : Nat → Value) : landM (srunT Tryz.prog (okFn Tryz.prog) J0 B 14 1 (headC 37 33 (([1, 2, 5] : List Nat).zip (rLog_v0 s l i)) dJ0 rLog_t0) (headH (rLog_o0 s l i)) (2 + (rLog_o0 s l i).length)
    (rLog_q1 s l i dJ0 ++ [(22, HintT.pure (Value.bool true) []), (26, hvI (i + 1))]) 0 [] []) [1, 2, 5] [(2, KS.auto)] [] = some ⟨37, 33, rLog_t0, [], .run, none, rLog_v0 s l (i + 1), rLog_o0 s l (i + 1),
    [wq (i + 1) = i + 1, AllP [] ∧ PureC Tryz.prog J0 35 #[Value.int IntKind.i64 (Hour.star (List.getD l i.toNat default)), Value.int IntKind.i64 (-1), Value.int IntKind.i64 ((↑s.stars.length : Int) - 1)] (Value.bool true)] ++ rLog_p1 B s l i dJ0⟩ := by kernel_rfl
set_option maxRecDepth 100000 in
theorem rLog_s1 (B : Lo) (s : CSea) (l : List Hour) (i : Int) (dJ0 : Nat → Value) : endT (srunT Tryz.prog (okFn Tryz.prog) J0 B 14 1 (headC 37 33 (([1, 2, 5] : List Nat).zip (rLog_v0 s l i)) dJ0 rLog_t0) (headH (rLog_o0 s l i)) (2 + (rLog_o0 s l i).length)
    (rLog_q1 s l i dJ0 ++ [(22, HintT.pure (Value.bool false) [])]) 0 [] []) [] = some (Value.bool false,
    [AllP [] ∧ PureC Tryz.prog J0 35 #[Value.int IntKind.i64 (Hour.star (List.getD l i.toNat default)), Value.int IntKind.i64 (-1), Value.int IntKind.i64 ((↑s.stars.length : Int) - 1)] (Value.bool false)] ++ rLog_p1 B s l i dJ0) := by kernel_rfl
set_option maxRecDepth 100000 in
theorem rLog_s2 (B : Lo) (s : CSea) (l : List Hour) (i : Int) (dJ0 : Nat → Value) : endT (srunT Tryz.prog (okFn Tryz.prog) J0 B 14 1 (headC 37 33 (([1, 2, 5] : List Nat).zip (rLog_v0 s l i)) dJ0 rLog_t0) (headH (rLog_o0 s l i)) (2 + (rLog_o0 s l i).length)
    (rLog_q0 s l i dJ0 ++ [(10, HintT.pure (Value.bool false) [])]) 0 [] []) [] = some (Value.bool false,
    [AllP [] ∧ PureC Tryz.prog J0 45 #[Value.agg #[Value.int IntKind.i64 s.cells, Value.int IntKind.i64 s.start, slT s.courses.length (rowL slI2 s.courses), slT s.stars.length (rowL encI s.stars), slT s.boats.length (rowL encI s.boats), slT s.roads.length (rowL encI s.roads)], Value.int IntKind.i64 (Hour.course (List.getD l i.toNat default))] (Value.bool false)] ++ rLog_p0 B s l i dJ0) := by kernel_rfl
set_option maxRecDepth 100000 in
theorem rLog_s3 (B : Lo) (s : CSea) (l : List Hour) (i : Int) (dJ0 : Nat → Value) : endT (srunT Tryz.prog (okFn Tryz.prog) J0 B 9 1 (headC 37 33 (([1, 2, 5] : List Nat).zip (rLog_v0 s l i)) dJ0 rLog_t0) (headH (rLog_o0 s l i)) (2 + (rLog_o0 s l i).length)
    [(3, hvF)] 0 [] []) [] = some (Value.bool true,
    [ltq i (↑l.length : Int) = false]) := by kernel_rfl
set_option maxRecDepth 100000 in
theorem rLog_s4 (B : Lo) (s : CSea) (l : List Hour) : landM (srunT Tryz.prog (okFn Tryz.prog) J0 B 7 1 (entryC Tryz.prog 37 33 (([.agg (encSea s).toArray, slH l]).map (pushT 0 4))) H00 1
    [] 0 [] []) [1, 2, 5] [(1, KS.auto)] [] = some ⟨37, 33, rLog_t0, [], .run, none, rLog_v0 s l (0), rLog_o0 s l (0),
    []⟩ := by kernel_rfl
set_option maxHeartbeats 4000000 in
theorem rLog_ls (s : CSea) (l : List Hour)  (hfacts : l.length ≤ 9223372036854775807 ∧ s.stars.length ≤ 9223372036854775807) {B : Lo} (hJ : ∀ w, B.has w → J0 w) {c0 : CF} : ∀ m : Nat, (∀ (i : Int), l.length - i.toNat = m → ∀ (i0 : 0 ≤ i), rLog_h0 B c0 s l i → EndsT Tryz.prog B c0 (.bool ((l.drop i.toNat).all (hourB s.courses.length s.stars.length)))) := by
  intro m0
  induction m0 using Nat.strongRecOn with
  | _ m0 ih0 =>
    intro i hm0 i0 ⟨dJ0, hdJ0, hg0⟩
    have hfa := hfacts.1
    have hfb := hfacts.2
    by_cases q0 : (i : Int) < ((↑l.length : Int))
    ·
      have hp0 : AllP (rLog_p0 B s l i dJ0) := by
        try have s2 := drop_all2 (p := hourB s.courses.length s.stars.length) i0 q0
        try have s2 := drop_nil2 (l := l) (p := hourB s.courses.length s.stars.length) (i := i) (by omega)
        exact ⟨⟨by omega, by omega, (rowL_extract (z := 2) (fun _ => rfl) (by first | omega | (rw [List.length_set]; omega) | (rw [List.length_replicate]; omega)))⟩, ⟨(ltq_t q0), trivial⟩⟩
      cases q1 : inB (Hour.course (List.getD l i.toNat default)) 0 ((↑s.courses.length : Int) - 1) with
      | true =>
        have hp1 : AllP (rLog_p1 B s l i dJ0) := by
          try have s2 := drop_all2 (p := hourB s.courses.length s.stars.length) i0 q0
          try have s2 := drop_nil2 (l := l) (p := hourB s.courses.length s.stars.length) (i := i) (by omega)
          exact ⟨(wq_in (by omega) (by omega)), ⟨⟨by omega, by omega, (rowL_extract (z := 2) (fun _ => rfl) (by first | omega | (rw [List.length_set]; omega) | (rw [List.length_replicate]; omega)))⟩, ⟨⟨trivial, (by have t_ := rCourse (s) (Hour.course (List.getD l i.toNat default)); rw [q1] at t_; exact t_)⟩, hp0⟩⟩⟩
        cases q2 : inB (Hour.star (List.getD l i.toNat default)) (-1) ((↑s.stars.length : Int) - 1) with
        | true =>
          try have s2 := drop_all2 (p := hourB s.courses.length s.stars.length) i0 q0
          try have s2 := drop_nil2 (l := l) (p := hourB s.courses.length s.stars.length) (i := i) (by omega)
          exact ((ih0 _ (by omega)) (i + 1) rfl (by first | with_reducible assumption | omega | (simp_all; done))
            (hg0.landM okF hJ mixed_ok (rLog_s0 B s l i dJ0)
            ⟨(wq_in (by omega) (by omega)), ⟨⟨trivial, (by have t_ := rin (Hour.star (List.getD l i.toNat default)) (-1) ((↑s.stars.length : Int) - 1); rw [q2] at t_; exact t_)⟩, hp1⟩⟩ (by kernel_rfl) (by kernel_rfl))).cast (by first | rfl | (rw [s2]; simp [hourB, *]; done) | (rw [s2]; simp_all [hourB]; done) | (rw [s2]; done))
        | false =>
          try have s2 := drop_all2 (p := hourB s.courses.length s.stars.length) i0 q0
          try have s2 := drop_nil2 (l := l) (p := hourB s.courses.length s.stars.length) (i := i) (by omega)
          exact (GoE.endsT okF hJ mixed_ok hg0 (rLog_s1 B s l i dJ0)
            ⟨⟨trivial, (by have t_ := rin (Hour.star (List.getD l i.toNat default)) (-1) ((↑s.stars.length : Int) - 1); rw [q2] at t_; exact t_)⟩, hp1⟩).cast (by first | rfl | (rw [s2]; simp [hourB, *]; done) | (rw [s2]; simp_all [hourB]; done) | (rw [s2]; done))
      | false =>
        try have s2 := drop_all2 (p := hourB s.courses.length s.stars.length) i0 q0
        try have s2 := drop_nil2 (l := l) (p := hourB s.courses.length s.stars.length) (i := i) (by omega)
        exact (GoE.endsT okF hJ mixed_ok hg0 (rLog_s2 B s l i dJ0)
          ⟨⟨trivial, (by have t_ := rCourse (s) (Hour.course (List.getD l i.toNat default)); rw [q1] at t_; exact t_)⟩, hp0⟩).cast (by first | rfl | (rw [s2]; simp [hourB, *]; done) | (rw [s2]; simp_all [hourB]; done) | (rw [s2]; done))
    ·
      try have s2 := drop_all2 (p := hourB s.courses.length s.stars.length) i0 q0
      try have s2 := drop_nil2 (l := l) (p := hourB s.courses.length s.stars.length) (i := i) (by omega)
      exact (GoE.endsT okF hJ mixed_ok hg0 (rLog_s3 B s l i dJ0)
        ⟨(ltq_f (Int.not_lt.1 q0)), trivial⟩).cast (by first | rfl | (rw [s2]; simp [hourB, *]; done) | (rw [s2]; simp_all [hourB]; done) | (rw [s2]; done))
set_option maxHeartbeats 4000000 in
theorem rLog_e (s : CSea) (l : List Hour)  (hfacts : l.length ≤ 9223372036854775807 ∧ s.stars.length ≤ 9223372036854775807) {B : Lo} (hJ : ∀ w, B.has w → J0 w) : EndsT Tryz.prog B (entryC Tryz.prog 37 33 (([.agg (encSea s).toArray, slH l]).map (pushT 0 4))) (.bool (logB s l)) := by
  exact ((rLog_ls s l hfacts hJ _) (0) rfl (by first | with_reducible assumption | omega | (simp_all; done))
    (GoE.start.landM okF hJ mixed_ok (rLog_s4 B s l)
    trivial (by kernel_rfl) (by kernel_rfl))).cast (by first | rfl | (simp [*]; done) | (simp_all []; done) | (simp_all []; omega))
theorem rLog (s : CSea) (l : List Hour)  : PureC Tryz.prog J0 37 #[.agg (encSea s).toArray, slH l] (.bool (logB s l)) :=
  pureC_ofF (ts := [.agg (encSea s).toArray, slH l]) (l.length ≤ 9223372036854775807 ∧ s.stars.length ≤ 9223372036854775807) (fun _ _ ht => ⟨ht.ln (i := 1) rfl, ht.ln2 (i := 0) (j := 3) rfl rfl⟩) J0_st (c0 := entryC Tryz.prog 37 33 (([.agg (encSea s).toArray, slH l]).map (pushT 0 4))) (by kernel_rfl) (by kernel_rfl) fun hfacts B hJ => rLog_e s l  hfacts hJ
end Go.Proofs.YtiaaikkmipmhnaaGreatDoor

namespace Go.Proofs
open Go.Shelf
def Tryz.lays156_ren : Go.Shelf.Ren := ⟨fun | 156 => 99 | 165 => 102 | 166 => 103 | 169 => 104 | 240 => 112 | 241 => 113 | 276 => 121 | 277 => 122 | n => n, fun | 31 => 130 | 9 => 9 | 3 => 3 | 4 => 4 | 0 => 0 | 20 => 20 | 72 => 146 | 76 => 150 | 70 => 143 | 37 => 144 | 75 => 149 | 127 => 161 | 164 => 170 | 5 => 5 | 80 => 152 | n => n, fun | n => n⟩
theorem Tryz.lays156 : Go.Proofs.Lays.n156 Tryz.prog Tryz.lays156_ren := {
  mixed := by kernel_rfl
  f156 := Tryz.func99.trans (congrArg some (by kernel_rfl))
  f165 := Tryz.func102.trans (congrArg some (by kernel_rfl))
  f166 := Tryz.func103.trans (congrArg some (by kernel_rfl))
  f169 := Tryz.func104.trans (congrArg some (by kernel_rfl))
  f240 := Tryz.func112.trans (congrArg some (by kernel_rfl))
  f241 := Tryz.func113.trans (congrArg some (by kernel_rfl))
  f276 := Tryz.func121.trans (congrArg some (by kernel_rfl))
  f277 := Tryz.func122.trans (congrArg some (by kernel_rfl))
  t0 := Tryz.underlying0
  a0 := Tryz.isAgg0
  z0 := Tryz.sizeOf0
  v0 := Tryz.zeroValue0
  t3 := Tryz.underlying3
  a3 := Tryz.isAgg3
  z3 := Tryz.sizeOf3
  v3 := Tryz.zeroValue3
  t4 := Tryz.underlying4
  a4 := Tryz.isAgg4
  z4 := Tryz.sizeOf4
  v4 := Tryz.zeroValue4
  t9 := Tryz.underlying9
  a9 := Tryz.isAgg9
  z9 := Tryz.sizeOf9
  v9 := Tryz.zeroValue9
  t20 := Tryz.underlying20
  a20 := Tryz.isAgg20
  z20 := Tryz.sizeOf20
  v20 := Tryz.zeroValue20
  t31 := Tryz.underlying130
  a31 := Tryz.isAgg130
  z31 := Tryz.sizeOf130
  v31 := Tryz.zeroValue130
  t37 := Tryz.underlying144
  a37 := Tryz.isAgg144
  z37 := Tryz.sizeOf144
  v37 := Tryz.zeroValue144
  t70 := Tryz.underlying143
  a70 := Tryz.isAgg143
  z70 := Tryz.sizeOf143
  v70 := Tryz.zeroValue143
  t72 := Tryz.underlying146
  a72 := Tryz.isAgg146
  z72 := Tryz.sizeOf146
  v72 := Tryz.zeroValue146
  t75 := Tryz.underlying149
  a75 := Tryz.isAgg149
  z75 := Tryz.sizeOf149
  v75 := Tryz.zeroValue149
  t76 := Tryz.underlying150
  a76 := Tryz.isAgg150
  z76 := Tryz.sizeOf150
  v76 := Tryz.zeroValue150
  t127 := Tryz.underlying161
  a127 := Tryz.isAgg161
  z127 := Tryz.sizeOf161
  v127 := Tryz.zeroValue161
  t164 := Tryz.underlying170
  a164 := Tryz.isAgg170
  z164 := Tryz.sizeOf170
  v164 := Tryz.zeroValue170 }
theorem Tryz.Builder_Extra_156 : Builder.Extra Tryz.prog Tryz.lays156_ren := {
  sizeBuilder := by kernel_rfl
  liesBuilder := by kernel_rfl
  t5 := Tryz.underlying5
  a5 := Tryz.isAgg5
  z5 := Tryz.sizeOf5
  v5 := Tryz.zeroValue5
  infoByte := by kernel_rfl
  cellsByte := by kernel_rfl
  sizeByte := by kernel_rfl
  neB5 := by decide }
open Go.RowKit in
theorem Tryz.strings_Join (bk o c : Nat) (xs : List ByteArray) (sep : ByteArray) (w : World) (hcells : ∀ (j : Nat) x, xs[j]? = some x → w.cell? ⟨bk, o + j, none⟩ = some (.string x)) (hbk : bk < w.heap.size) (hN : xs.length ≤ 140737488355328) (hcap : xs.length ≤ c) (hlen : (Lib.join (xs.map (·.data.toList)) sep.data.toList).length ≤ 140737488355328) :
    Calls Tryz.prog 99 #[.slice (some ⟨bk, o, none⟩) xs.length c, .string sep] w fun e w' => e = .returned (.string ⟨(Lib.join (xs.map (·.data.toList)) sep.data.toList).toArray⟩) ∧ Below w.heap.size w w' := Any.strings_Join Tryz.lays156 Tryz.Builder_Extra_156 bk o c xs sep w hcells hbk hN hcap hlen
end Go.Proofs

namespace Go.Proofs.YtiaaikkmipmhnaaGreatDoor
open Go Go.CE Go.RowKit Go.Proofs
def strsOf : List Value → Option (List ByteArray)
  | [] => some []
  | .string x :: l => match strsOf l with
    | some m => some (x :: m)
    | none => none
  | _ => none
theorem strsOf_get : ∀ {l : List Value} {xs : List ByteArray}, strsOf l = some xs → ∀ (j : Nat) x, xs[j]? = some x → l[j]? = some (.string x)
  | [], xs, h, j, x, hx => by simp only [strsOf, Option.some.injEq] at h; subst h; simp at hx
  | v :: l, xs, h, j, x, hx => by
    cases v with
    | string s =>
      simp only [strsOf] at h
      split at h
      · rename_i m hm
        simp only [Option.some.injEq] at h
        subst h
        cases j with
        | zero => simpa using hx
        | succ j => simpa using strsOf_get hm j x (by simpa using hx)
      · cases h
    | _ => simp [strsOf] at h
def joinOut (xs : List ByteArray) (sep : ByteArray) : List UInt8 := Lib.join (xs.map (·.data.toList)) sep.data.toList
def joinC (args : Array Value) (H : Heap) (n : Nat) : Option Rs := match args.toList with
  | [.slice (some ⟨b, o, none⟩) m _, .string sep] => match hget H b with
    | some (.cells cs _ _) => match strsOf ((cs.toList.drop o).take m) with
      | some xs => bif Nat.beq xs.length m && Nat.ble m 1000 && Nat.ble (joinOut xs sep).length 1000 && Nat.blt b n then some ⟨.ret (.string ⟨(joinOut xs sep).toArray⟩), H, n, [b], []⟩ else none
      | none => none
    | _ => none
  | _ => none
def strOrc : Orc := fun g args H n => bif Nat.beq g 99 then joinC args H n else none
theorem strOrc_ok (B : Lo) : OrcS Tryz.prog B strOrc := by
  intro g args H n s hu h
  unfold strOrc at h
  cases hj : Nat.beq g 99 with
  | false => rw [hj] at h; cases h
  | true =>
    rw [hj] at h
    simp only [cond_true] at h
    obtain rfl := Nat.eq_of_beq_eq_true hj
    unfold joinC at h
    split at h
    · rename_i b o m sz sep hl
      split at h
      · rename_i cc t fz hb
        split at h
        · rename_i xs hxs
          cases hq : (Nat.beq xs.length m && Nat.ble m 1000 && Nat.ble (joinOut xs sep).length 1000 && Nat.blt b n) with
          | false => rw [hq] at h; cases h
          | true =>
            rw [hq] at h
            simp only [cond_true, Option.some.injEq] at h
            simp only [Bool.and_eq_true] at hq
            obtain ⟨⟨⟨q1, q2⟩, q3⟩, q4⟩ := hq
            have q1 := Nat.eq_of_beq_eq_true q1
            have q2 := Nat.le_of_ble_eq_true q2
            have q3 := Nat.le_of_ble_eq_true q3
            have q4 : b < n := Nat.le_of_ble_eq_true q4
            subst h q1
            refine ⟨Shape.same H n _, fun S μ w args' cs hok hB hS hf hv hR => ?_⟩
            have hSb := hR b (by simp) q4
            obtain ⟨im, him, hor⟩ := hok.rel b _ hSb hb trivial
            have hlow := (hok.low b _ im hSb hb trivial him).1
            obtain ⟨c', hcap, harg⟩ : ∃ c', xs.length ≤ c' ∧ args' = #[.slice (some ⟨im.blk, im.off + o, none⟩) xs.length c', .string sep] := by
              have hl' := vrl_mk [.slice (some ⟨b, o, none⟩) xs.length sz, .string sep] args'.toList (by rw [← hl]; simpa using hv.1) fun i v v' a b => hv.2 i v v' (by rw [← Array.getElem?_toList, hl]; exact a) (by simpa using b)
              generalize hy : args'.toList = ys at hl'
              cases hl' with
              | cons x1 hl' =>
                cases hl' with
                | cons x2 hl' =>
                  cases hl'
                  rw [af_eq rfl x2] at hy
                  cases x1 with
                  | @slice _ a' _ _ c' har hle _ _ =>
                    obtain ⟨im', him', _, rfl⟩ := har
                    simp only at him'
                    rw [him] at him'
                    cases him'
                    exact ⟨c', hle, Array.ext' hy⟩
            subst harg
            have hcells : ∀ (j : Nat) x, xs[j]? = some x → w.cell? ⟨im.blk, (im.off + o) + j, none⟩ = some (.string x) := by
              intro j x hx
              have h1 := strsOf_get hxs j x hx
              have hjl : j < xs.length := (List.getElem?_eq_some_iff.1 hx).1
              rw [List.getElem?_take_of_lt hjl, List.getElem?_drop, Array.getElem?_toList] at h1
              obtain ⟨v', e1, e2⟩ := hor.cell h1
              rw [af_eq rfl e2] at e1
              rw [Nat.add_assoc]
              exact e1
            obtain ⟨e, w', fr, ⟨rfl, hbel⟩, s1, s2, s3⟩ := Tryz.strings_Join im.blk (im.off + o) c' xs sep w hcells hlow (by omega) hcap (by unfold joinOut at q3; omega) cs
            exact ⟨.ret (.string ⟨(joinOut xs sep).toArray⟩), w', μ, Post.ofBelow hok hbel, .ret (.string _), fun _ => ⟨fr, s1, s2, s3⟩, fun c0 cs' e => by subst e; exact Steps.trans s1 (.one (step_leave_returned s3))⟩
        · cases h
      · cases h
    · cases h
end Go.Proofs.YtiaaikkmipmhnaaGreatDoor

namespace Go.Proofs.YtiaaikkmipmhnaaGreatDoor
open Go Go.CE Go.RowKit
def inN (n : Int) : Value := .int .i64 n
def goFns (g : FuncId) : Bool := Nat.ble 3 g && (Nat.blt g 125 && !([121,122] : List Nat).any (Nat.beq g))
theorem goFns_ok : ∀ g, goFns g = true → okFn Tryz.prog g = true := by
  have h : (List.range 125).all (fun g => !(goFns g) || okFn Tryz.prog g) = true := by decide +kernel
  intro g hg
  have hg' := hg
  simp only [goFns, Bool.and_eq_true] at hg
  have h1 : g < 125 := Nat.le_of_ble_eq_true hg.2.1
  have := List.all_eq_true.1 h g (List.mem_range.2 h1)
  rw [hg'] at this
  simpa using this
end Go.Proofs.YtiaaikkmipmhnaaGreatDoor

namespace Go.Proofs.YtiaaikkmipmhnaaGreatDoor
open Go Go.CE Go.RowKit
def m11_8 : Memo :=
  ⟨11, #[.agg #[inN 5, inN 6, .slice (some ⟨4, 0, none⟩) 2 1, .slice (some ⟨5, 0, none⟩) 2 1, .slice (some ⟨0, 0, none⟩) 1 1, .slice (some ⟨6, 0, none⟩) 5 1], .slice (some ⟨7, 0, none⟩) 2 2], [(6, .cells #[inN 2, inN 5, inN 10, inN 20, inN 8] 3 (0, 0)), (0, .cells #[inN 0] 3 (0, 0)), (5, .cells #[inN 7, inN 12] 3 (0, 0)), (4, .cells #[.slice (some ⟨2, 0, none⟩) 5 1, .slice (some ⟨3, 0, none⟩) 5 1] 23 (0, 0)), (2, .cells #[inN 3, inN 6, inN 12, inN 24, inN 16] 3 (0, 0)), (3, .cells #[inN 1, inN 1, inN 2, inN 4, inN 8] 3 (0, 0)), (7, .cells #[inN 0, inN (-1), inN 0, inN 1] 49 (0, 0))], 8, .tuple #[.slice (some ⟨80, 0, none⟩) 3 1, inN 0], [(80, .cells #[inN 6, inN 14, inN 12] 3 (0, 0))], 81⟩
theorem m11_8_ok : isMemo m11_8 (m11_8.run Tryz.prog goFns strOrc 100000) = true := by decide +kernel
def m12_89 : Memo :=
  ⟨12, #[.agg #[inN 5, inN 6, .slice (some ⟨85, 0, none⟩) 2 1, .slice (some ⟨86, 0, none⟩) 2 1, .slice (some ⟨81, 0, none⟩) 1 1, .slice (some ⟨87, 0, none⟩) 5 1], .slice (some ⟨88, 0, none⟩) 2 2], [(87, .cells #[inN 2, inN 5, inN 10, inN 20, inN 8] 3 (0, 0)), (81, .cells #[inN 0] 3 (0, 0)), (86, .cells #[inN 7, inN 12] 3 (0, 0)), (85, .cells #[.slice (some ⟨83, 0, none⟩) 5 1, .slice (some ⟨84, 0, none⟩) 5 1] 23 (0, 0)), (83, .cells #[inN 3, inN 6, inN 12, inN 24, inN 16] 3 (0, 0)), (84, .cells #[inN 1, inN 1, inN 2, inN 4, inN 8] 3 (0, 0)), (88, .cells #[inN 0, inN (-1), inN 0, inN 1] 49 (0, 0))], 89, .tuple #[.slice (some ⟨221, 0, none⟩) 3 1, inN 0], [(221, .cells #[inN 6, inN 14, inN 12] 3 (0, 0))], 222⟩
theorem m12_89_ok : isMemo m12_89 (m12_89.run Tryz.prog goFns strOrc 100000) = true := by decide +kernel
def m27_230 : Memo :=
  ⟨27, #[.agg #[inN 5, inN 6, .slice (some ⟨226, 0, none⟩) 2 1, .slice (some ⟨227, 0, none⟩) 2 1, .slice (some ⟨222, 0, none⟩) 2 1, .slice (some ⟨228, 0, none⟩) 5 1], .slice (some ⟨229, 0, none⟩) 2 2, inN 0], [(229, .cells #[inN 0, inN (-1), inN 0, inN 1] 49 (0, 0)), (225, .cells #[inN 1, inN 1, inN 2, inN 4, inN 8] 3 (0, 0)), (224, .cells #[inN 3, inN 6, inN 12, inN 24, inN 16] 3 (0, 0)), (226, .cells #[.slice (some ⟨224, 0, none⟩) 5 1, .slice (some ⟨225, 0, none⟩) 5 1] 23 (0, 0)), (227, .cells #[inN 7, inN 12] 3 (0, 0)), (222, .cells #[inN 0, inN 4] 3 (0, 0)), (228, .cells #[inN 2, inN 5, inN 10, inN 20, inN 8] 3 (0, 0))], 230, .tuple #[.slice (some ⟨1179, 0, none⟩) 3 1, inN 0], [(1184, .cells #[inN 1, inN 4] 3 (0, 0)), (1185, .cells #[inN 2, inN 3] 3 (0, 0)), (1186, .cells #[inN 1, inN 3] 3 (0, 0)), (1179, .cells #[.slice (some ⟨1186, 0, none⟩) 2 1, .slice (some ⟨1185, 0, none⟩) 2 1, .slice (some ⟨1184, 0, none⟩) 2 1] 23 (0, 0))], 1187⟩
theorem m27_230_ok : isMemo m27_230 (m27_230.run Tryz.prog goFns strOrc 100000) = true := by decide +kernel
def m30_1199 : Memo :=
  ⟨30, #[.agg #[inN 5, inN 6, .slice (some ⟨1191, 0, none⟩) 2 1, .slice (some ⟨1192, 0, none⟩) 2 1, .slice (some ⟨1187, 0, none⟩) 1 1, .slice (some ⟨1193, 0, none⟩) 5 1], .slice (some ⟨1194, 0, none⟩) 2 2, inN 0, .slice (some ⟨1198, 0, none⟩) 3 1], [(1198, .cells #[.slice (some ⟨1195, 0, none⟩) 1 1, .slice (some ⟨1196, 0, none⟩) 1 1, .slice (some ⟨1197, 0, none⟩) 1 1] 23 (0, 0)), (1195, .cells #[inN 1] 3 (0, 0)), (1196, .cells #[inN 2] 3 (0, 0)), (1197, .cells #[inN 3] 3 (0, 0)), (1194, .cells #[inN 0, inN (-1), inN 0, inN 1] 49 (0, 0)), (1190, .cells #[inN 1, inN 1, inN 2, inN 4, inN 8] 3 (0, 0)), (1189, .cells #[inN 3, inN 6, inN 12, inN 24, inN 16] 3 (0, 0)), (1191, .cells #[.slice (some ⟨1189, 0, none⟩) 5 1, .slice (some ⟨1190, 0, none⟩) 5 1] 23 (0, 0)), (1192, .cells #[inN 7, inN 12] 3 (0, 0)), (1187, .cells #[inN 0] 3 (0, 0)), (1193, .cells #[inN 2, inN 5, inN 10, inN 20, inN 8] 3 (0, 0))], 1199, .tuple #[.slice (some ⟨1335, 0, none⟩) 4 1, inN 0], [(1335, .cells #[inN 2, inN 2, inN 3, inN 4] 3 (0, 0))], 1338⟩
theorem m30_1199_ok : isMemo m30_1199 (m30_1199.run Tryz.prog goFns strOrc 100000) = true := by decide +kernel
def m19_1347 : Memo :=
  ⟨19, #[.agg #[inN 5, inN 6, .slice (some ⟨1342, 0, none⟩) 2 1, .slice (some ⟨1343, 0, none⟩) 2 1, .slice (some ⟨1338, 0, none⟩) 1 1, .slice (some ⟨1344, 0, none⟩) 5 1], .slice (some ⟨1345, 0, none⟩) 2 2, .slice (some ⟨1346, 0, none⟩) 3 1], [(1346, .cells #[inN 1, inN 2, inN 3] 3 (0, 0)), (1345, .cells #[inN 0, inN (-1), inN 0, inN 1] 49 (0, 0)), (1341, .cells #[inN 1, inN 1, inN 2, inN 4, inN 8] 3 (0, 0)), (1340, .cells #[inN 3, inN 6, inN 12, inN 24, inN 16] 3 (0, 0)), (1342, .cells #[.slice (some ⟨1340, 0, none⟩) 5 1, .slice (some ⟨1341, 0, none⟩) 5 1] 23 (0, 0)), (1343, .cells #[inN 7, inN 12] 3 (0, 0)), (1338, .cells #[inN 0] 3 (0, 0)), (1344, .cells #[inN 2, inN 5, inN 10, inN 20, inN 8] 3 (0, 0))], 1347, .tuple #[.bool true, inN 0], [], 1382⟩
theorem m19_1347_ok : isMemo m19_1347 (m19_1347.run Tryz.prog goFns strOrc 100000) = true := by decide +kernel
def m31_1383 : Memo :=
  ⟨31, #[.slice (some ⟨1382, 0, none⟩) 2 2], [(1382, .cells #[inN 0, inN (-1), inN 0, inN 1] 49 (0, 0))], 1383, .tuple #[.string ⟨#[48, 32, 45, 10, 48, 32, 49, 10, 101, 110, 100, 32, 50, 32, 48, 54, 10]⟩, inN 0], [], 1392⟩
theorem m31_1383_ok : isMemo m31_1383 (m31_1383.run Tryz.prog goFns strOrc 100000) = true := by decide +kernel
end Go.Proofs.YtiaaikkmipmhnaaGreatDoor

namespace Go.Proofs.YtiaaikkmipmhnaaGreatDoor
open Go Go.CE Go.RowKit
noncomputable def orcTop : Orc := orElse strOrc (memoOrc [m11_8, m12_89, m27_230, m30_1199, m19_1347, m31_1383])
theorem orcTop_ok (B : Lo) : OrcS Tryz.prog B orcTop := orElse_ok (strOrc_ok _) (orcS_cons goFns_ok mixed_ok (strOrc_ok _) m11_8_ok (orcS_cons goFns_ok mixed_ok (strOrc_ok _) m12_89_ok (orcS_cons goFns_ok mixed_ok (strOrc_ok _) m27_230_ok (orcS_cons goFns_ok mixed_ok (strOrc_ok _) m30_1199_ok (orcS_cons goFns_ok mixed_ok (strOrc_ok _) m19_1347_ok (orcS_cons goFns_ok mixed_ok (strOrc_ok _) m31_1383_ok (orcS_nil _ _)))))))
theorem known_ans : isAns (callC Tryz.prog goFns orcTop 100000 9 #[] (heapOf 0 []) ([] : List (Array Value × TypeId)).length) (.bool true) [] = true := by decide +kernel
theorem known_true (w : World) : Calls Tryz.prog 9 #[] w fun e w' => e = .returned (.bool true) ∧ Below w.heap.size w w' := by
  have hc := calls_ans goFns_ok mixed_ok (at' := []) (args' := #[]) known_ans (w := w) (I := fun _ => True) (hI := fun _ _ _ _ => trivial) (orcTop_ok _) trivial rfl (fun i x a h => by simp at h) ⟨rfl, fun i v v' h => by simp at h⟩
  intro cs
  obtain ⟨e, w', fr, ⟨v', n', H', μ', he, hp, hv, hb, hun, hbel⟩, h1, h2, h3⟩ := hc cs
  exact ⟨e, w', fr, ⟨by rw [he, af_eq rfl hv], hbel⟩, h1, h2, h3⟩
theorem known : PureC Tryz.prog J0 9 #[] (.bool true) := fun fm w args' _ _ ha => by
  have e : args' = #[] := by exact Array.eq_empty_of_size_eq_zero ha.1.symm
  subst e
  exact (known_true w).mono fun _ _ h => ⟨_, h.1, h.2, .simple rfl⟩
end Go.Proofs.YtiaaikkmipmhnaaGreatDoor
