/- A step of the water, in the parts in which the reference takes it: nothing of Go stands here. -/
import Derived.Test.YtffdidleebognaaGreatDoorZG08
import Derived.Test.YtffdidleebognaaGreatDoorZG06
import Derived.Test.YtffdidleebognaaGreatDoorZG13
import Derived.Test.YtffdidleebognaaGreatDoorZG11
import Derived.Test.YtffdidleebognaaGreatDoorZG12
namespace Lens
/-- The parts of a month: rain on roof and sand, what is there after it, the leak, what is taken and pumped. -/
structure Parts (i : Isl) (full : Int) (t : Tru) (k : Nat) (s : St) (r1 r2 a b g T M U : Int) : Prop where
  e1 : i.roof * t.rains k / 1000 = r1
  e2 : i.sand * t.rains k * t.soak / 1000000 = r2
  ea : (if s.tanks + r1 < full then s.tanks + r1 else full) = a
  eb : (if s.lens + r2 < i.cap then s.lens + r2 else i.cap) = b
  eg : b * t.leak / 1000 = g
  eT : (if t.needs k < a then t.needs k else a) = T
  eM : (if 0 < b - g - i.keep then b - g - i.keep else 0) = M
  eM' : (if i.keep < b - g then b - g - i.keep else 0) = M
  eU : (if M < (if i.pump < t.needs k - T then i.pump else t.needs k - T) then M else (if i.pump < t.needs k - T then i.pump else t.needs k - T)) = U
  out : stepSt i full t k s = ⟨a - T, b - g - U, t.needs k - T - U, s.rain + r1 + r2, s.used + T + U, s.leak + g, s.sea + s.tanks + r1 - a + s.lens + r2 - b⟩
  r10 : 0 ≤ r1
  r11 : r1 ≤ 200000
  r20 : 0 ≤ r2
  r21 : r2 ≤ 20000000
  a0 : 0 ≤ a
  a1 : a ≤ 400000000
  b0 : 0 ≤ b
  b1 : b ≤ 10000000
  g0 : 0 ≤ g
  g1 : g ≤ b
  T0 : 0 ≤ T
  T1 : T ≤ t.needs k
  T2 : T ≤ a
  M0 : 0 ≤ M
  U0 : 0 ≤ U
  U1 : U ≤ t.needs k - T
  U2 : U ≤ b - g
theorem parts {i : Isl} {tanks : Int} {t : Tru} (h : Fit i tanks t) {k : Nat} (hk : k < i.nm) {s : St} (hs : StOk i (i.size * tanks) k s) : ∃ r1 r2 a b g T M U, Parts i (i.size * tanks) t k s r1 r2 a b g T M U := by
  obtain ⟨f0, f1⟩ := full_le h
  obtain ⟨a0, a1⟩ := roof_le h hk
  obtain ⟨b0, b1⟩ := sand_le h hk
  obtain ⟨n0, n1⟩ := h.need k hk
  have c0 := h.cap0; have c1 := h.cap1; have p0 := h.pump0; have e0 := h.keep0
  obtain ⟨t0, t1, l0, l1, _, _, r0, r1, u0, u1, g0, g1, s0, s1⟩ := hs
  obtain ⟨R1, hR1⟩ : ∃ x, i.roof * t.rains k / 1000 = x := ⟨_, rfl⟩
  obtain ⟨R2, hR2⟩ : ∃ x, i.sand * t.rains k * t.soak / 1000000 = x := ⟨_, rfl⟩
  rw [hR1] at a0 a1
  rw [hR2] at b0 b1
  obtain ⟨A, hA⟩ : ∃ x, (if s.tanks + R1 < i.size * tanks then s.tanks + R1 else i.size * tanks) = x := ⟨_, rfl⟩
  obtain ⟨B, hB⟩ : ∃ x, (if s.lens + R2 < i.cap then s.lens + R2 else i.cap) = x := ⟨_, rfl⟩
  have A0 : 0 ≤ A := by omega
  have A1 : A ≤ 400000000 := by omega
  have B0 : 0 ≤ B := by omega
  have B1 : B ≤ i.cap := by omega
  have hA' : s.tanks + R1 - max 0 (s.tanks + R1 - i.size * tanks) = A := by omega
  have hB' : s.lens + R2 - max 0 (s.lens + R2 - i.cap) = B := by omega
  obtain ⟨d0, d1⟩ := leak_le B0 h.leak0 h.leak1
  obtain ⟨G, hG⟩ : ∃ x, B * t.leak / 1000 = x := ⟨_, rfl⟩
  rw [hG] at d0 d1
  obtain ⟨T, hT⟩ : ∃ x, (if t.needs k < A then t.needs k else A) = x := ⟨_, rfl⟩
  have hT' : min (t.needs k) A = T := by omega
  obtain ⟨M, hM⟩ : ∃ x, (if i.keep < B - G then B - G - i.keep else 0) = x := ⟨_, rfl⟩
  have hM' : max 0 (B - G - i.keep) = M := by omega
  obtain ⟨U, hU⟩ : ∃ x, (if M < (if i.pump < t.needs k - T then i.pump else t.needs k - T) then M else (if i.pump < t.needs k - T then i.pump else t.needs k - T)) = x := ⟨_, rfl⟩
  have hU' : min (min (t.needs k - T) i.pump) M = U := by omega
  refine ⟨R1, R2, A, B, G, T, M, U, hR1, hR2, hA, hB, hG, hT, by omega, hM, hU, ?_, a0, a1, b0, b1, A0, A1, B0, by omega, d0, d1, by omega, by omega, by omega, by omega, by omega, by omega, by omega⟩
  simp only [stepSt, hR1, hR2, hA', hB', hG, hT', hM', hU', St.mk.injEq, true_and]
  omega
end Lens

namespace Go.Proofs.YtffdidleebognaaGreatDoor
open Go Go.CE Go.Proofs Go.RowKit Lens
def rrunO (i : Isl) (t : Tru) (W M D : Value) (rb ro rs nb no ns : Nat) (full : Int) (s : St) : List (Bool × Obj) :=
  [(false, .cells (islC i W M) 27 (0, 0)), (false, .cells (truC t D (.slice (some ⟨rb, ro, some 0⟩) t.nr rs) (.slice (some ⟨nb, no, some 0⟩) t.nn ns)) 40 (0, 0)),
   (true, .cells #[.int .i64 0, .int .i64 0, .int .i64 0, .int .i64 0, .int .i64 0, .int .i64 0] 44 (0, 0)),
   (true, .cells #[.int .i64 s.tanks, .int .i64 s.lens, .int .i64 s.lack] 53 (0, 0)),
   (true, .cells #[.int .i64 (full + t.start), .int .i64 s.rain, .int .i64 s.used, .int .i64 s.leak, .int .i64 s.sea, .int .i64 0] 44 (0, 0))]
def rrunL (full : Int) (k : Nat) (out : Value) : List (Nat × Value) :=
  [(3, .pointer (some ⟨0, 0, none⟩)), (5, .pointer (some ⟨1, 0, none⟩)), (7, .pointer (some ⟨2, 0, none⟩)), (8, .int .i64 full), (9, .pointer (some ⟨3, 0, none⟩)), (10, .pointer (some ⟨4, 0, none⟩)), (11, out), (12, .int .i64 k)]
def rrunT : List It := [.code [1, 1, 1, 1, 1, 0, 1, 0, 0], .inLoop [1, 1, 1, 1, 1, 0, 1, 0, 0], .inBlock 0, .code [1, 1, 1, 1, 1, 1]]
set_option maxRecDepth 100000 in
theorem rrun_entry (B : Lo) (i : Isl) (t : Tru) (tanks : Int) (W M D : Value) (rb ro rs nb no ns : Nat) : land (srun Tryz.prog goFns B 15 0 (entryC Tryz.prog 22 168 [.agg (islC i W M), .int .i64 tanks, .agg (truC t D (.slice (some ⟨rb, ro, some 0⟩) t.nr rs) (.slice (some ⟨nb, no, some 0⟩) t.nn ns))]) [] 0
    [(7, Hint.val (Value.int IntKind.i64 (tanks * Isl.size i))),
(18, Hint.val (Value.int IntKind.i64 (tanks * Isl.size i + Tru.start t)))] 0 [] []) ((rrunL (tanks * i.size) 0 (.slice none 0 0)).map (·.1)) ((kz [0, 1, 2, 3, 4] (rrunO i t W M D rb ro rs nb no ns (tanks * i.size) ⟨tanks * i.size, t.start, 0, 0, 0, 0, 0⟩)).map (·.old)) = some ⟨22, 168, rrunT.map (it (bodyOf Tryz.prog 22)), [], .run, none, (rrunL (tanks * i.size) 0 (.slice none 0 0)).map (fun p => rnV (rhoK (kz [0, 1, 2, 3, 4] (rrunO i t W M D rb ro rs nb no ns (tanks * i.size) ⟨tanks * i.size, t.start, 0, 0, 0, 0, 0⟩))) 3 p.2), (kz [0, 1, 2, 3, 4] (rrunO i t W M D rb ro rs nb no ns (tanks * i.size) ⟨tanks * i.size, t.start, 0, 0, 0, 0, 0⟩)).map (fun kept_ => some (wasK (rhoK (kz [0, 1, 2, 3, 4] (rrunO i t W M D rb ro rs nb no ns (tanks * i.size) ⟨tanks * i.size, t.start, 0, 0, 0, 0, 0⟩))) kept_)), 5,
    [wq (tanks * Isl.size i + Tru.start t) = tanks * Isl.size i + Tru.start t,
wq (tanks * Isl.size i) = tanks * Isl.size i]⟩ := by kernel_rfl
set_option maxRecDepth 100000 in
theorem rrun_first (B : Lo) (i : Isl) (t : Tru) (W M D : Value) (rb ro rs nb no ns : Nat) (full : Int) (s : St) (rk nk r1 r2 a b g T MM U : Int) (d : Nat → Value) : land (srun Tryz.prog goFns B 29 0 (headC 22 168 (rrunL full 0 (.slice none 0 0)) d (rrunT.map (it (bodyOf Tryz.prog 22)))) (heapO 0 (rrunO i t W M D rb ro rs nb no ns full s)) ((rrunO i t W M D rb ro rs nb no ns full s)).length
    [(4, Hint.val (Value.bool true)),
(10, Hint.idx 0),
(11, Hint.raw (Value.int IntKind.i64 rk)),
(12, Hint.val (Value.int IntKind.i64 (Isl.roof i * rk))),
(13, Hint.val (Value.int IntKind.i64 r1)),
(19, Hint.idx 0),
(20, Hint.raw (Value.int IntKind.i64 rk)),
(21, Hint.val (Value.int IntKind.i64 (Isl.sand i * rk))),
(24, Hint.val (Value.int IntKind.i64 (Isl.sand i * rk * Tru.soak t))),
(25, Hint.val (Value.int IntKind.i64 r2)),
(32, Hint.val (Value.int IntKind.i64 (St.tanks s + r1))),
(33, Hint.val (Value.int IntKind.i64 a)),
(39, Hint.val (Value.int IntKind.i64 (St.lens s + r2))),
(40, Hint.val (Value.int IntKind.i64 b)),
(46, Hint.val (Value.int IntKind.i64 (St.rain s + r1))),
(48, Hint.val (Value.int IntKind.i64 (St.rain s + r1 + r2))),
(53, Hint.val (Value.int IntKind.i64 (St.sea s + St.tanks s))),
(55, Hint.val (Value.int IntKind.i64 (St.sea s + St.tanks s + r1))),
(57, Hint.val (Value.int IntKind.i64 (St.sea s + St.tanks s + r1 - a))),
(60, Hint.val (Value.int IntKind.i64 (St.sea s + St.tanks s + r1 - a + St.lens s))),
(62, Hint.val (Value.int IntKind.i64 (St.sea s + St.tanks s + r1 - a + St.lens s + r2))),
(64, Hint.val (Value.int IntKind.i64 (St.sea s + St.tanks s + r1 - a + St.lens s + r2 - b))),
(72, Hint.val (Value.int IntKind.i64 (b * Tru.leak t))),
(73, Hint.val (Value.int IntKind.i64 g)),
(78, Hint.val (Value.int IntKind.i64 (St.leak s + g))),
(81, Hint.val (Value.int IntKind.i64 (b - g))),
(89, Hint.idx 0),
(90, Hint.raw (Value.int IntKind.i64 nk)),
(91, Hint.val (Value.int IntKind.i64 T)),
(96, Hint.idx 0),
(97, Hint.raw (Value.int IntKind.i64 nk)),
(99, Hint.val (Value.int IntKind.i64 (nk - T))),
(105, Hint.val (Value.int IntKind.i64 (b - g - Isl.keep i))),
(106, Hint.val (Value.int IntKind.i64 MM)),
(107, Hint.val (Value.int IntKind.i64 U)),
(112, Hint.val (Value.int IntKind.i64 (St.used s + T))),
(114, Hint.val (Value.int IntKind.i64 (St.used s + T + U))),
(119, Hint.val (Value.int IntKind.i64 (a - T))),
(122, Hint.val (Value.int IntKind.i64 (b - g - U))),
(126, Hint.idx 0),
(127, Hint.raw (Value.int IntKind.i64 nk)),
(129, Hint.val (Value.int IntKind.i64 (nk - T))),
(131, Hint.val (Value.int IntKind.i64 (nk - T - U)))] 0 [] []) ((rrunL full 1 (.slice (some ⟨5, 0, none⟩) 1 3)).map (·.1)) ((kz [0, 1, 2, 3, 4, 6] (rrunO i t W M D rb ro rs nb no ns full ⟨a - T, b - g - U, nk - T - U, s.rain + r1 + r2, s.used + T + U, s.leak + g, s.sea + s.tanks + r1 - a + s.lens + r2 - b⟩ ++ [(false, Obj.cells #[.int .i64 (a - T), .int .i64 (b - g - U), .int .i64 (nk - T - U)] 53 (0, 0))])).map (·.old)) = some ⟨22, 168, rrunT.map (it (bodyOf Tryz.prog 22)), [], .run, none, (rrunL full 1 (.slice (some ⟨5, 0, none⟩) 1 3)).map (fun p => rnV (rhoK (kz [0, 1, 2, 3, 4, 6] (rrunO i t W M D rb ro rs nb no ns full ⟨a - T, b - g - U, nk - T - U, s.rain + r1 + r2, s.used + T + U, s.leak + g, s.sea + s.tanks + r1 - a + s.lens + r2 - b⟩ ++ [(false, Obj.cells #[.int .i64 (a - T), .int .i64 (b - g - U), .int .i64 (nk - T - U)] 53 (0, 0))]))) 3 p.2), (kz [0, 1, 2, 3, 4, 6] (rrunO i t W M D rb ro rs nb no ns full ⟨a - T, b - g - U, nk - T - U, s.rain + r1 + r2, s.used + T + U, s.leak + g, s.sea + s.tanks + r1 - a + s.lens + r2 - b⟩ ++ [(false, Obj.cells #[.int .i64 (a - T), .int .i64 (b - g - U), .int .i64 (nk - T - U)] 53 (0, 0))])).map (fun kept_ => some (wasK (rhoK (kz [0, 1, 2, 3, 4, 6] (rrunO i t W M D rb ro rs nb no ns full ⟨a - T, b - g - U, nk - T - U, s.rain + r1 + r2, s.used + T + U, s.leak + g, s.sea + s.tanks + r1 - a + s.lens + r2 - b⟩ ++ [(false, Obj.cells #[.int .i64 (a - T), .int .i64 (b - g - U), .int .i64 (nk - T - U)] 53 (0, 0))]))) kept_)), 7,
    [wq (nk - T - U) = nk - T - U,
wq (nk - T) = nk - T,
RawCell B nb (no + 0) (Value.int IntKind.i64 nk),
0 = (↑0 : Int) ∧ 0 < Tru.nn t,
wq (b - g - U) = b - g - U,
wq (a - T) = a - T,
wq (St.used s + T + U) = St.used s + T + U,
wq (St.used s + T) = St.used s + T,
(if MM < if Isl.pump i < nk - T then Isl.pump i else nk - T then MM
  else if Isl.pump i < nk - T then Isl.pump i else nk - T) =
  U,
(if b - g - Isl.keep i > 0 then b - g - Isl.keep i else 0) = MM,
wq (b - g - Isl.keep i) = b - g - Isl.keep i,
wq (nk - T) = nk - T,
RawCell B nb (no + 0) (Value.int IntKind.i64 nk),
0 = (↑0 : Int) ∧ 0 < Tru.nn t,
(if nk < a then nk else a) = T,
RawCell B nb (no + 0) (Value.int IntKind.i64 nk),
0 = (↑0 : Int) ∧ 0 < Tru.nn t,
wq (b - g) = b - g,
wq (St.leak s + g) = St.leak s + g,
IntKind.wrap IntKind.i64 (Int.tdiv (b * Tru.leak t) 1000) = g,
wq (b * Tru.leak t) = b * Tru.leak t,
wq (St.sea s + St.tanks s + r1 - a + St.lens s + r2 - b) = St.sea s + St.tanks s + r1 - a + St.lens s + r2 - b,
wq (St.sea s + St.tanks s + r1 - a + St.lens s + r2) = St.sea s + St.tanks s + r1 - a + St.lens s + r2,
wq (St.sea s + St.tanks s + r1 - a + St.lens s) = St.sea s + St.tanks s + r1 - a + St.lens s,
wq (St.sea s + St.tanks s + r1 - a) = St.sea s + St.tanks s + r1 - a,
wq (St.sea s + St.tanks s + r1) = St.sea s + St.tanks s + r1,
wq (St.sea s + St.tanks s) = St.sea s + St.tanks s,
wq (St.rain s + r1 + r2) = St.rain s + r1 + r2,
wq (St.rain s + r1) = St.rain s + r1,
(if St.lens s + r2 < Isl.cap i then St.lens s + r2 else Isl.cap i) = b,
wq (St.lens s + r2) = St.lens s + r2,
(if St.tanks s + r1 < full then St.tanks s + r1 else full) = a,
wq (St.tanks s + r1) = St.tanks s + r1,
IntKind.wrap IntKind.i64 (Int.tdiv (Isl.sand i * rk * Tru.soak t) 1000000) = r2,
wq (Isl.sand i * rk * Tru.soak t) = Isl.sand i * rk * Tru.soak t,
wq (Isl.sand i * rk) = Isl.sand i * rk,
RawCell B rb (ro + 0) (Value.int IntKind.i64 rk),
0 = (↑0 : Int) ∧ 0 < Tru.nr t,
IntKind.wrap IntKind.i64 (Int.tdiv (Isl.roof i * rk) 1000) = r1,
wq (Isl.roof i * rk) = Isl.roof i * rk,
RawCell B rb (ro + 0) (Value.int IntKind.i64 rk),
0 = (↑0 : Int) ∧ 0 < Tru.nr t,
ltq 0 (↑(Tru.nr t) : Int) = true]⟩ := by kernel_rfl
set_option maxRecDepth 100000 in
theorem rrun_round (B : Lo) (i : Isl) (t : Tru) (W M D : Value) (rb ro rs nb no ns k : Nat) (A : Array Value) (full : Int) (s : St) (rk nk r1 r2 a b g T MM U : Int) (d : Nat → Value) : land (srun Tryz.prog goFns B 29 0 (headC 22 168 (rrunL full k (.slice (some ⟨5, 0, none⟩) k 3)) d (rrunT.map (it (bodyOf Tryz.prog 22)))) (heapO 0 (rrunO i t W M D rb ro rs nb no ns full s ++ [(false, Obj.cells A 53 (0, 0))])) ((rrunO i t W M D rb ro rs nb no ns full s ++ [(false, Obj.cells A 53 (0, 0))])).length
    [(4, Hint.val (Value.bool true)),
(10, Hint.idx k),
(11, Hint.raw (Value.int IntKind.i64 rk)),
(12, Hint.val (Value.int IntKind.i64 (Isl.roof i * rk))),
(13, Hint.val (Value.int IntKind.i64 r1)),
(19, Hint.idx k),
(20, Hint.raw (Value.int IntKind.i64 rk)),
(21, Hint.val (Value.int IntKind.i64 (Isl.sand i * rk))),
(24, Hint.val (Value.int IntKind.i64 (Isl.sand i * rk * Tru.soak t))),
(25, Hint.val (Value.int IntKind.i64 r2)),
(32, Hint.val (Value.int IntKind.i64 (St.tanks s + r1))),
(33, Hint.val (Value.int IntKind.i64 a)),
(39, Hint.val (Value.int IntKind.i64 (St.lens s + r2))),
(40, Hint.val (Value.int IntKind.i64 b)),
(46, Hint.val (Value.int IntKind.i64 (St.rain s + r1))),
(48, Hint.val (Value.int IntKind.i64 (St.rain s + r1 + r2))),
(53, Hint.val (Value.int IntKind.i64 (St.sea s + St.tanks s))),
(55, Hint.val (Value.int IntKind.i64 (St.sea s + St.tanks s + r1))),
(57, Hint.val (Value.int IntKind.i64 (St.sea s + St.tanks s + r1 - a))),
(60, Hint.val (Value.int IntKind.i64 (St.sea s + St.tanks s + r1 - a + St.lens s))),
(62, Hint.val (Value.int IntKind.i64 (St.sea s + St.tanks s + r1 - a + St.lens s + r2))),
(64, Hint.val (Value.int IntKind.i64 (St.sea s + St.tanks s + r1 - a + St.lens s + r2 - b))),
(72, Hint.val (Value.int IntKind.i64 (b * Tru.leak t))),
(73, Hint.val (Value.int IntKind.i64 g)),
(78, Hint.val (Value.int IntKind.i64 (St.leak s + g))),
(81, Hint.val (Value.int IntKind.i64 (b - g))),
(89, Hint.idx k),
(90, Hint.raw (Value.int IntKind.i64 nk)),
(91, Hint.val (Value.int IntKind.i64 T)),
(96, Hint.idx k),
(97, Hint.raw (Value.int IntKind.i64 nk)),
(99, Hint.val (Value.int IntKind.i64 (nk - T))),
(105, Hint.val (Value.int IntKind.i64 (b - g - Isl.keep i))),
(106, Hint.val (Value.int IntKind.i64 MM)),
(107, Hint.val (Value.int IntKind.i64 U)),
(112, Hint.val (Value.int IntKind.i64 (St.used s + T))),
(114, Hint.val (Value.int IntKind.i64 (St.used s + T + U))),
(119, Hint.val (Value.int IntKind.i64 (a - T))),
(122, Hint.val (Value.int IntKind.i64 (b - g - U))),
(126, Hint.idx k),
(127, Hint.raw (Value.int IntKind.i64 nk)),
(129, Hint.val (Value.int IntKind.i64 (nk - T))),
(131, Hint.val (Value.int IntKind.i64 (nk - T - U))),
(137, Hint.app
  (A ++ #[Value.int IntKind.i64 (a - T), Value.int IntKind.i64 (b - g - U), Value.int IntKind.i64 (nk - T - U)])),
(140, Hint.val (Value.int IntKind.i64 ((↑k : Int) + 1)))] 0 [] []) ((rrunL full (k + 1) (.slice (some ⟨5, 0, none⟩) (k + 1) 3)).map (·.1)) ((kz [0, 1, 2, 3, 4, 7] (rrunO i t W M D rb ro rs nb no ns full ⟨a - T, b - g - U, nk - T - U, s.rain + r1 + r2, s.used + T + U, s.leak + g, s.sea + s.tanks + r1 - a + s.lens + r2 - b⟩ ++ [(false, Obj.cells (A ++ #[.int .i64 (a - T), .int .i64 (b - g - U), .int .i64 (nk - T - U)]) 53 (0, 0))])).map (·.old)) = some ⟨22, 168, rrunT.map (it (bodyOf Tryz.prog 22)), [], .run, none, (rrunL full (k + 1) (.slice (some ⟨5, 0, none⟩) (k + 1) 3)).map (fun p => rnV (rhoK (kz [0, 1, 2, 3, 4, 7] (rrunO i t W M D rb ro rs nb no ns full ⟨a - T, b - g - U, nk - T - U, s.rain + r1 + r2, s.used + T + U, s.leak + g, s.sea + s.tanks + r1 - a + s.lens + r2 - b⟩ ++ [(false, Obj.cells (A ++ #[.int .i64 (a - T), .int .i64 (b - g - U), .int .i64 (nk - T - U)]) 53 (0, 0))]))) 3 p.2), (kz [0, 1, 2, 3, 4, 7] (rrunO i t W M D rb ro rs nb no ns full ⟨a - T, b - g - U, nk - T - U, s.rain + r1 + r2, s.used + T + U, s.leak + g, s.sea + s.tanks + r1 - a + s.lens + r2 - b⟩ ++ [(false, Obj.cells (A ++ #[.int .i64 (a - T), .int .i64 (b - g - U), .int .i64 (nk - T - U)]) 53 (0, 0))])).map (fun kept_ => some (wasK (rhoK (kz [0, 1, 2, 3, 4, 7] (rrunO i t W M D rb ro rs nb no ns full ⟨a - T, b - g - U, nk - T - U, s.rain + r1 + r2, s.used + T + U, s.leak + g, s.sea + s.tanks + r1 - a + s.lens + r2 - b⟩ ++ [(false, Obj.cells (A ++ #[.int .i64 (a - T), .int .i64 (b - g - U), .int .i64 (nk - T - U)]) 53 (0, 0))]))) kept_)), 8,
    [wq ((↑k : Int) + 1) = (↑k : Int) + 1,
Array.size A = k * (2 + 1) ∧
  k + 1 ≤ maxLen ∧
    (k + 1) * TypeInfo.bytes Tryz.t53 ≤ 140737488355328 ∧
      A ++
          Array.extract
            #[Value.int IntKind.i64 (a - T), Value.int IntKind.i64 (b - g - U), Value.int IntKind.i64 (nk - T - U)] 0
            (0 + 1 * (2 + 1)) =
        A ++ #[Value.int IntKind.i64 (a - T), Value.int IntKind.i64 (b - g - U), Value.int IntKind.i64 (nk - T - U)],
wq (nk - T - U) = nk - T - U,
wq (nk - T) = nk - T,
RawCell B nb (no + k * 1) (Value.int IntKind.i64 nk),
(↑k : Int) = (↑k : Int) ∧ k < Tru.nn t,
wq (b - g - U) = b - g - U,
wq (a - T) = a - T,
wq (St.used s + T + U) = St.used s + T + U,
wq (St.used s + T) = St.used s + T,
(if MM < if Isl.pump i < nk - T then Isl.pump i else nk - T then MM
  else if Isl.pump i < nk - T then Isl.pump i else nk - T) =
  U,
(if b - g - Isl.keep i > 0 then b - g - Isl.keep i else 0) = MM,
wq (b - g - Isl.keep i) = b - g - Isl.keep i,
wq (nk - T) = nk - T,
RawCell B nb (no + k * 1) (Value.int IntKind.i64 nk),
(↑k : Int) = (↑k : Int) ∧ k < Tru.nn t,
(if nk < a then nk else a) = T,
RawCell B nb (no + k * 1) (Value.int IntKind.i64 nk),
(↑k : Int) = (↑k : Int) ∧ k < Tru.nn t,
wq (b - g) = b - g,
wq (St.leak s + g) = St.leak s + g,
IntKind.wrap IntKind.i64 (Int.tdiv (b * Tru.leak t) 1000) = g,
wq (b * Tru.leak t) = b * Tru.leak t,
wq (St.sea s + St.tanks s + r1 - a + St.lens s + r2 - b) = St.sea s + St.tanks s + r1 - a + St.lens s + r2 - b,
wq (St.sea s + St.tanks s + r1 - a + St.lens s + r2) = St.sea s + St.tanks s + r1 - a + St.lens s + r2,
wq (St.sea s + St.tanks s + r1 - a + St.lens s) = St.sea s + St.tanks s + r1 - a + St.lens s,
wq (St.sea s + St.tanks s + r1 - a) = St.sea s + St.tanks s + r1 - a,
wq (St.sea s + St.tanks s + r1) = St.sea s + St.tanks s + r1,
wq (St.sea s + St.tanks s) = St.sea s + St.tanks s,
wq (St.rain s + r1 + r2) = St.rain s + r1 + r2,
wq (St.rain s + r1) = St.rain s + r1,
(if St.lens s + r2 < Isl.cap i then St.lens s + r2 else Isl.cap i) = b,
wq (St.lens s + r2) = St.lens s + r2,
(if St.tanks s + r1 < full then St.tanks s + r1 else full) = a,
wq (St.tanks s + r1) = St.tanks s + r1,
IntKind.wrap IntKind.i64 (Int.tdiv (Isl.sand i * rk * Tru.soak t) 1000000) = r2,
wq (Isl.sand i * rk * Tru.soak t) = Isl.sand i * rk * Tru.soak t,
wq (Isl.sand i * rk) = Isl.sand i * rk,
RawCell B rb (ro + k * 1) (Value.int IntKind.i64 rk),
(↑k : Int) = (↑k : Int) ∧ k < Tru.nr t,
IntKind.wrap IntKind.i64 (Int.tdiv (Isl.roof i * rk) 1000) = r1,
wq (Isl.roof i * rk) = Isl.roof i * rk,
RawCell B rb (ro + k * 1) (Value.int IntKind.i64 rk),
(↑k : Int) = (↑k : Int) ∧ k < Tru.nr t,
ltq (↑k : Int) (↑(Tru.nr t) : Int) = true]⟩ := by kernel_rfl
set_option maxRecDepth 100000 in
theorem rrun_end (B : Lo) (i : Isl) (t : Tru) (W M D : Value) (rb ro rs nb no ns k : Nat) (A : Array Value) (full : Int) (s : St) (d : Nat → Value) : ended (srun Tryz.prog goFns B 11 0 (headC 22 168 (rrunL full k (.slice (some ⟨5, 0, none⟩) k 3)) d (rrunT.map (it (bodyOf Tryz.prog 22)))) (heapO 0 (rrunO i t W M D rb ro rs nb no ns full s ++ [(false, Obj.cells A 53 (0, 0))])) ((rrunO i t W M D rb ro rs nb no ns full s ++ [(false, Obj.cells A 53 (0, 0))])).length
    [(4, Hint.val (Value.bool false)),
(9, Hint.val (Value.int IntKind.i64 (St.tanks s + St.lens s)))] 0 [] []) [5] = some ⟨.ret (.tuple #[.slice (some ⟨5, 0, none⟩) k 3, .agg #[.int .i64 (full + t.start), .int .i64 s.rain, .int .i64 s.used, .int .i64 s.leak, .int .i64 s.sea, .int .i64 (s.tanks + s.lens)]]), [some (.cells A 53 (0, 0))], 6,
    [wq (St.tanks s + St.lens s) = St.tanks s + St.lens s,
ltq (↑k : Int) (↑(Tru.nr t) : Int) = false]⟩ := by kernel_rfl
def rseenE (i : Isl) (tanks : Int) (t : Tru) (k : Nat) : List Value := [.int .i64 (runTo i tanks t (k + 1)).tanks, .int .i64 (runTo i tanks t (k + 1)).lens, .int .i64 (runTo i tanks t (k + 1)).lack]
set_option maxRecDepth 100000 in
theorem rRun_any (i : Isl) (wa : Option Addr) (wc : Nat) (ma : Option Addr) (mc : Nat) (tanks : Int) (t : Tru) (da : Option Addr) (dc : Nat) (ra : Option Addr) (rc : Nat) (na : Option Addr) (nc : Nat) (w : World)
    (ht : TruAt w w.heap.size t da ra na) (h : Fit i tanks t) (h1 : 1 ≤ i.nm) :
    Calls Tryz.prog 22 #[islV i wa wc ma mc, .int .i64 tanks, truV t da dc ra rc na nc] w
   fun e' w' => (∃ g c, e' = .returned (.tuple #[.slice (some ⟨g, 0, none⟩) i.nm c, .agg #[.int .i64 (i.size * tanks + t.start), .int .i64 (runTo i tanks t i.nm).rain, .int .i64 (runTo i tanks t i.nm).used, .int .i64 (runTo i tanks t i.nm).leak, .int .i64 (runTo i tanks t i.nm).sea, .int .i64 ((runTo i tanks t i.nm).tanks + (runTo i tanks t i.nm).lens)]]) ∧
     w.heap.size ≤ g ∧ i.nm ≤ c ∧ c ≤ maxLen ∧ SeensAt w' w'.heap.size (some ⟨g, 0, none⟩) i.nm (fun k => seenOf (runTo i tanks t (k + 1)))) ∧ Below w.heap.size w w' := by
  have hnr := h.nr
  have hnn := h.nn
  obtain ⟨rb, ro, rfl, _, _⟩ := ht.rains (by omega)
  obtain ⟨nb, no, rfl, _, _⟩ := ht.needs (by omega)
  have hR : ∀ k, k < i.nm → RawCell (worldLo w) rb (ro + k * 1) (.int .i64 (t.rains k)) := fun k hk => intsRaw ht.rains (by omega)
  have hN : ∀ k, k < i.nm → RawCell (worldLo w) nb (no + k * 1) (.int .i64 (t.needs k)) := fun k hk => intsRaw ht.needs (by omega)
  obtain ⟨f0, f1⟩ := full_le h
  have hfull : tanks * i.size = i.size * tanks := Int.mul_comm _ _
  have hl0 : looseO (.cells (islC i (rawS wa i.nw wc) (rawS ma i.nm mc)) 27 (0, 0)) := loose_isl i wa wc ma mc
  have hl1 : looseO (.cells (truC t (rawS da t.nd dc) (.slice (some ⟨rb, ro, some 0⟩) t.nr rc) (.slice (some ⟨nb, no, some 0⟩) t.nn nc)) 40 (0, 0)) := loose_tru t da dc (some ⟨rb, ro, none⟩) rc (some ⟨nb, no, none⟩) nc
  have hok : ∀ s (m : Nat), m = 5 ∨ m = 6 → OkAll m (rrunO i t (rawS wa i.nw wc) (rawS ma i.nm mc) (rawS da t.nd dc) rb ro rc nb no nc (i.size * tanks) s) := by
    rintro s m (rfl | rfl)
    · exact ⟨.inr ⟨rfl, hl0⟩, .inr ⟨rfl, hl1⟩, .inl ⟨rfl, by kernel_rfl⟩, .inl ⟨rfl, by kernel_rfl⟩, .inl ⟨rfl, by kernel_rfl⟩, trivial⟩
    · exact ⟨.inr ⟨rfl, hl0⟩, .inr ⟨rfl, hl1⟩, .inl ⟨rfl, by kernel_rfl⟩, .inl ⟨rfl, by kernel_rfl⟩, .inl ⟨rfl, by kernel_rfl⟩, trivial⟩
  have hlA : ∀ k, looseO (.cells (rowA (rseenE i tanks t) k) 53 (0, 0)) := fun k => rowA_mem k fun j _ v hv => by
    simp only [rseenE, List.mem_cons, List.not_mem_nil, or_false] at hv
    rcases hv with rfl | rfl | rfl <;> exact loose_int _ _
  have hok' : ∀ s k, OkAll 6 (rrunO i t (rawS wa i.nw wc) (rawS ma i.nm mc) (rawS da t.nd dc) rb ro rc nb no nc (i.size * tanks) s ++ [(false, Obj.cells (rowA (rseenE i tanks t) k) 53 (0, 0))]) := by
    intro s k
    obtain ⟨a, b, c, d, e, _⟩ := hok s 6 (.inr rfl)
    exact ⟨a, b, c, d, e, .inr ⟨rfl, hlA k⟩, trivial⟩
  -- the leaves of a month
  have facts : ∀ k, k < i.nm → ∃ r1 r2 a b g T M U, Parts i (i.size * tanks) t k (runTo i tanks t k) r1 r2 a b g T M U ∧ StOk i (i.size * tanks) k (runTo i tanks t k) ∧ (0 ≤ t.needs k ∧ t.needs k ≤ 10000000) ∧ (0 ≤ i.roof * t.rains k ∧ i.roof * t.rains k ≤ 200000000) ∧ (0 ≤ i.sand * t.rains k ∧ i.sand * t.rains k ≤ 20000000000) ∧ (0 ≤ i.sand * t.rains k * t.soak ∧ i.sand * t.rains k * t.soak ≤ 20000000000000) ∧ (0 ≤ b * t.leak ∧ b * t.leak ≤ 10000000000) := by
    intro k hk
    have hs := runTo_ok h (k := k) (by omega)
    obtain ⟨r1, r2, a, b, g, T, M, U, hp⟩ := parts h hk hs
    refine ⟨r1, r2, a, b, g, T, M, U, hp, hs, h.need k hk, ?_, ?_, ?_, ?_⟩
    · obtain ⟨q0, q1⟩ := h.rain k hk
      exact ⟨Int.mul_nonneg h.roof0 q0, by have : i.roof * t.rains k ≤ 100000 * 2000 := Int.mul_le_mul h.roof1 q1 q0 (by omega); omega⟩
    · obtain ⟨q0, q1⟩ := h.rain k hk
      exact ⟨Int.mul_nonneg h.sand0 q0, by have : i.sand * t.rains k ≤ 10000000 * 2000 := Int.mul_le_mul h.sand1 q1 q0 (by omega); omega⟩
    · obtain ⟨q0, q1⟩ := h.rain k hk
      have p0 := Int.mul_nonneg h.sand0 q0
      have p1 : i.sand * t.rains k ≤ 10000000 * 2000 := Int.mul_le_mul h.sand1 q1 q0 (by omega)
      exact ⟨Int.mul_nonneg p0 h.soak0, by have : i.sand * t.rains k * t.soak ≤ 20000000000 * 1000 := Int.mul_le_mul (by omega) h.soak1 h.soak0 (by omega); omega⟩
    · exact ⟨Int.mul_nonneg hp.b0 h.leak0, by have : b * t.leak ≤ 10000000 * 1000 := Int.mul_le_mul hp.b1 h.leak1 h.leak0 (by omega); omega⟩
  have c0 := h.cap0; have c1 := h.cap1; have e0 := h.keep0; have e1 := h.keep1; have s0 := h.start0; have s1 := h.start1
  have entry := (GoE.refl (P := Tryz.prog) (B := worldLo w) (c0 := entryC Tryz.prog 22 168 [.agg (islC i (rawS wa i.nw wc) (rawS ma i.nm mc)), .int .i64 tanks, .agg (truC t (rawS da t.nd dc) (.slice (some ⟨rb, ro, some 0⟩) t.nr rc) (.slice (some ⟨nb, no, some 0⟩) t.nn nc))]) under_nil).headO goFns_ok mixed_ok
    (rrun_entry (worldLo w) i t tanks (rawS wa i.nw wc) (rawS ma i.nm mc) (rawS da t.nd dc) rb ro rc nb no nc) ⟨wq_in (by omega) (by omega), wq_in (by omega) (by omega), trivial⟩
    (by kernel_rfl) (by kernel_rfl) (by kernel_rfl) (by kernel_rfl) (by kernel_rfl) (by kernel_rfl) (by rw [hfull]; exact hok _ 5 (.inl rfl))
  rw [hfull] at entry
  have step : ∀ k, k < i.nm → ∃ d : Nat → Value, (∀ t, Loose (d t)) ∧ GoE Tryz.prog (worldLo w) (entryC Tryz.prog 22 168 [.agg (islC i (rawS wa i.nw wc) (rawS ma i.nm mc)), .int .i64 tanks, .agg (truC t (rawS da t.nd dc) (.slice (some ⟨rb, ro, some 0⟩) t.nr rc) (.slice (some ⟨nb, no, some 0⟩) t.nn nc))]) [] 0
      (headC 22 168 (rrunL (i.size * tanks) (k + 1) (.slice (some ⟨5, 0, none⟩) (k + 1) 3)) d (rrunT.map (it (bodyOf Tryz.prog 22)))) (heapO 0 (rrunO i t (rawS wa i.nw wc) (rawS ma i.nm mc) (rawS da t.nd dc) rb ro rc nb no nc (i.size * tanks) (runTo i tanks t (k + 1)) ++ [(false, Obj.cells (rowA (rseenE i tanks t) (k + 1)) 53 (0, 0))])) 6 [] := by
    intro k
    induction k with
    | zero =>
      intro hk
      obtain ⟨d, _, hg⟩ := entry
      obtain ⟨r1, r2, a, b, g, T, M, U, hp, hs, ⟨n0, n1⟩, ⟨m0, m1⟩, ⟨m2, m3⟩, ⟨m4, m5⟩, m6, m7⟩ := facts 0 hk
      have hout : runTo i tanks t (0 + 1) = ⟨a - T, b - g - U, t.needs 0 - T - U, (runTo i tanks t 0).rain + r1 + r2, (runTo i tanks t 0).used + T + U, (runTo i tanks t 0).leak + g, (runTo i tanks t 0).sea + (runTo i tanks t 0).tanks + r1 - a + (runTo i tanks t 0).lens + r2 - b⟩ := hp.out
      have hr := rrun_first (worldLo w) i t (rawS wa i.nw wc) (rawS ma i.nm mc) (rawS da t.nd dc) rb ro rc nb no nc (i.size * tanks) (runTo i tanks t 0) (t.rains 0) (t.needs 0) r1 r2 a b g T M U d
      have hA : rowA (rseenE i tanks t) (0 + 1) = #[.int .i64 (a - T), .int .i64 (b - g - U), .int .i64 (t.needs 0 - T - U)] := by simp [rowA, rseenE, hout]
      have := hok' (runTo i tanks t (0 + 1)) (0 + 1)
      rw [hout, hA] at this
      rw [hout, hA]
      obtain ⟨t0, t1, l0, l1, k0, k1, ra0, ra1, u0, u1, g0, g1, se0, se1⟩ := hs
      obtain ⟨x1, x2, xa, xb, xg, xT, xM, xM', xU, _, r10, r11, r20, r21, a0, a1, b0, b1, gg0, gg1, T0, T1, T2, M0, U0, U1, U2⟩ := hp
      refine hg.headO goFns_ok mixed_ok hr ?_ (by kernel_rfl) (by kernel_rfl) (by kernel_rfl) (by kernel_rfl) (by kernel_rfl) (by kernel_rfl) this
      have hRk := hR 0 hk
      have hNk := hN 0 hk
      clear hr hg hout hA this hR hN facts hok hok' hl0 hl1 hlA
      simp only [AllP]
      repeat' apply And.intro
      all_goals first
        | exact hRk
        | exact hNk
        | with_reducible exact ltq_t (by omega)
        | with_reducible exact wq_in (by omega) (by omega)
        | with_reducible assumption
        | with_reducible exact quo_in (by omega) (by decide) (by assumption) (by omega)
        | omega
        | trivial
    | succ k ih =>
      intro hk
      obtain ⟨d, _, hg⟩ := ih (by omega)
      obtain ⟨r1, r2, a, b, g, T, M, U, hp, hs, ⟨n0, n1⟩, ⟨m0, m1⟩, ⟨m2, m3⟩, ⟨m4, m5⟩, m6, m7⟩ := facts (k + 1) hk
      generalize hS : runTo i tanks t (k + 1) = S at *
      have hout : runTo i tanks t (k + 1 + 1) = ⟨a - T, b - g - U, t.needs (k + 1) - T - U, S.rain + r1 + r2, S.used + T + U, S.leak + g, S.sea + S.tanks + r1 - a + S.lens + r2 - b⟩ := by rw [← hS]; rw [← hS] at hp; exact hp.out
      have hr := rrun_round (worldLo w) i t (rawS wa i.nw wc) (rawS ma i.nm mc) (rawS da t.nd dc) rb ro rc nb no nc (k + 1) (rowA (rseenE i tanks t) (k + 1)) (i.size * tanks) S (t.rains (k + 1)) (t.needs (k + 1)) r1 r2 a b g T M U d
      have hA : rowA (rseenE i tanks t) (k + 1 + 1) = rowA (rseenE i tanks t) (k + 1) ++ #[.int .i64 (a - T), .int .i64 (b - g - U), .int .i64 (t.needs (k + 1) - T - U)] := by
        show rowA (rseenE i tanks t) (k + 1) ++ (rseenE i tanks t (k + 1)).toArray = _
        simp only [rseenE, hout]
      have hsz := rowA_size (e := rseenE i tanks t) (z := 3) (fun _ => rfl) (k + 1)
      have := hok' (runTo i tanks t (k + 1 + 1)) (k + 1 + 1)
      rw [hout, hA] at this
      rw [hout, hA]
      obtain ⟨t0, t1, l0, l1, k0, k1, ra0, ra1, u0, u1, g0, g1, se0, se1⟩ := hs
      obtain ⟨x1, x2, xa, xb, xg, xT, xM, xM', xU, _, r10, r11, r20, r21, a0, a1, b0, b1, gg0, gg1, T0, T1, T2, M0, U0, U1, U2⟩ := hp
      refine hg.headO goFns_ok mixed_ok hr ?_ (by kernel_rfl) (by kernel_rfl) (by kernel_rfl) (by kernel_rfl) (by kernel_rfl) (by kernel_rfl) this
      have hRk := hR (k + 1) hk
      have hNk := hN (k + 1) hk
      have hnm := h.nm
      have hby : Go.Proofs.Tryz.t53.bytes = 24 := by kernel_rfl
      generalize rowA (rseenE i tanks t) (k + 1) = AA at *
      clear hr hg hout hA this hR hN facts hok hok' hl0 hl1 hlA ih
      simp only [AllP]
      repeat' apply And.intro
      all_goals first
        | exact hRk
        | exact hNk
        | with_reducible exact ltq_t (by omega)
        | with_reducible exact wq_in (by omega) (by omega)
        | with_reducible assumption
        | with_reducible exact quo_in (by omega) (by decide) (by assumption) (by omega)
        | (unfold maxLen; omega)
        | (rw [hby]; omega)
        | omega
        | rfl
        | trivial
  obtain ⟨k, hk⟩ : ∃ k, i.nm = k + 1 := ⟨i.nm - 1, by omega⟩
  obtain ⟨d, _, hg⟩ := step k (by omega)
  rw [← hk] at hg
  have hr := rrun_end (worldLo w) i t (rawS wa i.nw wc) (rawS ma i.nm mc) (rawS da t.nd dc) rb ro rc nb no nc i.nm (rowA (rseenE i tanks t) i.nm) (i.size * tanks) (runTo i tanks t i.nm) d
  have hs := runTo_ok h (k := i.nm) (by omega)
  obtain ⟨t0, t1, l0, l1, k0, k1, ra0, ra1, u0, u1, g0, g1, se0, se1⟩ := hs
  have hcalls := hg.calls goFns_ok mixed_ok (f := 22) (args := #[.agg (islC i (rawS wa i.nw wc) (rawS ma i.nm mc)), .int .i64 tanks, .agg (truC t (rawS da t.nd dc) (.slice (some ⟨rb, ro, some 0⟩) t.nr rc) (.slice (some ⟨nb, no, some 0⟩) t.nn nc))])
    (args' := #[islV i wa wc ma mc, .int .i64 tanks, truV t da dc (some ⟨rb, ro, none⟩) rc (some ⟨nb, no, none⟩) nc]) (by kernel_rfl) hr ⟨wq_in (by omega) (by omega), ltq_f (by omega), trivial⟩ (worldLo_has w)
    (VRl.vrs' (.cons (vr_isl i wa wc ma mc) (.cons (.int _ _) (.cons (vr_tru t da dc (some ⟨rb, ro, none⟩) rc (some ⟨nb, no, none⟩) nc) .nil))))
  refine hcalls.mono fun en w' ⟨v', μ', he, hv, hb, hnew⟩ => ⟨?_, hb⟩
  obtain ⟨a', b', rfl, ha, hb'⟩ := hv.tuple2
  have hrow := af_row (hnew 0 5 (rowA (rseenE i tanks t) i.nm) 53 rfl rfl) (rowA_mem i.nm fun j _ v hv => by
    simp only [rseenE, List.mem_cons, List.not_mem_nil, or_false] at hv
    rcases hv with rfl | rfl | rfl <;> rfl)
  obtain ⟨g, cap, h1, h2, h3, h4⟩ := hrow
  obtain ⟨c, rfl, hc1, hc2⟩ := ha.slice_new h3
  have hb'' := af_eq (by kernel_rfl) hb'
  subst hb''
  refine ⟨g, c, he, h1, hc1, hc2, fun _ => ⟨g, 0, rfl, h2, fun k hk j hj => ?_⟩⟩
  refine h4 _ _ ?_
  rw [Nat.zero_add, rowA_get (z := 3) (fun _ => rfl) hj i.nm k hk]
  match j, hj with
  | 0, _ => rfl
  | 1, _ => rfl
  | 2, _ => rfl
end Go.Proofs.YtffdidleebognaaGreatDoor

