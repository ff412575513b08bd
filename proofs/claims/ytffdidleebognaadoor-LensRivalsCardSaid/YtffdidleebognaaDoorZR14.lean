/- A step of the water, in the parts in which the reference takes it: nothing of Go stands here. -/
import Derived.Test.YtffdidleebognaaDoorZR08
import Derived.Test.YtffdidleebognaaDoorZR06
import Derived.Test.YtffdidleebognaaDoorZR13
import Derived.Test.YtffdidleebognaaDoorZR11
import Derived.Test.YtffdidleebognaaDoorZR12
namespace Lens
/-- The parts of a month: rain on roof and sand, what is there after it, the leak, what is taken and pumped. -/
structure Parts (i : Isl) (full : Int) (t : Tru) (k : Nat) (s : St) (r1 r2 a b g T M U : Int) : Prop where
  e1 : i.roof * t.rains k / 1000 = r1
  e2 : i.sand * t.rains k * t.soak / 1000000 = r2
  ea : (if s.tanks + r1 < full then s.tanks + r1 else full) = a
  eb : (if s.lens + r2 < i.cap then s.lens + r2 else i.cap) = b
  eg : b * t.leak / 1000 = g
  eT : (if t.needs k < a then t.needs k else a) = T
  eM : (if 0 < b - g - i.keep then b - g - i.keep else 0) = M
  eM' : (if i.keep < b - g then b - g - i.keep else 0) = M
  eU : (if M < (if i.pump < t.needs k - T then i.pump else t.needs k - T) then M else (if i.pump < t.needs k - T then i.pump else t.needs k - T)) = U
  out : stepSt i full t k s = ⟨a - T, b - g - U, t.needs k - T - U, s.rain + r1 + r2, s.used + T + U, s.leak + g, s.sea + s.tanks + r1 - a + s.lens + r2 - b⟩
  r10 : 0 ≤ r1
  r11 : r1 ≤ 200000
  r20 : 0 ≤ r2
  r21 : r2 ≤ 20000000
  a0 : 0 ≤ a
  a1 : a ≤ 400000000
  b0 : 0 ≤ b
  b1 : b ≤ 10000000
  g0 : 0 ≤ g
  g1 : g ≤ b
  T0 : 0 ≤ T
  T1 : T ≤ t.needs k
  T2 : T ≤ a
  M0 : 0 ≤ M
  U0 : 0 ≤ U
  U1 : U ≤ t.needs k - T
  U2 : U ≤ b - g
theorem parts {i : Isl} {tanks : Int} {t : Tru} (h : Fit i tanks t) {k : Nat} (hk : k < i.nm) {s : St} (hs : StOk i (i.size * tanks) k s) : ∃ r1 r2 a b g T M U, Parts i (i.size * tanks) t k s r1 r2 a b g T M U := by
  obtain ⟨f0, f1⟩ := full_le h
  obtain ⟨a0, a1⟩ := roof_le h hk
  obtain ⟨b0, b1⟩ := sand_le h hk
  obtain ⟨n0, n1⟩ := h.need k hk
  have c0 := h.cap0; have c1 := h.cap1; have p0 := h.pump0; have e0 := h.keep0
  obtain ⟨t0, t1, l0, l1, _, _, r0, r1, u0, u1, g0, g1, s0, s1⟩ := hs
  obtain ⟨R1, hR1⟩ : ∃ x, i.roof * t.rains k / 1000 = x := ⟨_, rfl⟩
  obtain ⟨R2, hR2⟩ : ∃ x, i.sand * t.rains k * t.soak / 1000000 = x := ⟨_, rfl⟩
  rw [hR1] at a0 a1
  rw [hR2] at b0 b1
  obtain ⟨A, hA⟩ : ∃ x, (if s.tanks + R1 < i.size * tanks then s.tanks + R1 else i.size * tanks) = x := ⟨_, rfl⟩
  obtain ⟨B, hB⟩ : ∃ x, (if s.lens + R2 < i.cap then s.lens + R2 else i.cap) = x := ⟨_, rfl⟩
  have A0 : 0 ≤ A := by omega
  have A1 : A ≤ 400000000 := by omega
  have B0 : 0 ≤ B := by omega
  have B1 : B ≤ i.cap := by omega
  have hA' : s.tanks + R1 - max 0 (s.tanks + R1 - i.size * tanks) = A := by omega
  have hB' : s.lens + R2 - max 0 (s.lens + R2 - i.cap) = B := by omega
  obtain ⟨d0, d1⟩ := leak_le B0 h.leak0 h.leak1
  obtain ⟨G, hG⟩ : ∃ x, B * t.leak / 1000 = x := ⟨_, rfl⟩
  rw [hG] at d0 d1
  obtain ⟨T, hT⟩ : ∃ x, (if t.needs k < A then t.needs k else A) = x := ⟨_, rfl⟩
  have hT' : min (t.needs k) A = T := by omega
  obtain ⟨M, hM⟩ : ∃ x, (if i.keep < B - G then B - G - i.keep else 0) = x := ⟨_, rfl⟩
  have hM' : max 0 (B - G - i.keep) = M := by omega
  obtain ⟨U, hU⟩ : ∃ x, (if M < (if i.pump < t.needs k - T then i.pump else t.needs k - T) then M else (if i.pump < t.needs k - T then i.pump else t.needs k - T)) = x := ⟨_, rfl⟩
  have hU' : min (min (t.needs k - T) i.pump) M = U := by omega
  refine ⟨R1, R2, A, B, G, T, M, U, hR1, hR2, hA, hB, hG, hT, by omega, hM, hU, ?_, a0, a1, b0, b1, A0, A1, B0, by omega, d0, d1, by omega, by omega, by omega, by omega, by omega, by omega, by omega⟩
  simp only [stepSt, hR1, hR2, hA', hB', hG, hT', hM', hU', St.mk.injEq, true_and]
  omega
end Lens

namespace Go.Proofs.YtffdidleebognaaDoor
open Go Go.CE Go.Proofs Go.RowKit Lens
end Go.Proofs.YtffdidleebognaaDoor
