/- Facts about the water of a followed islet: nothing of Go stands here. -/
import Derived.Test.YtffdidleebognaaGreatDoorZLe01
namespace Lens
theorem run_cons (i : Isl) (tanks : Int) (t : Tru) (k : Nat) : (runTo i tanks t k).tanks + (runTo i tanks t k).lens + (runTo i tanks t k).used + (runTo i tanks t k).leak + (runTo i tanks t k).sea = i.size * tanks + t.start + (runTo i tanks t k).rain := by
  induction k with
  | zero => simp only [runTo]; omega
  | succ k ih => simp only [runTo, stepSt]; omega
def needSum (t : Tru) : Nat → Int
  | 0 => 0
  | k + 1 => needSum t k + t.needs k
def lackSum (i : Isl) (tanks : Int) (t : Tru) : Nat → Int
  | 0 => 0
  | k + 1 => lackSum i tanks t k + (runTo i tanks t (k + 1)).lack
theorem used_eq (i : Isl) (tanks : Int) (t : Tru) (k : Nat) : needSum t k - lackSum i tanks t k = (runTo i tanks t k).used := by
  induction k with
  | zero => simp only [needSum, lackSum, runTo]; omega
  | succ k ih => simp only [needSum, lackSum, runTo, stepSt]; omega
theorem needSum_le {i : Isl} {tanks : Int} {t : Tru} (h : Fit i tanks t) {k : Nat} (hk : k ≤ i.nm) : 0 ≤ needSum t k ∧ needSum t k ≤ k * 10000000 := by
  induction k with
  | zero => simp [needSum]
  | succ k ih =>
    have := ih (by omega)
    have := h.need k (by omega)
    simp only [needSum]
    omega
theorem lackSum_le {i : Isl} {tanks : Int} {t : Tru} (h : Fit i tanks t) {k : Nat} (hk : k ≤ i.nm) : 0 ≤ lackSum i tanks t k ∧ lackSum i tanks t k ≤ k * 10000000 := by
  induction k with
  | zero => simp [lackSum]
  | succ k ih =>
    have := ih (by omega)
    have h1 := runTo_ok h (k := k + 1) hk
    have := h1.k0
    have := h1.k1
    simp only [lackSum]
    omega
theorem lack_le {i : Isl} {tanks : Int} {t : Tru} (h : Fit i tanks t) {k : Nat} (hk : k < i.nm) : (runTo i tanks t (k + 1)).lack ≤ t.needs k := by
  have hs := runTo_ok h (k := k) (by omega)
  obtain ⟨f0, f1⟩ := full_le h
  obtain ⟨a0, a1⟩ := roof_le h hk
  obtain ⟨b0, b1⟩ := sand_le h hk
  obtain ⟨n0, n1⟩ := h.need k hk
  have c0 := h.cap0; have c1 := h.cap1; have p0 := h.pump0; have e0 := h.keep0
  obtain ⟨t0, t1, l0, l1, _, _, r0, r1, u0, u1, g0, g1, s0, s1⟩ := hs
  simp only [runTo, stepSt]
  omega
end Lens
