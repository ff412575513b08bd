/- Contract of the reference's SameSeen, at two lists that are equal. -/
import Derived.Test.YtffdidleebognaaGreatDoorZP17
import Derived.Test.YtffdidleebognaaGreatDoorZP10
import Derived.Test.YtffdidleebognaaGreatDoorZP09
namespace Go.Proofs.YtffdidleebognaaGreatDoor
open Go Go.RowKit Lens
set_option maxHeartbeats 1000000 in
theorem rSameSeen_true (a b : Option Addr) (n ca cb : Nat) (f : Nat → Seen) (w : World) (hn : n ≤ maxLen) (ha : SeensAt w w.heap.size a n f) (hb : SeensAt w w.heap.size b n f) :
    Calls Tryz.prog 23 #[.slice a n ca, .slice b n cb] w
   fun e' w' => e' = .returned (.bool true) ∧ Below w.heap.size w w' := by
  unfold maxLen at hn
  go_enter Tryz.func23, Tryz.ntmps23
  go_wp2
  go_loopw [5] (fun j wr => ∃ k : Nat, k ≤ n ∧ j = .int .i64 k ∧ Below w.heap.size w wr) (fun j _ => n - (intOf j).toNat)
  case atStart => exact ⟨0, Nat.zero_le _, rfl, Below.refl _ _⟩
  case round =>
    obtain ⟨k, hk, rfl, hBr⟩ := hrel
    obtain ⟨wo, rfl⟩ : ∃ wo : World, wo = wr := ⟨_, rfl⟩
    by_cases hlt : k < n
    · obtain ⟨ab, ao, rfl, hab, a0, a1, a2⟩ := seensGet (ha.below hBr (Nat.le_refl _)) hlt
      obtain ⟨bb, bo, rfl, hbb, b0, b1, b2⟩ := seensGet (hb.below hBr (Nat.le_refl _)) hlt
      have k0 : (0 : Int) ≤ (k : Int) := Int.natCast_nonneg _
      have k1 : (k : Int) < (n : Int) := by omega
      have HBr := Lib.hid hBr
      clear hBr
      go_wp2_with fail
      refine wp_region_keeps (B := w.heap.size) (by kernel_rfl) ?_
      intro hcl hM
      refine wpAnyM_take (i := 0) (oi := { dst := some 17, op := Op.move (Operand.tmp 0), type := 42, pos := "ref.go:313", after := #[], guard := none }) (v := ?_) rfl (by kernel_rfl) (by kernel_rfl) (by kernel_rfl) (by kernel_rfl) (fun _ _ _ h => h) (Or.inl ⟨by rfl, ?_⟩) hcl hM ?_
      rotate_left 1
      · intro wx hx; go_simp <;> with_reducible rfl
      clear hcl hM; intro hcl hM; try simp only [Act.put, List.setIfInBounds_toArray, List.set_cons_zero, List.set_cons_succ]
      refine wpAnyM_take (i := 1) (oi := { dst := some 18, op := Op.move (Operand.tmp 5), type := 3, pos := "ref.go:313", after := #[], guard := none }) (v := ?_) rfl (by kernel_rfl) (by kernel_rfl) (by kernel_rfl) (by kernel_rfl) (fun _ _ _ h => h) (Or.inl ⟨by rfl, ?_⟩) hcl hM ?_
      rotate_left 1
      · intro wx hx; go_simp <;> with_reducible rfl
      clear hcl hM; intro hcl hM; try simp only [Act.put, List.setIfInBounds_toArray, List.set_cons_zero, List.set_cons_succ]
      refine wpAnyM_take (i := 2) (oi := { dst := some 19, op := Op.indexAddr 42 (Operand.tmp 17) (Operand.tmp 18), type := 0, pos := "ref.go:313", after := #[{ on := 0, ground := Ground.data }, { on := 1, ground := Ground.data }], guard := none }) (v := ?_) rfl (by kernel_rfl) (by kernel_rfl) (by kernel_rfl) (by kernel_rfl) (fun _ _ _ h => h) (Or.inl ⟨by rfl, ?_⟩) hcl hM ?_
      rotate_left 1
      · intro wx hx; go_simp <;> with_reducible rfl
      clear hcl hM; intro hcl hM; try simp only [Act.put, List.setIfInBounds_toArray, List.set_cons_zero, List.set_cons_succ]
      refine wpAnyM_take (i := 3) (oi := { dst := some 20, op := Op.load 53 (Operand.tmp 19), type := 53, pos := "ref.go:313", after := #[{ on := 2, ground := Ground.data }], guard := none }) (v := ?_) rfl (by kernel_rfl) (by kernel_rfl) (by kernel_rfl) (by kernel_rfl) (fun _ _ _ h => h) (Or.inl ⟨by rfl, ?_⟩) hcl hM ?_
      rotate_left 1
      · intro wx hx; have hq := below_cells hx; have qa0 := hq ab (ao + k * 3) (by omega); have qa1 := hq ab (ao + k * 3 + 1) (by omega); have qa2 := hq ab (ao + k * 3 + 2) (by omega); have qb0 := hq bb (bo + k * 3) (by omega); have qb1 := hq bb (bo + k * 3 + 1) (by omega); have qb2 := hq bb (bo + k * 3 + 2) (by omega); clear hq; go_simp <;> with_reducible rfl
      clear hcl hM; intro hcl hM; try simp only [Act.put, List.setIfInBounds_toArray, List.set_cons_zero, List.set_cons_succ]
      refine wpAnyM_take (i := 4) (oi := { dst := some 21, op := Op.move (Operand.tmp 1), type := 42, pos := "ref.go:313", after := #[], guard := none }) (v := ?_) rfl (by kernel_rfl) (by kernel_rfl) (by kernel_rfl) (by kernel_rfl) (fun _ _ _ h => h) (Or.inl ⟨by rfl, ?_⟩) hcl hM ?_
      rotate_left 1
      · intro wx hx; go_simp <;> with_reducible rfl
      clear hcl hM; intro hcl hM; try simp only [Act.put, List.setIfInBounds_toArray, List.set_cons_zero, List.set_cons_succ]
      refine wpAnyM_take (i := 5) (oi := { dst := some 22, op := Op.move (Operand.tmp 5), type := 3, pos := "ref.go:313", after := #[], guard := none }) (v := ?_) rfl (by kernel_rfl) (by kernel_rfl) (by kernel_rfl) (by kernel_rfl) (fun _ _ _ h => h) (Or.inl ⟨by rfl, ?_⟩) hcl hM ?_
      rotate_left 1
      · intro wx hx; go_simp <;> with_reducible rfl
      clear hcl hM; intro hcl hM; try simp only [Act.put, List.setIfInBounds_toArray, List.set_cons_zero, List.set_cons_succ]
      refine wpAnyM_take (i := 6) (oi := { dst := some 23, op := Op.indexAddr 42 (Operand.tmp 21) (Operand.tmp 22), type := 0, pos := "ref.go:313", after := #[{ on := 4, ground := Ground.data }, { on := 5, ground := Ground.data }], guard := none }) (v := ?_) rfl (by kernel_rfl) (by kernel_rfl) (by kernel_rfl) (by kernel_rfl) (fun _ _ _ h => h) (Or.inl ⟨by rfl, ?_⟩) hcl hM ?_
      rotate_left 1
      · intro wx hx; go_simp <;> with_reducible rfl
      clear hcl hM; intro hcl hM; try simp only [Act.put, List.setIfInBounds_toArray, List.set_cons_zero, List.set_cons_succ]
      refine wpAnyM_take (i := 7) (oi := { dst := some 24, op := Op.load 53 (Operand.tmp 23), type := 53, pos := "ref.go:313", after := #[{ on := 6, ground := Ground.data }], guard := none }) (v := ?_) rfl (by kernel_rfl) (by kernel_rfl) (by kernel_rfl) (by kernel_rfl) (fun _ _ _ h => h) (Or.inl ⟨by rfl, ?_⟩) hcl hM ?_
      rotate_left 1
      · intro wx hx; have hq := below_cells hx; have qa0 := hq ab (ao + k * 3) (by omega); have qa1 := hq ab (ao + k * 3 + 1) (by omega); have qa2 := hq ab (ao + k * 3 + 2) (by omega); have qb0 := hq bb (bo + k * 3) (by omega); have qb1 := hq bb (bo + k * 3 + 1) (by omega); have qb2 := hq bb (bo + k * 3 + 2) (by omega); clear hq; go_simp <;> with_reducible rfl
      clear hcl hM; intro hcl hM; try simp only [Act.put, List.setIfInBounds_toArray, List.set_cons_zero, List.set_cons_succ]
      refine wpAnyM_take (i := 8) (oi := { dst := some 25, op := Op.binOp BinOp.neq 53 (Operand.tmp 20) (Operand.tmp 24) 53, type := 4, pos := "ref.go:313", after := #[{ on := 3, ground := Ground.data }, { on := 7, ground := Ground.data }], guard := none }) (v := ?_) rfl (by kernel_rfl) (by kernel_rfl) (by kernel_rfl) (by kernel_rfl) (fun _ _ _ h => h) (Or.inl ⟨by rfl, ?_⟩) hcl hM ?_
      rotate_left 1
      · intro wx hx; go_simp <;> with_reducible rfl
      clear hcl hM; intro hcl hM; try simp only [Act.put, List.setIfInBounds_toArray, List.set_cons_zero, List.set_cons_succ]
      refine wpAnyM_done (by kernel_rfl) ?_ _
      have hEnd := hM.1; clear hcl hM
      go_wp2_with fail
      go_roundw
      case rel => exact ⟨k + 1, by omega, by go_num, HBr.out.trans hEnd⟩
      case measure => simp [intOf]; omega
    · obtain rfl : k = n := by omega
      go_wp2
      go_ret
      exact ⟨rfl, hBr⟩
end Go.Proofs.YtffdidleebognaaGreatDoor
