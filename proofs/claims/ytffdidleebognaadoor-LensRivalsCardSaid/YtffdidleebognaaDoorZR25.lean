/- Contract of rain. -/
import Derived.WalkLawsBesides
import Derived.Test.YtffdidleebognaaDoorZR18
import Derived.Test.YtffdidleebognaaDoorZR10
namespace Go.Proofs.YtffdidleebognaaDoor
open Go Go.RowKit Lens
theorem getSet {cs : Array Value} {i j : Nat} {v u : Value} (h : cs[i]? = some v) (hne : j ≠ i) : (cs.setIfInBounds j u)[i]? = some v := by
  rw [Array.getElem?_setIfInBounds_ne hne]; exact h
theorem getSame {cs : Array Value} {i : Nat} {v u : Value} (h : cs[i]? = some v) : (cs.setIfInBounds i u)[i]? = some u := by
  rw [Array.getElem?_setIfInBounds_self_of_lt]
  rcases Nat.lt_or_ge i cs.size with h1 | h1
  · exact h1
  · rw [Array.getElem?_eq_none h1] at h; cases h
set_option maxHeartbeats 4000000 in
theorem rain_any (b nb off : Nat) (cs : Array Value) (nn nc k : Nat) (rain tanks lens roof sand soak cap full r0 s0 : Int) (w : World) (hF : w.heap[b]? = some (.cells cs 93 (0, 0)))
    (h20 : cs[20]? = some (.slice (some ⟨nb, off, none⟩) nn nc)) (h23 : cs[23]? = some (.int .i64 k)) (hk : k < nn) (hrain : w.cell? ⟨nb, off + k, none⟩ = some (.int .i64 rain))
    (h24 : cs[24]? = some (.int .i64 tanks)) (h25 : cs[25]? = some (.int .i64 lens)) (h3 : cs[3]? = some (.int .i64 roof)) (h4 : cs[4]? = some (.int .i64 sand)) (h17 : cs[17]? = some (.int .i64 soak)) (h0 : cs[0]? = some (.int .i64 cap)) (h22 : cs[22]? = some (.int .i64 full))
    (h28 : cs[28]? = some (.int .i64 r0)) (h31 : cs[31]? = some (.int .i64 s0))
    (a0 : 0 ≤ rain) (a1 : rain ≤ 2000) (b0 : 0 ≤ tanks) (b1 : tanks ≤ 1000000000) (c0 : 0 ≤ lens) (c1 : lens ≤ 1000000000) (d0 : 0 ≤ roof) (d1 : roof ≤ 100000) (e0 : 0 ≤ sand) (e1 : sand ≤ 10000000) (g0 : 0 ≤ soak) (g1 : soak ≤ 1000)
    (i0 : 0 ≤ cap) (i1 : cap ≤ 1000000000) (j0 : 0 ≤ full) (j1 : full ≤ 1000000000) (l0 : 0 ≤ r0) (l1 : r0 ≤ 900000000000) (m0 : 0 ≤ s0) (m1 : s0 ≤ 900000000000) :
    Calls Tryd.prog 42 #[.pointer (some ⟨b, 0, none⟩)] w
   fun e' w' => e' = .returned (.tuple #[]) ∧ w'.heap[b]? = some (.cells ((((((cs.setIfInBounds 28 (.int .i64 (r0 + roof * rain / 1000))).setIfInBounds 31 (.int .i64 (s0 + max 0 (tanks + roof * rain / 1000 - full)))).setIfInBounds 24 (.int .i64 (tanks + roof * rain / 1000 - max 0 (tanks + roof * rain / 1000 - full)))).setIfInBounds
      28 (.int .i64 (r0 + roof * rain / 1000 + sand * rain * soak / 1000000))).setIfInBounds 31 (.int .i64 (s0 + max 0 (tanks + roof * rain / 1000 - full) + max 0 (lens + sand * rain * soak / 1000000 - cap)))).setIfInBounds 25 (.int .i64 (lens + sand * rain * soak / 1000000 - max 0 (lens + sand * rain * soak / 1000000 - cap)))) 93 (0, 0)) ∧ w.grownBy w' (some b) := by
  have p0 : 0 ≤ roof * rain := Int.mul_nonneg d0 a0
  have p1 : roof * rain ≤ 100000 * 2000 := Int.mul_le_mul d1 a1 a0 (by omega)
  have q0 : 0 ≤ sand * rain := Int.mul_nonneg e0 a0
  have q1 : sand * rain ≤ 10000000 * 2000 := Int.mul_le_mul e1 a1 a0 (by omega)
  have u0 : 0 ≤ sand * rain * soak := Int.mul_nonneg q0 g0
  have u1 : sand * rain * soak ≤ 10000000 * 2000 * 1000 := Int.mul_le_mul q1 g1 g0 (by omega)
  obtain ⟨A, hA⟩ : ∃ A, roof * rain / 1000 = A := ⟨_, rfl⟩
  obtain ⟨B, hB⟩ : ∃ B, sand * rain * soak / 1000000 = B := ⟨_, rfl⟩
  have A0 : 0 ≤ A := by omega
  have A1 : A ≤ 200000 := by omega
  have B0 : 0 ≤ B := by omega
  have B1 : B ≤ 20000000 := by omega
  obtain ⟨X, hX⟩ : ∃ X, max 0 (tanks + A - full) = X := ⟨_, rfl⟩
  obtain ⟨Y, hY⟩ : ∃ Y, max 0 (lens + B - cap) = Y := ⟨_, rfl⟩
  rw [hA, hB, hX, hY]
  have X0 : 0 ≤ X := by omega
  have X1 : X ≤ tanks + A := by omega
  have Y0 : 0 ≤ Y := by omega
  have Y1 : Y ≤ lens + B := by omega
  have HA := Lib.hid hA
  have HB := Lib.hid hB
  have HX := Lib.hid hX
  have HY := Lib.hid hY
  have HP0 := Lib.hid p0
  have HP1 := Lib.hid p1
  have HU0 := Lib.hid u0
  have HU1 := Lib.hid u1
  have HQ0 := Lib.hid q0
  have HQ1 := Lib.hid q1
  clear hA hB hX hY p0 p1 u0 u1 q0 q1
  have e20 := cellOf hF h20
  have e23 := cellOf hF h23
  have e24 := cellOf hF h24
  have e25 := cellOf hF h25
  have e3 := cellOf hF h3
  have e4 := cellOf hF h4
  have e17 := cellOf hF h17
  have e0' := cellOf hF h0
  have e22 := cellOf hF h22
  have f24 := freeOf (k := 24) hF
  have f25 := freeOf (k := 25) hF
  have hbl := ltOf hF
  have hnbl : nb < w.heap.size := World.block_lt_of_cell? w _ hrain
  have H28 := Lib.hid h28
  have H31 := Lib.hid h31
  have HF := Lib.hid hF
  clear hF h20 h23 h24 h25 h3 h4 h17 h0 h22 h28 h31
  have k0 : (0 : Int) ≤ (k : Int) := Int.natCast_nonneg _
  have k1 : (k : Int) < (nn : Int) := by omega
  go_enter Tryd.func42, Tryd.ntmps42
  go_wp2_with fail
  refine wp_region_keeps (B := w.heap.size) (by kernel_rfl) ?_
  intro hcl hM
  refine wpAnyM_take (i := 0) (oi := { dst := some 3, op := Op.move (Operand.tmp 0), type := 112, pos := "follow.go:36", after := #[], guard := none }) (v := ?_) rfl (by kernel_rfl) (by kernel_rfl) (by kernel_rfl) (by kernel_rfl) (fun _ _ _ h => h) (Or.inl ⟨by rfl, ?_⟩) hcl hM ?_
  rotate_left 1
  · intro wx hx; go_simp <;> with_reducible rfl
  clear hcl hM; intro hcl hM; try simp only [Act.put, List.setIfInBounds_toArray, List.set_cons_zero, List.set_cons_succ]
  refine wpAnyM_take (i := 1) (oi := { dst := some 4, op := Op.nilCheck (Operand.tmp 3), type := 0, pos := "follow.go:36", after := #[{ on := 0, ground := Ground.data }], guard := none }) (v := ?_) rfl (by kernel_rfl) (by kernel_rfl) (by kernel_rfl) (by kernel_rfl) (fun _ _ _ h => h) (Or.inl ⟨by rfl, ?_⟩) hcl hM ?_
  rotate_left 1
  · intro wx hx; go_simp <;> with_reducible rfl
  clear hcl hM; intro hcl hM; try simp only [Act.put, List.setIfInBounds_toArray, List.set_cons_zero, List.set_cons_succ]
  refine wpAnyM_take (i := 2) (oi := { dst := some 5, op := Op.fieldAddr 93 (Operand.tmp 4) 1, type := 0, pos := "follow.go:36", after := #[{ on := 1, ground := Ground.data }], guard := none }) (v := ?_) rfl (by kernel_rfl) (by kernel_rfl) (by kernel_rfl) (by kernel_rfl) (fun _ _ _ h => h) (Or.inl ⟨by rfl, ?_⟩) hcl hM ?_
  rotate_left 1
  · intro wx hx; go_simp <;> with_reducible rfl
  clear hcl hM; intro hcl hM; try simp only [Act.put, List.setIfInBounds_toArray, List.set_cons_zero, List.set_cons_succ]
  refine wpAnyM_take (i := 3) (oi := { dst := some 6, op := Op.fieldAddr 48 (Operand.tmp 5) 4, type := 0, pos := "follow.go:36", after := #[{ on := 2, ground := Ground.data }], guard := none }) (v := ?_) rfl (by kernel_rfl) (by kernel_rfl) (by kernel_rfl) (by kernel_rfl) (fun _ _ _ h => h) (Or.inl ⟨by rfl, ?_⟩) hcl hM ?_
  rotate_left 1
  · intro wx hx; go_simp <;> with_reducible rfl
  clear hcl hM; intro hcl hM; try simp only [Act.put, List.setIfInBounds_toArray, List.set_cons_zero, List.set_cons_succ]
  refine wpAnyM_take (i := 4) (oi := { dst := some 7, op := Op.load 24 (Operand.tmp 6), type := 24, pos := "follow.go:36", after := #[{ on := 3, ground := Ground.data }], guard := none }) (v := ?_) rfl (by kernel_rfl) (by kernel_rfl) (by kernel_rfl) (by kernel_rfl) (fun _ _ _ h => h) (Or.inl ⟨by rfl, ?_⟩) hcl hM ?_
  rotate_left 1
  · intro wx hx; have hq := below_cells hx; go_simp <;> with_reducible rfl
  clear hcl hM; intro hcl hM; try simp only [Act.put, List.setIfInBounds_toArray, List.set_cons_zero, List.set_cons_succ]
  refine wpAnyM_take (i := 5) (oi := { dst := some 8, op := Op.move (Operand.tmp 0), type := 112, pos := "follow.go:36", after := #[], guard := none }) (v := ?_) rfl (by kernel_rfl) (by kernel_rfl) (by kernel_rfl) (by kernel_rfl) (fun _ _ _ h => h) (Or.inl ⟨by rfl, ?_⟩) hcl hM ?_
  rotate_left 1
  · intro wx hx; go_simp <;> with_reducible rfl
  clear hcl hM; intro hcl hM; try simp only [Act.put, List.setIfInBounds_toArray, List.set_cons_zero, List.set_cons_succ]
  refine wpAnyM_take (i := 6) (oi := { dst := some 9, op := Op.nilCheck (Operand.tmp 8), type := 0, pos := "follow.go:36", after := #[{ on := 5, ground := Ground.data }], guard := none }) (v := ?_) rfl (by kernel_rfl) (by kernel_rfl) (by kernel_rfl) (by kernel_rfl) (fun _ _ _ h => h) (Or.inl ⟨by rfl, ?_⟩) hcl hM ?_
  rotate_left 1
  · intro wx hx; go_simp <;> with_reducible rfl
  clear hcl hM; intro hcl hM; try simp only [Act.put, List.setIfInBounds_toArray, List.set_cons_zero, List.set_cons_succ]
  refine wpAnyM_take (i := 7) (oi := { dst := some 10, op := Op.fieldAddr 93 (Operand.tmp 9) 3, type := 0, pos := "follow.go:36", after := #[{ on := 6, ground := Ground.data }], guard := none }) (v := ?_) rfl (by kernel_rfl) (by kernel_rfl) (by kernel_rfl) (by kernel_rfl) (fun _ _ _ h => h) (Or.inl ⟨by rfl, ?_⟩) hcl hM ?_
  rotate_left 1
  · intro wx hx; go_simp <;> with_reducible rfl
  clear hcl hM; intro hcl hM; try simp only [Act.put, List.setIfInBounds_toArray, List.set_cons_zero, List.set_cons_succ]
  refine wpAnyM_take (i := 8) (oi := { dst := some 11, op := Op.load 3 (Operand.tmp 10), type := 3, pos := "follow.go:36", after := #[{ on := 7, ground := Ground.data }], guard := none }) (v := ?_) rfl (by kernel_rfl) (by kernel_rfl) (by kernel_rfl) (by kernel_rfl) (fun _ _ _ h => h) (Or.inl ⟨by rfl, ?_⟩) hcl hM ?_
  rotate_left 1
  · intro wx hx; have hq := below_cells hx; go_simp <;> with_reducible rfl
  clear hcl hM; intro hcl hM; try simp only [Act.put, List.setIfInBounds_toArray, List.set_cons_zero, List.set_cons_succ]
  refine wpAnyM_take (i := 9) (oi := { dst := some 12, op := Op.indexAddr 24 (Operand.tmp 7) (Operand.tmp 11), type := 0, pos := "follow.go:36", after := #[{ on := 4, ground := Ground.data }, { on := 8, ground := Ground.data }], guard := none }) (v := ?_) rfl (by kernel_rfl) (by kernel_rfl) (by kernel_rfl) (by kernel_rfl) (fun _ _ _ h => h) (Or.inl ⟨by rfl, ?_⟩) hcl hM ?_
  rotate_left 1
  · intro wx hx; go_simp <;> with_reducible rfl
  clear hcl hM; intro hcl hM; try simp only [Act.put, List.setIfInBounds_toArray, List.set_cons_zero, List.set_cons_succ]
  refine wpAnyM_take (i := 10) (oi := { dst := some 13, op := Op.load 3 (Operand.tmp 12), type := 3, pos := "follow.go:36", after := #[{ on := 9, ground := Ground.data }], guard := none }) (v := ?_) rfl (by kernel_rfl) (by kernel_rfl) (by kernel_rfl) (by kernel_rfl) (fun _ _ _ h => h) (Or.inl ⟨by rfl, ?_⟩) hcl hM ?_
  rotate_left 1
  · intro wx hx; have hq := below_cells hx; go_simp <;> with_reducible rfl
  clear hcl hM; intro hcl hM; try simp only [Act.put, List.setIfInBounds_toArray, List.set_cons_zero, List.set_cons_succ]
  refine wpAnyM_take (i := 11) (oi := { dst := some 2, op := Op.assign (Operand.tmp 13), type := 3, pos := "follow.go:36", after := #[{ on := 10, ground := Ground.data }, { on := 0, ground := Ground.phase }, { on := 1, ground := Ground.phase }, { on := 2, ground := Ground.phase }, { on := 3, ground := Ground.phase }, { on := 4, ground := Ground.phase }, { on := 5, ground := Ground.phase }, { on := 6, ground := Ground.phase }, { on := 7, ground := Ground.phase }, { on := 8, ground := Ground.phase }, { on := 9, ground := Ground.phase }, { on := 10, ground := Ground.phase }], guard := none }) (v := ?_) rfl (by kernel_rfl) (by kernel_rfl) (by kernel_rfl) (by kernel_rfl) (fun _ _ _ h => h) (Or.inl ⟨by rfl, ?_⟩) hcl hM ?_
  rotate_left 1
  · intro wx hx; go_simp <;> with_reducible rfl
  clear hcl hM; intro hcl hM; try simp only [Act.put, List.setIfInBounds_toArray, List.set_cons_zero, List.set_cons_succ]
  refine wpAnyM_done (by kernel_rfl) ?_ _
  have hEnd := hM.1; clear hcl hM
  go_wp2_with fail
  refine wp_region_below (m := 18) (B := w.heap.size) (by kernel_rfl) ?_
  intro hcl hM
  refine wpAnyM_take (i := 0) (oi := { dst := some 14, op := Op.move (Operand.tmp 0), type := 112, pos := "follow.go:37", after := #[], guard := none }) (v := ?_) rfl (by kernel_rfl) (by kernel_rfl) (by kernel_rfl) (by kernel_rfl) (fun _ _ _ h => h) (Or.inl ⟨by rfl, ?_⟩) hcl hM ?_
  rotate_left 1
  · intro wx hx; go_simp <;> with_reducible rfl
  clear hcl hM; intro hcl hM; try simp only [Act.put, List.setIfInBounds_toArray, List.set_cons_zero, List.set_cons_succ]
  refine wpAnyM_take (i := 1) (oi := { dst := some 15, op := Op.move (Operand.tmp 0), type := 112, pos := "follow.go:37", after := #[], guard := none }) (v := ?_) rfl (by kernel_rfl) (by kernel_rfl) (by kernel_rfl) (by kernel_rfl) (fun _ _ _ h => h) (Or.inl ⟨by rfl, ?_⟩) hcl hM ?_
  rotate_left 1
  · intro wx hx; go_simp <;> with_reducible rfl
  clear hcl hM; intro hcl hM; try simp only [Act.put, List.setIfInBounds_toArray, List.set_cons_zero, List.set_cons_succ]
  refine wpAnyM_take (i := 2) (oi := { dst := some 16, op := Op.move (Operand.tmp 0), type := 112, pos := "follow.go:37", after := #[], guard := none }) (v := ?_) rfl (by kernel_rfl) (by kernel_rfl) (by kernel_rfl) (by kernel_rfl) (fun _ _ _ h => h) (Or.inl ⟨by rfl, ?_⟩) hcl hM ?_
  rotate_left 1
  · intro wx hx; go_simp <;> with_reducible rfl
  clear hcl hM; intro hcl hM; try simp only [Act.put, List.setIfInBounds_toArray, List.set_cons_zero, List.set_cons_succ]
  refine wpAnyM_take (i := 3) (oi := { dst := some 17, op := Op.nilCheck (Operand.tmp 16), type := 0, pos := "follow.go:37", after := #[{ on := 2, ground := Ground.data }], guard := none }) (v := ?_) rfl (by kernel_rfl) (by kernel_rfl) (by kernel_rfl) (by kernel_rfl) (fun _ _ _ h => h) (Or.inl ⟨by rfl, ?_⟩) hcl hM ?_
  rotate_left 1
  · intro wx hx; go_simp <;> with_reducible rfl
  clear hcl hM; intro hcl hM; try simp only [Act.put, List.setIfInBounds_toArray, List.set_cons_zero, List.set_cons_succ]
  refine wpAnyM_take (i := 4) (oi := { dst := some 18, op := Op.fieldAddr 93 (Operand.tmp 17) 4, type := 0, pos := "follow.go:37", after := #[{ on := 3, ground := Ground.data }], guard := none }) (v := ?_) rfl (by kernel_rfl) (by kernel_rfl) (by kernel_rfl) (by kernel_rfl) (fun _ _ _ h => h) (Or.inl ⟨by rfl, ?_⟩) hcl hM ?_
  rotate_left 1
  · intro wx hx; go_simp <;> with_reducible rfl
  clear hcl hM; intro hcl hM; try simp only [Act.put, List.setIfInBounds_toArray, List.set_cons_zero, List.set_cons_succ]
  refine wpAnyM_take0 (i := 5) (oi := { dst := some 19, op := Op.load 3 (Operand.tmp 18), type := 3, pos := "follow.go:37", after := #[{ on := 4, ground := Ground.data }], guard := none }) (v := ?_) rfl (by kernel_rfl) (by kernel_rfl) (by kernel_rfl) (by kernel_rfl) (by kernel_rfl) (by kernel_rfl) (fun _ _ _ h => h) (Or.inl ⟨by rfl, ?_⟩) hcl hM ?_
  rotate_left 1
  · intro wx hx; have hq := below_cells hx.2; go_simp <;> with_reducible rfl
  clear hcl hM; intro hcl hM; try simp only [Act.put, List.setIfInBounds_toArray, List.set_cons_zero, List.set_cons_succ]
  refine wpAnyM_take (i := 6) (oi := { dst := some 20, op := Op.move (Operand.tmp 0), type := 112, pos := "follow.go:37", after := #[], guard := none }) (v := ?_) rfl (by kernel_rfl) (by kernel_rfl) (by kernel_rfl) (by kernel_rfl) (fun _ _ _ h => h) (Or.inl ⟨by rfl, ?_⟩) hcl hM ?_
  rotate_left 1
  · intro wx hx; go_simp <;> with_reducible rfl
  clear hcl hM; intro hcl hM; try simp only [Act.put, List.setIfInBounds_toArray, List.set_cons_zero, List.set_cons_succ]
  refine wpAnyM_take (i := 7) (oi := { dst := some 21, op := Op.nilCheck (Operand.tmp 20), type := 0, pos := "follow.go:37", after := #[{ on := 6, ground := Ground.data }], guard := none }) (v := ?_) rfl (by kernel_rfl) (by kernel_rfl) (by kernel_rfl) (by kernel_rfl) (fun _ _ _ h => h) (Or.inl ⟨by rfl, ?_⟩) hcl hM ?_
  rotate_left 1
  · intro wx hx; go_simp <;> with_reducible rfl
  clear hcl hM; intro hcl hM; try simp only [Act.put, List.setIfInBounds_toArray, List.set_cons_zero, List.set_cons_succ]
  refine wpAnyM_take (i := 8) (oi := { dst := some 22, op := Op.fieldAddr 93 (Operand.tmp 21) 0, type := 0, pos := "follow.go:37", after := #[{ on := 7, ground := Ground.data }], guard := none }) (v := ?_) rfl (by kernel_rfl) (by kernel_rfl) (by kernel_rfl) (by kernel_rfl) (fun _ _ _ h => h) (Or.inl ⟨by rfl, ?_⟩) hcl hM ?_
  rotate_left 1
  · intro wx hx; go_simp <;> with_reducible rfl
  clear hcl hM; intro hcl hM; try simp only [Act.put, List.setIfInBounds_toArray, List.set_cons_zero, List.set_cons_succ]
  refine wpAnyM_take (i := 9) (oi := { dst := some 23, op := Op.fieldAddr 27 (Operand.tmp 22) 2, type := 0, pos := "follow.go:37", after := #[{ on := 8, ground := Ground.data }], guard := none }) (v := ?_) rfl (by kernel_rfl) (by kernel_rfl) (by kernel_rfl) (by kernel_rfl) (fun _ _ _ h => h) (Or.inl ⟨by rfl, ?_⟩) hcl hM ?_
  rotate_left 1
  · intro wx hx; go_simp <;> with_reducible rfl
  clear hcl hM; intro hcl hM; try simp only [Act.put, List.setIfInBounds_toArray, List.set_cons_zero, List.set_cons_succ]
  refine wpAnyM_take0 (i := 10) (oi := { dst := some 24, op := Op.load 3 (Operand.tmp 23), type := 3, pos := "follow.go:37", after := #[{ on := 9, ground := Ground.data }], guard := none }) (v := ?_) rfl (by kernel_rfl) (by kernel_rfl) (by kernel_rfl) (by kernel_rfl) (by kernel_rfl) (by kernel_rfl) (fun _ _ _ h => h) (Or.inl ⟨by rfl, ?_⟩) hcl hM ?_
  rotate_left 1
  · intro wx hx; have hq := below_cells hx.2; go_simp <;> with_reducible rfl
  clear hcl hM; intro hcl hM; try simp only [Act.put, List.setIfInBounds_toArray, List.set_cons_zero, List.set_cons_succ]
  refine wpAnyM_take (i := 11) (oi := { dst := some 25, op := Op.move (Operand.tmp 2), type := 3, pos := "follow.go:37", after := #[], guard := none }) (v := ?_) rfl (by kernel_rfl) (by kernel_rfl) (by kernel_rfl) (by kernel_rfl) (fun _ _ _ h => h) (Or.inl ⟨by rfl, ?_⟩) hcl hM ?_
  rotate_left 1
  · intro wx hx; go_simp <;> with_reducible rfl
  clear hcl hM; intro hcl hM; try simp only [Act.put, List.setIfInBounds_toArray, List.set_cons_zero, List.set_cons_succ]
  refine wpAnyM_take (i := 14) (oi := { dst := some 28, op := Op.move (Operand.tmp 0), type := 112, pos := "follow.go:37", after := #[], guard := none }) (v := ?_) rfl (by kernel_rfl) (by kernel_rfl) (by kernel_rfl) (by kernel_rfl) (fun _ _ _ h => h) (Or.inl ⟨by rfl, ?_⟩) hcl hM ?_
  rotate_left 1
  · intro wx hx; go_simp <;> with_reducible rfl
  clear hcl hM; intro hcl hM; try simp only [Act.put, List.setIfInBounds_toArray, List.set_cons_zero, List.set_cons_succ]
  refine wpAnyM_take (i := 15) (oi := { dst := some 29, op := Op.nilCheck (Operand.tmp 28), type := 0, pos := "follow.go:37", after := #[{ on := 14, ground := Ground.data }], guard := none }) (v := ?_) rfl (by kernel_rfl) (by kernel_rfl) (by kernel_rfl) (by kernel_rfl) (fun _ _ _ h => h) (Or.inl ⟨by rfl, ?_⟩) hcl hM ?_
  rotate_left 1
  · intro wx hx; go_simp <;> with_reducible rfl
  clear hcl hM; intro hcl hM; try simp only [Act.put, List.setIfInBounds_toArray, List.set_cons_zero, List.set_cons_succ]
  refine wpAnyM_take (i := 16) (oi := { dst := some 30, op := Op.fieldAddr 93 (Operand.tmp 29) 2, type := 0, pos := "follow.go:37", after := #[{ on := 15, ground := Ground.data }], guard := none }) (v := ?_) rfl (by kernel_rfl) (by kernel_rfl) (by kernel_rfl) (by kernel_rfl) (fun _ _ _ h => h) (Or.inl ⟨by rfl, ?_⟩) hcl hM ?_
  rotate_left 1
  · intro wx hx; go_simp <;> with_reducible rfl
  clear hcl hM; intro hcl hM; try simp only [Act.put, List.setIfInBounds_toArray, List.set_cons_zero, List.set_cons_succ]
  refine wpAnyM_take0 (i := 17) (oi := { dst := some 31, op := Op.load 3 (Operand.tmp 30), type := 3, pos := "follow.go:37", after := #[{ on := 16, ground := Ground.data }], guard := none }) (v := ?_) rfl (by kernel_rfl) (by kernel_rfl) (by kernel_rfl) (by kernel_rfl) (by kernel_rfl) (by kernel_rfl) (fun _ _ _ h => h) (Or.inl ⟨by rfl, ?_⟩) hcl hM ?_
  rotate_left 1
  · intro wx hx; have hq := below_cells hx.2; go_simp <;> with_reducible rfl
  clear hcl hM; intro hcl hM; try simp only [Act.put, List.setIfInBounds_toArray, List.set_cons_zero, List.set_cons_succ]
  refine wpAnyM_one (i := 12) (oi := { dst := some 26, op := Op.buildSlice 24 2 #[(0, Operand.tmp 24), (1, Operand.tmp 25)], type := 24, pos := "follow.go:37", after := #[{ on := 10, ground := Ground.data }, { on := 11, ground := Ground.data }], guard := none }) (by kernel_rfl) rfl (by rfl) hcl (fun K hK => ?_)
  have HK := Lib.hid hK; clear hK
  go_wp2_with fail
  refine HK.out _ _ ⟨trivial, fun _ => ?_⟩ ?_
  · have hS := hM.2 (by kernel_rfl); have hsS := hS.size; (try simp at hsS); repeat (first | with_reducible exact Below.refl _ _ | with_reducible assumption | with_reducible apply b_undrew | with_reducible apply b_drew | with_reducible apply b_alloc | with_reducible apply b_set | (show (_ : Nat) ≤ _; first | exact Nat.le_refl _ | focus (simp; done) | omega | (simp; omega)) | (refine Below.trans ?_ (Below.mono (by with_reducible assumption) ?_)))
  clear hcl hM HK; intro hcl hM
  refine wpAnyM_one (i := 13) (oi := { dst := some 27, op := Op.call { callee := Callee.value (Operand.func 60), args := #[Operand.const (Value.int IntKind.i64 1000), Operand.tmp 26], argTypes := #[2, 24] }, type := 3, pos := "follow.go:37", after := #[{ on := 12, ground := Ground.data }], guard := none }) (by kernel_rfl) rfl (by rfl) hcl (fun K hK => ?_)
  have HK := Lib.hid hK; clear hK
  go_wp2_with (go_at_call 60; refine (scaled2_any 1000 roof rain _ _ _ (by omega) (by (repeat with_reducible refine drewOf ?_); exact newOf _ (by simp)) d0 (by omega) HP0.out (by have := HP1.out; omega)).mono ?_; rintro e' w' ⟨rfl, rfl⟩; rw [HA.out])
  refine HK.out _ _ ⟨trivial, fun _ => ?_⟩ ?_
  · have hS := hM.2 (by kernel_rfl); have hsS := hS.size; (try simp at hsS); repeat (first | with_reducible exact Below.refl _ _ | with_reducible assumption | with_reducible apply b_undrew | with_reducible apply b_drew | with_reducible apply b_alloc | with_reducible apply b_set | (show (_ : Nat) ≤ _; first | exact Nat.le_refl _ | focus (simp; done) | omega | (simp; omega)) | (refine Below.trans ?_ (Below.mono (by with_reducible assumption) ?_)))
  clear hcl hM HK; intro hcl hM
  refine wpAnyM_one (i := 18) (oi := { dst := some 32, op := Op.call { callee := Callee.value (Operand.func 59), args := #[Operand.tmp 15, Operand.tmp 19, Operand.tmp 27, Operand.tmp 31], argTypes := #[112, 3, 3, 3] }, type := 3, pos := "follow.go:37", after := #[{ on := 1, ground := Ground.data }, { on := 5, ground := Ground.data }, { on := 13, ground := Ground.data }, { on := 17, ground := Ground.data }, { on := 13, ground := Ground.chain }], guard := none }) (by kernel_rfl) rfl (by rfl) hcl (fun K hK => ?_)
  have HK := Lib.hid hK; clear hK
  go_wp2_with (go_at_call 59; refine (fill_any b cs r0 s0 tanks A full _ (by repeat (first | with_reducible exact HF.out | with_reducible apply drewOf | with_reducible apply allocOf | with_reducible apply setOf')) H28.out H31.out b0 b1 A0 (by omega) j0 j1 l0 (by omega) m0 (by omega)).mono ?_; rintro e' w' ⟨rfl, rfl⟩; rw [HX.out])
  clear hcl hM; refine HK.out _ _ (marked_gone trivial (by kernel_rfl)) ?_; clear HK; intro hcl hM
  refine wpAnyM_take (i := 19) (oi := { dst := some 33, op := Op.nilCheck (Operand.tmp 14), type := 0, pos := "follow.go:37", after := #[{ on := 0, ground := Ground.data }, { on := 0, ground := Ground.phase }, { on := 1, ground := Ground.phase }, { on := 2, ground := Ground.phase }, { on := 3, ground := Ground.phase }, { on := 4, ground := Ground.phase }, { on := 5, ground := Ground.phase }, { on := 6, ground := Ground.phase }, { on := 7, ground := Ground.phase }, { on := 8, ground := Ground.phase }, { on := 9, ground := Ground.phase }, { on := 10, ground := Ground.phase }, { on := 11, ground := Ground.phase }, { on := 12, ground := Ground.phase }, { on := 13, ground := Ground.phase }, { on := 14, ground := Ground.phase }, { on := 15, ground := Ground.phase }, { on := 16, ground := Ground.phase }, { on := 17, ground := Ground.phase }, { on := 18, ground := Ground.phase }], guard := none }) (v := ?_) rfl (by kernel_rfl) (by kernel_rfl) (by kernel_rfl) (by kernel_rfl) (fun _ _ _ h => h) (Or.inl ⟨by rfl, ?_⟩) hcl hM ?_
  rotate_left 1
  · intro wx hx; go_simp <;> with_reducible rfl
  clear hcl hM; intro hcl hM; try simp only [Act.put, List.setIfInBounds_toArray, List.set_cons_zero, List.set_cons_succ]
  refine wpAnyM_take (i := 20) (oi := { dst := some 34, op := Op.fieldAddr 93 (Operand.tmp 33) 4, type := 0, pos := "follow.go:37", after := #[{ on := 19, ground := Ground.data }, { on := 0, ground := Ground.phase }, { on := 1, ground := Ground.phase }, { on := 2, ground := Ground.phase }, { on := 3, ground := Ground.phase }, { on := 4, ground := Ground.phase }, { on := 5, ground := Ground.phase }, { on := 6, ground := Ground.phase }, { on := 7, ground := Ground.phase }, { on := 8, ground := Ground.phase }, { on := 9, ground := Ground.phase }, { on := 10, ground := Ground.phase }, { on := 11, ground := Ground.phase }, { on := 12, ground := Ground.phase }, { on := 13, ground := Ground.phase }, { on := 14, ground := Ground.phase }, { on := 15, ground := Ground.phase }, { on := 16, ground := Ground.phase }, { on := 17, ground := Ground.phase }, { on := 18, ground := Ground.phase }], guard := none }) (v := ?_) rfl (by kernel_rfl) (by kernel_rfl) (by kernel_rfl) (by kernel_rfl) (fun _ _ _ h => h) (Or.inl ⟨by rfl, ?_⟩) hcl hM ?_
  rotate_left 1
  · intro wx hx; go_simp <;> with_reducible rfl
  clear hcl hM; intro hcl hM; try simp only [Act.put, List.setIfInBounds_toArray, List.set_cons_zero, List.set_cons_succ]
  refine wpAnyM_one (i := 21) (oi := { dst := none, op := Op.store 3 (Operand.tmp 34) (Operand.tmp 32), type := 0, pos := "follow.go:37", after := #[{ on := 20, ground := Ground.data }, { on := 18, ground := Ground.data }, { on := 18, ground := Ground.chain }, { on := 0, ground := Ground.phase }, { on := 1, ground := Ground.phase }, { on := 2, ground := Ground.phase }, { on := 3, ground := Ground.phase }, { on := 4, ground := Ground.phase }, { on := 5, ground := Ground.phase }, { on := 6, ground := Ground.phase }, { on := 7, ground := Ground.phase }, { on := 8, ground := Ground.phase }, { on := 9, ground := Ground.phase }, { on := 10, ground := Ground.phase }, { on := 11, ground := Ground.phase }, { on := 12, ground := Ground.phase }, { on := 13, ground := Ground.phase }, { on := 14, ground := Ground.phase }, { on := 15, ground := Ground.phase }, { on := 16, ground := Ground.phase }, { on := 17, ground := Ground.phase }, { on := 18, ground := Ground.phase }], guard := none }) (by kernel_rfl) rfl (by rfl) hcl (fun K hK => ?_)
  have HK := Lib.hid hK; clear hK
  go_wp2_with fail
  clear hcl hM; refine HK.out _ _ (marked_gone trivial (by kernel_rfl)) ?_; clear HK; intro hcl hM
  refine wpAnyM_done (by kernel_rfl) ?_ _
  clear hcl hM
  go_wp2_with fail
  refine wp_region_below (m := 24) (B := w.heap.size) (by kernel_rfl) ?_
  intro hcl hM
  refine wpAnyM_take (i := 0) (oi := { dst := some 35, op := Op.move (Operand.tmp 0), type := 112, pos := "follow.go:38", after := #[], guard := none }) (v := ?_) rfl (by kernel_rfl) (by kernel_rfl) (by kernel_rfl) (by kernel_rfl) (fun _ _ _ h => h) (Or.inl ⟨by rfl, ?_⟩) hcl hM ?_
  rotate_left 1
  · intro wx hx; go_simp <;> with_reducible rfl
  clear hcl hM; intro hcl hM; try simp only [Act.put, List.setIfInBounds_toArray, List.set_cons_zero, List.set_cons_succ]
  refine wpAnyM_take (i := 1) (oi := { dst := some 36, op := Op.move (Operand.tmp 0), type := 112, pos := "follow.go:38", after := #[], guard := none }) (v := ?_) rfl (by kernel_rfl) (by kernel_rfl) (by kernel_rfl) (by kernel_rfl) (fun _ _ _ h => h) (Or.inl ⟨by rfl, ?_⟩) hcl hM ?_
  rotate_left 1
  · intro wx hx; go_simp <;> with_reducible rfl
  clear hcl hM; intro hcl hM; try simp only [Act.put, List.setIfInBounds_toArray, List.set_cons_zero, List.set_cons_succ]
  refine wpAnyM_take (i := 2) (oi := { dst := some 37, op := Op.move (Operand.tmp 0), type := 112, pos := "follow.go:38", after := #[], guard := none }) (v := ?_) rfl (by kernel_rfl) (by kernel_rfl) (by kernel_rfl) (by kernel_rfl) (fun _ _ _ h => h) (Or.inl ⟨by rfl, ?_⟩) hcl hM ?_
  rotate_left 1
  · intro wx hx; go_simp <;> with_reducible rfl
  clear hcl hM; intro hcl hM; try simp only [Act.put, List.setIfInBounds_toArray, List.set_cons_zero, List.set_cons_succ]
  refine wpAnyM_take (i := 3) (oi := { dst := some 38, op := Op.nilCheck (Operand.tmp 37), type := 0, pos := "follow.go:38", after := #[{ on := 2, ground := Ground.data }], guard := none }) (v := ?_) rfl (by kernel_rfl) (by kernel_rfl) (by kernel_rfl) (by kernel_rfl) (fun _ _ _ h => h) (Or.inl ⟨by rfl, ?_⟩) hcl hM ?_
  rotate_left 1
  · intro wx hx; go_simp <;> with_reducible rfl
  clear hcl hM; intro hcl hM; try simp only [Act.put, List.setIfInBounds_toArray, List.set_cons_zero, List.set_cons_succ]
  refine wpAnyM_take (i := 4) (oi := { dst := some 39, op := Op.fieldAddr 93 (Operand.tmp 38) 5, type := 0, pos := "follow.go:38", after := #[{ on := 3, ground := Ground.data }], guard := none }) (v := ?_) rfl (by kernel_rfl) (by kernel_rfl) (by kernel_rfl) (by kernel_rfl) (fun _ _ _ h => h) (Or.inl ⟨by rfl, ?_⟩) hcl hM ?_
  rotate_left 1
  · intro wx hx; go_simp <;> with_reducible rfl
  clear hcl hM; intro hcl hM; try simp only [Act.put, List.setIfInBounds_toArray, List.set_cons_zero, List.set_cons_succ]
  refine wpAnyM_take0 (i := 5) (oi := { dst := some 40, op := Op.load 3 (Operand.tmp 39), type := 3, pos := "follow.go:38", after := #[{ on := 4, ground := Ground.data }], guard := none }) (v := ?_) rfl (by kernel_rfl) (by kernel_rfl) (by kernel_rfl) (by kernel_rfl) (by kernel_rfl) (by kernel_rfl) (fun _ _ _ h => h) (Or.inl ⟨by rfl, ?_⟩) hcl hM ?_
  rotate_left 1
  · intro wx hx; have hq := below_cells hx.2; go_simp <;> with_reducible rfl
  clear hcl hM; intro hcl hM; try simp only [Act.put, List.setIfInBounds_toArray, List.set_cons_zero, List.set_cons_succ]
  refine wpAnyM_take (i := 6) (oi := { dst := some 41, op := Op.move (Operand.tmp 0), type := 112, pos := "follow.go:38", after := #[], guard := none }) (v := ?_) rfl (by kernel_rfl) (by kernel_rfl) (by kernel_rfl) (by kernel_rfl) (fun _ _ _ h => h) (Or.inl ⟨by rfl, ?_⟩) hcl hM ?_
  rotate_left 1
  · intro wx hx; go_simp <;> with_reducible rfl
  clear hcl hM; intro hcl hM; try simp only [Act.put, List.setIfInBounds_toArray, List.set_cons_zero, List.set_cons_succ]
  refine wpAnyM_take (i := 7) (oi := { dst := some 42, op := Op.nilCheck (Operand.tmp 41), type := 0, pos := "follow.go:38", after := #[{ on := 6, ground := Ground.data }], guard := none }) (v := ?_) rfl (by kernel_rfl) (by kernel_rfl) (by kernel_rfl) (by kernel_rfl) (fun _ _ _ h => h) (Or.inl ⟨by rfl, ?_⟩) hcl hM ?_
  rotate_left 1
  · intro wx hx; go_simp <;> with_reducible rfl
  clear hcl hM; intro hcl hM; try simp only [Act.put, List.setIfInBounds_toArray, List.set_cons_zero, List.set_cons_succ]
  refine wpAnyM_take (i := 8) (oi := { dst := some 43, op := Op.fieldAddr 93 (Operand.tmp 42) 0, type := 0, pos := "follow.go:38", after := #[{ on := 7, ground := Ground.data }], guard := none }) (v := ?_) rfl (by kernel_rfl) (by kernel_rfl) (by kernel_rfl) (by kernel_rfl) (fun _ _ _ h => h) (Or.inl ⟨by rfl, ?_⟩) hcl hM ?_
  rotate_left 1
  · intro wx hx; go_simp <;> with_reducible rfl
  clear hcl hM; intro hcl hM; try simp only [Act.put, List.setIfInBounds_toArray, List.set_cons_zero, List.set_cons_succ]
  refine wpAnyM_take (i := 9) (oi := { dst := some 44, op := Op.fieldAddr 27 (Operand.tmp 43) 3, type := 0, pos := "follow.go:38", after := #[{ on := 8, ground := Ground.data }], guard := none }) (v := ?_) rfl (by kernel_rfl) (by kernel_rfl) (by kernel_rfl) (by kernel_rfl) (fun _ _ _ h => h) (Or.inl ⟨by rfl, ?_⟩) hcl hM ?_
  rotate_left 1
  · intro wx hx; go_simp <;> with_reducible rfl
  clear hcl hM; intro hcl hM; try simp only [Act.put, List.setIfInBounds_toArray, List.set_cons_zero, List.set_cons_succ]
  refine wpAnyM_take0 (i := 10) (oi := { dst := some 45, op := Op.load 3 (Operand.tmp 44), type := 3, pos := "follow.go:38", after := #[{ on := 9, ground := Ground.data }], guard := none }) (v := ?_) rfl (by kernel_rfl) (by kernel_rfl) (by kernel_rfl) (by kernel_rfl) (by kernel_rfl) (by kernel_rfl) (fun _ _ _ h => h) (Or.inl ⟨by rfl, ?_⟩) hcl hM ?_
  rotate_left 1
  · intro wx hx; have hq := below_cells hx.2; go_simp <;> with_reducible rfl
  clear hcl hM; intro hcl hM; try simp only [Act.put, List.setIfInBounds_toArray, List.set_cons_zero, List.set_cons_succ]
  refine wpAnyM_take (i := 11) (oi := { dst := some 46, op := Op.move (Operand.tmp 2), type := 3, pos := "follow.go:38", after := #[], guard := none }) (v := ?_) rfl (by kernel_rfl) (by kernel_rfl) (by kernel_rfl) (by kernel_rfl) (fun _ _ _ h => h) (Or.inl ⟨by rfl, ?_⟩) hcl hM ?_
  rotate_left 1
  · intro wx hx; go_simp <;> with_reducible rfl
  clear hcl hM; intro hcl hM; try simp only [Act.put, List.setIfInBounds_toArray, List.set_cons_zero, List.set_cons_succ]
  refine wpAnyM_take (i := 12) (oi := { dst := some 47, op := Op.move (Operand.tmp 0), type := 112, pos := "follow.go:38", after := #[], guard := none }) (v := ?_) rfl (by kernel_rfl) (by kernel_rfl) (by kernel_rfl) (by kernel_rfl) (fun _ _ _ h => h) (Or.inl ⟨by rfl, ?_⟩) hcl hM ?_
  rotate_left 1
  · intro wx hx; go_simp <;> with_reducible rfl
  clear hcl hM; intro hcl hM; try simp only [Act.put, List.setIfInBounds_toArray, List.set_cons_zero, List.set_cons_succ]
  refine wpAnyM_take (i := 13) (oi := { dst := some 48, op := Op.nilCheck (Operand.tmp 47), type := 0, pos := "follow.go:38", after := #[{ on := 12, ground := Ground.data }], guard := none }) (v := ?_) rfl (by kernel_rfl) (by kernel_rfl) (by kernel_rfl) (by kernel_rfl) (fun _ _ _ h => h) (Or.inl ⟨by rfl, ?_⟩) hcl hM ?_
  rotate_left 1
  · intro wx hx; go_simp <;> with_reducible rfl
  clear hcl hM; intro hcl hM; try simp only [Act.put, List.setIfInBounds_toArray, List.set_cons_zero, List.set_cons_succ]
  refine wpAnyM_take (i := 14) (oi := { dst := some 49, op := Op.fieldAddr 93 (Operand.tmp 48) 1, type := 0, pos := "follow.go:38", after := #[{ on := 13, ground := Ground.data }], guard := none }) (v := ?_) rfl (by kernel_rfl) (by kernel_rfl) (by kernel_rfl) (by kernel_rfl) (fun _ _ _ h => h) (Or.inl ⟨by rfl, ?_⟩) hcl hM ?_
  rotate_left 1
  · intro wx hx; go_simp <;> with_reducible rfl
  clear hcl hM; intro hcl hM; try simp only [Act.put, List.setIfInBounds_toArray, List.set_cons_zero, List.set_cons_succ]
  refine wpAnyM_take (i := 15) (oi := { dst := some 50, op := Op.fieldAddr 48 (Operand.tmp 49) 1, type := 0, pos := "follow.go:38", after := #[{ on := 14, ground := Ground.data }], guard := none }) (v := ?_) rfl (by kernel_rfl) (by kernel_rfl) (by kernel_rfl) (by kernel_rfl) (fun _ _ _ h => h) (Or.inl ⟨by rfl, ?_⟩) hcl hM ?_
  rotate_left 1
  · intro wx hx; go_simp <;> with_reducible rfl
  clear hcl hM; intro hcl hM; try simp only [Act.put, List.setIfInBounds_toArray, List.set_cons_zero, List.set_cons_succ]
  refine wpAnyM_take0 (i := 16) (oi := { dst := some 51, op := Op.load 3 (Operand.tmp 50), type := 3, pos := "follow.go:38", after := #[{ on := 15, ground := Ground.data }], guard := none }) (v := ?_) rfl (by kernel_rfl) (by kernel_rfl) (by kernel_rfl) (by kernel_rfl) (by kernel_rfl) (by kernel_rfl) (fun _ _ _ h => h) (Or.inl ⟨by rfl, ?_⟩) hcl hM ?_
  rotate_left 1
  · intro wx hx; have hq := below_cells hx.2; go_simp <;> with_reducible rfl
  clear hcl hM; intro hcl hM; try simp only [Act.put, List.setIfInBounds_toArray, List.set_cons_zero, List.set_cons_succ]
  refine wpAnyM_take (i := 19) (oi := { dst := some 54, op := Op.move (Operand.tmp 0), type := 112, pos := "follow.go:38", after := #[], guard := none }) (v := ?_) rfl (by kernel_rfl) (by kernel_rfl) (by kernel_rfl) (by kernel_rfl) (fun _ _ _ h => h) (Or.inl ⟨by rfl, ?_⟩) hcl hM ?_
  rotate_left 1
  · intro wx hx; go_simp <;> with_reducible rfl
  clear hcl hM; intro hcl hM; try simp only [Act.put, List.setIfInBounds_toArray, List.set_cons_zero, List.set_cons_succ]
  refine wpAnyM_take (i := 20) (oi := { dst := some 55, op := Op.nilCheck (Operand.tmp 54), type := 0, pos := "follow.go:38", after := #[{ on := 19, ground := Ground.data }], guard := none }) (v := ?_) rfl (by kernel_rfl) (by kernel_rfl) (by kernel_rfl) (by kernel_rfl) (fun _ _ _ h => h) (Or.inl ⟨by rfl, ?_⟩) hcl hM ?_
  rotate_left 1
  · intro wx hx; go_simp <;> with_reducible rfl
  clear hcl hM; intro hcl hM; try simp only [Act.put, List.setIfInBounds_toArray, List.set_cons_zero, List.set_cons_succ]
  refine wpAnyM_take (i := 21) (oi := { dst := some 56, op := Op.fieldAddr 93 (Operand.tmp 55) 0, type := 0, pos := "follow.go:38", after := #[{ on := 20, ground := Ground.data }], guard := none }) (v := ?_) rfl (by kernel_rfl) (by kernel_rfl) (by kernel_rfl) (by kernel_rfl) (fun _ _ _ h => h) (Or.inl ⟨by rfl, ?_⟩) hcl hM ?_
  rotate_left 1
  · intro wx hx; go_simp <;> with_reducible rfl
  clear hcl hM; intro hcl hM; try simp only [Act.put, List.setIfInBounds_toArray, List.set_cons_zero, List.set_cons_succ]
  refine wpAnyM_take (i := 22) (oi := { dst := some 57, op := Op.fieldAddr 27 (Operand.tmp 56) 0, type := 0, pos := "follow.go:38", after := #[{ on := 21, ground := Ground.data }], guard := none }) (v := ?_) rfl (by kernel_rfl) (by kernel_rfl) (by kernel_rfl) (by kernel_rfl) (fun _ _ _ h => h) (Or.inl ⟨by rfl, ?_⟩) hcl hM ?_
  rotate_left 1
  · intro wx hx; go_simp <;> with_reducible rfl
  clear hcl hM; intro hcl hM; try simp only [Act.put, List.setIfInBounds_toArray, List.set_cons_zero, List.set_cons_succ]
  refine wpAnyM_take0 (i := 23) (oi := { dst := some 58, op := Op.load 3 (Operand.tmp 57), type := 3, pos := "follow.go:38", after := #[{ on := 22, ground := Ground.data }], guard := none }) (v := ?_) rfl (by kernel_rfl) (by kernel_rfl) (by kernel_rfl) (by kernel_rfl) (by kernel_rfl) (by kernel_rfl) (fun _ _ _ h => h) (Or.inl ⟨by rfl, ?_⟩) hcl hM ?_
  rotate_left 1
  · intro wx hx; have hq := below_cells hx.2; go_simp <;> with_reducible rfl
  clear hcl hM; intro hcl hM; try simp only [Act.put, List.setIfInBounds_toArray, List.set_cons_zero, List.set_cons_succ]
  refine wpAnyM_one (i := 17) (oi := { dst := some 52, op := Op.buildSlice 24 3 #[(0, Operand.tmp 45), (1, Operand.tmp 46), (2, Operand.tmp 51)], type := 24, pos := "follow.go:38", after := #[{ on := 10, ground := Ground.data }, { on := 11, ground := Ground.data }, { on := 16, ground := Ground.data }], guard := none }) (by kernel_rfl) rfl (by rfl) hcl (fun K hK => ?_)
  have HK := Lib.hid hK; clear hK
  go_wp2_with fail
  refine HK.out _ _ ⟨trivial, fun _ => ?_⟩ ?_
  · have hS := hM.2 (by kernel_rfl); have hsS := hS.size; (try simp at hsS); repeat (first | with_reducible exact Below.refl _ _ | with_reducible assumption | with_reducible apply b_undrew | with_reducible apply b_drew | with_reducible apply b_alloc | with_reducible apply b_set | (show (_ : Nat) ≤ _; first | exact Nat.le_refl _ | focus (simp; done) | omega | (simp; omega)) | (refine Below.trans ?_ (Below.mono (by with_reducible assumption) ?_)))
  clear hcl hM HK; intro hcl hM
  refine wpAnyM_one (i := 18) (oi := { dst := some 53, op := Op.call { callee := Callee.value (Operand.func 60), args := #[Operand.const (Value.int IntKind.i64 1000000), Operand.tmp 52], argTypes := #[2, 24] }, type := 3, pos := "follow.go:38", after := #[{ on := 17, ground := Ground.data }], guard := none }) (by kernel_rfl) rfl (by rfl) hcl (fun K hK => ?_)
  have HK := Lib.hid hK; clear hK
  go_wp2_with (go_at_call 60; refine (scaled3_any 1000000 sand rain soak _ _ _ (by omega) (by (repeat with_reducible refine drewOf ?_); exact newOf _ (by simp)) e0 (by omega) HQ0.out (by have := HQ1.out; omega) HU0.out (by have := HU1.out; omega)).mono ?_; rintro e' w' ⟨rfl, rfl⟩; rw [HB.out])
  refine HK.out _ _ ⟨trivial, fun _ => ?_⟩ ?_
  · have hS := hM.2 (by kernel_rfl); have hsS := hS.size; (try simp at hsS); repeat (first | with_reducible exact Below.refl _ _ | with_reducible assumption | with_reducible apply b_undrew | with_reducible apply b_drew | with_reducible apply b_alloc | with_reducible apply b_set | (show (_ : Nat) ≤ _; first | exact Nat.le_refl _ | focus (simp; done) | omega | (simp; omega)) | (refine Below.trans ?_ (Below.mono (by with_reducible assumption) ?_)))
  clear hcl hM HK; intro hcl hM
  refine wpAnyM_one (i := 24) (oi := { dst := some 59, op := Op.call { callee := Callee.value (Operand.func 59), args := #[Operand.tmp 36, Operand.tmp 40, Operand.tmp 53, Operand.tmp 58], argTypes := #[112, 3, 3, 3] }, type := 3, pos := "follow.go:38", after := #[{ on := 1, ground := Ground.data }, { on := 5, ground := Ground.data }, { on := 18, ground := Ground.data }, { on := 23, ground := Ground.data }, { on := 18, ground := Ground.chain }], guard := none }) (by kernel_rfl) rfl (by rfl) hcl (fun K hK => ?_)
  have HK := Lib.hid hK; clear hK
  go_wp2_with (go_at_call 59; refine (fill_any b ((((cs.setIfInBounds 28 (.int .i64 (r0 + A))).setIfInBounds 31 (.int .i64 (s0 + X))).setIfInBounds 24 (.int .i64 (tanks + A - X)))) (r0 + A) (s0 + X) lens B cap _ (by repeat (first | with_reducible exact HF.out | with_reducible apply drewOf | with_reducible apply allocOf | with_reducible apply setOf')) (getSet (getSet (getSame H28.out) (by omega)) (by omega)) (getSet (getSame (getSet H31.out (by omega))) (by omega)) c0 c1 B0 (by omega) i0 i1 (by omega) (by omega) (by omega) (by omega)).mono ?_; rintro e' w' ⟨rfl, rfl⟩; rw [HY.out])
  clear hcl hM; refine HK.out _ _ (marked_gone trivial (by kernel_rfl)) ?_; clear HK; intro hcl hM
  refine wpAnyM_take (i := 25) (oi := { dst := some 60, op := Op.nilCheck (Operand.tmp 35), type := 0, pos := "follow.go:38", after := #[{ on := 0, ground := Ground.data }, { on := 0, ground := Ground.phase }, { on := 1, ground := Ground.phase }, { on := 2, ground := Ground.phase }, { on := 3, ground := Ground.phase }, { on := 4, ground := Ground.phase }, { on := 5, ground := Ground.phase }, { on := 6, ground := Ground.phase }, { on := 7, ground := Ground.phase }, { on := 8, ground := Ground.phase }, { on := 9, ground := Ground.phase }, { on := 10, ground := Ground.phase }, { on := 11, ground := Ground.phase }, { on := 12, ground := Ground.phase }, { on := 13, ground := Ground.phase }, { on := 14, ground := Ground.phase }, { on := 15, ground := Ground.phase }, { on := 16, ground := Ground.phase }, { on := 17, ground := Ground.phase }, { on := 18, ground := Ground.phase }, { on := 19, ground := Ground.phase }, { on := 20, ground := Ground.phase }, { on := 21, ground := Ground.phase }, { on := 22, ground := Ground.phase }, { on := 23, ground := Ground.phase }, { on := 24, ground := Ground.phase }], guard := none }) (v := ?_) rfl (by kernel_rfl) (by kernel_rfl) (by kernel_rfl) (by kernel_rfl) (fun _ _ _ h => h) (Or.inl ⟨by rfl, ?_⟩) hcl hM ?_
  rotate_left 1
  · intro wx hx; go_simp <;> with_reducible rfl
  clear hcl hM; intro hcl hM; try simp only [Act.put, List.setIfInBounds_toArray, List.set_cons_zero, List.set_cons_succ]
  refine wpAnyM_take (i := 26) (oi := { dst := some 61, op := Op.fieldAddr 93 (Operand.tmp 60) 5, type := 0, pos := "follow.go:38", after := #[{ on := 25, ground := Ground.data }, { on := 0, ground := Ground.phase }, { on := 1, ground := Ground.phase }, { on := 2, ground := Ground.phase }, { on := 3, ground := Ground.phase }, { on := 4, ground := Ground.phase }, { on := 5, ground := Ground.phase }, { on := 6, ground := Ground.phase }, { on := 7, ground := Ground.phase }, { on := 8, ground := Ground.phase }, { on := 9, ground := Ground.phase }, { on := 10, ground := Ground.phase }, { on := 11, ground := Ground.phase }, { on := 12, ground := Ground.phase }, { on := 13, ground := Ground.phase }, { on := 14, ground := Ground.phase }, { on := 15, ground := Ground.phase }, { on := 16, ground := Ground.phase }, { on := 17, ground := Ground.phase }, { on := 18, ground := Ground.phase }, { on := 19, ground := Ground.phase }, { on := 20, ground := Ground.phase }, { on := 21, ground := Ground.phase }, { on := 22, ground := Ground.phase }, { on := 23, ground := Ground.phase }, { on := 24, ground := Ground.phase }], guard := none }) (v := ?_) rfl (by kernel_rfl) (by kernel_rfl) (by kernel_rfl) (by kernel_rfl) (fun _ _ _ h => h) (Or.inl ⟨by rfl, ?_⟩) hcl hM ?_
  rotate_left 1
  · intro wx hx; go_simp <;> with_reducible rfl
  clear hcl hM; intro hcl hM; try simp only [Act.put, List.setIfInBounds_toArray, List.set_cons_zero, List.set_cons_succ]
  refine wpAnyM_one (i := 27) (oi := { dst := none, op := Op.store 3 (Operand.tmp 61) (Operand.tmp 59), type := 0, pos := "follow.go:38", after := #[{ on := 26, ground := Ground.data }, { on := 24, ground := Ground.data }, { on := 24, ground := Ground.chain }, { on := 0, ground := Ground.phase }, { on := 1, ground := Ground.phase }, { on := 2, ground := Ground.phase }, { on := 3, ground := Ground.phase }, { on := 4, ground := Ground.phase }, { on := 5, ground := Ground.phase }, { on := 6, ground := Ground.phase }, { on := 7, ground := Ground.phase }, { on := 8, ground := Ground.phase }, { on := 9, ground := Ground.phase }, { on := 10, ground := Ground.phase }, { on := 11, ground := Ground.phase }, { on := 12, ground := Ground.phase }, { on := 13, ground := Ground.phase }, { on := 14, ground := Ground.phase }, { on := 15, ground := Ground.phase }, { on := 16, ground := Ground.phase }, { on := 17, ground := Ground.phase }, { on := 18, ground := Ground.phase }, { on := 19, ground := Ground.phase }, { on := 20, ground := Ground.phase }, { on := 21, ground := Ground.phase }, { on := 22, ground := Ground.phase }, { on := 23, ground := Ground.phase }, { on := 24, ground := Ground.phase }], guard := none }) (by kernel_rfl) rfl (by rfl) hcl (fun K hK => ?_)
  have HK := Lib.hid hK; clear hK
  go_wp2_with fail
  clear hcl hM; refine HK.out _ _ (marked_gone trivial (by kernel_rfl)) ?_; clear HK; intro hcl hM
  refine wpAnyM_done (by kernel_rfl) ?_ _
  clear hcl hM
  go_wp2
  go_end0
  refine ⟨rfl, ?_, ?_⟩
  · repeat (first | with_reducible exact HF.out | with_reducible apply drewOf | with_reducible apply allocOf | with_reducible apply setOf')
  · repeat (first | with_reducible exact grown_refl _ _ | with_reducible apply g_drew | with_reducible apply g_alloc | with_reducible apply g_set)
end Go.Proofs.YtffdidleebognaaDoor
