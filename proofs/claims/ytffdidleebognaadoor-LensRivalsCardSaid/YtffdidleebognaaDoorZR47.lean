/- Contract of withEnd. -/
import Derived.Test.YtffdidleebognaaDoorZR18
import Derived.Test.YtffdidleebognaaDoorZR45
namespace Go.Proofs.YtffdidleebognaaDoor
open Go Go.RowKit Lens
set_option maxRecDepth 100000 in
set_option maxHeartbeats 1000000 in
theorem withEnd_any (k : Kn) (s : Seen) (w : World) :
    Calls Tryd.prog 47 #[.agg #[.int .i64 k.tl, .int .i64 k.th, .int .i64 k.ll, .int .i64 k.lh, .int .i64 k.kl, .int .i64 k.kh], .agg #[.int .i64 s.tanks, .int .i64 s.lens, .int .i64 s.lack]] w
   fun e' w' => e' = .returned (.agg #[.int .i64 (min k.tl s.tanks), .int .i64 (max k.th s.tanks), .int .i64 (min k.ll s.lens), .int .i64 (max k.lh s.lens), .int .i64 (min k.kl s.lack), .int .i64 (max k.kh s.lack)]) ∧ Below w.heap.size w w' := by
  have c1 := Lib.hid (widenedTanks_any k.tl k.th s)
  have c2 := Lib.hid (widenedLens_any k.ll k.lh s)
  have c3 := Lib.hid (widenedLack_any k.kl k.kh s)
  generalize min k.tl s.tanks = a1 at *
  generalize max k.th s.tanks = a2 at *
  generalize min k.ll s.lens = a3 at *
  generalize max k.lh s.lens = a4 at *
  generalize min k.kl s.lack = a5 at *
  generalize max k.kh s.lack = a6 at *
  go_enter Tryd.func47, Tryd.ntmps47
  go_wp2_with fail
  refine wp_region_below (m := 13) (B := w.heap.size + 3) (by kernel_rfl) ?_
  intro hcl hM
  refine wpAnyM_take (i := 0) (oi := { dst := some 5, op := Op.fieldAddr 63 (Operand.tmp 2) 0, type := 0, pos := "known.go:26", after := #[], guard := none }) (v := ?_) rfl (by kernel_rfl) (by kernel_rfl) (by kernel_rfl) (by kernel_rfl) (fun _ _ _ h => h) (Or.inl ⟨by rfl, ?_⟩) hcl hM ?_
  rotate_left 1
  · intro wx hx; go_simp <;> with_reducible rfl
  clear hcl hM; intro hcl hM; try simp only [Act.put, List.setIfInBounds_toArray, List.set_cons_zero, List.set_cons_succ]
  refine wpAnyM_take0 (i := 1) (oi := { dst := some 6, op := Op.load 23 (Operand.tmp 5), type := 23, pos := "known.go:26", after := #[{ on := 0, ground := Ground.data }], guard := none }) (v := ?_) rfl (by kernel_rfl) (by kernel_rfl) (by kernel_rfl) (by kernel_rfl) (by kernel_rfl) (by kernel_rfl) (fun _ _ _ h => h) (Or.inl ⟨by rfl, ?_⟩) hcl hM ?_
  rotate_left 1
  · intro wx hx; have hq := below_cells hx.2; have z0 := hq w.heap.size 0 (by omega); have z1 := hq w.heap.size 1 (by omega); have z2 := hq w.heap.size 2 (by omega); have z3 := hq w.heap.size 3 (by omega); have z4 := hq w.heap.size 4 (by omega); have z5 := hq w.heap.size 5 (by omega); have y0 := hq (w.heap.size + 1) 0 (by omega); have y1 := hq (w.heap.size + 1) 1 (by omega); have y2 := hq (w.heap.size + 1) 2 (by omega); clear hq; go_simp <;> with_reducible rfl
  clear hcl hM; intro hcl hM; try simp only [Act.put, List.setIfInBounds_toArray, List.set_cons_zero, List.set_cons_succ]
  refine wpAnyM_take0 (i := 2) (oi := { dst := some 7, op := Op.load 59 (Operand.tmp 3), type := 59, pos := "known.go:26", after := #[], guard := none }) (v := ?_) rfl (by kernel_rfl) (by kernel_rfl) (by kernel_rfl) (by kernel_rfl) (by kernel_rfl) (by kernel_rfl) (fun _ _ _ h => h) (Or.inl ⟨by rfl, ?_⟩) hcl hM ?_
  rotate_left 1
  · intro wx hx; have hq := below_cells hx.2; have z0 := hq w.heap.size 0 (by omega); have z1 := hq w.heap.size 1 (by omega); have z2 := hq w.heap.size 2 (by omega); have z3 := hq w.heap.size 3 (by omega); have z4 := hq w.heap.size 4 (by omega); have z5 := hq w.heap.size 5 (by omega); have y0 := hq (w.heap.size + 1) 0 (by omega); have y1 := hq (w.heap.size + 1) 1 (by omega); have y2 := hq (w.heap.size + 1) 2 (by omega); clear hq; go_simp <;> with_reducible rfl
  clear hcl hM; intro hcl hM; try simp only [Act.put, List.setIfInBounds_toArray, List.set_cons_zero, List.set_cons_succ]
  refine wpAnyM_take (i := 4) (oi := { dst := some 9, op := Op.fieldAddr 63 (Operand.tmp 2) 1, type := 0, pos := "known.go:26", after := #[], guard := none }) (v := ?_) rfl (by kernel_rfl) (by kernel_rfl) (by kernel_rfl) (by kernel_rfl) (fun _ _ _ h => h) (Or.inl ⟨by rfl, ?_⟩) hcl hM ?_
  rotate_left 1
  · intro wx hx; go_simp <;> with_reducible rfl
  clear hcl hM; intro hcl hM; try simp only [Act.put, List.setIfInBounds_toArray, List.set_cons_zero, List.set_cons_succ]
  refine wpAnyM_take0 (i := 5) (oi := { dst := some 10, op := Op.load 23 (Operand.tmp 9), type := 23, pos := "known.go:26", after := #[{ on := 4, ground := Ground.data }], guard := none }) (v := ?_) rfl (by kernel_rfl) (by kernel_rfl) (by kernel_rfl) (by kernel_rfl) (by kernel_rfl) (by kernel_rfl) (fun _ _ _ h => h) (Or.inl ⟨by rfl, ?_⟩) hcl hM ?_
  rotate_left 1
  · intro wx hx; have hq := below_cells hx.2; have z0 := hq w.heap.size 0 (by omega); have z1 := hq w.heap.size 1 (by omega); have z2 := hq w.heap.size 2 (by omega); have z3 := hq w.heap.size 3 (by omega); have z4 := hq w.heap.size 4 (by omega); have z5 := hq w.heap.size 5 (by omega); have y0 := hq (w.heap.size + 1) 0 (by omega); have y1 := hq (w.heap.size + 1) 1 (by omega); have y2 := hq (w.heap.size + 1) 2 (by omega); clear hq; go_simp <;> with_reducible rfl
  clear hcl hM; intro hcl hM; try simp only [Act.put, List.setIfInBounds_toArray, List.set_cons_zero, List.set_cons_succ]
  refine wpAnyM_take0 (i := 6) (oi := { dst := some 11, op := Op.load 59 (Operand.tmp 3), type := 59, pos := "known.go:26", after := #[], guard := none }) (v := ?_) rfl (by kernel_rfl) (by kernel_rfl) (by kernel_rfl) (by kernel_rfl) (by kernel_rfl) (by kernel_rfl) (fun _ _ _ h => h) (Or.inl ⟨by rfl, ?_⟩) hcl hM ?_
  rotate_left 1
  · intro wx hx; have hq := below_cells hx.2; have z0 := hq w.heap.size 0 (by omega); have z1 := hq w.heap.size 1 (by omega); have z2 := hq w.heap.size 2 (by omega); have z3 := hq w.heap.size 3 (by omega); have z4 := hq w.heap.size 4 (by omega); have z5 := hq w.heap.size 5 (by omega); have y0 := hq (w.heap.size + 1) 0 (by omega); have y1 := hq (w.heap.size + 1) 1 (by omega); have y2 := hq (w.heap.size + 1) 2 (by omega); clear hq; go_simp <;> with_reducible rfl
  clear hcl hM; intro hcl hM; try simp only [Act.put, List.setIfInBounds_toArray, List.set_cons_zero, List.set_cons_succ]
  refine wpAnyM_take (i := 8) (oi := { dst := some 13, op := Op.fieldAddr 63 (Operand.tmp 2) 2, type := 0, pos := "known.go:26", after := #[], guard := none }) (v := ?_) rfl (by kernel_rfl) (by kernel_rfl) (by kernel_rfl) (by kernel_rfl) (fun _ _ _ h => h) (Or.inl ⟨by rfl, ?_⟩) hcl hM ?_
  rotate_left 1
  · intro wx hx; go_simp <;> with_reducible rfl
  clear hcl hM; intro hcl hM; try simp only [Act.put, List.setIfInBounds_toArray, List.set_cons_zero, List.set_cons_succ]
  refine wpAnyM_take0 (i := 9) (oi := { dst := some 14, op := Op.load 23 (Operand.tmp 13), type := 23, pos := "known.go:26", after := #[{ on := 8, ground := Ground.data }], guard := none }) (v := ?_) rfl (by kernel_rfl) (by kernel_rfl) (by kernel_rfl) (by kernel_rfl) (by kernel_rfl) (by kernel_rfl) (fun _ _ _ h => h) (Or.inl ⟨by rfl, ?_⟩) hcl hM ?_
  rotate_left 1
  · intro wx hx; have hq := below_cells hx.2; have z0 := hq w.heap.size 0 (by omega); have z1 := hq w.heap.size 1 (by omega); have z2 := hq w.heap.size 2 (by omega); have z3 := hq w.heap.size 3 (by omega); have z4 := hq w.heap.size 4 (by omega); have z5 := hq w.heap.size 5 (by omega); have y0 := hq (w.heap.size + 1) 0 (by omega); have y1 := hq (w.heap.size + 1) 1 (by omega); have y2 := hq (w.heap.size + 1) 2 (by omega); clear hq; go_simp <;> with_reducible rfl
  clear hcl hM; intro hcl hM; try simp only [Act.put, List.setIfInBounds_toArray, List.set_cons_zero, List.set_cons_succ]
  refine wpAnyM_take0 (i := 10) (oi := { dst := some 15, op := Op.load 59 (Operand.tmp 3), type := 59, pos := "known.go:26", after := #[], guard := none }) (v := ?_) rfl (by kernel_rfl) (by kernel_rfl) (by kernel_rfl) (by kernel_rfl) (by kernel_rfl) (by kernel_rfl) (fun _ _ _ h => h) (Or.inl ⟨by rfl, ?_⟩) hcl hM ?_
  rotate_left 1
  · intro wx hx; have hq := below_cells hx.2; have z0 := hq w.heap.size 0 (by omega); have z1 := hq w.heap.size 1 (by omega); have z2 := hq w.heap.size 2 (by omega); have z3 := hq w.heap.size 3 (by omega); have z4 := hq w.heap.size 4 (by omega); have z5 := hq w.heap.size 5 (by omega); have y0 := hq (w.heap.size + 1) 0 (by omega); have y1 := hq (w.heap.size + 1) 1 (by omega); have y2 := hq (w.heap.size + 1) 2 (by omega); clear hq; go_simp <;> with_reducible rfl
  clear hcl hM; intro hcl hM; try simp only [Act.put, List.setIfInBounds_toArray, List.set_cons_zero, List.set_cons_succ]
  refine wpAnyM_one (i := 3) (oi := { dst := some 8, op := Op.call { callee := Callee.value (Operand.func 61), args := #[Operand.tmp 6, Operand.tmp 7, Operand.func 62], argTypes := #[23, 59, 116] }, type := 23, pos := "known.go:27", after := #[{ on := 1, ground := Ground.data }, { on := 2, ground := Ground.data }], guard := none }) (by kernel_rfl) rfl (by rfl) hcl (fun K hK => ?_)
  have HK := Lib.hid hK; clear hK
  go_wp2_with (go_at_call 61; refine (c1.out _).mono ?_; rintro e' w' ⟨rfl, hb1⟩)
  refine HK.out _ _ ⟨trivial, fun _ => ?_⟩ ?_
  · have hS := hM.2 (by kernel_rfl); have hsS := hS.size; (try simp at hsS); repeat (first | with_reducible exact Below.refl _ _ | with_reducible assumption | with_reducible apply b_undrew | with_reducible apply b_drew | with_reducible apply b_alloc | with_reducible apply b_set | (show (_ : Nat) ≤ _; first | exact Nat.le_refl _ | focus (simp; done) | omega | (simp; omega)) | (refine Below.trans ?_ (Below.mono (by with_reducible assumption) ?_)))
  clear hcl hM HK; intro hcl hM
  refine wpAnyM_one (i := 7) (oi := { dst := some 12, op := Op.call { callee := Callee.value (Operand.func 61), args := #[Operand.tmp 10, Operand.tmp 11, Operand.func 63], argTypes := #[23, 59, 116] }, type := 23, pos := "known.go:28", after := #[{ on := 5, ground := Ground.data }, { on := 6, ground := Ground.data }, { on := 3, ground := Ground.chain }], guard := none }) (by kernel_rfl) rfl (by rfl) hcl (fun K hK => ?_)
  have HK := Lib.hid hK; clear hK
  go_wp2_with (go_at_call 61; refine (c2.out _).mono ?_; rintro e' w' ⟨rfl, hb2⟩)
  refine HK.out _ _ ⟨trivial, fun _ => ?_⟩ ?_
  · have hS := hM.2 (by kernel_rfl); have hsS := hS.size; (try simp at hsS); repeat (first | with_reducible exact Below.refl _ _ | with_reducible assumption | with_reducible apply b_undrew | with_reducible apply b_drew | with_reducible apply b_alloc | with_reducible apply b_set | (show (_ : Nat) ≤ _; first | exact Nat.le_refl _ | focus (simp; done) | omega | (simp; omega)) | (refine Below.trans ?_ (Below.mono (by with_reducible assumption) ?_)))
  clear hcl hM HK; intro hcl hM
  refine wpAnyM_one (i := 11) (oi := { dst := some 16, op := Op.call { callee := Callee.value (Operand.func 61), args := #[Operand.tmp 14, Operand.tmp 15, Operand.func 64], argTypes := #[23, 59, 116] }, type := 23, pos := "known.go:29", after := #[{ on := 9, ground := Ground.data }, { on := 10, ground := Ground.data }, { on := 7, ground := Ground.chain }], guard := none }) (by kernel_rfl) rfl (by rfl) hcl (fun K hK => ?_)
  have HK := Lib.hid hK; clear hK
  go_wp2_with (go_at_call 61; refine (c3.out _).mono ?_; rintro e' w' ⟨rfl, hb3⟩)
  refine HK.out _ _ ⟨trivial, fun _ => ?_⟩ ?_
  · have hS := hM.2 (by kernel_rfl); have hsS := hS.size; (try simp at hsS); repeat (first | with_reducible exact Below.refl _ _ | with_reducible assumption | with_reducible apply b_undrew | with_reducible apply b_drew | with_reducible apply b_alloc | with_reducible apply b_set | (show (_ : Nat) ≤ _; first | exact Nat.le_refl _ | focus (simp; done) | omega | (simp; omega)) | (refine Below.trans ?_ (Below.mono (by with_reducible assumption) ?_)))
  clear hcl hM HK; intro hcl hM
  refine wpAnyM_take (i := 12) (oi := { dst := some 17, op := Op.build 63 #[(0, Operand.tmp 8), (1, Operand.tmp 12), (2, Operand.tmp 16)], type := 63, pos := "known.go:26", after := #[{ on := 3, ground := Ground.data }, { on := 7, ground := Ground.data }, { on := 11, ground := Ground.data }], guard := none }) (v := ?_) rfl (by kernel_rfl) (by kernel_rfl) (by kernel_rfl) (by kernel_rfl) (fun _ _ _ h => h) (Or.inl ⟨by rfl, ?_⟩) hcl hM ?_
  rotate_left 1
  · intro wx hx; go_simp <;> with_reducible rfl
  clear hcl hM; intro hcl hM; try simp only [Act.put, List.setIfInBounds_toArray, List.set_cons_zero, List.set_cons_succ]
  refine wpAnyM_one (i := 13) (oi := { dst := none, op := Op.store 63 (Operand.tmp 4) (Operand.tmp 17), type := 0, pos := "known.go:26", after := #[{ on := 12, ground := Ground.data }, { on := 11, ground := Ground.chain }, { on := 0, ground := Ground.phase }, { on := 1, ground := Ground.phase }, { on := 2, ground := Ground.phase }, { on := 3, ground := Ground.phase }, { on := 4, ground := Ground.phase }, { on := 5, ground := Ground.phase }, { on := 6, ground := Ground.phase }, { on := 7, ground := Ground.phase }, { on := 8, ground := Ground.phase }, { on := 9, ground := Ground.phase }, { on := 10, ground := Ground.phase }, { on := 11, ground := Ground.phase }, { on := 12, ground := Ground.phase }], guard := none }) (by kernel_rfl) rfl (by rfl) hcl (fun K hK => ?_)
  have HK := Lib.hid hK; clear hK
  have hS := hM.2 (by kernel_rfl); have hzS := hS.size; simp at hzS; have hl : w.heap.size + 1 + 1 < w'.heap.size := (by omega); have n0 := hS.cell (p := ⟨w.heap.size + 1 + 1, 0, none⟩) (by simp); have n1 := hS.cell (p := ⟨w.heap.size + 1 + 1, 1, none⟩) (by simp); have n2 := hS.cell (p := ⟨w.heap.size + 1 + 1, 2, none⟩) (by simp); have n3 := hS.cell (p := ⟨w.heap.size + 1 + 1, 3, none⟩) (by simp); have n4 := hS.cell (p := ⟨w.heap.size + 1 + 1, 4, none⟩) (by simp); have n5 := hS.cell (p := ⟨w.heap.size + 1 + 1, 5, none⟩) (by simp); have hff : ∀ o, w'.frozen? ⟨w.heap.size + 1 + 1, o, none⟩ = false := fun o => (hS.frozen (p := ⟨w.heap.size + 1 + 1, o, none⟩) (by simp)).trans (freeOf (newOf _ (by simp))); have HS := Lib.hid hS; clear hS; go_wp2_with fail
  clear hcl hM; refine HK.out _ _ (marked_gone trivial (by kernel_rfl)) ?_; clear HK; intro hcl hM
  refine wpAnyM_done (by kernel_rfl) ?_ _
  clear hcl hM
  go_wp2
  refine bodyPost_ret (v := .agg #[.int .i64 a1, .int .i64 a2, .int .i64 a3, .int .i64 a4, .int .i64 a5, .int .i64 a6]) (by simp [results, Tryd.results47, go_sem, n0, n1, n2, n3, n4, n5]) rfl ⟨rfl, ?_⟩
  have hS := HS.out
  have h3 := hS.mono (Nat.le_trans (Nat.le_add_right w.heap.size 3) (Nat.le_refl _))
  repeat (first | with_reducible exact Below.refl _ _ | with_reducible assumption | with_reducible apply b_undrew | with_reducible apply b_drew | with_reducible apply b_alloc | with_reducible apply b_set | (show (_ : Nat) ≤ _; first | exact Nat.le_refl _ | focus (simp; done) | omega | (simp; omega)) | (refine Below.trans ?_ (Below.mono (by with_reducible assumption) ?_)))
end Go.Proofs.YtffdidleebognaaDoor
