/- Contracts of widened, withEnd and of the comparisons. -/
import Derived.Test.YtffdidleebognaaDoorZR44
import Derived.Test.YtffdidleebognaaDoorZR18
namespace Go.Proofs.YtffdidleebognaaDoor
open Go Go.RowKit Lens
theorem min_if (a b : Int) : (if b < a then b else a) = min a b := by omega
theorem max_if (a b : Int) : (if a < b then b else a) = max a b := by omega
theorem with_any (lo hi n : Int) (w : World) :
    Calls Tryd.prog 68 #[.agg #[.int .i64 lo, .int .i64 hi], .int .i64 n] w
   fun e' w' => e' = .returned (.agg #[.int .i64 (min lo n), .int .i64 (max hi n)]) ∧ Below w.heap.size w w' := by
  obtain ⟨A, hA⟩ : ∃ A, min lo n = A := ⟨_, rfl⟩
  obtain ⟨B, hB⟩ : ∃ B, max hi n = B := ⟨_, rfl⟩
  rw [hA, hB]
  have hm1 := min_if lo n
  have hm2 := max_if hi n
  rw [hA] at hm1
  rw [hB] at hm2
  clear hA hB
  go_enter Tryd.func68, Tryd.ntmps68
  go_wp2
  refine bodyPost_ret (v := .agg #[.int .i64 A, .int .i64 B]) (by simp [results, Tryd.results68, go_sem]) rfl ⟨rfl, ?_⟩
  repeat (first | with_reducible exact Below.refl _ _ | with_reducible assumption | with_reducible apply b_undrew | with_reducible apply b_drew | with_reducible apply b_alloc | with_reducible apply b_set | (show (_ : Nat) ≤ _; first | exact Nat.le_refl _ | focus (simp; done) | omega | (simp; omega)) | (refine Below.trans ?_ (Below.mono (by with_reducible assumption) ?_)))
set_option maxRecDepth 100000 in
set_option maxHeartbeats 1000000 in
theorem widenedTanks_any (lo hi : Int) (s : Seen) (w : World) :
    Calls Tryd.prog 61 #[.agg #[.int .i64 lo, .int .i64 hi], .agg #[.int .i64 s.tanks, .int .i64 s.lens, .int .i64 s.lack], .func (.func 62) #[] #[]] w
   fun e' w' => e' = .returned (.agg #[.int .i64 (min lo s.tanks), .int .i64 (max hi s.tanks)]) ∧ Below w.heap.size w w' := by
  have HF := Lib.hid (endTanks_any s)
  have CW := Lib.hid (with_any lo hi s.tanks)
  generalize min lo s.tanks = A at *
  generalize max hi s.tanks = B at *
  go_enter Tryd.func61, Tryd.ntmps61
  go_wp2_with fail
  refine wp_region_below (m := 5) (B := w.heap.size + 3) (by kernel_rfl) ?_
  intro hcl hM
  refine wpAnyM_take0 (i := 0) (oi := { dst := some 7, op := Op.load 23 (Operand.tmp 3), type := 23, pos := "known.go:35", after := #[], guard := none }) (v := ?_) rfl (by kernel_rfl) (by kernel_rfl) (by kernel_rfl) (by kernel_rfl) (by kernel_rfl) (by kernel_rfl) (fun _ _ _ h => h) (Or.inl ⟨by rfl, ?_⟩) hcl hM ?_
  rotate_left 1
  · intro wx hx; have hq := below_cells hx.2; have z0 := hq w.heap.size 0 (by omega); have z1 := hq w.heap.size 1 (by omega); have y0 := hq (w.heap.size + 1) 0 (by omega); have y1 := hq (w.heap.size + 1) 1 (by omega); have y2 := hq (w.heap.size + 1) 2 (by omega); clear hq; go_simp <;> with_reducible rfl
  clear hcl hM; intro hcl hM; try simp only [Act.put, List.setIfInBounds_toArray, List.set_cons_zero, List.set_cons_succ]
  refine wpAnyM_take (i := 1) (oi := { dst := some 8, op := Op.move (Operand.tmp 2), type := 116, pos := "known.go:35", after := #[], guard := none }) (v := ?_) rfl (by kernel_rfl) (by kernel_rfl) (by kernel_rfl) (by kernel_rfl) (fun _ _ _ h => h) (Or.inl ⟨by rfl, ?_⟩) hcl hM ?_
  rotate_left 1
  · intro wx hx; go_simp <;> with_reducible rfl
  clear hcl hM; intro hcl hM; try simp only [Act.put, List.setIfInBounds_toArray, List.set_cons_zero, List.set_cons_succ]
  refine wpAnyM_take0 (i := 2) (oi := { dst := some 9, op := Op.load 59 (Operand.tmp 4), type := 59, pos := "known.go:35", after := #[], guard := none }) (v := ?_) rfl (by kernel_rfl) (by kernel_rfl) (by kernel_rfl) (by kernel_rfl) (by kernel_rfl) (by kernel_rfl) (fun _ _ _ h => h) (Or.inl ⟨by rfl, ?_⟩) hcl hM ?_
  rotate_left 1
  · intro wx hx; have hq := below_cells hx.2; have z0 := hq w.heap.size 0 (by omega); have z1 := hq w.heap.size 1 (by omega); have y0 := hq (w.heap.size + 1) 0 (by omega); have y1 := hq (w.heap.size + 1) 1 (by omega); have y2 := hq (w.heap.size + 1) 2 (by omega); clear hq; go_simp <;> with_reducible rfl
  clear hcl hM; intro hcl hM; try simp only [Act.put, List.setIfInBounds_toArray, List.set_cons_zero, List.set_cons_succ]
  refine wpAnyM_one (i := 3) (oi := { dst := some 10, op := Op.call { callee := Callee.value (Operand.tmp 8), args := #[Operand.tmp 9], argTypes := #[59] }, type := 3, pos := "known.go:35", after := #[{ on := 1, ground := Ground.data }, { on := 2, ground := Ground.data }], guard := none }) (by kernel_rfl) rfl (by rfl) hcl (fun K hK => ?_)
  have HK := Lib.hid hK; clear hK
  go_wp2_with (go_at_call 62; refine (HF.out _).mono ?_; rintro e' w' ⟨rfl, hb1⟩)
  refine HK.out _ _ ⟨trivial, fun _ => ?_⟩ ?_
  · have hS := hM.2 (by kernel_rfl); have hsS := hS.size; (try simp at hsS); repeat (first | with_reducible exact Below.refl _ _ | with_reducible assumption | with_reducible apply b_undrew | with_reducible apply b_drew | with_reducible apply b_alloc | with_reducible apply b_set | (show (_ : Nat) ≤ _; first | exact Nat.le_refl _ | focus (simp; done) | omega | (simp; omega)) | (refine Below.trans ?_ (Below.mono (by with_reducible assumption) ?_)))
  clear hcl hM HK; intro hcl hM
  refine wpAnyM_one (i := 4) (oi := { dst := some 11, op := Op.call { callee := Callee.value (Operand.func 68), args := #[Operand.tmp 7, Operand.tmp 10], argTypes := #[23, 3] }, type := 23, pos := "known.go:35", after := #[{ on := 0, ground := Ground.data }, { on := 3, ground := Ground.data }, { on := 3, ground := Ground.chain }], guard := none }) (by kernel_rfl) rfl (by rfl) hcl (fun K hK => ?_)
  have HK := Lib.hid hK; clear hK
  go_wp2_with (go_at_call 68; refine (CW.out _).mono ?_; rintro e' w' ⟨rfl, hb2⟩)
  refine HK.out _ _ ⟨trivial, fun _ => ?_⟩ ?_
  · have hS := hM.2 (by kernel_rfl); have hsS := hS.size; (try simp at hsS); repeat (first | with_reducible exact Below.refl _ _ | with_reducible assumption | with_reducible apply b_undrew | with_reducible apply b_drew | with_reducible apply b_alloc | with_reducible apply b_set | (show (_ : Nat) ≤ _; first | exact Nat.le_refl _ | focus (simp; done) | omega | (simp; omega)) | (refine Below.trans ?_ (Below.mono (by with_reducible assumption) ?_)))
  clear hcl hM HK; intro hcl hM
  refine wpAnyM_one (i := 5) (oi := { dst := none, op := Op.store 23 (Operand.tmp 6) (Operand.tmp 11), type := 0, pos := "known.go:35", after := #[{ on := 4, ground := Ground.data }, { on := 4, ground := Ground.chain }, { on := 0, ground := Ground.phase }, { on := 1, ground := Ground.phase }, { on := 2, ground := Ground.phase }, { on := 3, ground := Ground.phase }, { on := 4, ground := Ground.phase }], guard := none }) (by kernel_rfl) rfl (by rfl) hcl (fun K hK => ?_)
  have HK := Lib.hid hK; clear hK
  have hS := hM.2 (by kernel_rfl); have hzS := hS.size; simp at hzS; have hl : w.heap.size + 1 + 1 < w'.heap.size := (by omega); have n0 := hS.cell (p := ⟨w.heap.size + 1 + 1, 0, none⟩) (by simp); have n1 := hS.cell (p := ⟨w.heap.size + 1 + 1, 1, none⟩) (by simp); have hff : ∀ o, w'.frozen? ⟨w.heap.size + 1 + 1, o, none⟩ = false := fun o => (hS.frozen (p := ⟨w.heap.size + 1 + 1, o, none⟩) (by simp)).trans (freeOf (newOf _ (by simp))); have HS := Lib.hid hS; clear hS; go_wp2_with fail
  clear hcl hM; refine HK.out _ _ (marked_gone trivial (by kernel_rfl)) ?_; clear HK; intro hcl hM
  refine wpAnyM_done (by kernel_rfl) ?_ _
  clear hcl hM
  go_wp2
  refine bodyPost_ret (v := .agg #[.int .i64 A, .int .i64 B]) (by simp [results, Tryd.results61, go_sem, n0, n1]) rfl ⟨rfl, ?_⟩
  have hS := HS.out
  have h3 := hS.mono (Nat.le_trans (Nat.le_add_right w.heap.size 3) (Nat.le_refl _))
  repeat (first | with_reducible exact Below.refl _ _ | with_reducible assumption | with_reducible apply b_undrew | with_reducible apply b_drew | with_reducible apply b_alloc | with_reducible apply b_set | (show (_ : Nat) ≤ _; first | exact Nat.le_refl _ | focus (simp; done) | omega | (simp; omega)) | (refine Below.trans ?_ (Below.mono (by with_reducible assumption) ?_)))
set_option maxRecDepth 100000 in
set_option maxHeartbeats 1000000 in
theorem widenedLens_any (lo hi : Int) (s : Seen) (w : World) :
    Calls Tryd.prog 61 #[.agg #[.int .i64 lo, .int .i64 hi], .agg #[.int .i64 s.tanks, .int .i64 s.lens, .int .i64 s.lack], .func (.func 63) #[] #[]] w
   fun e' w' => e' = .returned (.agg #[.int .i64 (min lo s.lens), .int .i64 (max hi s.lens)]) ∧ Below w.heap.size w w' := by
  have HF := Lib.hid (endLens_any s)
  have CW := Lib.hid (with_any lo hi s.lens)
  generalize min lo s.lens = A at *
  generalize max hi s.lens = B at *
  go_enter Tryd.func61, Tryd.ntmps61
  go_wp2_with fail
  refine wp_region_below (m := 5) (B := w.heap.size + 3) (by kernel_rfl) ?_
  intro hcl hM
  refine wpAnyM_take0 (i := 0) (oi := { dst := some 7, op := Op.load 23 (Operand.tmp 3), type := 23, pos := "known.go:35", after := #[], guard := none }) (v := ?_) rfl (by kernel_rfl) (by kernel_rfl) (by kernel_rfl) (by kernel_rfl) (by kernel_rfl) (by kernel_rfl) (fun _ _ _ h => h) (Or.inl ⟨by rfl, ?_⟩) hcl hM ?_
  rotate_left 1
  · intro wx hx; have hq := below_cells hx.2; have z0 := hq w.heap.size 0 (by omega); have z1 := hq w.heap.size 1 (by omega); have y0 := hq (w.heap.size + 1) 0 (by omega); have y1 := hq (w.heap.size + 1) 1 (by omega); have y2 := hq (w.heap.size + 1) 2 (by omega); clear hq; go_simp <;> with_reducible rfl
  clear hcl hM; intro hcl hM; try simp only [Act.put, List.setIfInBounds_toArray, List.set_cons_zero, List.set_cons_succ]
  refine wpAnyM_take (i := 1) (oi := { dst := some 8, op := Op.move (Operand.tmp 2), type := 116, pos := "known.go:35", after := #[], guard := none }) (v := ?_) rfl (by kernel_rfl) (by kernel_rfl) (by kernel_rfl) (by kernel_rfl) (fun _ _ _ h => h) (Or.inl ⟨by rfl, ?_⟩) hcl hM ?_
  rotate_left 1
  · intro wx hx; go_simp <;> with_reducible rfl
  clear hcl hM; intro hcl hM; try simp only [Act.put, List.setIfInBounds_toArray, List.set_cons_zero, List.set_cons_succ]
  refine wpAnyM_take0 (i := 2) (oi := { dst := some 9, op := Op.load 59 (Operand.tmp 4), type := 59, pos := "known.go:35", after := #[], guard := none }) (v := ?_) rfl (by kernel_rfl) (by kernel_rfl) (by kernel_rfl) (by kernel_rfl) (by kernel_rfl) (by kernel_rfl) (fun _ _ _ h => h) (Or.inl ⟨by rfl, ?_⟩) hcl hM ?_
  rotate_left 1
  · intro wx hx; have hq := below_cells hx.2; have z0 := hq w.heap.size 0 (by omega); have z1 := hq w.heap.size 1 (by omega); have y0 := hq (w.heap.size + 1) 0 (by omega); have y1 := hq (w.heap.size + 1) 1 (by omega); have y2 := hq (w.heap.size + 1) 2 (by omega); clear hq; go_simp <;> with_reducible rfl
  clear hcl hM; intro hcl hM; try simp only [Act.put, List.setIfInBounds_toArray, List.set_cons_zero, List.set_cons_succ]
  refine wpAnyM_one (i := 3) (oi := { dst := some 10, op := Op.call { callee := Callee.value (Operand.tmp 8), args := #[Operand.tmp 9], argTypes := #[59] }, type := 3, pos := "known.go:35", after := #[{ on := 1, ground := Ground.data }, { on := 2, ground := Ground.data }], guard := none }) (by kernel_rfl) rfl (by rfl) hcl (fun K hK => ?_)
  have HK := Lib.hid hK; clear hK
  go_wp2_with (go_at_call 63; refine (HF.out _).mono ?_; rintro e' w' ⟨rfl, hb1⟩)
  refine HK.out _ _ ⟨trivial, fun _ => ?_⟩ ?_
  · have hS := hM.2 (by kernel_rfl); have hsS := hS.size; (try simp at hsS); repeat (first | with_reducible exact Below.refl _ _ | with_reducible assumption | with_reducible apply b_undrew | with_reducible apply b_drew | with_reducible apply b_alloc | with_reducible apply b_set | (show (_ : Nat) ≤ _; first | exact Nat.le_refl _ | focus (simp; done) | omega | (simp; omega)) | (refine Below.trans ?_ (Below.mono (by with_reducible assumption) ?_)))
  clear hcl hM HK; intro hcl hM
  refine wpAnyM_one (i := 4) (oi := { dst := some 11, op := Op.call { callee := Callee.value (Operand.func 68), args := #[Operand.tmp 7, Operand.tmp 10], argTypes := #[23, 3] }, type := 23, pos := "known.go:35", after := #[{ on := 0, ground := Ground.data }, { on := 3, ground := Ground.data }, { on := 3, ground := Ground.chain }], guard := none }) (by kernel_rfl) rfl (by rfl) hcl (fun K hK => ?_)
  have HK := Lib.hid hK; clear hK
  go_wp2_with (go_at_call 68; refine (CW.out _).mono ?_; rintro e' w' ⟨rfl, hb2⟩)
  refine HK.out _ _ ⟨trivial, fun _ => ?_⟩ ?_
  · have hS := hM.2 (by kernel_rfl); have hsS := hS.size; (try simp at hsS); repeat (first | with_reducible exact Below.refl _ _ | with_reducible assumption | with_reducible apply b_undrew | with_reducible apply b_drew | with_reducible apply b_alloc | with_reducible apply b_set | (show (_ : Nat) ≤ _; first | exact Nat.le_refl _ | focus (simp; done) | omega | (simp; omega)) | (refine Below.trans ?_ (Below.mono (by with_reducible assumption) ?_)))
  clear hcl hM HK; intro hcl hM
  refine wpAnyM_one (i := 5) (oi := { dst := none, op := Op.store 23 (Operand.tmp 6) (Operand.tmp 11), type := 0, pos := "known.go:35", after := #[{ on := 4, ground := Ground.data }, { on := 4, ground := Ground.chain }, { on := 0, ground := Ground.phase }, { on := 1, ground := Ground.phase }, { on := 2, ground := Ground.phase }, { on := 3, ground := Ground.phase }, { on := 4, ground := Ground.phase }], guard := none }) (by kernel_rfl) rfl (by rfl) hcl (fun K hK => ?_)
  have HK := Lib.hid hK; clear hK
  have hS := hM.2 (by kernel_rfl); have hzS := hS.size; simp at hzS; have hl : w.heap.size + 1 + 1 < w'.heap.size := (by omega); have n0 := hS.cell (p := ⟨w.heap.size + 1 + 1, 0, none⟩) (by simp); have n1 := hS.cell (p := ⟨w.heap.size + 1 + 1, 1, none⟩) (by simp); have hff : ∀ o, w'.frozen? ⟨w.heap.size + 1 + 1, o, none⟩ = false := fun o => (hS.frozen (p := ⟨w.heap.size + 1 + 1, o, none⟩) (by simp)).trans (freeOf (newOf _ (by simp))); have HS := Lib.hid hS; clear hS; go_wp2_with fail
  clear hcl hM; refine HK.out _ _ (marked_gone trivial (by kernel_rfl)) ?_; clear HK; intro hcl hM
  refine wpAnyM_done (by kernel_rfl) ?_ _
  clear hcl hM
  go_wp2
  refine bodyPost_ret (v := .agg #[.int .i64 A, .int .i64 B]) (by simp [results, Tryd.results61, go_sem, n0, n1]) rfl ⟨rfl, ?_⟩
  have hS := HS.out
  have h3 := hS.mono (Nat.le_trans (Nat.le_add_right w.heap.size 3) (Nat.le_refl _))
  repeat (first | with_reducible exact Below.refl _ _ | with_reducible assumption | with_reducible apply b_undrew | with_reducible apply b_drew | with_reducible apply b_alloc | with_reducible apply b_set | (show (_ : Nat) ≤ _; first | exact Nat.le_refl _ | focus (simp; done) | omega | (simp; omega)) | (refine Below.trans ?_ (Below.mono (by with_reducible assumption) ?_)))
set_option maxRecDepth 100000 in
set_option maxHeartbeats 1000000 in
theorem widenedLack_any (lo hi : Int) (s : Seen) (w : World) :
    Calls Tryd.prog 61 #[.agg #[.int .i64 lo, .int .i64 hi], .agg #[.int .i64 s.tanks, .int .i64 s.lens, .int .i64 s.lack], .func (.func 64) #[] #[]] w
   fun e' w' => e' = .returned (.agg #[.int .i64 (min lo s.lack), .int .i64 (max hi s.lack)]) ∧ Below w.heap.size w w' := by
  have HF := Lib.hid (endLack_any s)
  have CW := Lib.hid (with_any lo hi s.lack)
  generalize min lo s.lack = A at *
  generalize max hi s.lack = B at *
  go_enter Tryd.func61, Tryd.ntmps61
  go_wp2_with fail
  refine wp_region_below (m := 5) (B := w.heap.size + 3) (by kernel_rfl) ?_
  intro hcl hM
  refine wpAnyM_take0 (i := 0) (oi := { dst := some 7, op := Op.load 23 (Operand.tmp 3), type := 23, pos := "known.go:35", after := #[], guard := none }) (v := ?_) rfl (by kernel_rfl) (by kernel_rfl) (by kernel_rfl) (by kernel_rfl) (by kernel_rfl) (by kernel_rfl) (fun _ _ _ h => h) (Or.inl ⟨by rfl, ?_⟩) hcl hM ?_
  rotate_left 1
  · intro wx hx; have hq := below_cells hx.2; have z0 := hq w.heap.size 0 (by omega); have z1 := hq w.heap.size 1 (by omega); have y0 := hq (w.heap.size + 1) 0 (by omega); have y1 := hq (w.heap.size + 1) 1 (by omega); have y2 := hq (w.heap.size + 1) 2 (by omega); clear hq; go_simp <;> with_reducible rfl
  clear hcl hM; intro hcl hM; try simp only [Act.put, List.setIfInBounds_toArray, List.set_cons_zero, List.set_cons_succ]
  refine wpAnyM_take (i := 1) (oi := { dst := some 8, op := Op.move (Operand.tmp 2), type := 116, pos := "known.go:35", after := #[], guard := none }) (v := ?_) rfl (by kernel_rfl) (by kernel_rfl) (by kernel_rfl) (by kernel_rfl) (fun _ _ _ h => h) (Or.inl ⟨by rfl, ?_⟩) hcl hM ?_
  rotate_left 1
  · intro wx hx; go_simp <;> with_reducible rfl
  clear hcl hM; intro hcl hM; try simp only [Act.put, List.setIfInBounds_toArray, List.set_cons_zero, List.set_cons_succ]
  refine wpAnyM_take0 (i := 2) (oi := { dst := some 9, op := Op.load 59 (Operand.tmp 4), type := 59, pos := "known.go:35", after := #[], guard := none }) (v := ?_) rfl (by kernel_rfl) (by kernel_rfl) (by kernel_rfl) (by kernel_rfl) (by kernel_rfl) (by kernel_rfl) (fun _ _ _ h => h) (Or.inl ⟨by rfl, ?_⟩) hcl hM ?_
  rotate_left 1
  · intro wx hx; have hq := below_cells hx.2; have z0 := hq w.heap.size 0 (by omega); have z1 := hq w.heap.size 1 (by omega); have y0 := hq (w.heap.size + 1) 0 (by omega); have y1 := hq (w.heap.size + 1) 1 (by omega); have y2 := hq (w.heap.size + 1) 2 (by omega); clear hq; go_simp <;> with_reducible rfl
  clear hcl hM; intro hcl hM; try simp only [Act.put, List.setIfInBounds_toArray, List.set_cons_zero, List.set_cons_succ]
  refine wpAnyM_one (i := 3) (oi := { dst := some 10, op := Op.call { callee := Callee.value (Operand.tmp 8), args := #[Operand.tmp 9], argTypes := #[59] }, type := 3, pos := "known.go:35", after := #[{ on := 1, ground := Ground.data }, { on := 2, ground := Ground.data }], guard := none }) (by kernel_rfl) rfl (by rfl) hcl (fun K hK => ?_)
  have HK := Lib.hid hK; clear hK
  go_wp2_with (go_at_call 64; refine (HF.out _).mono ?_; rintro e' w' ⟨rfl, hb1⟩)
  refine HK.out _ _ ⟨trivial, fun _ => ?_⟩ ?_
  · have hS := hM.2 (by kernel_rfl); have hsS := hS.size; (try simp at hsS); repeat (first | with_reducible exact Below.refl _ _ | with_reducible assumption | with_reducible apply b_undrew | with_reducible apply b_drew | with_reducible apply b_alloc | with_reducible apply b_set | (show (_ : Nat) ≤ _; first | exact Nat.le_refl _ | focus (simp; done) | omega | (simp; omega)) | (refine Below.trans ?_ (Below.mono (by with_reducible assumption) ?_)))
  clear hcl hM HK; intro hcl hM
  refine wpAnyM_one (i := 4) (oi := { dst := some 11, op := Op.call { callee := Callee.value (Operand.func 68), args := #[Operand.tmp 7, Operand.tmp 10], argTypes := #[23, 3] }, type := 23, pos := "known.go:35", after := #[{ on := 0, ground := Ground.data }, { on := 3, ground := Ground.data }, { on := 3, ground := Ground.chain }], guard := none }) (by kernel_rfl) rfl (by rfl) hcl (fun K hK => ?_)
  have HK := Lib.hid hK; clear hK
  go_wp2_with (go_at_call 68; refine (CW.out _).mono ?_; rintro e' w' ⟨rfl, hb2⟩)
  refine HK.out _ _ ⟨trivial, fun _ => ?_⟩ ?_
  · have hS := hM.2 (by kernel_rfl); have hsS := hS.size; (try simp at hsS); repeat (first | with_reducible exact Below.refl _ _ | with_reducible assumption | with_reducible apply b_undrew | with_reducible apply b_drew | with_reducible apply b_alloc | with_reducible apply b_set | (show (_ : Nat) ≤ _; first | exact Nat.le_refl _ | focus (simp; done) | omega | (simp; omega)) | (refine Below.trans ?_ (Below.mono (by with_reducible assumption) ?_)))
  clear hcl hM HK; intro hcl hM
  refine wpAnyM_one (i := 5) (oi := { dst := none, op := Op.store 23 (Operand.tmp 6) (Operand.tmp 11), type := 0, pos := "known.go:35", after := #[{ on := 4, ground := Ground.data }, { on := 4, ground := Ground.chain }, { on := 0, ground := Ground.phase }, { on := 1, ground := Ground.phase }, { on := 2, ground := Ground.phase }, { on := 3, ground := Ground.phase }, { on := 4, ground := Ground.phase }], guard := none }) (by kernel_rfl) rfl (by rfl) hcl (fun K hK => ?_)
  have HK := Lib.hid hK; clear hK
  have hS := hM.2 (by kernel_rfl); have hzS := hS.size; simp at hzS; have hl : w.heap.size + 1 + 1 < w'.heap.size := (by omega); have n0 := hS.cell (p := ⟨w.heap.size + 1 + 1, 0, none⟩) (by simp); have n1 := hS.cell (p := ⟨w.heap.size + 1 + 1, 1, none⟩) (by simp); have hff : ∀ o, w'.frozen? ⟨w.heap.size + 1 + 1, o, none⟩ = false := fun o => (hS.frozen (p := ⟨w.heap.size + 1 + 1, o, none⟩) (by simp)).trans (freeOf (newOf _ (by simp))); have HS := Lib.hid hS; clear hS; go_wp2_with fail
  clear hcl hM; refine HK.out _ _ (marked_gone trivial (by kernel_rfl)) ?_; clear HK; intro hcl hM
  refine wpAnyM_done (by kernel_rfl) ?_ _
  clear hcl hM
  go_wp2
  refine bodyPost_ret (v := .agg #[.int .i64 A, .int .i64 B]) (by simp [results, Tryd.results61, go_sem, n0, n1]) rfl ⟨rfl, ?_⟩
  have hS := HS.out
  have h3 := hS.mono (Nat.le_trans (Nat.le_add_right w.heap.size 3) (Nat.le_refl _))
  repeat (first | with_reducible exact Below.refl _ _ | with_reducible assumption | with_reducible apply b_undrew | with_reducible apply b_drew | with_reducible apply b_alloc | with_reducible apply b_set | (show (_ : Nat) ≤ _; first | exact Nat.le_refl _ | focus (simp; done) | omega | (simp; omega)) | (refine Below.trans ?_ (Below.mono (by with_reducible assumption) ?_)))
end Go.Proofs.YtffdidleebognaaDoor
