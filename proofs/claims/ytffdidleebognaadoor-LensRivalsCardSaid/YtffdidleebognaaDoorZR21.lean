/- Contract of the reference's Islet. -/
import Derived.Test.YtffdidleebognaaDoorZR15
import Derived.Test.YtffdidleebognaaDoorZR18
import Derived.Test.YtffdidleebognaaDoorZR10
namespace Go.Proofs.YtffdidleebognaaDoor
open Go Go.RowKit Lens
theorem islB_wells {i : Isl} {k : Nat} (hk : k < i.nw) (h : isInB (i.wells k) 0 i.cap = false) : islB i = false := by
  have : wellsB i.nw i.wells i.cap = false := by unfold wellsB; rw [allTo_false hk h]; simp
  simp [islB, this]
theorem islB_months {i : Isl} {k : Nat} (hk : k < i.nm) (h : monB (i.months k) = false) : islB i = false := by
  have : monthsB i.nm i.months = false := by unfold monthsB; rw [allTo_false hk h]; simp
  simp [islB, this]
set_option maxRecDepth 100000 in
set_option maxHeartbeats 8000000 in
theorem rIslet_any (i : Isl) (wa : Option Addr) (wc : Nat) (ma : Option Addr) (mc : Nat) (w : World) (hi : IslAt w w.heap.size i wa ma) : Calls Tryd.prog 10 #[islV i wa wc ma mc] w
   fun e' w' => e' = .returned (.bool (islB i)) ∧ Below w.heap.size w w' := by
  unfold islV
  have hnw := hi.nw
  have hnm := hi.nm
  unfold maxLen at hnw hnm
  go_enter Tryd.func10, Tryd.ntmps10
  go_wp2
  obtain ⟨V, HV⟩ : ∃ V, V = w.alloc (.cells #[.int .i64 i.cap, .int .i64 i.sl, .int .i64 i.sh, .int .i64 i.roof, .int .i64 i.sand, .int .i64 i.kl, .int .i64 i.kh, .int .i64 i.ll, .int .i64 i.lh, .int .i64 i.pump, .int .i64 i.keep, .int .i64 i.size,
    .slice wa i.nw wc, .slice ma i.nm mc, .int .i64 i.most, .int .i64 i.row] 27) := ⟨_, rfl⟩
  go_loopw [3] (fun j wr => ∃ k : Nat, k ≤ i.nw ∧ j = .int .i64 k ∧ (allTo k fun k => isInB (i.wells k) 0 i.cap) = true ∧ Below (w.heap.size + 1) V wr) (fun j _ => i.nw - (intOf j).toNat)
  case atStart => exact ⟨0, Nat.zero_le _, rfl, rfl, by rw [HV]; exact Below.refl _ _⟩
  case round =>
    obtain ⟨k, hk, rfl, hall, hBr⟩ := hrel
    obtain ⟨wo, rfl⟩ : ∃ wo : World, wo = wr := ⟨_, rfl⟩
    have hsz : w.heap.size + 1 ≤ wo.heap.size := by
      have := hBr.size
      rw [HV] at this
      simpa using this
    have hBw : Below w.heap.size w wo := (by rw [HV]; exact alloc_below _ _ : Below w.heap.size w V).trans (hBr.mono (by omega))
    have HALL' := hall
    have HALL := Lib.hid hall; clear hall
    have hV1 : wo.heap[w.heap.size]? = some (.cells #[.int .i64 i.cap, .int .i64 i.sl, .int .i64 i.sh, .int .i64 i.roof, .int .i64 i.sand, .int .i64 i.kl, .int .i64 i.kh, .int .i64 i.ll, .int .i64 i.lh, .int .i64 i.pump, .int .i64 i.keep, .int .i64 i.size,
      .slice wa i.nw wc, .slice ma i.nm mc, .int .i64 i.most, .int .i64 i.row] 27 (0, 0)) := (hBr.block _ (by omega)).trans (by rw [HV]; exact newOf _ (by simp))
    have hl0 : w.heap.size < wo.heap.size := by omega
    have e12 := cellOf (k := 12) (v := .slice wa i.nw wc) hV1 rfl
    have e0 := cellOf (k := 0) (v := .int .i64 i.cap) hV1 rfl
    by_cases hlt : k < i.nw
    · obtain ⟨b, off, rfl, hb, hck⟩ := intsGet (hi.below hBw (Nat.le_refl _)).wells hlt
      have k0 : (0 : Int) ≤ (k : Int) := Int.natCast_nonneg _
      have k1 : (k : Int) < (i.nw : Int) := by omega
      clear hV1
      have HBr := Lib.hid hBr
      clear hBr
      cases hin : isInB (i.wells k) 0 i.cap
      · have HIN := Lib.hid hin; clear hin
        go_wp2_with fail
        refine wp_region_keeps (B := w.heap.size + 1) (by kernel_rfl) ?_
        intro hcl hM
        refine wpAnyM_take (i := 0) (oi := { dst := some 13, op := Op.fieldAddr 27 (Operand.tmp 1) 9, type := 0, pos := "ref.go:28", after := #[], guard := none }) (v := ?_) rfl (by kernel_rfl) (by kernel_rfl) (by kernel_rfl) (by kernel_rfl) (fun _ _ _ h => h) (Or.inl ⟨by rfl, ?_⟩) hcl hM ?_
        rotate_left 1
        · intro wx hx; go_simp <;> with_reducible rfl
        clear hcl hM; intro hcl hM; try simp only [Act.put, List.setIfInBounds_toArray, List.set_cons_zero, List.set_cons_succ]
        refine wpAnyM_take (i := 1) (oi := { dst := some 14, op := Op.load 24 (Operand.tmp 13), type := 24, pos := "ref.go:28", after := #[{ on := 0, ground := Ground.data }], guard := none }) (v := ?_) rfl (by kernel_rfl) (by kernel_rfl) (by kernel_rfl) (by kernel_rfl) (fun _ _ _ h => h) (Or.inl ⟨by rfl, ?_⟩) hcl hM ?_
        rotate_left 1
        · intro wx hx; have hq := below_cells hx; have q1 := hq w.heap.size 12 (by omega); have q2 := hq w.heap.size 0 (by omega); have qr := hq b (off + k) (by omega); clear hq; go_simp <;> with_reducible rfl
        clear hcl hM; intro hcl hM; try simp only [Act.put, List.setIfInBounds_toArray, List.set_cons_zero, List.set_cons_succ]
        refine wpAnyM_take (i := 2) (oi := { dst := some 15, op := Op.move (Operand.tmp 3), type := 3, pos := "ref.go:28", after := #[], guard := none }) (v := ?_) rfl (by kernel_rfl) (by kernel_rfl) (by kernel_rfl) (by kernel_rfl) (fun _ _ _ h => h) (Or.inl ⟨by rfl, ?_⟩) hcl hM ?_
        rotate_left 1
        · intro wx hx; go_simp <;> with_reducible rfl
        clear hcl hM; intro hcl hM; try simp only [Act.put, List.setIfInBounds_toArray, List.set_cons_zero, List.set_cons_succ]
        refine wpAnyM_take (i := 3) (oi := { dst := some 16, op := Op.indexAddr 24 (Operand.tmp 14) (Operand.tmp 15), type := 0, pos := "ref.go:28", after := #[{ on := 1, ground := Ground.data }, { on := 2, ground := Ground.data }], guard := none }) (v := ?_) rfl (by kernel_rfl) (by kernel_rfl) (by kernel_rfl) (by kernel_rfl) (fun _ _ _ h => h) (Or.inl ⟨by rfl, ?_⟩) hcl hM ?_
        rotate_left 1
        · intro wx hx; go_simp <;> with_reducible rfl
        clear hcl hM; intro hcl hM; try simp only [Act.put, List.setIfInBounds_toArray, List.set_cons_zero, List.set_cons_succ]
        refine wpAnyM_take (i := 4) (oi := { dst := some 17, op := Op.load 3 (Operand.tmp 16), type := 3, pos := "ref.go:28", after := #[{ on := 3, ground := Ground.data }], guard := none }) (v := ?_) rfl (by kernel_rfl) (by kernel_rfl) (by kernel_rfl) (by kernel_rfl) (fun _ _ _ h => h) (Or.inl ⟨by rfl, ?_⟩) hcl hM ?_
        rotate_left 1
        · intro wx hx; have hq := below_cells hx; have q1 := hq w.heap.size 12 (by omega); have q2 := hq w.heap.size 0 (by omega); have qr := hq b (off + k) (by omega); clear hq; go_simp <;> with_reducible rfl
        clear hcl hM; intro hcl hM; try simp only [Act.put, List.setIfInBounds_toArray, List.set_cons_zero, List.set_cons_succ]
        refine wpAnyM_take (i := 5) (oi := { dst := some 18, op := Op.fieldAddr 27 (Operand.tmp 1) 0, type := 0, pos := "ref.go:28", after := #[], guard := none }) (v := ?_) rfl (by kernel_rfl) (by kernel_rfl) (by kernel_rfl) (by kernel_rfl) (fun _ _ _ h => h) (Or.inl ⟨by rfl, ?_⟩) hcl hM ?_
        rotate_left 1
        · intro wx hx; go_simp <;> with_reducible rfl
        clear hcl hM; intro hcl hM; try simp only [Act.put, List.setIfInBounds_toArray, List.set_cons_zero, List.set_cons_succ]
        refine wpAnyM_take (i := 6) (oi := { dst := some 19, op := Op.load 3 (Operand.tmp 18), type := 3, pos := "ref.go:28", after := #[{ on := 5, ground := Ground.data }], guard := none }) (v := ?_) rfl (by kernel_rfl) (by kernel_rfl) (by kernel_rfl) (by kernel_rfl) (fun _ _ _ h => h) (Or.inl ⟨by rfl, ?_⟩) hcl hM ?_
        rotate_left 1
        · intro wx hx; have hq := below_cells hx; have q1 := hq w.heap.size 12 (by omega); have q2 := hq w.heap.size 0 (by omega); have qr := hq b (off + k) (by omega); clear hq; go_simp <;> with_reducible rfl
        clear hcl hM; intro hcl hM; try simp only [Act.put, List.setIfInBounds_toArray, List.set_cons_zero, List.set_cons_succ]
        refine wpAnyM_one (i := 7) (oi := { dst := some 20, op := Op.call { callee := Callee.value (Operand.func 23), args := #[Operand.tmp 17, Operand.const (Value.int IntKind.i64 0), Operand.tmp 19], argTypes := #[3, 3, 3] }, type := 4, pos := "ref.go:28", after := #[{ on := 4, ground := Ground.data }, { on := 6, ground := Ground.data }], guard := none }) (by kernel_rfl) rfl (by rfl) hcl (fun K hK => ?_)
        have HK := Lib.hid hK; clear hK
        go_wp2_with (go_at_call 23; refine (rin_any _ _ _ _).mono ?_; rintro e' w' ⟨rfl, rfl⟩; rw [HIN.out])
        refine HK.out _ _ ⟨?_, fun _ => trivial⟩ ?_
        · have hS := hM.1; have hsS := hS.size; (try simp at hsS); repeat (first | with_reducible exact Below.refl _ _ | with_reducible assumption | with_reducible apply b_undrew | with_reducible apply b_drew | with_reducible apply b_alloc | with_reducible apply b_set | (show (_ : Nat) ≤ _; first | exact Nat.le_refl _ | focus (simp; done) | omega | (simp; omega)) | (refine Below.trans ?_ (Below.mono (by with_reducible assumption) ?_)))
        clear hcl hM HK; intro hcl hM
        refine wpAnyM_take (i := 8) (oi := { dst := some 21, op := Op.unOp UnOp.not 4 (Operand.tmp 20), type := 4, pos := "ref.go:28", after := #[{ on := 7, ground := Ground.data }], guard := none }) (v := ?_) rfl (by kernel_rfl) (by kernel_rfl) (by kernel_rfl) (by kernel_rfl) (fun _ _ _ h => h) (Or.inl ⟨by rfl, ?_⟩) hcl hM ?_
        rotate_left 1
        · intro wx hx; go_simp <;> with_reducible rfl
        clear hcl hM; intro hcl hM; try simp only [Act.put, List.setIfInBounds_toArray, List.set_cons_zero, List.set_cons_succ]
        refine wpAnyM_done (by kernel_rfl) ?_ _
        have hEnd := hM.1; clear hcl hM
        go_wp2
        go_ret
        exact ⟨ret_bool (islB_wells hlt HIN.out).symm, hBw.trans (hEnd.mono (by omega))⟩
      · have HIN := Lib.hid hin; clear hin
        go_wp2_with fail
        refine wp_region_keeps (B := w.heap.size + 1) (by kernel_rfl) ?_
        intro hcl hM
        refine wpAnyM_take (i := 0) (oi := { dst := some 13, op := Op.fieldAddr 27 (Operand.tmp 1) 9, type := 0, pos := "ref.go:28", after := #[], guard := none }) (v := ?_) rfl (by kernel_rfl) (by kernel_rfl) (by kernel_rfl) (by kernel_rfl) (fun _ _ _ h => h) (Or.inl ⟨by rfl, ?_⟩) hcl hM ?_
        rotate_left 1
        · intro wx hx; go_simp <;> with_reducible rfl
        clear hcl hM; intro hcl hM; try simp only [Act.put, List.setIfInBounds_toArray, List.set_cons_zero, List.set_cons_succ]
        refine wpAnyM_take (i := 1) (oi := { dst := some 14, op := Op.load 24 (Operand.tmp 13), type := 24, pos := "ref.go:28", after := #[{ on := 0, ground := Ground.data }], guard := none }) (v := ?_) rfl (by kernel_rfl) (by kernel_rfl) (by kernel_rfl) (by kernel_rfl) (fun _ _ _ h => h) (Or.inl ⟨by rfl, ?_⟩) hcl hM ?_
        rotate_left 1
        · intro wx hx; have hq := below_cells hx; have q1 := hq w.heap.size 12 (by omega); have q2 := hq w.heap.size 0 (by omega); have qr := hq b (off + k) (by omega); clear hq; go_simp <;> with_reducible rfl
        clear hcl hM; intro hcl hM; try simp only [Act.put, List.setIfInBounds_toArray, List.set_cons_zero, List.set_cons_succ]
        refine wpAnyM_take (i := 2) (oi := { dst := some 15, op := Op.move (Operand.tmp 3), type := 3, pos := "ref.go:28", after := #[], guard := none }) (v := ?_) rfl (by kernel_rfl) (by kernel_rfl) (by kernel_rfl) (by kernel_rfl) (fun _ _ _ h => h) (Or.inl ⟨by rfl, ?_⟩) hcl hM ?_
        rotate_left 1
        · intro wx hx; go_simp <;> with_reducible rfl
        clear hcl hM; intro hcl hM; try simp only [Act.put, List.setIfInBounds_toArray, List.set_cons_zero, List.set_cons_succ]
        refine wpAnyM_take (i := 3) (oi := { dst := some 16, op := Op.indexAddr 24 (Operand.tmp 14) (Operand.tmp 15), type := 0, pos := "ref.go:28", after := #[{ on := 1, ground := Ground.data }, { on := 2, ground := Ground.data }], guard := none }) (v := ?_) rfl (by kernel_rfl) (by kernel_rfl) (by kernel_rfl) (by kernel_rfl) (fun _ _ _ h => h) (Or.inl ⟨by rfl, ?_⟩) hcl hM ?_
        rotate_left 1
        · intro wx hx; go_simp <;> with_reducible rfl
        clear hcl hM; intro hcl hM; try simp only [Act.put, List.setIfInBounds_toArray, List.set_cons_zero, List.set_cons_succ]
        refine wpAnyM_take (i := 4) (oi := { dst := some 17, op := Op.load 3 (Operand.tmp 16), type := 3, pos := "ref.go:28", after := #[{ on := 3, ground := Ground.data }], guard := none }) (v := ?_) rfl (by kernel_rfl) (by kernel_rfl) (by kernel_rfl) (by kernel_rfl) (fun _ _ _ h => h) (Or.inl ⟨by rfl, ?_⟩) hcl hM ?_
        rotate_left 1
        · intro wx hx; have hq := below_cells hx; have q1 := hq w.heap.size 12 (by omega); have q2 := hq w.heap.size 0 (by omega); have qr := hq b (off + k) (by omega); clear hq; go_simp <;> with_reducible rfl
        clear hcl hM; intro hcl hM; try simp only [Act.put, List.setIfInBounds_toArray, List.set_cons_zero, List.set_cons_succ]
        refine wpAnyM_take (i := 5) (oi := { dst := some 18, op := Op.fieldAddr 27 (Operand.tmp 1) 0, type := 0, pos := "ref.go:28", after := #[], guard := none }) (v := ?_) rfl (by kernel_rfl) (by kernel_rfl) (by kernel_rfl) (by kernel_rfl) (fun _ _ _ h => h) (Or.inl ⟨by rfl, ?_⟩) hcl hM ?_
        rotate_left 1
        · intro wx hx; go_simp <;> with_reducible rfl
        clear hcl hM; intro hcl hM; try simp only [Act.put, List.setIfInBounds_toArray, List.set_cons_zero, List.set_cons_succ]
        refine wpAnyM_take (i := 6) (oi := { dst := some 19, op := Op.load 3 (Operand.tmp 18), type := 3, pos := "ref.go:28", after := #[{ on := 5, ground := Ground.data }], guard := none }) (v := ?_) rfl (by kernel_rfl) (by kernel_rfl) (by kernel_rfl) (by kernel_rfl) (fun _ _ _ h => h) (Or.inl ⟨by rfl, ?_⟩) hcl hM ?_
        rotate_left 1
        · intro wx hx; have hq := below_cells hx; have q1 := hq w.heap.size 12 (by omega); have q2 := hq w.heap.size 0 (by omega); have qr := hq b (off + k) (by omega); clear hq; go_simp <;> with_reducible rfl
        clear hcl hM; intro hcl hM; try simp only [Act.put, List.setIfInBounds_toArray, List.set_cons_zero, List.set_cons_succ]
        refine wpAnyM_one (i := 7) (oi := { dst := some 20, op := Op.call { callee := Callee.value (Operand.func 23), args := #[Operand.tmp 17, Operand.const (Value.int IntKind.i64 0), Operand.tmp 19], argTypes := #[3, 3, 3] }, type := 4, pos := "ref.go:28", after := #[{ on := 4, ground := Ground.data }, { on := 6, ground := Ground.data }], guard := none }) (by kernel_rfl) rfl (by rfl) hcl (fun K hK => ?_)
        have HK := Lib.hid hK; clear hK
        go_wp2_with (go_at_call 23; refine (rin_any _ _ _ _).mono ?_; rintro e' w' ⟨rfl, rfl⟩; rw [HIN.out])
        refine HK.out _ _ ⟨?_, fun _ => trivial⟩ ?_
        · have hS := hM.1; have hsS := hS.size; (try simp at hsS); repeat (first | with_reducible exact Below.refl _ _ | with_reducible assumption | with_reducible apply b_undrew | with_reducible apply b_drew | with_reducible apply b_alloc | with_reducible apply b_set | (show (_ : Nat) ≤ _; first | exact Nat.le_refl _ | focus (simp; done) | omega | (simp; omega)) | (refine Below.trans ?_ (Below.mono (by with_reducible assumption) ?_)))
        clear hcl hM HK; intro hcl hM
        refine wpAnyM_take (i := 8) (oi := { dst := some 21, op := Op.unOp UnOp.not 4 (Operand.tmp 20), type := 4, pos := "ref.go:28", after := #[{ on := 7, ground := Ground.data }], guard := none }) (v := ?_) rfl (by kernel_rfl) (by kernel_rfl) (by kernel_rfl) (by kernel_rfl) (fun _ _ _ h => h) (Or.inl ⟨by rfl, ?_⟩) hcl hM ?_
        rotate_left 1
        · intro wx hx; go_simp <;> with_reducible rfl
        clear hcl hM; intro hcl hM; try simp only [Act.put, List.setIfInBounds_toArray, List.set_cons_zero, List.set_cons_succ]
        refine wpAnyM_done (by kernel_rfl) ?_ _
        have hEnd := hM.1; clear hcl hM
        go_wp2
        go_roundw
        case rel => exact ⟨k + 1, by omega, by go_num, allTo_succ HALL.out HIN.out, HBr.out.trans hEnd⟩
        case measure => simp [intOf]; omega
    · have e13 := cellOf (k := 13) (v := .slice ma i.nm mc) hV1 rfl
      go_wp2
      clear e0 e12 e13 hV1 HALL
      obtain rfl : k = i.nw := by omega
      have HW := Lib.hid HALL'
      have HB1 := Lib.hid hBr
      clear HALL'
      clear hBr hsz hBw hl0 hlt hk
      go_loopw [4] (fun j wr => ∃ k : Nat, k ≤ i.nm ∧ j = .int .i64 k ∧ (allTo k fun k => monB (i.months k)) = true ∧ Below (w.heap.size + 1) V wr) (fun j _ => i.nm - (intOf j).toNat)
      case atStart => exact ⟨0, Nat.zero_le _, rfl, rfl, HB1.out⟩
      case round =>
        obtain ⟨k, hk, rfl, hall, hBr⟩ := hrel
        obtain ⟨wo, rfl⟩ : ∃ wo : World, wo = wr := ⟨_, rfl⟩
        have hsz : w.heap.size + 1 ≤ wo.heap.size := by
          have := hBr.size
          rw [HV] at this
          simpa using this
        have hBw : Below w.heap.size w wo := (by rw [HV]; exact alloc_below _ _ : Below w.heap.size w V).trans (hBr.mono (by omega))
        have HALL := Lib.hid hall; clear hall
        have hV1 : wo.heap[w.heap.size]? = some (.cells #[.int .i64 i.cap, .int .i64 i.sl, .int .i64 i.sh, .int .i64 i.roof, .int .i64 i.sand, .int .i64 i.kl, .int .i64 i.kh, .int .i64 i.ll, .int .i64 i.lh, .int .i64 i.pump, .int .i64 i.keep, .int .i64 i.size,
          .slice wa i.nw wc, .slice ma i.nm mc, .int .i64 i.most, .int .i64 i.row] 27 (0, 0)) := (hBr.block _ (by omega)).trans (by rw [HV]; exact newOf _ (by simp))
        have hl0 : w.heap.size < wo.heap.size := by omega
        by_cases hlt : k < i.nm
        · have e13 := cellOf (k := 13) (v := .slice ma i.nm mc) hV1 rfl
          obtain ⟨b, off, rfl, hb, h0, h1, h2, h3, h4, h5⟩ := monsGet (hi.below hBw (Nat.le_refl _)).months hlt
          have k0 : (0 : Int) ≤ (k : Int) := Int.natCast_nonneg _
          have k1 : (k : Int) < (i.nm : Int) := by omega
          clear hV1
          have HBr := Lib.hid hBr
          clear hBr
          have hbo : b < wo.heap.size := by omega
          go_wp2_with fail
          refine (calls_from (B := wo.heap.size + 1) (rSpan_any _ _ _ _) (by exact Below.refl _ _) (by simp)).mono ?_
          rintro e' w' ⟨rfl, hbb, hz, hc⟩
          cases h6 : isSpanB (i.months k).wl (i.months k).wh 2000
          · have H6 := Lib.hid h6; clear h6
            go_wp2
            go_ret
            exact ⟨ret_bool (islB_months hlt (by simp [monB, H6.out])).symm, (b_alloc hBw (by omega)).trans (hbb.mono (by omega))⟩
          have H6 := Lib.hid h6; clear h6
          go_wp2_with fail
          refine (calls_from (B := wo.heap.size + 1) (rSpan_any _ _ _ _) hbb hz).mono ?_
          clear hbb hz hc
          rintro e' w' ⟨rfl, hbb, hz, hc⟩
          cases h7 : isSpanB (i.months k).dl (i.months k).dh 2000
          · have H7 := Lib.hid h7; clear h7
            go_wp2
            go_ret
            exact ⟨ret_bool (islB_months hlt (by simp [monB, H7.out])).symm, (b_alloc hBw (by omega)).trans (hbb.mono (by omega))⟩
          have H7 := Lib.hid h7; clear h7
          by_cases h8 : (i.months k).wl < (i.months k).dl
          · go_wp2
            go_ret
            exact ⟨ret_bool (islB_months hlt (by simp [monB]; omega)).symm, (b_alloc hBw (by omega)).trans (hbb.mono (by omega))⟩
          by_cases h9 : (i.months k).wh < (i.months k).dh
          · go_wp2
            go_ret
            exact ⟨ret_bool (islB_months hlt (by simp [monB]; omega)).symm, (b_alloc hBw (by omega)).trans (hbb.mono (by omega))⟩
          go_wp2_with fail
          refine (calls_from (B := wo.heap.size + 1) (rSpan_any _ _ _ _) hbb hz).mono ?_
          clear hbb hz hc
          rintro e' w' ⟨rfl, hbb, hz, hc⟩
          cases h10 : isSpanB (i.months k).nl (i.months k).nh 10000000
          · have H10 := Lib.hid h10; clear h10
            go_wp2
            go_ret
            exact ⟨ret_bool (islB_months hlt (by simp [monB, H10.out])).symm, (b_alloc hBw (by omega)).trans (hbb.mono (by omega))⟩
          have H10 := Lib.hid h10; clear h10
          go_wp2
          go_roundw
          case rel => exact ⟨k + 1, by omega, by go_num, allTo_succ HALL.out (by simp [monB, H6.out, H7.out, H10.out]; omega), (b_alloc HBr.out (by omega)).trans (hbb.mono (by omega))⟩
          case measure => simp [intOf]; omega
        · have e0 := cellOf (k := 0) (v := .int .i64 i.cap) hV1 rfl
          have e1 := cellOf (k := 1) (v := .int .i64 i.sl) hV1 rfl
          have e2 := cellOf (k := 2) (v := .int .i64 i.sh) hV1 rfl
          have e3 := cellOf (k := 3) (v := .int .i64 i.roof) hV1 rfl
          have e4 := cellOf (k := 4) (v := .int .i64 i.sand) hV1 rfl
          have e5 := cellOf (k := 5) (v := .int .i64 i.kl) hV1 rfl
          have e6 := cellOf (k := 6) (v := .int .i64 i.kh) hV1 rfl
          have e7 := cellOf (k := 7) (v := .int .i64 i.ll) hV1 rfl
          have e8 := cellOf (k := 8) (v := .int .i64 i.lh) hV1 rfl
          have e9 := cellOf (k := 9) (v := .int .i64 i.pump) hV1 rfl
          have e10 := cellOf (k := 10) (v := .int .i64 i.keep) hV1 rfl
          have e11 := cellOf (k := 11) (v := .int .i64 i.size) hV1 rfl
          have e12 := cellOf (k := 12) (v := .slice wa i.nw wc) hV1 rfl
          have e13 := cellOf (k := 13) (v := .slice ma i.nm mc) hV1 rfl
          have e14 := cellOf (k := 14) (v := .int .i64 i.most) hV1 rfl
          have e15 := cellOf (k := 15) (v := .int .i64 i.row) hV1 rfl
          obtain rfl : k = i.nm := by omega
          clear hV1 hBr HB1 hlt hk
          go_wp2_with fail
          with_reducible refine (rin_any _ _ _ _).mono ?_
          rintro e' w' ⟨rfl, rfl⟩
          cases h : isInB i.cap 1 10000000
          · have HX := Lib.hid h; clear h
            dsimp only; go_step; refine idle_sound (by kernel_rfl) ?_; go_step; go_step; apply wp_ret; refine ⟨by kernel_rfl, .bool false, by kernel_rfl, ?_⟩
            exact ⟨ret_bool (by simp [islB, HX.out]), hBw⟩
          have H0 := Lib.hid h; clear h
          go_wp2_with fail
          refine (calls_from (B := w.heap.size + 1) (rSpan_any _ _ _ _) (by exact Below.refl _ _) hsz).mono ?_
          rintro e' w' ⟨rfl, hbb, hz, hc⟩
          cases h : isSpanB i.sl i.sh i.cap
          · have HX := Lib.hid h; clear h
            dsimp only; go_step; refine idle_sound (by kernel_rfl) ?_; go_step; go_step; apply wp_ret; refine ⟨by kernel_rfl, .bool false, by kernel_rfl, ?_⟩
            exact ⟨ret_bool (by simp [islB, HX.out]), hBw.trans (hbb.mono (by omega))⟩
          have H1 := Lib.hid h; clear h
          go_wp2_with fail
          with_reducible refine (rin_any _ _ _ _).mono ?_
          rintro e' w' ⟨rfl, rfl⟩
          cases h : isInB i.roof 0 100000
          · have HX := Lib.hid h; clear h
            dsimp only; go_step; refine idle_sound (by kernel_rfl) ?_; go_step; go_step; apply wp_ret; refine ⟨by kernel_rfl, .bool false, by kernel_rfl, ?_⟩
            exact ⟨ret_bool (by simp [islB, HX.out]), hBw.trans (hbb.mono (by omega))⟩
          have H2 := Lib.hid h; clear h
          go_wp2_with fail
          with_reducible refine (rin_any _ _ _ _).mono ?_
          rintro e' w' ⟨rfl, rfl⟩
          cases h : isInB i.sand 0 10000000
          · have HX := Lib.hid h; clear h
            dsimp only; go_step; refine idle_sound (by kernel_rfl) ?_; go_step; go_step; apply wp_ret; refine ⟨by kernel_rfl, .bool false, by kernel_rfl, ?_⟩
            exact ⟨ret_bool (by simp [islB, HX.out]), hBw.trans (hbb.mono (by omega))⟩
          have H3 := Lib.hid h; clear h
          go_wp2_with fail
          refine (calls_from (B := w.heap.size + 1) (rSpan_any _ _ _ _) hbb hz).mono ?_
          clear hbb hz hc
          rintro e' w' ⟨rfl, hbb, hz, hc⟩
          cases h : isSpanB i.kl i.kh 1000
          · have HX := Lib.hid h; clear h
            dsimp only; go_step; refine idle_sound (by kernel_rfl) ?_; go_step; go_step; apply wp_ret; refine ⟨by kernel_rfl, .bool false, by kernel_rfl, ?_⟩
            exact ⟨ret_bool (by simp [islB, HX.out]), hBw.trans (hbb.mono (by omega))⟩
          have H4 := Lib.hid h; clear h
          go_wp2_with fail
          refine (calls_from (B := w.heap.size + 1) (rSpan_any _ _ _ _) hbb hz).mono ?_
          clear hbb hz hc
          rintro e' w' ⟨rfl, hbb, hz, hc⟩
          cases h : isSpanB i.ll i.lh 1000
          · have HX := Lib.hid h; clear h
            dsimp only; go_step; refine idle_sound (by kernel_rfl) ?_; go_step; go_step; apply wp_ret; refine ⟨by kernel_rfl, .bool false, by kernel_rfl, ?_⟩
            exact ⟨ret_bool (by simp [islB, HX.out]), hBw.trans (hbb.mono (by omega))⟩
          have H5 := Lib.hid h; clear h
          go_wp2_with fail
          with_reducible refine (rin_any _ _ _ _).mono ?_
          rintro e' w' ⟨rfl, rfl⟩
          cases h : isInB i.pump 0 10000000
          · have HX := Lib.hid h; clear h
            dsimp only; go_step; refine idle_sound (by kernel_rfl) ?_; go_step; go_step; apply wp_ret; refine ⟨by kernel_rfl, .bool false, by kernel_rfl, ?_⟩
            exact ⟨ret_bool (by simp [islB, HX.out]), hBw.trans (hbb.mono (by omega))⟩
          have H6 := Lib.hid h; clear h
          go_wp2_with fail
          with_reducible refine (rin_any _ _ _ _).mono ?_
          rintro e' w' ⟨rfl, rfl⟩
          cases h : isInB i.size 0 10000000
          · have HX := Lib.hid h; clear h
            dsimp only; go_step; refine idle_sound (by kernel_rfl) ?_; go_step; go_step; apply wp_ret; refine ⟨by kernel_rfl, .bool false, by kernel_rfl, ?_⟩
            exact ⟨ret_bool (by simp [islB, HX.out]), hBw.trans (hbb.mono (by omega))⟩
          have H7 := Lib.hid h; clear h
          go_wp2_with fail
          with_reducible refine (rin_any _ _ _ _).mono ?_
          rintro e' w' ⟨rfl, rfl⟩
          cases h : isInB i.keep 0 i.cap
          · have HX := Lib.hid h; clear h
            dsimp only; go_step; refine idle_sound (by kernel_rfl) ?_; go_step; go_step; apply wp_ret; refine ⟨by kernel_rfl, .bool false, by kernel_rfl, ?_⟩
            exact ⟨ret_bool (by simp [islB, HX.out]), hBw.trans (hbb.mono (by omega))⟩
          have H8 := Lib.hid h; clear h
          by_cases h4 : ¬ i.nw ≤ 4
          · go_wp2_with fail
            go_ret
            exact ⟨ret_bool (by simp [islB, wellsB, h4]), hBw.trans (hbb.mono (by omega))⟩
          have h4 := Decidable.not_not.1 h4
          go_wp2_with fail
          with_reducible refine (rin_any _ _ _ _).mono ?_
          rintro e' w' ⟨rfl, rfl⟩
          cases h : isInB i.nm 1 8
          · have HX := Lib.hid h; clear h
            dsimp only; go_step; refine idle_sound (by kernel_rfl) ?_; go_step; go_step; apply wp_ret; refine ⟨by kernel_rfl, .bool false, by kernel_rfl, ?_⟩
            exact ⟨ret_bool (by simp [islB, monthsB, HX.out]), hBw.trans (hbb.mono (by omega))⟩
          have H10 := Lib.hid h; clear h
          go_wp2_with fail
          with_reducible refine (rin_any _ _ _ _).mono ?_
          rintro e' w' ⟨rfl, rfl⟩
          cases h : isInB i.most 0 i.nm
          · have HX := Lib.hid h; clear h
            dsimp only; go_step; refine idle_sound (by kernel_rfl) ?_; go_step; go_step; apply wp_ret; refine ⟨by kernel_rfl, .bool false, by kernel_rfl, ?_⟩
            exact ⟨ret_bool (by simp [islB, HX.out]), hBw.trans (hbb.mono (by omega))⟩
          have H11 := Lib.hid h; clear h
          go_wp2_with fail
          with_reducible refine (rin_any _ _ _ _).mono ?_
          rintro e' w' ⟨rfl, rfl⟩
          go_wp2_with fail
          go_ret
          exact ⟨ret_bool (by simp [islB, wellsB, monthsB, h4, HW.out, HALL.out, H0.out, H1.out, H2.out, H3.out, H4.out, H5.out, H6.out, H7.out, H8.out, H10.out, H11.out]), hBw.trans (hbb.mono (by omega))⟩
end Go.Proofs.YtffdidleebognaaDoor
