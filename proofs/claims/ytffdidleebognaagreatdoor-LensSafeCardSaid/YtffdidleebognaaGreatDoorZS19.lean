/- Contract of isTruth. -/
import Derived.Test.YtffdidleebognaaGreatDoorZS18
import Derived.Test.YtffdidleebognaaGreatDoorZS16
import Derived.Test.YtffdidleebognaaGreatDoorZS10
namespace Go.Proofs.YtffdidleebognaaGreatDoor
open Go Go.RowKit Lens
theorem two_below (w : World) (X Y : Obj) : Below w.heap.size w ((w.alloc X).alloc Y) := b_alloc (alloc_below _ _) (by simp)
theorem truB_no {i : Isl} {t : Tru} (h : ¬ truB i t = true) : truB i t = false := by simpa using h
set_option maxHeartbeats 1000000 in
theorem isTruth_any (i : Isl) (wa : Option Addr) (wc : Nat) (ma : Option Addr) (mc : Nat) (t : Tru) (da : Option Addr) (dc : Nat) (ra : Option Addr) (rc : Nat) (na : Option Addr) (nc : Nat) (w : World)
    (hi : IslAt w w.heap.size i wa ma) (ht : TruAt w w.heap.size t da ra na) :
    Calls Tryz.prog 44 #[islV i wa wc ma mc, truV t da dc ra rc na nc] w
   fun e' w' => e' = .returned (.bool (truB i t)) ∧ Below w.heap.size w w' := by
  have hnm := hi.nm
  have hnd := ht.nd
  unfold maxLen at hnm
  have HI : ∀ X Y, IslAt ((w.alloc X).alloc Y) (w.heap.size + 2) i wa ma := fun X Y => hi.below (two_below w X Y) (by omega)
  have HT : ∀ X Y, TruAt ((w.alloc X).alloc Y) (w.heap.size + 2) t da ra na := fun X Y => ht.below (two_below w X Y) (by omega)
  have HI := Lib.hid HI
  have HT := Lib.hid HT
  unfold islV truV
  go_enter Tryz.func44, Tryz.ntmps44
  go_wp2_with fail
  refine (calls_from (B := w.heap.size + 2) (isInSpan_any _ _ _ _) (by exact Below.refl _ _) (by simp)).mono ?_
  rintro e' w' ⟨rfl, hb, hz, hc⟩
  cases h1 : isInB t.start i.sl i.sh
  · have H1 := Lib.hid h1; clear h1
    go_wp2
    go_ret
    exact ⟨ret_bool (by simp [truB, H1.out]), (two_below _ _ _).trans (hb.mono (by omega))⟩
  have H1 := Lib.hid h1; clear h1
  go_wp2_with fail
  refine (calls_from (B := w.heap.size + 2) (isInSpan_any _ _ _ _) hb hz).mono ?_
  clear hb hz hc
  rintro e' w' ⟨rfl, hb, hz, hc⟩
  cases h2 : isInB t.soak i.kl i.kh
  · have H2 := Lib.hid h2; clear h2
    go_wp2
    go_ret
    exact ⟨ret_bool (by simp [truB, H2.out]), (two_below _ _ _).trans (hb.mono (by omega))⟩
  have H2 := Lib.hid h2; clear h2
  go_wp2_with fail
  refine (calls_from (B := w.heap.size + 2) (isInSpan_any _ _ _ _) hb hz).mono ?_
  clear hb hz hc
  rintro e' w' ⟨rfl, hb, hz, hc⟩
  cases h3 : isInB t.leak i.ll i.lh
  · have H3 := Lib.hid h3; clear h3
    go_wp2
    go_ret
    exact ⟨ret_bool (by simp [truB, H3.out]), (two_below _ _ _).trans (hb.mono (by omega))⟩
  have H3 := Lib.hid h3; clear h3
  cases h4 : ((t.nd : Int) != i.nm)
  all_goals cases h5 : ((t.nr : Int) != i.nm)
  all_goals cases h6 : ((t.nn : Int) != i.nm)
  all_goals go_wp2_with fail
  rotate_left 1
  iterate 7
    · go_ret
      refine ⟨ret_bool ?_, (two_below _ _ _).trans (hb.mono (by omega))⟩
      have hno : ¬ (t.nd = i.nm ∧ t.nr = i.nm ∧ t.nn = i.nm) := by
        rintro ⟨a, b, c⟩
        simp [a, b, c] at h4 h5 h6
      refine (truB_no fun h => hno ?_).symm
      simp only [truB, Bool.and_eq_true, decide_eq_true_eq] at h
      exact ⟨h.1.1.1.1.2, h.1.1.1.2, h.1.1.2⟩
  have hnd1 : t.nd = i.nm := by simp [bne] at h4; omega
  have hnr1 : t.nr = i.nm := by simp [bne] at h5; omega
  have hnn1 : t.nn = i.nm := by simp [bne] at h6; omega
  have HND := Lib.hid hnd1
  have HNR := Lib.hid hnr1
  have HNN := Lib.hid hnn1
  have H4 := Lib.hid h4
  have H5 := Lib.hid h5
  have H6 := Lib.hid h6
  clear hnd1 hnr1 hnn1 h4 h5 h6
  refine (calls_from (B := w.heap.size + 2) (isDrought_any i wa wc ma mc da t.nd dc t.dry _ hnd ((HT.out _ _).below hb hz).dry) hb hz).mono ?_
  clear hb hz hc
  rintro e' w' ⟨rfl, hb, hz, hc⟩
  cases h7 : drB i.most i.row t.nd t.dry
  · have H7 := Lib.hid h7; clear h7
    go_wp2
    go_ret
    exact ⟨ret_bool (by simp [truB, H7.out]), (two_below _ _ _).trans (hb.mono (by omega))⟩
  have H7 := Lib.hid h7; clear h7
  go_wp2_with fail
  have HB := Lib.hid hb
  have HZ := Lib.hid hz
  clear hb hz
  have HC := Lib.hid hc
  clear hc
  obtain ⟨V, HV⟩ : ∃ V, V = ((w.alloc (.cells #[.int .i64 i.cap, .int .i64 i.sl, .int .i64 i.sh, .int .i64 i.roof, .int .i64 i.sand, .int .i64 i.kl, .int .i64 i.kh, .int .i64 i.ll, .int .i64 i.lh, .int .i64 i.pump, .int .i64 i.keep, .int .i64 i.size,
    .slice wa i.nw wc, .slice ma i.nm mc, .int .i64 i.most, .int .i64 i.row] 27)).alloc (.cells #[.int .i64 t.start, .int .i64 t.soak, .int .i64 t.leak, .slice da t.nd dc, .slice ra t.nr rc, .slice na t.nn nc] 40)) := ⟨_, rfl⟩
  go_loopw [62] (fun j wr => ∃ k : Nat, k ≤ i.nm ∧ j = .int .i64 k ∧ allTo k (truOk i t) = true ∧ Below (w.heap.size + 2) V wr) (fun j _ => i.nm - (intOf j).toNat)
  case atStart => exact ⟨0, Nat.zero_le _, rfl, rfl, by rw [HV]; exact HB.out⟩
  case round =>
    obtain ⟨k, hk, rfl, hall, hBr⟩ := hrel
    obtain ⟨wo, rfl⟩ : ∃ wo : World, wo = wr := ⟨_, rfl⟩
    have hsz : w.heap.size + 2 ≤ wo.heap.size := by
      have := hBr.size
      rw [HV] at this
      simpa using this
    have hBw : Below w.heap.size w wo := (by rw [HV]; exact two_below _ _ _ : Below w.heap.size w V).trans (hBr.mono (by omega))
    have HALL := Lib.hid hall; clear hall
    by_cases hlt : k < i.nm
    · have hV1 : wo.heap[w.heap.size + 1]? = some (.cells #[.int .i64 t.start, .int .i64 t.soak, .int .i64 t.leak, .slice da t.nd dc, .slice ra t.nr rc, .slice na t.nn nc] 40 (0, 0)) := (hBr.block _ (by omega)).trans (by rw [HV]; exact newOf _ (by simp))
      have hIo := (HI.out _ _).below (by rw [← HV]; exact hBr) hsz
      have hTo := (HT.out _ _).below (by rw [← HV]; exact hBr) hsz
      obtain ⟨mb, mo, rfl, hmb, m0, m1, m2, m3, m4, m5⟩ := monsGet hIo.months hlt
      obtain ⟨rb, ro, rfl, hrb, hrc⟩ := intsGet hTo.rains (by rw [HNR.out]; exact hlt : k < t.nr)
      obtain ⟨nb, no, rfl, hnb, hnc⟩ := intsGet hTo.needs (by rw [HNN.out]; exact hlt : k < t.nn)
      obtain ⟨db, dof, rfl, hdb, hdc⟩ := boolsGet hTo.dry (by rw [HND.out]; exact hlt : k < t.nd)
      have e3 := cellOf (k := 3) (v := .slice (some ⟨db, dof, none⟩) t.nd dc) hV1 rfl
      have e4 := cellOf (k := 4) (v := .slice (some ⟨rb, ro, none⟩) t.nr rc) hV1 rfl
      have e5 := cellOf (k := 5) (v := .slice (some ⟨nb, no, none⟩) t.nn nc) hV1 rfl
      have hl0 : w.heap.size < wo.heap.size := by omega
      have hl1 : w.heap.size + 1 < wo.heap.size := by omega
      have k0 : (0 : Int) ≤ (k : Int) := Int.natCast_nonneg _
      have k1 : (k : Int) < (t.nr : Int) := by have := HNR.out; omega
      have k2 : (k : Int) < (t.nn : Int) := by have := HNN.out; omega
      have k3 : (k : Int) < (t.nd : Int) := by have := HND.out; omega
      clear hV1 hIo hTo
      have HBr := Lib.hid hBr
      clear hBr
      cases hr : isInB (t.rains k) (rlo (i.months k) (t.dry k)) (rhi (i.months k) (t.dry k))
      · have HR := Lib.hid hr; clear hr
        go_wp2_with fail
        refine wp_region_keeps (B := wo.heap.size + 1) (by kernel_rfl) ?_
        intro hcl hM
        refine wpAnyM_take (i := 0) (oi := { dst := some 67, op := Op.fieldAddr 40 (Operand.tmp 3) 4, type := 0, pos := "islet.go:52", after := #[], guard := none }) (v := ?_) rfl (by kernel_rfl) (by kernel_rfl) (by kernel_rfl) (by kernel_rfl) (fun _ _ _ h => h) (Or.inl ⟨by rfl, ?_⟩) hcl hM ?_
        rotate_left 1
        · intro wx hx; go_simp <;> with_reducible rfl
        clear hcl hM; intro hcl hM; try simp only [Act.put, List.setIfInBounds_toArray, List.set_cons_zero, List.set_cons_succ]
        refine wpAnyM_take (i := 1) (oi := { dst := some 68, op := Op.load 24 (Operand.tmp 67), type := 24, pos := "islet.go:52", after := #[{ on := 0, ground := Ground.data }], guard := none }) (v := ?_) rfl (by kernel_rfl) (by kernel_rfl) (by kernel_rfl) (by kernel_rfl) (fun _ _ _ h => h) (Or.inl ⟨by rfl, ?_⟩) hcl hM ?_
        rotate_left 1
        · intro wx hx; have hq := below_cells hx; have q4 := hq (w.heap.size + 1) 4 (by omega); have q3 := hq (w.heap.size + 1) 3 (by omega); have q5 := hq (w.heap.size + 1) 5 (by omega); have qr := hq rb (ro + k) (by omega); have qd := hq db (dof + k) (by omega); have qn := hq nb (no + k) (by omega); have z0 := hq wo.heap.size 0 (by omega); have z1 := hq wo.heap.size 1 (by omega); have z2 := hq wo.heap.size 2 (by omega); have z3 := hq wo.heap.size 3 (by omega); have z4 := hq wo.heap.size 4 (by omega); have z5 := hq wo.heap.size 5 (by omega); clear hq; go_simp <;> with_reducible rfl
        clear hcl hM; intro hcl hM; try simp only [Act.put, List.setIfInBounds_toArray, List.set_cons_zero, List.set_cons_succ]
        refine wpAnyM_take (i := 2) (oi := { dst := some 69, op := Op.move (Operand.tmp 6), type := 3, pos := "islet.go:52", after := #[], guard := none }) (v := ?_) rfl (by kernel_rfl) (by kernel_rfl) (by kernel_rfl) (by kernel_rfl) (fun _ _ _ h => h) (Or.inl ⟨by rfl, ?_⟩) hcl hM ?_
        rotate_left 1
        · intro wx hx; go_simp <;> with_reducible rfl
        clear hcl hM; intro hcl hM; try simp only [Act.put, List.setIfInBounds_toArray, List.set_cons_zero, List.set_cons_succ]
        refine wpAnyM_take (i := 3) (oi := { dst := some 70, op := Op.indexAddr 24 (Operand.tmp 68) (Operand.tmp 69), type := 0, pos := "islet.go:52", after := #[{ on := 1, ground := Ground.data }, { on := 2, ground := Ground.data }], guard := none }) (v := ?_) rfl (by kernel_rfl) (by kernel_rfl) (by kernel_rfl) (by kernel_rfl) (fun _ _ _ h => h) (Or.inl ⟨by rfl, ?_⟩) hcl hM ?_
        rotate_left 1
        · intro wx hx; go_simp <;> with_reducible rfl
        clear hcl hM; intro hcl hM; try simp only [Act.put, List.setIfInBounds_toArray, List.set_cons_zero, List.set_cons_succ]
        refine wpAnyM_take (i := 4) (oi := { dst := some 71, op := Op.load 3 (Operand.tmp 70), type := 3, pos := "islet.go:52", after := #[{ on := 3, ground := Ground.data }], guard := none }) (v := ?_) rfl (by kernel_rfl) (by kernel_rfl) (by kernel_rfl) (by kernel_rfl) (fun _ _ _ h => h) (Or.inl ⟨by rfl, ?_⟩) hcl hM ?_
        rotate_left 1
        · intro wx hx; have hq := below_cells hx; have q4 := hq (w.heap.size + 1) 4 (by omega); have q3 := hq (w.heap.size + 1) 3 (by omega); have q5 := hq (w.heap.size + 1) 5 (by omega); have qr := hq rb (ro + k) (by omega); have qd := hq db (dof + k) (by omega); have qn := hq nb (no + k) (by omega); have z0 := hq wo.heap.size 0 (by omega); have z1 := hq wo.heap.size 1 (by omega); have z2 := hq wo.heap.size 2 (by omega); have z3 := hq wo.heap.size 3 (by omega); have z4 := hq wo.heap.size 4 (by omega); have z5 := hq wo.heap.size 5 (by omega); clear hq; go_simp <;> with_reducible rfl
        clear hcl hM; intro hcl hM; try simp only [Act.put, List.setIfInBounds_toArray, List.set_cons_zero, List.set_cons_succ]
        refine wpAnyM_take (i := 5) (oi := { dst := some 72, op := Op.load 81 (Operand.tmp 7), type := 81, pos := "islet.go:52", after := #[], guard := none }) (v := ?_) rfl (by kernel_rfl) (by kernel_rfl) (by kernel_rfl) (by kernel_rfl) (fun _ _ _ h => h) (Or.inl ⟨by rfl, ?_⟩) hcl hM ?_
        rotate_left 1
        · intro wx hx; have hq := below_cells hx; have q4 := hq (w.heap.size + 1) 4 (by omega); have q3 := hq (w.heap.size + 1) 3 (by omega); have q5 := hq (w.heap.size + 1) 5 (by omega); have qr := hq rb (ro + k) (by omega); have qd := hq db (dof + k) (by omega); have qn := hq nb (no + k) (by omega); have z0 := hq wo.heap.size 0 (by omega); have z1 := hq wo.heap.size 1 (by omega); have z2 := hq wo.heap.size 2 (by omega); have z3 := hq wo.heap.size 3 (by omega); have z4 := hq wo.heap.size 4 (by omega); have z5 := hq wo.heap.size 5 (by omega); clear hq; go_simp <;> with_reducible rfl
        clear hcl hM; intro hcl hM; try simp only [Act.put, List.setIfInBounds_toArray, List.set_cons_zero, List.set_cons_succ]
        refine wpAnyM_take (i := 6) (oi := { dst := some 73, op := Op.fieldAddr 40 (Operand.tmp 3) 3, type := 0, pos := "islet.go:52", after := #[], guard := none }) (v := ?_) rfl (by kernel_rfl) (by kernel_rfl) (by kernel_rfl) (by kernel_rfl) (fun _ _ _ h => h) (Or.inl ⟨by rfl, ?_⟩) hcl hM ?_
        rotate_left 1
        · intro wx hx; go_simp <;> with_reducible rfl
        clear hcl hM; intro hcl hM; try simp only [Act.put, List.setIfInBounds_toArray, List.set_cons_zero, List.set_cons_succ]
        refine wpAnyM_take (i := 7) (oi := { dst := some 74, op := Op.load 38 (Operand.tmp 73), type := 38, pos := "islet.go:52", after := #[{ on := 6, ground := Ground.data }], guard := none }) (v := ?_) rfl (by kernel_rfl) (by kernel_rfl) (by kernel_rfl) (by kernel_rfl) (fun _ _ _ h => h) (Or.inl ⟨by rfl, ?_⟩) hcl hM ?_
        rotate_left 1
        · intro wx hx; have hq := below_cells hx; have q4 := hq (w.heap.size + 1) 4 (by omega); have q3 := hq (w.heap.size + 1) 3 (by omega); have q5 := hq (w.heap.size + 1) 5 (by omega); have qr := hq rb (ro + k) (by omega); have qd := hq db (dof + k) (by omega); have qn := hq nb (no + k) (by omega); have z0 := hq wo.heap.size 0 (by omega); have z1 := hq wo.heap.size 1 (by omega); have z2 := hq wo.heap.size 2 (by omega); have z3 := hq wo.heap.size 3 (by omega); have z4 := hq wo.heap.size 4 (by omega); have z5 := hq wo.heap.size 5 (by omega); clear hq; go_simp <;> with_reducible rfl
        clear hcl hM; intro hcl hM; try simp only [Act.put, List.setIfInBounds_toArray, List.set_cons_zero, List.set_cons_succ]
        refine wpAnyM_take (i := 8) (oi := { dst := some 75, op := Op.move (Operand.tmp 6), type := 3, pos := "islet.go:52", after := #[], guard := none }) (v := ?_) rfl (by kernel_rfl) (by kernel_rfl) (by kernel_rfl) (by kernel_rfl) (fun _ _ _ h => h) (Or.inl ⟨by rfl, ?_⟩) hcl hM ?_
        rotate_left 1
        · intro wx hx; go_simp <;> with_reducible rfl
        clear hcl hM; intro hcl hM; try simp only [Act.put, List.setIfInBounds_toArray, List.set_cons_zero, List.set_cons_succ]
        refine wpAnyM_take (i := 9) (oi := { dst := some 76, op := Op.indexAddr 38 (Operand.tmp 74) (Operand.tmp 75), type := 0, pos := "islet.go:52", after := #[{ on := 7, ground := Ground.data }, { on := 8, ground := Ground.data }], guard := none }) (v := ?_) rfl (by kernel_rfl) (by kernel_rfl) (by kernel_rfl) (by kernel_rfl) (fun _ _ _ h => h) (Or.inl ⟨by rfl, ?_⟩) hcl hM ?_
        rotate_left 1
        · intro wx hx; go_simp <;> with_reducible rfl
        clear hcl hM; intro hcl hM; try simp only [Act.put, List.setIfInBounds_toArray, List.set_cons_zero, List.set_cons_succ]
        refine wpAnyM_take (i := 10) (oi := { dst := some 77, op := Op.load 4 (Operand.tmp 76), type := 4, pos := "islet.go:52", after := #[{ on := 9, ground := Ground.data }], guard := none }) (v := ?_) rfl (by kernel_rfl) (by kernel_rfl) (by kernel_rfl) (by kernel_rfl) (fun _ _ _ h => h) (Or.inl ⟨by rfl, ?_⟩) hcl hM ?_
        rotate_left 1
        · intro wx hx; have hq := below_cells hx; have q4 := hq (w.heap.size + 1) 4 (by omega); have q3 := hq (w.heap.size + 1) 3 (by omega); have q5 := hq (w.heap.size + 1) 5 (by omega); have qr := hq rb (ro + k) (by omega); have qd := hq db (dof + k) (by omega); have qn := hq nb (no + k) (by omega); have z0 := hq wo.heap.size 0 (by omega); have z1 := hq wo.heap.size 1 (by omega); have z2 := hq wo.heap.size 2 (by omega); have z3 := hq wo.heap.size 3 (by omega); have z4 := hq wo.heap.size 4 (by omega); have z5 := hq wo.heap.size 5 (by omega); clear hq; go_simp <;> with_reducible rfl
        clear hcl hM; intro hcl hM; try simp only [Act.put, List.setIfInBounds_toArray, List.set_cons_zero, List.set_cons_succ]
        refine wpAnyM_one (i := 11) (oi := { dst := some 78, op := Op.call { callee := Callee.value (Operand.func 63), args := #[Operand.tmp 72, Operand.tmp 77], argTypes := #[81, 4] }, type := 23, pos := "islet.go:52", after := #[{ on := 5, ground := Ground.data }, { on := 10, ground := Ground.data }], guard := none }) (by kernel_rfl) rfl (by rfl) hcl (fun K hK => ?_)
        have HK := Lib.hid hK; clear hK
        go_wp2_with (go_at_call 63; refine (rainOf_any (i.months k) (t.dry k) _).mono ?_; rintro e' w' ⟨rfl, hbz⟩)
        refine HK.out _ _ ⟨?_, fun _ => trivial⟩ ?_
        · have hS := hM.1; have hsS := hS.size; (try simp at hsS); repeat (first | with_reducible exact Below.refl _ _ | with_reducible assumption | with_reducible apply b_undrew | with_reducible apply b_drew | with_reducible apply b_alloc | with_reducible apply b_set | (show (_ : Nat) ≤ _; first | exact Nat.le_refl _ | focus (simp; done) | omega | (simp; omega)) | (refine Below.trans ?_ (Below.mono (by with_reducible assumption) ?_)))
        clear hcl hM HK; intro hcl hM
        refine wpAnyM_one (i := 12) (oi := { dst := some 79, op := Op.call { callee := Callee.value (Operand.func 61), args := #[Operand.tmp 71, Operand.tmp 78], argTypes := #[3, 23] }, type := 4, pos := "islet.go:52", after := #[{ on := 4, ground := Ground.data }, { on := 11, ground := Ground.data }, { on := 11, ground := Ground.chain }], guard := none }) (by kernel_rfl) rfl (by rfl) hcl (fun K hK => ?_)
        have HK := Lib.hid hK; clear hK
        go_wp2_with (go_at_call 61; refine (isInSpan_any _ _ _ _).mono ?_; rintro e' w' ⟨rfl, hbz2⟩; rw [HR.out])
        refine HK.out _ _ ⟨?_, fun _ => trivial⟩ ?_
        · have hS := hM.1; have hsS := hS.size; (try simp at hsS); repeat (first | with_reducible exact Below.refl _ _ | with_reducible assumption | with_reducible apply b_undrew | with_reducible apply b_drew | with_reducible apply b_alloc | with_reducible apply b_set | (show (_ : Nat) ≤ _; first | exact Nat.le_refl _ | focus (simp; done) | omega | (simp; omega)) | (refine Below.trans ?_ (Below.mono (by with_reducible assumption) ?_)))
        clear hcl hM HK; intro hcl hM
        refine wpAnyM_take (i := 13) (oi := { dst := some 80, op := Op.unOp UnOp.not 4 (Operand.tmp 79), type := 4, pos := "islet.go:52", after := #[{ on := 12, ground := Ground.data }], guard := none }) (v := ?_) rfl (by kernel_rfl) (by kernel_rfl) (by kernel_rfl) (by kernel_rfl) (fun _ _ _ h => h) (Or.inl ⟨by rfl, ?_⟩) hcl hM ?_
        rotate_left 1
        · intro wx hx; go_simp <;> with_reducible rfl
        clear hcl hM; intro hcl hM; try simp only [Act.put, List.setIfInBounds_toArray, List.set_cons_zero, List.set_cons_succ]
        refine wpAnyM_take (i := 14) (oi := { dst := some 81, op := Op.move (Operand.tmp 80), type := 4, pos := "islet.go:52", after := #[{ on := 13, ground := Ground.data }, { on := 12, ground := Ground.chain }], guard := none }) (v := ?_) rfl (by kernel_rfl) (by kernel_rfl) (by kernel_rfl) (by kernel_rfl) (fun _ _ _ h => h) (Or.inl ⟨by rfl, ?_⟩) hcl hM ?_
        rotate_left 1
        · intro wx hx; go_simp <;> with_reducible rfl
        clear hcl hM; intro hcl hM; try simp only [Act.put, List.setIfInBounds_toArray, List.set_cons_zero, List.set_cons_succ]
        refine wpAnyM_take (i := 15) (oi := { dst := some 82, op := Op.fieldAddr 40 (Operand.tmp 3) 5, type := 0, pos := "islet.go:52", after := #[{ on := 14, ground := Ground.guard }], guard := some (14, false) }) (v := undef) rfl (by kernel_rfl) (by kernel_rfl) (by kernel_rfl) (by kernel_rfl) (fun _ _ _ h => h) (Or.inr ⟨by rfl, rfl⟩) hcl hM ?_
        clear hcl hM; intro hcl hM; try simp only [Act.put, List.setIfInBounds_toArray, List.set_cons_zero, List.set_cons_succ]
        refine wpAnyM_take (i := 16) (oi := { dst := some 83, op := Op.load 24 (Operand.tmp 82), type := 24, pos := "islet.go:52", after := #[{ on := 15, ground := Ground.data }, { on := 14, ground := Ground.guard }], guard := some (14, false) }) (v := undef) rfl (by kernel_rfl) (by kernel_rfl) (by kernel_rfl) (by kernel_rfl) (fun _ _ _ h => h) (Or.inr ⟨by rfl, rfl⟩) hcl hM ?_
        clear hcl hM; intro hcl hM; try simp only [Act.put, List.setIfInBounds_toArray, List.set_cons_zero, List.set_cons_succ]
        refine wpAnyM_take (i := 17) (oi := { dst := some 84, op := Op.move (Operand.tmp 6), type := 3, pos := "islet.go:52", after := #[{ on := 14, ground := Ground.guard }], guard := some (14, false) }) (v := undef) rfl (by kernel_rfl) (by kernel_rfl) (by kernel_rfl) (by kernel_rfl) (fun _ _ _ h => h) (Or.inr ⟨by rfl, rfl⟩) hcl hM ?_
        clear hcl hM; intro hcl hM; try simp only [Act.put, List.setIfInBounds_toArray, List.set_cons_zero, List.set_cons_succ]
        refine wpAnyM_take (i := 18) (oi := { dst := some 85, op := Op.indexAddr 24 (Operand.tmp 83) (Operand.tmp 84), type := 0, pos := "islet.go:52", after := #[{ on := 16, ground := Ground.data }, { on := 17, ground := Ground.data }, { on := 14, ground := Ground.guard }], guard := some (14, false) }) (v := undef) rfl (by kernel_rfl) (by kernel_rfl) (by kernel_rfl) (by kernel_rfl) (fun _ _ _ h => h) (Or.inr ⟨by rfl, rfl⟩) hcl hM ?_
        clear hcl hM; intro hcl hM; try simp only [Act.put, List.setIfInBounds_toArray, List.set_cons_zero, List.set_cons_succ]
        refine wpAnyM_take (i := 19) (oi := { dst := some 86, op := Op.load 3 (Operand.tmp 85), type := 3, pos := "islet.go:52", after := #[{ on := 18, ground := Ground.data }, { on := 14, ground := Ground.guard }], guard := some (14, false) }) (v := undef) rfl (by kernel_rfl) (by kernel_rfl) (by kernel_rfl) (by kernel_rfl) (fun _ _ _ h => h) (Or.inr ⟨by rfl, rfl⟩) hcl hM ?_
        clear hcl hM; intro hcl hM; try simp only [Act.put, List.setIfInBounds_toArray, List.set_cons_zero, List.set_cons_succ]
        refine wpAnyM_take (i := 20) (oi := { dst := some 87, op := Op.fieldAddr 81 (Operand.tmp 7) 2, type := 0, pos := "islet.go:52", after := #[{ on := 14, ground := Ground.guard }], guard := some (14, false) }) (v := undef) rfl (by kernel_rfl) (by kernel_rfl) (by kernel_rfl) (by kernel_rfl) (fun _ _ _ h => h) (Or.inr ⟨by rfl, rfl⟩) hcl hM ?_
        clear hcl hM; intro hcl hM; try simp only [Act.put, List.setIfInBounds_toArray, List.set_cons_zero, List.set_cons_succ]
        refine wpAnyM_take (i := 21) (oi := { dst := some 88, op := Op.load 23 (Operand.tmp 87), type := 23, pos := "islet.go:52", after := #[{ on := 20, ground := Ground.data }, { on := 14, ground := Ground.guard }], guard := some (14, false) }) (v := undef) rfl (by kernel_rfl) (by kernel_rfl) (by kernel_rfl) (by kernel_rfl) (fun _ _ _ h => h) (Or.inr ⟨by rfl, rfl⟩) hcl hM ?_
        clear hcl hM; intro hcl hM; try simp only [Act.put, List.setIfInBounds_toArray, List.set_cons_zero, List.set_cons_succ]
        refine wpAnyM_take (i := 22) (oi := { dst := some 89, op := Op.call { callee := Callee.value (Operand.func 61), args := #[Operand.tmp 86, Operand.tmp 88], argTypes := #[3, 23] }, type := 4, pos := "islet.go:52", after := #[{ on := 19, ground := Ground.data }, { on := 21, ground := Ground.data }, { on := 14, ground := Ground.chain }, { on := 14, ground := Ground.guard }], guard := some (14, false) }) (v := undef) rfl (by kernel_rfl) (by kernel_rfl) (by kernel_rfl) (by kernel_rfl) (fun _ _ _ h => h) (Or.inr ⟨by rfl, rfl⟩) hcl hM ?_
        clear hcl hM; intro hcl hM; try simp only [Act.put, List.setIfInBounds_toArray, List.set_cons_zero, List.set_cons_succ]
        refine wpAnyM_take (i := 23) (oi := { dst := some 90, op := Op.unOp UnOp.not 4 (Operand.tmp 89), type := 4, pos := "islet.go:52", after := #[{ on := 22, ground := Ground.data }, { on := 14, ground := Ground.guard }], guard := some (14, false) }) (v := undef) rfl (by kernel_rfl) (by kernel_rfl) (by kernel_rfl) (by kernel_rfl) (fun _ _ _ h => h) (Or.inr ⟨by rfl, rfl⟩) hcl hM ?_
        clear hcl hM; intro hcl hM; try simp only [Act.put, List.setIfInBounds_toArray, List.set_cons_zero, List.set_cons_succ]
        refine wpAnyM_take (i := 24) (oi := { dst := some 91, op := Op.pick (Operand.tmp 81) (Operand.const (Value.bool true)) (Operand.tmp 90), type := 4, pos := "islet.go:52", after := #[{ on := 14, ground := Ground.data }, { on := 23, ground := Ground.data }], guard := none }) (v := ?_) rfl (by kernel_rfl) (by kernel_rfl) (by kernel_rfl) (by kernel_rfl) (fun _ _ _ h => h) (Or.inl ⟨by rfl, ?_⟩) hcl hM ?_
        rotate_left 1
        · intro wx hx; go_simp <;> with_reducible rfl
        clear hcl hM; intro hcl hM; try simp only [Act.put, List.setIfInBounds_toArray, List.set_cons_zero, List.set_cons_succ]
        refine wpAnyM_done (by kernel_rfl) ?_ _
        have hEnd := hM.1; clear hcl hM
        go_wp2
        go_ret
        exact ⟨ret_bool (by
          refine (truB_no fun h => ?_).symm
          simp only [truB, Bool.and_eq_true, allTo_iff] at h
          have := h.2 k hlt
          simp [truOk, HR.out] at this), (b_alloc hBw (by omega)).trans (hEnd.mono (by omega))⟩
      · have HR := Lib.hid hr; clear hr
        cases hn : isInB (t.needs k) (i.months k).nl (i.months k).nh
        · have HN := Lib.hid hn; clear hn
          go_wp2_with fail
          refine wp_region_keeps (B := wo.heap.size + 1) (by kernel_rfl) ?_
          intro hcl hM
          refine wpAnyM_take (i := 0) (oi := { dst := some 67, op := Op.fieldAddr 40 (Operand.tmp 3) 4, type := 0, pos := "islet.go:52", after := #[], guard := none }) (v := ?_) rfl (by kernel_rfl) (by kernel_rfl) (by kernel_rfl) (by kernel_rfl) (fun _ _ _ h => h) (Or.inl ⟨by rfl, ?_⟩) hcl hM ?_
          rotate_left 1
          · intro wx hx; go_simp <;> with_reducible rfl
          clear hcl hM; intro hcl hM; try simp only [Act.put, List.setIfInBounds_toArray, List.set_cons_zero, List.set_cons_succ]
          refine wpAnyM_take (i := 1) (oi := { dst := some 68, op := Op.load 24 (Operand.tmp 67), type := 24, pos := "islet.go:52", after := #[{ on := 0, ground := Ground.data }], guard := none }) (v := ?_) rfl (by kernel_rfl) (by kernel_rfl) (by kernel_rfl) (by kernel_rfl) (fun _ _ _ h => h) (Or.inl ⟨by rfl, ?_⟩) hcl hM ?_
          rotate_left 1
          · intro wx hx; have hq := below_cells hx; have q4 := hq (w.heap.size + 1) 4 (by omega); have q3 := hq (w.heap.size + 1) 3 (by omega); have q5 := hq (w.heap.size + 1) 5 (by omega); have qr := hq rb (ro + k) (by omega); have qd := hq db (dof + k) (by omega); have qn := hq nb (no + k) (by omega); have z0 := hq wo.heap.size 0 (by omega); have z1 := hq wo.heap.size 1 (by omega); have z2 := hq wo.heap.size 2 (by omega); have z3 := hq wo.heap.size 3 (by omega); have z4 := hq wo.heap.size 4 (by omega); have z5 := hq wo.heap.size 5 (by omega); clear hq; go_simp <;> with_reducible rfl
          clear hcl hM; intro hcl hM; try simp only [Act.put, List.setIfInBounds_toArray, List.set_cons_zero, List.set_cons_succ]
          refine wpAnyM_take (i := 2) (oi := { dst := some 69, op := Op.move (Operand.tmp 6), type := 3, pos := "islet.go:52", after := #[], guard := none }) (v := ?_) rfl (by kernel_rfl) (by kernel_rfl) (by kernel_rfl) (by kernel_rfl) (fun _ _ _ h => h) (Or.inl ⟨by rfl, ?_⟩) hcl hM ?_
          rotate_left 1
          · intro wx hx; go_simp <;> with_reducible rfl
          clear hcl hM; intro hcl hM; try simp only [Act.put, List.setIfInBounds_toArray, List.set_cons_zero, List.set_cons_succ]
          refine wpAnyM_take (i := 3) (oi := { dst := some 70, op := Op.indexAddr 24 (Operand.tmp 68) (Operand.tmp 69), type := 0, pos := "islet.go:52", after := #[{ on := 1, ground := Ground.data }, { on := 2, ground := Ground.data }], guard := none }) (v := ?_) rfl (by kernel_rfl) (by kernel_rfl) (by kernel_rfl) (by kernel_rfl) (fun _ _ _ h => h) (Or.inl ⟨by rfl, ?_⟩) hcl hM ?_
          rotate_left 1
          · intro wx hx; go_simp <;> with_reducible rfl
          clear hcl hM; intro hcl hM; try simp only [Act.put, List.setIfInBounds_toArray, List.set_cons_zero, List.set_cons_succ]
          refine wpAnyM_take (i := 4) (oi := { dst := some 71, op := Op.load 3 (Operand.tmp 70), type := 3, pos := "islet.go:52", after := #[{ on := 3, ground := Ground.data }], guard := none }) (v := ?_) rfl (by kernel_rfl) (by kernel_rfl) (by kernel_rfl) (by kernel_rfl) (fun _ _ _ h => h) (Or.inl ⟨by rfl, ?_⟩) hcl hM ?_
          rotate_left 1
          · intro wx hx; have hq := below_cells hx; have q4 := hq (w.heap.size + 1) 4 (by omega); have q3 := hq (w.heap.size + 1) 3 (by omega); have q5 := hq (w.heap.size + 1) 5 (by omega); have qr := hq rb (ro + k) (by omega); have qd := hq db (dof + k) (by omega); have qn := hq nb (no + k) (by omega); have z0 := hq wo.heap.size 0 (by omega); have z1 := hq wo.heap.size 1 (by omega); have z2 := hq wo.heap.size 2 (by omega); have z3 := hq wo.heap.size 3 (by omega); have z4 := hq wo.heap.size 4 (by omega); have z5 := hq wo.heap.size 5 (by omega); clear hq; go_simp <;> with_reducible rfl
          clear hcl hM; intro hcl hM; try simp only [Act.put, List.setIfInBounds_toArray, List.set_cons_zero, List.set_cons_succ]
          refine wpAnyM_take (i := 5) (oi := { dst := some 72, op := Op.load 81 (Operand.tmp 7), type := 81, pos := "islet.go:52", after := #[], guard := none }) (v := ?_) rfl (by kernel_rfl) (by kernel_rfl) (by kernel_rfl) (by kernel_rfl) (fun _ _ _ h => h) (Or.inl ⟨by rfl, ?_⟩) hcl hM ?_
          rotate_left 1
          · intro wx hx; have hq := below_cells hx; have q4 := hq (w.heap.size + 1) 4 (by omega); have q3 := hq (w.heap.size + 1) 3 (by omega); have q5 := hq (w.heap.size + 1) 5 (by omega); have qr := hq rb (ro + k) (by omega); have qd := hq db (dof + k) (by omega); have qn := hq nb (no + k) (by omega); have z0 := hq wo.heap.size 0 (by omega); have z1 := hq wo.heap.size 1 (by omega); have z2 := hq wo.heap.size 2 (by omega); have z3 := hq wo.heap.size 3 (by omega); have z4 := hq wo.heap.size 4 (by omega); have z5 := hq wo.heap.size 5 (by omega); clear hq; go_simp <;> with_reducible rfl
          clear hcl hM; intro hcl hM; try simp only [Act.put, List.setIfInBounds_toArray, List.set_cons_zero, List.set_cons_succ]
          refine wpAnyM_take (i := 6) (oi := { dst := some 73, op := Op.fieldAddr 40 (Operand.tmp 3) 3, type := 0, pos := "islet.go:52", after := #[], guard := none }) (v := ?_) rfl (by kernel_rfl) (by kernel_rfl) (by kernel_rfl) (by kernel_rfl) (fun _ _ _ h => h) (Or.inl ⟨by rfl, ?_⟩) hcl hM ?_
          rotate_left 1
          · intro wx hx; go_simp <;> with_reducible rfl
          clear hcl hM; intro hcl hM; try simp only [Act.put, List.setIfInBounds_toArray, List.set_cons_zero, List.set_cons_succ]
          refine wpAnyM_take (i := 7) (oi := { dst := some 74, op := Op.load 38 (Operand.tmp 73), type := 38, pos := "islet.go:52", after := #[{ on := 6, ground := Ground.data }], guard := none }) (v := ?_) rfl (by kernel_rfl) (by kernel_rfl) (by kernel_rfl) (by kernel_rfl) (fun _ _ _ h => h) (Or.inl ⟨by rfl, ?_⟩) hcl hM ?_
          rotate_left 1
          · intro wx hx; have hq := below_cells hx; have q4 := hq (w.heap.size + 1) 4 (by omega); have q3 := hq (w.heap.size + 1) 3 (by omega); have q5 := hq (w.heap.size + 1) 5 (by omega); have qr := hq rb (ro + k) (by omega); have qd := hq db (dof + k) (by omega); have qn := hq nb (no + k) (by omega); have z0 := hq wo.heap.size 0 (by omega); have z1 := hq wo.heap.size 1 (by omega); have z2 := hq wo.heap.size 2 (by omega); have z3 := hq wo.heap.size 3 (by omega); have z4 := hq wo.heap.size 4 (by omega); have z5 := hq wo.heap.size 5 (by omega); clear hq; go_simp <;> with_reducible rfl
          clear hcl hM; intro hcl hM; try simp only [Act.put, List.setIfInBounds_toArray, List.set_cons_zero, List.set_cons_succ]
          refine wpAnyM_take (i := 8) (oi := { dst := some 75, op := Op.move (Operand.tmp 6), type := 3, pos := "islet.go:52", after := #[], guard := none }) (v := ?_) rfl (by kernel_rfl) (by kernel_rfl) (by kernel_rfl) (by kernel_rfl) (fun _ _ _ h => h) (Or.inl ⟨by rfl, ?_⟩) hcl hM ?_
          rotate_left 1
          · intro wx hx; go_simp <;> with_reducible rfl
          clear hcl hM; intro hcl hM; try simp only [Act.put, List.setIfInBounds_toArray, List.set_cons_zero, List.set_cons_succ]
          refine wpAnyM_take (i := 9) (oi := { dst := some 76, op := Op.indexAddr 38 (Operand.tmp 74) (Operand.tmp 75), type := 0, pos := "islet.go:52", after := #[{ on := 7, ground := Ground.data }, { on := 8, ground := Ground.data }], guard := none }) (v := ?_) rfl (by kernel_rfl) (by kernel_rfl) (by kernel_rfl) (by kernel_rfl) (fun _ _ _ h => h) (Or.inl ⟨by rfl, ?_⟩) hcl hM ?_
          rotate_left 1
          · intro wx hx; go_simp <;> with_reducible rfl
          clear hcl hM; intro hcl hM; try simp only [Act.put, List.setIfInBounds_toArray, List.set_cons_zero, List.set_cons_succ]
          refine wpAnyM_take (i := 10) (oi := { dst := some 77, op := Op.load 4 (Operand.tmp 76), type := 4, pos := "islet.go:52", after := #[{ on := 9, ground := Ground.data }], guard := none }) (v := ?_) rfl (by kernel_rfl) (by kernel_rfl) (by kernel_rfl) (by kernel_rfl) (fun _ _ _ h => h) (Or.inl ⟨by rfl, ?_⟩) hcl hM ?_
          rotate_left 1
          · intro wx hx; have hq := below_cells hx; have q4 := hq (w.heap.size + 1) 4 (by omega); have q3 := hq (w.heap.size + 1) 3 (by omega); have q5 := hq (w.heap.size + 1) 5 (by omega); have qr := hq rb (ro + k) (by omega); have qd := hq db (dof + k) (by omega); have qn := hq nb (no + k) (by omega); have z0 := hq wo.heap.size 0 (by omega); have z1 := hq wo.heap.size 1 (by omega); have z2 := hq wo.heap.size 2 (by omega); have z3 := hq wo.heap.size 3 (by omega); have z4 := hq wo.heap.size 4 (by omega); have z5 := hq wo.heap.size 5 (by omega); clear hq; go_simp <;> with_reducible rfl
          clear hcl hM; intro hcl hM; try simp only [Act.put, List.setIfInBounds_toArray, List.set_cons_zero, List.set_cons_succ]
          refine wpAnyM_one (i := 11) (oi := { dst := some 78, op := Op.call { callee := Callee.value (Operand.func 63), args := #[Operand.tmp 72, Operand.tmp 77], argTypes := #[81, 4] }, type := 23, pos := "islet.go:52", after := #[{ on := 5, ground := Ground.data }, { on := 10, ground := Ground.data }], guard := none }) (by kernel_rfl) rfl (by rfl) hcl (fun K hK => ?_)
          have HK := Lib.hid hK; clear hK
          go_wp2_with (go_at_call 63; refine (rainOf_any (i.months k) (t.dry k) _).mono ?_; rintro e' w' ⟨rfl, hbz⟩)
          refine HK.out _ _ ⟨?_, fun _ => trivial⟩ ?_
          · have hS := hM.1; have hsS := hS.size; (try simp at hsS); repeat (first | with_reducible exact Below.refl _ _ | with_reducible assumption | with_reducible apply b_undrew | with_reducible apply b_drew | with_reducible apply b_alloc | with_reducible apply b_set | (show (_ : Nat) ≤ _; first | exact Nat.le_refl _ | focus (simp; done) | omega | (simp; omega)) | (refine Below.trans ?_ (Below.mono (by with_reducible assumption) ?_)))
          clear hcl hM HK; intro hcl hM
          refine wpAnyM_one (i := 12) (oi := { dst := some 79, op := Op.call { callee := Callee.value (Operand.func 61), args := #[Operand.tmp 71, Operand.tmp 78], argTypes := #[3, 23] }, type := 4, pos := "islet.go:52", after := #[{ on := 4, ground := Ground.data }, { on := 11, ground := Ground.data }, { on := 11, ground := Ground.chain }], guard := none }) (by kernel_rfl) rfl (by rfl) hcl (fun K hK => ?_)
          have HK := Lib.hid hK; clear hK
          go_wp2_with (go_at_call 61; refine (isInSpan_any _ _ _ _).mono ?_; rintro e' w' ⟨rfl, hbz2⟩; rw [HR.out])
          refine HK.out _ _ ⟨?_, fun _ => trivial⟩ ?_
          · have hS := hM.1; have hsS := hS.size; (try simp at hsS); repeat (first | with_reducible exact Below.refl _ _ | with_reducible assumption | with_reducible apply b_undrew | with_reducible apply b_drew | with_reducible apply b_alloc | with_reducible apply b_set | (show (_ : Nat) ≤ _; first | exact Nat.le_refl _ | focus (simp; done) | omega | (simp; omega)) | (refine Below.trans ?_ (Below.mono (by with_reducible assumption) ?_)))
          clear hcl hM HK; intro hcl hM
          refine wpAnyM_take (i := 13) (oi := { dst := some 80, op := Op.unOp UnOp.not 4 (Operand.tmp 79), type := 4, pos := "islet.go:52", after := #[{ on := 12, ground := Ground.data }], guard := none }) (v := ?_) rfl (by kernel_rfl) (by kernel_rfl) (by kernel_rfl) (by kernel_rfl) (fun _ _ _ h => h) (Or.inl ⟨by rfl, ?_⟩) hcl hM ?_
          rotate_left 1
          · intro wx hx; go_simp <;> with_reducible rfl
          clear hcl hM; intro hcl hM; try simp only [Act.put, List.setIfInBounds_toArray, List.set_cons_zero, List.set_cons_succ]
          refine wpAnyM_take (i := 14) (oi := { dst := some 81, op := Op.move (Operand.tmp 80), type := 4, pos := "islet.go:52", after := #[{ on := 13, ground := Ground.data }, { on := 12, ground := Ground.chain }], guard := none }) (v := ?_) rfl (by kernel_rfl) (by kernel_rfl) (by kernel_rfl) (by kernel_rfl) (fun _ _ _ h => h) (Or.inl ⟨by rfl, ?_⟩) hcl hM ?_
          rotate_left 1
          · intro wx hx; go_simp <;> with_reducible rfl
          clear hcl hM; intro hcl hM; try simp only [Act.put, List.setIfInBounds_toArray, List.set_cons_zero, List.set_cons_succ]
          refine wpAnyM_take (i := 15) (oi := { dst := some 82, op := Op.fieldAddr 40 (Operand.tmp 3) 5, type := 0, pos := "islet.go:52", after := #[{ on := 14, ground := Ground.guard }], guard := some (14, false) }) (v := ?_) rfl (by kernel_rfl) (by kernel_rfl) (by kernel_rfl) (by kernel_rfl) (fun _ _ _ h => h) (Or.inl ⟨by rfl, ?_⟩) hcl hM ?_
          rotate_left 1
          · intro wx hx; go_simp <;> with_reducible rfl
          clear hcl hM; intro hcl hM; try simp only [Act.put, List.setIfInBounds_toArray, List.set_cons_zero, List.set_cons_succ]
          refine wpAnyM_take (i := 16) (oi := { dst := some 83, op := Op.load 24 (Operand.tmp 82), type := 24, pos := "islet.go:52", after := #[{ on := 15, ground := Ground.data }, { on := 14, ground := Ground.guard }], guard := some (14, false) }) (v := ?_) rfl (by kernel_rfl) (by kernel_rfl) (by kernel_rfl) (by kernel_rfl) (fun _ _ _ h => h) (Or.inl ⟨by rfl, ?_⟩) hcl hM ?_
          rotate_left 1
          · intro wx hx; have hq := below_cells hx; have q4 := hq (w.heap.size + 1) 4 (by omega); have q3 := hq (w.heap.size + 1) 3 (by omega); have q5 := hq (w.heap.size + 1) 5 (by omega); have qr := hq rb (ro + k) (by omega); have qd := hq db (dof + k) (by omega); have qn := hq nb (no + k) (by omega); have z0 := hq wo.heap.size 0 (by omega); have z1 := hq wo.heap.size 1 (by omega); have z2 := hq wo.heap.size 2 (by omega); have z3 := hq wo.heap.size 3 (by omega); have z4 := hq wo.heap.size 4 (by omega); have z5 := hq wo.heap.size 5 (by omega); clear hq; go_simp <;> with_reducible rfl
          clear hcl hM; intro hcl hM; try simp only [Act.put, List.setIfInBounds_toArray, List.set_cons_zero, List.set_cons_succ]
          refine wpAnyM_take (i := 17) (oi := { dst := some 84, op := Op.move (Operand.tmp 6), type := 3, pos := "islet.go:52", after := #[{ on := 14, ground := Ground.guard }], guard := some (14, false) }) (v := ?_) rfl (by kernel_rfl) (by kernel_rfl) (by kernel_rfl) (by kernel_rfl) (fun _ _ _ h => h) (Or.inl ⟨by rfl, ?_⟩) hcl hM ?_
          rotate_left 1
          · intro wx hx; go_simp <;> with_reducible rfl
          clear hcl hM; intro hcl hM; try simp only [Act.put, List.setIfInBounds_toArray, List.set_cons_zero, List.set_cons_succ]
          refine wpAnyM_take (i := 18) (oi := { dst := some 85, op := Op.indexAddr 24 (Operand.tmp 83) (Operand.tmp 84), type := 0, pos := "islet.go:52", after := #[{ on := 16, ground := Ground.data }, { on := 17, ground := Ground.data }, { on := 14, ground := Ground.guard }], guard := some (14, false) }) (v := ?_) rfl (by kernel_rfl) (by kernel_rfl) (by kernel_rfl) (by kernel_rfl) (fun _ _ _ h => h) (Or.inl ⟨by rfl, ?_⟩) hcl hM ?_
          rotate_left 1
          · intro wx hx; go_simp <;> with_reducible rfl
          clear hcl hM; intro hcl hM; try simp only [Act.put, List.setIfInBounds_toArray, List.set_cons_zero, List.set_cons_succ]
          refine wpAnyM_take (i := 19) (oi := { dst := some 86, op := Op.load 3 (Operand.tmp 85), type := 3, pos := "islet.go:52", after := #[{ on := 18, ground := Ground.data }, { on := 14, ground := Ground.guard }], guard := some (14, false) }) (v := ?_) rfl (by kernel_rfl) (by kernel_rfl) (by kernel_rfl) (by kernel_rfl) (fun _ _ _ h => h) (Or.inl ⟨by rfl, ?_⟩) hcl hM ?_
          rotate_left 1
          · intro wx hx; have hq := below_cells hx; have q4 := hq (w.heap.size + 1) 4 (by omega); have q3 := hq (w.heap.size + 1) 3 (by omega); have q5 := hq (w.heap.size + 1) 5 (by omega); have qr := hq rb (ro + k) (by omega); have qd := hq db (dof + k) (by omega); have qn := hq nb (no + k) (by omega); have z0 := hq wo.heap.size 0 (by omega); have z1 := hq wo.heap.size 1 (by omega); have z2 := hq wo.heap.size 2 (by omega); have z3 := hq wo.heap.size 3 (by omega); have z4 := hq wo.heap.size 4 (by omega); have z5 := hq wo.heap.size 5 (by omega); clear hq; go_simp <;> with_reducible rfl
          clear hcl hM; intro hcl hM; try simp only [Act.put, List.setIfInBounds_toArray, List.set_cons_zero, List.set_cons_succ]
          refine wpAnyM_take (i := 20) (oi := { dst := some 87, op := Op.fieldAddr 81 (Operand.tmp 7) 2, type := 0, pos := "islet.go:52", after := #[{ on := 14, ground := Ground.guard }], guard := some (14, false) }) (v := ?_) rfl (by kernel_rfl) (by kernel_rfl) (by kernel_rfl) (by kernel_rfl) (fun _ _ _ h => h) (Or.inl ⟨by rfl, ?_⟩) hcl hM ?_
          rotate_left 1
          · intro wx hx; go_simp <;> with_reducible rfl
          clear hcl hM; intro hcl hM; try simp only [Act.put, List.setIfInBounds_toArray, List.set_cons_zero, List.set_cons_succ]
          refine wpAnyM_take (i := 21) (oi := { dst := some 88, op := Op.load 23 (Operand.tmp 87), type := 23, pos := "islet.go:52", after := #[{ on := 20, ground := Ground.data }, { on := 14, ground := Ground.guard }], guard := some (14, false) }) (v := ?_) rfl (by kernel_rfl) (by kernel_rfl) (by kernel_rfl) (by kernel_rfl) (fun _ _ _ h => h) (Or.inl ⟨by rfl, ?_⟩) hcl hM ?_
          rotate_left 1
          · intro wx hx; have hq := below_cells hx; have q4 := hq (w.heap.size + 1) 4 (by omega); have q3 := hq (w.heap.size + 1) 3 (by omega); have q5 := hq (w.heap.size + 1) 5 (by omega); have qr := hq rb (ro + k) (by omega); have qd := hq db (dof + k) (by omega); have qn := hq nb (no + k) (by omega); have z0 := hq wo.heap.size 0 (by omega); have z1 := hq wo.heap.size 1 (by omega); have z2 := hq wo.heap.size 2 (by omega); have z3 := hq wo.heap.size 3 (by omega); have z4 := hq wo.heap.size 4 (by omega); have z5 := hq wo.heap.size 5 (by omega); clear hq; go_simp <;> with_reducible rfl
          clear hcl hM; intro hcl hM; try simp only [Act.put, List.setIfInBounds_toArray, List.set_cons_zero, List.set_cons_succ]
          refine wpAnyM_one (i := 22) (oi := { dst := some 89, op := Op.call { callee := Callee.value (Operand.func 61), args := #[Operand.tmp 86, Operand.tmp 88], argTypes := #[3, 23] }, type := 4, pos := "islet.go:52", after := #[{ on := 19, ground := Ground.data }, { on := 21, ground := Ground.data }, { on := 14, ground := Ground.chain }, { on := 14, ground := Ground.guard }], guard := some (14, false) }) (by kernel_rfl) rfl (by rfl) hcl (fun K hK => ?_)
          have HK := Lib.hid hK; clear hK
          go_wp2_with (go_at_call 61; refine (isInSpan_any _ _ _ _).mono ?_; rintro e' w' ⟨rfl, hbz3⟩; rw [HN.out])
          refine HK.out _ _ ⟨?_, fun _ => trivial⟩ ?_
          · have hS := hM.1; have hsS := hS.size; (try simp at hsS); repeat (first | with_reducible exact Below.refl _ _ | with_reducible assumption | with_reducible apply b_undrew | with_reducible apply b_drew | with_reducible apply b_alloc | with_reducible apply b_set | (show (_ : Nat) ≤ _; first | exact Nat.le_refl _ | focus (simp; done) | omega | (simp; omega)) | (refine Below.trans ?_ (Below.mono (by with_reducible assumption) ?_)))
          clear hcl hM HK; intro hcl hM
          refine wpAnyM_take (i := 23) (oi := { dst := some 90, op := Op.unOp UnOp.not 4 (Operand.tmp 89), type := 4, pos := "islet.go:52", after := #[{ on := 22, ground := Ground.data }, { on := 14, ground := Ground.guard }], guard := some (14, false) }) (v := ?_) rfl (by kernel_rfl) (by kernel_rfl) (by kernel_rfl) (by kernel_rfl) (fun _ _ _ h => h) (Or.inl ⟨by rfl, ?_⟩) hcl hM ?_
          rotate_left 1
          · intro wx hx; go_simp <;> with_reducible rfl
          clear hcl hM; intro hcl hM; try simp only [Act.put, List.setIfInBounds_toArray, List.set_cons_zero, List.set_cons_succ]
          refine wpAnyM_take (i := 24) (oi := { dst := some 91, op := Op.pick (Operand.tmp 81) (Operand.const (Value.bool true)) (Operand.tmp 90), type := 4, pos := "islet.go:52", after := #[{ on := 14, ground := Ground.data }, { on := 23, ground := Ground.data }], guard := none }) (v := ?_) rfl (by kernel_rfl) (by kernel_rfl) (by kernel_rfl) (by kernel_rfl) (fun _ _ _ h => h) (Or.inl ⟨by rfl, ?_⟩) hcl hM ?_
          rotate_left 1
          · intro wx hx; go_simp <;> with_reducible rfl
          clear hcl hM; intro hcl hM; try simp only [Act.put, List.setIfInBounds_toArray, List.set_cons_zero, List.set_cons_succ]
          refine wpAnyM_done (by kernel_rfl) ?_ _
          have hEnd := hM.1; clear hcl hM
          go_wp2
          go_ret
          exact ⟨ret_bool (by
            refine (truB_no fun h => ?_).symm
            simp only [truB, Bool.and_eq_true, allTo_iff] at h
            have := h.2 k hlt
            simp [truOk, HN.out] at this), (b_alloc hBw (by omega)).trans (hEnd.mono (by omega))⟩
        · have HN := Lib.hid hn; clear hn
          go_wp2_with fail
          refine wp_region_keeps (B := wo.heap.size + 1) (by kernel_rfl) ?_
          intro hcl hM
          refine wpAnyM_take (i := 0) (oi := { dst := some 67, op := Op.fieldAddr 40 (Operand.tmp 3) 4, type := 0, pos := "islet.go:52", after := #[], guard := none }) (v := ?_) rfl (by kernel_rfl) (by kernel_rfl) (by kernel_rfl) (by kernel_rfl) (fun _ _ _ h => h) (Or.inl ⟨by rfl, ?_⟩) hcl hM ?_
          rotate_left 1
          · intro wx hx; go_simp <;> with_reducible rfl
          clear hcl hM; intro hcl hM; try simp only [Act.put, List.setIfInBounds_toArray, List.set_cons_zero, List.set_cons_succ]
          refine wpAnyM_take (i := 1) (oi := { dst := some 68, op := Op.load 24 (Operand.tmp 67), type := 24, pos := "islet.go:52", after := #[{ on := 0, ground := Ground.data }], guard := none }) (v := ?_) rfl (by kernel_rfl) (by kernel_rfl) (by kernel_rfl) (by kernel_rfl) (fun _ _ _ h => h) (Or.inl ⟨by rfl, ?_⟩) hcl hM ?_
          rotate_left 1
          · intro wx hx; have hq := below_cells hx; have q4 := hq (w.heap.size + 1) 4 (by omega); have q3 := hq (w.heap.size + 1) 3 (by omega); have q5 := hq (w.heap.size + 1) 5 (by omega); have qr := hq rb (ro + k) (by omega); have qd := hq db (dof + k) (by omega); have qn := hq nb (no + k) (by omega); have z0 := hq wo.heap.size 0 (by omega); have z1 := hq wo.heap.size 1 (by omega); have z2 := hq wo.heap.size 2 (by omega); have z3 := hq wo.heap.size 3 (by omega); have z4 := hq wo.heap.size 4 (by omega); have z5 := hq wo.heap.size 5 (by omega); clear hq; go_simp <;> with_reducible rfl
          clear hcl hM; intro hcl hM; try simp only [Act.put, List.setIfInBounds_toArray, List.set_cons_zero, List.set_cons_succ]
          refine wpAnyM_take (i := 2) (oi := { dst := some 69, op := Op.move (Operand.tmp 6), type := 3, pos := "islet.go:52", after := #[], guard := none }) (v := ?_) rfl (by kernel_rfl) (by kernel_rfl) (by kernel_rfl) (by kernel_rfl) (fun _ _ _ h => h) (Or.inl ⟨by rfl, ?_⟩) hcl hM ?_
          rotate_left 1
          · intro wx hx; go_simp <;> with_reducible rfl
          clear hcl hM; intro hcl hM; try simp only [Act.put, List.setIfInBounds_toArray, List.set_cons_zero, List.set_cons_succ]
          refine wpAnyM_take (i := 3) (oi := { dst := some 70, op := Op.indexAddr 24 (Operand.tmp 68) (Operand.tmp 69), type := 0, pos := "islet.go:52", after := #[{ on := 1, ground := Ground.data }, { on := 2, ground := Ground.data }], guard := none }) (v := ?_) rfl (by kernel_rfl) (by kernel_rfl) (by kernel_rfl) (by kernel_rfl) (fun _ _ _ h => h) (Or.inl ⟨by rfl, ?_⟩) hcl hM ?_
          rotate_left 1
          · intro wx hx; go_simp <;> with_reducible rfl
          clear hcl hM; intro hcl hM; try simp only [Act.put, List.setIfInBounds_toArray, List.set_cons_zero, List.set_cons_succ]
          refine wpAnyM_take (i := 4) (oi := { dst := some 71, op := Op.load 3 (Operand.tmp 70), type := 3, pos := "islet.go:52", after := #[{ on := 3, ground := Ground.data }], guard := none }) (v := ?_) rfl (by kernel_rfl) (by kernel_rfl) (by kernel_rfl) (by kernel_rfl) (fun _ _ _ h => h) (Or.inl ⟨by rfl, ?_⟩) hcl hM ?_
          rotate_left 1
          · intro wx hx; have hq := below_cells hx; have q4 := hq (w.heap.size + 1) 4 (by omega); have q3 := hq (w.heap.size + 1) 3 (by omega); have q5 := hq (w.heap.size + 1) 5 (by omega); have qr := hq rb (ro + k) (by omega); have qd := hq db (dof + k) (by omega); have qn := hq nb (no + k) (by omega); have z0 := hq wo.heap.size 0 (by omega); have z1 := hq wo.heap.size 1 (by omega); have z2 := hq wo.heap.size 2 (by omega); have z3 := hq wo.heap.size 3 (by omega); have z4 := hq wo.heap.size 4 (by omega); have z5 := hq wo.heap.size 5 (by omega); clear hq; go_simp <;> with_reducible rfl
          clear hcl hM; intro hcl hM; try simp only [Act.put, List.setIfInBounds_toArray, List.set_cons_zero, List.set_cons_succ]
          refine wpAnyM_take (i := 5) (oi := { dst := some 72, op := Op.load 81 (Operand.tmp 7), type := 81, pos := "islet.go:52", after := #[], guard := none }) (v := ?_) rfl (by kernel_rfl) (by kernel_rfl) (by kernel_rfl) (by kernel_rfl) (fun _ _ _ h => h) (Or.inl ⟨by rfl, ?_⟩) hcl hM ?_
          rotate_left 1
          · intro wx hx; have hq := below_cells hx; have q4 := hq (w.heap.size + 1) 4 (by omega); have q3 := hq (w.heap.size + 1) 3 (by omega); have q5 := hq (w.heap.size + 1) 5 (by omega); have qr := hq rb (ro + k) (by omega); have qd := hq db (dof + k) (by omega); have qn := hq nb (no + k) (by omega); have z0 := hq wo.heap.size 0 (by omega); have z1 := hq wo.heap.size 1 (by omega); have z2 := hq wo.heap.size 2 (by omega); have z3 := hq wo.heap.size 3 (by omega); have z4 := hq wo.heap.size 4 (by omega); have z5 := hq wo.heap.size 5 (by omega); clear hq; go_simp <;> with_reducible rfl
          clear hcl hM; intro hcl hM; try simp only [Act.put, List.setIfInBounds_toArray, List.set_cons_zero, List.set_cons_succ]
          refine wpAnyM_take (i := 6) (oi := { dst := some 73, op := Op.fieldAddr 40 (Operand.tmp 3) 3, type := 0, pos := "islet.go:52", after := #[], guard := none }) (v := ?_) rfl (by kernel_rfl) (by kernel_rfl) (by kernel_rfl) (by kernel_rfl) (fun _ _ _ h => h) (Or.inl ⟨by rfl, ?_⟩) hcl hM ?_
          rotate_left 1
          · intro wx hx; go_simp <;> with_reducible rfl
          clear hcl hM; intro hcl hM; try simp only [Act.put, List.setIfInBounds_toArray, List.set_cons_zero, List.set_cons_succ]
          refine wpAnyM_take (i := 7) (oi := { dst := some 74, op := Op.load 38 (Operand.tmp 73), type := 38, pos := "islet.go:52", after := #[{ on := 6, ground := Ground.data }], guard := none }) (v := ?_) rfl (by kernel_rfl) (by kernel_rfl) (by kernel_rfl) (by kernel_rfl) (fun _ _ _ h => h) (Or.inl ⟨by rfl, ?_⟩) hcl hM ?_
          rotate_left 1
          · intro wx hx; have hq := below_cells hx; have q4 := hq (w.heap.size + 1) 4 (by omega); have q3 := hq (w.heap.size + 1) 3 (by omega); have q5 := hq (w.heap.size + 1) 5 (by omega); have qr := hq rb (ro + k) (by omega); have qd := hq db (dof + k) (by omega); have qn := hq nb (no + k) (by omega); have z0 := hq wo.heap.size 0 (by omega); have z1 := hq wo.heap.size 1 (by omega); have z2 := hq wo.heap.size 2 (by omega); have z3 := hq wo.heap.size 3 (by omega); have z4 := hq wo.heap.size 4 (by omega); have z5 := hq wo.heap.size 5 (by omega); clear hq; go_simp <;> with_reducible rfl
          clear hcl hM; intro hcl hM; try simp only [Act.put, List.setIfInBounds_toArray, List.set_cons_zero, List.set_cons_succ]
          refine wpAnyM_take (i := 8) (oi := { dst := some 75, op := Op.move (Operand.tmp 6), type := 3, pos := "islet.go:52", after := #[], guard := none }) (v := ?_) rfl (by kernel_rfl) (by kernel_rfl) (by kernel_rfl) (by kernel_rfl) (fun _ _ _ h => h) (Or.inl ⟨by rfl, ?_⟩) hcl hM ?_
          rotate_left 1
          · intro wx hx; go_simp <;> with_reducible rfl
          clear hcl hM; intro hcl hM; try simp only [Act.put, List.setIfInBounds_toArray, List.set_cons_zero, List.set_cons_succ]
          refine wpAnyM_take (i := 9) (oi := { dst := some 76, op := Op.indexAddr 38 (Operand.tmp 74) (Operand.tmp 75), type := 0, pos := "islet.go:52", after := #[{ on := 7, ground := Ground.data }, { on := 8, ground := Ground.data }], guard := none }) (v := ?_) rfl (by kernel_rfl) (by kernel_rfl) (by kernel_rfl) (by kernel_rfl) (fun _ _ _ h => h) (Or.inl ⟨by rfl, ?_⟩) hcl hM ?_
          rotate_left 1
          · intro wx hx; go_simp <;> with_reducible rfl
          clear hcl hM; intro hcl hM; try simp only [Act.put, List.setIfInBounds_toArray, List.set_cons_zero, List.set_cons_succ]
          refine wpAnyM_take (i := 10) (oi := { dst := some 77, op := Op.load 4 (Operand.tmp 76), type := 4, pos := "islet.go:52", after := #[{ on := 9, ground := Ground.data }], guard := none }) (v := ?_) rfl (by kernel_rfl) (by kernel_rfl) (by kernel_rfl) (by kernel_rfl) (fun _ _ _ h => h) (Or.inl ⟨by rfl, ?_⟩) hcl hM ?_
          rotate_left 1
          · intro wx hx; have hq := below_cells hx; have q4 := hq (w.heap.size + 1) 4 (by omega); have q3 := hq (w.heap.size + 1) 3 (by omega); have q5 := hq (w.heap.size + 1) 5 (by omega); have qr := hq rb (ro + k) (by omega); have qd := hq db (dof + k) (by omega); have qn := hq nb (no + k) (by omega); have z0 := hq wo.heap.size 0 (by omega); have z1 := hq wo.heap.size 1 (by omega); have z2 := hq wo.heap.size 2 (by omega); have z3 := hq wo.heap.size 3 (by omega); have z4 := hq wo.heap.size 4 (by omega); have z5 := hq wo.heap.size 5 (by omega); clear hq; go_simp <;> with_reducible rfl
          clear hcl hM; intro hcl hM; try simp only [Act.put, List.setIfInBounds_toArray, List.set_cons_zero, List.set_cons_succ]
          refine wpAnyM_one (i := 11) (oi := { dst := some 78, op := Op.call { callee := Callee.value (Operand.func 63), args := #[Operand.tmp 72, Operand.tmp 77], argTypes := #[81, 4] }, type := 23, pos := "islet.go:52", after := #[{ on := 5, ground := Ground.data }, { on := 10, ground := Ground.data }], guard := none }) (by kernel_rfl) rfl (by rfl) hcl (fun K hK => ?_)
          have HK := Lib.hid hK; clear hK
          go_wp2_with (go_at_call 63; refine (rainOf_any (i.months k) (t.dry k) _).mono ?_; rintro e' w' ⟨rfl, hbz⟩)
          refine HK.out _ _ ⟨?_, fun _ => trivial⟩ ?_
          · have hS := hM.1; have hsS := hS.size; (try simp at hsS); repeat (first | with_reducible exact Below.refl _ _ | with_reducible assumption | with_reducible apply b_undrew | with_reducible apply b_drew | with_reducible apply b_alloc | with_reducible apply b_set | (show (_ : Nat) ≤ _; first | exact Nat.le_refl _ | focus (simp; done) | omega | (simp; omega)) | (refine Below.trans ?_ (Below.mono (by with_reducible assumption) ?_)))
          clear hcl hM HK; intro hcl hM
          refine wpAnyM_one (i := 12) (oi := { dst := some 79, op := Op.call { callee := Callee.value (Operand.func 61), args := #[Operand.tmp 71, Operand.tmp 78], argTypes := #[3, 23] }, type := 4, pos := "islet.go:52", after := #[{ on := 4, ground := Ground.data }, { on := 11, ground := Ground.data }, { on := 11, ground := Ground.chain }], guard := none }) (by kernel_rfl) rfl (by rfl) hcl (fun K hK => ?_)
          have HK := Lib.hid hK; clear hK
          go_wp2_with (go_at_call 61; refine (isInSpan_any _ _ _ _).mono ?_; rintro e' w' ⟨rfl, hbz2⟩; rw [HR.out])
          refine HK.out _ _ ⟨?_, fun _ => trivial⟩ ?_
          · have hS := hM.1; have hsS := hS.size; (try simp at hsS); repeat (first | with_reducible exact Below.refl _ _ | with_reducible assumption | with_reducible apply b_undrew | with_reducible apply b_drew | with_reducible apply b_alloc | with_reducible apply b_set | (show (_ : Nat) ≤ _; first | exact Nat.le_refl _ | focus (simp; done) | omega | (simp; omega)) | (refine Below.trans ?_ (Below.mono (by with_reducible assumption) ?_)))
          clear hcl hM HK; intro hcl hM
          refine wpAnyM_take (i := 13) (oi := { dst := some 80, op := Op.unOp UnOp.not 4 (Operand.tmp 79), type := 4, pos := "islet.go:52", after := #[{ on := 12, ground := Ground.data }], guard := none }) (v := ?_) rfl (by kernel_rfl) (by kernel_rfl) (by kernel_rfl) (by kernel_rfl) (fun _ _ _ h => h) (Or.inl ⟨by rfl, ?_⟩) hcl hM ?_
          rotate_left 1
          · intro wx hx; go_simp <;> with_reducible rfl
          clear hcl hM; intro hcl hM; try simp only [Act.put, List.setIfInBounds_toArray, List.set_cons_zero, List.set_cons_succ]
          refine wpAnyM_take (i := 14) (oi := { dst := some 81, op := Op.move (Operand.tmp 80), type := 4, pos := "islet.go:52", after := #[{ on := 13, ground := Ground.data }, { on := 12, ground := Ground.chain }], guard := none }) (v := ?_) rfl (by kernel_rfl) (by kernel_rfl) (by kernel_rfl) (by kernel_rfl) (fun _ _ _ h => h) (Or.inl ⟨by rfl, ?_⟩) hcl hM ?_
          rotate_left 1
          · intro wx hx; go_simp <;> with_reducible rfl
          clear hcl hM; intro hcl hM; try simp only [Act.put, List.setIfInBounds_toArray, List.set_cons_zero, List.set_cons_succ]
          refine wpAnyM_take (i := 15) (oi := { dst := some 82, op := Op.fieldAddr 40 (Operand.tmp 3) 5, type := 0, pos := "islet.go:52", after := #[{ on := 14, ground := Ground.guard }], guard := some (14, false) }) (v := ?_) rfl (by kernel_rfl) (by kernel_rfl) (by kernel_rfl) (by kernel_rfl) (fun _ _ _ h => h) (Or.inl ⟨by rfl, ?_⟩) hcl hM ?_
          rotate_left 1
          · intro wx hx; go_simp <;> with_reducible rfl
          clear hcl hM; intro hcl hM; try simp only [Act.put, List.setIfInBounds_toArray, List.set_cons_zero, List.set_cons_succ]
          refine wpAnyM_take (i := 16) (oi := { dst := some 83, op := Op.load 24 (Operand.tmp 82), type := 24, pos := "islet.go:52", after := #[{ on := 15, ground := Ground.data }, { on := 14, ground := Ground.guard }], guard := some (14, false) }) (v := ?_) rfl (by kernel_rfl) (by kernel_rfl) (by kernel_rfl) (by kernel_rfl) (fun _ _ _ h => h) (Or.inl ⟨by rfl, ?_⟩) hcl hM ?_
          rotate_left 1
          · intro wx hx; have hq := below_cells hx; have q4 := hq (w.heap.size + 1) 4 (by omega); have q3 := hq (w.heap.size + 1) 3 (by omega); have q5 := hq (w.heap.size + 1) 5 (by omega); have qr := hq rb (ro + k) (by omega); have qd := hq db (dof + k) (by omega); have qn := hq nb (no + k) (by omega); have z0 := hq wo.heap.size 0 (by omega); have z1 := hq wo.heap.size 1 (by omega); have z2 := hq wo.heap.size 2 (by omega); have z3 := hq wo.heap.size 3 (by omega); have z4 := hq wo.heap.size 4 (by omega); have z5 := hq wo.heap.size 5 (by omega); clear hq; go_simp <;> with_reducible rfl
          clear hcl hM; intro hcl hM; try simp only [Act.put, List.setIfInBounds_toArray, List.set_cons_zero, List.set_cons_succ]
          refine wpAnyM_take (i := 17) (oi := { dst := some 84, op := Op.move (Operand.tmp 6), type := 3, pos := "islet.go:52", after := #[{ on := 14, ground := Ground.guard }], guard := some (14, false) }) (v := ?_) rfl (by kernel_rfl) (by kernel_rfl) (by kernel_rfl) (by kernel_rfl) (fun _ _ _ h => h) (Or.inl ⟨by rfl, ?_⟩) hcl hM ?_
          rotate_left 1
          · intro wx hx; go_simp <;> with_reducible rfl
          clear hcl hM; intro hcl hM; try simp only [Act.put, List.setIfInBounds_toArray, List.set_cons_zero, List.set_cons_succ]
          refine wpAnyM_take (i := 18) (oi := { dst := some 85, op := Op.indexAddr 24 (Operand.tmp 83) (Operand.tmp 84), type := 0, pos := "islet.go:52", after := #[{ on := 16, ground := Ground.data }, { on := 17, ground := Ground.data }, { on := 14, ground := Ground.guard }], guard := some (14, false) }) (v := ?_) rfl (by kernel_rfl) (by kernel_rfl) (by kernel_rfl) (by kernel_rfl) (fun _ _ _ h => h) (Or.inl ⟨by rfl, ?_⟩) hcl hM ?_
          rotate_left 1
          · intro wx hx; go_simp <;> with_reducible rfl
          clear hcl hM; intro hcl hM; try simp only [Act.put, List.setIfInBounds_toArray, List.set_cons_zero, List.set_cons_succ]
          refine wpAnyM_take (i := 19) (oi := { dst := some 86, op := Op.load 3 (Operand.tmp 85), type := 3, pos := "islet.go:52", after := #[{ on := 18, ground := Ground.data }, { on := 14, ground := Ground.guard }], guard := some (14, false) }) (v := ?_) rfl (by kernel_rfl) (by kernel_rfl) (by kernel_rfl) (by kernel_rfl) (fun _ _ _ h => h) (Or.inl ⟨by rfl, ?_⟩) hcl hM ?_
          rotate_left 1
          · intro wx hx; have hq := below_cells hx; have q4 := hq (w.heap.size + 1) 4 (by omega); have q3 := hq (w.heap.size + 1) 3 (by omega); have q5 := hq (w.heap.size + 1) 5 (by omega); have qr := hq rb (ro + k) (by omega); have qd := hq db (dof + k) (by omega); have qn := hq nb (no + k) (by omega); have z0 := hq wo.heap.size 0 (by omega); have z1 := hq wo.heap.size 1 (by omega); have z2 := hq wo.heap.size 2 (by omega); have z3 := hq wo.heap.size 3 (by omega); have z4 := hq wo.heap.size 4 (by omega); have z5 := hq wo.heap.size 5 (by omega); clear hq; go_simp <;> with_reducible rfl
          clear hcl hM; intro hcl hM; try simp only [Act.put, List.setIfInBounds_toArray, List.set_cons_zero, List.set_cons_succ]
          refine wpAnyM_take (i := 20) (oi := { dst := some 87, op := Op.fieldAddr 81 (Operand.tmp 7) 2, type := 0, pos := "islet.go:52", after := #[{ on := 14, ground := Ground.guard }], guard := some (14, false) }) (v := ?_) rfl (by kernel_rfl) (by kernel_rfl) (by kernel_rfl) (by kernel_rfl) (fun _ _ _ h => h) (Or.inl ⟨by rfl, ?_⟩) hcl hM ?_
          rotate_left 1
          · intro wx hx; go_simp <;> with_reducible rfl
          clear hcl hM; intro hcl hM; try simp only [Act.put, List.setIfInBounds_toArray, List.set_cons_zero, List.set_cons_succ]
          refine wpAnyM_take (i := 21) (oi := { dst := some 88, op := Op.load 23 (Operand.tmp 87), type := 23, pos := "islet.go:52", after := #[{ on := 20, ground := Ground.data }, { on := 14, ground := Ground.guard }], guard := some (14, false) }) (v := ?_) rfl (by kernel_rfl) (by kernel_rfl) (by kernel_rfl) (by kernel_rfl) (fun _ _ _ h => h) (Or.inl ⟨by rfl, ?_⟩) hcl hM ?_
          rotate_left 1
          · intro wx hx; have hq := below_cells hx; have q4 := hq (w.heap.size + 1) 4 (by omega); have q3 := hq (w.heap.size + 1) 3 (by omega); have q5 := hq (w.heap.size + 1) 5 (by omega); have qr := hq rb (ro + k) (by omega); have qd := hq db (dof + k) (by omega); have qn := hq nb (no + k) (by omega); have z0 := hq wo.heap.size 0 (by omega); have z1 := hq wo.heap.size 1 (by omega); have z2 := hq wo.heap.size 2 (by omega); have z3 := hq wo.heap.size 3 (by omega); have z4 := hq wo.heap.size 4 (by omega); have z5 := hq wo.heap.size 5 (by omega); clear hq; go_simp <;> with_reducible rfl
          clear hcl hM; intro hcl hM; try simp only [Act.put, List.setIfInBounds_toArray, List.set_cons_zero, List.set_cons_succ]
          refine wpAnyM_one (i := 22) (oi := { dst := some 89, op := Op.call { callee := Callee.value (Operand.func 61), args := #[Operand.tmp 86, Operand.tmp 88], argTypes := #[3, 23] }, type := 4, pos := "islet.go:52", after := #[{ on := 19, ground := Ground.data }, { on := 21, ground := Ground.data }, { on := 14, ground := Ground.chain }, { on := 14, ground := Ground.guard }], guard := some (14, false) }) (by kernel_rfl) rfl (by rfl) hcl (fun K hK => ?_)
          have HK := Lib.hid hK; clear hK
          go_wp2_with (go_at_call 61; refine (isInSpan_any _ _ _ _).mono ?_; rintro e' w' ⟨rfl, hbz3⟩; rw [HN.out])
          refine HK.out _ _ ⟨?_, fun _ => trivial⟩ ?_
          · have hS := hM.1; have hsS := hS.size; (try simp at hsS); repeat (first | with_reducible exact Below.refl _ _ | with_reducible assumption | with_reducible apply b_undrew | with_reducible apply b_drew | with_reducible apply b_alloc | with_reducible apply b_set | (show (_ : Nat) ≤ _; first | exact Nat.le_refl _ | focus (simp; done) | omega | (simp; omega)) | (refine Below.trans ?_ (Below.mono (by with_reducible assumption) ?_)))
          clear hcl hM HK; intro hcl hM
          refine wpAnyM_take (i := 23) (oi := { dst := some 90, op := Op.unOp UnOp.not 4 (Operand.tmp 89), type := 4, pos := "islet.go:52", after := #[{ on := 22, ground := Ground.data }, { on := 14, ground := Ground.guard }], guard := some (14, false) }) (v := ?_) rfl (by kernel_rfl) (by kernel_rfl) (by kernel_rfl) (by kernel_rfl) (fun _ _ _ h => h) (Or.inl ⟨by rfl, ?_⟩) hcl hM ?_
          rotate_left 1
          · intro wx hx; go_simp <;> with_reducible rfl
          clear hcl hM; intro hcl hM; try simp only [Act.put, List.setIfInBounds_toArray, List.set_cons_zero, List.set_cons_succ]
          refine wpAnyM_take (i := 24) (oi := { dst := some 91, op := Op.pick (Operand.tmp 81) (Operand.const (Value.bool true)) (Operand.tmp 90), type := 4, pos := "islet.go:52", after := #[{ on := 14, ground := Ground.data }, { on := 23, ground := Ground.data }], guard := none }) (v := ?_) rfl (by kernel_rfl) (by kernel_rfl) (by kernel_rfl) (by kernel_rfl) (fun _ _ _ h => h) (Or.inl ⟨by rfl, ?_⟩) hcl hM ?_
          rotate_left 1
          · intro wx hx; go_simp <;> with_reducible rfl
          clear hcl hM; intro hcl hM; try simp only [Act.put, List.setIfInBounds_toArray, List.set_cons_zero, List.set_cons_succ]
          refine wpAnyM_done (by kernel_rfl) ?_ _
          have hEnd := hM.1; clear hcl hM
          go_wp2
          go_roundw
          case rel => exact ⟨k + 1, by omega, by go_num, allTo_succ HALL.out (by simp [truOk, HR.out, HN.out]), (b_alloc HBr.out (by omega)).trans (hEnd.mono (by omega))⟩
          case measure => simp [intOf]; omega
    · obtain rfl : k = i.nm := by omega
      go_wp2
      go_ret
      exact ⟨ret_bool (by simp [truB, H1.out, H2.out, H3.out, HND.out, HNR.out, HNN.out, HALL.out]; have := H7.out; rw [HND.out] at this; exact this), hBw⟩
end Go.Proofs.YtffdidleebognaaGreatDoor
