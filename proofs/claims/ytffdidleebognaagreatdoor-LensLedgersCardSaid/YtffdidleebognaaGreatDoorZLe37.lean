/- LensLedgers: the walk. -/
import Derived.Test.YtffdidleebognaaGreatDoorZLe09
import Derived.Test.YtffdidleebognaaGreatDoorZLe11
import Derived.Test.YtffdidleebognaaGreatDoorZLe18
import Derived.Test.YtffdidleebognaaGreatDoorZLe19
import Derived.Test.YtffdidleebognaaGreatDoorZLe36
namespace Go.Proofs.YtffdidleebognaaGreatDoor
open Go Go.RowKit Lens
theorem pow10_below {w w' : World} (h : CE.pow10Is w) (hb : Below w.heap.size w w') : CE.pow10Is w' := CE.pow10_still (hb.block 0 (CE.pow10_pos h)) h
set_option maxRecDepth 100000 in
set_option maxHeartbeats 8000000 in
theorem ledgers_walk (i : Isl) (wa : Option Addr) (wc : Nat) (ma : Option Addr) (mc : Nat) (tanks : Int) (t : Tru) (da : Option Addr) (dc : Nat) (ra : Option Addr) (rc : Nat) (na : Option Addr) (nc : Nat) (w : World)
    (hi : IslAt w w.heap.size i wa ma) (ht : TruAt w w.heap.size t da ra na) (hp : CE.pow10Is w) :
    Calls Tryz.prog 5 #[islV i wa wc ma mc, .int .i64 tanks, truV t da dc ra rc na nc] w
   fun e' w' => e' = .returned (.bool true) ∧ Below w.heap.size w w' := by
  have HI : ∀ X Y, IslAt ((w.alloc X).alloc Y) (w.heap.size + 2) i wa ma := fun X Y => hi.below (two_below w X Y) (by omega)
  have HT : ∀ X Y, TruAt ((w.alloc X).alloc Y) (w.heap.size + 2) t da ra na := fun X Y => ht.below (two_below w X Y) (by omega)
  have HI := Lib.hid HI
  have HT := Lib.hid HT
  have HS := short_any i wa wc ma mc
  have HZ := sized_any t da dc ra rc na nc
  have HA := asked_any i wa wc ma mc tanks
  have HU := fun w1 h1 h2 h3 h4 => rTruth_any i wa wc ma mc t da dc ra rc na nc w1 h1 h2 h3 h4
  unfold islV truV at *
  have HS := Lib.hid HS
  have HZ := Lib.hid HZ
  have HA := Lib.hid HA
  have HU := Lib.hid HU
  have HP := Lib.hid hp
  go_enter Tryz.func5, Tryz.ntmps5
  go_wp2_with fail
  refine (calls_from (B := w.heap.size + 2) (HS.out _) (by exact Below.refl _ _) (by simp)).mono ?_
  rintro e' w' ⟨rfl, hb, hz, hc⟩
  cases h1 : shortB i
  · have H1 := Lib.hid h1; clear h1
    as_aux_lemma =>
    go_wp2_with fail
    have hbw := (two_below w _ _).trans (hb.mono (by omega))
    refine (calls_from (B := w.heap.size) (CE.known_true (pow10_below HP.out hbw)) hbw (by omega)).mono ?_
    rintro e' w' ⟨rfl, hb2, hz2, hc2⟩
    go_wp2
    go_ret
    exact ⟨rfl, hb2⟩
  have H1 := Lib.hid h1; clear h1
  as_aux_lemma =>
  go_wp2_with fail
  refine (calls_from (B := w.heap.size + 2) (HZ.out _) hb hz).mono ?_
  clear hb hz hc
  rintro e' w' ⟨rfl, hb, hz, hc⟩
  cases h2 : sizedB t
  · have H2 := Lib.hid h2; clear h2
    as_aux_lemma =>
    go_wp2_with fail
    have hbw := (two_below w _ _).trans (hb.mono (by omega))
    refine (calls_from (B := w.heap.size) (CE.known_true (pow10_below HP.out hbw)) hbw (by omega)).mono ?_
    rintro e' w' ⟨rfl, hb2, hz2, hc2⟩
    go_wp2
    go_ret
    exact ⟨rfl, hb2⟩
  have H2 := Lib.hid h2; clear h2
  as_aux_lemma =>
  go_wp2_with fail
  refine (calls_from (B := w.heap.size + 2) (HA.out _ ((HI.out _ _).below hb hz)) hb hz).mono ?_
  clear hb hz hc
  rintro e' w' ⟨rfl, hb, hz, hc⟩
  cases h3 : (islB i && tanksB tanks)
  · have H3 := Lib.hid h3; clear h3
    as_aux_lemma =>
    go_wp2_with fail
    have hbw := (two_below w _ _).trans (hb.mono (by omega))
    refine (calls_from (B := w.heap.size) (CE.known_true (pow10_below HP.out hbw)) hbw (by omega)).mono ?_
    rintro e' w' ⟨rfl, hb2, hz2, hc2⟩
    go_wp2
    go_ret
    exact ⟨rfl, hb2⟩
  have H3 := Lib.hid h3; clear h3
  as_aux_lemma =>
  have hmr : 0 ≤ i.most ∧ 0 ≤ i.row := by
    have := H3.out
    simp only [islB, Bool.and_eq_true, isInB_iff] at this
    exact ⟨this.1.1.2.1, this.1.2.1⟩
  go_wp2_with fail
  refine (calls_from (B := w.heap.size + 2) (HU.out _ ((HI.out _ _).below hb hz) ((HT.out _ _).below hb hz) hmr.1 hmr.2) hb hz).mono ?_
  clear hb hz hc
  rintro e' w' ⟨rfl, hb, hz, hc⟩
  cases h4 : truB i t
  · have H4 := Lib.hid h4; clear h4
    as_aux_lemma =>
    go_wp2_with fail
    have hbw := (two_below w _ _).trans (hb.mono (by omega))
    refine (calls_from (B := w.heap.size) (CE.known_true (pow10_below HP.out hbw)) hbw (by omega)).mono ?_
    rintro e' w' ⟨rfl, hb2, hz2, hc2⟩
    go_wp2
    go_ret
    exact ⟨rfl, hb2⟩
  have H4 := Lib.hid h4; clear h4
  as_aux_lemma =>
  -- PLAY
  have h34 := H3.out
  simp only [Bool.and_eq_true] at h34
  have hfit := fit_of h34.1 h34.2 H4.out
  have HPL := play_yes i wa wc ma mc tanks t da dc ra rc na nc
  unfold islV truV at HPL
  have HPL := Lib.hid HPL
  have HFit := Lib.hid hfit
  have hnm1 : 1 ≤ i.nm := by
    have := h34.1
    simp only [islB, monthsB, Bool.and_eq_true, isInB_iff] at this
    omega
  have hnm8 : i.nm ≤ 8 := hfit.nm
  go_wp2_with fail
  refine (HPL.out _ ((HI.out _ _).below hb hz) ((HT.out _ _).below hb hz) h34.1 h34.2 H4.out).mono ?_
  rintro e' w2 ⟨⟨g, rfl, hseen⟩, hb2⟩
  have hB2 := hb.trans (hb2.mono hz)
  have hz2 := Nat.le_trans hz hb2.size
  have hc2 := fun b o h => hB2.cell (p := ⟨b, o, none⟩) h
  clear hc hb2 hb hz hfit h34
  have HSeen := Lib.hid hseen
  clear hseen
  have hl0 : w.heap.size < w2.heap.size := by omega
  have hl1 : w.heap.size + 1 < w2.heap.size := by omega
  have HB2 := Lib.hid hB2
  clear hB2
  as_aux_lemma =>
  go_wp2_with fail
  as_aux_lemma =>
  generalize Value.agg #[.int .i64 i.cap, .int .i64 i.sl, .int .i64 i.sh, .int .i64 i.roof, .int .i64 i.sand, .int .i64 i.kl, .int .i64 i.kh, .int .i64 i.ll, .int .i64 i.lh, .int .i64 i.pump, .int .i64 i.keep, .int .i64 i.size, .slice wa i.nw wc, .slice ma i.nm mc, .int .i64 i.most, .int .i64 i.row] = XI
  generalize Value.agg #[.int .i64 t.start, .int .i64 t.soak, .int .i64 t.leak, .slice da t.nd dc, .slice ra t.nr rc, .slice na t.nn nc] = XT
  generalize Value.agg #[.int .i64 (i.size * tanks + t.start), .int .i64 (runTo i tanks t i.nm).rain, .int .i64 (runTo i tanks t i.nm).used, .int .i64 (runTo i tanks t i.nm).leak, .int .i64 (runTo i tanks t i.nm).sea, .int .i64 ((runTo i tanks t i.nm).tanks + (runTo i tanks t i.nm).lens)] = XL
  generalize Value.tuple #[.slice (some ⟨g, 0, none⟩) i.nm i.nm, XL, .int .i64 0] = XP
  obtain ⟨V, HV⟩ : ∃ V, V = w2.alloc (.cells #[.int .i64 (i.size * tanks + t.start), .int .i64 (runTo i tanks t i.nm).rain, .int .i64 (runTo i tanks t i.nm).used, .int .i64 (runTo i tanks t i.nm).leak, .int .i64 (runTo i tanks t i.nm).sea, .int .i64 ((runTo i tanks t i.nm).tanks + (runTo i tanks t i.nm).lens)] 44) := ⟨_, rfl⟩
  go_loopw [10, 11, 12, 13] (fun u10 u11 u12 j wr => ∃ k : Nat, k ≤ i.nm ∧ j = .int .i64 k ∧ u10 = .int .i64 (runTo i tanks t k).rain ∧ u11 = .int .i64 (needSum t k) ∧ u12 = .int .i64 (lackSum i tanks t k) ∧ Below (w2.heap.size + 1) V wr) (fun _ _ _ j _ => i.nm - (intOf j).toNat)
  case atStart => exact ⟨0, Nat.zero_le _, rfl, rfl, rfl, rfl, by rw [HV]; exact Below.refl _ _⟩
  case round =>
    as_aux_lemma =>
    obtain ⟨k, hk, rfl, rfl, rfl, rfl, hBr⟩ := hrel
    obtain ⟨wo, rfl⟩ : ∃ wo : World, wo = wr := ⟨_, rfl⟩
    have hsz : w2.heap.size + 1 ≤ wo.heap.size := by
      have := hBr.size
      rw [HV] at this
      simpa using this
    have hB2o : Below w2.heap.size w2 wo := (by rw [HV]; exact alloc_below _ _ : Below w2.heap.size w2 V).trans (hBr.mono (by omega))
    have hBw := HB2.out.trans (hB2o.mono (by omega : w.heap.size + 2 ≤ w2.heap.size))
    have hBw0 : Below w.heap.size w wo := (two_below w _ _).trans (hBw.mono (by omega))
    have hI1 : wo.heap[w.heap.size]? = some (.cells #[.int .i64 i.cap, .int .i64 i.sl, .int .i64 i.sh, .int .i64 i.roof, .int .i64 i.sand, .int .i64 i.kl, .int .i64 i.kh, .int .i64 i.ll, .int .i64 i.lh, .int .i64 i.pump, .int .i64 i.keep, .int .i64 i.size,
      .slice wa i.nw wc, .slice ma i.nm mc, .int .i64 i.most, .int .i64 i.row] 27 (0, 0)) := (hBw.block _ (by omega)).trans (allocOf (newOf _ rfl))
    have hT1 : wo.heap[w.heap.size + 1]? = some (.cells #[.int .i64 t.start, .int .i64 t.soak, .int .i64 t.leak, .slice da t.nd dc, .slice ra t.nr rc, .slice na t.nn nc] 40 (0, 0)) := (hBw.block _ (by omega)).trans (newOf _ (by simp))
    have hfit := HFit.out
    by_cases hlt : k < i.nm
    · as_aux_lemma =>
      obtain ⟨gb, go, hge, hgl, c0, c1, c2⟩ := seensGet (HSeen.out.below hB2o (Nat.le_refl _)) hlt
      cases hge
      simp only [seenOf, Nat.zero_add] at c0 c1 c2
      obtain ⟨rb, ro, rfl, hrb, hrc⟩ := intsGet (ht.below hBw0 (Nat.le_refl _)).rains (by rw [hfit.nr]; exact hlt : k < t.nr)
      obtain ⟨nb, no, rfl, hnb, hnc⟩ := intsGet (ht.below hBw0 (Nat.le_refl _)).needs (by rw [hfit.nn]; exact hlt : k < t.nn)
      have e0 := cellOf (k := 0) (v := .int .i64 i.cap) hI1 rfl
      have e3 := cellOf (k := 3) (v := .int .i64 i.roof) hI1 rfl
      have e4 := cellOf (k := 4) (v := .int .i64 i.sand) hI1 rfl
      have e11 := cellOf (k := 11) (v := .int .i64 i.size) hI1 rfl
      have f1 := cellOf (k := 1) (v := .int .i64 t.soak) hT1 rfl
      have f4 := cellOf (k := 4) (v := .slice (some ⟨rb, ro, none⟩) t.nr rc) hT1 rfl
      have f5 := cellOf (k := 5) (v := .slice (some ⟨nb, no, none⟩) t.nn nc) hT1 rfl
      clear hI1 hT1
      obtain ⟨F0, F1⟩ := full_le hfit
      obtain ⟨t0, t1, l0, l1, k0', k1', -, -, -, -, -, -, -, -⟩ := runTo_ok hfit (k := k + 1) (by omega)
      have hlk := lack_le hfit hlt
      have k0 : (0 : Int) ≤ (k : Int) := Int.natCast_nonneg _
      have k1 : (k : Int) < (t.nr : Int) := by have := hfit.nr; omega
      have k2 : (k : Int) < (t.nn : Int) := by have := hfit.nn; omega
      have k4 : (k : Int) < (i.nm : Int) := by omega
      have hm1 : IntKind.i64.wrap (tanks * i.size) = i.size * tanks := by rw [Int.mul_comm]; exact IntWalk.i64_in _ (by omega)
      have HBr := Lib.hid hBr
      clear hBr
      go_wp2_with fail
      as_aux_lemma =>
      have n1 : ((runTo i tanks t (k + 1)).tanks < 0) = False := by simp; omega
      have n2 : (i.size * tanks < (runTo i tanks t (k + 1)).tanks) = False := by simp; omega
      have n3 : ((runTo i tanks t (k + 1)).lens < 0) = False := by simp; omega
      have n4 : (i.cap < (runTo i tanks t (k + 1)).lens) = False := by simp; omega
      have n5 : ((runTo i tanks t (k + 1)).lack < 0) = False := by simp; omega
      have n6 : (t.needs k < (runTo i tanks t (k + 1)).lack) = False := by simp; omega
      refine wp_region_keeps (B := w2.heap.size + 1) (by kernel_rfl) ?_
      intro hcl hM
      refine wpAnyM_take (i := 0) (oi := { dst := some 60, op := Op.move (Operand.tmp 7), type := 42, pos := "law.go:97", after := #[], guard := none }) (v := ?_) rfl (by kernel_rfl) (by kernel_rfl) (by kernel_rfl) (by kernel_rfl) (fun _ _ _ h => h) (Or.inl ⟨by rfl, ?_⟩) hcl hM ?_
      rotate_left 1
      · intro wx hx; go_simp <;> with_reducible rfl
      clear hcl hM; intro hcl hM; try simp only [Act.put, List.setIfInBounds_toArray, List.set_cons_zero, List.set_cons_succ]
      refine wpAnyM_take (i := 1) (oi := { dst := some 61, op := Op.move (Operand.tmp 13), type := 3, pos := "law.go:97", after := #[], guard := none }) (v := ?_) rfl (by kernel_rfl) (by kernel_rfl) (by kernel_rfl) (by kernel_rfl) (fun _ _ _ h => h) (Or.inl ⟨by rfl, ?_⟩) hcl hM ?_
      rotate_left 1
      · intro wx hx; go_simp <;> with_reducible rfl
      clear hcl hM; intro hcl hM; try simp only [Act.put, List.setIfInBounds_toArray, List.set_cons_zero, List.set_cons_succ]
      refine wpAnyM_take (i := 2) (oi := { dst := some 62, op := Op.indexAddr 42 (Operand.tmp 60) (Operand.tmp 61), type := 0, pos := "law.go:97", after := #[{ on := 0, ground := Ground.data }, { on := 1, ground := Ground.data }], guard := none }) (v := ?_) rfl (by kernel_rfl) (by kernel_rfl) (by kernel_rfl) (by kernel_rfl) (fun _ _ _ h => h) (Or.inl ⟨by rfl, ?_⟩) hcl hM ?_
      rotate_left 1
      · intro wx hx; go_simp <;> with_reducible rfl
      clear hcl hM; intro hcl hM; try simp only [Act.put, List.setIfInBounds_toArray, List.set_cons_zero, List.set_cons_succ]
      refine wpAnyM_take (i := 3) (oi := { dst := some 63, op := Op.fieldAddr 53 (Operand.tmp 62) 0, type := 0, pos := "law.go:97", after := #[{ on := 2, ground := Ground.data }], guard := none }) (v := ?_) rfl (by kernel_rfl) (by kernel_rfl) (by kernel_rfl) (by kernel_rfl) (fun _ _ _ h => h) (Or.inl ⟨by rfl, ?_⟩) hcl hM ?_
      rotate_left 1
      · intro wx hx; go_simp <;> with_reducible rfl
      clear hcl hM; intro hcl hM; try simp only [Act.put, List.setIfInBounds_toArray, List.set_cons_zero, List.set_cons_succ]
      refine wpAnyM_take (i := 4) (oi := { dst := some 64, op := Op.load 3 (Operand.tmp 63), type := 3, pos := "law.go:97", after := #[{ on := 3, ground := Ground.data }], guard := none }) (v := ?_) rfl (by kernel_rfl) (by kernel_rfl) (by kernel_rfl) (by kernel_rfl) (fun _ _ _ h => h) (Or.inl ⟨by rfl, ?_⟩) hcl hM ?_
      rotate_left 1
      · intro wx hx; have hq := below_cells hx; have q0 := hq w.heap.size 0 (by omega); have q11 := hq w.heap.size 11 (by omega); have p5 := hq (w.heap.size + 1) 5 (by omega); have g0 := hq g (k * 3) (by omega); have g1 := hq g (k * 3 + 1) (by omega); have g2 := hq g (k * 3 + 2) (by omega); have qn := hq nb (no + k) (by omega); clear hq; go_simp <;> with_reducible rfl
      clear hcl hM; intro hcl hM; try simp only [Act.put, List.setIfInBounds_toArray, List.set_cons_zero, List.set_cons_succ]
      as_aux_lemma =>
      refine wpAnyM_take (i := 5) (oi := { dst := some 65, op := Op.binOp BinOp.lss 3 (Operand.tmp 64) (Operand.const (Value.int IntKind.i64 0)) 3, type := 4, pos := "law.go:97", after := #[{ on := 4, ground := Ground.data }], guard := none }) (v := ?_) rfl (by kernel_rfl) (by kernel_rfl) (by kernel_rfl) (by kernel_rfl) (fun _ _ _ h => h) (Or.inl ⟨by rfl, ?_⟩) hcl hM ?_
      rotate_left 1
      · intro wx hx; go_simp <;> with_reducible rfl
      clear hcl hM; intro hcl hM; try simp only [Act.put, List.setIfInBounds_toArray, List.set_cons_zero, List.set_cons_succ]
      refine wpAnyM_take (i := 6) (oi := { dst := some 66, op := Op.move (Operand.tmp 65), type := 4, pos := "law.go:97", after := #[{ on := 5, ground := Ground.data }], guard := none }) (v := ?_) rfl (by kernel_rfl) (by kernel_rfl) (by kernel_rfl) (by kernel_rfl) (fun _ _ _ h => h) (Or.inl ⟨by rfl, ?_⟩) hcl hM ?_
      rotate_left 1
      · intro wx hx; go_simp <;> with_reducible rfl
      clear hcl hM; intro hcl hM; try simp only [Act.put, List.setIfInBounds_toArray, List.set_cons_zero, List.set_cons_succ]
      refine wpAnyM_take (i := 7) (oi := { dst := some 67, op := Op.move (Operand.tmp 7), type := 42, pos := "law.go:97", after := #[{ on := 6, ground := Ground.guard }], guard := some (6, false) }) (v := ?_) rfl (by kernel_rfl) (by kernel_rfl) (by kernel_rfl) (by kernel_rfl) (fun _ _ _ h => h) (Or.inl ⟨by rfl, ?_⟩) hcl hM ?_
      rotate_left 1
      · intro wx hx; go_simp <;> with_reducible rfl
      clear hcl hM; intro hcl hM; try simp only [Act.put, List.setIfInBounds_toArray, List.set_cons_zero, List.set_cons_succ]
      refine wpAnyM_take (i := 8) (oi := { dst := some 68, op := Op.move (Operand.tmp 13), type := 3, pos := "law.go:97", after := #[{ on := 6, ground := Ground.guard }], guard := some (6, false) }) (v := ?_) rfl (by kernel_rfl) (by kernel_rfl) (by kernel_rfl) (by kernel_rfl) (fun _ _ _ h => h) (Or.inl ⟨by rfl, ?_⟩) hcl hM ?_
      rotate_left 1
      · intro wx hx; go_simp <;> with_reducible rfl
      clear hcl hM; intro hcl hM; try simp only [Act.put, List.setIfInBounds_toArray, List.set_cons_zero, List.set_cons_succ]
      refine wpAnyM_take (i := 9) (oi := { dst := some 69, op := Op.indexAddr 42 (Operand.tmp 67) (Operand.tmp 68), type := 0, pos := "law.go:97", after := #[{ on := 7, ground := Ground.data }, { on := 8, ground := Ground.data }, { on := 6, ground := Ground.guard }], guard := some (6, false) }) (v := ?_) rfl (by kernel_rfl) (by kernel_rfl) (by kernel_rfl) (by kernel_rfl) (fun _ _ _ h => h) (Or.inl ⟨by rfl, ?_⟩) hcl hM ?_
      rotate_left 1
      · intro wx hx; go_simp <;> with_reducible rfl
      clear hcl hM; intro hcl hM; try simp only [Act.put, List.setIfInBounds_toArray, List.set_cons_zero, List.set_cons_succ]
      refine wpAnyM_take (i := 10) (oi := { dst := some 70, op := Op.fieldAddr 53 (Operand.tmp 69) 0, type := 0, pos := "law.go:97", after := #[{ on := 9, ground := Ground.data }, { on := 6, ground := Ground.guard }], guard := some (6, false) }) (v := ?_) rfl (by kernel_rfl) (by kernel_rfl) (by kernel_rfl) (by kernel_rfl) (fun _ _ _ h => h) (Or.inl ⟨by rfl, ?_⟩) hcl hM ?_
      rotate_left 1
      · intro wx hx; go_simp <;> with_reducible rfl
      clear hcl hM; intro hcl hM; try simp only [Act.put, List.setIfInBounds_toArray, List.set_cons_zero, List.set_cons_succ]
      as_aux_lemma =>
      refine wpAnyM_take (i := 11) (oi := { dst := some 71, op := Op.load 3 (Operand.tmp 70), type := 3, pos := "law.go:97", after := #[{ on := 10, ground := Ground.data }, { on := 6, ground := Ground.guard }], guard := some (6, false) }) (v := ?_) rfl (by kernel_rfl) (by kernel_rfl) (by kernel_rfl) (by kernel_rfl) (fun _ _ _ h => h) (Or.inl ⟨by rfl, ?_⟩) hcl hM ?_
      rotate_left 1
      · intro wx hx; have hq := below_cells hx; have q0 := hq w.heap.size 0 (by omega); have q11 := hq w.heap.size 11 (by omega); have p5 := hq (w.heap.size + 1) 5 (by omega); have g0 := hq g (k * 3) (by omega); have g1 := hq g (k * 3 + 1) (by omega); have g2 := hq g (k * 3 + 2) (by omega); have qn := hq nb (no + k) (by omega); clear hq; go_simp <;> with_reducible rfl
      clear hcl hM; intro hcl hM; try simp only [Act.put, List.setIfInBounds_toArray, List.set_cons_zero, List.set_cons_succ]
      refine wpAnyM_take (i := 12) (oi := { dst := some 72, op := Op.move (Operand.tmp 1), type := 3, pos := "law.go:97", after := #[{ on := 6, ground := Ground.guard }], guard := some (6, false) }) (v := ?_) rfl (by kernel_rfl) (by kernel_rfl) (by kernel_rfl) (by kernel_rfl) (fun _ _ _ h => h) (Or.inl ⟨by rfl, ?_⟩) hcl hM ?_
      rotate_left 1
      · intro wx hx; go_simp <;> with_reducible rfl
      clear hcl hM; intro hcl hM; try simp only [Act.put, List.setIfInBounds_toArray, List.set_cons_zero, List.set_cons_succ]
      refine wpAnyM_take (i := 13) (oi := { dst := some 73, op := Op.fieldAddr 27 (Operand.tmp 3) 8, type := 0, pos := "law.go:97", after := #[{ on := 6, ground := Ground.guard }], guard := some (6, false) }) (v := ?_) rfl (by kernel_rfl) (by kernel_rfl) (by kernel_rfl) (by kernel_rfl) (fun _ _ _ h => h) (Or.inl ⟨by rfl, ?_⟩) hcl hM ?_
      rotate_left 1
      · intro wx hx; go_simp <;> with_reducible rfl
      clear hcl hM; intro hcl hM; try simp only [Act.put, List.setIfInBounds_toArray, List.set_cons_zero, List.set_cons_succ]
      refine wpAnyM_take (i := 14) (oi := { dst := some 74, op := Op.load 3 (Operand.tmp 73), type := 3, pos := "law.go:97", after := #[{ on := 13, ground := Ground.data }, { on := 6, ground := Ground.guard }], guard := some (6, false) }) (v := ?_) rfl (by kernel_rfl) (by kernel_rfl) (by kernel_rfl) (by kernel_rfl) (fun _ _ _ h => h) (Or.inl ⟨by rfl, ?_⟩) hcl hM ?_
      rotate_left 1
      · intro wx hx; have hq := below_cells hx; have q0 := hq w.heap.size 0 (by omega); have q11 := hq w.heap.size 11 (by omega); have p5 := hq (w.heap.size + 1) 5 (by omega); have g0 := hq g (k * 3) (by omega); have g1 := hq g (k * 3 + 1) (by omega); have g2 := hq g (k * 3 + 2) (by omega); have qn := hq nb (no + k) (by omega); clear hq; go_simp <;> with_reducible rfl
      clear hcl hM; intro hcl hM; try simp only [Act.put, List.setIfInBounds_toArray, List.set_cons_zero, List.set_cons_succ]
      refine wpAnyM_take (i := 15) (oi := { dst := some 75, op := Op.binOp BinOp.mul 3 (Operand.tmp 72) (Operand.tmp 74) 3, type := 3, pos := "law.go:97", after := #[{ on := 12, ground := Ground.data }, { on := 14, ground := Ground.data }, { on := 6, ground := Ground.guard }], guard := some (6, false) }) (v := ?_) rfl (by kernel_rfl) (by kernel_rfl) (by kernel_rfl) (by kernel_rfl) (fun _ _ _ h => h) (Or.inl ⟨by rfl, ?_⟩) hcl hM ?_
      rotate_left 1
      · intro wx hx; go_simp <;> with_reducible rfl
      clear hcl hM; intro hcl hM; try simp only [Act.put, List.setIfInBounds_toArray, List.set_cons_zero, List.set_cons_succ]
      refine wpAnyM_take (i := 16) (oi := { dst := some 76, op := Op.binOp BinOp.gtr 3 (Operand.tmp 71) (Operand.tmp 75) 3, type := 4, pos := "law.go:97", after := #[{ on := 11, ground := Ground.data }, { on := 15, ground := Ground.data }, { on := 6, ground := Ground.guard }], guard := some (6, false) }) (v := ?_) rfl (by kernel_rfl) (by kernel_rfl) (by kernel_rfl) (by kernel_rfl) (fun _ _ _ h => h) (Or.inl ⟨by rfl, ?_⟩) hcl hM ?_
      rotate_left 1
      · intro wx hx; go_simp <;> with_reducible rfl
      clear hcl hM; intro hcl hM; try simp only [Act.put, List.setIfInBounds_toArray, List.set_cons_zero, List.set_cons_succ]
      as_aux_lemma =>
      refine wpAnyM_take (i := 17) (oi := { dst := some 77, op := Op.pick (Operand.tmp 66) (Operand.const (Value.bool true)) (Operand.tmp 76), type := 4, pos := "law.go:97", after := #[{ on := 6, ground := Ground.data }, { on := 16, ground := Ground.data }], guard := none }) (v := ?_) rfl (by kernel_rfl) (by kernel_rfl) (by kernel_rfl) (by kernel_rfl) (fun _ _ _ h => h) (Or.inl ⟨by rfl, ?_⟩) hcl hM ?_
      rotate_left 1
      · intro wx hx; go_simp <;> with_reducible rfl
      clear hcl hM; intro hcl hM; try simp only [Act.put, List.setIfInBounds_toArray, List.set_cons_zero, List.set_cons_succ]
      refine wpAnyM_take (i := 18) (oi := { dst := some 78, op := Op.move (Operand.tmp 77), type := 4, pos := "law.go:97", after := #[{ on := 17, ground := Ground.data }, { on := 6, ground := Ground.chain }], guard := none }) (v := ?_) rfl (by kernel_rfl) (by kernel_rfl) (by kernel_rfl) (by kernel_rfl) (fun _ _ _ h => h) (Or.inl ⟨by rfl, ?_⟩) hcl hM ?_
      rotate_left 1
      · intro wx hx; go_simp <;> with_reducible rfl
      clear hcl hM; intro hcl hM; try simp only [Act.put, List.setIfInBounds_toArray, List.set_cons_zero, List.set_cons_succ]
      refine wpAnyM_take (i := 19) (oi := { dst := some 79, op := Op.move (Operand.tmp 7), type := 42, pos := "law.go:97", after := #[{ on := 18, ground := Ground.guard }], guard := some (18, false) }) (v := ?_) rfl (by kernel_rfl) (by kernel_rfl) (by kernel_rfl) (by kernel_rfl) (fun _ _ _ h => h) (Or.inl ⟨by rfl, ?_⟩) hcl hM ?_
      rotate_left 1
      · intro wx hx; go_simp <;> with_reducible rfl
      clear hcl hM; intro hcl hM; try simp only [Act.put, List.setIfInBounds_toArray, List.set_cons_zero, List.set_cons_succ]
      refine wpAnyM_take (i := 20) (oi := { dst := some 80, op := Op.move (Operand.tmp 13), type := 3, pos := "law.go:97", after := #[{ on := 18, ground := Ground.guard }], guard := some (18, false) }) (v := ?_) rfl (by kernel_rfl) (by kernel_rfl) (by kernel_rfl) (by kernel_rfl) (fun _ _ _ h => h) (Or.inl ⟨by rfl, ?_⟩) hcl hM ?_
      rotate_left 1
      · intro wx hx; go_simp <;> with_reducible rfl
      clear hcl hM; intro hcl hM; try simp only [Act.put, List.setIfInBounds_toArray, List.set_cons_zero, List.set_cons_succ]
      refine wpAnyM_take (i := 21) (oi := { dst := some 81, op := Op.indexAddr 42 (Operand.tmp 79) (Operand.tmp 80), type := 0, pos := "law.go:97", after := #[{ on := 19, ground := Ground.data }, { on := 20, ground := Ground.data }, { on := 18, ground := Ground.guard }], guard := some (18, false) }) (v := ?_) rfl (by kernel_rfl) (by kernel_rfl) (by kernel_rfl) (by kernel_rfl) (fun _ _ _ h => h) (Or.inl ⟨by rfl, ?_⟩) hcl hM ?_
      rotate_left 1
      · intro wx hx; go_simp <;> with_reducible rfl
      clear hcl hM; intro hcl hM; try simp only [Act.put, List.setIfInBounds_toArray, List.set_cons_zero, List.set_cons_succ]
      refine wpAnyM_take (i := 22) (oi := { dst := some 82, op := Op.fieldAddr 53 (Operand.tmp 81) 1, type := 0, pos := "law.go:97", after := #[{ on := 21, ground := Ground.data }, { on := 18, ground := Ground.guard }], guard := some (18, false) }) (v := ?_) rfl (by kernel_rfl) (by kernel_rfl) (by kernel_rfl) (by kernel_rfl) (fun _ _ _ h => h) (Or.inl ⟨by rfl, ?_⟩) hcl hM ?_
      rotate_left 1
      · intro wx hx; go_simp <;> with_reducible rfl
      clear hcl hM; intro hcl hM; try simp only [Act.put, List.setIfInBounds_toArray, List.set_cons_zero, List.set_cons_succ]
      as_aux_lemma =>
      refine wpAnyM_take (i := 23) (oi := { dst := some 83, op := Op.load 3 (Operand.tmp 82), type := 3, pos := "law.go:97", after := #[{ on := 22, ground := Ground.data }, { on := 18, ground := Ground.guard }], guard := some (18, false) }) (v := ?_) rfl (by kernel_rfl) (by kernel_rfl) (by kernel_rfl) (by kernel_rfl) (fun _ _ _ h => h) (Or.inl ⟨by rfl, ?_⟩) hcl hM ?_
      rotate_left 1
      · intro wx hx; have hq := below_cells hx; have q0 := hq w.heap.size 0 (by omega); have q11 := hq w.heap.size 11 (by omega); have p5 := hq (w.heap.size + 1) 5 (by omega); have g0 := hq g (k * 3) (by omega); have g1 := hq g (k * 3 + 1) (by omega); have g2 := hq g (k * 3 + 2) (by omega); have qn := hq nb (no + k) (by omega); clear hq; go_simp <;> with_reducible rfl
      clear hcl hM; intro hcl hM; try simp only [Act.put, List.setIfInBounds_toArray, List.set_cons_zero, List.set_cons_succ]
      refine wpAnyM_take (i := 24) (oi := { dst := some 84, op := Op.binOp BinOp.lss 3 (Operand.tmp 83) (Operand.const (Value.int IntKind.i64 0)) 3, type := 4, pos := "law.go:97", after := #[{ on := 23, ground := Ground.data }, { on := 18, ground := Ground.guard }], guard := some (18, false) }) (v := ?_) rfl (by kernel_rfl) (by kernel_rfl) (by kernel_rfl) (by kernel_rfl) (fun _ _ _ h => h) (Or.inl ⟨by rfl, ?_⟩) hcl hM ?_
      rotate_left 1
      · intro wx hx; go_simp <;> with_reducible rfl
      clear hcl hM; intro hcl hM; try simp only [Act.put, List.setIfInBounds_toArray, List.set_cons_zero, List.set_cons_succ]
      refine wpAnyM_take (i := 25) (oi := { dst := some 85, op := Op.pick (Operand.tmp 78) (Operand.const (Value.bool true)) (Operand.tmp 84), type := 4, pos := "law.go:97", after := #[{ on := 18, ground := Ground.data }, { on := 24, ground := Ground.data }], guard := none }) (v := ?_) rfl (by kernel_rfl) (by kernel_rfl) (by kernel_rfl) (by kernel_rfl) (fun _ _ _ h => h) (Or.inl ⟨by rfl, ?_⟩) hcl hM ?_
      rotate_left 1
      · intro wx hx; go_simp <;> with_reducible rfl
      clear hcl hM; intro hcl hM; try simp only [Act.put, List.setIfInBounds_toArray, List.set_cons_zero, List.set_cons_succ]
      refine wpAnyM_take (i := 26) (oi := { dst := some 86, op := Op.move (Operand.tmp 85), type := 4, pos := "law.go:97", after := #[{ on := 25, ground := Ground.data }, { on := 18, ground := Ground.chain }], guard := none }) (v := ?_) rfl (by kernel_rfl) (by kernel_rfl) (by kernel_rfl) (by kernel_rfl) (fun _ _ _ h => h) (Or.inl ⟨by rfl, ?_⟩) hcl hM ?_
      rotate_left 1
      · intro wx hx; go_simp <;> with_reducible rfl
      clear hcl hM; intro hcl hM; try simp only [Act.put, List.setIfInBounds_toArray, List.set_cons_zero, List.set_cons_succ]
      refine wpAnyM_take (i := 27) (oi := { dst := some 87, op := Op.move (Operand.tmp 7), type := 42, pos := "law.go:97", after := #[{ on := 26, ground := Ground.guard }], guard := some (26, false) }) (v := ?_) rfl (by kernel_rfl) (by kernel_rfl) (by kernel_rfl) (by kernel_rfl) (fun _ _ _ h => h) (Or.inl ⟨by rfl, ?_⟩) hcl hM ?_
      rotate_left 1
      · intro wx hx; go_simp <;> with_reducible rfl
      clear hcl hM; intro hcl hM; try simp only [Act.put, List.setIfInBounds_toArray, List.set_cons_zero, List.set_cons_succ]
      refine wpAnyM_take (i := 28) (oi := { dst := some 88, op := Op.move (Operand.tmp 13), type := 3, pos := "law.go:97", after := #[{ on := 26, ground := Ground.guard }], guard := some (26, false) }) (v := ?_) rfl (by kernel_rfl) (by kernel_rfl) (by kernel_rfl) (by kernel_rfl) (fun _ _ _ h => h) (Or.inl ⟨by rfl, ?_⟩) hcl hM ?_
      rotate_left 1
      · intro wx hx; go_simp <;> with_reducible rfl
      clear hcl hM; intro hcl hM; try simp only [Act.put, List.setIfInBounds_toArray, List.set_cons_zero, List.set_cons_succ]
      as_aux_lemma =>
      refine wpAnyM_take (i := 29) (oi := { dst := some 89, op := Op.indexAddr 42 (Operand.tmp 87) (Operand.tmp 88), type := 0, pos := "law.go:97", after := #[{ on := 27, ground := Ground.data }, { on := 28, ground := Ground.data }, { on := 26, ground := Ground.guard }], guard := some (26, false) }) (v := ?_) rfl (by kernel_rfl) (by kernel_rfl) (by kernel_rfl) (by kernel_rfl) (fun _ _ _ h => h) (Or.inl ⟨by rfl, ?_⟩) hcl hM ?_
      rotate_left 1
      · intro wx hx; go_simp <;> with_reducible rfl
      clear hcl hM; intro hcl hM; try simp only [Act.put, List.setIfInBounds_toArray, List.set_cons_zero, List.set_cons_succ]
      refine wpAnyM_take (i := 30) (oi := { dst := some 90, op := Op.fieldAddr 53 (Operand.tmp 89) 1, type := 0, pos := "law.go:97", after := #[{ on := 29, ground := Ground.data }, { on := 26, ground := Ground.guard }], guard := some (26, false) }) (v := ?_) rfl (by kernel_rfl) (by kernel_rfl) (by kernel_rfl) (by kernel_rfl) (fun _ _ _ h => h) (Or.inl ⟨by rfl, ?_⟩) hcl hM ?_
      rotate_left 1
      · intro wx hx; go_simp <;> with_reducible rfl
      clear hcl hM; intro hcl hM; try simp only [Act.put, List.setIfInBounds_toArray, List.set_cons_zero, List.set_cons_succ]
      refine wpAnyM_take (i := 31) (oi := { dst := some 91, op := Op.load 3 (Operand.tmp 90), type := 3, pos := "law.go:97", after := #[{ on := 30, ground := Ground.data }, { on := 26, ground := Ground.guard }], guard := some (26, false) }) (v := ?_) rfl (by kernel_rfl) (by kernel_rfl) (by kernel_rfl) (by kernel_rfl) (fun _ _ _ h => h) (Or.inl ⟨by rfl, ?_⟩) hcl hM ?_
      rotate_left 1
      · intro wx hx; have hq := below_cells hx; have q0 := hq w.heap.size 0 (by omega); have q11 := hq w.heap.size 11 (by omega); have p5 := hq (w.heap.size + 1) 5 (by omega); have g0 := hq g (k * 3) (by omega); have g1 := hq g (k * 3 + 1) (by omega); have g2 := hq g (k * 3 + 2) (by omega); have qn := hq nb (no + k) (by omega); clear hq; go_simp <;> with_reducible rfl
      clear hcl hM; intro hcl hM; try simp only [Act.put, List.setIfInBounds_toArray, List.set_cons_zero, List.set_cons_succ]
      refine wpAnyM_take (i := 32) (oi := { dst := some 92, op := Op.fieldAddr 27 (Operand.tmp 3) 0, type := 0, pos := "law.go:97", after := #[{ on := 26, ground := Ground.guard }], guard := some (26, false) }) (v := ?_) rfl (by kernel_rfl) (by kernel_rfl) (by kernel_rfl) (by kernel_rfl) (fun _ _ _ h => h) (Or.inl ⟨by rfl, ?_⟩) hcl hM ?_
      rotate_left 1
      · intro wx hx; go_simp <;> with_reducible rfl
      clear hcl hM; intro hcl hM; try simp only [Act.put, List.setIfInBounds_toArray, List.set_cons_zero, List.set_cons_succ]
      refine wpAnyM_take (i := 33) (oi := { dst := some 93, op := Op.load 3 (Operand.tmp 92), type := 3, pos := "law.go:97", after := #[{ on := 32, ground := Ground.data }, { on := 26, ground := Ground.guard }], guard := some (26, false) }) (v := ?_) rfl (by kernel_rfl) (by kernel_rfl) (by kernel_rfl) (by kernel_rfl) (fun _ _ _ h => h) (Or.inl ⟨by rfl, ?_⟩) hcl hM ?_
      rotate_left 1
      · intro wx hx; have hq := below_cells hx; have q0 := hq w.heap.size 0 (by omega); have q11 := hq w.heap.size 11 (by omega); have p5 := hq (w.heap.size + 1) 5 (by omega); have g0 := hq g (k * 3) (by omega); have g1 := hq g (k * 3 + 1) (by omega); have g2 := hq g (k * 3 + 2) (by omega); have qn := hq nb (no + k) (by omega); clear hq; go_simp <;> with_reducible rfl
      clear hcl hM; intro hcl hM; try simp only [Act.put, List.setIfInBounds_toArray, List.set_cons_zero, List.set_cons_succ]
      refine wpAnyM_take (i := 34) (oi := { dst := some 94, op := Op.binOp BinOp.gtr 3 (Operand.tmp 91) (Operand.tmp 93) 3, type := 4, pos := "law.go:97", after := #[{ on := 31, ground := Ground.data }, { on := 33, ground := Ground.data }, { on := 26, ground := Ground.guard }], guard := some (26, false) }) (v := ?_) rfl (by kernel_rfl) (by kernel_rfl) (by kernel_rfl) (by kernel_rfl) (fun _ _ _ h => h) (Or.inl ⟨by rfl, ?_⟩) hcl hM ?_
      rotate_left 1
      · intro wx hx; go_simp <;> with_reducible rfl
      clear hcl hM; intro hcl hM; try simp only [Act.put, List.setIfInBounds_toArray, List.set_cons_zero, List.set_cons_succ]
      as_aux_lemma =>
      refine wpAnyM_take (i := 35) (oi := { dst := some 95, op := Op.pick (Operand.tmp 86) (Operand.const (Value.bool true)) (Operand.tmp 94), type := 4, pos := "law.go:97", after := #[{ on := 26, ground := Ground.data }, { on := 34, ground := Ground.data }], guard := none }) (v := ?_) rfl (by kernel_rfl) (by kernel_rfl) (by kernel_rfl) (by kernel_rfl) (fun _ _ _ h => h) (Or.inl ⟨by rfl, ?_⟩) hcl hM ?_
      rotate_left 1
      · intro wx hx; go_simp <;> with_reducible rfl
      clear hcl hM; intro hcl hM; try simp only [Act.put, List.setIfInBounds_toArray, List.set_cons_zero, List.set_cons_succ]
      refine wpAnyM_take (i := 36) (oi := { dst := some 96, op := Op.move (Operand.tmp 95), type := 4, pos := "law.go:97", after := #[{ on := 35, ground := Ground.data }, { on := 26, ground := Ground.chain }], guard := none }) (v := ?_) rfl (by kernel_rfl) (by kernel_rfl) (by kernel_rfl) (by kernel_rfl) (fun _ _ _ h => h) (Or.inl ⟨by rfl, ?_⟩) hcl hM ?_
      rotate_left 1
      · intro wx hx; go_simp <;> with_reducible rfl
      clear hcl hM; intro hcl hM; try simp only [Act.put, List.setIfInBounds_toArray, List.set_cons_zero, List.set_cons_succ]
      refine wpAnyM_take (i := 37) (oi := { dst := some 97, op := Op.move (Operand.tmp 7), type := 42, pos := "law.go:97", after := #[{ on := 36, ground := Ground.guard }], guard := some (36, false) }) (v := ?_) rfl (by kernel_rfl) (by kernel_rfl) (by kernel_rfl) (by kernel_rfl) (fun _ _ _ h => h) (Or.inl ⟨by rfl, ?_⟩) hcl hM ?_
      rotate_left 1
      · intro wx hx; go_simp <;> with_reducible rfl
      clear hcl hM; intro hcl hM; try simp only [Act.put, List.setIfInBounds_toArray, List.set_cons_zero, List.set_cons_succ]
      refine wpAnyM_take (i := 38) (oi := { dst := some 98, op := Op.move (Operand.tmp 13), type := 3, pos := "law.go:97", after := #[{ on := 36, ground := Ground.guard }], guard := some (36, false) }) (v := ?_) rfl (by kernel_rfl) (by kernel_rfl) (by kernel_rfl) (by kernel_rfl) (fun _ _ _ h => h) (Or.inl ⟨by rfl, ?_⟩) hcl hM ?_
      rotate_left 1
      · intro wx hx; go_simp <;> with_reducible rfl
      clear hcl hM; intro hcl hM; try simp only [Act.put, List.setIfInBounds_toArray, List.set_cons_zero, List.set_cons_succ]
      refine wpAnyM_take (i := 39) (oi := { dst := some 99, op := Op.indexAddr 42 (Operand.tmp 97) (Operand.tmp 98), type := 0, pos := "law.go:97", after := #[{ on := 37, ground := Ground.data }, { on := 38, ground := Ground.data }, { on := 36, ground := Ground.guard }], guard := some (36, false) }) (v := ?_) rfl (by kernel_rfl) (by kernel_rfl) (by kernel_rfl) (by kernel_rfl) (fun _ _ _ h => h) (Or.inl ⟨by rfl, ?_⟩) hcl hM ?_
      rotate_left 1
      · intro wx hx; go_simp <;> with_reducible rfl
      clear hcl hM; intro hcl hM; try simp only [Act.put, List.setIfInBounds_toArray, List.set_cons_zero, List.set_cons_succ]
      refine wpAnyM_take (i := 40) (oi := { dst := some 100, op := Op.fieldAddr 53 (Operand.tmp 99) 2, type := 0, pos := "law.go:97", after := #[{ on := 39, ground := Ground.data }, { on := 36, ground := Ground.guard }], guard := some (36, false) }) (v := ?_) rfl (by kernel_rfl) (by kernel_rfl) (by kernel_rfl) (by kernel_rfl) (fun _ _ _ h => h) (Or.inl ⟨by rfl, ?_⟩) hcl hM ?_
      rotate_left 1
      · intro wx hx; go_simp <;> with_reducible rfl
      clear hcl hM; intro hcl hM; try simp only [Act.put, List.setIfInBounds_toArray, List.set_cons_zero, List.set_cons_succ]
      as_aux_lemma =>
      refine wpAnyM_take (i := 41) (oi := { dst := some 101, op := Op.load 3 (Operand.tmp 100), type := 3, pos := "law.go:97", after := #[{ on := 40, ground := Ground.data }, { on := 36, ground := Ground.guard }], guard := some (36, false) }) (v := ?_) rfl (by kernel_rfl) (by kernel_rfl) (by kernel_rfl) (by kernel_rfl) (fun _ _ _ h => h) (Or.inl ⟨by rfl, ?_⟩) hcl hM ?_
      rotate_left 1
      · intro wx hx; have hq := below_cells hx; have q0 := hq w.heap.size 0 (by omega); have q11 := hq w.heap.size 11 (by omega); have p5 := hq (w.heap.size + 1) 5 (by omega); have g0 := hq g (k * 3) (by omega); have g1 := hq g (k * 3 + 1) (by omega); have g2 := hq g (k * 3 + 2) (by omega); have qn := hq nb (no + k) (by omega); clear hq; go_simp <;> with_reducible rfl
      clear hcl hM; intro hcl hM; try simp only [Act.put, List.setIfInBounds_toArray, List.set_cons_zero, List.set_cons_succ]
      refine wpAnyM_take (i := 42) (oi := { dst := some 102, op := Op.binOp BinOp.lss 3 (Operand.tmp 101) (Operand.const (Value.int IntKind.i64 0)) 3, type := 4, pos := "law.go:97", after := #[{ on := 41, ground := Ground.data }, { on := 36, ground := Ground.guard }], guard := some (36, false) }) (v := ?_) rfl (by kernel_rfl) (by kernel_rfl) (by kernel_rfl) (by kernel_rfl) (fun _ _ _ h => h) (Or.inl ⟨by rfl, ?_⟩) hcl hM ?_
      rotate_left 1
      · intro wx hx; go_simp <;> with_reducible rfl
      clear hcl hM; intro hcl hM; try simp only [Act.put, List.setIfInBounds_toArray, List.set_cons_zero, List.set_cons_succ]
      refine wpAnyM_take (i := 43) (oi := { dst := some 103, op := Op.pick (Operand.tmp 96) (Operand.const (Value.bool true)) (Operand.tmp 102), type := 4, pos := "law.go:97", after := #[{ on := 36, ground := Ground.data }, { on := 42, ground := Ground.data }], guard := none }) (v := ?_) rfl (by kernel_rfl) (by kernel_rfl) (by kernel_rfl) (by kernel_rfl) (fun _ _ _ h => h) (Or.inl ⟨by rfl, ?_⟩) hcl hM ?_
      rotate_left 1
      · intro wx hx; go_simp <;> with_reducible rfl
      clear hcl hM; intro hcl hM; try simp only [Act.put, List.setIfInBounds_toArray, List.set_cons_zero, List.set_cons_succ]
      refine wpAnyM_take (i := 44) (oi := { dst := some 104, op := Op.move (Operand.tmp 103), type := 4, pos := "law.go:97", after := #[{ on := 43, ground := Ground.data }, { on := 36, ground := Ground.chain }], guard := none }) (v := ?_) rfl (by kernel_rfl) (by kernel_rfl) (by kernel_rfl) (by kernel_rfl) (fun _ _ _ h => h) (Or.inl ⟨by rfl, ?_⟩) hcl hM ?_
      rotate_left 1
      · intro wx hx; go_simp <;> with_reducible rfl
      clear hcl hM; intro hcl hM; try simp only [Act.put, List.setIfInBounds_toArray, List.set_cons_zero, List.set_cons_succ]
      refine wpAnyM_take (i := 45) (oi := { dst := some 105, op := Op.move (Operand.tmp 7), type := 42, pos := "law.go:97", after := #[{ on := 44, ground := Ground.guard }], guard := some (44, false) }) (v := ?_) rfl (by kernel_rfl) (by kernel_rfl) (by kernel_rfl) (by kernel_rfl) (fun _ _ _ h => h) (Or.inl ⟨by rfl, ?_⟩) hcl hM ?_
      rotate_left 1
      · intro wx hx; go_simp <;> with_reducible rfl
      clear hcl hM; intro hcl hM; try simp only [Act.put, List.setIfInBounds_toArray, List.set_cons_zero, List.set_cons_succ]
      refine wpAnyM_take (i := 46) (oi := { dst := some 106, op := Op.move (Operand.tmp 13), type := 3, pos := "law.go:97", after := #[{ on := 44, ground := Ground.guard }], guard := some (44, false) }) (v := ?_) rfl (by kernel_rfl) (by kernel_rfl) (by kernel_rfl) (by kernel_rfl) (fun _ _ _ h => h) (Or.inl ⟨by rfl, ?_⟩) hcl hM ?_
      rotate_left 1
      · intro wx hx; go_simp <;> with_reducible rfl
      clear hcl hM; intro hcl hM; try simp only [Act.put, List.setIfInBounds_toArray, List.set_cons_zero, List.set_cons_succ]
      as_aux_lemma =>
      refine wpAnyM_take (i := 47) (oi := { dst := some 107, op := Op.indexAddr 42 (Operand.tmp 105) (Operand.tmp 106), type := 0, pos := "law.go:97", after := #[{ on := 45, ground := Ground.data }, { on := 46, ground := Ground.data }, { on := 44, ground := Ground.guard }], guard := some (44, false) }) (v := ?_) rfl (by kernel_rfl) (by kernel_rfl) (by kernel_rfl) (by kernel_rfl) (fun _ _ _ h => h) (Or.inl ⟨by rfl, ?_⟩) hcl hM ?_
      rotate_left 1
      · intro wx hx; go_simp <;> with_reducible rfl
      clear hcl hM; intro hcl hM; try simp only [Act.put, List.setIfInBounds_toArray, List.set_cons_zero, List.set_cons_succ]
      refine wpAnyM_take (i := 48) (oi := { dst := some 108, op := Op.fieldAddr 53 (Operand.tmp 107) 2, type := 0, pos := "law.go:97", after := #[{ on := 47, ground := Ground.data }, { on := 44, ground := Ground.guard }], guard := some (44, false) }) (v := ?_) rfl (by kernel_rfl) (by kernel_rfl) (by kernel_rfl) (by kernel_rfl) (fun _ _ _ h => h) (Or.inl ⟨by rfl, ?_⟩) hcl hM ?_
      rotate_left 1
      · intro wx hx; go_simp <;> with_reducible rfl
      clear hcl hM; intro hcl hM; try simp only [Act.put, List.setIfInBounds_toArray, List.set_cons_zero, List.set_cons_succ]
      refine wpAnyM_take (i := 49) (oi := { dst := some 109, op := Op.load 3 (Operand.tmp 108), type := 3, pos := "law.go:97", after := #[{ on := 48, ground := Ground.data }, { on := 44, ground := Ground.guard }], guard := some (44, false) }) (v := ?_) rfl (by kernel_rfl) (by kernel_rfl) (by kernel_rfl) (by kernel_rfl) (fun _ _ _ h => h) (Or.inl ⟨by rfl, ?_⟩) hcl hM ?_
      rotate_left 1
      · intro wx hx; have hq := below_cells hx; have q0 := hq w.heap.size 0 (by omega); have q11 := hq w.heap.size 11 (by omega); have p5 := hq (w.heap.size + 1) 5 (by omega); have g0 := hq g (k * 3) (by omega); have g1 := hq g (k * 3 + 1) (by omega); have g2 := hq g (k * 3 + 2) (by omega); have qn := hq nb (no + k) (by omega); clear hq; go_simp <;> with_reducible rfl
      clear hcl hM; intro hcl hM; try simp only [Act.put, List.setIfInBounds_toArray, List.set_cons_zero, List.set_cons_succ]
      refine wpAnyM_take (i := 50) (oi := { dst := some 110, op := Op.fieldAddr 40 (Operand.tmp 5) 5, type := 0, pos := "law.go:97", after := #[{ on := 44, ground := Ground.guard }], guard := some (44, false) }) (v := ?_) rfl (by kernel_rfl) (by kernel_rfl) (by kernel_rfl) (by kernel_rfl) (fun _ _ _ h => h) (Or.inl ⟨by rfl, ?_⟩) hcl hM ?_
      rotate_left 1
      · intro wx hx; go_simp <;> with_reducible rfl
      clear hcl hM; intro hcl hM; try simp only [Act.put, List.setIfInBounds_toArray, List.set_cons_zero, List.set_cons_succ]
      refine wpAnyM_take (i := 51) (oi := { dst := some 111, op := Op.load 24 (Operand.tmp 110), type := 24, pos := "law.go:97", after := #[{ on := 50, ground := Ground.data }, { on := 44, ground := Ground.guard }], guard := some (44, false) }) (v := ?_) rfl (by kernel_rfl) (by kernel_rfl) (by kernel_rfl) (by kernel_rfl) (fun _ _ _ h => h) (Or.inl ⟨by rfl, ?_⟩) hcl hM ?_
      rotate_left 1
      · intro wx hx; have hq := below_cells hx; have q0 := hq w.heap.size 0 (by omega); have q11 := hq w.heap.size 11 (by omega); have p5 := hq (w.heap.size + 1) 5 (by omega); have g0 := hq g (k * 3) (by omega); have g1 := hq g (k * 3 + 1) (by omega); have g2 := hq g (k * 3 + 2) (by omega); have qn := hq nb (no + k) (by omega); clear hq; go_simp <;> with_reducible rfl
      clear hcl hM; intro hcl hM; try simp only [Act.put, List.setIfInBounds_toArray, List.set_cons_zero, List.set_cons_succ]
      refine wpAnyM_take (i := 52) (oi := { dst := some 112, op := Op.move (Operand.tmp 13), type := 3, pos := "law.go:97", after := #[{ on := 44, ground := Ground.guard }], guard := some (44, false) }) (v := ?_) rfl (by kernel_rfl) (by kernel_rfl) (by kernel_rfl) (by kernel_rfl) (fun _ _ _ h => h) (Or.inl ⟨by rfl, ?_⟩) hcl hM ?_
      rotate_left 1
      · intro wx hx; go_simp <;> with_reducible rfl
      clear hcl hM; intro hcl hM; try simp only [Act.put, List.setIfInBounds_toArray, List.set_cons_zero, List.set_cons_succ]
      as_aux_lemma =>
      refine wpAnyM_take (i := 53) (oi := { dst := some 113, op := Op.indexAddr 24 (Operand.tmp 111) (Operand.tmp 112), type := 0, pos := "law.go:97", after := #[{ on := 51, ground := Ground.data }, { on := 52, ground := Ground.data }, { on := 44, ground := Ground.guard }], guard := some (44, false) }) (v := ?_) rfl (by kernel_rfl) (by kernel_rfl) (by kernel_rfl) (by kernel_rfl) (fun _ _ _ h => h) (Or.inl ⟨by rfl, ?_⟩) hcl hM ?_
      rotate_left 1
      · intro wx hx; go_simp <;> with_reducible rfl
      clear hcl hM; intro hcl hM; try simp only [Act.put, List.setIfInBounds_toArray, List.set_cons_zero, List.set_cons_succ]
      refine wpAnyM_take (i := 54) (oi := { dst := some 114, op := Op.load 3 (Operand.tmp 113), type := 3, pos := "law.go:97", after := #[{ on := 53, ground := Ground.data }, { on := 44, ground := Ground.guard }], guard := some (44, false) }) (v := ?_) rfl (by kernel_rfl) (by kernel_rfl) (by kernel_rfl) (by kernel_rfl) (fun _ _ _ h => h) (Or.inl ⟨by rfl, ?_⟩) hcl hM ?_
      rotate_left 1
      · intro wx hx; have hq := below_cells hx; have q0 := hq w.heap.size 0 (by omega); have q11 := hq w.heap.size 11 (by omega); have p5 := hq (w.heap.size + 1) 5 (by omega); have g0 := hq g (k * 3) (by omega); have g1 := hq g (k * 3 + 1) (by omega); have g2 := hq g (k * 3 + 2) (by omega); have qn := hq nb (no + k) (by omega); clear hq; go_simp <;> with_reducible rfl
      clear hcl hM; intro hcl hM; try simp only [Act.put, List.setIfInBounds_toArray, List.set_cons_zero, List.set_cons_succ]
      refine wpAnyM_take (i := 55) (oi := { dst := some 115, op := Op.binOp BinOp.gtr 3 (Operand.tmp 109) (Operand.tmp 114) 3, type := 4, pos := "law.go:97", after := #[{ on := 49, ground := Ground.data }, { on := 54, ground := Ground.data }, { on := 44, ground := Ground.guard }], guard := some (44, false) }) (v := ?_) rfl (by kernel_rfl) (by kernel_rfl) (by kernel_rfl) (by kernel_rfl) (fun _ _ _ h => h) (Or.inl ⟨by rfl, ?_⟩) hcl hM ?_
      rotate_left 1
      · intro wx hx; go_simp <;> with_reducible rfl
      clear hcl hM; intro hcl hM; try simp only [Act.put, List.setIfInBounds_toArray, List.set_cons_zero, List.set_cons_succ]
      refine wpAnyM_take (i := 56) (oi := { dst := some 116, op := Op.pick (Operand.tmp 104) (Operand.const (Value.bool true)) (Operand.tmp 115), type := 4, pos := "law.go:97", after := #[{ on := 44, ground := Ground.data }, { on := 55, ground := Ground.data }], guard := none }) (v := ?_) rfl (by kernel_rfl) (by kernel_rfl) (by kernel_rfl) (by kernel_rfl) (fun _ _ _ h => h) (Or.inl ⟨by rfl, ?_⟩) hcl hM ?_
      rotate_left 1
      · intro wx hx; go_simp <;> with_reducible rfl
      clear hcl hM; intro hcl hM; try simp only [Act.put, List.setIfInBounds_toArray, List.set_cons_zero, List.set_cons_succ]
      refine wpAnyM_done (by kernel_rfl) ?_ _
      have hEnd := hM.1; clear hcl hM
      as_aux_lemma =>
      go_wp2_with fail
      as_aux_lemma =>
      have hEnd1 := Lib.hid hEnd
      clear hEnd
      obtain ⟨a0, a1⟩ := roof_le hfit hlt
      obtain ⟨b0, b1⟩ := sand_le hfit hlt
      obtain ⟨r0, r1⟩ := hfit.rain k hlt
      obtain ⟨d0, d1⟩ := hfit.need k hlt
      have p0 := Int.mul_nonneg hfit.roof0 r0
      have p1 : i.roof * t.rains k ≤ 100000 * 2000 := Int.mul_le_mul hfit.roof1 r1 r0 (by omega)
      have q0 := Int.mul_nonneg hfit.sand0 r0
      have q1 : i.sand * t.rains k ≤ 10000000 * 2000 := Int.mul_le_mul hfit.sand1 r1 r0 (by omega)
      have u0 := Int.mul_nonneg q0 hfit.soak0
      have u1 : i.sand * t.rains k * t.soak ≤ 10000000 * 2000 * 1000 := Int.mul_le_mul q1 hfit.soak1 hfit.soak0 (by omega)
      obtain ⟨-, -, -, -, -, -, s0, s1, -, -, -, -, -, -⟩ := runTo_ok hfit (k := k) (by omega)
      have N := needSum_le hfit (k := k) (by omega)
      have Lk := lackSum_le hfit (k := k) (by omega)
      have N1 := needSum_le hfit (k := k + 1) (by omega)
      have L1 := lackSum_le hfit (k := k + 1) (by omega)
      have hk8 : (k : Int) ≤ 8 := by omega
      have w1 : IntKind.i64.wrap (i.roof * t.rains k) = i.roof * t.rains k := IntWalk.i64_in _ (by omega)
      have w2' : IntKind.i64.wrap ((i.roof * t.rains k).tdiv 1000) = i.roof * t.rains k / 1000 := IntWalk.i64_quo _ _ (by omega)
      have w3 : IntKind.i64.wrap ((runTo i tanks t k).rain + i.roof * t.rains k / 1000) = (runTo i tanks t k).rain + i.roof * t.rains k / 1000 := IntWalk.i64_in _ (by omega)
      have w4 : IntKind.i64.wrap (i.sand * t.rains k) = i.sand * t.rains k := IntWalk.i64_in _ (by omega)
      have w5 : IntKind.i64.wrap (i.sand * t.rains k * t.soak) = i.sand * t.rains k * t.soak := IntWalk.i64_in _ (by omega)
      have w6 : IntKind.i64.wrap ((i.sand * t.rains k * t.soak).tdiv 1000000) = i.sand * t.rains k * t.soak / 1000000 := IntWalk.i64_quo _ _ (by omega)
      have w7 : IntKind.i64.wrap ((runTo i tanks t k).rain + i.roof * t.rains k / 1000 + i.sand * t.rains k * t.soak / 1000000) = (runTo i tanks t (k + 1)).rain := IntWalk.i64_in _ (by omega)
      have w8 : IntKind.i64.wrap (needSum t k + t.needs k) = needSum t (k + 1) := IntWalk.i64_in _ (by omega)
      have w9 : IntKind.i64.wrap (lackSum i tanks t k + (runTo i tanks t (k + 1)).lack) = lackSum i tanks t (k + 1) := IntWalk.i64_in _ (by omega)
      clear a0 a1 b0 b1 p0 p1 q0 q1 u0 u1 s0 s1 N Lk N1 L1 r0 r1 d0 d1 n1 n2 n3 n4 n5 n6 hm1 t0 t1 l0 l1 k0' k1' hlk
      refine wp_region_keeps (B := w2.heap.size + 1) (by kernel_rfl) ?_
      intro hcl hM
      refine wpAnyM_take (i := 0) (oi := { dst := some 117, op := Op.move (Operand.tmp 10), type := 3, pos := "law.go:100", after := #[], guard := none }) (v := ?_) rfl (by kernel_rfl) (by kernel_rfl) (by kernel_rfl) (by kernel_rfl) (fun _ _ _ h => h) (Or.inl ⟨by rfl, ?_⟩) hcl hM ?_
      rotate_left 1
      · intro wx hx; go_simp <;> with_reducible rfl
      clear hcl hM; intro hcl hM; try simp only [Act.put, List.setIfInBounds_toArray, List.set_cons_zero, List.set_cons_succ]
      refine wpAnyM_take (i := 1) (oi := { dst := some 118, op := Op.fieldAddr 27 (Operand.tmp 3) 2, type := 0, pos := "law.go:100", after := #[], guard := none }) (v := ?_) rfl (by kernel_rfl) (by kernel_rfl) (by kernel_rfl) (by kernel_rfl) (fun _ _ _ h => h) (Or.inl ⟨by rfl, ?_⟩) hcl hM ?_
      rotate_left 1
      · intro wx hx; go_simp <;> with_reducible rfl
      clear hcl hM; intro hcl hM; try simp only [Act.put, List.setIfInBounds_toArray, List.set_cons_zero, List.set_cons_succ]
      refine wpAnyM_take (i := 2) (oi := { dst := some 119, op := Op.load 3 (Operand.tmp 118), type := 3, pos := "law.go:100", after := #[{ on := 1, ground := Ground.data }], guard := none }) (v := ?_) rfl (by kernel_rfl) (by kernel_rfl) (by kernel_rfl) (by kernel_rfl) (fun _ _ _ h => h) (Or.inl ⟨by rfl, ?_⟩) hcl hM ?_
      rotate_left 1
      · intro wx hx; have hq := below_cells hx; have q3 := hq w.heap.size 3 (by omega); have q4 := hq w.heap.size 4 (by omega); have p1 := hq (w.heap.size + 1) 1 (by omega); have p4 := hq (w.heap.size + 1) 4 (by omega); have p5 := hq (w.heap.size + 1) 5 (by omega); have g2 := hq g (k * 3 + 2) (by omega); have qr := hq rb (ro + k) (by omega); have qn := hq nb (no + k) (by omega); clear hq; go_simp <;> with_reducible rfl
      clear hcl hM; intro hcl hM; try simp only [Act.put, List.setIfInBounds_toArray, List.set_cons_zero, List.set_cons_succ]
      refine wpAnyM_take (i := 3) (oi := { dst := some 120, op := Op.fieldAddr 40 (Operand.tmp 5) 4, type := 0, pos := "law.go:100", after := #[], guard := none }) (v := ?_) rfl (by kernel_rfl) (by kernel_rfl) (by kernel_rfl) (by kernel_rfl) (fun _ _ _ h => h) (Or.inl ⟨by rfl, ?_⟩) hcl hM ?_
      rotate_left 1
      · intro wx hx; go_simp <;> with_reducible rfl
      clear hcl hM; intro hcl hM; try simp only [Act.put, List.setIfInBounds_toArray, List.set_cons_zero, List.set_cons_succ]
      refine wpAnyM_take (i := 4) (oi := { dst := some 121, op := Op.load 24 (Operand.tmp 120), type := 24, pos := "law.go:100", after := #[{ on := 3, ground := Ground.data }], guard := none }) (v := ?_) rfl (by kernel_rfl) (by kernel_rfl) (by kernel_rfl) (by kernel_rfl) (fun _ _ _ h => h) (Or.inl ⟨by rfl, ?_⟩) hcl hM ?_
      rotate_left 1
      · intro wx hx; have hq := below_cells hx; have q3 := hq w.heap.size 3 (by omega); have q4 := hq w.heap.size 4 (by omega); have p1 := hq (w.heap.size + 1) 1 (by omega); have p4 := hq (w.heap.size + 1) 4 (by omega); have p5 := hq (w.heap.size + 1) 5 (by omega); have g2 := hq g (k * 3 + 2) (by omega); have qr := hq rb (ro + k) (by omega); have qn := hq nb (no + k) (by omega); clear hq; go_simp <;> with_reducible rfl
      clear hcl hM; intro hcl hM; try simp only [Act.put, List.setIfInBounds_toArray, List.set_cons_zero, List.set_cons_succ]
      as_aux_lemma =>
      refine wpAnyM_take (i := 5) (oi := { dst := some 122, op := Op.move (Operand.tmp 13), type := 3, pos := "law.go:100", after := #[], guard := none }) (v := ?_) rfl (by kernel_rfl) (by kernel_rfl) (by kernel_rfl) (by kernel_rfl) (fun _ _ _ h => h) (Or.inl ⟨by rfl, ?_⟩) hcl hM ?_
      rotate_left 1
      · intro wx hx; go_simp <;> with_reducible rfl
      clear hcl hM; intro hcl hM; try simp only [Act.put, List.setIfInBounds_toArray, List.set_cons_zero, List.set_cons_succ]
      refine wpAnyM_take (i := 6) (oi := { dst := some 123, op := Op.indexAddr 24 (Operand.tmp 121) (Operand.tmp 122), type := 0, pos := "law.go:100", after := #[{ on := 4, ground := Ground.data }, { on := 5, ground := Ground.data }], guard := none }) (v := ?_) rfl (by kernel_rfl) (by kernel_rfl) (by kernel_rfl) (by kernel_rfl) (fun _ _ _ h => h) (Or.inl ⟨by rfl, ?_⟩) hcl hM ?_
      rotate_left 1
      · intro wx hx; go_simp <;> with_reducible rfl
      clear hcl hM; intro hcl hM; try simp only [Act.put, List.setIfInBounds_toArray, List.set_cons_zero, List.set_cons_succ]
      refine wpAnyM_take (i := 7) (oi := { dst := some 124, op := Op.load 3 (Operand.tmp 123), type := 3, pos := "law.go:100", after := #[{ on := 6, ground := Ground.data }], guard := none }) (v := ?_) rfl (by kernel_rfl) (by kernel_rfl) (by kernel_rfl) (by kernel_rfl) (fun _ _ _ h => h) (Or.inl ⟨by rfl, ?_⟩) hcl hM ?_
      rotate_left 1
      · intro wx hx; have hq := below_cells hx; have q3 := hq w.heap.size 3 (by omega); have q4 := hq w.heap.size 4 (by omega); have p1 := hq (w.heap.size + 1) 1 (by omega); have p4 := hq (w.heap.size + 1) 4 (by omega); have p5 := hq (w.heap.size + 1) 5 (by omega); have g2 := hq g (k * 3 + 2) (by omega); have qr := hq rb (ro + k) (by omega); have qn := hq nb (no + k) (by omega); clear hq; go_simp <;> with_reducible rfl
      clear hcl hM; intro hcl hM; try simp only [Act.put, List.setIfInBounds_toArray, List.set_cons_zero, List.set_cons_succ]
      refine wpAnyM_take (i := 8) (oi := { dst := some 125, op := Op.binOp BinOp.mul 3 (Operand.tmp 119) (Operand.tmp 124) 3, type := 3, pos := "law.go:100", after := #[{ on := 2, ground := Ground.data }, { on := 7, ground := Ground.data }], guard := none }) (v := ?_) rfl (by kernel_rfl) (by kernel_rfl) (by kernel_rfl) (by kernel_rfl) (fun _ _ _ h => h) (Or.inl ⟨by rfl, ?_⟩) hcl hM ?_
      rotate_left 1
      · intro wx hx; go_simp <;> with_reducible rfl
      clear hcl hM; intro hcl hM; try simp only [Act.put, List.setIfInBounds_toArray, List.set_cons_zero, List.set_cons_succ]
      refine wpAnyM_take (i := 9) (oi := { dst := some 126, op := Op.binOp BinOp.quo 3 (Operand.tmp 125) (Operand.const (Value.int IntKind.i64 1000)) 3, type := 3, pos := "law.go:100", after := #[{ on := 8, ground := Ground.data }], guard := none }) (v := ?_) rfl (by kernel_rfl) (by kernel_rfl) (by kernel_rfl) (by kernel_rfl) (fun _ _ _ h => h) (Or.inl ⟨by rfl, ?_⟩) hcl hM ?_
      rotate_left 1
      · intro wx hx; go_simp <;> with_reducible rfl
      clear hcl hM; intro hcl hM; try simp only [Act.put, List.setIfInBounds_toArray, List.set_cons_zero, List.set_cons_succ]
      refine wpAnyM_take (i := 10) (oi := { dst := some 127, op := Op.binOp BinOp.add 3 (Operand.tmp 117) (Operand.tmp 126) 3, type := 3, pos := "law.go:100", after := #[{ on := 0, ground := Ground.data }, { on := 9, ground := Ground.data }], guard := none }) (v := ?_) rfl (by kernel_rfl) (by kernel_rfl) (by kernel_rfl) (by kernel_rfl) (fun _ _ _ h => h) (Or.inl ⟨by rfl, ?_⟩) hcl hM ?_
      rotate_left 1
      · intro wx hx; go_simp <;> with_reducible rfl
      clear hcl hM; intro hcl hM; try simp only [Act.put, List.setIfInBounds_toArray, List.set_cons_zero, List.set_cons_succ]
      as_aux_lemma =>
      refine wpAnyM_take (i := 11) (oi := { dst := some 128, op := Op.fieldAddr 27 (Operand.tmp 3) 3, type := 0, pos := "law.go:100", after := #[], guard := none }) (v := ?_) rfl (by kernel_rfl) (by kernel_rfl) (by kernel_rfl) (by kernel_rfl) (fun _ _ _ h => h) (Or.inl ⟨by rfl, ?_⟩) hcl hM ?_
      rotate_left 1
      · intro wx hx; go_simp <;> with_reducible rfl
      clear hcl hM; intro hcl hM; try simp only [Act.put, List.setIfInBounds_toArray, List.set_cons_zero, List.set_cons_succ]
      refine wpAnyM_take (i := 12) (oi := { dst := some 129, op := Op.load 3 (Operand.tmp 128), type := 3, pos := "law.go:100", after := #[{ on := 11, ground := Ground.data }], guard := none }) (v := ?_) rfl (by kernel_rfl) (by kernel_rfl) (by kernel_rfl) (by kernel_rfl) (fun _ _ _ h => h) (Or.inl ⟨by rfl, ?_⟩) hcl hM ?_
      rotate_left 1
      · intro wx hx; have hq := below_cells hx; have q3 := hq w.heap.size 3 (by omega); have q4 := hq w.heap.size 4 (by omega); have p1 := hq (w.heap.size + 1) 1 (by omega); have p4 := hq (w.heap.size + 1) 4 (by omega); have p5 := hq (w.heap.size + 1) 5 (by omega); have g2 := hq g (k * 3 + 2) (by omega); have qr := hq rb (ro + k) (by omega); have qn := hq nb (no + k) (by omega); clear hq; go_simp <;> with_reducible rfl
      clear hcl hM; intro hcl hM; try simp only [Act.put, List.setIfInBounds_toArray, List.set_cons_zero, List.set_cons_succ]
      refine wpAnyM_take (i := 13) (oi := { dst := some 130, op := Op.fieldAddr 40 (Operand.tmp 5) 4, type := 0, pos := "law.go:100", after := #[], guard := none }) (v := ?_) rfl (by kernel_rfl) (by kernel_rfl) (by kernel_rfl) (by kernel_rfl) (fun _ _ _ h => h) (Or.inl ⟨by rfl, ?_⟩) hcl hM ?_
      rotate_left 1
      · intro wx hx; go_simp <;> with_reducible rfl
      clear hcl hM; intro hcl hM; try simp only [Act.put, List.setIfInBounds_toArray, List.set_cons_zero, List.set_cons_succ]
      refine wpAnyM_take (i := 14) (oi := { dst := some 131, op := Op.load 24 (Operand.tmp 130), type := 24, pos := "law.go:100", after := #[{ on := 13, ground := Ground.data }], guard := none }) (v := ?_) rfl (by kernel_rfl) (by kernel_rfl) (by kernel_rfl) (by kernel_rfl) (fun _ _ _ h => h) (Or.inl ⟨by rfl, ?_⟩) hcl hM ?_
      rotate_left 1
      · intro wx hx; have hq := below_cells hx; have q3 := hq w.heap.size 3 (by omega); have q4 := hq w.heap.size 4 (by omega); have p1 := hq (w.heap.size + 1) 1 (by omega); have p4 := hq (w.heap.size + 1) 4 (by omega); have p5 := hq (w.heap.size + 1) 5 (by omega); have g2 := hq g (k * 3 + 2) (by omega); have qr := hq rb (ro + k) (by omega); have qn := hq nb (no + k) (by omega); clear hq; go_simp <;> with_reducible rfl
      clear hcl hM; intro hcl hM; try simp only [Act.put, List.setIfInBounds_toArray, List.set_cons_zero, List.set_cons_succ]
      refine wpAnyM_take (i := 15) (oi := { dst := some 132, op := Op.move (Operand.tmp 13), type := 3, pos := "law.go:100", after := #[], guard := none }) (v := ?_) rfl (by kernel_rfl) (by kernel_rfl) (by kernel_rfl) (by kernel_rfl) (fun _ _ _ h => h) (Or.inl ⟨by rfl, ?_⟩) hcl hM ?_
      rotate_left 1
      · intro wx hx; go_simp <;> with_reducible rfl
      clear hcl hM; intro hcl hM; try simp only [Act.put, List.setIfInBounds_toArray, List.set_cons_zero, List.set_cons_succ]
      refine wpAnyM_take (i := 16) (oi := { dst := some 133, op := Op.indexAddr 24 (Operand.tmp 131) (Operand.tmp 132), type := 0, pos := "law.go:100", after := #[{ on := 14, ground := Ground.data }, { on := 15, ground := Ground.data }], guard := none }) (v := ?_) rfl (by kernel_rfl) (by kernel_rfl) (by kernel_rfl) (by kernel_rfl) (fun _ _ _ h => h) (Or.inl ⟨by rfl, ?_⟩) hcl hM ?_
      rotate_left 1
      · intro wx hx; go_simp <;> with_reducible rfl
      clear hcl hM; intro hcl hM; try simp only [Act.put, List.setIfInBounds_toArray, List.set_cons_zero, List.set_cons_succ]
      as_aux_lemma =>
      refine wpAnyM_take (i := 17) (oi := { dst := some 134, op := Op.load 3 (Operand.tmp 133), type := 3, pos := "law.go:100", after := #[{ on := 16, ground := Ground.data }], guard := none }) (v := ?_) rfl (by kernel_rfl) (by kernel_rfl) (by kernel_rfl) (by kernel_rfl) (fun _ _ _ h => h) (Or.inl ⟨by rfl, ?_⟩) hcl hM ?_
      rotate_left 1
      · intro wx hx; have hq := below_cells hx; have q3 := hq w.heap.size 3 (by omega); have q4 := hq w.heap.size 4 (by omega); have p1 := hq (w.heap.size + 1) 1 (by omega); have p4 := hq (w.heap.size + 1) 4 (by omega); have p5 := hq (w.heap.size + 1) 5 (by omega); have g2 := hq g (k * 3 + 2) (by omega); have qr := hq rb (ro + k) (by omega); have qn := hq nb (no + k) (by omega); clear hq; go_simp <;> with_reducible rfl
      clear hcl hM; intro hcl hM; try simp only [Act.put, List.setIfInBounds_toArray, List.set_cons_zero, List.set_cons_succ]
      refine wpAnyM_take (i := 18) (oi := { dst := some 135, op := Op.binOp BinOp.mul 3 (Operand.tmp 129) (Operand.tmp 134) 3, type := 3, pos := "law.go:100", after := #[{ on := 12, ground := Ground.data }, { on := 17, ground := Ground.data }], guard := none }) (v := ?_) rfl (by kernel_rfl) (by kernel_rfl) (by kernel_rfl) (by kernel_rfl) (fun _ _ _ h => h) (Or.inl ⟨by rfl, ?_⟩) hcl hM ?_
      rotate_left 1
      · intro wx hx; go_simp <;> with_reducible rfl
      clear hcl hM; intro hcl hM; try simp only [Act.put, List.setIfInBounds_toArray, List.set_cons_zero, List.set_cons_succ]
      refine wpAnyM_take (i := 19) (oi := { dst := some 136, op := Op.fieldAddr 40 (Operand.tmp 5) 1, type := 0, pos := "law.go:100", after := #[], guard := none }) (v := ?_) rfl (by kernel_rfl) (by kernel_rfl) (by kernel_rfl) (by kernel_rfl) (fun _ _ _ h => h) (Or.inl ⟨by rfl, ?_⟩) hcl hM ?_
      rotate_left 1
      · intro wx hx; go_simp <;> with_reducible rfl
      clear hcl hM; intro hcl hM; try simp only [Act.put, List.setIfInBounds_toArray, List.set_cons_zero, List.set_cons_succ]
      refine wpAnyM_take (i := 20) (oi := { dst := some 137, op := Op.load 3 (Operand.tmp 136), type := 3, pos := "law.go:100", after := #[{ on := 19, ground := Ground.data }], guard := none }) (v := ?_) rfl (by kernel_rfl) (by kernel_rfl) (by kernel_rfl) (by kernel_rfl) (fun _ _ _ h => h) (Or.inl ⟨by rfl, ?_⟩) hcl hM ?_
      rotate_left 1
      · intro wx hx; have hq := below_cells hx; have q3 := hq w.heap.size 3 (by omega); have q4 := hq w.heap.size 4 (by omega); have p1 := hq (w.heap.size + 1) 1 (by omega); have p4 := hq (w.heap.size + 1) 4 (by omega); have p5 := hq (w.heap.size + 1) 5 (by omega); have g2 := hq g (k * 3 + 2) (by omega); have qr := hq rb (ro + k) (by omega); have qn := hq nb (no + k) (by omega); clear hq; go_simp <;> with_reducible rfl
      clear hcl hM; intro hcl hM; try simp only [Act.put, List.setIfInBounds_toArray, List.set_cons_zero, List.set_cons_succ]
      refine wpAnyM_take (i := 21) (oi := { dst := some 138, op := Op.binOp BinOp.mul 3 (Operand.tmp 135) (Operand.tmp 137) 3, type := 3, pos := "law.go:100", after := #[{ on := 18, ground := Ground.data }, { on := 20, ground := Ground.data }], guard := none }) (v := ?_) rfl (by kernel_rfl) (by kernel_rfl) (by kernel_rfl) (by kernel_rfl) (fun _ _ _ h => h) (Or.inl ⟨by rfl, ?_⟩) hcl hM ?_
      rotate_left 1
      · intro wx hx; go_simp <;> with_reducible rfl
      clear hcl hM; intro hcl hM; try simp only [Act.put, List.setIfInBounds_toArray, List.set_cons_zero, List.set_cons_succ]
      refine wpAnyM_take (i := 22) (oi := { dst := some 139, op := Op.binOp BinOp.quo 3 (Operand.tmp 138) (Operand.const (Value.int IntKind.i64 1000000)) 3, type := 3, pos := "law.go:100", after := #[{ on := 21, ground := Ground.data }], guard := none }) (v := ?_) rfl (by kernel_rfl) (by kernel_rfl) (by kernel_rfl) (by kernel_rfl) (fun _ _ _ h => h) (Or.inl ⟨by rfl, ?_⟩) hcl hM ?_
      rotate_left 1
      · intro wx hx; go_simp <;> with_reducible rfl
      clear hcl hM; intro hcl hM; try simp only [Act.put, List.setIfInBounds_toArray, List.set_cons_zero, List.set_cons_succ]
      as_aux_lemma =>
      refine wpAnyM_take (i := 23) (oi := { dst := some 140, op := Op.binOp BinOp.add 3 (Operand.tmp 127) (Operand.tmp 139) 3, type := 3, pos := "law.go:100", after := #[{ on := 10, ground := Ground.data }, { on := 22, ground := Ground.data }], guard := none }) (v := ?_) rfl (by kernel_rfl) (by kernel_rfl) (by kernel_rfl) (by kernel_rfl) (fun _ _ _ h => h) (Or.inl ⟨by rfl, ?_⟩) hcl hM ?_
      rotate_left 1
      · intro wx hx; go_simp <;> with_reducible rfl
      clear hcl hM; intro hcl hM; try simp only [Act.put, List.setIfInBounds_toArray, List.set_cons_zero, List.set_cons_succ]
      refine wpAnyM_take (i := 24) (oi := { dst := some 141, op := Op.move (Operand.tmp 11), type := 3, pos := "law.go:100", after := #[{ on := 38, ground := Ground.gcOnly Departure.lateStores }], guard := none }) (v := ?_) rfl (by kernel_rfl) (by kernel_rfl) (by kernel_rfl) (by kernel_rfl) (fun _ _ _ h => h) (Or.inl ⟨by rfl, ?_⟩) hcl hM ?_
      rotate_left 1
      · intro wx hx; go_simp <;> with_reducible rfl
      clear hcl hM; intro hcl hM; try simp only [Act.put, List.setIfInBounds_toArray, List.set_cons_zero, List.set_cons_succ]
      refine wpAnyM_take (i := 25) (oi := { dst := some 142, op := Op.fieldAddr 40 (Operand.tmp 5) 5, type := 0, pos := "law.go:100", after := #[{ on := 38, ground := Ground.gcOnly Departure.lateStores }], guard := none }) (v := ?_) rfl (by kernel_rfl) (by kernel_rfl) (by kernel_rfl) (by kernel_rfl) (fun _ _ _ h => h) (Or.inl ⟨by rfl, ?_⟩) hcl hM ?_
      rotate_left 1
      · intro wx hx; go_simp <;> with_reducible rfl
      clear hcl hM; intro hcl hM; try simp only [Act.put, List.setIfInBounds_toArray, List.set_cons_zero, List.set_cons_succ]
      refine wpAnyM_take (i := 26) (oi := { dst := some 143, op := Op.load 24 (Operand.tmp 142), type := 24, pos := "law.go:100", after := #[{ on := 25, ground := Ground.data }, { on := 38, ground := Ground.gcOnly Departure.lateStores }], guard := none }) (v := ?_) rfl (by kernel_rfl) (by kernel_rfl) (by kernel_rfl) (by kernel_rfl) (fun _ _ _ h => h) (Or.inl ⟨by rfl, ?_⟩) hcl hM ?_
      rotate_left 1
      · intro wx hx; have hq := below_cells hx; have q3 := hq w.heap.size 3 (by omega); have q4 := hq w.heap.size 4 (by omega); have p1 := hq (w.heap.size + 1) 1 (by omega); have p4 := hq (w.heap.size + 1) 4 (by omega); have p5 := hq (w.heap.size + 1) 5 (by omega); have g2 := hq g (k * 3 + 2) (by omega); have qr := hq rb (ro + k) (by omega); have qn := hq nb (no + k) (by omega); clear hq; go_simp <;> with_reducible rfl
      clear hcl hM; intro hcl hM; try simp only [Act.put, List.setIfInBounds_toArray, List.set_cons_zero, List.set_cons_succ]
      refine wpAnyM_take (i := 27) (oi := { dst := some 144, op := Op.move (Operand.tmp 13), type := 3, pos := "law.go:100", after := #[{ on := 38, ground := Ground.gcOnly Departure.lateStores }], guard := none }) (v := ?_) rfl (by kernel_rfl) (by kernel_rfl) (by kernel_rfl) (by kernel_rfl) (fun _ _ _ h => h) (Or.inl ⟨by rfl, ?_⟩) hcl hM ?_
      rotate_left 1
      · intro wx hx; go_simp <;> with_reducible rfl
      clear hcl hM; intro hcl hM; try simp only [Act.put, List.setIfInBounds_toArray, List.set_cons_zero, List.set_cons_succ]
      refine wpAnyM_take (i := 28) (oi := { dst := some 145, op := Op.indexAddr 24 (Operand.tmp 143) (Operand.tmp 144), type := 0, pos := "law.go:100", after := #[{ on := 26, ground := Ground.data }, { on := 27, ground := Ground.data }, { on := 38, ground := Ground.gcOnly Departure.lateStores }], guard := none }) (v := ?_) rfl (by kernel_rfl) (by kernel_rfl) (by kernel_rfl) (by kernel_rfl) (fun _ _ _ h => h) (Or.inl ⟨by rfl, ?_⟩) hcl hM ?_
      rotate_left 1
      · intro wx hx; go_simp <;> with_reducible rfl
      clear hcl hM; intro hcl hM; try simp only [Act.put, List.setIfInBounds_toArray, List.set_cons_zero, List.set_cons_succ]
      as_aux_lemma =>
      refine wpAnyM_take (i := 29) (oi := { dst := some 146, op := Op.load 3 (Operand.tmp 145), type := 3, pos := "law.go:100", after := #[{ on := 28, ground := Ground.data }, { on := 38, ground := Ground.gcOnly Departure.lateStores }], guard := none }) (v := ?_) rfl (by kernel_rfl) (by kernel_rfl) (by kernel_rfl) (by kernel_rfl) (fun _ _ _ h => h) (Or.inl ⟨by rfl, ?_⟩) hcl hM ?_
      rotate_left 1
      · intro wx hx; have hq := below_cells hx; have q3 := hq w.heap.size 3 (by omega); have q4 := hq w.heap.size 4 (by omega); have p1 := hq (w.heap.size + 1) 1 (by omega); have p4 := hq (w.heap.size + 1) 4 (by omega); have p5 := hq (w.heap.size + 1) 5 (by omega); have g2 := hq g (k * 3 + 2) (by omega); have qr := hq rb (ro + k) (by omega); have qn := hq nb (no + k) (by omega); clear hq; go_simp <;> with_reducible rfl
      clear hcl hM; intro hcl hM; try simp only [Act.put, List.setIfInBounds_toArray, List.set_cons_zero, List.set_cons_succ]
      refine wpAnyM_take (i := 30) (oi := { dst := some 147, op := Op.binOp BinOp.add 3 (Operand.tmp 141) (Operand.tmp 146) 3, type := 3, pos := "law.go:100", after := #[{ on := 24, ground := Ground.data }, { on := 29, ground := Ground.data }, { on := 38, ground := Ground.gcOnly Departure.lateStores }], guard := none }) (v := ?_) rfl (by kernel_rfl) (by kernel_rfl) (by kernel_rfl) (by kernel_rfl) (fun _ _ _ h => h) (Or.inl ⟨by rfl, ?_⟩) hcl hM ?_
      rotate_left 1
      · intro wx hx; go_simp <;> with_reducible rfl
      clear hcl hM; intro hcl hM; try simp only [Act.put, List.setIfInBounds_toArray, List.set_cons_zero, List.set_cons_succ]
      refine wpAnyM_take (i := 31) (oi := { dst := some 148, op := Op.move (Operand.tmp 12), type := 3, pos := "law.go:100", after := #[{ on := 39, ground := Ground.gcOnly Departure.lateStores }], guard := none }) (v := ?_) rfl (by kernel_rfl) (by kernel_rfl) (by kernel_rfl) (by kernel_rfl) (fun _ _ _ h => h) (Or.inl ⟨by rfl, ?_⟩) hcl hM ?_
      rotate_left 1
      · intro wx hx; go_simp <;> with_reducible rfl
      clear hcl hM; intro hcl hM; try simp only [Act.put, List.setIfInBounds_toArray, List.set_cons_zero, List.set_cons_succ]
      refine wpAnyM_take (i := 32) (oi := { dst := some 149, op := Op.move (Operand.tmp 7), type := 42, pos := "law.go:100", after := #[{ on := 39, ground := Ground.gcOnly Departure.lateStores }], guard := none }) (v := ?_) rfl (by kernel_rfl) (by kernel_rfl) (by kernel_rfl) (by kernel_rfl) (fun _ _ _ h => h) (Or.inl ⟨by rfl, ?_⟩) hcl hM ?_
      rotate_left 1
      · intro wx hx; go_simp <;> with_reducible rfl
      clear hcl hM; intro hcl hM; try simp only [Act.put, List.setIfInBounds_toArray, List.set_cons_zero, List.set_cons_succ]
      refine wpAnyM_take (i := 33) (oi := { dst := some 150, op := Op.move (Operand.tmp 13), type := 3, pos := "law.go:100", after := #[{ on := 39, ground := Ground.gcOnly Departure.lateStores }], guard := none }) (v := ?_) rfl (by kernel_rfl) (by kernel_rfl) (by kernel_rfl) (by kernel_rfl) (fun _ _ _ h => h) (Or.inl ⟨by rfl, ?_⟩) hcl hM ?_
      rotate_left 1
      · intro wx hx; go_simp <;> with_reducible rfl
      clear hcl hM; intro hcl hM; try simp only [Act.put, List.setIfInBounds_toArray, List.set_cons_zero, List.set_cons_succ]
      refine wpAnyM_take (i := 34) (oi := { dst := some 151, op := Op.indexAddr 42 (Operand.tmp 149) (Operand.tmp 150), type := 0, pos := "law.go:100", after := #[{ on := 32, ground := Ground.data }, { on := 33, ground := Ground.data }, { on := 39, ground := Ground.gcOnly Departure.lateStores }], guard := none }) (v := ?_) rfl (by kernel_rfl) (by kernel_rfl) (by kernel_rfl) (by kernel_rfl) (fun _ _ _ h => h) (Or.inl ⟨by rfl, ?_⟩) hcl hM ?_
      rotate_left 1
      · intro wx hx; go_simp <;> with_reducible rfl
      clear hcl hM; intro hcl hM; try simp only [Act.put, List.setIfInBounds_toArray, List.set_cons_zero, List.set_cons_succ]
      as_aux_lemma =>
      refine wpAnyM_take (i := 35) (oi := { dst := some 152, op := Op.fieldAddr 53 (Operand.tmp 151) 2, type := 0, pos := "law.go:100", after := #[{ on := 34, ground := Ground.data }, { on := 39, ground := Ground.gcOnly Departure.lateStores }], guard := none }) (v := ?_) rfl (by kernel_rfl) (by kernel_rfl) (by kernel_rfl) (by kernel_rfl) (fun _ _ _ h => h) (Or.inl ⟨by rfl, ?_⟩) hcl hM ?_
      rotate_left 1
      · intro wx hx; go_simp <;> with_reducible rfl
      clear hcl hM; intro hcl hM; try simp only [Act.put, List.setIfInBounds_toArray, List.set_cons_zero, List.set_cons_succ]
      refine wpAnyM_take (i := 36) (oi := { dst := some 153, op := Op.load 3 (Operand.tmp 152), type := 3, pos := "law.go:100", after := #[{ on := 35, ground := Ground.data }, { on := 39, ground := Ground.gcOnly Departure.lateStores }], guard := none }) (v := ?_) rfl (by kernel_rfl) (by kernel_rfl) (by kernel_rfl) (by kernel_rfl) (fun _ _ _ h => h) (Or.inl ⟨by rfl, ?_⟩) hcl hM ?_
      rotate_left 1
      · intro wx hx; have hq := below_cells hx; have q3 := hq w.heap.size 3 (by omega); have q4 := hq w.heap.size 4 (by omega); have p1 := hq (w.heap.size + 1) 1 (by omega); have p4 := hq (w.heap.size + 1) 4 (by omega); have p5 := hq (w.heap.size + 1) 5 (by omega); have g2 := hq g (k * 3 + 2) (by omega); have qr := hq rb (ro + k) (by omega); have qn := hq nb (no + k) (by omega); clear hq; go_simp <;> with_reducible rfl
      clear hcl hM; intro hcl hM; try simp only [Act.put, List.setIfInBounds_toArray, List.set_cons_zero, List.set_cons_succ]
      refine wpAnyM_take (i := 37) (oi := { dst := some 154, op := Op.binOp BinOp.add 3 (Operand.tmp 148) (Operand.tmp 153) 3, type := 3, pos := "law.go:100", after := #[{ on := 31, ground := Ground.data }, { on := 36, ground := Ground.data }, { on := 39, ground := Ground.gcOnly Departure.lateStores }], guard := none }) (v := ?_) rfl (by kernel_rfl) (by kernel_rfl) (by kernel_rfl) (by kernel_rfl) (fun _ _ _ h => h) (Or.inl ⟨by rfl, ?_⟩) hcl hM ?_
      rotate_left 1
      · intro wx hx; go_simp <;> with_reducible rfl
      clear hcl hM; intro hcl hM; try simp only [Act.put, List.setIfInBounds_toArray, List.set_cons_zero, List.set_cons_succ]
      refine wpAnyM_take (i := 38) (oi := { dst := some 10, op := Op.assign (Operand.tmp 140), type := 3, pos := "law.go:100", after := #[{ on := 23, ground := Ground.data }, { on := 0, ground := Ground.phase }, { on := 1, ground := Ground.phase }, { on := 2, ground := Ground.phase }, { on := 3, ground := Ground.phase }, { on := 4, ground := Ground.phase }, { on := 5, ground := Ground.phase }, { on := 6, ground := Ground.phase }, { on := 7, ground := Ground.phase }, { on := 8, ground := Ground.phase }, { on := 9, ground := Ground.phase }, { on := 10, ground := Ground.phase }, { on := 11, ground := Ground.phase }, { on := 12, ground := Ground.phase }, { on := 13, ground := Ground.phase }, { on := 14, ground := Ground.phase }, { on := 15, ground := Ground.phase }, { on := 16, ground := Ground.phase }, { on := 17, ground := Ground.phase }, { on := 18, ground := Ground.phase }, { on := 19, ground := Ground.phase }, { on := 20, ground := Ground.phase }, { on := 21, ground := Ground.phase }, { on := 22, ground := Ground.phase }, { on := 23, ground := Ground.phase }, { on := 24, ground := Ground.textOnly Departure.lateStores }, { on := 25, ground := Ground.textOnly Departure.lateStores }, { on := 26, ground := Ground.textOnly Departure.lateStores }, { on := 27, ground := Ground.textOnly Departure.lateStores }, { on := 28, ground := Ground.textOnly Departure.lateStores }, { on := 29, ground := Ground.textOnly Departure.lateStores }, { on := 30, ground := Ground.textOnly Departure.lateStores }, { on := 31, ground := Ground.textOnly Departure.lateStores }, { on := 32, ground := Ground.textOnly Departure.lateStores }, { on := 33, ground := Ground.textOnly Departure.lateStores }, { on := 34, ground := Ground.textOnly Departure.lateStores }, { on := 35, ground := Ground.textOnly Departure.lateStores }, { on := 36, ground := Ground.textOnly Departure.lateStores }, { on := 37, ground := Ground.textOnly Departure.lateStores }], guard := none }) (v := ?_) rfl (by kernel_rfl) (by kernel_rfl) (by kernel_rfl) (by kernel_rfl) (fun _ _ _ h => h) (Or.inl ⟨by rfl, ?_⟩) hcl hM ?_
      rotate_left 1
      · intro wx hx; go_simp <;> with_reducible rfl
      clear hcl hM; intro hcl hM; try simp only [Act.put, List.setIfInBounds_toArray, List.set_cons_zero, List.set_cons_succ]
      refine wpAnyM_take (i := 39) (oi := { dst := some 11, op := Op.assign (Operand.tmp 147), type := 3, pos := "law.go:100", after := #[{ on := 30, ground := Ground.data }, { on := 38, ground := Ground.chain }, { on := 0, ground := Ground.phase }, { on := 1, ground := Ground.phase }, { on := 2, ground := Ground.phase }, { on := 3, ground := Ground.phase }, { on := 4, ground := Ground.phase }, { on := 5, ground := Ground.phase }, { on := 6, ground := Ground.phase }, { on := 7, ground := Ground.phase }, { on := 8, ground := Ground.phase }, { on := 9, ground := Ground.phase }, { on := 10, ground := Ground.phase }, { on := 11, ground := Ground.phase }, { on := 12, ground := Ground.phase }, { on := 13, ground := Ground.phase }, { on := 14, ground := Ground.phase }, { on := 15, ground := Ground.phase }, { on := 16, ground := Ground.phase }, { on := 17, ground := Ground.phase }, { on := 18, ground := Ground.phase }, { on := 19, ground := Ground.phase }, { on := 20, ground := Ground.phase }, { on := 21, ground := Ground.phase }, { on := 22, ground := Ground.phase }, { on := 23, ground := Ground.phase }, { on := 24, ground := Ground.phase }, { on := 25, ground := Ground.phase }, { on := 26, ground := Ground.phase }, { on := 27, ground := Ground.phase }, { on := 28, ground := Ground.phase }, { on := 29, ground := Ground.phase }, { on := 30, ground := Ground.phase }, { on := 31, ground := Ground.textOnly Departure.lateStores }, { on := 32, ground := Ground.textOnly Departure.lateStores }, { on := 33, ground := Ground.textOnly Departure.lateStores }, { on := 34, ground := Ground.textOnly Departure.lateStores }, { on := 35, ground := Ground.textOnly Departure.lateStores }, { on := 36, ground := Ground.textOnly Departure.lateStores }, { on := 37, ground := Ground.textOnly Departure.lateStores }, { on := 38, ground := Ground.phase }], guard := none }) (v := ?_) rfl (by kernel_rfl) (by kernel_rfl) (by kernel_rfl) (by kernel_rfl) (fun _ _ _ h => h) (Or.inl ⟨by rfl, ?_⟩) hcl hM ?_
      rotate_left 1
      · intro wx hx; go_simp <;> with_reducible rfl
      clear hcl hM; intro hcl hM; try simp only [Act.put, List.setIfInBounds_toArray, List.set_cons_zero, List.set_cons_succ]
      refine wpAnyM_take (i := 40) (oi := { dst := some 12, op := Op.assign (Operand.tmp 154), type := 3, pos := "law.go:100", after := #[{ on := 37, ground := Ground.data }, { on := 39, ground := Ground.chain }, { on := 0, ground := Ground.phase }, { on := 1, ground := Ground.phase }, { on := 2, ground := Ground.phase }, { on := 3, ground := Ground.phase }, { on := 4, ground := Ground.phase }, { on := 5, ground := Ground.phase }, { on := 6, ground := Ground.phase }, { on := 7, ground := Ground.phase }, { on := 8, ground := Ground.phase }, { on := 9, ground := Ground.phase }, { on := 10, ground := Ground.phase }, { on := 11, ground := Ground.phase }, { on := 12, ground := Ground.phase }, { on := 13, ground := Ground.phase }, { on := 14, ground := Ground.phase }, { on := 15, ground := Ground.phase }, { on := 16, ground := Ground.phase }, { on := 17, ground := Ground.phase }, { on := 18, ground := Ground.phase }, { on := 19, ground := Ground.phase }, { on := 20, ground := Ground.phase }, { on := 21, ground := Ground.phase }, { on := 22, ground := Ground.phase }, { on := 23, ground := Ground.phase }, { on := 24, ground := Ground.phase }, { on := 25, ground := Ground.phase }, { on := 26, ground := Ground.phase }, { on := 27, ground := Ground.phase }, { on := 28, ground := Ground.phase }, { on := 29, ground := Ground.phase }, { on := 30, ground := Ground.phase }, { on := 31, ground := Ground.phase }, { on := 32, ground := Ground.phase }, { on := 33, ground := Ground.phase }, { on := 34, ground := Ground.phase }, { on := 35, ground := Ground.phase }, { on := 36, ground := Ground.phase }, { on := 37, ground := Ground.phase }, { on := 38, ground := Ground.phase }, { on := 39, ground := Ground.phase }], guard := none }) (v := ?_) rfl (by kernel_rfl) (by kernel_rfl) (by kernel_rfl) (by kernel_rfl) (fun _ _ _ h => h) (Or.inl ⟨by rfl, ?_⟩) hcl hM ?_
      rotate_left 1
      · intro wx hx; go_simp <;> with_reducible rfl
      clear hcl hM; intro hcl hM; try simp only [Act.put, List.setIfInBounds_toArray, List.set_cons_zero, List.set_cons_succ]
      as_aux_lemma =>
      refine wpAnyM_done (by kernel_rfl) ?_ _
      have hEnd := hM.1; clear hcl hM
      as_aux_lemma =>
      go_wp2_with fail
      go_roundw
      case rel => exact ⟨k + 1, by omega, by go_num, rfl, rfl, rfl, (HBr.out.trans hEnd1.out).trans hEnd⟩
      case measure => simp [intOf]; omega
    · as_aux_lemma =>
      have e13 := cellOf (k := 13) (v := .slice ma i.nm mc) hI1 rfl
      have e11 := cellOf (k := 11) (v := .int .i64 i.size) hI1 rfl
      have f0 := cellOf (k := 0) (v := .int .i64 t.start) hT1 rfl
      have hL1 : wo.heap[w2.heap.size]? = some (.cells #[.int .i64 (i.size * tanks + t.start), .int .i64 (runTo i tanks t i.nm).rain, .int .i64 (runTo i tanks t i.nm).used, .int .i64 (runTo i tanks t i.nm).leak, .int .i64 (runTo i tanks t i.nm).sea, .int .i64 ((runTo i tanks t i.nm).tanks + (runTo i tanks t i.nm).lens)] 44 (0, 0)) := (hBr.block _ (by omega)).trans (by rw [HV]; exact newOf _ rfl)
      have l0 := cellOf (k := 0) (v := .int .i64 (i.size * tanks + t.start)) hL1 rfl
      have l1 := cellOf (k := 1) (v := .int .i64 (runTo i tanks t i.nm).rain) hL1 rfl
      have l2 := cellOf (k := 2) (v := .int .i64 (runTo i tanks t i.nm).used) hL1 rfl
      have l3 := cellOf (k := 3) (v := .int .i64 (runTo i tanks t i.nm).leak) hL1 rfl
      have l4 := cellOf (k := 4) (v := .int .i64 (runTo i tanks t i.nm).sea) hL1 rfl
      have l5 := cellOf (k := 5) (v := .int .i64 ((runTo i tanks t i.nm).tanks + (runTo i tanks t i.nm).lens)) hL1 rfl
      clear hL1 hI1 hT1 hBr HB2 hBw
      have hlw0 : w.heap.size < wo.heap.size := by omega
      have hlw1 : w.heap.size + 1 < wo.heap.size := by omega
      have hlw2 : w2.heap.size < wo.heap.size := by omega
      obtain rfl : k = i.nm := by omega
      obtain ⟨m, hm⟩ : ∃ m, i.nm = m + 1 := ⟨i.nm - 1, by omega⟩
      obtain ⟨gb, go, hge, hgl, c0, c1, c2⟩ := seensGet (HSeen.out.below hB2o (Nat.le_refl _)) (by omega : m < i.nm)
      cases hge
      simp only [seenOf, Nat.zero_add, ← hm] at c0 c1 c2
      have hix : ((i.nm : Int) - 1).toNat = m := by omega
      have hU := used_eq i tanks t i.nm
      have hC := run_cons i tanks t i.nm
      obtain ⟨F0, F1⟩ := full_le hfit
      obtain ⟨t0, t1, s0, s1, -, -, r0, r1, u0, u1, g0, g1, v0, v1⟩ := runTo_ok hfit (k := i.nm) (Nat.le_refl _)
      have hcomm : tanks * i.size = i.size * tanks := Int.mul_comm _ _
      have st0 := hfit.start0
      have st1 := hfit.start1
      have cp1 := hfit.cap1
      have N := needSum_le hfit (k := i.nm) (Nat.le_refl _)
      have Lk := lackSum_le hfit (k := i.nm) (Nat.le_refl _)
      generalize runTo i tanks t i.nm = S at *
      generalize needSum t i.nm = NS at *
      generalize lackSum i tanks t i.nm = LS at *
      obtain ⟨S1, S2, S3, S4, S5, S6, S7⟩ := S
      simp only at *
      as_aux_lemma =>
      go_wp2_with fail
      as_aux_lemma =>
      have hbw := fun X => b_alloc (o := X) hBw0 (by omega)
      refine (calls_from (B := w.heap.size) (CE.known_true (pow10_below HP.out (hbw _))) (hbw _) (by simp; omega)).mono ?_
      rintro e' w' ⟨rfl, hb3, hz3, hc3⟩
      go_wp2
      go_ret
      exact ⟨rfl, hb3⟩
end Go.Proofs.YtffdidleebognaaGreatDoor
