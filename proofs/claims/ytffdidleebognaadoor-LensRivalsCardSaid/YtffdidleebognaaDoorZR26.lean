/- Contract of follow. -/
import Derived.WalkSpells
import Derived.Deep.WholeRow
import Derived.Laws.EntriesVeiled
import Derived.Test.YtffdidleebognaaDoorZR24
import Derived.Test.YtffdidleebognaaDoorZR25
import Derived.Test.YtffdidleebognaaDoorZR11
namespace Go.Proofs.YtffdidleebognaaDoor
open Go Go.RowKit Lens
def fArr (i : Isl) (wa : Option Addr) (wc : Nat) (ma : Option Addr) (mc : Nat) (t : Tru) (da : Option Addr) (dc : Nat) (ra : Option Addr) (rc : Nat) (na : Option Addr) (nc : Nat) (full month tanks lens lack l0 l1 l2 l3 l4 l5 : Int) : Array Value :=
  #[.int .i64 i.cap, .int .i64 i.sl, .int .i64 i.sh, .int .i64 i.roof, .int .i64 i.sand, .int .i64 i.kl, .int .i64 i.kh, .int .i64 i.ll, .int .i64 i.lh, .int .i64 i.pump, .int .i64 i.keep, .int .i64 i.size,
    .slice wa i.nw wc, .slice ma i.nm mc, .int .i64 i.most, .int .i64 i.row, .int .i64 t.start, .int .i64 t.soak, .int .i64 t.leak, .slice da t.nd dc, .slice ra t.nr rc, .slice na t.nn nc,
    .int .i64 full, .int .i64 month, .int .i64 tanks, .int .i64 lens, .int .i64 lack, .int .i64 l0, .int .i64 l1, .int .i64 l2, .int .i64 l3, .int .i64 l4, .int .i64 l5]
theorem Tryd.info53 : (Tryd.prog.info? 59).map (fun i => (i.zero, i.size, i.bytes)) = some (some (.agg #[.int .i64 0, .int .i64 0, .int .i64 0]), 3, 24) := by kernel_rfl
theorem wpList_store_new {P : Program} {ops : Array Oper} {Q : Exit → Act → World → Prop} {a : Act} {W : World} {rest : List Oper} {o : Oper} {c c' : Array Value} {t : TypeId} (hg : o.guard = none) (x y : Operand) (ho : o.op = .store t x y)
    (n : Nat) (hn : n = W.heap.size) (hx : a.eval x = .pointer (some ⟨n, 0, none⟩)) (hy : a.eval y = .agg c') (hi : (P.info? t).map (·.size) = some c'.size) (hs : c.size = c'.size) (h1 : c'.all (·.oneCell') = true)
    (h : wpList P ops Q rest (a.put o.dst undef) (W.alloc (.cells c' t))) : wpList P ops Q (o :: rest) a (W.alloc (.cells c t)) := by
  unfold wpList
  rw [if_pos (by simp [Region.wanted, hg])]
  refine .inl ?_
  unfold Oper.wp
  have hr := run_storeAt_new (P := P) W t c c' hi hs h1
  rw [← hn] at hr
  simp only [execOp, ho, hx, hy, Sem.run_bind, hr, Sem.run_pure, Result.andThen_ok]
  exact h
theorem below_made {B : Nat} {w w1 w6 : World} (h : Below B w w1) (hg : w1.grownBy w6 none) (hB : B ≤ w1.heap.size) : Below B w w6 := h.grown hg hB (fun _ e => by cases e)
theorem made_block {w : World} {base e size n g : Nat} {xs : List Value} (h : w.ownsRow base e size (.slice (some ⟨g, 0, none⟩) n n) n xs) : ∃ cur, w.heap[g]? = some (.cells cur e (0, 0)) ∧ cur.size = n * size := by
  rcases h.2 with ⟨h', _⟩ | ⟨g', cap', cur, h', _, hg, _, _, hcs, _⟩
  · simp at h'
  · simp only [Value.slice.injEq, Option.some.injEq, Addr.mk.injEq, and_true, true_and] at h'
    obtain ⟨rfl, rfl⟩ := h'
    exact ⟨cur, hg, hcs⟩
theorem fArr_month (i : Isl) (wa : Option Addr) (wc : Nat) (ma : Option Addr) (mc : Nat) (t : Tru) (da : Option Addr) (dc : Nat) (ra : Option Addr) (rc : Nat) (na : Option Addr) (nc : Nat) (full m m' a b c l0 l1 l2 l3 l4 l5 : Int) : (fArr i wa wc ma mc t da dc ra rc na nc full m a b c l0 l1 l2 l3 l4 l5).setIfInBounds 23 (.int .i64 m') = fArr i wa wc ma mc t da dc ra rc na nc full m' a b c l0 l1 l2 l3 l4 l5 := rfl
theorem fArr_rain (i : Isl) (wa : Option Addr) (wc : Nat) (ma : Option Addr) (mc : Nat) (t : Tru) (da : Option Addr) (dc : Nat) (ra : Option Addr) (rc : Nat) (na : Option Addr) (nc : Nat) (full m a b c l0 l1 l2 l3 l4 l5 p q x p' q' y : Int) : ((((((fArr i wa wc ma mc t da dc ra rc na nc full m a b c l0 l1 l2 l3 l4 l5).setIfInBounds 28 (.int .i64 p)).setIfInBounds 31 (.int .i64 q)).setIfInBounds 24 (.int .i64 x)).setIfInBounds 28 (.int .i64 p')).setIfInBounds 31 (.int .i64 q')).setIfInBounds 25 (.int .i64 y) = fArr i wa wc ma mc t da dc ra rc na nc full m x y c l0 p' l2 l3 q' l5 := rfl
theorem fArr_leak (i : Isl) (wa : Option Addr) (wc : Nat) (ma : Option Addr) (mc : Nat) (t : Tru) (da : Option Addr) (dc : Nat) (ra : Option Addr) (rc : Nat) (na : Option Addr) (nc : Nat) (full m a b c l0 l1 l2 l3 l4 l5 x y : Int) : ((fArr i wa wc ma mc t da dc ra rc na nc full m a b c l0 l1 l2 l3 l4 l5).setIfInBounds 25 (.int .i64 x)).setIfInBounds 30 (.int .i64 y) = fArr i wa wc ma mc t da dc ra rc na nc full m a x c l0 l1 l2 y l4 l5 := rfl
theorem fArr_supply (i : Isl) (wa : Option Addr) (wc : Nat) (ma : Option Addr) (mc : Nat) (t : Tru) (da : Option Addr) (dc : Nat) (ra : Option Addr) (rc : Nat) (na : Option Addr) (nc : Nat) (full m a b c l0 l1 l2 l3 l4 l5 x y z u : Int) : ((((fArr i wa wc ma mc t da dc ra rc na nc full m a b c l0 l1 l2 l3 l4 l5).setIfInBounds 24 (.int .i64 x)).setIfInBounds 25 (.int .i64 y)).setIfInBounds 26 (.int .i64 z)).setIfInBounds 29 (.int .i64 u) = fArr i wa wc ma mc t da dc ra rc na nc full m x y z l0 l1 u l3 l4 l5 := rfl
theorem below_grown {B fb : Nat} {w wr wq : World} (h : Below B w wr) (hg : wr.grownBy wq (some fb)) (h1 : B ≤ wr.heap.size) (h2 : B ≤ fb) : Below B w wq := h.grown hg h1 (fun k e => by cases e; exact h2)
/-- The water after the rain of a month, and after the leak. -/
def rained (i : Isl) (full : Int) (t : Tru) (k : Nat) (s : St) : St :=
  ⟨s.tanks + i.roof * t.rains k / 1000 - max 0 (s.tanks + i.roof * t.rains k / 1000 - full), s.lens + i.sand * t.rains k * t.soak / 1000000 - max 0 (s.lens + i.sand * t.rains k * t.soak / 1000000 - i.cap), s.lack,
   s.rain + i.roof * t.rains k / 1000 + i.sand * t.rains k * t.soak / 1000000, s.used, s.leak, s.sea + max 0 (s.tanks + i.roof * t.rains k / 1000 - full) + max 0 (s.lens + i.sand * t.rains k * t.soak / 1000000 - i.cap)⟩
def leaked (t : Tru) (s : St) : St := ⟨s.tanks, s.lens - s.lens * t.leak / 1000, s.lack, s.rain, s.used, s.leak + s.lens * t.leak / 1000, s.sea⟩
def midSt (i : Isl) (full : Int) (t : Tru) (k : Nat) (s : St) : Nat → St
  | 0 => s
  | 1 => rained i full t k s
  | 2 => leaked t (rained i full t k s)
  | _ => stepSt i full t k s
theorem rained_ok {i : Isl} {tanks : Int} {t : Tru} (h : Fit i tanks t) {k : Nat} (hk : k < i.nm) {s : St} (hs : StOk i (i.size * tanks) k s) :
    0 ≤ (rained i (i.size * tanks) t k s).tanks ∧ (rained i (i.size * tanks) t k s).tanks ≤ 400000000 ∧ 0 ≤ (rained i (i.size * tanks) t k s).lens ∧ (rained i (i.size * tanks) t k s).lens ≤ 10000000 := by
  obtain ⟨f0, f1⟩ := full_le h
  obtain ⟨a0, a1⟩ := roof_le h hk
  obtain ⟨b0, b1⟩ := sand_le h hk
  have c0 := h.cap0; have c1 := h.cap1
  obtain ⟨t0, t1, l0, l1, _, _, r0, r1, u0, u1, g0, g1, s0, s1⟩ := hs
  simp only [rained]
  omega
theorem leaked_ok {t : Tru} {s : St} (h0 : 0 ≤ t.leak) (h1 : t.leak ≤ 1000) (l0 : 0 ≤ s.lens) (l1 : s.lens ≤ 10000000) : 0 ≤ (leaked t s).lens ∧ (leaked t s).lens ≤ 10000000 := by
  have := leak_le l0 h0 h1
  simp only [leaked]
  omega
theorem setOther {w : World} {b g k : Nat} {o : Obj} {v : Value} (h : w.heap[b]? = some o) (hne : b ≠ g) : (w.setCell ⟨g, k, none⟩ v).heap[b]? = some o := (Below.heap_setCell _ _ _ _ hne).trans h
/-- What holds at the head of follow's loop over the steps of a month. -/
structure FollowMid (fb : Nat) (i : Isl) (wa : Option Addr) (wc : Nat) (ma : Option Addr) (mc : Nat) (t : Tru) (da : Option Addr) (dc : Nat) (ra : Option Addr) (rc : Nat) (na : Option Addr) (nc : Nat) (full l0 : Int) (k : Nat) (s : St) (wr : World) (n : Nat) (wq : World) : Prop where
  f : wq.heap[fb]? = some (.cells (fArr i wa wc ma mc t da dc ra rc na nc full k (midSt i full t k s n).tanks (midSt i full t k s n).lens (midSt i full t k s n).lack l0 (midSt i full t k s n).rain (midSt i full t k s n).used (midSt i full t k s n).leak (midSt i full t k s n).sea 0) 93 (0, 0))
  g : wr.grownBy wq (some fb)
/-- What holds at the head of follow's loop over the months. -/
structure FollowInv (w : World) (fb sb g lb : Nat) (i : Isl) (wa : Option Addr) (wc : Nat) (ma : Option Addr) (mc : Nat) (t : Tru) (da : Option Addr) (dc : Nat) (ra : Option Addr) (rc : Nat) (na : Option Addr) (nc : Nat) (tanks : Int) (k : Nat) (wr : World) : Prop where
  f : ∃ m, wr.heap[fb]? = some (.cells (fArr i wa wc ma mc t da dc ra rc na nc (i.size * tanks) m (runTo i tanks t k).tanks (runTo i tanks t k).lens (runTo i tanks t k).lack (i.size * tanks + t.start) (runTo i tanks t k).rain (runTo i tanks t k).used (runTo i tanks t k).leak (runTo i tanks t k).sea 0) 93 (0, 0))
  steps : wr.heap[sb]? = some (.cells #[.func (.func 42) #[.pointer (some ⟨fb, 0, none⟩)] #[], .func (.func 43) #[.pointer (some ⟨fb, 0, none⟩)] #[], .func (.func 44) #[.pointer (some ⟨fb, 0, none⟩)] #[]] 94 (0, 0))
  ends : ∃ es, wr.heap[g]? = some (.cells es 59 (0, 0)) ∧ es.size = i.nm * 3 ∧ ∀ j, j < k → es[j * 3]? = some (.int .i64 (runTo i tanks t (j + 1)).tanks) ∧ es[j * 3 + 1]? = some (.int .i64 (runTo i tanks t (j + 1)).lens) ∧ es[j * 3 + 2]? = some (.int .i64 (runTo i tanks t (j + 1)).lack)
  led : wr.heap[lb]? = some (.cells #[.int .i64 0, .int .i64 0, .int .i64 0, .int .i64 0, .int .i64 0, .int .i64 0] 43 (0, 0))
  old : Below w.heap.size w wr
set_option maxRecDepth 100000 in
set_option maxHeartbeats 2000000 in
theorem follow_any (i : Isl) (wa : Option Addr) (wc : Nat) (ma : Option Addr) (mc : Nat) (tanks : Int) (t : Tru) (da : Option Addr) (dc : Nat) (ra : Option Addr) (rc : Nat) (na : Option Addr) (nc : Nat) (w : World)
    (ht : TruAt w w.heap.size t da ra na) (hf : Fit i tanks t) :
    Calls Tryd.prog 26 #[islV i wa wc ma mc, .int .i64 tanks, truV t da dc ra rc na nc] w
   fun e' w' => ∃ g, w.heap.size ≤ g ∧ e' = .returned (.tuple #[.slice (some ⟨g, 0, none⟩) i.nm i.nm, .agg #[.int .i64 (i.size * tanks + t.start), .int .i64 (runTo i tanks t i.nm).rain, .int .i64 (runTo i tanks t i.nm).used, .int .i64 (runTo i tanks t i.nm).leak, .int .i64 (runTo i tanks t i.nm).sea, .int .i64 ((runTo i tanks t i.nm).tanks + (runTo i tanks t i.nm).lens)]]) ∧
     SeensAt w' w'.heap.size (some ⟨g, 0, none⟩) i.nm (fun k => seenOf (runTo i tanks t (k + 1))) ∧ Below w.heap.size w w' := by
  obtain ⟨f0, f1⟩ := full_le hf
  have hs0 := hf.start0
  have hs1 := hf.start1
  have hc1 := hf.cap1
  have hn8 := hf.nm
  have z0 := hf.size0
  have z1 := hf.size1
  have y0 := hf.tanks0
  have y1 := hf.tanks1
  obtain ⟨full, hfull⟩ : ∃ full, i.size * tanks = full := ⟨_, rfl⟩
  rw [hfull] at f0 f1
  unfold islV truV
  obtain ⟨i0, hinf, hz0, hz1, hz2⟩ := info_parts Tryd.info53
  go_enter Tryd.func26, Tryd.ntmps26
  go_wp2_with (first | (with_reducible refine wpList_store_new (o := ⟨_, Op.store 93 _ _, _, _, _, _⟩) rfl _ _ rfl (w.heap.size + 3) (by simp) rfl rfl (by kernel_rfl) (by kernel_rfl) (by kernel_rfl) ?_) | (at_make; go_must (refine wpList_make_full _ rfl _ _ 41 rfl (w.heap.size) 59 i0 _ 3 Tryd.underlying41 hinf hz0 hz1 _ _ _ _ i.nm rfl rfl rfl rfl (by rw [hz2]; omega) (by unfold maxLen; omega) (by simp; omega) ?_); intro w6 hown hgrow; refine Hid.out ?_))
  have hF6 : w6.heap[w.heap.size + 1 + 1 + 1]? = some (.cells (fArr i wa wc ma mc t da dc ra rc na nc full 0 full t.start 0 (full + t.start) 0 0 0 0 0) 93 (0, 0)) := (hgrow.block _ (by first | exact Nat.le_refl _ | focus (simp; done) | omega | (simp; omega)) (by simp)).trans (allocOf (newOf _ (by simp)))
  have hS6 : w6.heap[w.heap.size + 1 + 1 + 1 + 1]? = some (.cells #[.func (.func 42) #[.pointer (some ⟨w.heap.size + 1 + 1 + 1, 0, none⟩)] #[], .func (.func 43) #[.pointer (some ⟨w.heap.size + 1 + 1 + 1, 0, none⟩)] #[], .func (.func 44) #[.pointer (some ⟨w.heap.size + 1 + 1 + 1, 0, none⟩)] #[]] 94 (0, 0)) := (hgrow.block _ (by first | exact Nat.le_refl _ | focus (simp; done) | omega | (simp; omega)) (by simp)).trans (newOf _ (by simp))
  have hL6 : w6.heap[w.heap.size + 1 + 1]? = some (.cells #[.int .i64 0, .int .i64 0, .int .i64 0, .int .i64 0, .int .i64 0, .int .i64 0] 43 (0, 0)) := (hgrow.block _ (by first | exact Nat.le_refl _ | focus (simp; done) | omega | (simp; omega)) (by simp)).trans (allocOf (allocOf (newOf _ (by simp))))
  have hB6 : Below w.heap.size w w6 := below_made (by repeat (first | with_reducible exact Below.refl _ _ | with_reducible assumption | with_reducible apply b_undrew | with_reducible apply b_drew | with_reducible apply b_alloc | with_reducible apply b_set | (show (_ : Nat) ≤ _; first | exact Nat.le_refl _ | focus (simp; done) | omega | (simp; omega)) | (refine Below.trans ?_ (Below.mono (by with_reducible assumption) ?_)))) hgrow (by first | exact Nat.le_refl _ | focus (simp; done) | omega | (simp; omega))
  obtain ⟨cur, hcur, hcs⟩ := made_block hown
  simp only [World.size_alloc] at hcur
  have e13 := cellOf (k := 13) (v := .slice ma i.nm mc) hF6 rfl
  clear hown hgrow
  unfold Hid
  have HF6 := Lib.hid hF6
  have HS6 := Lib.hid hS6
  have HL6 := Lib.hid hL6
  have HC6 := Lib.hid hcur
  clear hF6 hS6 hL6 hcur
  go_wp2_with fail
  go_loopw [46] (fun j wr => ∃ k : Nat, k ≤ i.nm ∧ j = .int .i64 k ∧ FollowInv w (w.heap.size + 1 + 1 + 1) (w.heap.size + 1 + 1 + 1 + 1) (w.heap.size + 1 + 1 + 1 + 1 + 1) (w.heap.size + 1 + 1) i wa wc ma mc t da dc ra rc na nc tanks k wr) (fun j _ => i.nm - (intOf j).toNat)
  case atStart =>
    refine ⟨0, Nat.zero_le _, rfl, ⟨⟨0, ?_⟩, HS6.out, ⟨cur, HC6.out, hcs, fun j hj => absurd hj (by omega)⟩, HL6.out, hB6⟩⟩
    rw [hfull]
    simp only [runTo]
    rw [hfull]
    exact HF6.out
  case round =>
    obtain ⟨k, hk, rfl, hinv⟩ := hrel
    obtain ⟨wo, rfl⟩ : ∃ wo : World, wo = wr := ⟨_, rfl⟩
    obtain ⟨⟨m, hF⟩, hS, ⟨es, hE, hes, hall⟩, hL, hB⟩ := hinv
    have ok := runTo_ok hf hk
    obtain ⟨s, hs⟩ : ∃ s, runTo i tanks t k = s := ⟨_, rfl⟩
    rw [hs, hfull] at hF
    rw [hs, hfull] at ok
    have hz := hB.size
    by_cases hlt : k < i.nm
    · have e0 := cellOf (k := 0) (v := .func (.func 42) #[.pointer (some ⟨w.heap.size + 1 + 1 + 1, 0, none⟩)] #[]) hS rfl
      have e1 := cellOf (k := 1) (v := .func (.func 43) #[.pointer (some ⟨w.heap.size + 1 + 1 + 1, 0, none⟩)] #[]) hS rfl
      have e2 := cellOf (k := 2) (v := .func (.func 44) #[.pointer (some ⟨w.heap.size + 1 + 1 + 1, 0, none⟩)] #[]) hS rfl
      have e23 := cellOf (k := 23) (v := .int .i64 m) hF rfl
      have f23 := freeOf (k := 23) hF
      have HF := Lib.hid hF
      have HS := Lib.hid hS
      have HE := Lib.hid hE
      have HALL := Lib.hid hall
      have HL := Lib.hid hL
      have HB := Lib.hid hB
      have HSs := Lib.hid hs
      clear hF hS hE hall hL hB hs
      go_wp2_with fail
      go_loopw [52] (fun q wq => ∃ n : Nat, n ≤ 3 ∧ q = .int .i64 n ∧ FollowMid (w.heap.size + 1 + 1 + 1) i wa wc ma mc t da dc ra rc na nc full (full + t.start) k s wo n wq) (fun q _ => 3 - (intOf q).toNat)
      case atStart => exact ⟨0, by omega, rfl, ⟨by rw [← fArr_month]; exact setOf' HF.out, grown_set _ _ _ _⟩⟩
      case round =>
        obtain ⟨n, hn, rfl, hq⟩ := hrel
        have hB := HB.out
        have hzq := hq.g.size
        have hBq : Below w.heap.size w wr := below_grown hB hq.g hz (by omega)
        have hm := hq.f
        obtain ⟨r0, r1, r2, r3⟩ := rained_ok hf hlt (hfull.symm ▸ ok)
        rw [hfull] at r0 r1 r2 r3
        obtain ⟨v0, v1⟩ := leaked_ok hf.leak0 hf.leak1 r2 r3
        rcases (by omega : n = 0 ∨ n = 1 ∨ n = 2 ∨ n = 3) with rfl | rfl | rfl | rfl
        · simp only [midSt] at hm
          obtain ⟨nb, off, hra, hnb, hck⟩ := intsGet (ht.rains.below' hBq) (by rw [hf.nr]; exact hlt : k < t.nr)
          obtain ⟨p0, p1⟩ := hf.rain k hlt
          have hcall := rain_any (w.heap.size + 1 + 1 + 1) nb off (fArr i wa wc ma mc t da dc ra rc na nc full k s.tanks s.lens s.lack (full + t.start) s.rain s.used s.leak s.sea 0) t.nr rc k (t.rains k) s.tanks s.lens i.roof i.sand t.soak i.cap full s.rain s.sea wr hm (by rw [hra]; rfl) rfl (by rw [hf.nr]; exact hlt) hck rfl rfl rfl rfl rfl rfl rfl rfl rfl
            p0 p1 ok.t0 (by have := ok.t1; omega) ok.l0 (by have := ok.l1; omega) hf.roof0 hf.roof1 hf.sand0 hf.sand1 hf.soak0 hf.soak1 hf.cap0 (by omega) f0 (by omega) ok.r0 (by have := ok.r1; omega) ok.s0 (by have := ok.s1; omega)
          rw [fArr_rain] at hcall
          have HC := Lib.hid hcall
          have HM := Lib.hid hm
          have HQ := Lib.hid hq
          have HHf := Lib.hid hf
          clear hcall hm hq hra hck hB hf
          have i0 : ∀ W0, (Instr.index 94 (.agg #[.func (.func 42) #[.pointer (some ⟨w.heap.size + 1 + 1 + 1, 0, none⟩)] #[], .func (.func 43) #[.pointer (some ⟨w.heap.size + 1 + 1 + 1, 0, none⟩)] #[], .func (.func 44) #[.pointer (some ⟨w.heap.size + 1 + 1 + 1, 0, none⟩)] #[]]) (.int .i64 0)).run Tryd.prog W0 = .ok (.func (.func 42) #[.pointer (some ⟨w.heap.size + 1 + 1 + 1, 0, none⟩)] #[]) W0 := fun _ => by kernel_rfl
          go_wp2_with (go_at_call 42; refine HC.out.mono ?_; rintro e' w' ⟨rfl, hh, hg⟩; have HH := Lib.hid hh; clear hh)
          exact ⟨⟨1, by omega, rfl, ⟨HH.out, grown_trans HQ.out.g hg⟩⟩, by simp [intOf]⟩
        · simp only [midSt] at hm
          obtain ⟨R, hR⟩ : ∃ R, rained i full t k s = R := ⟨_, rfl⟩
          have hRl : R.leak = s.leak := by rw [← hR]; rfl
          rw [hR] at hm r0 r1 r2 r3
          have hcall := leak_any (w.heap.size + 1 + 1 + 1) (fArr i wa wc ma mc t da dc ra rc na nc full k R.tanks R.lens R.lack (full + t.start) R.rain R.used R.leak R.sea 0) R.lens t.leak R.leak wr hm rfl rfl rfl r2 (by omega) hf.leak0 hf.leak1 (by rw [hRl]; exact ok.g0) (by rw [hRl]; have := ok.g1; omega)
          rw [fArr_leak] at hcall
          have HC := Lib.hid hcall
          have HM := Lib.hid hm
          have HQ := Lib.hid hq
          have HHf := Lib.hid hf
          clear hcall hm hq hB hf 
          have i0 : ∀ W0, (Instr.index 94 (.agg #[.func (.func 42) #[.pointer (some ⟨w.heap.size + 1 + 1 + 1, 0, none⟩)] #[], .func (.func 43) #[.pointer (some ⟨w.heap.size + 1 + 1 + 1, 0, none⟩)] #[], .func (.func 44) #[.pointer (some ⟨w.heap.size + 1 + 1 + 1, 0, none⟩)] #[]]) (.int .i64 1)).run Tryd.prog W0 = .ok (.func (.func 43) #[.pointer (some ⟨w.heap.size + 1 + 1 + 1, 0, none⟩)] #[]) W0 := fun _ => by kernel_rfl
          have HRR := Lib.hid hR
          have HRl := Lib.hid hRl
          clear hR hRl
          go_wp2_with (go_at_call 43; refine HC.out.mono ?_; rintro e' w' ⟨rfl, hh, hg⟩; have HH := Lib.hid hh; clear hh)
          have hR := HRR.out
          subst hR
          exact ⟨⟨2, by omega, rfl, ⟨HH.out, grown_trans HQ.out.g hg⟩⟩, by simp [intOf]⟩
        · simp only [midSt] at hm
          obtain ⟨L, hL2⟩ : ∃ L, leaked t (rained i full t k s) = L := ⟨_, rfl⟩
          have hLu : L.used = s.used := by rw [← hL2]; rfl
          have hLt : L.tanks = (rained i full t k s).tanks := by rw [← hL2]; rfl
          rw [← hLt] at r0 r1
          rw [hL2] at hm v0 v1
          obtain ⟨nb, off, hna, hnb, hck⟩ := intsGet (ht.needs.below' hBq) (by rw [hf.nn]; exact hlt : k < t.nn)
          obtain ⟨p0, p1⟩ := hf.need k hlt
          have hcall := supply_any (w.heap.size + 1 + 1 + 1) nb off (fArr i wa wc ma mc t da dc ra rc na nc full k L.tanks L.lens L.lack (full + t.start) L.rain L.used L.leak L.sea 0) t.nn nc k (t.needs k) L.tanks L.lens i.pump i.keep L.used wr hm (by rw [hna]; rfl) rfl (by rw [hf.nn]; exact hlt) hck rfl rfl rfl rfl rfl
            p0 p1 r0 (by omega) v0 (by omega) hf.pump0 (by have := hf.pump1; omega) hf.keep0 (by have := hf.keep1; omega) (by rw [hLu]; exact ok.u0) (by rw [hLu]; have := ok.u1; omega) (show (26 : Nat) < 33 by omega)
          rw [fArr_supply] at hcall
          have HC := Lib.hid hcall
          have HM := Lib.hid hm
          have HQ := Lib.hid hq
          have HHf := Lib.hid hf
          clear hcall hm hq hB hf hna hck
          have i0 : ∀ W0, (Instr.index 94 (.agg #[.func (.func 42) #[.pointer (some ⟨w.heap.size + 1 + 1 + 1, 0, none⟩)] #[], .func (.func 43) #[.pointer (some ⟨w.heap.size + 1 + 1 + 1, 0, none⟩)] #[], .func (.func 44) #[.pointer (some ⟨w.heap.size + 1 + 1 + 1, 0, none⟩)] #[]]) (.int .i64 2)).run Tryd.prog W0 = .ok (.func (.func 44) #[.pointer (some ⟨w.heap.size + 1 + 1 + 1, 0, none⟩)] #[]) W0 := fun _ => by kernel_rfl
          have HLL := Lib.hid hL2
          clear hL2 hLu hLt
          go_wp2_with (go_at_call 44; refine HC.out.mono ?_; rintro e' w' ⟨rfl, hh, hg⟩; have HH := Lib.hid hh; clear hh)
          have hL2 := HLL.out
          subst hL2
          exact ⟨⟨3, by omega, rfl, ⟨HH.out, grown_trans HQ.out.g hg⟩⟩, by simp [intOf]⟩
        · simp only [midSt] at hm
          obtain ⟨S, hS2⟩ : ∃ S, stepSt i full t k s = S := ⟨_, rfl⟩
          rw [hS2] at hm
          have hE2 : wr.heap[w.heap.size + 1 + 1 + 1 + 1 + 1]? = some (.cells es 59 (0, 0)) := (hq.g.block _ (ltOf HE.out) (by intro e; have := Option.some.inj e; omega)).trans HE.out
          have hS3 := (hq.g.block _ (ltOf HS.out) (by intro e; have := Option.some.inj e; omega)).trans HS.out
          have hL3 := (hq.g.block _ (ltOf HL.out) (by intro e; have := Option.some.inj e; omega)).trans HL.out
          have e24 := cellOf (k := 24) (v := .int .i64 S.tanks) hm rfl
          have e25 := cellOf (k := 25) (v := .int .i64 S.lens) hm rfl
          have e26 := cellOf (k := 26) (v := .int .i64 S.lack) hm rfl
          have c0 : k * 3 < es.size := by omega
          have c1 : k * 3 + 1 < es.size := by omega
          have c2 : k * 3 + 2 < es.size := by omega
          have x0 := cellOf hE2 (Array.getElem?_eq_getElem c0)
          have x1 := cellOf hE2 (Array.getElem?_eq_getElem c1)
          have x2 := cellOf hE2 (Array.getElem?_eq_getElem c2)
          generalize es[k * 3] = o0 at x0
          generalize es[k * 3 + 1] = o1 at x1
          generalize es[k * 3 + 2] = o2 at x2
          have y0 := freeOf (k := k * 3) hE2
          have y1 := freeOf (k := k * 3 + 1) hE2
          have y2 := freeOf (k := k * 3 + 2) hE2
          have HE2 := Lib.hid hE2
          have HS3 := Lib.hid hS3
          have HL3 := Lib.hid hL3
          have HM := Lib.hid hm
          have HQ := Lib.hid hq
          have HHf := Lib.hid hf
          have HSS := Lib.hid hS2
          have HES := Lib.hid hes
          clear hm hq hB hf hE2 hS3 hL3 hS2 hes c0 c1 c2
          go_wp2
          have hrun : runTo i tanks t (k + 1) = S := by
            simp only [runTo]
            rw [HSs.out, hfull]
            exact HSS.out
          refine ⟨⟨k + 1, by omega, by go_num, ⟨⟨k, ?_⟩, ?_, ?_, ?_, ?_⟩⟩, by simp [intOf]; omega⟩
          · rw [hrun, hfull]
            exact setOther (setOther (setOther HM.out (by omega)) (by omega)) (by omega)
          · exact setOther (setOther (setOther HS3.out (by omega)) (by omega)) (by omega)
          · have hes := HES.out
            refine ⟨_, setOf' (setOf' (setOf' HE2.out)), by simp [hes], fun j hj => ?_⟩
            rcases (by omega : j < k ∨ j = k) with h1 | rfl
            · obtain ⟨a0, a1, a2⟩ := HALL.out j h1
              exact ⟨getSet (getSet (getSet a0 (by omega)) (by omega)) (by omega), getSet (getSet (getSet a1 (by omega)) (by omega)) (by omega), getSet (getSet (getSet a2 (by omega)) (by omega)) (by omega)⟩
            · rw [hrun]
              exact ⟨getSet (getSet (getSame (Array.getElem?_eq_getElem (by omega))) (by omega)) (by omega), getSet (getSame (getSet (Array.getElem?_eq_getElem (by omega)) (by omega))) (by omega), getSame (getSet (getSet (Array.getElem?_eq_getElem (by omega)) (by omega)) (by omega))⟩
          · exact setOther (setOther (setOther HL3.out (by omega)) (by omega)) (by omega)
          · exact b_set (b_set (b_set hBq (by omega)) (by omega)) (by omega)
    · obtain rfl : k = i.nm := by omega
      have e24 := cellOf (k := 24) (v := .int .i64 s.tanks) hF rfl
      have e25 := cellOf (k := 25) (v := .int .i64 s.lens) hF rfl
      have e27 := cellOf (k := 27) (v := .int .i64 (full + t.start)) hF (by rw [← hfull]; rfl)
      have e28 := cellOf (k := 28) (v := .int .i64 s.rain) hF rfl
      have e29 := cellOf (k := 29) (v := .int .i64 s.used) hF rfl
      have e30 := cellOf (k := 30) (v := .int .i64 s.leak) hF rfl
      have e31 := cellOf (k := 31) (v := .int .i64 s.sea) hF rfl
      have e32 := cellOf (k := 32) (v := .int .i64 0) hF rfl
      have f32 := freeOf (k := 32) hF
      have l0 := cellOf (k := 0) (v := .int .i64 0) hL rfl
      have l1 := cellOf (k := 1) (v := .int .i64 0) hL rfl
      have l2 := cellOf (k := 2) (v := .int .i64 0) hL rfl
      have l3 := cellOf (k := 3) (v := .int .i64 0) hL rfl
      have l4 := cellOf (k := 4) (v := .int .i64 0) hL rfl
      have l5 := cellOf (k := 5) (v := .int .i64 0) hL rfl
      have g0 := freeOf (k := 0) hL
      have g1 := freeOf (k := 1) hL
      have g2 := freeOf (k := 2) hL
      have g3 := freeOf (k := 3) hL
      have g4 := freeOf (k := 4) hL
      have g5 := freeOf (k := 5) hL
      have HF := Lib.hid hF
      have HE := Lib.hid hE
      have HALL := Lib.hid hall
      have HL := Lib.hid hL
      have HB := Lib.hid hB
      have HSs := Lib.hid hs
      have HHf := Lib.hid hf
      obtain ⟨t0, t1, u0, u1, _⟩ := ok
      clear hF hS hE hall hL hB hs hf
      go_wp2_with fail
      refine wp_region_below (m := 4) (B := w.heap.size + 1 + 1 + 1 + 1 + 1) (by kernel_rfl) ?_
      intro hcl hM
      refine wpAnyM_take (i := 0) (oi := { dst := some 76, op := Op.move (Operand.tmp 11), type := 41, pos := "follow.go:32", after := #[], guard := none }) (v := ?_) rfl (by kernel_rfl) (by kernel_rfl) (by kernel_rfl) (by kernel_rfl) (fun _ _ _ h => h) (Or.inl ⟨by rfl, ?_⟩) hcl hM ?_
      rotate_left 1
      · intro wx hx; go_simp <;> with_reducible rfl
      clear hcl hM; intro hcl hM; try simp only [Act.put, List.setIfInBounds_toArray, List.set_cons_zero, List.set_cons_succ]
      refine wpAnyM_take (i := 1) (oi := { dst := some 77, op := Op.fieldAddr 93 (Operand.tmp 9) 7, type := 0, pos := "follow.go:32", after := #[{ on := 3, ground := Ground.gcOnly Departure.lateStores }], guard := none }) (v := ?_) rfl (by kernel_rfl) (by kernel_rfl) (by kernel_rfl) (by kernel_rfl) (fun _ _ _ h => h) (Or.inl ⟨by rfl, ?_⟩) hcl hM ?_
      rotate_left 1
      · intro wx hx; go_simp <;> with_reducible rfl
      clear hcl hM; intro hcl hM; try simp only [Act.put, List.setIfInBounds_toArray, List.set_cons_zero, List.set_cons_succ]
      refine wpAnyM_take0 (i := 2) (oi := { dst := some 78, op := Op.load 43 (Operand.tmp 77), type := 43, pos := "follow.go:32", after := #[{ on := 1, ground := Ground.data }, { on := 3, ground := Ground.gcOnly Departure.lateStores }], guard := none }) (v := ?_) rfl (by kernel_rfl) (by kernel_rfl) (by kernel_rfl) (by kernel_rfl) (by kernel_rfl) (by kernel_rfl) (fun _ _ _ h => h) (Or.inl ⟨by rfl, ?_⟩) hcl hM ?_
      rotate_left 1
      · intro wx hx; have hq := below_cells hx.2; go_simp <;> with_reducible rfl
      clear hcl hM; intro hcl hM; try simp only [Act.put, List.setIfInBounds_toArray, List.set_cons_zero, List.set_cons_succ]
      refine wpAnyM_take (i := 3) (oi := { dst := some 6, op := Op.assign (Operand.tmp 76), type := 41, pos := "follow.go:32", after := #[{ on := 0, ground := Ground.data }, { on := 0, ground := Ground.phase }, { on := 1, ground := Ground.textOnly Departure.lateStores }, { on := 2, ground := Ground.textOnly Departure.lateStores }], guard := none }) (v := ?_) rfl (by kernel_rfl) (by kernel_rfl) (by kernel_rfl) (by kernel_rfl) (fun _ _ _ h => h) (Or.inl ⟨by rfl, ?_⟩) hcl hM ?_
      rotate_left 1
      · intro wx hx; go_simp <;> with_reducible rfl
      clear hcl hM; intro hcl hM; try simp only [Act.put, List.setIfInBounds_toArray, List.set_cons_zero, List.set_cons_succ]
      refine wpAnyM_one (i := 4) (oi := { dst := none, op := Op.store 43 (Operand.tmp 7) (Operand.tmp 78), type := 0, pos := "follow.go:32", after := #[{ on := 2, ground := Ground.data }, { on := 3, ground := Ground.chain }, { on := 0, ground := Ground.phase }, { on := 1, ground := Ground.phase }, { on := 2, ground := Ground.phase }, { on := 3, ground := Ground.phase }], guard := none }) (by kernel_rfl) rfl (by rfl) hcl (fun K hK => ?_)
      have HK := Lib.hid hK; clear hK
      go_wp2_with fail
      clear hcl hM; refine HK.out _ _ (marked_gone trivial (by kernel_rfl)) ?_; clear HK; intro hcl hM
      refine wpAnyM_done (by kernel_rfl) ?_ _
      clear hcl hM
      go_wp2
      have hs := HSs.out
      have hf := HHf.out
      have e1 : (runTo i tanks t i.nm) = s := hs
      refine bodyPost_ret (v := .tuple #[.slice (some ⟨w.heap.size + 1 + 1 + 1 + 1 + 1, 0, none⟩) i.nm i.nm, .agg #[.int .i64 (full + t.start), .int .i64 s.rain, .int .i64 s.used, .int .i64 s.leak, .int .i64 s.sea, .int .i64 (s.tanks + s.lens)]]) (by simp [results, Tryd.results26, go_sem, l0, l1, l2, l3, l4, l5]) rfl ⟨_, (by omega : w.heap.size ≤ w.heap.size + 1 + 1 + 1 + 1 + 1), by rw [hfull, e1], ?_, ?_⟩
      · refine fun _ => ⟨_, 0, rfl, ?_, fun j hj c hc => ?_⟩
        · have := ltOf HE.out
          simpa using this
        · refine cellOf (cs := es) (t := 59) (fr := (0, 0)) ?_ ?_
          · repeat (first | with_reducible exact HE.out | with_reducible apply drewOf | (with_reducible refine setOther ?_ ?_; rotate_left 1; focus (first | omega | (simp; done))))
          · obtain ⟨a0, a1, a2⟩ := HALL.out j hj
            rcases (by omega : c = 0 ∨ c = 1 ∨ c = 2) with rfl | rfl | rfl
            · rw [show 0 + j * 3 + 0 = j * 3 by omega]; exact a0
            · rw [show 0 + j * 3 + 1 = j * 3 + 1 by omega]; exact a1
            · rw [show 0 + j * 3 + 2 = j * 3 + 2 by omega]; exact a2
      · have hB := HB.out
        repeat (first | with_reducible exact Below.refl _ _ | with_reducible assumption | with_reducible apply b_undrew | with_reducible apply b_drew | with_reducible apply b_alloc | with_reducible apply b_set | (show (_ : Nat) ≤ _; first | exact Nat.le_refl _ | focus (simp; done) | omega | (simp; omega)) | (refine Below.trans ?_ (Below.mono (by with_reducible assumption) ?_)))
end Go.Proofs.YtffdidleebognaaDoor
