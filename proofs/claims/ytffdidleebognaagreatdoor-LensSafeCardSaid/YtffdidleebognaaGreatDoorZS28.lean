/- Contract of Play, of what is as defined. -/
import Derived.Test.YtffdidleebognaaGreatDoorZS27
namespace Go.Proofs.YtffdidleebognaaGreatDoor
open Go Go.RowKit Lens
/-- Block g is the same in both worlds. -/
def SameAt (g : Nat) (w w' : World) : Prop := w'.heap[g]? = w.heap[g]? ∧ w.heap.size ≤ w'.heap.size
theorem k_refl (g : Nat) (w : World) : SameAt g w w := ⟨rfl, Nat.le_refl _⟩
theorem k_drew {g : Nat} {w w' : World} (h : SameAt g w w') : SameAt g w w'.drew := h
theorem k_alloc {g : Nat} {w w' : World} {X : Obj} (hg : g < w.heap.size) (h : SameAt g w w') : SameAt g w (w'.alloc X) :=
  ⟨(Below.heap_alloc w' X g (Nat.lt_of_lt_of_le hg h.2)).trans h.1, by have := h.2; rw [World.size_alloc]; omega⟩
theorem k_set {g b k : Nat} {v : Value} {w w' : World} (hne : g ≠ b) (h : SameAt g w w') : SameAt g w (w'.setCell ⟨b, k, none⟩ v) :=
  ⟨(Below.heap_setCell _ _ _ _ hne).trans h.1, by have := h.2; simpa using this⟩
theorem seensMove {w w' : World} {g n : Nat} {f : Nat → Seen} (h : SeensAt w w.heap.size (some ⟨g, 0, none⟩) n f) (hk : SameAt g w w') : SeensAt w' w'.heap.size (some ⟨g, 0, none⟩) n f := by
  intro hn
  obtain ⟨b, off, he, hlt, hc⟩ := h hn
  cases he
  refine ⟨g, 0, rfl, Nat.lt_of_lt_of_le hlt hk.2, fun j hj c hc' => ?_⟩
  have := hc j hj c hc'
  unfold World.cell? at *
  dsimp only at *
  rw [hk.1]
  exact this
set_option maxRecDepth 100000 in
set_option maxHeartbeats 8000000 in
theorem play_at (i : Isl) (wa : Option Addr) (wc : Nat) (ma : Option Addr) (mc : Nat) (tanks : Int) (t : Tru) (da : Option Addr) (dc : Nat) (ra : Option Addr) (rc : Nat) (na : Option Addr) (nc : Nat) (w : World)
    (hi : IslAt w w.heap.size i wa ma) (ht : TruAt w w.heap.size t da ra na) (h1 : islB i = true) (h2 : tanksB tanks = true) (h3 : truB i t = true) :
    Calls Tryz.prog 20 #[islV i wa wc ma mc, .int .i64 tanks, truV t da dc ra rc na nc] w
   fun e' w' => (∃ g, e' = .returned (.tuple #[.slice (some ⟨g, 0, none⟩) i.nm i.nm, .agg #[.int .i64 (i.size * tanks + t.start), .int .i64 (runTo i tanks t i.nm).rain, .int .i64 (runTo i tanks t i.nm).used, .int .i64 (runTo i tanks t i.nm).leak, .int .i64 (runTo i tanks t i.nm).sea, .int .i64 ((runTo i tanks t i.nm).tanks + (runTo i tanks t i.nm).lens)], .int .i64 0]) ∧
     SeensAt w' w'.heap.size (some ⟨g, 0, none⟩) i.nm (fun k => seenOf (runTo i tanks t (k + 1))) ∧ w.heap.size ≤ g) ∧ Below w.heap.size w w' := by
  have HI : ∀ X Y Z, IslAt (((w.alloc X).alloc Y).alloc Z) (w.heap.size + 3) i wa ma := fun X Y Z => hi.below (three_below w X Y Z) (by omega)
  have HT : ∀ X Y Z, TruAt (((w.alloc X).alloc Y).alloc Z) (w.heap.size + 3) t da ra na := fun X Y Z => ht.below (three_below w X Y Z) (by omega)
  have HI := Lib.hid HI
  have HT := Lib.hid HT
  have HC := isIslet_any i wa wc ma mc
  have HC2 := isTruth_any i wa wc ma mc t da dc ra rc na nc
  have HC3 := follow_any i wa wc ma mc tanks t da dc ra rc na nc
  have hfit := fit_of h1 h2 h3
  rw [h1] at HC
  rw [h3] at HC2
  have hc2 := areTanks_any tanks
  rw [h2] at hc2
  generalize runTo i tanks t i.nm = S at *
  unfold islV truV at *
  have HC := Lib.hid HC
  have HC2 := Lib.hid HC2
  have HC3 := Lib.hid HC3
  have HC4 := Lib.hid hc2
  have HFit := Lib.hid hfit
  clear h1 h2 h3 hc2 hfit
  go_enter Tryz.func20, Tryz.ntmps20
  go_wp2_with fail
  refine (calls_from (B := w.heap.size + 3) (HC.out _ ((HI.out _ _ _).below (Below.refl _ _) (by simp))) (by exact Below.refl _ _) (by simp)).mono ?_
  rintro e' w' ⟨rfl, hb, hz, hc⟩
  go_wp2_with fail
  refine (HC4.out _).mono ?_
  rintro e' w' ⟨rfl, rfl⟩
  go_wp2_with fail
  refine (calls_from (B := w.heap.size + 3) (HC2.out _ ((HI.out _ _ _).below hb hz) ((HT.out _ _ _).below hb hz)) hb hz).mono ?_
  clear hb hz hc
  rintro e' w' ⟨rfl, hb, hz, hc⟩
  go_wp2_with fail
  refine (HC3.out _ ((HT.out _ _ _).below hb hz) HFit.out).mono ?_
  rintro e' w2 ⟨g, hg3, rfl, hseen, hb2⟩
  have hg3 := Nat.le_trans hz hg3
  have hB2 := hb.trans (hb2.mono hz)
  have hz2 := Nat.le_trans hz hb2.size
  have hc2 := fun b o h => hB2.cell (p := ⟨b, o, none⟩) h
  have hf2 := fun b o h => hB2.frozen (p := ⟨b, o, none⟩) h
  clear hc hb2
  have HSeen := Lib.hid hseen
  clear hseen hb hz
  go_wp2_with fail
  have hl : w.heap.size + 1 + 1 < w2.heap.size := by omega
  refine wp_region_below (m := 3) (B := w2.heap.size + 1) (by kernel_rfl) ?_
  intro hcl hM
  refine wpAnyM_take (i := 0) (oi := { dst := some 33, op := Op.move (Operand.tmp 9), type := 42, pos := "lens.go:20", after := #[], guard := none }) (v := ?_) rfl (by kernel_rfl) (by kernel_rfl) (by kernel_rfl) (by kernel_rfl) (fun _ _ _ h => h) (Or.inl ⟨by rfl, ?_⟩) hcl hM ?_
  rotate_left 1
  · intro wx hx; go_simp <;> with_reducible rfl
  clear hcl hM; intro hcl hM; try simp only [Act.put, List.setIfInBounds_toArray, List.set_cons_zero, List.set_cons_succ]
  refine wpAnyM_take0 (i := 1) (oi := { dst := some 34, op := Op.load 44 (Operand.tmp 10), type := 44, pos := "lens.go:20", after := #[{ on := 2, ground := Ground.gcOnly Departure.lateStores }], guard := none }) (v := ?_) rfl (by kernel_rfl) (by kernel_rfl) (by kernel_rfl) (by kernel_rfl) (by kernel_rfl) (by kernel_rfl) (fun _ _ _ h => h) (Or.inl ⟨by rfl, ?_⟩) hcl hM ?_
  rotate_left 1
  · intro wx hx; have hq := below_cells hx.2; have z0 := hq w2.heap.size 0 (by omega); have z1 := hq w2.heap.size 1 (by omega); have z2 := hq w2.heap.size 2 (by omega); have z3 := hq w2.heap.size 3 (by omega); have z4 := hq w2.heap.size 4 (by omega); have z5 := hq w2.heap.size 5 (by omega); clear hq; go_simp <;> with_reducible rfl
  clear hcl hM; intro hcl hM; try simp only [Act.put, List.setIfInBounds_toArray, List.set_cons_zero, List.set_cons_succ]
  refine wpAnyM_take (i := 2) (oi := { dst := some 6, op := Op.assign (Operand.tmp 33), type := 42, pos := "lens.go:20", after := #[{ on := 0, ground := Ground.data }, { on := 0, ground := Ground.phase }, { on := 1, ground := Ground.textOnly Departure.lateStores }], guard := none }) (v := ?_) rfl (by kernel_rfl) (by kernel_rfl) (by kernel_rfl) (by kernel_rfl) (fun _ _ _ h => h) (Or.inl ⟨by rfl, ?_⟩) hcl hM ?_
  rotate_left 1
  · intro wx hx; go_simp <;> with_reducible rfl
  clear hcl hM; intro hcl hM; try simp only [Act.put, List.setIfInBounds_toArray, List.set_cons_zero, List.set_cons_succ]
  refine wpAnyM_one (i := 3) (oi := { dst := none, op := Op.store 44 (Operand.tmp 7) (Operand.tmp 34), type := 0, pos := "lens.go:20", after := #[{ on := 1, ground := Ground.data }, { on := 2, ground := Ground.chain }, { on := 0, ground := Ground.phase }, { on := 1, ground := Ground.phase }, { on := 2, ground := Ground.phase }], guard := none }) (by kernel_rfl) rfl (by rfl) hcl (fun K hK => ?_)
  have HK := Lib.hid hK; clear hK
  go_wp2_with fail
  clear hcl hM; refine HK.out _ _ (marked_gone trivial (by kernel_rfl)) ?_; clear HK; intro hcl hM
  refine wpAnyM_take (i := 4) (oi := { dst := some 8, op := Op.assign (Operand.const (Value.int IntKind.i64 0)), type := 30, pos := "lens.go:20", after := #[{ on := 3, ground := Ground.chain }, { on := 0, ground := Ground.phase }, { on := 1, ground := Ground.phase }, { on := 2, ground := Ground.phase }, { on := 3, ground := Ground.phase }], guard := none }) (v := ?_) rfl (by kernel_rfl) (by kernel_rfl) (by kernel_rfl) (by kernel_rfl) (fun _ _ _ h => h) (Or.inl ⟨by rfl, ?_⟩) hcl hM ?_
  rotate_left 1
  · intro wx hx; go_simp <;> with_reducible rfl
  clear hcl hM; intro hcl hM; try simp only [Act.put, List.setIfInBounds_toArray, List.set_cons_zero, List.set_cons_succ]
  refine wpAnyM_done (by kernel_rfl) ?_ _
  clear hcl hM
  go_wp2
  refine bodyPost_ret (v := .tuple #[.slice (some ⟨g, 0, none⟩) i.nm i.nm, .agg #[.int .i64 (i.size * tanks + t.start), .int .i64 S.rain, .int .i64 S.used, .int .i64 S.leak, .int .i64 S.sea, .int .i64 (S.tanks + S.lens)], .int .i64 0]) (by simp [results, Tryz.results20, go_sem, hc2, hl]) rfl ⟨⟨g, rfl, ?_, by omega⟩, ?_⟩
  · intro hn
    have hgl : g < w2.heap.size := by
      obtain ⟨b, off, he, hlt, _⟩ := HSeen.out hn
      cases he
      exact hlt
    revert hn
    refine seensMove HSeen.out ?_
    repeat (first | with_reducible exact k_refl _ _ | with_reducible apply k_drew | (with_reducible refine k_alloc hgl ?_) | (with_reducible refine k_set (by omega) ?_))
  · have h3 := (three_below w _ _ _).trans (hB2.mono (by omega))
    have hle : w.heap.size ≤ w2.heap.size := by omega
    have hle2 : w.heap.size ≤ w.heap.size + 1 + 1 := by omega
    clear HI HT HC HC2 HC3 HC4 HFit HSeen hc2 hf2 hB2 hz2 hl
    repeat (first | with_reducible exact h3 | with_reducible apply b_undrew | with_reducible apply b_drew | (with_reducible refine b_alloc ?_ (by simpa using hle)) | (with_reducible refine b_set ?_ hle2))
end Go.Proofs.YtffdidleebognaaGreatDoor
