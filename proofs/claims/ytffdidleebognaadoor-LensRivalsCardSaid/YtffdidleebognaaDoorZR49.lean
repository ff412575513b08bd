/- Contract of the iterator over droughts, with firstFault's rounds; firstFault's contract. -/
import Derived.Test.YtffdidleebognaaDoorZR48
import Derived.Test.YtffdidleebognaaDoorZR23
import Derived.Test.YtffdidleebognaaDoorZR17
import Derived.Test.YtffdidleebognaaDoorZR14
import Derived.Test.YtffdidleebognaaDoorZR43
import Derived.Test.YtffdidleebognaaDoorZR33
namespace Go.Proofs.YtffdidleebognaaDoor
open Go Go.CE Go.Proofs Go.RowKit Lens
/-- The first drought whose number is below b in which something is wrong, and its first month in which it is. -/
def ftTo (i : Isl) (tanks : Int) : Nat → Option (Nat × Nat)
  | 0 => none
  | b + 1 => match ftTo i tanks b with
    | some x => some x
    | none => if drB i.most i.row i.nm (bitsDry i.nm b) then (badTo i tanks (bitsDry i.nm b) i.nm).map fun m => (b, m) else none
theorem ftTo_none {i : Isl} {tanks : Int} : ∀ {n : Nat}, ftTo i tanks n = none → ∀ b, b < n → ftTo i tanks b = none ∧ (drB i.most i.row i.nm (bitsDry i.nm b) = true → badTo i tanks (bitsDry i.nm b) i.nm = none)
  | 0, _, b, hb => by omega
  | n + 1, h, b, hb => by
    simp only [ftTo] at h
    split at h
    · cases h
    · rename_i hn
      rcases Nat.lt_or_ge b n with hlt | hge
      · exact ftTo_none hn b hlt
      · have : b = n := by omega
        subst this
        refine ⟨hn, fun hd => ?_⟩
        rw [if_pos hd] at h
        simpa using h
theorem ftTo_some {i : Isl} {tanks : Int} : ∀ {n b m : Nat}, ftTo i tanks n = some (b, m) → b < n ∧ ftTo i tanks b = none ∧ drB i.most i.row i.nm (bitsDry i.nm b) = true ∧ badTo i tanks (bitsDry i.nm b) i.nm = some m
  | 0, _, _, h => by cases h
  | n + 1, b, m, h => by
    simp only [ftTo] at h
    split at h
    · rename_i x hx
      cases h
      have := ftTo_some hx
      exact ⟨by omega, this.2⟩
    · rename_i hn
      split at h
      · rename_i hd
        cases hb : badTo i tanks (bitsDry i.nm n) i.nm with
        | none => rw [hb] at h; cases h
        | some k =>
          rw [hb] at h
          cases h
          exact ⟨by omega, hn, hd, hb⟩
      · cases h
section
variable {i : Isl} {wa : Option Addr} {wc mb mo mc : Nat} {ma : Option Addr} {tanks : Int} {w : World}
theorem fd_same {W : Value} {F : Array Value} {s : LoopState} {p : Option Code} {l : List (Bool × Obj)} : ∀ j, j < 7 → j ∉ [3, 6] → hget (heapO 0 (fdO i W mb mo mc tanks F s p ++ l)) j = hget (heapO 0 (fdO i W mb mo mc tanks ffN .ready none)) j := fun j hj hn => by
  have : j = 0 ∨ j = 1 ∨ j = 2 ∨ j = 3 ∨ j = 4 ∨ j = 5 ∨ j = 6 := by omega
  rcases this with rfl | rfl | rfl | rfl | rfl | rfl | rfl
  all_goals first
    | (exact absurd (by decide) hn; done)
    | rfl
theorem fd_same6 {W : Value} {s : LoopState} {p : Option Code} {l : List (Bool × Obj)} : ∀ j, j < 7 → j ∉ [6] → hget (heapO 0 (fdO i W mb mo mc tanks ffN s p ++ l)) j = hget (heapO 0 (fdO i W mb mo mc tanks ffN .ready none)) j := fun j hj hn => by
  have : j = 0 ∨ j = 1 ∨ j = 2 ∨ j = 3 ∨ j = 4 ∨ j = 5 ∨ j = 6 := by omega
  rcases this with rfl | rfl | rfl | rfl | rfl | rfl | rfl
  all_goals first
    | (exact absurd (by decide) hn; done)
    | rfl
theorem fd_writable {W : Value} {l : List Nat} (hl : ∀ j ∈ l, j = 3 ∨ j = 6) : Writable (heapO 0 (fdO i W mb mo mc tanks ffN .ready none)) 7 l := fun j _ hj => by
  rcases hl j hj with rfl | rfl
  · exact .inl ⟨_, _, rfl⟩
  · exact .inr (.inl ⟨_, rfl⟩)
noncomputable abbrev fdC0 : CF := entryC Tryd.prog 55 43 [.func (.yield 6) #[] #[], .pointer (some ⟨4, 0, none⟩)]
/-- The iterator stands at the head of its loop over months. -/
def FdM (i : Isl) (wa : Option Addr) (wc mb mo mc : Nat) (tanks : Int) (w : World) (W : List Nat) (b m : Nat) : Prop := ∃ d' : Nat → Value, (∀ t, Loose (d' t)) ∧ GoE Tryd.prog (worldLo w) fdC0 (heapO 0 (fdO i (rawS wa i.nw wc) mb mo mc tanks ffN .ready none)) 7
    (headC 55 43 (fdM i.nm ((2 ^ i.nm : Nat) : Int) b m) d' (drU.map (it (bodyOf Tryd.prog 55)))) (heapO 0 (fdO i (rawS wa i.nw wc) mb mo mc tanks ffN .ready none ++ [(false, Obj.cells (rowA (boolE (bitsTo i.nm b m)) i.nm) 4 (0, 0))])) 8 W
def FdL (i : Isl) (wa : Option Addr) (wc mb mo mc : Nat) (tanks : Int) (w : World) (W : List Nat) (b : Nat) : Prop := ∃ d' : Nat → Value, (∀ t, Loose (d' t)) ∧ GoE Tryd.prog (worldLo w) fdC0 (heapO 0 (fdO i (rawS wa i.nw wc) mb mo mc tanks ffN .ready none)) 7
    (headC 55 43 (fdL i.nm ((2 ^ i.nm : Nat) : Int) b) d' (drT.map (it (bodyOf Tryd.prog 55)))) (heapO 0 (fdO i (rawS wa i.nw wc) mb mo mc tanks ffN .ready none)) 7 W
set_option maxRecDepth 100000 in
theorem fd_months (h8 : i.nm ≤ 8) {W : List Nat} (hW : ∀ j ∈ W, j = 3 ∨ j = 6) (hs : ∀ j, j < 7 → j ∉ W → ∀ l, hget (heapO 0 (fdO i (rawS wa i.nw wc) mb mo mc tanks ffN .ready none ++ l)) j = hget (heapO 0 (fdO i (rawS wa i.nw wc) mb mo mc tanks ffN .ready none)) j) {b : Nat} (hb : b < 2 ^ i.nm) (h : FdL i wa wc mb mo mc tanks w W b) : FdM i wa wc mb mo mc tanks w W b i.nm := by
  have hml : i.nm ≤ maxLen := by unfold maxLen; omega
  have hp : 2 ^ i.nm ≤ 256 := Nat.pow_le_pow_right (by decide) h8
  have ok2 : ∀ f, OkB 7 8 (fdO i (rawS wa i.nw wc) mb mo mc tanks ffN .ready none ++ [(false, Obj.cells (rowA (boolE f) i.nm) 4 (0, 0))]) := fun f => fd_ok (by omega) okO_ffN ⟨.inr ⟨rfl, .inl (loose_boolE _ _)⟩, trivial⟩
  obtain ⟨d1, _, g1⟩ := h
  have hmk : cMake Tryd.prog 34 (.int .i64 (i.nm : Int)) (.int .i64 (i.nm : Int)) = some (4, rowA (boolE (bitsTo i.nm b 0)) i.nm, i.nm, 1) := by
    rw [← bitsTo_zero]
    exact cMake_row (P := Tryd.prog) (t := 34) (e := 4) (i := Go.Proofs.Tryd.t4) (zv := .bool false) (by kernel_rfl) (by kernel_rfl) (by kernel_rfl) (by kernel_rfl) (by decide) (by kernel_rfl) (by show 1 * i.nm ≤ _; omega) (by omega)
  have s2 : FdM i wa wc mb mo mc tanks w W b 0 := g1.headB goFns_ok mixed_ok (fd_writable hW)
    (fd_bits (worldLo w) i (rawS wa i.nw wc) mb mo mc tanks ((2 ^ i.nm : Nat) : Int) b (rowA (boolE (bitsTo i.nm b 0)) i.nm) d1) ⟨hmk, ltq_t (by omega), trivial⟩
    (by kernel_rfl) (by kernel_rfl) (by kernel_rfl) (by kernel_rfl) (by kernel_rfl) (by kernel_rfl) (by kernel_rfl) (by kernel_rfl) (by kernel_rfl) (by kernel_rfl) (ok2 _) (fun j hj hn => hs j hj hn _)
  have all : ∀ m, m ≤ i.nm → FdM i wa wc mb mo mc tanks w W b m := by
    intro m
    induction m with
    | zero => intro _; exact s2
    | succ m ih =>
      intro hm
      obtain ⟨d2, _, g2⟩ := ih (by omega)
      have hlt : m < i.nm := by omega
      have hle : b / 2 ^ (i.nm - 1 - m) ≤ b := Nat.div_le_self _ _
      exact g2.headB goFns_ok mixed_ok (fd_writable hW)
        (fd_bit (worldLo w) i (rawS wa i.nw wc) mb mo mc tanks ((2 ^ i.nm : Nat) : Int) b m (rowA (boolE (bitsTo i.nm b m)) i.nm) (rowA (boolE (bitsTo i.nm b (m + 1))) i.nm) ((b / 2 ^ (i.nm - 1 - m) : Nat) : Int) ((b / 2 ^ (i.nm - 1 - m) % 2 : Nat) : Int) (bitsDry i.nm b m) d2)
        ⟨wq_in (by omega) (by omega), bitsTo_splice hlt, ⟨rfl, hlt⟩, bit_eq, and1_eq (by omega), shr_eq (by omega), (wq_in (by omega) (by omega)).trans (by omega), wq_in (by omega) (by omega), ltq_t (by omega), trivial⟩
        (by kernel_rfl) (by kernel_rfl) (by kernel_rfl) (by kernel_rfl) (by kernel_rfl) (by kernel_rfl) (by kernel_rfl) (by kernel_rfl) (by kernel_rfl) (by kernel_rfl) (ok2 _) (fun j hj hn => hs j hj hn _)
  exact all i.nm (Nat.le_refl _)
set_option maxRecDepth 100000 in
theorem fd_heads (hi : IslAt w w.heap.size i wa (some ⟨mb, mo, none⟩)) (h1 : 1 ≤ i.nm) (hf : ∀ d, Fit i tanks (endTru i false i.nm d)) {W : List Nat} (hW : ∀ j ∈ W, j = 3 ∨ j = 6) (h6 : [6].all (fun j => W.contains j) = true)
    (hs : ∀ j, j < 7 → j ∉ W → ∀ l, hget (heapO 0 (fdO i (rawS wa i.nw wc) mb mo mc tanks ffN .ready none ++ l)) j = hget (heapO 0 (fdO i (rawS wa i.nw wc) mb mo mc tanks ffN .ready none)) j) :
    ∀ b, b ≤ 2 ^ i.nm → ftTo i tanks b = none → FdL i wa wc mb mo mc tanks w W b := by
  have h8 : i.nm ≤ 8 := (hf fun _ => false).nm
  have hml : i.nm ≤ maxLen := by unfold maxLen; omega
  have hp : 2 ^ i.nm ≤ 256 := Nat.pow_le_pow_right (by decide) h8
  have ok1 : OkB 7 7 (fdO i (rawS wa i.nw wc) mb mo mc tanks ffN .ready none) := fd_ok (l := []) (by omega) okO_ffN trivial
  intro b
  induction b with
  | zero =>
    intro _ _
    exact ((GoE.refl (P := Tryd.prog) (B := worldLo w) (c0 := fdC0) (under_heapO (fdO i (rawS wa i.nw wc) mb mo mc tanks ffN .ready none) (Nat.le_refl 7))).widen (Wf := W) (fun _ _ h => by simp at h) (fd_writable hW)).headB goFns_ok mixed_ok (fd_writable hW)
      (fd_entry (worldLo w) i (rawS wa i.nw wc) mb mo mc tanks ((2 ^ i.nm : Nat) : Int)) ⟨shl1_eq (by omega), trivial⟩
      (by kernel_rfl) (by kernel_rfl) (by kernel_rfl) (by kernel_rfl) (by kernel_rfl) (by kernel_rfl) (by kernel_rfl) (by kernel_rfl) (by kernel_rfl) (by kernel_rfl) ok1 (fun j hj hn => hs j hj hn [])
  | succ b ih =>
    intro hb hn
    obtain ⟨hn0, hbad⟩ := ftTo_none hn b (by omega)
    obtain ⟨d3, _, g3⟩ := fd_months h8 hW hs (by omega) (ih (by omega) hn0)
    rw [bitsTo_all] at g3
    cases hdr : drB i.most i.row i.nm (bitsDry i.nm b) with
    | false =>
      exact g3.headB goFns_ok mixed_ok (fd_writable hW)
        (fd_no (worldLo w) i (rawS wa i.nw wc) mb mo mc tanks ((2 ^ i.nm : Nat) : Int) b i.nm (rowA (boolE (bitsDry i.nm b)) i.nm) d3)
        ⟨wq_in (by omega) (by omega), hdr ▸ con_isDrought (w := w) (i := i) (wa := wa) (wc := wc) (ma := some ⟨mb, mo, none⟩) (mc := mc) (k := 7) (n := 8) (by omega) hml, ltq_f (by omega), trivial⟩
        (by kernel_rfl) (by kernel_rfl) (by kernel_rfl) (by kernel_rfl) (by kernel_rfl) (by kernel_rfl) (by kernel_rfl) (by kernel_rfl) (by kernel_rfl) (by kernel_rfl) ok1 (fun j hj hn => hs j hj hn [])
    | true =>
      exact g3.headB goFns_ok mixed_ok (fd_writable hW)
        (fd_yield (worldLo w) i (rawS wa i.nw wc) mb mo mc tanks ((2 ^ i.nm : Nat) : Int) b i.nm (rowA (boolE (bitsDry i.nm b)) i.nm) d3)
        ⟨wq_in (by omega) (by omega), fr_rj hi h1 (hf _) (hbad hdr), hdr ▸ con_isDrought (w := w) (i := i) (wa := wa) (wc := wc) (ma := some ⟨mb, mo, none⟩) (mc := mc) (k := 7) (n := 8) (by omega) hml, ltq_f (by omega), trivial⟩
        h6 (by kernel_rfl) (by kernel_rfl) (by kernel_rfl) (by kernel_rfl) (by kernel_rfl) (by kernel_rfl) (by kernel_rfl) (by kernel_rfl) (by kernel_rfl) ok1 (fun j hj hn => hs j hj hn [])
theorem fd_slots : SlotsOk 7 (fdC0 : CF).tmps := slots_args (by decide) fun v hv => by
  simp only [List.mem_cons, List.not_mem_nil, or_false] at hv
  rcases hv with rfl | rfl
  · exact .inr (by kernel_rfl)
  · exact .inr (by kernel_rfl)
set_option maxRecDepth 100000 in
theorem fd_rj (hi : IslAt w w.heap.size i wa (some ⟨mb, mo, none⟩)) (h1 : 1 ≤ i.nm) (hf : ∀ d, Fit i tanks (endTru i false i.nm d)) (hn : ftTo i tanks (2 ^ i.nm) = none) :
    RJ Tryd.prog (worldLo w) fdC0 ((List.range 7).map fun q => (q, hget (heapO 0 (fdO i (rawS wa i.nw wc) mb mo mc tanks ffN .ready none)) q)) 7 (.tuple #[]) [(6, .loop (ffS i (rawS wa i.nw wc) mb mo mc tanks .ready none))] 7 [6] := by
  have hW : ∀ j ∈ [6], j = 3 ∨ j = 6 := fun j hj => by simp at hj; exact .inr hj
  obtain ⟨d4, _, g4⟩ := fd_heads (wc := wc) (mc := mc) hi h1 hf hW rfl (fun j hj hn l => fd_same6 j hj hn) _ (Nat.le_refl _) hn
  have std := g4.stdF goFns_ok mixed_ok (fd_writable hW) (os := fdO i (rawS wa i.nw wc) mb mo mc tanks ffN .ready none)
    (fd_end (worldLo w) i (rawS wa i.nw wc) mb mo mc tanks ((2 ^ i.nm : Nat) : Int) (2 ^ i.nm) d4)
    ⟨ltq_f (by omega), trivial⟩ (by kernel_rfl) (by kernel_rfl) (by kernel_rfl) (by kernel_rfl) (by kernel_rfl) (by kernel_rfl) (by kernel_rfl) (by kernel_rfl) (fd_ok (l := []) (by omega) okO_ffN trivial) (fun _ _ _ => rfl)
  exact StdX.rj (os := fdO i (rawS wa i.nw wc) mb mo mc tanks ffN .ready none) (os' := fdO i (rawS wa i.nw wc) mb mo mc tanks ffN .ready none)
    std fd_slots (by kernel_rfl) rfl rfl (fun l e => by cases e) (fd_fix (l := []) (by show 6 ≤ 7; omega) okO_ffN (fun b hb => by simp at hb)) (fd_fix (l := []) (by show 6 ≤ 7; omega) okO_ffN (fun b hb => by simp at hb)) (by kernel_rfl) (by kernel_rfl) (by kernel_rfl) (by kernel_rfl) (by kernel_rfl) (by kernel_rfl)
set_option maxRecDepth 100000 in
theorem fd_rjB (hi : IslAt w w.heap.size i wa (some ⟨mb, mo, none⟩)) (h1 : 1 ≤ i.nm) (hf : ∀ d, Fit i tanks (endTru i false i.nm d)) {b m : Nat} (hn : ftTo i tanks (2 ^ i.nm) = some (b, m)) :
    RJ Tryd.prog (worldLo w) fdC0 ((List.range 7).map fun q => (q, hget (heapO 0 (fdO i (rawS wa i.nw wc) mb mo mc tanks ffN .ready none)) q)) 7 (.tuple #[])
      [(3, .cells (ffF 7 i.nm m (wrongRule i (endsOf i tanks false (bitsDry i.nm b) m)) (wrongWell i (endsOf i tanks false (bitsDry i.nm b) m))) 37 (0, 0)), (6, .loop (ffS i (rawS wa i.nw wc) mb mo mc tanks .done (some (.exit 0)))), (7, .cells (rowA (boolE (bitsDry i.nm b)) i.nm) 4 (0, 0))] 8 [3, 6] := by
  have hW : ∀ j ∈ [3, 6], j = 3 ∨ j = 6 := fun j hj => by simpa using hj
  have h8 : i.nm ≤ 8 := (hf fun _ => false).nm
  have hml : i.nm ≤ maxLen := by unfold maxLen; omega
  obtain ⟨hlt, hn0, hd, hb⟩ := ftTo_some hn
  obtain ⟨d3, _, g3⟩ := fd_months h8 hW (fun j hj hn l => fd_same j hj hn) hlt (fd_heads (wc := wc) (mc := mc) hi h1 hf hW rfl (fun j hj hn l => fd_same j hj hn) b (by omega) hn0)
  rw [bitsTo_all] at g3
  have std := g3.stdF goFns_ok mixed_ok (fd_writable hW) (os := fdO i (rawS wa i.nw wc) mb mo mc tanks (ffF 7 i.nm m (wrongRule i (endsOf i tanks false (bitsDry i.nm b) m)) (wrongWell i (endsOf i tanks false (bitsDry i.nm b) m))) .done (some (.exit 0)) ++ [(false, Obj.cells (rowA (boolE (bitsDry i.nm b)) i.nm) 4 (0, 0))])
    (fd_break (worldLo w) i (rawS wa i.nw wc) mb mo mc tanks ((2 ^ i.nm : Nat) : Int) b i.nm (rowA (boolE (bitsDry i.nm b)) i.nm) m (wrongRule i (endsOf i tanks false (bitsDry i.nm b) m)) (wrongWell i (endsOf i tanks false (bitsDry i.nm b) m)) d3)
    ⟨fr_rjB hi h1 (hf _) hb, hd ▸ con_isDrought (w := w) (i := i) (wa := wa) (wc := wc) (ma := some ⟨mb, mo, none⟩) (mc := mc) (k := 7) (n := 8) (by omega) hml, ltq_f (by omega), trivial⟩ (by kernel_rfl) (by kernel_rfl) (by kernel_rfl) (by kernel_rfl) (by kernel_rfl) (by kernel_rfl) (by kernel_rfl) (by kernel_rfl) (fd_ok (by omega) (okO_ffF (by show 8 ≤ 8; omega)) ⟨.inr ⟨rfl, .inl (loose_boolE _ _)⟩, trivial⟩) fd_same
  exact StdX.rj (os := fdO i (rawS wa i.nw wc) mb mo mc tanks ffN .ready none) (os' := fdO i (rawS wa i.nw wc) mb mo mc tanks (ffF 7 i.nm m (wrongRule i (endsOf i tanks false (bitsDry i.nm b) m)) (wrongWell i (endsOf i tanks false (bitsDry i.nm b) m))) .done (some (.exit 0)) ++ [(false, Obj.cells (rowA (boolE (bitsDry i.nm b)) i.nm) 4 (0, 0))])
    std fd_slots (by kernel_rfl) rfl rfl (fun l e => by cases e) (fd_fix (l := []) (by show 6 ≤ 7; omega) okO_ffN (fun b hb => by simp at hb)) (fd_fix (by show 6 ≤ 8; omega) (okO_ffF (by show 8 ≤ 8; omega)) fd_fixD) (by kernel_rfl) (by kernel_rfl) (by kernel_rfl) (by kernel_rfl) (by kernel_rfl) (by kernel_rfl)
/-- firstFault: nothing can go wrong. -/
theorem firstFault_fine (hi : IslAt w w.heap.size i wa ma) (h1 : 1 ≤ i.nm) (hf : ∀ d, Fit i tanks (endTru i false i.nm d)) (hn : ftTo i tanks (2 ^ i.nm) = none) :
    Calls Tryd.prog 22 #[islV i wa wc ma mc, .int .i64 tanks] w fun e' w' => e' = .returned (.agg ffN) ∧ Below w.heap.size w w' := by
  obtain ⟨mb, mo, rfl, _⟩ := monsGet hi.months (show 0 < i.nm by omega)
  have hcalls := (GoE.refl (P := Tryd.prog) (B := worldLo w) (c0 := entryC Tryd.prog 22 48 [islR i wa wc (some ⟨mb, mo, none⟩) mc, .int .i64 tanks]) under_nil).calls goFns_ok mixed_ok (f := 22) (args := #[islR i wa wc (some ⟨mb, mo, none⟩) mc, .int .i64 tanks]) (args' := #[islV i wa wc (some ⟨mb, mo, none⟩) mc, .int .i64 tanks]) (by kernel_rfl)
    (ff_fine (worldLo w) i (rawS wa i.nw wc) mb mo mc tanks) ⟨fd_rj hi h1 hf hn, con_droughts, trivial⟩ (worldLo_has w)
    (VRl.vrs' (.cons (vr_isl i wa wc (some ⟨mb, mo, none⟩) mc) (.cons (.int _ _) .nil)))
  exact hcalls.mono fun en w' ⟨v', μ', he, hv, hb, _⟩ => ⟨by rw [he, af_eq (v := .agg ffN) (by kernel_rfl) hv], hb⟩
theorem VR.agg4 {μ : Mu} {a b c d v' : Value} (h : VR μ (.agg #[a, b, c, d]) v') : ∃ a' b' c' d', v' = .agg #[a', b', c', d'] ∧ VR μ a a' ∧ VR μ b b' ∧ VR μ c c' ∧ VR μ d d' := by
  obtain ⟨ys, rfl, hl⟩ := h.agg_inv
  cases hl with
  | cons h1 hl => cases hl with
    | cons h2 hl => cases hl with
      | cons h3 hl => cases hl with
        | cons h4 hl => cases hl; exact ⟨_, _, _, _, rfl, h1, h2, h3, h4⟩
theorem boolE_af (d : Nat → Bool) (n : Nat) : ∀ v ∈ rowA (boolE d) n, af v = true := rowA_mem n fun j _ v hv => by
  simp only [boolE, List.mem_cons, List.not_mem_nil, or_false] at hv
  rw [hv]; rfl
/-- firstFault: the first fault, of the drought b in the month m. -/
theorem firstFault_bad (hi : IslAt w w.heap.size i wa ma) (h1 : 1 ≤ i.nm) (hf : ∀ d, Fit i tanks (endTru i false i.nm d)) {b m : Nat} (hn : ftTo i tanks (2 ^ i.nm) = some (b, m)) :
    Calls Tryd.prog 22 #[islV i wa wc ma mc, .int .i64 tanks] w fun e' w' => (∃ g c, e' = .returned (.agg #[.slice (some ⟨g, 0, none⟩) i.nm c, .int .i64 m, .int .i64 (wrongRule i (endsOf i tanks false (bitsDry i.nm b) m)), .int .i64 (wrongWell i (endsOf i tanks false (bitsDry i.nm b) m))]) ∧ w.heap.size ≤ g ∧ g < w'.heap.size ∧ i.nm ≤ c ∧ c ≤ maxLen ∧
      ∀ (j : Nat) v, (rowA (boolE (bitsDry i.nm b)) i.nm)[j]? = some v → w'.cell? ⟨g, j, none⟩ = some v) ∧ Below w.heap.size w w' := by
  obtain ⟨mb, mo, rfl, _⟩ := monsGet hi.months (show 0 < i.nm by omega)
  have hcalls := (GoE.refl (P := Tryd.prog) (B := worldLo w) (c0 := entryC Tryd.prog 22 48 [islR i wa wc (some ⟨mb, mo, none⟩) mc, .int .i64 tanks]) under_nil).calls goFns_ok mixed_ok (f := 22) (args := #[islR i wa wc (some ⟨mb, mo, none⟩) mc, .int .i64 tanks]) (args' := #[islV i wa wc (some ⟨mb, mo, none⟩) mc, .int .i64 tanks]) (by kernel_rfl)
    (ff_bad (worldLo w) i (rawS wa i.nw wc) mb mo mc tanks m (wrongRule i (endsOf i tanks false (bitsDry i.nm b) m)) (wrongWell i (endsOf i tanks false (bitsDry i.nm b) m)) (rowA (boolE (bitsDry i.nm b)) i.nm)) ⟨fd_rjB hi h1 hf hn, con_droughts, trivial⟩ (worldLo_has w)
    (VRl.vrs' (.cons (vr_isl i wa wc (some ⟨mb, mo, none⟩) mc) (.cons (.int _ _) .nil)))
  refine hcalls.mono fun en w' ⟨v', μ', he, hv, hb, hnew⟩ => ⟨?_, hb⟩
  have hrow := af_row (hnew 0 7 (rowA (boolE (bitsDry i.nm b)) i.nm) 4 rfl rfl) (boolE_af _ _)
  obtain ⟨g', cap, k1, k2, k3, k4⟩ := hrow
  obtain ⟨a', b', c', d', rfl, q1, q2, q3, q4⟩ := VR.agg4 hv
  obtain ⟨c, rfl, hc1, hc2⟩ := q1.slice_new k3
  have e2 := af_eq (v := .int .i64 m) rfl q2
  have e3 := af_eq (v := .int .i64 (wrongRule i (endsOf i tanks false (bitsDry i.nm b) m))) rfl q3
  have e4 := af_eq (v := .int .i64 (wrongWell i (endsOf i tanks false (bitsDry i.nm b) m))) rfl q4
  subst e2 e3 e4
  exact ⟨g', c, he, k1, k2, hc1, hc2, k4⟩
end
end Go.Proofs.YtffdidleebognaaDoor

namespace Go.Proofs.YtffdidleebognaaDoor
open Go Go.CE Go.Proofs Go.RowKit Lens
section
variable {i : Isl} {wa : Option Addr} {wc mb mo mc : Nat} {ma : Option Addr} {tanks : Int} {w : World} {dk : Nat → Value} {k : Nat}
end
end Go.Proofs.YtffdidleebognaaDoor

namespace Go.Proofs.YtffdidleebognaaDoor
open Go Go.CE Go.Proofs Go.RowKit Lens
theorem fit_end {i : Isl} {tanks : Int} (hi : islB i = true) (ht : tanksB tanks = true) (much : Bool) (nd : Nat) (d : Nat → Bool) : Fit i tanks (endTru i much nd d) := by
  simp only [islB, monthsB, tanksB, Bool.and_eq_true, isInB_iff, isSpanB_iff, allTo_iff] at hi ht
  obtain ⟨⟨⟨⟨⟨⟨⟨⟨⟨⟨⟨⟨i1, i2⟩, i3⟩, i4⟩, i5⟩, i6⟩, i7⟩, i8⟩, i9⟩, i10⟩, ⟨i11, i12⟩⟩, i13⟩, i14⟩ := hi
  have mon : ∀ k, k < i.nm → (0 ≤ (i.months k).wl ∧ (i.months k).wl ≤ (i.months k).wh ∧ (i.months k).wh ≤ 2000) ∧ (0 ≤ (i.months k).dl ∧ (i.months k).dl ≤ (i.months k).dh ∧ (i.months k).dh ≤ 2000) ∧ (0 ≤ (i.months k).nl ∧ (i.months k).nl ≤ (i.months k).nh ∧ (i.months k).nh ≤ 10000000) := by
    intro k hk
    have := i12 k hk
    simp only [monB, Bool.and_eq_true, isSpanB_iff, decide_eq_true_eq] at this
    obtain ⟨⟨⟨⟨m1, m2⟩, m3⟩, _⟩, _⟩ := this
    exact ⟨m1, m2, m3⟩
  refine ⟨by omega, by omega, i3.1, i3.2, i4.1, i4.2, i7.1, i7.2, i9.1, i9.2, i8.1, i8.2, ht.1, ht.2, by omega, ?_, ?_, ?_, ?_, ?_, ?_, rfl, rfl, ?_, ?_⟩
  · cases much <;> simp only [endTru, lohi] <;> simp <;> omega
  · cases much <;> simp only [endTru, lohi] <;> simp <;> omega
  · cases much <;> simp only [endTru, lohi] <;> simp <;> omega
  · cases much <;> simp only [endTru, lohi] <;> simp <;> omega
  · cases much <;> simp only [endTru, lohi] <;> simp <;> omega
  · cases much <;> simp only [endTru, lohi] <;> simp <;> omega
  · intro k hk
    have := mon k hk
    cases much <;> cases h : d k <;> simp only [endTru, lohi, rlo, rhi, h] <;> simp <;> omega
  · intro k hk
    have := mon k hk
    cases much <;> simp only [endTru, lohi] <;> simp <;> omega
section
variable {i : Isl} {wa : Option Addr} {wc mc : Nat} {ma : Option Addr} {tanks : Int} {w : World}
theorem con_isIslet {n : Nat} (hi : IslAt w w.heap.size i wa ma) : CJ Tryd.prog (worldLo w) 19 #[islR i wa wc ma mc] [] n (.bool (islB i)) [] n [] :=
  con_of (.cons (exact_isl _ _ _ _ _) .nil) (exact_af rfl) fun w' hw => isIslet_any i wa wc ma mc w' (islAt_lo hi hw)
theorem con_areTanks {n : Nat} : CJ Tryd.prog (worldLo w) 21 #[.int .i64 tanks] [] n (.bool (tanksB tanks)) [] n [] :=
  con_of (l := [.int .i64 tanks]) (l' := [.int .i64 tanks]) (.cons (exact_af rfl) .nil) (exact_af rfl) fun w' _ => (areTanks_any tanks w').mono fun _ _ ⟨h1, h2⟩ => ⟨h1, h2 ▸ Below.refl _ _⟩
end
end Go.Proofs.YtffdidleebognaaDoor

namespace Go.Proofs.YtffdidleebognaaDoor
open Go Go.CE Go.Proofs Go.RowKit Lens
def ffQ (b nm : Nat) (m r w : Int) : Array Value := #[.slice (some ⟨b, 0, none⟩) nm 0, .int .i64 m, .int .i64 r, .int .i64 w]
set_option maxRecDepth 100000 in
theorem fw_fine (B : Lo) (i : Isl) (W M : Value) (tanks : Int) : ended (srun Tryd.prog goFns B 11 0 (entryC Tryd.prog 8 18 [.agg (islC i W M), .int .i64 tanks]) [] 0
    [(4, Hint.call [] (Value.bool true) [] 2 []),
(8, Hint.call [] (Value.bool true) [] 2 []),
(13, Hint.call [] (Value.agg ffN) [] 2 [])] 0 [] []) [] = some ⟨.ret (.tuple #[.agg ffN, .int .i64 0]), [], 2,
    [CJ Tryd.prog B 22
  #[Value.agg
      #[Value.int IntKind.i64 (Isl.cap i), Value.int IntKind.i64 (Isl.sl i), Value.int IntKind.i64 (Isl.sh i),
        Value.int IntKind.i64 (Isl.roof i), Value.int IntKind.i64 (Isl.sand i), Value.int IntKind.i64 (Isl.kl i),
        Value.int IntKind.i64 (Isl.kh i), Value.int IntKind.i64 (Isl.ll i), Value.int IntKind.i64 (Isl.lh i),
        Value.int IntKind.i64 (Isl.pump i), Value.int IntKind.i64 (Isl.keep i), Value.int IntKind.i64 (Isl.size i), W,
        M, Value.int IntKind.i64 (Isl.most i), Value.int IntKind.i64 (Isl.row i)],
    Value.int IntKind.i64 tanks]
  [] 2 (Value.agg ffN) [] 2 [],
CJ Tryd.prog B 21 #[Value.int IntKind.i64 tanks] [] 2 (Value.bool true) [] 2 [],
CJ Tryd.prog B 19
  #[Value.agg
      #[Value.int IntKind.i64 (Isl.cap i), Value.int IntKind.i64 (Isl.sl i), Value.int IntKind.i64 (Isl.sh i),
        Value.int IntKind.i64 (Isl.roof i), Value.int IntKind.i64 (Isl.sand i), Value.int IntKind.i64 (Isl.kl i),
        Value.int IntKind.i64 (Isl.kh i), Value.int IntKind.i64 (Isl.ll i), Value.int IntKind.i64 (Isl.lh i),
        Value.int IntKind.i64 (Isl.pump i), Value.int IntKind.i64 (Isl.keep i), Value.int IntKind.i64 (Isl.size i), W,
        M, Value.int IntKind.i64 (Isl.most i), Value.int IntKind.i64 (Isl.row i)]]
  [] 2 (Value.bool true) [] 2 []]⟩ := by kernel_rfl
set_option maxRecDepth 100000 in
theorem fw_bad (B : Lo) (i : Isl) (W M : Value) (tanks m r v : Int) (D : Array Value) : endedB (srun Tryd.prog goFns B 11 0 (entryC Tryd.prog 8 18 [.agg (islC i W M), .int .i64 tanks]) (heapO 0 []) 0
    [(4, Hint.call [] (Value.bool true) [] 2 []),
(8, Hint.call [] (Value.bool true) [] 2 []),
(13, Hint.call [] (Value.agg (ffQ 2 (Isl.nm i) m r v)) [(2, Obj.cells D 4 (1, 1))] 3 [])] 0 [] []) ((kz [2] [(false, .cells D 4 (1, 1))]).map (·.old)) = some (⟨.ret (rnV (rhoK (kz [2] [(false, .cells D 4 (1, 1))])) 3 (.tuple #[.agg (ffQ 0 i.nm m r v), .int .i64 0])), (kz [2] [(false, .cells D 4 (1, 1))]).map (fun kept_ => some (wasK (rhoK (kz [2] [(false, .cells D 4 (1, 1))])) kept_)), 3,
    [CJ Tryd.prog B 22
  #[Value.agg
      #[Value.int IntKind.i64 (Isl.cap i), Value.int IntKind.i64 (Isl.sl i), Value.int IntKind.i64 (Isl.sh i),
        Value.int IntKind.i64 (Isl.roof i), Value.int IntKind.i64 (Isl.sand i), Value.int IntKind.i64 (Isl.kl i),
        Value.int IntKind.i64 (Isl.kh i), Value.int IntKind.i64 (Isl.ll i), Value.int IntKind.i64 (Isl.lh i),
        Value.int IntKind.i64 (Isl.pump i), Value.int IntKind.i64 (Isl.keep i), Value.int IntKind.i64 (Isl.size i), W,
        M, Value.int IntKind.i64 (Isl.most i), Value.int IntKind.i64 (Isl.row i)],
    Value.int IntKind.i64 tanks]
  [] 2 (Value.agg (ffQ 2 (Isl.nm i) m r v)) [(2, Obj.cells D 4 (1, 1))] 3 [],
CJ Tryd.prog B 21 #[Value.int IntKind.i64 tanks] [] 2 (Value.bool true) [] 2 [],
CJ Tryd.prog B 19
  #[Value.agg
      #[Value.int IntKind.i64 (Isl.cap i), Value.int IntKind.i64 (Isl.sl i), Value.int IntKind.i64 (Isl.sh i),
        Value.int IntKind.i64 (Isl.roof i), Value.int IntKind.i64 (Isl.sand i), Value.int IntKind.i64 (Isl.kl i),
        Value.int IntKind.i64 (Isl.kh i), Value.int IntKind.i64 (Isl.ll i), Value.int IntKind.i64 (Isl.lh i),
        Value.int IntKind.i64 (Isl.pump i), Value.int IntKind.i64 (Isl.keep i), Value.int IntKind.i64 (Isl.size i), W,
        M, Value.int IntKind.i64 (Isl.most i), Value.int IntKind.i64 (Isl.row i)]]
  [] 2 (Value.bool true) [] 2 []]⟩, []) := by kernel_rfl
section
variable {i : Isl} {wa : Option Addr} {wc mc : Nat} {ma : Option Addr} {tanks : Int} {w : World} {n : Nat}
theorem isl_nm (h1 : islB i = true) : 1 ≤ i.nm ∧ i.nm ≤ 8 ∧ 0 ≤ i.most ∧ 0 ≤ i.row := by
  simp only [islB, monthsB, Bool.and_eq_true, isInB_iff] at h1
  omega
theorem exl_it : ExL [islR i wa wc ma mc, .int .i64 tanks] [islV i wa wc ma mc, .int .i64 tanks] := .cons (exact_isl _ _ _ _ _) (.cons (exact_af rfl) .nil)
theorem ex_fault (a b c e : Int) : Exact (.tuple #[.agg #[.slice none 0 0, .int .i64 a, .int .i64 b, .int .i64 c], .int .i64 e]) (.tuple #[.agg #[.slice none 0 0, .int .i64 a, .int .i64 b, .int .i64 c], .int .i64 e]) :=
  exact_tuple (.cons (exact_agg (.cons (exact_af rfl) (.cons (exact_af rfl) (.cons (exact_af rfl) (.cons (exact_af rfl) .nil))))) (.cons (exact_af rfl) .nil))
theorem con_firstFine (hi : IslAt w w.heap.size i wa ma) (h1 : islB i = true) (h2 : tanksB tanks = true) (hn : ftTo i tanks (2 ^ i.nm) = none) :
    CJ Tryd.prog (worldLo w) 22 #[islR i wa wc ma mc, .int .i64 tanks] [] n (.agg ffN) [] n [] :=
  con_of (v' := .agg ffN) exl_it (exact_af (by kernel_rfl)) fun _ hw => firstFault_fine (islAt_lo hi hw) (isl_nm h1).1 (fun d => fit_end h1 h2 false _ d) hn
theorem con_firstBad {b m : Nat} (hi : IslAt w w.heap.size i wa ma) (h1 : islB i = true) (h2 : tanksB tanks = true) (hn : ftTo i tanks (2 ^ i.nm) = some (b, m)) :
    CJ Tryd.prog (worldLo w) 22 #[islR i wa wc ma mc, .int .i64 tanks] [] n (.agg (ffQ n i.nm m (wrongRule i (endsOf i tanks false (bitsDry i.nm b) m)) (wrongWell i (endsOf i tanks false (bitsDry i.nm b) m)))) [(n, .cells (rowA (boolE (bitsDry i.nm b)) i.nm) 4 (1, 1))] (n + 1) [] :=
  cj_row (boolE_af _ _) fun μ w' args' hB ha => by
    rw [exl_it.args ha]
    refine (firstFault_bad (islAt_lo hi hB) (isl_nm h1).1 (fun d => fit_end h1 h2 false _ d) hn).mono fun e w'' ⟨⟨g, c, he, k1, k2, k3, k4, k5⟩, hb⟩ => ⟨⟨g, _, k1, k2, he, k5, fun μ' hμ => ?_⟩, hb⟩
    exact vr_aggl (.cons (.slice ⟨_, hμ, rfl, rfl⟩ k3 k4 fun h => absurd rfl h) (.cons (.int _ _) (.cons (.int _ _) (.cons (.int _ _) .nil))))
theorem Fault_fine (hi : IslAt w w.heap.size i wa ma) (h1 : islB i = true) (h2 : tanksB tanks = true) (hn : ftTo i tanks (2 ^ i.nm) = none) : Calls Tryd.prog 8 #[islV i wa wc ma mc, .int .i64 tanks] w fun e' w' => e' = .returned (.tuple #[.agg ffN, .int .i64 0]) ∧ Below w.heap.size w w' :=
  ((GoE.refl under_nil).calls goFns_ok mixed_ok (f := 8) (args := #[islR i wa wc ma mc, .int .i64 tanks]) (by kernel_rfl) (fw_fine (worldLo w) i (rawS wa i.nw wc) (rawS ma i.nm mc) tanks) ⟨con_firstFine hi h1 h2 hn, h2 ▸ con_areTanks, h1 ▸ con_isIslet hi, trivial⟩ (worldLo_has w) (VRl.vrs' exl_it.vrl)).mono fun _ _ ⟨v', _, he, hv, hb, _⟩ => ⟨by rw [he, (ex_fault _ _ _ _).2 _ _ hv]; rfl, hb⟩
theorem con_FaultFine (hi : IslAt w w.heap.size i wa ma) (h1 : islB i = true) (h2 : tanksB tanks = true) (hn : ftTo i tanks (2 ^ i.nm) = none) : CJ Tryd.prog (worldLo w) 8 #[islR i wa wc ma mc, .int .i64 tanks] [] n (.tuple #[.agg ffN, .int .i64 0]) [] n [] :=
  con_of (v' := .tuple #[.agg ffN, .int .i64 0]) exl_it (ex_fault _ _ _ _) fun _ hw => Fault_fine (islAt_lo hi hw) h1 h2 hn
theorem con_FaultBad {b m : Nat} (hi : IslAt w w.heap.size i wa ma) (h1 : islB i = true) (h2 : tanksB tanks = true) (hn : ftTo i tanks (2 ^ i.nm) = some (b, m)) :
    CJ Tryd.prog (worldLo w) 8 #[islR i wa wc ma mc, .int .i64 tanks] [] n (.tuple #[.agg (ffQ n i.nm m (wrongRule i (endsOf i tanks false (bitsDry i.nm b) m)) (wrongWell i (endsOf i tanks false (bitsDry i.nm b) m))), .int .i64 0]) [(n, .cells (rowA (boolE (bitsDry i.nm b)) i.nm) 4 (1, 1))] (n + 1) [] := by
  have hA : looseO (.cells (rowA (boolE (bitsDry i.nm b)) i.nm) 4 (1, 1)) := loose_boolE _ _
  have h : StdJ Tryd.prog (worldLo w) 8 #[islR i wa wc ma mc, .int .i64 tanks] (heapO 0 []) 0 (.tuple #[.agg (ffQ 0 i.nm m (wrongRule i (endsOf i tanks false (bitsDry i.nm b) m)) (wrongWell i (endsOf i tanks false (bitsDry i.nm b) m))), .int .i64 0]) (heapO 0 [(false, .cells (rowA (boolE (bitsDry i.nm b)) i.nm) 4 (1, 1))]) 1 [] :=
    (GoE.refl (P := Tryd.prog) (B := worldLo w) (c0 := entryC Tryd.prog 8 18 [islR i wa wc ma mc, .int .i64 tanks]) (under_heapO [] (Nat.le_refl 0))).std goFns_ok mixed_ok (by kernel_rfl) (writable_nil _ _)
      (os := [(false, .cells (rowA (boolE (bitsDry i.nm b)) i.nm) 4 (1, 1))]) (fw_bad (worldLo w) i (rawS wa i.nw wc) (rawS ma i.nm mc) tanks m (wrongRule i (endsOf i tanks false (bitsDry i.nm b) m)) (wrongWell i (endsOf i tanks false (bitsDry i.nm b) m)) (rowA (boolE (bitsDry i.nm b)) i.nm)) ⟨con_firstBad hi h1 h2 hn, h2 ▸ con_areTanks, h1 ▸ con_isIslet hi, trivial⟩
      (by kernel_rfl) (by kernel_rfl) (by kernel_rfl) (by kernel_rfl) (by kernel_rfl) (by kernel_rfl) (by kernel_rfl) (by kernel_rfl) ⟨.inr ⟨rfl, .inl hA⟩, trivial⟩ (fun j hj _ => by omega)
  have hloose : ∀ x ∈ ([] : List (Bool × Obj)) ++ [(false, Obj.cells (rowA (boolE (bitsDry i.nm b)) i.nm) 4 (1, 1))], looseO x.2 := by
    intro x hx
    simp only [List.nil_append, List.mem_cons, List.not_mem_nil, or_false] at hx
    rw [hx]; exact hA
  rcases wa with _ | ⟨x, o, _ | z⟩ <;> rcases ma with _ | ⟨x', o', _ | z'⟩
  all_goals exact (StdJ.rows (kept := []) (l := []) (n := n) h rfl (fun k hk => by simp at hk) rfl hloose (by kernel_rfl) (by kernel_rfl)).cast (by kernel_rfl) (by kernel_rfl) (by kernel_rfl) (by kernel_rfl) (by kernel_rfl)
end
end Go.Proofs.YtffdidleebognaaDoor

namespace Lens
theorem leak_mono {b b' l l' : Int} (h0 : 0 ≤ b) (hb : b ≤ b') (_hl0 : 0 ≤ l') (hl : l' ≤ l) (h1 : l ≤ 1000) : b - b * l / 1000 ≤ b' - b' * l' / 1000 := by
  have p1 : b' * l' ≤ b' * l := Int.mul_le_mul_of_nonneg_left hl (by omega)
  have p2 : (b' - b) * l ≤ (b' - b) * 1000 := Int.mul_le_mul_of_nonneg_left h1 (by omega)
  have p3 : (b' - b) * l = b' * l - b * l := Int.sub_mul _ _ _
  generalize b' * l' = x at *
  generalize b' * l = y at *
  generalize b * l = z at *
  omega
theorem min_mono {x x' f a a' : Int} (h : x ≤ x') (e : (if x < f then x else f) = a) (e' : (if x' < f then x' else f) = a') : a ≤ a' := by
  split at e <;> split at e' <;> omega
/-- What is left of tanks, and what is still wanted. -/
theorem take_mono {a a' n n' T T' : Int} (ha : a ≤ a') (hn : n' ≤ n) (e : (if n < a then n else a) = T) (e' : (if n' < a' then n' else a') = T') : a - T ≤ a' - T' ∧ n' - T' ≤ n - T := by
  split at e <;> split at e' <;> omega
theorem pump_mono {c c' r r' p k M M' U U' : Int} (hc : c ≤ c') (hr : r' ≤ r) (hr0 : 0 ≤ r') (hp : 0 ≤ p) (eM : (if k < c then c - k else 0) = M) (eM' : (if k < c' then c' - k else 0) = M')
    (e : (if M < (if p < r then p else r) then M else (if p < r then p else r)) = U) (e' : (if M' < (if p < r' then p else r') then M' else (if p < r' then p else r')) = U') : c - U ≤ c' - U' ∧ r' - U' ≤ r - U := by
  obtain ⟨q, hq⟩ : ∃ x, (if p < r then p else r) = x := ⟨_, rfl⟩
  obtain ⟨q', hq'⟩ : ∃ x, (if p < r' then p else r') = x := ⟨_, rfl⟩
  rw [hq] at e
  rw [hq'] at e'
  have h1 : q ≤ p ∧ q ≤ r ∧ (q = p ∨ q = r) := by split at hq <;> omega
  have h2 : q' ≤ p ∧ q' ≤ r' ∧ (q' = p ∨ q' = r') := by split at hq' <;> omega
  have h3 : 0 ≤ M ∧ c - k ≤ M ∧ (M = 0 ∨ M = c - k) := by split at eM <;> omega
  have h4 : 0 ≤ M' ∧ c' - k ≤ M' ∧ (M' = 0 ∨ M' = c' - k) := by split at eM' <;> omega
  have h5 : U ≤ M ∧ U ≤ q ∧ (U = M ∨ U = q) := by split at e <;> omega
  have h6 : U' ≤ M' ∧ U' ≤ q' ∧ (U' = M' ∨ U' = q') := by split at e' <;> omega
  clear hq hq' eM eM' e e'
  omega
/-- A state with less water than another one. -/
structure Less (s s' : St) : Prop where
  tanks : s.tanks ≤ s'.tanks
  lens : s.lens ≤ s'.lens
  lack : s'.lack ≤ s.lack
/-- A truth with less water than another one, in the first n months. -/
structure LessT (n : Nat) (t t' : Tru) : Prop where
  start : t.start ≤ t'.start
  soak : t.soak ≤ t'.soak
  leak : t'.leak ≤ t.leak
  rains : ∀ k, k < n → t.rains k ≤ t'.rains k
  needs : ∀ k, k < n → t'.needs k ≤ t.needs k
end Lens

namespace Go.Proofs.YtffdidleebognaaDoor
open Lens
theorem firstLow_none {i : Isl} {s : Seen} : ∀ n, firstLow i s n = none ↔ ∀ k, k < n → i.wells k ≤ s.lens
  | 0 => by simp [firstLow]
  | n + 1 => by
    have ih := firstLow_none (i := i) (s := s) n
    simp only [firstLow]
    constructor
    · intro h k hk
      split at h
      · cases h
      · rename_i h0
        split at h
        · cases h
        · rename_i h1
          rcases Nat.lt_or_ge k n with hlt | hge
          · exact ih.1 h0 k hlt
          · have : k = n := by omega
            subst this
            omega
    · intro h
      rw [ih.2 fun k hk => h k (by omega)]
      have := h n (by omega)
      simp only [show ¬ s.lens < i.wells n by omega, if_false]
theorem wrongRule_iff {i : Isl} {s : Seen} : wrongRule i s = 1 ↔ s.lack ≤ 0 ∧ ∀ k, k < i.nw → i.wells k ≤ s.lens := by
  rw [← firstLow_none]
  unfold wrongRule
  constructor
  · intro h
    split at h
    · omega
    · refine ⟨by omega, ?_⟩
      generalize firstLow i s i.nw = x at *
      cases x with
      | none => rfl
      | some k => simp at h
  · rintro ⟨h1, h2⟩
    rw [if_neg (by omega), h2]
theorem wrong_mono {i : Isl} {s s' : Seen} (h : wrongRule i s = 1) (h1 : s.lens ≤ s'.lens) (h2 : s'.lack ≤ s.lack) : wrongRule i s' = 1 := by
  rw [wrongRule_iff] at h ⊢
  exact ⟨by omega, fun k hk => Int.le_trans (h.2 k hk) h1⟩
end Go.Proofs.YtffdidleebognaaDoor

namespace Go.Proofs.YtffdidleebognaaDoor
open Lens
theorem min_mono2 {x x' f f' a a' : Int} (h : x ≤ x') (hf : f ≤ f') (e : (if x < f then x else f) = a) (e' : (if x' < f' then x' else f') = a') : a ≤ a' := by
  split at e <;> split at e' <;> omega
theorem step_mono2 {i : Isl} {tanks tanks' : Int} {t t' : Tru} (h : Fit i tanks t) (h' : Fit i tanks' t') (hT : i.size * tanks ≤ i.size * tanks') (hl : LessT i.nm t t') {k : Nat} (hk : k < i.nm) {s s' : St} (hs : StOk i (i.size * tanks) k s) (hs' : StOk i (i.size * tanks') k s') (ht : s.tanks ≤ s'.tanks) (hle : s.lens ≤ s'.lens) :
    Less (stepSt i (i.size * tanks) t k s) (stepSt i (i.size * tanks') t' k s') := by
  obtain ⟨r1, r2, a, b, g, T, M, U, p⟩ := parts h hk hs
  obtain ⟨r1', r2', a', b', g', T', M', U', p'⟩ := parts h' hk hs'
  have hr := hl.rains k hk
  have hn := hl.needs k hk
  have q0 := (h.rain k hk).1
  have q1 := (h'.rain k hk).1
  have x1 : r1 ≤ r1' := by
    rw [← p.e1, ← p'.e1]
    exact Int.ediv_le_ediv (by decide) (Int.mul_le_mul_of_nonneg_left hr h.roof0)
  have x2 : r2 ≤ r2' := by
    rw [← p.e2, ← p'.e2]
    exact Int.ediv_le_ediv (by decide) (Int.mul_le_mul (Int.mul_le_mul_of_nonneg_left hr h.sand0) hl.soak h.soak0 (Int.mul_nonneg h.sand0 q1))
  have ha : a ≤ a' := min_mono2 (by omega) hT p.ea p'.ea
  have hb : b ≤ b' := min_mono (by omega) p.eb p'.eb
  have hc : b - g ≤ b' - g' := by
    rw [← p.eg, ← p'.eg]
    exact leak_mono p.b0 hb h'.leak0 hl.leak h.leak1
  obtain ⟨y1, y2⟩ := take_mono ha hn p.eT p'.eT
  obtain ⟨z1, z2⟩ := pump_mono hc y2 (by have := p'.T1; omega) h.pump0 p.eM' p'.eM' p.eU p'.eU
  rw [p.out, p'.out]
  exact ⟨y1, z1, z2⟩
theorem run_mono2 {i : Isl} {tanks tanks' : Int} {t t' : Tru} (h : Fit i tanks t) (h' : Fit i tanks' t') (hT : i.size * tanks ≤ i.size * tanks') (hl : LessT i.nm t t') : ∀ k, k ≤ i.nm → Less (runTo i tanks t k) (runTo i tanks' t' k)
  | 0, _ => ⟨hT, hl.start, Int.le_refl _⟩
  | k + 1, hk => by
    have ih := run_mono2 h h' hT hl k (by omega)
    exact step_mono2 h h' hT hl (by omega) (runTo_ok h (by omega)) (runTo_ok h' (by omega)) ih.tanks ih.lens
theorem lessT_refl (n : Nat) (t : Tru) : LessT n t t := ⟨Int.le_refl _, Int.le_refl _, Int.le_refl _, fun _ _ => Int.le_refl _, fun _ _ => Int.le_refl _⟩
/-- Nothing can go wrong with a number of tanks. -/
def fine (i : Isl) (tanks : Int) : Bool := (ftTo i tanks (2 ^ i.nm)).isNone
theorem fine_iff {i : Isl} {tanks : Int} : fine i tanks = true ↔ ftTo i tanks (2 ^ i.nm) = none := by simp [fine]
theorem badTo_of {i : Isl} {tanks : Int} {d : Nat → Bool} : ∀ m, (∀ k, k < m → wrongRule i (endsOf i tanks false d k) = 1) → badTo i tanks d m = none
  | 0, _ => rfl
  | m + 1, h => by simp only [badTo, badTo_of m fun k hk => h k (by omega), h m (by omega), if_true]
theorem ftTo_of {i : Isl} {tanks : Int} : ∀ n, (∀ b, b < n → drB i.most i.row i.nm (bitsDry i.nm b) = true → badTo i tanks (bitsDry i.nm b) i.nm = none) → ftTo i tanks n = none
  | 0, _ => rfl
  | n + 1, h => by
    simp only [ftTo, ftTo_of n fun b hb => h b (by omega)]
    split
    · rename_i hd
      rw [h n (by omega) hd]; rfl
    · rfl
theorem fine_mono {i : Isl} {t t' : Int} (h1 : islB i = true) (h2 : tanksB t = true) (h3 : tanksB t' = true) (hle : t ≤ t') (h : fine i t = true) : fine i t' = true := by
  rw [fine_iff] at h ⊢
  refine ftTo_of _ fun b hb hd => badTo_of _ fun k hk => ?_
  have hb0 := (ftTo_none h b hb).2 hd
  have hw := (badTo_none hb0 k hk).1
  have hs : 0 ≤ i.size := by
    have h := h1
    simp only [islB, Bool.and_eq_true, isInB_iff] at h
    obtain ⟨⟨⟨⟨⟨_, h9⟩, _⟩, _⟩, _⟩, _⟩ := h
    omega
  have m := run_mono2 (fit_end h1 h2 false i.nm (bitsDry i.nm b)) (fit_end h1 h3 false i.nm (bitsDry i.nm b)) (Int.mul_le_mul_of_nonneg_left hle hs) (lessT_refl _ _) (k + 1) (by omega)
  exact wrong_mono hw m.lens m.lack
/-- The fewest tanks, as fewest finds them: 40 if there are none, too. -/
structure Few (i : Isl) (n : Int) : Prop where
  n0 : 0 ≤ n
  n1 : n ≤ 40
  low : ∀ t, 0 ≤ t → t < n → fine i t = false
  high : ∀ t, n ≤ t → t < 40 → fine i t = true
theorem tanksB_iff {t : Int} : tanksB t = true ↔ 0 ≤ t ∧ t ≤ 40 := by simp [tanksB, isInB_iff]
theorem few_ex {i : Isl} (h1 : islB i = true) : ∃ n, Few i n := by
  have : ∀ k : Nat, k ≤ 40 → (∀ t : Int, 0 ≤ t → t < k → fine i t = false) ∨ ∃ n, Few i n := by
    intro k
    induction k with
    | zero => intro _; exact .inl fun t h0 h1 => by omega
    | succ k ih =>
      intro hk
      rcases ih (by omega) with hlow | hex
      · cases hf : fine i (k : Int) with
        | true => exact .inr ⟨k, by omega, by omega, hlow, fun t ht0 ht1 => fine_mono h1 (tanksB_iff.2 (by omega)) (tanksB_iff.2 (by omega)) ht0 hf⟩
        | false =>
          refine .inl fun t h0 h1 => ?_
          rcases (show t < k ∨ t = k by omega) with h | rfl
          · exact hlow t h0 h
          · exact hf
      · exact .inr hex
  rcases this 40 (by omega) with h | h
  · exact ⟨40, by omega, by omega, fun t a b => h t a (by omega), fun t a b => by omega⟩
  · exact h
end Go.Proofs.YtffdidleebognaaDoor

namespace Go.Proofs.YtffdidleebognaaDoor
open Go Go.CE Go.Proofs Go.RowKit Lens
def foO (i : Isl) (W M : Value) (es : Array MapEntry) (clk : Nat) : List (Bool × Obj) :=
  [(false, .cells (islC i W M) 27 (0, 0)), (false, .map es clk), (true, .cells #[.map (some 1)] 81 (0, 0))]
def foL (lo hi : Int) : List (Nat × Value) := [(1, .pointer (some ⟨0, 0, none⟩)), (4, .pointer (some ⟨2, 0, none⟩)), (5, .func (.func 35) #[] #[.pointer (some ⟨2, 0, none⟩), .pointer (some ⟨0, 0, none⟩)]), (6, .int .i64 lo), (7, .int .i64 hi)]
def foT : List It := [.code [1, 1, 1, 1, 0, 0, 0], .inLoop [1, 1, 1, 1, 0, 0, 0], .inBlock 0, .code [1, 1, 1, 1, 1]]
set_option maxRecDepth 100000 in
theorem fs_has (B : Lo) (i : Isl) (W M : Value) (es : Array MapEntry) (clk : Nat) (tanks : Int) (y : Bool) : endedB (srun Tryd.prog goFns B 13 3 (entryC Tryd.prog 35 24 [.int .i64 tanks, .pointer (some ⟨2, 0, none⟩), .pointer (some ⟨0, 0, none⟩)]) (heapO 0 (foO i W M es clk)) 3
    [(3, Hint.look (Value.tuple #[Value.bool y, Value.bool true]))] 0 [] []) ((kz [0, 1, 2] (foO i W M es clk)).map (·.old)) = some (⟨.ret (rnV (rhoK (kz [0, 1, 2] (foO i W M es clk))) 3 (.bool y)), (kz [0, 1, 2] (foO i W M es clk)).map (fun kept_ => some (wasK (rhoK (kz [0, 1, 2] (foO i W M es clk))) kept_)), 3,
    [MapGet Tryd.prog 81 es true
  (tget { len := 16000, tr := Tri.set 14 (Tri.set 14 Tri.lf 9 (Value.int IntKind.i64 tanks)) 8 (Value.map (some 1)) } 9)
  (Value.tuple #[Value.bool y, Value.bool true])]⟩, []) := by kernel_rfl
set_option maxRecDepth 100000 in
theorem fs_fine (B : Lo) (i : Isl) (W M : Value) (es es' : Array MapEntry) (clk clk' : Nat) (tanks : Int) : endedB (srun Tryd.prog goFns B 15 3 (entryC Tryd.prog 35 24 [.int .i64 tanks, .pointer (some ⟨2, 0, none⟩), .pointer (some ⟨0, 0, none⟩)]) (heapO 0 (foO i W M es clk)) 3
    [(3, Hint.look (Value.tuple #[Value.bool false, Value.bool false])),
(13, Hint.call [] (Value.agg ffN) [] 3 []),
(20, Hint.upd es' clk')] 0 [] []) ((kz [0, 1, 2] (foO i W M es' clk')).map (·.old)) = some (⟨.ret (rnV (rhoK (kz [0, 1, 2] (foO i W M es' clk'))) 3 (.bool true)), (kz [0, 1, 2] (foO i W M es' clk')).map (fun kept_ => some (wasK (rhoK (kz [0, 1, 2] (foO i W M es' clk'))) kept_)), 3,
    [MapPut Tryd.prog 81 es clk
  (tget
    { len := 16000,
      tr :=
        Tri.set 14 (Tri.set 14 (Tri.set 14 Tri.lf 22 (Value.bool true)) 21 (Value.int IntKind.i64 tanks)) 20
          (Value.map (some 1)) }
    21)
  (tget
    { len := 16000,
      tr :=
        Tri.set 14 (Tri.set 14 (Tri.set 14 Tri.lf 22 (Value.bool true)) 21 (Value.int IntKind.i64 tanks)) 20
          (Value.map (some 1)) }
    22)
  es' clk',
CJ Tryd.prog B 22
  #[Value.agg
      #[Value.int IntKind.i64 (Isl.cap i), Value.int IntKind.i64 (Isl.sl i), Value.int IntKind.i64 (Isl.sh i),
        Value.int IntKind.i64 (Isl.roof i), Value.int IntKind.i64 (Isl.sand i), Value.int IntKind.i64 (Isl.kl i),
        Value.int IntKind.i64 (Isl.kh i), Value.int IntKind.i64 (Isl.ll i), Value.int IntKind.i64 (Isl.lh i),
        Value.int IntKind.i64 (Isl.pump i), Value.int IntKind.i64 (Isl.keep i), Value.int IntKind.i64 (Isl.size i), W,
        M, Value.int IntKind.i64 (Isl.most i), Value.int IntKind.i64 (Isl.row i)],
    Value.int IntKind.i64 tanks]
  [] 3 (Value.agg ffN) [] 3 [],
MapGet Tryd.prog 81 es true
  (tget { len := 16000, tr := Tri.set 14 (Tri.set 14 Tri.lf 9 (Value.int IntKind.i64 tanks)) 8 (Value.map (some 1)) } 9)
  (Value.tuple #[Value.bool false, Value.bool false])]⟩, [1]) := by kernel_rfl
set_option maxRecDepth 100000 in
theorem fs_bad (B : Lo) (i : Isl) (W M : Value) (es es' : Array MapEntry) (clk clk' : Nat) (tanks m r v : Int) (D : Array Value) : endedB (srun Tryd.prog goFns B 15 3 (entryC Tryd.prog 35 24 [.int .i64 tanks, .pointer (some ⟨2, 0, none⟩), .pointer (some ⟨0, 0, none⟩)]) (heapO 0 (foO i W M es clk)) 3
    [(3, Hint.look (Value.tuple #[Value.bool false, Value.bool false])),
(13, Hint.call [] (Value.agg (ffQ 3 (Isl.nm i) m r v)) [(3, Obj.cells D 4 (1, 1))] 4 []),
(15, Hint.val (Value.bool false)),
(20, Hint.upd es' clk')] 0 [] []) ((kz [0, 1, 2] (foO i W M es' clk')).map (·.old)) = some (⟨.ret (rnV (rhoK (kz [0, 1, 2] (foO i W M es' clk'))) 3 (.bool false)), (kz [0, 1, 2] (foO i W M es' clk')).map (fun kept_ => some (wasK (rhoK (kz [0, 1, 2] (foO i W M es' clk'))) kept_)), 4,
    [MapPut Tryd.prog 81 es clk
  (tget
    { len := 16000,
      tr :=
        Tri.set 14 (Tri.set 14 (Tri.set 14 Tri.lf 22 (Value.bool false)) 21 (Value.int IntKind.i64 tanks)) 20
          (Value.map (some 1)) }
    21)
  (tget
    { len := 16000,
      tr :=
        Tri.set 14 (Tri.set 14 (Tri.set 14 Tri.lf 22 (Value.bool false)) 21 (Value.int IntKind.i64 tanks)) 20
          (Value.map (some 1)) }
    22)
  es' clk',
eqq r 1 = false,
CJ Tryd.prog B 22
  #[Value.agg
      #[Value.int IntKind.i64 (Isl.cap i), Value.int IntKind.i64 (Isl.sl i), Value.int IntKind.i64 (Isl.sh i),
        Value.int IntKind.i64 (Isl.roof i), Value.int IntKind.i64 (Isl.sand i), Value.int IntKind.i64 (Isl.kl i),
        Value.int IntKind.i64 (Isl.kh i), Value.int IntKind.i64 (Isl.ll i), Value.int IntKind.i64 (Isl.lh i),
        Value.int IntKind.i64 (Isl.pump i), Value.int IntKind.i64 (Isl.keep i), Value.int IntKind.i64 (Isl.size i), W,
        M, Value.int IntKind.i64 (Isl.most i), Value.int IntKind.i64 (Isl.row i)],
    Value.int IntKind.i64 tanks]
  [] 3 (Value.agg (ffQ 3 (Isl.nm i) m r v)) [(3, Obj.cells D 4 (1, 1))] 4 [],
MapGet Tryd.prog 81 es true
  (tget { len := 16000, tr := Tri.set 14 (Tri.set 14 Tri.lf 9 (Value.int IntKind.i64 tanks)) 8 (Value.map (some 1)) } 9)
  (Value.tuple #[Value.bool false, Value.bool false])]⟩, [1]) := by kernel_rfl
set_option maxRecDepth 100000 in
theorem fo_entry (B : Lo) (i : Isl) (W M : Value) : landB (srun Tryd.prog goFns B 11 0 (entryC Tryd.prog 20 28 [.agg (islC i W M)]) (heapO 0 []) 0
    [] 0 [] []) ((foL 0 40).map (·.1)) ((kz [0, 1, 2] (foO i W M #[] 0)).map (·.old)) = some (⟨20, 28, foT.map (it (bodyOf Tryd.prog 20)), [], .run, none, (foL 0 40).map (fun p => rnV (rhoK (kz [0, 1, 2] (foO i W M #[] 0))) 3 p.2), (kz [0, 1, 2] (foO i W M #[] 0)).map (fun kept_ => some (wasK (rhoK (kz [0, 1, 2] (foO i W M #[] 0))) kept_)), 3,
    []⟩, []) := by kernel_rfl
set_option maxRecDepth 100000 in
theorem fo_yes (B : Lo) (i : Isl) (W M : Value) (es es' : Array MapEntry) (clk clk' : Nat) (lo hi mid : Int) (d : Nat → Value) : landB (srun Tryd.prog goFns B 14 0 (headC 20 28 (foL lo hi) d (foT.map (it (bodyOf Tryd.prog 20)))) (heapO 0 (foO i W M es clk)) ((foO i W M es clk)).length
    [(2, Hint.val (Value.bool true)),
(5, Hint.val (Value.int IntKind.i64 (lo + hi))),
(6, Hint.val (Value.int IntKind.i64 mid)),
(10, Hint.call [0, 1, 2] (Value.bool true) [(1, Obj.map es' clk')] 3 [1])] 0 [] []) ((foL lo mid).map (·.1)) ((kz [0, 1, 2] (foO i W M es' clk')).map (·.old)) = some (⟨20, 28, foT.map (it (bodyOf Tryd.prog 20)), [], .run, none, (foL lo mid).map (fun p => rnV (rhoK (kz [0, 1, 2] (foO i W M es' clk'))) 3 p.2), (kz [0, 1, 2] (foO i W M es' clk')).map (fun kept_ => some (wasK (rhoK (kz [0, 1, 2] (foO i W M es' clk'))) kept_)), 3,
    [CJ Tryd.prog B 35
  #[Value.int IntKind.i64 mid, Value.pointer (some { block := 2, off := 0 }),
    Value.pointer (some { block := 0, off := 0 })]
  [(0,
      some
        (Obj.cells
          #[Value.int IntKind.i64 (Isl.cap i), Value.int IntKind.i64 (Isl.sl i), Value.int IntKind.i64 (Isl.sh i),
            Value.int IntKind.i64 (Isl.roof i), Value.int IntKind.i64 (Isl.sand i), Value.int IntKind.i64 (Isl.kl i),
            Value.int IntKind.i64 (Isl.kh i), Value.int IntKind.i64 (Isl.ll i), Value.int IntKind.i64 (Isl.lh i),
            Value.int IntKind.i64 (Isl.pump i), Value.int IntKind.i64 (Isl.keep i), Value.int IntKind.i64 (Isl.size i),
            W, M, Value.int IntKind.i64 (Isl.most i), Value.int IntKind.i64 (Isl.row i)]
          27)),
    (1, some (Obj.map es clk)), (2, some (Obj.cells #[Value.map (some 1)] 81))]
  3 (Value.bool true) [(1, Obj.map es' clk')] 3 [1],
IntKind.wrap IntKind.i64 (Int.tdiv (lo + hi) 2) = mid,
wq (lo + hi) = lo + hi,
ltq lo hi = true]⟩, []) := by kernel_rfl
set_option maxRecDepth 100000 in
theorem fo_no (B : Lo) (i : Isl) (W M : Value) (es es' : Array MapEntry) (clk clk' : Nat) (lo hi mid : Int) (d : Nat → Value) : landB (srun Tryd.prog goFns B 14 0 (headC 20 28 (foL lo hi) d (foT.map (it (bodyOf Tryd.prog 20)))) (heapO 0 (foO i W M es clk)) ((foO i W M es clk)).length
    [(2, Hint.val (Value.bool true)),
(5, Hint.val (Value.int IntKind.i64 (lo + hi))),
(6, Hint.val (Value.int IntKind.i64 mid)),
(10, Hint.call [0, 1, 2] (Value.bool false) [(1, Obj.map es' clk')] 3 [1]),
(12, Hint.val (Value.int IntKind.i64 (mid + 1)))] 0 [] []) ((foL (mid + 1) hi).map (·.1)) ((kz [0, 1, 2] (foO i W M es' clk')).map (·.old)) = some (⟨20, 28, foT.map (it (bodyOf Tryd.prog 20)), [], .run, none, (foL (mid + 1) hi).map (fun p => rnV (rhoK (kz [0, 1, 2] (foO i W M es' clk'))) 3 p.2), (kz [0, 1, 2] (foO i W M es' clk')).map (fun kept_ => some (wasK (rhoK (kz [0, 1, 2] (foO i W M es' clk'))) kept_)), 3,
    [wq (mid + 1) = mid + 1,
CJ Tryd.prog B 35
  #[Value.int IntKind.i64 mid, Value.pointer (some { block := 2, off := 0 }),
    Value.pointer (some { block := 0, off := 0 })]
  [(0,
      some
        (Obj.cells
          #[Value.int IntKind.i64 (Isl.cap i), Value.int IntKind.i64 (Isl.sl i), Value.int IntKind.i64 (Isl.sh i),
            Value.int IntKind.i64 (Isl.roof i), Value.int IntKind.i64 (Isl.sand i), Value.int IntKind.i64 (Isl.kl i),
            Value.int IntKind.i64 (Isl.kh i), Value.int IntKind.i64 (Isl.ll i), Value.int IntKind.i64 (Isl.lh i),
            Value.int IntKind.i64 (Isl.pump i), Value.int IntKind.i64 (Isl.keep i), Value.int IntKind.i64 (Isl.size i),
            W, M, Value.int IntKind.i64 (Isl.most i), Value.int IntKind.i64 (Isl.row i)]
          27)),
    (1, some (Obj.map es clk)), (2, some (Obj.cells #[Value.map (some 1)] 81))]
  3 (Value.bool false) [(1, Obj.map es' clk')] 3 [1],
IntKind.wrap IntKind.i64 (Int.tdiv (lo + hi) 2) = mid,
wq (lo + hi) = lo + hi,
ltq lo hi = true]⟩, []) := by kernel_rfl
set_option maxRecDepth 100000 in
theorem fo_end (B : Lo) (i : Isl) (W M : Value) (es es' : Array MapEntry) (clk clk' : Nat) (lo hi : Int) (y : Bool) (d : Nat → Value) : ended (srun Tryd.prog goFns B 9 0 (headC 20 28 (foL lo hi) d (foT.map (it (bodyOf Tryd.prog 20)))) (heapO 0 (foO i W M es clk)) ((foO i W M es clk)).length
    [(2, Hint.val (Value.bool false)),
(6, Hint.call [0, 1, 2] (Value.bool y) [(1, Obj.map es' clk')] 3 [1])] 0 [] []) [] = some ⟨.ret (.tuple #[.int .i64 lo, .bool y]), [], 3,
    [CJ Tryd.prog B 35
  #[Value.int IntKind.i64 lo, Value.pointer (some { block := 2, off := 0 }),
    Value.pointer (some { block := 0, off := 0 })]
  [(0,
      some
        (Obj.cells
          #[Value.int IntKind.i64 (Isl.cap i), Value.int IntKind.i64 (Isl.sl i), Value.int IntKind.i64 (Isl.sh i),
            Value.int IntKind.i64 (Isl.roof i), Value.int IntKind.i64 (Isl.sand i), Value.int IntKind.i64 (Isl.kl i),
            Value.int IntKind.i64 (Isl.kh i), Value.int IntKind.i64 (Isl.ll i), Value.int IntKind.i64 (Isl.lh i),
            Value.int IntKind.i64 (Isl.pump i), Value.int IntKind.i64 (Isl.keep i), Value.int IntKind.i64 (Isl.size i),
            W, M, Value.int IntKind.i64 (Isl.most i), Value.int IntKind.i64 (Isl.row i)]
          27)),
    (1, some (Obj.map es clk)), (2, some (Obj.cells #[Value.map (some 1)] 81))]
  3 (Value.bool y) [(1, Obj.map es' clk')] 3 [1],
ltq lo hi = false]⟩ := by kernel_rfl
/-! ### A map of numbers to what is told of them -/
def ents (f : Int → Bool) : List Int → Array MapEntry
  | [] => #[]
  | t :: l => (ents f l).push ⟨.int .i64 t, .bool (f t), l.length⟩
theorem ents_loose {f : Int → Bool} : ∀ (l : List Int) (j : Nat) e, (ents f l)[j]? = some e → Loose e.val
  | [], j, e, h => by simp [ents] at h
  | t :: l, j, e, h => by
    simp only [ents, Array.getElem?_push] at h
    split at h
    · cases h; exact loose_bool _
    · exact ents_loose l j e h
theorem findNow_append {d : TypeDesc} {k : Value} : ∀ (a b : List MapEntry) (i : Nat), Instr.findNow d k (a ++ b) i = match Instr.findNow d k a i with | some none => Instr.findNow d k b (i + a.length) | r => r
  | [], b, i => by simp [Instr.findNow]
  | e :: a, b, i => by
    simp only [List.cons_append, Instr.findNow]
    cases hs : Instr.sameNow d k e.key with
    | none => rfl
    | some x =>
      cases x with
      | true => rfl
      | false =>
        simp only
        rw [findNow_append a b (i + 1), List.length_cons, show i + (a.length + 1) = i + 1 + a.length by omega]
theorem findNow_ents {f : Int → Bool} {t : Int} : ∀ (l : List Int), (t ∈ l → ∃ j, Instr.findNow (.int .i64) (.int .i64 t) (ents f l).toList 0 = some (some (j, .bool (f t)))) ∧ (t ∉ l → Instr.findNow (.int .i64) (.int .i64 t) (ents f l).toList 0 = some none)
  | [] => ⟨fun h => by simp at h, fun _ => by simp [ents, Instr.findNow]⟩
  | s :: l => by
    have ih := findNow_ents (f := f) (t := t) l
    have e : (ents f (s :: l)).toList = (ents f l).toList ++ [⟨.int .i64 s, .bool (f s), l.length⟩] := by simp [ents]
    rw [e, findNow_append]
    by_cases hl : t ∈ l
    · obtain ⟨j, hj⟩ := ih.1 hl
      rw [hj]
      exact ⟨fun _ => ⟨j, rfl⟩, fun h => absurd (List.mem_cons_of_mem _ hl) h⟩
    · rw [ih.2 hl]
      simp only [Instr.findNow, Instr.sameNow, if_true]
      by_cases hs : t = s
      · subst hs
        simp
      · have hb : (t == s) = false := by simpa using hs
        simp [hb, hs, hl]
section
variable {f : Int → Bool} {t : Int} {l : List Int} {b : Bool}
theorem check_int : pureRun Tryd.prog (Instr.checkKey b 10000 3 (.int .i64 t)) = some () := by kernel_rfl
theorem findKey_ents {r : Option (Nat × Value)} (h : Instr.findNow (.int .i64) (.int .i64 t) (ents f l).toList 0 = some r) : pureRun Tryd.prog (Instr.findKey 3 (.int .i64 t) (ents f l).toList) = some r := by
  have hu : pureRun Tryd.prog (underlying 3) = some (.int .i64) := by kernel_rfl
  unfold Instr.findKey
  rw [pureRun_bind, hu]
  simp only [h]
  exact pureRun_pure _
theorem und_map : und Tryd.prog 81 = some (.map 3 4) := by kernel_rfl
theorem get_has (h : t ∈ l) : MapGet Tryd.prog 81 (ents f l) true (.int .i64 t) (.tuple #[.bool (f t), .bool true]) := by
  intro H r clk hg
  obtain ⟨j, hj⟩ := (findNow_ents (f := f) l).1 h
  simp only [cLookup, und_map, hg, show af (.int .i64 t) = true from rfl, cond_true, check_int, findKey_ents hj]
theorem get_no (h : t ∉ l) : MapGet Tryd.prog 81 (ents f l) true (.int .i64 t) (.tuple #[.bool false, .bool false]) := by
  intro H r clk hg
  have hj := (findNow_ents (f := f) l).2 h
  have hz : zeroOf Tryd.prog 4 = some (.bool false) := by kernel_rfl
  simp only [cLookup, und_map, hg, show af (.int .i64 t) = true from rfl, cond_true, check_int, findKey_ents hj, hz, show af (.bool false) = true from rfl]
theorem put_no (h : t ∉ l) : MapPut Tryd.prog 81 (ents f l) l.length (.int .i64 t) (.bool (f t)) (ents f (t :: l)) (t :: l).length := by
  intro H r hg
  have hj := (findNow_ents (f := f) l).2 h
  simp only [cMapUpdate, und_map, hg, show af (.int .i64 t) = true from rfl, cond_true, check_int, findKey_ents hj]
  rfl
end
section
variable {i : Isl} {wa : Option Addr} {wc mc : Nat} {ma : Option Addr} {tanks : Int} {w : World} {l : List Int}
abbrev foS (i : Isl) (wa : Option Addr) (wc : Nat) (ma : Option Addr) (mc : Nat) (l : List Int) : List (Bool × Obj) := foO i (rawS wa i.nw wc) (rawS ma i.nm mc) (ents (fine i) l) l.length
theorem fo_ok {a n : Nat} (h : okO n (.cells #[.map (some 1)] 81 (0, 0)) = true) : OkB a n (foS i wa wc ma mc l) :=
  ⟨.inr ⟨rfl, .inl (loose_isl i wa wc ma mc)⟩, .inr ⟨rfl, .inr fun j e he => ents_loose l j e he⟩, .inl ⟨rfl, h⟩, trivial⟩
theorem fo_fix {n : Nat} (h : 3 ≤ n) : ∀ b ∈ foS i wa wc ma mc l, FixO n b.2 := fun b hb => by
  simp only [foS, foO, List.mem_cons, List.not_mem_nil, or_false] at hb
  rcases hb with rfl | rfl | rfl
  · exact fix_loose (loose_isl i wa wc ma mc)
  · exact fun j e he => ents_loose l j e he
  · intro v hv
    simp only [List.mem_toArray, List.mem_cons, List.not_mem_nil, or_false] at hv
    rw [hv]; exact .inr (okV_mono h 3 _ (by kernel_rfl))
theorem fo_writable : Writable (heapO 0 (foS i wa wc ma mc l)) 3 [1] := fun j _ hj => by
  simp only [List.mem_cons, List.not_mem_nil, or_false] at hj
  subst hj
  exact .inr (.inr ⟨_, _, rfl⟩)
theorem fo_same {l' : List Int} : ∀ j, j < 3 → j ∉ [1] → hget (heapO 0 (foS i wa wc ma mc l')) j = hget (heapO 0 (foS i wa wc ma mc l)) j := fun j hj hn => by
  have : j = 0 ∨ j = 1 ∨ j = 2 := by omega
  rcases this with rfl | rfl | rfl
  · rfl
  · exact absurd (by decide) hn
  · rfl
abbrev fsA (tanks : Int) : Array Value := #[.int .i64 tanks, .pointer (some ⟨2, 0, none⟩), .pointer (some ⟨0, 0, none⟩)]
/-- What a call of suffice leaves in the map. -/
def asks (t : Int) (l : List Int) : List Int := if t ∈ l then l else t :: l
set_option maxRecDepth 100000 in
theorem fs_std (hi : IslAt w w.heap.size i wa ma) (h1 : islB i = true) (h2 : tanksB tanks = true) :
    StdJ Tryd.prog (worldLo w) 35 (fsA tanks) (heapO 0 (foS i wa wc ma mc l)) 3 (.bool (fine i tanks)) (heapO 0 (foS i wa wc ma mc (asks tanks l))) 3 [1] := by
  have hg := (GoE.refl (P := Tryd.prog) (B := worldLo w) (c0 := entryC Tryd.prog 35 24 [.int .i64 tanks, .pointer (some ⟨2, 0, none⟩), .pointer (some ⟨0, 0, none⟩)]) (under_heapO (foS i wa wc ma mc l) (Nat.le_refl 3))).widen (Wf := [1]) (fun _ _ h => by simp at h) fo_writable
  by_cases hm : tanks ∈ l
  · have e : asks tanks l = l := if_pos hm
    rw [e]
    exact hg.std goFns_ok mixed_ok (by kernel_rfl) fo_writable (os := foS i wa wc ma mc l)
      (fs_has (worldLo w) i (rawS wa i.nw wc) (rawS ma i.nm mc) (ents (fine i) l) l.length tanks (fine i tanks)) ⟨get_has hm, trivial⟩
      (by kernel_rfl) (by kernel_rfl) (by kernel_rfl) (by kernel_rfl) (by kernel_rfl) (by kernel_rfl) (by kernel_rfl) (by kernel_rfl) (fo_ok (by kernel_rfl)) (fun _ _ _ => rfl)
  · have e : asks tanks l = tanks :: l := if_neg hm
    rw [e]
    have hput := put_no (f := fine i) hm
    cases hft : ftTo i tanks (2 ^ i.nm) with
    | none =>
      have hf : fine i tanks = true := fine_iff.2 hft
      rw [hf] at hput ⊢
      exact hg.std goFns_ok mixed_ok (by kernel_rfl) fo_writable (os := foS i wa wc ma mc (tanks :: l))
        (fs_fine (worldLo w) i (rawS wa i.nw wc) (rawS ma i.nm mc) (ents (fine i) l) (ents (fine i) (tanks :: l)) l.length (tanks :: l).length tanks) ⟨hput, con_firstFine hi h1 h2 hft, get_no hm, trivial⟩
        (by kernel_rfl) (by kernel_rfl) (by kernel_rfl) (by kernel_rfl) (by kernel_rfl) (by kernel_rfl) (by kernel_rfl) (by kernel_rfl) (fo_ok (by kernel_rfl)) fo_same
    | some x =>
      obtain ⟨b, m⟩ := x
      have hf : fine i tanks = false := by simp [fine, hft]
      rw [hf] at hput ⊢
      obtain ⟨_, _, _, hb⟩ := ftTo_some hft
      obtain ⟨_, hr, _⟩ := badTo_some hb
      exact hg.std goFns_ok mixed_ok (by kernel_rfl) fo_writable (os := foS i wa wc ma mc (tanks :: l))
        (fs_bad (worldLo w) i (rawS wa i.nw wc) (rawS ma i.nm mc) (ents (fine i) l) (ents (fine i) (tanks :: l)) l.length (tanks :: l).length tanks m (wrongRule i (endsOf i tanks false (bitsDry i.nm b) m)) (wrongWell i (endsOf i tanks false (bitsDry i.nm b) m)) (rowA (boolE (bitsDry i.nm b)) i.nm))
        ⟨hput, eqq_f hr, con_firstBad hi h1 h2 hft, get_no hm, trivial⟩
        (by kernel_rfl) (by kernel_rfl) (by kernel_rfl) (by kernel_rfl) (by kernel_rfl) (by kernel_rfl) (by kernel_rfl) (by kernel_rfl) (fo_ok (by kernel_rfl)) fo_same
theorem fs_con (hi : IslAt w w.heap.size i wa ma) (h1 : islB i = true) (h2 : tanksB tanks = true) :
    CJ Tryd.prog (worldLo w) 35 (fsA tanks) [(0, some (.cells (islC i (rawS wa i.nw wc) (rawS ma i.nm mc)) 27 (0, 0))), (1, some (.map (ents (fine i) l) l.length)), (2, some (.cells #[.map (some 1)] 81 (0, 0)))] 3 (.bool (fine i tanks)) [(1, .map (ents (fine i) (asks tanks l)) (asks tanks l).length)] 3 [1] :=
  StdJ.all (os := foS i wa wc ma mc l) (os' := foS i wa wc ma mc (asks tanks l)) (fs_std hi h1 h2) (by kernel_rfl) (by kernel_rfl) (fo_fix (Nat.le_refl 3)) (fo_fix (Nat.le_refl 3)) rfl (by kernel_rfl) (by kernel_rfl) rfl (by kernel_rfl) (by kernel_rfl)
/-- fewest: the fewest tanks, or 40, and whether they suffice. -/
theorem fewest_any {n : Int} (hi : IslAt w w.heap.size i wa ma) (h1 : islB i = true) (hn : Few i n) :
    Calls Tryd.prog 20 #[islV i wa wc ma mc] w fun e' w' => e' = .returned (.tuple #[.int .i64 n, .bool (fine i n)]) ∧ Below w.heap.size w w' := by
  let c0 := entryC Tryd.prog 20 28 [islR i wa wc ma mc]
  let at' : Int → Int → List Int → Prop := fun lo hi' l => ∃ d : Nat → Value, (∀ t, Loose (d t)) ∧ GoE Tryd.prog (worldLo w) c0 (heapO 0 []) 0
    (headC 20 28 (foL lo hi') d (foT.map (it (bodyOf Tryd.prog 20)))) (heapO 0 (foS i wa wc ma mc l)) 3 []
  have ok : ∀ l, OkB 0 3 (foS i wa wc ma mc l) := fun l => fo_ok (by kernel_rfl)
  have s0 : at' 0 40 [] := (GoE.refl (P := Tryd.prog) (B := worldLo w) (c0 := c0) (under_heapO [] (Nat.le_refl 0))).headB goFns_ok mixed_ok (writable_nil _ _)
    (fo_entry (worldLo w) i (rawS wa i.nw wc) (rawS ma i.nm mc)) trivial
    (by kernel_rfl) (by kernel_rfl) (by kernel_rfl) (by kernel_rfl) (by kernel_rfl) (by kernel_rfl) (by kernel_rfl) (by kernel_rfl) (by kernel_rfl) (by kernel_rfl) (ok []) (fun j hj _ => by omega)
  have run : ∀ (k : Nat) (lo hi' : Int) (l : List Int), hi' - lo ≤ k → 0 ≤ lo → lo ≤ hi' → hi' ≤ 40 → lo ≤ n → n ≤ hi' → at' lo hi' l → ∃ l', at' n n l' := by
    intro k
    induction k with
    | zero =>
      intro lo hi' l h a b c d e hat
      have e1 : lo = n := by omega
      have e2 : hi' = n := by omega
      rw [e1, e2] at hat
      exact ⟨l, hat⟩
    | succ k ih =>
      intro lo hi' l h a b c d e hat
      by_cases hlt : lo < hi'
      · obtain ⟨d', _, hg⟩ := hat
        have hmid : IntKind.wrap IntKind.i64 (Int.tdiv (lo + hi') 2) = (lo + hi') / 2 := quo_in (by omega) (by decide) rfl (by omega)
        have hq : tanksB ((lo + hi') / 2) = true := tanksB_iff.2 (by omega)
        cases hf : fine i ((lo + hi') / 2) with
        | true =>
          refine ih lo ((lo + hi') / 2) (asks ((lo + hi') / 2) l) (by omega) (by omega) (by omega) (by omega) (by omega) ?_ ?_
          · refine Int.not_lt.1 fun hc => ?_
            have := hn.low _ (by omega) hc
            rw [hf] at this; cases this
          · exact hg.headB goFns_ok mixed_ok (writable_nil _ _)
              (fo_yes (worldLo w) i (rawS wa i.nw wc) (rawS ma i.nm mc) (ents (fine i) l) (ents (fine i) (asks ((lo + hi') / 2) l)) l.length (asks ((lo + hi') / 2) l).length lo hi' ((lo + hi') / 2) d')
              ⟨hf ▸ fs_con hi h1 hq, hmid, wq_in (by omega) (by omega), ltq_t hlt, trivial⟩
              (by kernel_rfl) (by kernel_rfl) (by kernel_rfl) (by kernel_rfl) (by kernel_rfl) (by kernel_rfl) (by kernel_rfl) (by kernel_rfl) (by kernel_rfl) (by kernel_rfl) (ok _) (fun j hj _ => by omega)
        | false =>
          refine ih ((lo + hi') / 2 + 1) hi' (asks ((lo + hi') / 2) l) (by omega) (by omega) (by omega) (by omega) ?_ e ?_
          · refine Int.not_lt.1 fun hc => ?_
            have := hn.high ((lo + hi') / 2) (by omega) (by omega)
            rw [hf] at this; cases this
          · exact hg.headB goFns_ok mixed_ok (writable_nil _ _)
              (fo_no (worldLo w) i (rawS wa i.nw wc) (rawS ma i.nm mc) (ents (fine i) l) (ents (fine i) (asks ((lo + hi') / 2) l)) l.length (asks ((lo + hi') / 2) l).length lo hi' ((lo + hi') / 2) d')
              ⟨wq_in (by omega) (by omega), hf ▸ fs_con hi h1 hq, hmid, wq_in (by omega) (by omega), ltq_t hlt, trivial⟩
              (by kernel_rfl) (by kernel_rfl) (by kernel_rfl) (by kernel_rfl) (by kernel_rfl) (by kernel_rfl) (by kernel_rfl) (by kernel_rfl) (by kernel_rfl) (by kernel_rfl) (ok _) (fun j hj _ => by omega)
      · have e1 : lo = n := by omega
        have e2 : hi' = n := by omega
        rw [e1, e2] at hat
        exact ⟨l, hat⟩
  have n0 := hn.n0
  have n1 := hn.n1
  obtain ⟨l, d, _, hg⟩ := run 40 0 40 [] (by omega) (by omega) (by omega) (by omega) n0 n1 s0
  exact (hg.calls goFns_ok mixed_ok (f := 20) (args := #[islR i wa wc ma mc]) (args' := #[islV i wa wc ma mc]) (by kernel_rfl)
    (fo_end (worldLo w) i (rawS wa i.nw wc) (rawS ma i.nm mc) (ents (fine i) l) (ents (fine i) (asks n l)) l.length (asks n l).length n n (fine i n) d) ⟨fs_con hi h1 (tanksB_iff.2 ⟨n0, n1⟩), ltq_f (Int.le_refl _), trivial⟩ (worldLo_has w)
    (VRl.vrs' (.cons (vr_isl i wa wc ma mc) .nil))).mono fun _ _ ⟨v', _, he, hv, hb, _⟩ => ⟨by rw [he, af_eq (by kernel_rfl) hv], hb⟩
end
end Go.Proofs.YtffdidleebognaaDoor

namespace Go.Proofs.YtffdidleebognaaDoor
open Go Go.CE Go.Proofs Go.RowKit Lens
set_option maxRecDepth 100000 in
theorem fx_none (B : Lo) (i : Isl) (W M : Value) (n : Int) : ended (srun Tryd.prog goFns B 17 0 (entryC Tryd.prog 7 17 [.agg (islC i W M)]) [] 0
    [(4, Hint.call [] (Value.bool true) [] 1 []),
(7, Hint.call [] (Value.tuple #[Value.int IntKind.i64 n, Value.bool false]) [] 1 [])] 0 [] []) [] = some ⟨.ret (.tuple #[.int .i64 0, .int .i64 5]), [], 1,
    [CJ Tryd.prog B 20
  #[Value.agg
      #[Value.int IntKind.i64 (Isl.cap i), Value.int IntKind.i64 (Isl.sl i), Value.int IntKind.i64 (Isl.sh i),
        Value.int IntKind.i64 (Isl.roof i), Value.int IntKind.i64 (Isl.sand i), Value.int IntKind.i64 (Isl.kl i),
        Value.int IntKind.i64 (Isl.kh i), Value.int IntKind.i64 (Isl.ll i), Value.int IntKind.i64 (Isl.lh i),
        Value.int IntKind.i64 (Isl.pump i), Value.int IntKind.i64 (Isl.keep i), Value.int IntKind.i64 (Isl.size i), W,
        M, Value.int IntKind.i64 (Isl.most i), Value.int IntKind.i64 (Isl.row i)]]
  [] 1 (Value.tuple #[Value.int IntKind.i64 n, Value.bool false]) [] 1 [],
CJ Tryd.prog B 19
  #[Value.agg
      #[Value.int IntKind.i64 (Isl.cap i), Value.int IntKind.i64 (Isl.sl i), Value.int IntKind.i64 (Isl.sh i),
        Value.int IntKind.i64 (Isl.roof i), Value.int IntKind.i64 (Isl.sand i), Value.int IntKind.i64 (Isl.kl i),
        Value.int IntKind.i64 (Isl.kh i), Value.int IntKind.i64 (Isl.ll i), Value.int IntKind.i64 (Isl.lh i),
        Value.int IntKind.i64 (Isl.pump i), Value.int IntKind.i64 (Isl.keep i), Value.int IntKind.i64 (Isl.size i), W,
        M, Value.int IntKind.i64 (Isl.most i), Value.int IntKind.i64 (Isl.row i)]]
  [] 1 (Value.bool true) [] 1 []]⟩ := by kernel_rfl
set_option maxRecDepth 100000 in
theorem fx_fine (B : Lo) (i : Isl) (W M : Value) (n : Int) : ended (srun Tryd.prog goFns B 18 0 (entryC Tryd.prog 7 17 [.agg (islC i W M)]) [] 0
    [(4, Hint.call [] (Value.bool true) [] 1 []),
(7, Hint.call [] (Value.tuple #[Value.int IntKind.i64 n, Value.bool true]) [] 1 [])] 0 [] []) [] = some ⟨.ret (.tuple #[.int .i64 n, .int .i64 0]), [], 1,
    [CJ Tryd.prog B 20
  #[Value.agg
      #[Value.int IntKind.i64 (Isl.cap i), Value.int IntKind.i64 (Isl.sl i), Value.int IntKind.i64 (Isl.sh i),
        Value.int IntKind.i64 (Isl.roof i), Value.int IntKind.i64 (Isl.sand i), Value.int IntKind.i64 (Isl.kl i),
        Value.int IntKind.i64 (Isl.kh i), Value.int IntKind.i64 (Isl.ll i), Value.int IntKind.i64 (Isl.lh i),
        Value.int IntKind.i64 (Isl.pump i), Value.int IntKind.i64 (Isl.keep i), Value.int IntKind.i64 (Isl.size i), W,
        M, Value.int IntKind.i64 (Isl.most i), Value.int IntKind.i64 (Isl.row i)]]
  [] 1 (Value.tuple #[Value.int IntKind.i64 n, Value.bool true]) [] 1 [],
CJ Tryd.prog B 19
  #[Value.agg
      #[Value.int IntKind.i64 (Isl.cap i), Value.int IntKind.i64 (Isl.sl i), Value.int IntKind.i64 (Isl.sh i),
        Value.int IntKind.i64 (Isl.roof i), Value.int IntKind.i64 (Isl.sand i), Value.int IntKind.i64 (Isl.kl i),
        Value.int IntKind.i64 (Isl.kh i), Value.int IntKind.i64 (Isl.ll i), Value.int IntKind.i64 (Isl.lh i),
        Value.int IntKind.i64 (Isl.pump i), Value.int IntKind.i64 (Isl.keep i), Value.int IntKind.i64 (Isl.size i), W,
        M, Value.int IntKind.i64 (Isl.most i), Value.int IntKind.i64 (Isl.row i)]]
  [] 1 (Value.bool true) [] 1 []]⟩ := by kernel_rfl
section
variable {i : Isl} {wa : Option Addr} {wc mc : Nat} {ma : Option Addr} {w : World} {n : Int} {q : Nat}
theorem con_fewest (hi : IslAt w w.heap.size i wa ma) (h1 : islB i = true) (hn : Few i n) : CJ Tryd.prog (worldLo w) 20 #[islR i wa wc ma mc] [] q (.tuple #[.int .i64 n, .bool (fine i n)]) [] q [] :=
  con_of (.cons (exact_isl _ _ _ _ _) .nil) (exact_af (by kernel_rfl)) fun _ hw => fewest_any (islAt_lo hi hw) h1 hn
theorem fx_ret {a b : Int} {fuel n' : _} {sc : Script} {L : List Prop} (e : ended (srun Tryd.prog goFns (worldLo w) fuel 0 (entryC Tryd.prog 7 17 [islR i wa wc ma mc]) [] 0 sc 0 [] []) [] = some ⟨.ret (.tuple #[.int .i64 a, .int .i64 b]), [], n', L⟩) (hL : AllP L) :
    Calls Tryd.prog 7 #[islV i wa wc ma mc] w fun e' w' => e' = .returned (.tuple #[.int .i64 a, .int .i64 b]) ∧ Below w.heap.size w w' :=
  ((GoE.refl under_nil).calls goFns_ok mixed_ok (f := 7) (args := #[islR i wa wc ma mc]) (args' := #[islV i wa wc ma mc]) (by kernel_rfl) e hL (worldLo_has w) (VRl.vrs' (.cons (vr_isl i wa wc ma mc) .nil))).mono fun _ _ ⟨v', _, he, hv, hb, _⟩ => ⟨by rw [he, af_eq (by kernel_rfl) hv], hb⟩
theorem Fewest_fine (hi : IslAt w w.heap.size i wa ma) (h1 : islB i = true) (hn : Few i n) (hf : fine i n = true) : Calls Tryd.prog 7 #[islV i wa wc ma mc] w fun e' w' => e' = .returned (.tuple #[.int .i64 n, .int .i64 0]) ∧ Below w.heap.size w w' :=
  fx_ret (fx_fine (worldLo w) i (rawS wa i.nw wc) (rawS ma i.nm mc) n) ⟨hf ▸ con_fewest hi h1 hn, h1 ▸ con_isIslet hi, trivial⟩
theorem Fewest_none (hi : IslAt w w.heap.size i wa ma) (h1 : islB i = true) (hn : Few i n) (hf : fine i n = false) : Calls Tryd.prog 7 #[islV i wa wc ma mc] w fun e' w' => e' = .returned (.tuple #[.int .i64 0, .int .i64 5]) ∧ Below w.heap.size w w' :=
  fx_ret (fx_none (worldLo w) i (rawS wa i.nw wc) (rawS ma i.nm mc) n) ⟨hf ▸ con_fewest hi h1 hn, h1 ▸ con_isIslet hi, trivial⟩
theorem con_FewestFine (hi : IslAt w w.heap.size i wa ma) (h1 : islB i = true) (hn : Few i n) (hf : fine i n = true) : CJ Tryd.prog (worldLo w) 7 #[islR i wa wc ma mc] [] q (.tuple #[.int .i64 n, .int .i64 0]) [] q [] :=
  con_of (.cons (exact_isl _ _ _ _ _) .nil) (exact_af (by kernel_rfl)) fun _ hw => Fewest_fine (islAt_lo hi hw) h1 hn hf
theorem con_FewestNone (hi : IslAt w w.heap.size i wa ma) (h1 : islB i = true) (hn : Few i n) (hf : fine i n = false) : CJ Tryd.prog (worldLo w) 7 #[islR i wa wc ma mc] [] q (.tuple #[.int .i64 0, .int .i64 5]) [] q [] :=
  con_of (.cons (exact_isl _ _ _ _ _) .nil) (exact_af (by kernel_rfl)) fun _ hw => Fewest_none (islAt_lo hi hw) h1 hn hf
end
end Go.Proofs.YtffdidleebognaaDoor

namespace Go.Proofs.YtffdidleebognaaDoor
open Go Go.CE Go.Proofs Go.RowKit Lens
end Go.Proofs.YtffdidleebognaaDoor

namespace Go.Proofs.YtffdidleebognaaDoor
open Go Go.ChangeShapes Go.WideShapes Go.ChangeAt Go.RowKit Go.WideElems Lens
/-- What a law of an islet and a number must do. -/
def Walk2 (f : FuncId) : Prop := ∀ (i : Isl) (wa : Option Addr) (wc : Nat) (ma : Option Addr) (mc : Nat) (x : Int) (w : World),
  IslAt w w.heap.size i wa ma → CE.pow10Is w → Calls Tryd.prog f #[islV i wa wc ma mc, .int .i64 x] w fun e' w' => e' = .returned (.bool true) ∧ Below w.heap.size w w'
end Go.Proofs.YtffdidleebognaaDoor

namespace Go.Proofs.YtffdidleebognaaDoor
open Go Go.CE Go.Proofs Go.RowKit Lens
set_option maxRecDepth 100000 in
theorem lr_short (B : Lo) (i : Isl) (W M : Value) (other : Int) : ended (srun Tryd.prog goFns B 10 0 (entryC Tryd.prog 3 68 [.agg (islC i W M), .int .i64 other]) [] 0
    [(3, Hint.call [] (Value.bool false) [] 1 []),
(11, Hint.call [] (Value.bool true) [] 1 [])] 0 [] []) [] = some ⟨.ret (.bool true), [], 1,
    [CJ Tryd.prog B 6 #[] [] 1 (Value.bool true) [] 1 [],
CJ Tryd.prog B 4
  #[Value.agg
      #[Value.int IntKind.i64 (Isl.cap i), Value.int IntKind.i64 (Isl.sl i), Value.int IntKind.i64 (Isl.sh i),
        Value.int IntKind.i64 (Isl.roof i), Value.int IntKind.i64 (Isl.sand i), Value.int IntKind.i64 (Isl.kl i),
        Value.int IntKind.i64 (Isl.kh i), Value.int IntKind.i64 (Isl.ll i), Value.int IntKind.i64 (Isl.lh i),
        Value.int IntKind.i64 (Isl.pump i), Value.int IntKind.i64 (Isl.keep i), Value.int IntKind.i64 (Isl.size i), W,
        M, Value.int IntKind.i64 (Isl.most i), Value.int IntKind.i64 (Isl.row i)]]
  [] 1 (Value.bool false) [] 1 []]⟩ := by kernel_rfl
set_option maxRecDepth 100000 in
theorem lr_asked (B : Lo) (i : Isl) (W M : Value) (other : Int) : ended (srun Tryd.prog goFns B 10 0 (entryC Tryd.prog 3 68 [.agg (islC i W M), .int .i64 other]) [] 0
    [(3, Hint.call [] (Value.bool true) [] 1 []),
(8, Hint.call [] (Value.bool false) [] 1 []),
(11, Hint.call [] (Value.bool true) [] 1 [])] 0 [] []) [] = some ⟨.ret (.bool true), [], 1,
    [CJ Tryd.prog B 6 #[] [] 1 (Value.bool true) [] 1 [],
CJ Tryd.prog B 5
  #[Value.agg
      #[Value.int IntKind.i64 (Isl.cap i), Value.int IntKind.i64 (Isl.sl i), Value.int IntKind.i64 (Isl.sh i),
        Value.int IntKind.i64 (Isl.roof i), Value.int IntKind.i64 (Isl.sand i), Value.int IntKind.i64 (Isl.kl i),
        Value.int IntKind.i64 (Isl.kh i), Value.int IntKind.i64 (Isl.ll i), Value.int IntKind.i64 (Isl.lh i),
        Value.int IntKind.i64 (Isl.pump i), Value.int IntKind.i64 (Isl.keep i), Value.int IntKind.i64 (Isl.size i), W,
        M, Value.int IntKind.i64 (Isl.most i), Value.int IntKind.i64 (Isl.row i)],
    Value.int IntKind.i64 other]
  [] 1 (Value.bool false) [] 1 [],
CJ Tryd.prog B 4
  #[Value.agg
      #[Value.int IntKind.i64 (Isl.cap i), Value.int IntKind.i64 (Isl.sl i), Value.int IntKind.i64 (Isl.sh i),
        Value.int IntKind.i64 (Isl.roof i), Value.int IntKind.i64 (Isl.sand i), Value.int IntKind.i64 (Isl.kl i),
        Value.int IntKind.i64 (Isl.kh i), Value.int IntKind.i64 (Isl.ll i), Value.int IntKind.i64 (Isl.lh i),
        Value.int IntKind.i64 (Isl.pump i), Value.int IntKind.i64 (Isl.keep i), Value.int IntKind.i64 (Isl.size i), W,
        M, Value.int IntKind.i64 (Isl.most i), Value.int IntKind.i64 (Isl.row i)]]
  [] 1 (Value.bool true) [] 1 []]⟩ := by kernel_rfl
set_option maxRecDepth 100000 in
theorem lr_fine (B : Lo) (i : Isl) (W M : Value) (other n : Int) : ended (srun Tryd.prog goFns B 27 0 (entryC Tryd.prog 3 68 [.agg (islC i W M), .int .i64 other]) [] 0
    [(3, Hint.call [] (Value.bool true) [] 1 []),
(8, Hint.call [] (Value.bool true) [] 1 []),
(12, Hint.call [] (Value.tuple #[Value.int IntKind.i64 n, Value.int IntKind.i64 0]) [] 1 []),
(20, Hint.call [] (Value.tuple #[Value.agg ffN, Value.int IntKind.i64 0]) [] 1 []),
(46, Hint.call [] (Value.bool true) [] 2 []),
(51, Hint.val (Value.bool false)),
(55, Hint.call [] (Value.bool true) [] 2 [])] 0 [] []) [] = some ⟨.ret (.bool true), [], 2,
    [CJ Tryd.prog B 6 #[] [] 2 (Value.bool true) [] 2 [],
ltq other n = false,
CJ Tryd.prog B 9 #[Value.int IntKind.i64 n] [] 2 (Value.bool true) [] 2 [],
CJ Tryd.prog B 8
  #[Value.agg
      #[Value.int IntKind.i64 (Isl.cap i), Value.int IntKind.i64 (Isl.sl i), Value.int IntKind.i64 (Isl.sh i),
        Value.int IntKind.i64 (Isl.roof i), Value.int IntKind.i64 (Isl.sand i), Value.int IntKind.i64 (Isl.kl i),
        Value.int IntKind.i64 (Isl.kh i), Value.int IntKind.i64 (Isl.ll i), Value.int IntKind.i64 (Isl.lh i),
        Value.int IntKind.i64 (Isl.pump i), Value.int IntKind.i64 (Isl.keep i), Value.int IntKind.i64 (Isl.size i), W,
        M, Value.int IntKind.i64 (Isl.most i), Value.int IntKind.i64 (Isl.row i)],
    Value.int IntKind.i64 other]
  [] 1 (Value.tuple #[Value.agg ffN, Value.int IntKind.i64 0]) [] 1 [],
CJ Tryd.prog B 7
  #[Value.agg
      #[Value.int IntKind.i64 (Isl.cap i), Value.int IntKind.i64 (Isl.sl i), Value.int IntKind.i64 (Isl.sh i),
        Value.int IntKind.i64 (Isl.roof i), Value.int IntKind.i64 (Isl.sand i), Value.int IntKind.i64 (Isl.kl i),
        Value.int IntKind.i64 (Isl.kh i), Value.int IntKind.i64 (Isl.ll i), Value.int IntKind.i64 (Isl.lh i),
        Value.int IntKind.i64 (Isl.pump i), Value.int IntKind.i64 (Isl.keep i), Value.int IntKind.i64 (Isl.size i), W,
        M, Value.int IntKind.i64 (Isl.most i), Value.int IntKind.i64 (Isl.row i)]]
  [] 1 (Value.tuple #[Value.int IntKind.i64 n, Value.int IntKind.i64 0]) [] 1 [],
CJ Tryd.prog B 5
  #[Value.agg
      #[Value.int IntKind.i64 (Isl.cap i), Value.int IntKind.i64 (Isl.sl i), Value.int IntKind.i64 (Isl.sh i),
        Value.int IntKind.i64 (Isl.roof i), Value.int IntKind.i64 (Isl.sand i), Value.int IntKind.i64 (Isl.kl i),
        Value.int IntKind.i64 (Isl.kh i), Value.int IntKind.i64 (Isl.ll i), Value.int IntKind.i64 (Isl.lh i),
        Value.int IntKind.i64 (Isl.pump i), Value.int IntKind.i64 (Isl.keep i), Value.int IntKind.i64 (Isl.size i), W,
        M, Value.int IntKind.i64 (Isl.most i), Value.int IntKind.i64 (Isl.row i)],
    Value.int IntKind.i64 other]
  [] 1 (Value.bool true) [] 1 [],
CJ Tryd.prog B 4
  #[Value.agg
      #[Value.int IntKind.i64 (Isl.cap i), Value.int IntKind.i64 (Isl.sl i), Value.int IntKind.i64 (Isl.sh i),
        Value.int IntKind.i64 (Isl.roof i), Value.int IntKind.i64 (Isl.sand i), Value.int IntKind.i64 (Isl.kl i),
        Value.int IntKind.i64 (Isl.kh i), Value.int IntKind.i64 (Isl.ll i), Value.int IntKind.i64 (Isl.lh i),
        Value.int IntKind.i64 (Isl.pump i), Value.int IntKind.i64 (Isl.keep i), Value.int IntKind.i64 (Isl.size i), W,
        M, Value.int IntKind.i64 (Isl.most i), Value.int IntKind.i64 (Isl.row i)]]
  [] 1 (Value.bool true) [] 1 []]⟩ := by kernel_rfl
set_option maxRecDepth 100000 in
theorem lr_bad (B : Lo) (i : Isl) (W M : Value) (other n m r v : Int) (D : Array Value) : ended (srun Tryd.prog goFns B 27 0 (entryC Tryd.prog 3 68 [.agg (islC i W M), .int .i64 other]) [] 0
    [(3, Hint.call [] (Value.bool true) [] 1 []),
(8, Hint.call [] (Value.bool true) [] 1 []),
(12, Hint.call [] (Value.tuple #[Value.int IntKind.i64 n, Value.int IntKind.i64 0]) [] 1 []),
(20, Hint.call [] (Value.tuple #[Value.agg (ffQ 1 (Isl.nm i) m r v), Value.int IntKind.i64 0])
  [(1, Obj.cells D 4 (1, 1))] 2 []),
(32, Hint.val (Value.bool false)),
(37, Hint.val (Value.bool false)),
(41, Hint.val (Value.bool true)),
(46, Hint.call [] (Value.bool true) [] 3 []),
(51, Hint.val (Value.bool true)),
(55, Hint.call [] (Value.bool true) [] 3 [])] 0 [] []) [] = some ⟨.ret (.bool true), [], 3,
    [CJ Tryd.prog B 6 #[] [] 3 (Value.bool true) [] 3 [],
ltq other n = true,
CJ Tryd.prog B 9 #[Value.int IntKind.i64 n] [] 3 (Value.bool true) [] 3 [],
(!eqq r 1) = true,
ltq 3 r = false,
ltq r 1 = false,
CJ Tryd.prog B 8
  #[Value.agg
      #[Value.int IntKind.i64 (Isl.cap i), Value.int IntKind.i64 (Isl.sl i), Value.int IntKind.i64 (Isl.sh i),
        Value.int IntKind.i64 (Isl.roof i), Value.int IntKind.i64 (Isl.sand i), Value.int IntKind.i64 (Isl.kl i),
        Value.int IntKind.i64 (Isl.kh i), Value.int IntKind.i64 (Isl.ll i), Value.int IntKind.i64 (Isl.lh i),
        Value.int IntKind.i64 (Isl.pump i), Value.int IntKind.i64 (Isl.keep i), Value.int IntKind.i64 (Isl.size i), W,
        M, Value.int IntKind.i64 (Isl.most i), Value.int IntKind.i64 (Isl.row i)],
    Value.int IntKind.i64 other]
  [] 1 (Value.tuple #[Value.agg (ffQ 1 (Isl.nm i) m r v), Value.int IntKind.i64 0]) [(1, Obj.cells D 4 (1, 1))] 2 [],
CJ Tryd.prog B 7
  #[Value.agg
      #[Value.int IntKind.i64 (Isl.cap i), Value.int IntKind.i64 (Isl.sl i), Value.int IntKind.i64 (Isl.sh i),
        Value.int IntKind.i64 (Isl.roof i), Value.int IntKind.i64 (Isl.sand i), Value.int IntKind.i64 (Isl.kl i),
        Value.int IntKind.i64 (Isl.kh i), Value.int IntKind.i64 (Isl.ll i), Value.int IntKind.i64 (Isl.lh i),
        Value.int IntKind.i64 (Isl.pump i), Value.int IntKind.i64 (Isl.keep i), Value.int IntKind.i64 (Isl.size i), W,
        M, Value.int IntKind.i64 (Isl.most i), Value.int IntKind.i64 (Isl.row i)]]
  [] 1 (Value.tuple #[Value.int IntKind.i64 n, Value.int IntKind.i64 0]) [] 1 [],
CJ Tryd.prog B 5
  #[Value.agg
      #[Value.int IntKind.i64 (Isl.cap i), Value.int IntKind.i64 (Isl.sl i), Value.int IntKind.i64 (Isl.sh i),
        Value.int IntKind.i64 (Isl.roof i), Value.int IntKind.i64 (Isl.sand i), Value.int IntKind.i64 (Isl.kl i),
        Value.int IntKind.i64 (Isl.kh i), Value.int IntKind.i64 (Isl.ll i), Value.int IntKind.i64 (Isl.lh i),
        Value.int IntKind.i64 (Isl.pump i), Value.int IntKind.i64 (Isl.keep i), Value.int IntKind.i64 (Isl.size i), W,
        M, Value.int IntKind.i64 (Isl.most i), Value.int IntKind.i64 (Isl.row i)],
    Value.int IntKind.i64 other]
  [] 1 (Value.bool true) [] 1 [],
CJ Tryd.prog B 4
  #[Value.agg
      #[Value.int IntKind.i64 (Isl.cap i), Value.int IntKind.i64 (Isl.sl i), Value.int IntKind.i64 (Isl.sh i),
        Value.int IntKind.i64 (Isl.roof i), Value.int IntKind.i64 (Isl.sand i), Value.int IntKind.i64 (Isl.kl i),
        Value.int IntKind.i64 (Isl.kh i), Value.int IntKind.i64 (Isl.ll i), Value.int IntKind.i64 (Isl.lh i),
        Value.int IntKind.i64 (Isl.pump i), Value.int IntKind.i64 (Isl.keep i), Value.int IntKind.i64 (Isl.size i), W,
        M, Value.int IntKind.i64 (Isl.most i), Value.int IntKind.i64 (Isl.row i)]]
  [] 1 (Value.bool true) [] 1 []]⟩ := by kernel_rfl
set_option maxRecDepth 100000 in
theorem lr_none (B : Lo) (i : Isl) (W M : Value) (other m r v : Int) (D : Array Value) : ended (srun Tryd.prog goFns B 26 0 (entryC Tryd.prog 3 68 [.agg (islC i W M), .int .i64 other]) [] 0
    [(3, Hint.call [] (Value.bool true) [] 1 []),
(8, Hint.call [] (Value.bool true) [] 1 []),
(12, Hint.call [] (Value.tuple #[Value.int IntKind.i64 0, Value.int IntKind.i64 5]) [] 1 []),
(20, Hint.call [] (Value.tuple #[Value.agg (ffQ 1 (Isl.nm i) m r v), Value.int IntKind.i64 0])
  [(1, Obj.cells D 4 (1, 1))] 2 []),
(32, Hint.val (Value.bool false)),
(37, Hint.val (Value.bool false)),
(41, Hint.val (Value.bool true)),
(51, Hint.call [] (Value.bool true) [] 3 [])] 0 [] []) [] = some ⟨.ret (.bool true), [], 3,
    [CJ Tryd.prog B 6 #[] [] 3 (Value.bool true) [] 3 [],
(!eqq r 1) = true,
ltq 3 r = false,
ltq r 1 = false,
CJ Tryd.prog B 8
  #[Value.agg
      #[Value.int IntKind.i64 (Isl.cap i), Value.int IntKind.i64 (Isl.sl i), Value.int IntKind.i64 (Isl.sh i),
        Value.int IntKind.i64 (Isl.roof i), Value.int IntKind.i64 (Isl.sand i), Value.int IntKind.i64 (Isl.kl i),
        Value.int IntKind.i64 (Isl.kh i), Value.int IntKind.i64 (Isl.ll i), Value.int IntKind.i64 (Isl.lh i),
        Value.int IntKind.i64 (Isl.pump i), Value.int IntKind.i64 (Isl.keep i), Value.int IntKind.i64 (Isl.size i), W,
        M, Value.int IntKind.i64 (Isl.most i), Value.int IntKind.i64 (Isl.row i)],
    Value.int IntKind.i64 other]
  [] 1 (Value.tuple #[Value.agg (ffQ 1 (Isl.nm i) m r v), Value.int IntKind.i64 0]) [(1, Obj.cells D 4 (1, 1))] 2 [],
CJ Tryd.prog B 7
  #[Value.agg
      #[Value.int IntKind.i64 (Isl.cap i), Value.int IntKind.i64 (Isl.sl i), Value.int IntKind.i64 (Isl.sh i),
        Value.int IntKind.i64 (Isl.roof i), Value.int IntKind.i64 (Isl.sand i), Value.int IntKind.i64 (Isl.kl i),
        Value.int IntKind.i64 (Isl.kh i), Value.int IntKind.i64 (Isl.ll i), Value.int IntKind.i64 (Isl.lh i),
        Value.int IntKind.i64 (Isl.pump i), Value.int IntKind.i64 (Isl.keep i), Value.int IntKind.i64 (Isl.size i), W,
        M, Value.int IntKind.i64 (Isl.most i), Value.int IntKind.i64 (Isl.row i)]]
  [] 1 (Value.tuple #[Value.int IntKind.i64 0, Value.int IntKind.i64 5]) [] 1 [],
CJ Tryd.prog B 5
  #[Value.agg
      #[Value.int IntKind.i64 (Isl.cap i), Value.int IntKind.i64 (Isl.sl i), Value.int IntKind.i64 (Isl.sh i),
        Value.int IntKind.i64 (Isl.roof i), Value.int IntKind.i64 (Isl.sand i), Value.int IntKind.i64 (Isl.kl i),
        Value.int IntKind.i64 (Isl.kh i), Value.int IntKind.i64 (Isl.ll i), Value.int IntKind.i64 (Isl.lh i),
        Value.int IntKind.i64 (Isl.pump i), Value.int IntKind.i64 (Isl.keep i), Value.int IntKind.i64 (Isl.size i), W,
        M, Value.int IntKind.i64 (Isl.most i), Value.int IntKind.i64 (Isl.row i)],
    Value.int IntKind.i64 other]
  [] 1 (Value.bool true) [] 1 [],
CJ Tryd.prog B 4
  #[Value.agg
      #[Value.int IntKind.i64 (Isl.cap i), Value.int IntKind.i64 (Isl.sl i), Value.int IntKind.i64 (Isl.sh i),
        Value.int IntKind.i64 (Isl.roof i), Value.int IntKind.i64 (Isl.sand i), Value.int IntKind.i64 (Isl.kl i),
        Value.int IntKind.i64 (Isl.kh i), Value.int IntKind.i64 (Isl.ll i), Value.int IntKind.i64 (Isl.lh i),
        Value.int IntKind.i64 (Isl.pump i), Value.int IntKind.i64 (Isl.keep i), Value.int IntKind.i64 (Isl.size i), W,
        M, Value.int IntKind.i64 (Isl.most i), Value.int IntKind.i64 (Isl.row i)]]
  [] 1 (Value.bool true) [] 1 []]⟩ := by kernel_rfl
section
variable {i : Isl} {wa : Option Addr} {wc mc : Nat} {ma : Option Addr} {x : Int} {w : World} {n : Nat}
theorem con_rTanks : CJ Tryd.prog (worldLo w) 9 #[.int .i64 x] [] n (.bool (tanksB x)) [] n [] :=
  con_of (l := [.int .i64 x]) (l' := [.int .i64 x]) (.cons (exact_af rfl) .nil) (exact_af rfl) fun w' _ => (rTanks_any x w').mono fun _ _ ⟨h1, h2⟩ => ⟨h1, h2 ▸ Below.refl _ _⟩
theorem l2_ret {f : FuncId} {len fuel n' : Nat} {sc : Script} {L : List Prop} {c : CF} {H : Heap} {W : List Nat}
    (hc : enterC Tryd.prog f #[islR i wa wc ma mc, .int .i64 x] = some (entryC Tryd.prog f len [islR i wa wc ma mc, .int .i64 x]))
    (hg : GoE Tryd.prog (worldLo w) (entryC Tryd.prog f len [islR i wa wc ma mc, .int .i64 x]) [] 0 c H n W)
    (e : ended (srun Tryd.prog goFns (worldLo w) fuel 0 c H n sc 0 [] []) [] = some ⟨.ret (.bool true), [], n', L⟩) (hL : AllP L) :
    Calls Tryd.prog f #[islV i wa wc ma mc, .int .i64 x] w fun e' w' => e' = .returned (.bool true) ∧ Below w.heap.size w w' :=
  (hg.calls goFns_ok mixed_ok hc e hL (worldLo_has w) (VRl.vrs' exl_it.vrl)).mono fun _ _ ⟨v', _, he, hv, hb, _⟩ => ⟨by rw [he, af_eq (v := .bool true) rfl hv], hb⟩
theorem wrongRule_le {i : Isl} {s : Seen} : 1 ≤ wrongRule i s ∧ wrongRule i s ≤ 3 := by
  unfold wrongRule
  split
  · omega
  · split <;> omega
end
set_option maxRecDepth 100000 in
theorem rivals_walk : Walk2 3 := by
  intro i wa wc ma mc x w hi hp
  cases hs : shortB i with
  | false => exact l2_ret (by kernel_rfl) (GoE.refl under_nil) (lr_short (worldLo w) i _ _ x) ⟨con_known hp, hs ▸ con_short, trivial⟩
  | true =>
    cases ha : (islB i && tanksB x) with
    | false => exact l2_ret (by kernel_rfl) (GoE.refl under_nil) (lr_asked (worldLo w) i _ _ x) ⟨con_known hp, ha ▸ con_asked hi, hs ▸ con_short, trivial⟩
    | true =>
      have ha' := ha
      simp only [Bool.and_eq_true] at ha'
      obtain ⟨h1, h2⟩ := ha'
      obtain ⟨x0, x1⟩ := tanksB_iff.1 h2
      obtain ⟨n, hn⟩ := few_ex h1
      have n0 := hn.n0
      have n1 := hn.n1
      have hnt : tanksB n = true := tanksB_iff.2 ⟨n0, n1⟩
      have none_all : fine i n = false → fine i x = false := fun hf => by
        have e : n = 40 := by
          refine Int.le_antisymm n1 (Int.not_lt.1 fun hc => ?_)
          have := hn.high n (Int.le_refl _) hc
          rw [hf] at this; cases this
        rcases (show x < n ∨ x = n by omega) with h | h
        · exact hn.low x x0 h
        · rw [h]; exact hf
      cases hft : ftTo i x (2 ^ i.nm) with
      | none =>
        have hfx : fine i x = true := fine_iff.2 hft
        have hfn : fine i n = true := by
          cases hf : fine i n with
          | true => rfl
          | false => rw [none_all hf] at hfx; cases hfx
        have hle : n ≤ x := Int.not_lt.1 fun hc => by rw [hn.low x x0 hc] at hfx; cases hfx
        exact l2_ret (by kernel_rfl) (GoE.refl under_nil) (lr_fine (worldLo w) i _ _ x n)
          ⟨con_known hp, ltq_f hle, hnt ▸ con_rTanks, con_FaultFine hi h1 h2 hft, con_FewestFine hi h1 hn hfn, ha ▸ con_asked hi, hs ▸ con_short, trivial⟩
      | some y =>
        obtain ⟨b, m⟩ := y
        have hfx : fine i x = false := by simp [fine, hft]
        obtain ⟨_, _, _, hb⟩ := ftTo_some hft
        obtain ⟨_, hr, _⟩ := badTo_some hb
        have hle := wrongRule_le (i := i) (s := endsOf i x false (bitsDry i.nm b) m)
        cases hf : fine i n with
        | true =>
          have hlt : x < n := Int.not_le.1 fun hc => by rw [fine_mono h1 hnt h2 hc hf] at hfx; cases hfx
          exact l2_ret (by kernel_rfl) (GoE.refl under_nil) (lr_bad (worldLo w) i _ _ x n m (wrongRule i (endsOf i x false (bitsDry i.nm b) m)) (wrongWell i (endsOf i x false (bitsDry i.nm b) m)) (rowA (boolE (bitsDry i.nm b)) i.nm))
            ⟨con_known hp, ltq_t hlt, hnt ▸ con_rTanks, by rw [eqq_f hr]; rfl, ltq_f hle.2, ltq_f hle.1, con_FaultBad hi h1 h2 hft, con_FewestFine hi h1 hn hf, ha ▸ con_asked hi, hs ▸ con_short, trivial⟩
        | false =>
          exact l2_ret (by kernel_rfl) (GoE.refl under_nil) (lr_none (worldLo w) i _ _ x m (wrongRule i (endsOf i x false (bitsDry i.nm b) m)) (wrongWell i (endsOf i x false (bitsDry i.nm b) m)) (rowA (boolE (bitsDry i.nm b)) i.nm))
            ⟨con_known hp, by rw [eqq_f hr]; rfl, ltq_f hle.2, ltq_f hle.1, con_FaultBad hi h1 h2 hft, con_FewestNone hi h1 hn hf, ha ▸ con_asked hi, hs ▸ con_short, trivial⟩
end Go.Proofs.YtffdidleebognaaDoor

