/- Contract of the iterator over droughts, with firstFault's rounds; firstFault's contract. -/
import Derived.Test.YtffdidleebognaaGreatDoorZS48
import Derived.Test.YtffdidleebognaaGreatDoorZS23
import Derived.Test.YtffdidleebognaaGreatDoorZS17
import Derived.Test.YtffdidleebognaaGreatDoorZS43
import Derived.Test.YtffdidleebognaaGreatDoorZS14
namespace Go.Proofs.YtffdidleebognaaGreatDoor
open Go Go.CE Go.Proofs Go.RowKit Lens
/-- The first drought whose number is below b in which something is wrong, and its first month in which it is. -/
def ftTo (i : Isl) (tanks : Int) : Nat → Option (Nat × Nat)
  | 0 => none
  | b + 1 => match ftTo i tanks b with
    | some x => some x
    | none => if drB i.most i.row i.nm (bitsDry i.nm b) then (badTo i tanks (bitsDry i.nm b) i.nm).map fun m => (b, m) else none
theorem ftTo_none {i : Isl} {tanks : Int} : ∀ {n : Nat}, ftTo i tanks n = none → ∀ b, b < n → ftTo i tanks b = none ∧ (drB i.most i.row i.nm (bitsDry i.nm b) = true → badTo i tanks (bitsDry i.nm b) i.nm = none)
  | 0, _, b, hb => by omega
  | n + 1, h, b, hb => by
    simp only [ftTo] at h
    split at h
    · cases h
    · rename_i hn
      rcases Nat.lt_or_ge b n with hlt | hge
      · exact ftTo_none hn b hlt
      · have : b = n := by omega
        subst this
        refine ⟨hn, fun hd => ?_⟩
        rw [if_pos hd] at h
        simpa using h
theorem ftTo_some {i : Isl} {tanks : Int} : ∀ {n b m : Nat}, ftTo i tanks n = some (b, m) → b < n ∧ ftTo i tanks b = none ∧ drB i.most i.row i.nm (bitsDry i.nm b) = true ∧ badTo i tanks (bitsDry i.nm b) i.nm = some m
  | 0, _, _, h => by cases h
  | n + 1, b, m, h => by
    simp only [ftTo] at h
    split at h
    · rename_i x hx
      cases h
      have := ftTo_some hx
      exact ⟨by omega, this.2⟩
    · rename_i hn
      split at h
      · rename_i hd
        cases hb : badTo i tanks (bitsDry i.nm n) i.nm with
        | none => rw [hb] at h; cases h
        | some k =>
          rw [hb] at h
          cases h
          exact ⟨by omega, hn, hd, hb⟩
      · cases h
section
variable {i : Isl} {wa : Option Addr} {wc mb mo mc : Nat} {ma : Option Addr} {tanks : Int} {w : World}
theorem fd_same {W : Value} {F : Array Value} {s : LoopState} {p : Option Code} {l : List (Bool × Obj)} : ∀ j, j < 7 → j ∉ [3, 6] → hget (heapO 0 (fdO i W mb mo mc tanks F s p ++ l)) j = hget (heapO 0 (fdO i W mb mo mc tanks ffN .ready none)) j := fun j hj hn => by
  have : j = 0 ∨ j = 1 ∨ j = 2 ∨ j = 3 ∨ j = 4 ∨ j = 5 ∨ j = 6 := by omega
  rcases this with rfl | rfl | rfl | rfl | rfl | rfl | rfl
  all_goals first
    | (exact absurd (by decide) hn; done)
    | rfl
theorem fd_same6 {W : Value} {s : LoopState} {p : Option Code} {l : List (Bool × Obj)} : ∀ j, j < 7 → j ∉ [6] → hget (heapO 0 (fdO i W mb mo mc tanks ffN s p ++ l)) j = hget (heapO 0 (fdO i W mb mo mc tanks ffN .ready none)) j := fun j hj hn => by
  have : j = 0 ∨ j = 1 ∨ j = 2 ∨ j = 3 ∨ j = 4 ∨ j = 5 ∨ j = 6 := by omega
  rcases this with rfl | rfl | rfl | rfl | rfl | rfl | rfl
  all_goals first
    | (exact absurd (by decide) hn; done)
    | rfl
theorem fd_writable {W : Value} {l : List Nat} (hl : ∀ j ∈ l, j = 3 ∨ j = 6) : Writable (heapO 0 (fdO i W mb mo mc tanks ffN .ready none)) 7 l := fun j _ hj => by
  rcases hl j hj with rfl | rfl
  · exact .inl ⟨_, _, rfl⟩
  · exact .inr (.inl ⟨_, rfl⟩)
noncomputable abbrev fdC0 : CF := entryC Tryz.prog 76 43 [.func (.yield 6) #[] #[], .pointer (some ⟨4, 0, none⟩)]
/-- The iterator stands at the head of its loop over months. -/
def FdM (i : Isl) (wa : Option Addr) (wc mb mo mc : Nat) (tanks : Int) (w : World) (W : List Nat) (b m : Nat) : Prop := ∃ d' : Nat → Value, (∀ t, Loose (d' t)) ∧ GoE Tryz.prog (worldLo w) fdC0 (heapO 0 (fdO i (rawS wa i.nw wc) mb mo mc tanks ffN .ready none)) 7
    (headC 76 43 (fdM i.nm ((2 ^ i.nm : Nat) : Int) b m) d' (drU.map (it (bodyOf Tryz.prog 76)))) (heapO 0 (fdO i (rawS wa i.nw wc) mb mo mc tanks ffN .ready none ++ [(false, Obj.cells (rowA (boolE (bitsTo i.nm b m)) i.nm) 4 (0, 0))])) 8 W
def FdL (i : Isl) (wa : Option Addr) (wc mb mo mc : Nat) (tanks : Int) (w : World) (W : List Nat) (b : Nat) : Prop := ∃ d' : Nat → Value, (∀ t, Loose (d' t)) ∧ GoE Tryz.prog (worldLo w) fdC0 (heapO 0 (fdO i (rawS wa i.nw wc) mb mo mc tanks ffN .ready none)) 7
    (headC 76 43 (fdL i.nm ((2 ^ i.nm : Nat) : Int) b) d' (drT.map (it (bodyOf Tryz.prog 76)))) (heapO 0 (fdO i (rawS wa i.nw wc) mb mo mc tanks ffN .ready none)) 7 W
set_option maxRecDepth 100000 in
theorem fd_months (h8 : i.nm ≤ 8) {W : List Nat} (hW : ∀ j ∈ W, j = 3 ∨ j = 6) (hs : ∀ j, j < 7 → j ∉ W → ∀ l, hget (heapO 0 (fdO i (rawS wa i.nw wc) mb mo mc tanks ffN .ready none ++ l)) j = hget (heapO 0 (fdO i (rawS wa i.nw wc) mb mo mc tanks ffN .ready none)) j) {b : Nat} (hb : b < 2 ^ i.nm) (h : FdL i wa wc mb mo mc tanks w W b) : FdM i wa wc mb mo mc tanks w W b i.nm := by
  have hml : i.nm ≤ maxLen := by unfold maxLen; omega
  have hp : 2 ^ i.nm ≤ 256 := Nat.pow_le_pow_right (by decide) h8
  have ok2 : ∀ f, OkB 7 8 (fdO i (rawS wa i.nw wc) mb mo mc tanks ffN .ready none ++ [(false, Obj.cells (rowA (boolE f) i.nm) 4 (0, 0))]) := fun f => fd_ok (by omega) okO_ffN ⟨.inr ⟨rfl, .inl (loose_boolE _ _)⟩, trivial⟩
  obtain ⟨d1, _, g1⟩ := h
  have hmk : cMake Tryz.prog 38 (.int .i64 (i.nm : Int)) (.int .i64 (i.nm : Int)) = some (4, rowA (boolE (bitsTo i.nm b 0)) i.nm, i.nm, 1) := by
    rw [← bitsTo_zero]
    exact cMake_row (P := Tryz.prog) (t := 38) (e := 4) (i := Go.Proofs.Tryz.t4) (zv := .bool false) (by kernel_rfl) (by kernel_rfl) (by kernel_rfl) (by kernel_rfl) (by decide) (by kernel_rfl) (by show 1 * i.nm ≤ _; omega) (by omega)
  have s2 : FdM i wa wc mb mo mc tanks w W b 0 := g1.headB goFns_ok mixed_ok (fd_writable hW)
    (fd_bits (worldLo w) i (rawS wa i.nw wc) mb mo mc tanks ((2 ^ i.nm : Nat) : Int) b (rowA (boolE (bitsTo i.nm b 0)) i.nm) d1) ⟨hmk, ltq_t (by omega), trivial⟩
    (by kernel_rfl) (by kernel_rfl) (by kernel_rfl) (by kernel_rfl) (by kernel_rfl) (by kernel_rfl) (by kernel_rfl) (by kernel_rfl) (by kernel_rfl) (by kernel_rfl) (ok2 _) (fun j hj hn => hs j hj hn _)
  have all : ∀ m, m ≤ i.nm → FdM i wa wc mb mo mc tanks w W b m := by
    intro m
    induction m with
    | zero => intro _; exact s2
    | succ m ih =>
      intro hm
      obtain ⟨d2, _, g2⟩ := ih (by omega)
      have hlt : m < i.nm := by omega
      have hle : b / 2 ^ (i.nm - 1 - m) ≤ b := Nat.div_le_self _ _
      exact g2.headB goFns_ok mixed_ok (fd_writable hW)
        (fd_bit (worldLo w) i (rawS wa i.nw wc) mb mo mc tanks ((2 ^ i.nm : Nat) : Int) b m (rowA (boolE (bitsTo i.nm b m)) i.nm) (rowA (boolE (bitsTo i.nm b (m + 1))) i.nm) ((b / 2 ^ (i.nm - 1 - m) : Nat) : Int) ((b / 2 ^ (i.nm - 1 - m) % 2 : Nat) : Int) (bitsDry i.nm b m) d2)
        ⟨wq_in (by omega) (by omega), bitsTo_splice hlt, ⟨rfl, hlt⟩, bit_eq, and1_eq (by omega), shr_eq (by omega), (wq_in (by omega) (by omega)).trans (by omega), wq_in (by omega) (by omega), ltq_t (by omega), trivial⟩
        (by kernel_rfl) (by kernel_rfl) (by kernel_rfl) (by kernel_rfl) (by kernel_rfl) (by kernel_rfl) (by kernel_rfl) (by kernel_rfl) (by kernel_rfl) (by kernel_rfl) (ok2 _) (fun j hj hn => hs j hj hn _)
  exact all i.nm (Nat.le_refl _)
set_option maxRecDepth 100000 in
theorem fd_heads (hi : IslAt w w.heap.size i wa (some ⟨mb, mo, none⟩)) (h1 : 1 ≤ i.nm) (hf : ∀ d, Fit i tanks (endTru i false i.nm d)) {W : List Nat} (hW : ∀ j ∈ W, j = 3 ∨ j = 6) (h6 : [6].all (fun j => W.contains j) = true)
    (hs : ∀ j, j < 7 → j ∉ W → ∀ l, hget (heapO 0 (fdO i (rawS wa i.nw wc) mb mo mc tanks ffN .ready none ++ l)) j = hget (heapO 0 (fdO i (rawS wa i.nw wc) mb mo mc tanks ffN .ready none)) j) :
    ∀ b, b ≤ 2 ^ i.nm → ftTo i tanks b = none → FdL i wa wc mb mo mc tanks w W b := by
  have h8 : i.nm ≤ 8 := (hf fun _ => false).nm
  have hml : i.nm ≤ maxLen := by unfold maxLen; omega
  have hp : 2 ^ i.nm ≤ 256 := Nat.pow_le_pow_right (by decide) h8
  have ok1 : OkB 7 7 (fdO i (rawS wa i.nw wc) mb mo mc tanks ffN .ready none) := fd_ok (l := []) (by omega) okO_ffN trivial
  intro b
  induction b with
  | zero =>
    intro _ _
    exact ((GoE.refl (P := Tryz.prog) (B := worldLo w) (c0 := fdC0) (under_heapO (fdO i (rawS wa i.nw wc) mb mo mc tanks ffN .ready none) (Nat.le_refl 7))).widen (Wf := W) (fun _ _ h => by simp at h) (fd_writable hW)).headB goFns_ok mixed_ok (fd_writable hW)
      (fd_entry (worldLo w) i (rawS wa i.nw wc) mb mo mc tanks ((2 ^ i.nm : Nat) : Int)) ⟨shl1_eq (by omega), trivial⟩
      (by kernel_rfl) (by kernel_rfl) (by kernel_rfl) (by kernel_rfl) (by kernel_rfl) (by kernel_rfl) (by kernel_rfl) (by kernel_rfl) (by kernel_rfl) (by kernel_rfl) ok1 (fun j hj hn => hs j hj hn [])
  | succ b ih =>
    intro hb hn
    obtain ⟨hn0, hbad⟩ := ftTo_none hn b (by omega)
    obtain ⟨d3, _, g3⟩ := fd_months h8 hW hs (by omega) (ih (by omega) hn0)
    rw [bitsTo_all] at g3
    cases hdr : drB i.most i.row i.nm (bitsDry i.nm b) with
    | false =>
      exact g3.headB goFns_ok mixed_ok (fd_writable hW)
        (fd_no (worldLo w) i (rawS wa i.nw wc) mb mo mc tanks ((2 ^ i.nm : Nat) : Int) b i.nm (rowA (boolE (bitsDry i.nm b)) i.nm) d3)
        ⟨wq_in (by omega) (by omega), hdr ▸ con_isDrought (w := w) (i := i) (wa := wa) (wc := wc) (ma := some ⟨mb, mo, none⟩) (mc := mc) (k := 7) (n := 8) (by omega) hml, ltq_f (by omega), trivial⟩
        (by kernel_rfl) (by kernel_rfl) (by kernel_rfl) (by kernel_rfl) (by kernel_rfl) (by kernel_rfl) (by kernel_rfl) (by kernel_rfl) (by kernel_rfl) (by kernel_rfl) ok1 (fun j hj hn => hs j hj hn [])
    | true =>
      exact g3.headB goFns_ok mixed_ok (fd_writable hW)
        (fd_yield (worldLo w) i (rawS wa i.nw wc) mb mo mc tanks ((2 ^ i.nm : Nat) : Int) b i.nm (rowA (boolE (bitsDry i.nm b)) i.nm) d3)
        ⟨wq_in (by omega) (by omega), fr_rj hi h1 (hf _) (hbad hdr), hdr ▸ con_isDrought (w := w) (i := i) (wa := wa) (wc := wc) (ma := some ⟨mb, mo, none⟩) (mc := mc) (k := 7) (n := 8) (by omega) hml, ltq_f (by omega), trivial⟩
        h6 (by kernel_rfl) (by kernel_rfl) (by kernel_rfl) (by kernel_rfl) (by kernel_rfl) (by kernel_rfl) (by kernel_rfl) (by kernel_rfl) (by kernel_rfl) ok1 (fun j hj hn => hs j hj hn [])
theorem fd_slots : SlotsOk 7 (fdC0 : CF).tmps := slots_args (by decide) fun v hv => by
  simp only [List.mem_cons, List.not_mem_nil, or_false] at hv
  rcases hv with rfl | rfl
  · exact .inr (by kernel_rfl)
  · exact .inr (by kernel_rfl)
set_option maxRecDepth 100000 in
theorem fd_rj (hi : IslAt w w.heap.size i wa (some ⟨mb, mo, none⟩)) (h1 : 1 ≤ i.nm) (hf : ∀ d, Fit i tanks (endTru i false i.nm d)) (hn : ftTo i tanks (2 ^ i.nm) = none) :
    RJ Tryz.prog (worldLo w) fdC0 ((List.range 7).map fun q => (q, hget (heapO 0 (fdO i (rawS wa i.nw wc) mb mo mc tanks ffN .ready none)) q)) 7 (.tuple #[]) [(6, .loop (ffS i (rawS wa i.nw wc) mb mo mc tanks .ready none))] 7 [6] := by
  have hW : ∀ j ∈ [6], j = 3 ∨ j = 6 := fun j hj => by simp at hj; exact .inr hj
  obtain ⟨d4, _, g4⟩ := fd_heads (wc := wc) (mc := mc) hi h1 hf hW rfl (fun j hj hn l => fd_same6 j hj hn) _ (Nat.le_refl _) hn
  have std := g4.stdF goFns_ok mixed_ok (fd_writable hW) (os := fdO i (rawS wa i.nw wc) mb mo mc tanks ffN .ready none)
    (fd_end (worldLo w) i (rawS wa i.nw wc) mb mo mc tanks ((2 ^ i.nm : Nat) : Int) (2 ^ i.nm) d4)
    ⟨ltq_f (by omega), trivial⟩ (by kernel_rfl) (by kernel_rfl) (by kernel_rfl) (by kernel_rfl) (by kernel_rfl) (by kernel_rfl) (by kernel_rfl) (by kernel_rfl) (fd_ok (l := []) (by omega) okO_ffN trivial) (fun _ _ _ => rfl)
  exact StdX.rj (os := fdO i (rawS wa i.nw wc) mb mo mc tanks ffN .ready none) (os' := fdO i (rawS wa i.nw wc) mb mo mc tanks ffN .ready none)
    std fd_slots (by kernel_rfl) rfl rfl (fun l e => by cases e) (fd_fix (l := []) (by show 6 ≤ 7; omega) okO_ffN (fun b hb => by simp at hb)) (fd_fix (l := []) (by show 6 ≤ 7; omega) okO_ffN (fun b hb => by simp at hb)) (by kernel_rfl) (by kernel_rfl) (by kernel_rfl) (by kernel_rfl) (by kernel_rfl) (by kernel_rfl)
set_option maxRecDepth 100000 in
theorem fd_rjB (hi : IslAt w w.heap.size i wa (some ⟨mb, mo, none⟩)) (h1 : 1 ≤ i.nm) (hf : ∀ d, Fit i tanks (endTru i false i.nm d)) {b m : Nat} (hn : ftTo i tanks (2 ^ i.nm) = some (b, m)) :
    RJ Tryz.prog (worldLo w) fdC0 ((List.range 7).map fun q => (q, hget (heapO 0 (fdO i (rawS wa i.nw wc) mb mo mc tanks ffN .ready none)) q)) 7 (.tuple #[])
      [(3, .cells (ffF 7 i.nm m (wrongRule i (endsOf i tanks false (bitsDry i.nm b) m)) (wrongWell i (endsOf i tanks false (bitsDry i.nm b) m))) 59 (0, 0)), (6, .loop (ffS i (rawS wa i.nw wc) mb mo mc tanks .done (some (.exit 0)))), (7, .cells (rowA (boolE (bitsDry i.nm b)) i.nm) 4 (0, 0))] 8 [3, 6] := by
  have hW : ∀ j ∈ [3, 6], j = 3 ∨ j = 6 := fun j hj => by simpa using hj
  have h8 : i.nm ≤ 8 := (hf fun _ => false).nm
  have hml : i.nm ≤ maxLen := by unfold maxLen; omega
  obtain ⟨hlt, hn0, hd, hb⟩ := ftTo_some hn
  obtain ⟨d3, _, g3⟩ := fd_months h8 hW (fun j hj hn l => fd_same j hj hn) hlt (fd_heads (wc := wc) (mc := mc) hi h1 hf hW rfl (fun j hj hn l => fd_same j hj hn) b (by omega) hn0)
  rw [bitsTo_all] at g3
  have std := g3.stdF goFns_ok mixed_ok (fd_writable hW) (os := fdO i (rawS wa i.nw wc) mb mo mc tanks (ffF 7 i.nm m (wrongRule i (endsOf i tanks false (bitsDry i.nm b) m)) (wrongWell i (endsOf i tanks false (bitsDry i.nm b) m))) .done (some (.exit 0)) ++ [(false, Obj.cells (rowA (boolE (bitsDry i.nm b)) i.nm) 4 (0, 0))])
    (fd_break (worldLo w) i (rawS wa i.nw wc) mb mo mc tanks ((2 ^ i.nm : Nat) : Int) b i.nm (rowA (boolE (bitsDry i.nm b)) i.nm) m (wrongRule i (endsOf i tanks false (bitsDry i.nm b) m)) (wrongWell i (endsOf i tanks false (bitsDry i.nm b) m)) d3)
    ⟨fr_rjB hi h1 (hf _) hb, hd ▸ con_isDrought (w := w) (i := i) (wa := wa) (wc := wc) (ma := some ⟨mb, mo, none⟩) (mc := mc) (k := 7) (n := 8) (by omega) hml, ltq_f (by omega), trivial⟩ (by kernel_rfl) (by kernel_rfl) (by kernel_rfl) (by kernel_rfl) (by kernel_rfl) (by kernel_rfl) (by kernel_rfl) (by kernel_rfl) (fd_ok (by omega) (okO_ffF (by show 8 ≤ 8; omega)) ⟨.inr ⟨rfl, .inl (loose_boolE _ _)⟩, trivial⟩) fd_same
  exact StdX.rj (os := fdO i (rawS wa i.nw wc) mb mo mc tanks ffN .ready none) (os' := fdO i (rawS wa i.nw wc) mb mo mc tanks (ffF 7 i.nm m (wrongRule i (endsOf i tanks false (bitsDry i.nm b) m)) (wrongWell i (endsOf i tanks false (bitsDry i.nm b) m))) .done (some (.exit 0)) ++ [(false, Obj.cells (rowA (boolE (bitsDry i.nm b)) i.nm) 4 (0, 0))])
    std fd_slots (by kernel_rfl) rfl rfl (fun l e => by cases e) (fd_fix (l := []) (by show 6 ≤ 7; omega) okO_ffN (fun b hb => by simp at hb)) (fd_fix (by show 6 ≤ 8; omega) (okO_ffF (by show 8 ≤ 8; omega)) fd_fixD) (by kernel_rfl) (by kernel_rfl) (by kernel_rfl) (by kernel_rfl) (by kernel_rfl) (by kernel_rfl)
/-- firstFault: nothing can go wrong. -/
theorem firstFault_fine (hi : IslAt w w.heap.size i wa ma) (h1 : 1 ≤ i.nm) (hf : ∀ d, Fit i tanks (endTru i false i.nm d)) (hn : ftTo i tanks (2 ^ i.nm) = none) :
    Calls Tryz.prog 47 #[islV i wa wc ma mc, .int .i64 tanks] w fun e' w' => e' = .returned (.agg ffN) ∧ Below w.heap.size w w' := by
  obtain ⟨mb, mo, rfl, _⟩ := monsGet hi.months (show 0 < i.nm by omega)
  have hcalls := (GoE.refl (P := Tryz.prog) (B := worldLo w) (c0 := entryC Tryz.prog 47 48 [islR i wa wc (some ⟨mb, mo, none⟩) mc, .int .i64 tanks]) under_nil).calls goFns_ok mixed_ok (f := 47) (args := #[islR i wa wc (some ⟨mb, mo, none⟩) mc, .int .i64 tanks]) (args' := #[islV i wa wc (some ⟨mb, mo, none⟩) mc, .int .i64 tanks]) (by kernel_rfl)
    (ff_fine (worldLo w) i (rawS wa i.nw wc) mb mo mc tanks) ⟨fd_rj hi h1 hf hn, con_droughts, trivial⟩ (worldLo_has w)
    (VRl.vrs' (.cons (vr_isl i wa wc (some ⟨mb, mo, none⟩) mc) (.cons (.int _ _) .nil)))
  exact hcalls.mono fun en w' ⟨v', μ', he, hv, hb, _⟩ => ⟨by rw [he, af_eq (v := .agg ffN) (by kernel_rfl) hv], hb⟩
theorem VR.agg4 {μ : Mu} {a b c d v' : Value} (h : VR μ (.agg #[a, b, c, d]) v') : ∃ a' b' c' d', v' = .agg #[a', b', c', d'] ∧ VR μ a a' ∧ VR μ b b' ∧ VR μ c c' ∧ VR μ d d' := by
  obtain ⟨ys, rfl, hl⟩ := h.agg_inv
  cases hl with
  | cons h1 hl => cases hl with
    | cons h2 hl => cases hl with
      | cons h3 hl => cases hl with
        | cons h4 hl => cases hl; exact ⟨_, _, _, _, rfl, h1, h2, h3, h4⟩
theorem boolE_af (d : Nat → Bool) (n : Nat) : ∀ v ∈ rowA (boolE d) n, af v = true := rowA_mem n fun j _ v hv => by
  simp only [boolE, List.mem_cons, List.not_mem_nil, or_false] at hv
  rw [hv]; rfl
/-- firstFault: the first fault, of the drought b in the month m. -/
theorem firstFault_bad (hi : IslAt w w.heap.size i wa ma) (h1 : 1 ≤ i.nm) (hf : ∀ d, Fit i tanks (endTru i false i.nm d)) {b m : Nat} (hn : ftTo i tanks (2 ^ i.nm) = some (b, m)) :
    Calls Tryz.prog 47 #[islV i wa wc ma mc, .int .i64 tanks] w fun e' w' => (∃ g c, e' = .returned (.agg #[.slice (some ⟨g, 0, none⟩) i.nm c, .int .i64 m, .int .i64 (wrongRule i (endsOf i tanks false (bitsDry i.nm b) m)), .int .i64 (wrongWell i (endsOf i tanks false (bitsDry i.nm b) m))]) ∧ w.heap.size ≤ g ∧ g < w'.heap.size ∧ i.nm ≤ c ∧ c ≤ maxLen ∧
      ∀ (j : Nat) v, (rowA (boolE (bitsDry i.nm b)) i.nm)[j]? = some v → w'.cell? ⟨g, j, none⟩ = some v) ∧ Below w.heap.size w w' := by
  obtain ⟨mb, mo, rfl, _⟩ := monsGet hi.months (show 0 < i.nm by omega)
  have hcalls := (GoE.refl (P := Tryz.prog) (B := worldLo w) (c0 := entryC Tryz.prog 47 48 [islR i wa wc (some ⟨mb, mo, none⟩) mc, .int .i64 tanks]) under_nil).calls goFns_ok mixed_ok (f := 47) (args := #[islR i wa wc (some ⟨mb, mo, none⟩) mc, .int .i64 tanks]) (args' := #[islV i wa wc (some ⟨mb, mo, none⟩) mc, .int .i64 tanks]) (by kernel_rfl)
    (ff_bad (worldLo w) i (rawS wa i.nw wc) mb mo mc tanks m (wrongRule i (endsOf i tanks false (bitsDry i.nm b) m)) (wrongWell i (endsOf i tanks false (bitsDry i.nm b) m)) (rowA (boolE (bitsDry i.nm b)) i.nm)) ⟨fd_rjB hi h1 hf hn, con_droughts, trivial⟩ (worldLo_has w)
    (VRl.vrs' (.cons (vr_isl i wa wc (some ⟨mb, mo, none⟩) mc) (.cons (.int _ _) .nil)))
  refine hcalls.mono fun en w' ⟨v', μ', he, hv, hb, hnew⟩ => ⟨?_, hb⟩
  have hrow := af_row (hnew 0 7 (rowA (boolE (bitsDry i.nm b)) i.nm) 4 rfl rfl) (boolE_af _ _)
  obtain ⟨g', cap, k1, k2, k3, k4⟩ := hrow
  obtain ⟨a', b', c', d', rfl, q1, q2, q3, q4⟩ := VR.agg4 hv
  obtain ⟨c, rfl, hc1, hc2⟩ := q1.slice_new k3
  have e2 := af_eq (v := .int .i64 m) rfl q2
  have e3 := af_eq (v := .int .i64 (wrongRule i (endsOf i tanks false (bitsDry i.nm b) m))) rfl q3
  have e4 := af_eq (v := .int .i64 (wrongWell i (endsOf i tanks false (bitsDry i.nm b) m))) rfl q4
  subst e2 e3 e4
  exact ⟨g', c, he, k1, k2, hc1, hc2, k4⟩
end
end Go.Proofs.YtffdidleebognaaGreatDoor

namespace Go.Proofs.YtffdidleebognaaGreatDoor
open Go Go.CE Go.Proofs Go.RowKit Lens
section
variable {i : Isl} {wa : Option Addr} {wc mb mo mc : Nat} {ma : Option Addr} {tanks : Int} {w : World} {dk : Nat → Value} {k : Nat}
end
end Go.Proofs.YtffdidleebognaaGreatDoor

namespace Go.Proofs.YtffdidleebognaaGreatDoor
open Go Go.CE Go.Proofs Go.RowKit Lens
theorem fit_end {i : Isl} {tanks : Int} (hi : islB i = true) (ht : tanksB tanks = true) (much : Bool) (nd : Nat) (d : Nat → Bool) : Fit i tanks (endTru i much nd d) := by
  simp only [islB, monthsB, tanksB, Bool.and_eq_true, isInB_iff, isSpanB_iff, allTo_iff] at hi ht
  obtain ⟨⟨⟨⟨⟨⟨⟨⟨⟨⟨⟨⟨i1, i2⟩, i3⟩, i4⟩, i5⟩, i6⟩, i7⟩, i8⟩, i9⟩, i10⟩, ⟨i11, i12⟩⟩, i13⟩, i14⟩ := hi
  have mon : ∀ k, k < i.nm → (0 ≤ (i.months k).wl ∧ (i.months k).wl ≤ (i.months k).wh ∧ (i.months k).wh ≤ 2000) ∧ (0 ≤ (i.months k).dl ∧ (i.months k).dl ≤ (i.months k).dh ∧ (i.months k).dh ≤ 2000) ∧ (0 ≤ (i.months k).nl ∧ (i.months k).nl ≤ (i.months k).nh ∧ (i.months k).nh ≤ 10000000) := by
    intro k hk
    have := i12 k hk
    simp only [monB, Bool.and_eq_true, isSpanB_iff, decide_eq_true_eq] at this
    obtain ⟨⟨⟨⟨m1, m2⟩, m3⟩, _⟩, _⟩ := this
    exact ⟨m1, m2, m3⟩
  refine ⟨by omega, by omega, i3.1, i3.2, i4.1, i4.2, i7.1, i7.2, i9.1, i9.2, i8.1, i8.2, ht.1, ht.2, by omega, ?_, ?_, ?_, ?_, ?_, ?_, rfl, rfl, ?_, ?_⟩
  · cases much <;> simp only [endTru, lohi] <;> simp <;> omega
  · cases much <;> simp only [endTru, lohi] <;> simp <;> omega
  · cases much <;> simp only [endTru, lohi] <;> simp <;> omega
  · cases much <;> simp only [endTru, lohi] <;> simp <;> omega
  · cases much <;> simp only [endTru, lohi] <;> simp <;> omega
  · cases much <;> simp only [endTru, lohi] <;> simp <;> omega
  · intro k hk
    have := mon k hk
    cases much <;> cases h : d k <;> simp only [endTru, lohi, rlo, rhi, h] <;> simp <;> omega
  · intro k hk
    have := mon k hk
    cases much <;> simp only [endTru, lohi] <;> simp <;> omega
section
variable {i : Isl} {wa : Option Addr} {wc mc : Nat} {ma : Option Addr} {tanks : Int} {w : World}
theorem con_isIslet {n : Nat} (hi : IslAt w w.heap.size i wa ma) : CJ Tryz.prog (worldLo w) 36 #[islR i wa wc ma mc] [] n (.bool (islB i)) [] n [] :=
  con_of (.cons (exact_isl _ _ _ _ _) .nil) (exact_af rfl) fun w' hw => isIslet_any i wa wc ma mc w' (islAt_lo hi hw)
theorem con_areTanks {n : Nat} : CJ Tryz.prog (worldLo w) 37 #[.int .i64 tanks] [] n (.bool (tanksB tanks)) [] n [] :=
  con_of (l := [.int .i64 tanks]) (l' := [.int .i64 tanks]) (.cons (exact_af rfl) .nil) (exact_af rfl) fun w' _ => (areTanks_any tanks w').mono fun _ _ ⟨h1, h2⟩ => ⟨h1, h2 ▸ Below.refl _ _⟩
end
end Go.Proofs.YtffdidleebognaaGreatDoor

namespace Go.Proofs.YtffdidleebognaaGreatDoor
open Go Go.CE Go.Proofs Go.RowKit Lens
def ffQ (b nm : Nat) (m r w : Int) : Array Value := #[.slice (some ⟨b, 0, none⟩) nm 0, .int .i64 m, .int .i64 r, .int .i64 w]
set_option maxRecDepth 100000 in
theorem fw_fine (B : Lo) (i : Isl) (W M : Value) (tanks : Int) : ended (srun Tryz.prog goFns B 11 0 (entryC Tryz.prog 25 18 [.agg (islC i W M), .int .i64 tanks]) [] 0
    [(4, Hint.call [] (Value.bool true) [] 2 []),
(8, Hint.call [] (Value.bool true) [] 2 []),
(13, Hint.call [] (Value.agg ffN) [] 2 [])] 0 [] []) [] = some ⟨.ret (.tuple #[.agg ffN, .int .i64 0]), [], 2,
    [CJ Tryz.prog B 47
  #[Value.agg
      #[Value.int IntKind.i64 (Isl.cap i), Value.int IntKind.i64 (Isl.sl i), Value.int IntKind.i64 (Isl.sh i),
        Value.int IntKind.i64 (Isl.roof i), Value.int IntKind.i64 (Isl.sand i), Value.int IntKind.i64 (Isl.kl i),
        Value.int IntKind.i64 (Isl.kh i), Value.int IntKind.i64 (Isl.ll i), Value.int IntKind.i64 (Isl.lh i),
        Value.int IntKind.i64 (Isl.pump i), Value.int IntKind.i64 (Isl.keep i), Value.int IntKind.i64 (Isl.size i), W,
        M, Value.int IntKind.i64 (Isl.most i), Value.int IntKind.i64 (Isl.row i)],
    Value.int IntKind.i64 tanks]
  [] 2 (Value.agg ffN) [] 2 [],
CJ Tryz.prog B 37 #[Value.int IntKind.i64 tanks] [] 2 (Value.bool true) [] 2 [],
CJ Tryz.prog B 36
  #[Value.agg
      #[Value.int IntKind.i64 (Isl.cap i), Value.int IntKind.i64 (Isl.sl i), Value.int IntKind.i64 (Isl.sh i),
        Value.int IntKind.i64 (Isl.roof i), Value.int IntKind.i64 (Isl.sand i), Value.int IntKind.i64 (Isl.kl i),
        Value.int IntKind.i64 (Isl.kh i), Value.int IntKind.i64 (Isl.ll i), Value.int IntKind.i64 (Isl.lh i),
        Value.int IntKind.i64 (Isl.pump i), Value.int IntKind.i64 (Isl.keep i), Value.int IntKind.i64 (Isl.size i), W,
        M, Value.int IntKind.i64 (Isl.most i), Value.int IntKind.i64 (Isl.row i)]]
  [] 2 (Value.bool true) [] 2 []]⟩ := by kernel_rfl
set_option maxRecDepth 100000 in
theorem fw_bad (B : Lo) (i : Isl) (W M : Value) (tanks m r v : Int) (D : Array Value) : endedB (srun Tryz.prog goFns B 11 0 (entryC Tryz.prog 25 18 [.agg (islC i W M), .int .i64 tanks]) (heapO 0 []) 0
    [(4, Hint.call [] (Value.bool true) [] 2 []),
(8, Hint.call [] (Value.bool true) [] 2 []),
(13, Hint.call [] (Value.agg (ffQ 2 (Isl.nm i) m r v)) [(2, Obj.cells D 4 (1, 1))] 3 [])] 0 [] []) ((kz [2] [(false, .cells D 4 (1, 1))]).map (·.old)) = some (⟨.ret (rnV (rhoK (kz [2] [(false, .cells D 4 (1, 1))])) 3 (.tuple #[.agg (ffQ 0 i.nm m r v), .int .i64 0])), (kz [2] [(false, .cells D 4 (1, 1))]).map (fun kept_ => some (wasK (rhoK (kz [2] [(false, .cells D 4 (1, 1))])) kept_)), 3,
    [CJ Tryz.prog B 47
  #[Value.agg
      #[Value.int IntKind.i64 (Isl.cap i), Value.int IntKind.i64 (Isl.sl i), Value.int IntKind.i64 (Isl.sh i),
        Value.int IntKind.i64 (Isl.roof i), Value.int IntKind.i64 (Isl.sand i), Value.int IntKind.i64 (Isl.kl i),
        Value.int IntKind.i64 (Isl.kh i), Value.int IntKind.i64 (Isl.ll i), Value.int IntKind.i64 (Isl.lh i),
        Value.int IntKind.i64 (Isl.pump i), Value.int IntKind.i64 (Isl.keep i), Value.int IntKind.i64 (Isl.size i), W,
        M, Value.int IntKind.i64 (Isl.most i), Value.int IntKind.i64 (Isl.row i)],
    Value.int IntKind.i64 tanks]
  [] 2 (Value.agg (ffQ 2 (Isl.nm i) m r v)) [(2, Obj.cells D 4 (1, 1))] 3 [],
CJ Tryz.prog B 37 #[Value.int IntKind.i64 tanks] [] 2 (Value.bool true) [] 2 [],
CJ Tryz.prog B 36
  #[Value.agg
      #[Value.int IntKind.i64 (Isl.cap i), Value.int IntKind.i64 (Isl.sl i), Value.int IntKind.i64 (Isl.sh i),
        Value.int IntKind.i64 (Isl.roof i), Value.int IntKind.i64 (Isl.sand i), Value.int IntKind.i64 (Isl.kl i),
        Value.int IntKind.i64 (Isl.kh i), Value.int IntKind.i64 (Isl.ll i), Value.int IntKind.i64 (Isl.lh i),
        Value.int IntKind.i64 (Isl.pump i), Value.int IntKind.i64 (Isl.keep i), Value.int IntKind.i64 (Isl.size i), W,
        M, Value.int IntKind.i64 (Isl.most i), Value.int IntKind.i64 (Isl.row i)]]
  [] 2 (Value.bool true) [] 2 []]⟩, []) := by kernel_rfl
section
variable {i : Isl} {wa : Option Addr} {wc mc : Nat} {ma : Option Addr} {tanks : Int} {w : World} {n : Nat}
theorem isl_nm (h1 : islB i = true) : 1 ≤ i.nm ∧ i.nm ≤ 8 ∧ 0 ≤ i.most ∧ 0 ≤ i.row := by
  simp only [islB, monthsB, Bool.and_eq_true, isInB_iff] at h1
  omega
theorem exl_it : ExL [islR i wa wc ma mc, .int .i64 tanks] [islV i wa wc ma mc, .int .i64 tanks] := .cons (exact_isl _ _ _ _ _) (.cons (exact_af rfl) .nil)
theorem ex_fault (a b c e : Int) : Exact (.tuple #[.agg #[.slice none 0 0, .int .i64 a, .int .i64 b, .int .i64 c], .int .i64 e]) (.tuple #[.agg #[.slice none 0 0, .int .i64 a, .int .i64 b, .int .i64 c], .int .i64 e]) :=
  exact_tuple (.cons (exact_agg (.cons (exact_af rfl) (.cons (exact_af rfl) (.cons (exact_af rfl) (.cons (exact_af rfl) .nil))))) (.cons (exact_af rfl) .nil))
theorem con_firstFine (hi : IslAt w w.heap.size i wa ma) (h1 : islB i = true) (h2 : tanksB tanks = true) (hn : ftTo i tanks (2 ^ i.nm) = none) :
    CJ Tryz.prog (worldLo w) 47 #[islR i wa wc ma mc, .int .i64 tanks] [] n (.agg ffN) [] n [] :=
  con_of (v' := .agg ffN) exl_it (exact_af (by kernel_rfl)) fun _ hw => firstFault_fine (islAt_lo hi hw) (isl_nm h1).1 (fun d => fit_end h1 h2 false _ d) hn
theorem con_firstBad {b m : Nat} (hi : IslAt w w.heap.size i wa ma) (h1 : islB i = true) (h2 : tanksB tanks = true) (hn : ftTo i tanks (2 ^ i.nm) = some (b, m)) :
    CJ Tryz.prog (worldLo w) 47 #[islR i wa wc ma mc, .int .i64 tanks] [] n (.agg (ffQ n i.nm m (wrongRule i (endsOf i tanks false (bitsDry i.nm b) m)) (wrongWell i (endsOf i tanks false (bitsDry i.nm b) m)))) [(n, .cells (rowA (boolE (bitsDry i.nm b)) i.nm) 4 (1, 1))] (n + 1) [] :=
  cj_row (boolE_af _ _) fun μ w' args' hB ha => by
    rw [exl_it.args ha]
    refine (firstFault_bad (islAt_lo hi hB) (isl_nm h1).1 (fun d => fit_end h1 h2 false _ d) hn).mono fun e w'' ⟨⟨g, c, he, k1, k2, k3, k4, k5⟩, hb⟩ => ⟨⟨g, _, k1, k2, he, k5, fun μ' hμ => ?_⟩, hb⟩
    exact vr_aggl (.cons (.slice ⟨_, hμ, rfl, rfl⟩ k3 k4 fun h => absurd rfl h) (.cons (.int _ _) (.cons (.int _ _) (.cons (.int _ _) .nil))))
theorem Fault_fine (hi : IslAt w w.heap.size i wa ma) (h1 : islB i = true) (h2 : tanksB tanks = true) (hn : ftTo i tanks (2 ^ i.nm) = none) : Calls Tryz.prog 25 #[islV i wa wc ma mc, .int .i64 tanks] w fun e' w' => e' = .returned (.tuple #[.agg ffN, .int .i64 0]) ∧ Below w.heap.size w w' :=
  ((GoE.refl under_nil).calls goFns_ok mixed_ok (f := 25) (args := #[islR i wa wc ma mc, .int .i64 tanks]) (by kernel_rfl) (fw_fine (worldLo w) i (rawS wa i.nw wc) (rawS ma i.nm mc) tanks) ⟨con_firstFine hi h1 h2 hn, h2 ▸ con_areTanks, h1 ▸ con_isIslet hi, trivial⟩ (worldLo_has w) (VRl.vrs' exl_it.vrl)).mono fun _ _ ⟨v', _, he, hv, hb, _⟩ => ⟨by rw [he, (ex_fault _ _ _ _).2 _ _ hv]; rfl, hb⟩
theorem con_FaultFine (hi : IslAt w w.heap.size i wa ma) (h1 : islB i = true) (h2 : tanksB tanks = true) (hn : ftTo i tanks (2 ^ i.nm) = none) : CJ Tryz.prog (worldLo w) 25 #[islR i wa wc ma mc, .int .i64 tanks] [] n (.tuple #[.agg ffN, .int .i64 0]) [] n [] :=
  con_of (v' := .tuple #[.agg ffN, .int .i64 0]) exl_it (ex_fault _ _ _ _) fun _ hw => Fault_fine (islAt_lo hi hw) h1 h2 hn
theorem con_FaultBad {b m : Nat} (hi : IslAt w w.heap.size i wa ma) (h1 : islB i = true) (h2 : tanksB tanks = true) (hn : ftTo i tanks (2 ^ i.nm) = some (b, m)) :
    CJ Tryz.prog (worldLo w) 25 #[islR i wa wc ma mc, .int .i64 tanks] [] n (.tuple #[.agg (ffQ n i.nm m (wrongRule i (endsOf i tanks false (bitsDry i.nm b) m)) (wrongWell i (endsOf i tanks false (bitsDry i.nm b) m))), .int .i64 0]) [(n, .cells (rowA (boolE (bitsDry i.nm b)) i.nm) 4 (1, 1))] (n + 1) [] := by
  have hA : looseO (.cells (rowA (boolE (bitsDry i.nm b)) i.nm) 4 (1, 1)) := loose_boolE _ _
  have h : StdJ Tryz.prog (worldLo w) 25 #[islR i wa wc ma mc, .int .i64 tanks] (heapO 0 []) 0 (.tuple #[.agg (ffQ 0 i.nm m (wrongRule i (endsOf i tanks false (bitsDry i.nm b) m)) (wrongWell i (endsOf i tanks false (bitsDry i.nm b) m))), .int .i64 0]) (heapO 0 [(false, .cells (rowA (boolE (bitsDry i.nm b)) i.nm) 4 (1, 1))]) 1 [] :=
    (GoE.refl (P := Tryz.prog) (B := worldLo w) (c0 := entryC Tryz.prog 25 18 [islR i wa wc ma mc, .int .i64 tanks]) (under_heapO [] (Nat.le_refl 0))).std goFns_ok mixed_ok (by kernel_rfl) (writable_nil _ _)
      (os := [(false, .cells (rowA (boolE (bitsDry i.nm b)) i.nm) 4 (1, 1))]) (fw_bad (worldLo w) i (rawS wa i.nw wc) (rawS ma i.nm mc) tanks m (wrongRule i (endsOf i tanks false (bitsDry i.nm b) m)) (wrongWell i (endsOf i tanks false (bitsDry i.nm b) m)) (rowA (boolE (bitsDry i.nm b)) i.nm)) ⟨con_firstBad hi h1 h2 hn, h2 ▸ con_areTanks, h1 ▸ con_isIslet hi, trivial⟩
      (by kernel_rfl) (by kernel_rfl) (by kernel_rfl) (by kernel_rfl) (by kernel_rfl) (by kernel_rfl) (by kernel_rfl) (by kernel_rfl) ⟨.inr ⟨rfl, .inl hA⟩, trivial⟩ (fun j hj _ => by omega)
  have hloose : ∀ x ∈ ([] : List (Bool × Obj)) ++ [(false, Obj.cells (rowA (boolE (bitsDry i.nm b)) i.nm) 4 (1, 1))], looseO x.2 := by
    intro x hx
    simp only [List.nil_append, List.mem_cons, List.not_mem_nil, or_false] at hx
    rw [hx]; exact hA
  rcases wa with _ | ⟨x, o, _ | z⟩ <;> rcases ma with _ | ⟨x', o', _ | z'⟩
  all_goals exact (StdJ.rows (kept := []) (l := []) (n := n) h rfl (fun k hk => by simp at hk) rfl hloose (by kernel_rfl) (by kernel_rfl)).cast (by kernel_rfl) (by kernel_rfl) (by kernel_rfl) (by kernel_rfl) (by kernel_rfl)
theorem con_rDrought {k nd fz z : Nat} {d : Nat → Bool} (hk : k < n) (hm : nd ≤ maxLen) (h1 : 0 ≤ i.most) (h2 : 0 ≤ i.row) :
    CJ Tryz.prog (worldLo w) 28 #[islR i wa wc ma mc, .slice (some ⟨k, 0, none⟩) nd z] [(k, some (.cells (rowA (boolE d) nd) 4 (fz, fz)))] n (.bool (drB i.most i.row nd d && decide (nd = i.nm))) [] n [] := by
  refine cj_read rfl (fun p hp => ?_) fun μ w' args' hB hv hH => ?_
  · simp only [List.mem_cons, List.not_mem_nil, or_false] at hp
    rcases hp with rfl
    exact hk
  · obtain ⟨im, q1, q2, q3⟩ := hH (k, some (.cells (rowA (boolE d) nd) 4 (fz, fz))) (by simp) _ _ _ rfl
    have hl := vrl_args (l := [islR i wa wc ma mc, .slice (some ⟨k, 0, none⟩) nd z]) hv
    generalize hg : args'.toList = l at hl
    cases hl with
    | cons p1 hl => cases hl with
      | cons p2 hl =>
        cases hl
        obtain ⟨c, rfl, _, _⟩ := p2.slice_new q1
        have e1 := (exact_isl i wa wc ma mc).2 _ _ p1
        have e : args' = #[islV i wa wc ma mc, .slice (some ⟨im.blk, im.off, none⟩) nd c] := by rw [← Array.toList_inj, hg, e1]
        rw [e]
        exact rDrought_any i wa wc ma mc _ nd c d w' hm (atN_of_or q3 q2 (fun _ => rfl) boolE_get) h1 h2
/-- Play on a truth whose rows are the run's own. -/
theorem con_playO {t : Tru} {k r s fk fr fs z : Nat} (hi : IslAt w w.heap.size i wa ma) (hk : k < n) (hr : r < n) (hs : s < n) (h1 : islB i = true) (h2 : tanksB tanks = true) (h3 : truB i t = true) :
    CJ Tryz.prog (worldLo w) 20 #[islR i wa wc ma mc, .int .i64 tanks, .agg #[.int .i64 t.start, .int .i64 t.soak, .int .i64 t.leak, .slice (some ⟨k, 0, none⟩) t.nd z, .slice (some ⟨r, 0, none⟩) t.nr 1, .slice (some ⟨s, 0, none⟩) t.nn 1]]
      [(k, some (.cells (rowA (boolE t.dry) t.nd) 4 (fk, fk))), (r, some (.cells (rowA (intE t.rains) t.nr) 3 (fr, fr))), (s, some (.cells (rowA (intE t.needs) t.nn) 3 (fs, fs)))] n
      (.tuple #[.slice (some ⟨n, 0, none⟩) i.nm 0, .agg #[.int .i64 (i.size * tanks + t.start), .int .i64 (runTo i tanks t i.nm).rain, .int .i64 (runTo i tanks t i.nm).used, .int .i64 (runTo i tanks t i.nm).leak, .int .i64 (runTo i tanks t i.nm).sea, .int .i64 ((runTo i tanks t i.nm).tanks + (runTo i tanks t i.nm).lens)], .int .i64 0])
      [(n, .cells (rowA (seenE i tanks t) i.nm) 53 (1, 1))] (n + 1) [] := by
  have hf := fit_of h1 h2 h3
  have hnm := isl_nm h1
  have hml : i.nm ≤ maxLen := by unfold maxLen; omega
  have e3 := h3
  simp only [truB, Bool.and_eq_true, decide_eq_true_eq] at e3
  obtain ⟨⟨⟨⟨⟨_, ed⟩, er⟩, en⟩, _⟩, _⟩ := e3
  refine cj_readrow seenE_af (fun p hp => ?_) fun μ w' args' hB hv hH => ?_
  · simp only [List.mem_cons, List.not_mem_nil, or_false] at hp
    rcases hp with rfl | rfl | rfl <;> assumption
  · obtain ⟨imk, k1, k2, k3⟩ := hH (k, some (.cells (rowA (boolE t.dry) t.nd) 4 (fk, fk))) (by simp) _ _ _ rfl
    obtain ⟨imr, r1, r2, r3⟩ := hH (r, some (.cells (rowA (intE t.rains) t.nr) 3 (fr, fr))) (by simp) _ _ _ rfl
    obtain ⟨ims, s1, s2, s3⟩ := hH (s, some (.cells (rowA (intE t.needs) t.nn) 3 (fs, fs))) (by simp) _ _ _ rfl
    have hl := vrl_args (l := [islR i wa wc ma mc, .int .i64 tanks, .agg #[.int .i64 t.start, .int .i64 t.soak, .int .i64 t.leak, .slice (some ⟨k, 0, none⟩) t.nd z, .slice (some ⟨r, 0, none⟩) t.nr 1, .slice (some ⟨s, 0, none⟩) t.nn 1]]) hv
    generalize hg : args'.toList = l at hl
    cases hl with
    | cons q1 hl => cases hl with
      | cons q2 hl => cases hl with
        | cons q3 hl =>
          cases hl
          have e1 := (exact_isl i wa wc ma mc).2 _ _ q1
          have e2 := (exact_af (v := .int .i64 tanks) rfl).2 _ _ q2
          obtain ⟨ys, rfl, hy⟩ := q3.agg_inv
          cases hy with
          | cons y1 hy => cases hy with
            | cons y2 hy => cases hy with
              | cons y3 hy => cases hy with
                | cons y4 hy => cases hy with
                  | cons y5 hy => cases hy with
                    | cons y6 hy =>
                      cases hy
                      have f1 := (exact_af (v := .int .i64 t.start) rfl).2 _ _ y1
                      have f2 := (exact_af (v := .int .i64 t.soak) rfl).2 _ _ y2
                      have f3 := (exact_af (v := .int .i64 t.leak) rfl).2 _ _ y3
                      obtain ⟨ck, rfl, _, _⟩ := y4.slice_new k1
                      obtain ⟨cr, rfl, _, _⟩ := y5.slice_new r1
                      obtain ⟨cs, rfl, _, _⟩ := y6.slice_new s1
                      subst e1 e2 f1 f2 f3
                      have e : args' = #[islV i wa wc ma mc, .int .i64 tanks, truV t (some ⟨imk.blk, imk.off, none⟩) ck (some ⟨imr.blk, imr.off, none⟩) cr (some ⟨ims.blk, ims.off, none⟩) cs] := by rw [← Array.toList_inj, hg]; rfl
                      rw [e]
                      refine (play_at i wa wc ma mc tanks t _ ck _ cr _ cs w' (islAt_lo hi hB) ⟨by omega, by omega, by omega, atN_of_or k3 k2 (fun _ => rfl) boolE_get, atN_of_or r3 r2 (fun _ => rfl) intE_get, atN_of_or s3 s2 (fun _ => rfl) intE_get⟩ h1 h2 h3).mono fun e w'' ⟨⟨g, he, hs, hg1⟩, hb⟩ => ⟨⟨g, _, hg1, ?_, he, seens_cells hs, fun μ' hμ => ?_⟩, hb⟩
                      · obtain ⟨b, off, he, hlt, _⟩ := hs (by omega)
                        cases he
                        exact hlt
                      · have : VRl μ' [.slice (some ⟨n, 0, none⟩) i.nm 0, .agg #[.int .i64 (i.size * tanks + t.start), .int .i64 (runTo i tanks t i.nm).rain, .int .i64 (runTo i tanks t i.nm).used, .int .i64 (runTo i tanks t i.nm).leak, .int .i64 (runTo i tanks t i.nm).sea, .int .i64 ((runTo i tanks t i.nm).tanks + (runTo i tanks t i.nm).lens)], .int .i64 0]
                            [.slice (some ⟨g, 0, none⟩) i.nm i.nm, .agg #[.int .i64 (i.size * tanks + t.start), .int .i64 (runTo i tanks t i.nm).rain, .int .i64 (runTo i tanks t i.nm).used, .int .i64 (runTo i tanks t i.nm).leak, .int .i64 (runTo i tanks t i.nm).sea, .int .i64 ((runTo i tanks t i.nm).tanks + (runTo i tanks t i.nm).lens)], .int .i64 0] :=
                          .cons (.slice ⟨_, hμ, rfl, rfl⟩ (Nat.le_refl _) hml fun h => absurd rfl h) (.cons (vr_af (by kernel_rfl)) (.cons (.int _ _) .nil))
                        exact .tuple this.vrs'.1 this.vrs'.2
/-- The truth of a drought with as little water as can be, or as much, is one. -/
theorem end_tru {d : Nat → Bool} {much : Bool} (h1 : islB i = true) (hd : drB i.most i.row i.nm d = true) : truB i (endTru i much i.nm d) = true := by
  have h := h1
  simp only [islB, monthsB, Bool.and_eq_true, isInB_iff, isSpanB_iff, allTo_iff] at h
  obtain ⟨⟨⟨⟨⟨⟨⟨⟨⟨⟨⟨⟨i1, i2⟩, i3⟩, i4⟩, i5⟩, i6⟩, i7⟩, i8⟩, i9⟩, i10⟩, ⟨i11, i12⟩⟩, i13⟩, i14⟩ := h
  simp only [truB, Bool.and_eq_true, isInB_iff, allTo_iff, decide_eq_true_eq]
  refine ⟨⟨⟨⟨⟨⟨⟨?_, ?_⟩, ?_⟩, rfl⟩, rfl⟩, rfl⟩, hd⟩, fun k hk => ?_⟩
  · cases much <;> simp only [endTru, lohi] <;> simp <;> omega
  · cases much <;> simp only [endTru, lohi] <;> simp <;> omega
  · cases much <;> simp only [endTru, lohi] <;> simp <;> omega
  · have := i12 k hk
    simp only [monB, Bool.and_eq_true, isSpanB_iff, decide_eq_true_eq] at this
    obtain ⟨⟨⟨⟨m1, m2⟩, m3⟩, m4⟩, m5⟩ := this
    simp only [truOk, Bool.and_eq_true, isInB_iff]
    cases much <;> cases hy : d k <;> simp only [endTru, lohi, rlo, rhi, hy] <;> simp <;> omega
end
end Go.Proofs.YtffdidleebognaaGreatDoor

namespace Go.Proofs.YtffdidleebognaaGreatDoor
open Go Go.CE Go.Proofs Go.RowKit Lens
def enO (i : Isl) (W : Value) (mb mo ms : Nat) (a b c : Int) (A : Array Value) (nd z fz : Nat) (R N : Value) : List (Bool × Obj) :=
  [(false, .cells A 4 (fz, fz)), (false, .cells (islC i W (.slice (some ⟨mb, mo, some 0⟩) i.nm ms)) 27 (0, 0)),
   (true, .cells #[.int .i64 0, .int .i64 0, .int .i64 0, .slice none 0 0, .slice none 0 0, .slice none 0 0] 40 (0, 0)),
   (true, .cells #[.int .i64 a, .int .i64 b, .int .i64 c, .slice (some ⟨0, 0, none⟩) nd z, R, N] 40 (0, 0))]
def enL (nd z k : Nat) (much : Bool) : List (Nat × Value) :=
  [(1, .slice (some ⟨0, 0, none⟩) nd z), (2, .bool much), (3, .pointer (some ⟨1, 0, none⟩)), (6, .pointer (some ⟨2, 0, none⟩)), (7, .pointer (some ⟨3, 0, none⟩)), (8, .int .i64 k)]
def enT : List It := [.code [1, 1, 1, 0, 1, 0, 0], .inLoop [1, 1, 1, 0, 1, 0, 0], .inBlock 0, .code [1, 1, 1, 1]]
set_option maxRecDepth 100000 in
theorem len_entry (B : Lo) (i : Isl) (W : Value) (mb mo ms nd z fz : Nat) (A : Array Value) : landB (srun Tryz.prog goFns B 14 1 (entryC Tryz.prog 29 91 [.agg (islC i W (.slice (some ⟨mb, mo, some 0⟩) i.nm ms)), .slice (some ⟨0, 0, none⟩) nd z, .bool false]) (heapO 0 [(false, .cells A 4 (fz, fz))]) 1
    [] 0 [] []) ((enL nd z 0 false).map (·.1)) ((kz [0, 1, 2, 3] (enO i W mb mo ms i.sl i.kl i.lh A nd z fz (.slice none 0 0) (.slice none 0 0))).map (·.old)) = some (⟨29, 91, enT.map (it (bodyOf Tryz.prog 29)), [], .run, none, (enL nd z 0 false).map (fun p => rnV (rhoK (kz [0, 1, 2, 3] (enO i W mb mo ms i.sl i.kl i.lh A nd z fz (.slice none 0 0) (.slice none 0 0)))) 3 p.2), (kz [0, 1, 2, 3] (enO i W mb mo ms i.sl i.kl i.lh A nd z fz (.slice none 0 0) (.slice none 0 0))).map (fun kept_ => some (wasK (rhoK (kz [0, 1, 2, 3] (enO i W mb mo ms i.sl i.kl i.lh A nd z fz (.slice none 0 0) (.slice none 0 0)))) kept_)), 4,
    []⟩, []) := by kernel_rfl
set_option maxRecDepth 100000 in
theorem len_first (B : Lo) (i : Isl) (W : Value) (mb mo ms nd z fz : Nat) (A : Array Value) (a b c : Int) (m : Mon) (y : Bool) (r0 r1 : Int) (d : Nat → Value) : landB (srun Tryz.prog goFns B 18 1 (headC 29 91 (enL nd z 0 false) d (enT.map (it (bodyOf Tryz.prog 29)))) (heapO 0 (enO i W mb mo ms a b c A nd z fz (.slice none 0 0) (.slice none 0 0))) ((enO i W mb mo ms a b c A nd z fz (.slice none 0 0) (.slice none 0 0))).length
    [(4, Hint.val (Value.bool true)),
(8, Hint.idx 0),
(9, Hint.raw
  (Value.agg
    #[Value.int IntKind.i64 (Mon.wl m), Value.int IntKind.i64 (Mon.wh m), Value.int IntKind.i64 (Mon.dl m),
      Value.int IntKind.i64 (Mon.dh m), Value.int IntKind.i64 (Mon.nl m), Value.int IntKind.i64 (Mon.nh m)])),
(12, Hint.idx 0),
(13, Hint.ld (Value.bool y)),
(14, Hint.call [] (Value.agg #[Value.int IntKind.i64 r0, Value.int IntKind.i64 r1]) [] 4 []),
(19, Hint.idx 0),
(22, Hint.raw (Value.int IntKind.i64 (Mon.nh m)))] 0 [] []) ((enL nd z 1 false).map (·.1)) ((kz [0, 1, 2, 3, 5, 7] (enO i W mb mo ms a b c A nd z fz (.slice (some ⟨4, 0, none⟩) 1 1) (.slice (some ⟨5, 0, none⟩) 1 1) ++ [(false, Obj.cells #[.int .i64 r0] 3 (0, 0)), (false, Obj.cells #[.int .i64 m.nh] 3 (0, 0))])).map (·.old)) = some (⟨29, 91, enT.map (it (bodyOf Tryz.prog 29)), [], .run, none, (enL nd z 1 false).map (fun p => rnV (rhoK (kz [0, 1, 2, 3, 5, 7] (enO i W mb mo ms a b c A nd z fz (.slice (some ⟨4, 0, none⟩) 1 1) (.slice (some ⟨5, 0, none⟩) 1 1) ++ [(false, Obj.cells #[.int .i64 r0] 3 (0, 0)), (false, Obj.cells #[.int .i64 m.nh] 3 (0, 0))]))) 3 p.2), (kz [0, 1, 2, 3, 5, 7] (enO i W mb mo ms a b c A nd z fz (.slice (some ⟨4, 0, none⟩) 1 1) (.slice (some ⟨5, 0, none⟩) 1 1) ++ [(false, Obj.cells #[.int .i64 r0] 3 (0, 0)), (false, Obj.cells #[.int .i64 m.nh] 3 (0, 0))])).map (fun kept_ => some (wasK (rhoK (kz [0, 1, 2, 3, 5, 7] (enO i W mb mo ms a b c A nd z fz (.slice (some ⟨4, 0, none⟩) 1 1) (.slice (some ⟨5, 0, none⟩) 1 1) ++ [(false, Obj.cells #[.int .i64 r0] 3 (0, 0)), (false, Obj.cells #[.int .i64 m.nh] 3 (0, 0))]))) kept_)), 8,
    [RawCell B mb (mo + 0 + 4 + 1) (Value.int IntKind.i64 (Mon.nh m)),
0 = (↑0 : Int) ∧ 0 < Isl.nm i,
CJ Tryz.prog B 46
  #[Value.agg
      #[Value.int IntKind.i64 (Mon.wl m), Value.int IntKind.i64 (Mon.wh m), Value.int IntKind.i64 (Mon.dl m),
        Value.int IntKind.i64 (Mon.dh m), Value.int IntKind.i64 (Mon.nl m), Value.int IntKind.i64 (Mon.nh m)],
    Value.bool y]
  [] 4 (Value.agg #[Value.int IntKind.i64 r0, Value.int IntKind.i64 r1]) [] 4 [],
A[0]? = some (Value.bool y),
0 = (↑0 : Int) ∧ 0 < nd,
∀ (j : Nat) (u : Value),
  #[Value.int IntKind.i64 (Mon.wl m), Value.int IntKind.i64 (Mon.wh m), Value.int IntKind.i64 (Mon.dl m),
          Value.int IntKind.i64 (Mon.dh m), Value.int IntKind.i64 (Mon.nl m), Value.int IntKind.i64 (Mon.nh m)][j]? =
      some u →
    RawCell B mb (mo + 0 + j) u,
0 = (↑0 : Int) ∧ 0 < Isl.nm i,
ltq 0 (↑(Isl.nm i) : Int) = true]⟩, []) := by kernel_rfl
set_option maxRecDepth 100000 in
theorem len_round (B : Lo) (i : Isl) (W : Value) (mb mo ms nd z fz k : Nat) (A : Array Value) (a b c : Int) (m : Mon) (y : Bool) (r0 r1 : Int) (X Y : Array Value) (d : Nat → Value) : landB (srun Tryz.prog goFns B 18 1 (headC 29 91 (enL nd z k false) d (enT.map (it (bodyOf Tryz.prog 29)))) (heapO 0 (enO i W mb mo ms a b c A nd z fz (.slice (some ⟨4, 0, none⟩) k 1) (.slice (some ⟨5, 0, none⟩) k 1) ++ [(false, Obj.cells X 3 (0, 0)), (false, Obj.cells Y 3 (0, 0))])) ((enO i W mb mo ms a b c A nd z fz (.slice (some ⟨4, 0, none⟩) k 1) (.slice (some ⟨5, 0, none⟩) k 1) ++ [(false, Obj.cells X 3 (0, 0)), (false, Obj.cells Y 3 (0, 0))])).length
    [(4, Hint.val (Value.bool true)),
(8, Hint.idx k),
(9, Hint.raw
  (Value.agg
    #[Value.int IntKind.i64 (Mon.wl m), Value.int IntKind.i64 (Mon.wh m), Value.int IntKind.i64 (Mon.dl m),
      Value.int IntKind.i64 (Mon.dh m), Value.int IntKind.i64 (Mon.nl m), Value.int IntKind.i64 (Mon.nh m)])),
(12, Hint.idx k),
(13, Hint.ld (Value.bool y)),
(14, Hint.call [] (Value.agg #[Value.int IntKind.i64 r0, Value.int IntKind.i64 r1]) [] 6 []),
(19, Hint.idx k),
(22, Hint.raw (Value.int IntKind.i64 (Mon.nh m))),
(30, Hint.app (X ++ #[Value.int IntKind.i64 r0])),
(35, Hint.app (Y ++ #[Value.int IntKind.i64 (Mon.nh m)])),
(41, Hint.val (Value.int IntKind.i64 ((↑k : Int) + 1)))] 0 [] []) ((enL nd z (k + 1) false).map (·.1)) ((kz [0, 1, 2, 3, 7, 9] (enO i W mb mo ms a b c A nd z fz (.slice (some ⟨4, 0, none⟩) (k + 1) 1) (.slice (some ⟨5, 0, none⟩) (k + 1) 1) ++ [(false, Obj.cells (X ++ #[.int .i64 r0]) 3 (0, 0)), (false, Obj.cells (Y ++ #[.int .i64 m.nh]) 3 (0, 0))])).map (·.old)) = some (⟨29, 91, enT.map (it (bodyOf Tryz.prog 29)), [], .run, none, (enL nd z (k + 1) false).map (fun p => rnV (rhoK (kz [0, 1, 2, 3, 7, 9] (enO i W mb mo ms a b c A nd z fz (.slice (some ⟨4, 0, none⟩) (k + 1) 1) (.slice (some ⟨5, 0, none⟩) (k + 1) 1) ++ [(false, Obj.cells (X ++ #[.int .i64 r0]) 3 (0, 0)), (false, Obj.cells (Y ++ #[.int .i64 m.nh]) 3 (0, 0))]))) 3 p.2), (kz [0, 1, 2, 3, 7, 9] (enO i W mb mo ms a b c A nd z fz (.slice (some ⟨4, 0, none⟩) (k + 1) 1) (.slice (some ⟨5, 0, none⟩) (k + 1) 1) ++ [(false, Obj.cells (X ++ #[.int .i64 r0]) 3 (0, 0)), (false, Obj.cells (Y ++ #[.int .i64 m.nh]) 3 (0, 0))])).map (fun kept_ => some (wasK (rhoK (kz [0, 1, 2, 3, 7, 9] (enO i W mb mo ms a b c A nd z fz (.slice (some ⟨4, 0, none⟩) (k + 1) 1) (.slice (some ⟨5, 0, none⟩) (k + 1) 1) ++ [(false, Obj.cells (X ++ #[.int .i64 r0]) 3 (0, 0)), (false, Obj.cells (Y ++ #[.int .i64 m.nh]) 3 (0, 0))]))) kept_)), 10,
    [wq ((↑k : Int) + 1) = (↑k : Int) + 1,
Array.size Y = k * (0 + 1) ∧
  k + 1 ≤ maxLen ∧
    (k + 1) * TypeInfo.bytes Tryz.t3 ≤ 140737488355328 ∧
      Y ++ Array.extract #[Value.int IntKind.i64 (Mon.nh m)] 0 (0 + 1 * (0 + 1)) =
        Y ++ #[Value.int IntKind.i64 (Mon.nh m)],
Array.size X = k * (0 + 1) ∧
  k + 1 ≤ maxLen ∧
    (k + 1) * TypeInfo.bytes Tryz.t3 ≤ 140737488355328 ∧
      X ++ Array.extract #[Value.int IntKind.i64 r0] 0 (0 + 1 * (0 + 1)) = X ++ #[Value.int IntKind.i64 r0],
RawCell B mb (mo + k * 6 + 4 + 1) (Value.int IntKind.i64 (Mon.nh m)),
(↑k : Int) = (↑k : Int) ∧ k < Isl.nm i,
CJ Tryz.prog B 46
  #[Value.agg
      #[Value.int IntKind.i64 (Mon.wl m), Value.int IntKind.i64 (Mon.wh m), Value.int IntKind.i64 (Mon.dl m),
        Value.int IntKind.i64 (Mon.dh m), Value.int IntKind.i64 (Mon.nl m), Value.int IntKind.i64 (Mon.nh m)],
    Value.bool y]
  [] 6 (Value.agg #[Value.int IntKind.i64 r0, Value.int IntKind.i64 r1]) [] 6 [],
A[0 + k * 1]? = some (Value.bool y),
(↑k : Int) = (↑k : Int) ∧ k < nd,
∀ (j : Nat) (u : Value),
  #[Value.int IntKind.i64 (Mon.wl m), Value.int IntKind.i64 (Mon.wh m), Value.int IntKind.i64 (Mon.dl m),
          Value.int IntKind.i64 (Mon.dh m), Value.int IntKind.i64 (Mon.nl m), Value.int IntKind.i64 (Mon.nh m)][j]? =
      some u →
    RawCell B mb (mo + k * 6 + j) u,
(↑k : Int) = (↑k : Int) ∧ k < Isl.nm i,
ltq (↑k : Int) (↑(Isl.nm i) : Int) = true]⟩, []) := by kernel_rfl
set_option maxRecDepth 100000 in
theorem len_end (B : Lo) (i : Isl) (W : Value) (mb mo ms nd z fz k : Nat) (A : Array Value) (a b c : Int) (X Y : Array Value) (d : Nat → Value) : endedB (srun Tryz.prog goFns B 9 1 (headC 29 91 (enL nd z k false) d (enT.map (it (bodyOf Tryz.prog 29)))) (heapO 0 (enO i W mb mo ms a b c A nd z fz (.slice (some ⟨4, 0, none⟩) k 1) (.slice (some ⟨5, 0, none⟩) k 1) ++ [(false, Obj.cells X 3 (0, 0)), (false, Obj.cells Y 3 (0, 0))])) ((enO i W mb mo ms a b c A nd z fz (.slice (some ⟨4, 0, none⟩) k 1) (.slice (some ⟨5, 0, none⟩) k 1) ++ [(false, Obj.cells X 3 (0, 0)), (false, Obj.cells Y 3 (0, 0))])).length
    [(4, Hint.val (Value.bool false))] 0 [] []) ((kz [0, 4, 5] [(false, .cells A 4 (fz, fz)), (false, .cells X 3 (0, 0)), (false, .cells Y 3 (0, 0))]).map (·.old)) = some (⟨.ret (rnV (rhoK (kz [0, 4, 5] [(false, .cells A 4 (fz, fz)), (false, .cells X 3 (0, 0)), (false, .cells Y 3 (0, 0))])) 3 (.agg #[.int .i64 a, .int .i64 b, .int .i64 c, .slice (some ⟨0, 0, none⟩) nd z, .slice (some ⟨1, 0, none⟩) k 1, .slice (some ⟨2, 0, none⟩) k 1])), (kz [0, 4, 5] [(false, .cells A 4 (fz, fz)), (false, .cells X 3 (0, 0)), (false, .cells Y 3 (0, 0))]).map (fun kept_ => some (wasK (rhoK (kz [0, 4, 5] [(false, .cells A 4 (fz, fz)), (false, .cells X 3 (0, 0)), (false, .cells Y 3 (0, 0))])) kept_)), 6,
    [ltq (↑k : Int) (↑(Isl.nm i) : Int) = false]⟩, []) := by kernel_rfl
theorem con_rRain {w : World} (m : Mon) (y : Bool) (n : Nat) : CJ Tryz.prog (worldLo w) 46 #[.agg (monC m), .bool y] [] n (.agg #[.int .i64 (rlo m y), .int .i64 (rhi m y)]) [] n [] :=
  con_of (l := [.agg (monC m), .bool y]) (l' := [.agg (monC m), .bool y]) (v' := .agg #[.int .i64 (rlo m y), .int .i64 (rhi m y)]) (.cons (exact_agg (.cons (exact_af rfl) (.cons (exact_af rfl) (.cons (exact_af rfl) (.cons (exact_af rfl) (.cons (exact_af rfl) (.cons (exact_af rfl) .nil))))))) (.cons (exact_af rfl) .nil)) (exact_agg (.cons (exact_af rfl) (.cons (exact_af rfl) .nil))) fun w' _ => rRain_any m y w'

theorem len_std {i : Isl} {wa : Option Addr} {wc : Nat} {ma : Option Addr} {mc : Nat} {w : World} {nd z fz : Nat} {d : Nat → Bool} (hi : IslAt w w.heap.size i wa ma) (h1 : 1 ≤ i.nm) (hn : i.nm ≤ nd) (h8 : i.nm ≤ 8) :
    StdJ Tryz.prog (worldLo w) 29 #[islR i wa wc ma mc, .slice (some ⟨0, 0, none⟩) nd z, .bool false] (heapO 0 [(false, .cells (rowA (boolE d) nd) 4 (fz, fz))]) 1
      (.agg #[.int .i64 i.sl, .int .i64 i.kl, .int .i64 i.lh, .slice (some ⟨0, 0, none⟩) nd z, .slice (some ⟨1, 0, none⟩) i.nm 1, .slice (some ⟨2, 0, none⟩) i.nm 1])
      (heapO 0 [(false, .cells (rowA (boolE d) nd) 4 (fz, fz)), (false, .cells (rowA (intE (endTru i false nd d).rains) i.nm) 3 (0, 0)), (false, .cells (rowA (intE (endTru i false nd d).needs) i.nm) 3 (0, 0))]) 3 [] := by
  obtain ⟨mb, mo, rfl, _⟩ := monsGet hi.months (show 0 < i.nm by omega)
  have hM : ∀ k, k < i.nm → ∀ (j : Nat) u, (monC (i.months k))[j]? = some u → RawCell (worldLo w) mb (mo + k * 6 + j) u := fun k hk => monsRaw hi.months hk
  have hA : ∀ k, k < nd → (rowA (boolE d) nd)[0 + k * 1]? = some (.bool (d k)) := fun k hk => by
    have := rowA_get (e := boolE d) (z := 1) (fun _ => rfl) (show 0 < 1 by omega) nd k hk
    rw [Nat.zero_add]
    simpa [boolE] using this
  have hl0 : looseO (.cells (islC i (rawS wa i.nw wc) (.slice (some ⟨mb, mo, some 0⟩) i.nm mc)) 27 (0, 0)) := loose_isl i wa wc (some ⟨mb, mo, none⟩) mc
  have hlA : looseO (.cells (rowA (boolE d) nd) 4 (fz, fz)) := loose_boolE _ _
  have hlI : ∀ (f : Nat → Int) k, looseO (.cells (rowA (intE f) k) 3 (0, 0)) := fun f k => loose_intE _ _
  have cR : ∀ (m : Mon) (y : Bool) n, CJ Tryz.prog (worldLo w) 46 #[.agg (monC m), .bool y] [] n (.agg #[.int .i64 (rlo m y), .int .i64 (rhi m y)]) [] n [] := con_rRain
  have hby : Go.Proofs.Tryz.t3.bytes = 8 := by kernel_rfl
  have entry := (GoE.refl (P := Tryz.prog) (B := worldLo w) (c0 := entryC Tryz.prog 29 91 [.agg (islC i (rawS wa i.nw wc) (.slice (some ⟨mb, mo, some 0⟩) i.nm mc)), .slice (some ⟨0, 0, none⟩) nd z, .bool false]) (under_heapO [(false, Obj.cells (rowA (boolE d) nd) 4 (fz, fz))] (Nat.le_refl 1))).headB goFns_ok mixed_ok (writable_nil _ _)
    (len_entry (worldLo w) i (rawS wa i.nw wc) mb mo mc nd z fz (rowA (boolE d) nd)) trivial
    (by kernel_rfl) (by kernel_rfl) (by kernel_rfl) (by kernel_rfl) (by kernel_rfl) (by kernel_rfl) (by kernel_rfl) (by kernel_rfl) (by kernel_rfl) (by kernel_rfl)
    ⟨.inr ⟨rfl, .inl hlA⟩, .inr ⟨rfl, .inl hl0⟩, .inl ⟨rfl, by kernel_rfl⟩, .inl ⟨rfl, by kernel_rfl⟩, trivial⟩
    (same1 _ _)
  generalize hc0 : entryC Tryz.prog 29 91 [.agg (islC i (rawS wa i.nw wc) (.slice (some ⟨mb, mo, some 0⟩) i.nm mc)), .slice (some ⟨0, 0, none⟩) nd z, .bool false] = c0 at entry
  let t := endTru i false nd d
  let os : Nat → List (Bool × Obj) := fun k => enO i (rawS wa i.nw wc) mb mo mc i.sl i.kl i.lh (rowA (boolE d) nd) nd z fz (.slice (some ⟨4, 0, none⟩) k 1) (.slice (some ⟨5, 0, none⟩) k 1) ++ [(false, Obj.cells (rowA (intE t.rains) k) 3 (0, 0)), (false, Obj.cells (rowA (intE t.needs) k) 3 (0, 0))]
  have hos : ∀ k, OkB 1 6 (os k) := fun k => ⟨.inr ⟨rfl, .inl hlA⟩, .inr ⟨rfl, .inl hl0⟩, .inl ⟨rfl, by kernel_rfl⟩, .inl ⟨rfl, by kernel_rfl⟩, .inr ⟨rfl, .inl (hlI _ _)⟩, .inr ⟨rfl, .inl (hlI _ _)⟩, trivial⟩
  have step : ∀ k, k < i.nm → ∃ d' : Nat → Value, (∀ t, Loose (d' t)) ∧ GoE Tryz.prog (worldLo w) c0 (heapO 0 [(false, Obj.cells (rowA (boolE d) nd) 4 (fz, fz))]) 1
      (headC 29 91 (enL nd z (k + 1) false) d' (enT.map (it (bodyOf Tryz.prog 29)))) (heapO 0 (os (k + 1))) 6 [] := by
    intro k
    induction k with
    | zero =>
      intro hk
      obtain ⟨d', _, hg⟩ := entry
      have hr := len_first (worldLo w) i (rawS wa i.nw wc) mb mo mc nd z fz (rowA (boolE d) nd) i.sl i.kl i.lh (i.months 0) (d 0) (rlo (i.months 0) (d 0)) (rhi (i.months 0) (d 0)) d'
      refine hg.headB goFns_ok mixed_ok (writable_nil _ _) (os := os 1) hr ?_ (by kernel_rfl) (by kernel_rfl) (by kernel_rfl) (by kernel_rfl) (by kernel_rfl) (by kernel_rfl) (by kernel_rfl) (by kernel_rfl) (by kernel_rfl) (by kernel_rfl) (hos 1) (same1 _ _)
      have hMk := hM 0 hk
      have hAk := hA 0 (by omega)
      have hH := hMk 5 (.int .i64 (i.months 0).nh) rfl
      have hL := hMk 4 (.int .i64 (i.months 0).nl) rfl
      clear hg hr hos hM hA
      simp only [AllP]
      repeat' apply And.intro
      all_goals first
        | exact hMk
        | exact hAk
        | exact hH
        | exact hL
        | exact cR _ _ _
        | with_reducible exact ltq_t (by omega)
        | with_reducible exact wq_in (by omega) (by omega)
        | (unfold maxLen; omega)
        | (rw [hby]; omega)
        | omega
        | rfl
        | trivial
    | succ k ih =>
      intro hk
      obtain ⟨d', _, hg⟩ := ih (by omega)
      have hr := len_round (worldLo w) i (rawS wa i.nw wc) mb mo mc nd z fz (k + 1) (rowA (boolE d) nd) i.sl i.kl i.lh (i.months (k + 1)) (d (k + 1)) (rlo (i.months (k + 1)) (d (k + 1))) (rhi (i.months (k + 1)) (d (k + 1))) (rowA (intE t.rains) (k + 1)) (rowA (intE t.needs) (k + 1)) d'
      refine hg.headB goFns_ok mixed_ok (writable_nil _ _) (os := os (k + 1 + 1)) hr ?_ (by kernel_rfl) (by kernel_rfl) (by kernel_rfl) (by kernel_rfl) (by kernel_rfl) (by kernel_rfl) (by kernel_rfl) (by kernel_rfl) (by kernel_rfl) (by kernel_rfl) (hos (k + 1 + 1)) (same1 _ _)
      have hMk := hM (k + 1) hk
      have hAk := hA (k + 1) (by omega)
      have s1 := rowA_size (e := intE t.rains) (z := 1) (fun _ => rfl) (k + 1)
      have s2 := rowA_size (e := intE t.needs) (z := 1) (fun _ => rfl) (k + 1)
      have hH := hMk 5 (.int .i64 (i.months (k + 1)).nh) rfl
      have hL := hMk 4 (.int .i64 (i.months (k + 1)).nl) rfl
      simp only [AllP]
      repeat' apply And.intro
      all_goals first
        | exact hMk
        | exact hAk
        | exact hH
        | exact hL
        | exact cR _ _ _
        | with_reducible exact ltq_t (by omega)
        | with_reducible exact wq_in (by omega) (by omega)
        | exact s1
        | exact s2
        | (unfold maxLen; omega)
        | (rw [hby]; omega)
        | omega
        | rfl
        | trivial
  obtain ⟨k, hk⟩ : ∃ k, i.nm = k + 1 := ⟨i.nm - 1, by omega⟩
  obtain ⟨d', _, hg⟩ := step k (by omega)
  rw [← hk] at hg
  have hr := len_end (worldLo w) i (rawS wa i.nw wc) mb mo mc nd z fz i.nm (rowA (boolE d) nd) i.sl i.kl i.lh (rowA (intE t.rains) i.nm) (rowA (intE t.needs) i.nm) d'
  exact hg.std goFns_ok mixed_ok (by rw [← hc0]; kernel_rfl) (writable_nil _ _) (os := [(false, .cells (rowA (boolE d) nd) 4 (fz, fz)), (false, .cells (rowA (intE t.rains) i.nm) 3 (0, 0)), (false, .cells (rowA (intE t.needs) i.nm) 3 (0, 0))]) hr ⟨ltq_f (by omega), trivial⟩ (by kernel_rfl) (by kernel_rfl) (by kernel_rfl) (by kernel_rfl) (by kernel_rfl) (by kernel_rfl) (by kernel_rfl) (by kernel_rfl)
    ⟨.inr ⟨rfl, .inl hlA⟩, .inr ⟨rfl, .inl (hlI _ _)⟩, .inr ⟨rfl, .inl (hlI _ _)⟩, trivial⟩ (same1 _ _)
theorem len_con {i : Isl} {wa : Option Addr} {wc : Nat} {ma : Option Addr} {mc : Nat} {w : World} {nd z fz : Nat} {d : Nat → Bool} (hi : IslAt w w.heap.size i wa ma) (h1 : 1 ≤ i.nm) (hn : i.nm ≤ nd) (h8 : i.nm ≤ 8) {k n : Nat} (hk : k < n) :
    CJ Tryz.prog (worldLo w) 29 #[islR i wa wc ma mc, .slice (some ⟨k, 0, none⟩) nd z, .bool false] [(k, some (.cells (rowA (boolE d) nd) 4 (fz, fz)))] n
      (.agg #[.int .i64 i.sl, .int .i64 i.kl, .int .i64 i.lh, .slice (some ⟨k, 0, none⟩) nd z, .slice (some ⟨n, 0, none⟩) i.nm 1, .slice (some ⟨n + 1, 0, none⟩) i.nm 1])
      [(n, .cells (rowA (intE (endTru i false nd d).rains) i.nm) 3 (0, 0)), (n + 1, .cells (rowA (intE (endTru i false nd d).needs) i.nm) 3 (0, 0))] (n + 2) [] := by
  have h := len_std (d := d) (nd := nd) (z := z) (fz := fz) (wc := wc) (mc := mc) hi h1 hn h8
  have hloose : ∀ b ∈ [(false, Obj.cells (rowA (boolE d) nd) 4 (fz, fz))] ++ [(false, Obj.cells (rowA (intE (endTru i false nd d).rains) i.nm) 3 (0, 0)), (false, Obj.cells (rowA (intE (endTru i false nd d).needs) i.nm) 3 (0, 0))], looseO b.2 := by
    intro b hb
    simp only [List.cons_append, List.nil_append, List.mem_cons, List.not_mem_nil, or_false] at hb
    rcases hb with rfl | rfl | rfl
    · exact loose_boolE _ _
    · exact loose_intE _ _
    · exact loose_intE _ _
  obtain ⟨mb, mo, rfl, _⟩ := monsGet hi.months (show 0 < i.nm by omega)
  rcases wa with _ | ⟨b, o, _ | z⟩
  all_goals exact (StdJ.rows (kept := [(false, Obj.cells (rowA (boolE d) nd) 4 (fz, fz))]) (l := [k]) (n := n) h rfl (by simpa using hk) rfl hloose (by kernel_rfl) (by kernel_rfl)).cast (by kernel_rfl) (by kernel_rfl) (by kernel_rfl) (by kernel_rfl) (by kernel_rfl)

end Go.Proofs.YtffdidleebognaaGreatDoor

namespace Go.Proofs.YtffdidleebognaaGreatDoor
open Go Go.CE Go.Proofs Go.RowKit Lens
def wrO (i : Isl) (W M : Value) (s : Seen) : List (Bool × Obj) :=
  [(false, .cells (islC i W M) 27 (0, 0)), (true, .cells #[.int .i64 s.tanks, .int .i64 s.lens, .int .i64 s.lack] 53 (0, 0))]
def wrL (k : Nat) : List (Nat × Value) := [(2, .pointer (some ⟨0, 0, none⟩)), (3, .pointer (some ⟨1, 0, none⟩)), (6, .int .i64 k)]
def wrT : List It := [.code [1, 1, 0, 1, 0, 0], .inLoop [1, 1, 0, 1, 0, 0], .inBlock 0, .code [1, 1, 1]]
set_option maxRecDepth 100000 in
theorem wr_lack (B : Lo) (i : Isl) (W M : Value) (s : Seen) : ended (srun Tryz.prog goFns B 10 0 (entryC Tryz.prog 30 26 [.agg (islC i W M), .agg #[.int .i64 s.tanks, .int .i64 s.lens, .int .i64 s.lack]]) [] 0
    [(6, Hint.val (Value.bool true))] 0 [] []) [] = some ⟨.ret (.tuple #[.int .i64 2, .int .i64 0]), [], 2,
    [ltq 0 (Seen.lack s) = true]⟩ := by kernel_rfl
set_option maxRecDepth 100000 in
theorem wr_entry (B : Lo) (i : Isl) (W M : Value) (s : Seen) : land (srun Tryz.prog goFns B 12 0 (entryC Tryz.prog 30 26 [.agg (islC i W M), .agg #[.int .i64 s.tanks, .int .i64 s.lens, .int .i64 s.lack]]) [] 0
    [(6, Hint.val (Value.bool false))] 0 [] []) ((wrL 0).map (·.1)) ((kz [0, 1] (wrO i W M s)).map (·.old)) = some ⟨30, 26, wrT.map (it (bodyOf Tryz.prog 30)), [], .run, none, (wrL 0).map (fun p => rnV (rhoK (kz [0, 1] (wrO i W M s))) 3 p.2), (kz [0, 1] (wrO i W M s)).map (fun kept_ => some (wasK (rhoK (kz [0, 1] (wrO i W M s))) kept_)), 2,
    [ltq 0 (Seen.lack s) = false]⟩ := by kernel_rfl
set_option maxRecDepth 100000 in
theorem wr_round (B : Lo) (i : Isl) (M : Value) (s : Seen) (wb wo ws k : Nat) (wk : Int) (d : Nat → Value) : land (srun Tryz.prog goFns B 14 0 (headC 30 26 (wrL k) d (wrT.map (it (bodyOf Tryz.prog 30)))) (heapO 0 (wrO i (.slice (some ⟨wb, wo, some 0⟩) i.nw ws) M s)) ((wrO i (.slice (some ⟨wb, wo, some 0⟩) i.nw ws) M s)).length
    [(4, Hint.val (Value.bool true)),
(10, Hint.idx k),
(11, Hint.raw (Value.int IntKind.i64 wk)),
(12, Hint.val (Value.bool false)),
(14, Hint.val (Value.int IntKind.i64 ((↑k : Int) + 1)))] 0 [] []) ((wrL (k + 1)).map (·.1)) ((kz [0, 1] (wrO i (.slice (some ⟨wb, wo, some 0⟩) i.nw ws) M s)).map (·.old)) = some ⟨30, 26, wrT.map (it (bodyOf Tryz.prog 30)), [], .run, none, (wrL (k + 1)).map (fun p => rnV (rhoK (kz [0, 1] (wrO i (.slice (some ⟨wb, wo, some 0⟩) i.nw ws) M s))) 3 p.2), (kz [0, 1] (wrO i (.slice (some ⟨wb, wo, some 0⟩) i.nw ws) M s)).map (fun kept_ => some (wasK (rhoK (kz [0, 1] (wrO i (.slice (some ⟨wb, wo, some 0⟩) i.nw ws) M s))) kept_)), 2,
    [wq ((↑k : Int) + 1) = (↑k : Int) + 1,
ltq (Seen.lens s) wk = false,
RawCell B wb (wo + k * 1) (Value.int IntKind.i64 wk),
(↑k : Int) = (↑k : Int) ∧ k < Isl.nw i,
ltq (↑k : Int) (↑(Isl.nw i) : Int) = true]⟩ := by kernel_rfl
set_option maxRecDepth 100000 in
theorem wr_low (B : Lo) (i : Isl) (M : Value) (s : Seen) (wb wo ws k : Nat) (wk : Int) (d : Nat → Value) : ended (srun Tryz.prog goFns B 14 0 (headC 30 26 (wrL k) d (wrT.map (it (bodyOf Tryz.prog 30)))) (heapO 0 (wrO i (.slice (some ⟨wb, wo, some 0⟩) i.nw ws) M s)) ((wrO i (.slice (some ⟨wb, wo, some 0⟩) i.nw ws) M s)).length
    [(4, Hint.val (Value.bool true)),
(10, Hint.idx k),
(11, Hint.raw (Value.int IntKind.i64 wk)),
(12, Hint.val (Value.bool true))] 0 [] []) [] = some ⟨.ret (.tuple #[.int .i64 3, .int .i64 k]), [], 2,
    [ltq (Seen.lens s) wk = true,
RawCell B wb (wo + k * 1) (Value.int IntKind.i64 wk),
(↑k : Int) = (↑k : Int) ∧ k < Isl.nw i,
ltq (↑k : Int) (↑(Isl.nw i) : Int) = true]⟩ := by kernel_rfl
set_option maxRecDepth 100000 in
theorem wr_end (B : Lo) (i : Isl) (A : Option Addr) (M : Value) (s : Seen) (ws k : Nat) (d : Nat → Value) : ended (srun Tryz.prog goFns B 9 0 (headC 30 26 (wrL k) d (wrT.map (it (bodyOf Tryz.prog 30)))) (heapO 0 (wrO i (.slice A i.nw ws) M s)) ((wrO i (.slice A i.nw ws) M s)).length
    [(3, Hint.len (Isl.nw i)),
(4, Hint.val (Value.bool false))] 0 [] []) [] = some ⟨.ret (.tuple #[.int .i64 1, .int .i64 0]), [], 2,
    [ltq (↑k : Int) (↑(Isl.nw i) : Int) = false,
SliceLen (tget { len := 16000, tr := Tri.set 14 Tri.lf 12 (Value.slice A (Isl.nw i) ws) } 12) (Isl.nw i)]⟩ := by kernel_rfl
theorem af3 (s : Seen) : Exact (.agg #[.int .i64 s.tanks, .int .i64 s.lens, .int .i64 s.lack]) (.agg #[.int .i64 s.tanks, .int .i64 s.lens, .int .i64 s.lack]) := exact_agg (.cons (exact_af rfl) (.cons (exact_af rfl) (.cons (exact_af rfl) .nil)))
section
variable {i : Isl} {wa : Option Addr} {wc mc : Nat} {ma : Option Addr} {w : World}
theorem rWrong_any (hi : IslAt w w.heap.size i wa ma) (s : Seen) : Calls Tryz.prog 30 #[islV i wa wc ma mc, .agg #[.int .i64 s.tanks, .int .i64 s.lens, .int .i64 s.lack]] w
    fun e' w' => e' = .returned (.tuple #[.int .i64 (wrongRule i s), .int .i64 (wrongWell i s)]) ∧ Below w.heap.size w w' := by
  have hn := hi.nw
  unfold maxLen at hn
  have hx : ExL [islR i wa wc ma mc, .agg #[.int .i64 s.tanks, .int .i64 s.lens, .int .i64 s.lack]] [islV i wa wc ma mc, .agg #[.int .i64 s.tanks, .int .i64 s.lens, .int .i64 s.lack]] := .cons (exact_isl _ _ _ _ _) (.cons (af3 s) .nil)
  have fin : ∀ {c : CF} {H : Heap} {n W fuel n' : _} {sc : Script} {L : List Prop} {r v : Int}, GoE Tryz.prog (worldLo w) (entryC Tryz.prog 30 26 [islR i wa wc ma mc, .agg #[.int .i64 s.tanks, .int .i64 s.lens, .int .i64 s.lack]]) [] 0 c H n W →
      ended (srun Tryz.prog goFns (worldLo w) fuel 0 c H n sc 0 [] []) [] = some ⟨.ret (.tuple #[.int .i64 r, .int .i64 v]), [], n', L⟩ → AllP L →
      Calls Tryz.prog 30 #[islV i wa wc ma mc, .agg #[.int .i64 s.tanks, .int .i64 s.lens, .int .i64 s.lack]] w fun e' w' => e' = .returned (.tuple #[.int .i64 r, .int .i64 v]) ∧ Below w.heap.size w w' := fun hg e hL =>
    (hg.calls goFns_ok mixed_ok (args := #[islR i wa wc ma mc, .agg #[.int .i64 s.tanks, .int .i64 s.lens, .int .i64 s.lack]]) (by kernel_rfl) e hL (worldLo_has w) (VRl.vrs' hx.vrl)).mono fun _ _ ⟨v', _, he, hv, hb, _⟩ => ⟨by rw [he, af_eq (by kernel_rfl) hv], hb⟩
  by_cases hl : 0 < s.lack
  · rw [wrongRule_lack hl, wrongWell_lack hl]
    exact fin (GoE.refl under_nil) (wr_lack (worldLo w) i (rawS wa i.nw wc) (rawS ma i.nm mc) s) ⟨ltq_t hl, trivial⟩
  · have hok : OkAll 2 (wrO i (rawS wa i.nw wc) (rawS ma i.nm mc) s) := ⟨.inr ⟨rfl, loose_isl i wa wc ma mc⟩, .inl ⟨rfl, by kernel_rfl⟩, trivial⟩
    have step : ∀ k, k ≤ i.nw → firstLow i s k = none → ∃ d : Nat → Value, (∀ t, Loose (d t)) ∧ GoE Tryz.prog (worldLo w) (entryC Tryz.prog 30 26 [islR i wa wc ma mc, .agg #[.int .i64 s.tanks, .int .i64 s.lens, .int .i64 s.lack]]) [] 0
        (headC 30 26 (wrL k) d (wrT.map (it (bodyOf Tryz.prog 30)))) (heapO 0 (wrO i (rawS wa i.nw wc) (rawS ma i.nm mc) s)) 2 [] := by
      intro k
      induction k with
      | zero =>
        intro _ _
        exact (GoE.refl (P := Tryz.prog) (B := worldLo w) under_nil).headO goFns_ok mixed_ok (wr_entry (worldLo w) i (rawS wa i.nw wc) (rawS ma i.nm mc) s) ⟨ltq_f (by omega), trivial⟩
          (by kernel_rfl) (by kernel_rfl) (by kernel_rfl) (by kernel_rfl) (by kernel_rfl) (by kernel_rfl) hok
      | succ k ih =>
        intro hk hnone
        have hk0 : firstLow i s k = none ∧ ¬ s.lens < i.wells k := by
          simp only [firstLow] at hnone
          split at hnone
          · cases hnone
          · rename_i h0
            split at hnone
            · cases hnone
            · rename_i h1
              exact ⟨h0, h1⟩
        obtain ⟨d, _, hg⟩ := ih (by omega) hk0.1
        obtain ⟨b, o, hwa, _, _⟩ := hi.wells (show 0 < i.nw by omega)
        subst hwa
        exact hg.headO goFns_ok mixed_ok (wr_round (worldLo w) i (rawS ma i.nm mc) s b o wc k (i.wells k) d) ⟨wq_in (by omega) (by omega), ltq_f (by omega), intsRaw hi.wells (by omega), ⟨rfl, by omega⟩, ltq_t (by omega), trivial⟩
          (by kernel_rfl) (by kernel_rfl) (by kernel_rfl) (by kernel_rfl) (by kernel_rfl) (by kernel_rfl) hok
    cases hfl : firstLow i s i.nw with
    | none =>
      rw [wrongRule_fine hl hfl, wrongWell_fine hl hfl]
      obtain ⟨d, _, hg⟩ := step i.nw (Nat.le_refl _) hfl
      exact fin hg (wr_end (worldLo w) i (rawO wa) (rawS ma i.nm mc) s wc i.nw d) ⟨ltq_f (by omega), sliceLen_rawS wa i.nw wc, trivial⟩
    | some k =>
      have hk : ∀ n, firstLow i s n = some k → k < n ∧ firstLow i s k = none ∧ s.lens < i.wells k := by
        intro n
        induction n with
        | zero => intro h; cases h
        | succ n ih =>
          intro h
          simp only [firstLow] at h
          split at h
          · rename_i j hj
            cases h
            have := ih hj
            exact ⟨by omega, this.2⟩
          · rename_i h0
            split at h
            · rename_i h1
              cases h
              exact ⟨by omega, h0, h1⟩
            · cases h
      obtain ⟨h1, h2, h3⟩ := hk _ hfl
      rw [wrongRule_low hl h2 h3 h1, wrongWell_low hl h2 h3 h1]
      obtain ⟨d, _, hg⟩ := step k (by omega) h2
      obtain ⟨b, o, hwa, _, _⟩ := hi.wells (show 0 < i.nw by omega)
      subst hwa
      exact fin hg (wr_low (worldLo w) i (rawS ma i.nm mc) s b o wc k (i.wells k) d) ⟨ltq_t h3, intsRaw hi.wells h1, ⟨rfl, h1⟩, ltq_t (by omega), trivial⟩
theorem con_rWrong {n : Nat} (hi : IslAt w w.heap.size i wa ma) (s : Seen) : CJ Tryz.prog (worldLo w) 30 #[islR i wa wc ma mc, .agg #[.int .i64 s.tanks, .int .i64 s.lens, .int .i64 s.lack]] [] n (.tuple #[.int .i64 (wrongRule i s), .int .i64 (wrongWell i s)]) [] n [] :=
  con_of (l := [islR i wa wc ma mc, .agg #[.int .i64 s.tanks, .int .i64 s.lens, .int .i64 s.lack]]) (l' := [islV i wa wc ma mc, .agg #[.int .i64 s.tanks, .int .i64 s.lens, .int .i64 s.lack]]) (v' := .tuple #[.int .i64 (wrongRule i s), .int .i64 (wrongWell i s)])
    (.cons (exact_isl _ _ _ _ _) (.cons (af3 s) .nil)) (exact_tuple (.cons (exact_af rfl) (.cons (exact_af rfl) .nil))) fun _ hw => rWrong_any (islAt_lo hi hw) s
end
end Go.Proofs.YtffdidleebognaaGreatDoor

namespace Lens
theorem leak_mono {b b' l l' : Int} (h0 : 0 ≤ b) (hb : b ≤ b') (_hl0 : 0 ≤ l') (hl : l' ≤ l) (h1 : l ≤ 1000) : b - b * l / 1000 ≤ b' - b' * l' / 1000 := by
  have p1 : b' * l' ≤ b' * l := Int.mul_le_mul_of_nonneg_left hl (by omega)
  have p2 : (b' - b) * l ≤ (b' - b) * 1000 := Int.mul_le_mul_of_nonneg_left h1 (by omega)
  have p3 : (b' - b) * l = b' * l - b * l := Int.sub_mul _ _ _
  generalize b' * l' = x at *
  generalize b' * l = y at *
  generalize b * l = z at *
  omega
theorem min_mono {x x' f a a' : Int} (h : x ≤ x') (e : (if x < f then x else f) = a) (e' : (if x' < f then x' else f) = a') : a ≤ a' := by
  split at e <;> split at e' <;> omega
/-- What is left of tanks, and what is still wanted. -/
theorem take_mono {a a' n n' T T' : Int} (ha : a ≤ a') (hn : n' ≤ n) (e : (if n < a then n else a) = T) (e' : (if n' < a' then n' else a') = T') : a - T ≤ a' - T' ∧ n' - T' ≤ n - T := by
  split at e <;> split at e' <;> omega
theorem pump_mono {c c' r r' p k M M' U U' : Int} (hc : c ≤ c') (hr : r' ≤ r) (hr0 : 0 ≤ r') (hp : 0 ≤ p) (eM : (if k < c then c - k else 0) = M) (eM' : (if k < c' then c' - k else 0) = M')
    (e : (if M < (if p < r then p else r) then M else (if p < r then p else r)) = U) (e' : (if M' < (if p < r' then p else r') then M' else (if p < r' then p else r')) = U') : c - U ≤ c' - U' ∧ r' - U' ≤ r - U := by
  obtain ⟨q, hq⟩ : ∃ x, (if p < r then p else r) = x := ⟨_, rfl⟩
  obtain ⟨q', hq'⟩ : ∃ x, (if p < r' then p else r') = x := ⟨_, rfl⟩
  rw [hq] at e
  rw [hq'] at e'
  have h1 : q ≤ p ∧ q ≤ r ∧ (q = p ∨ q = r) := by split at hq <;> omega
  have h2 : q' ≤ p ∧ q' ≤ r' ∧ (q' = p ∨ q' = r') := by split at hq' <;> omega
  have h3 : 0 ≤ M ∧ c - k ≤ M ∧ (M = 0 ∨ M = c - k) := by split at eM <;> omega
  have h4 : 0 ≤ M' ∧ c' - k ≤ M' ∧ (M' = 0 ∨ M' = c' - k) := by split at eM' <;> omega
  have h5 : U ≤ M ∧ U ≤ q ∧ (U = M ∨ U = q) := by split at e <;> omega
  have h6 : U' ≤ M' ∧ U' ≤ q' ∧ (U' = M' ∨ U' = q') := by split at e' <;> omega
  clear hq hq' eM eM' e e'
  omega
/-- A state with less water than another one. -/
structure Less (s s' : St) : Prop where
  tanks : s.tanks ≤ s'.tanks
  lens : s.lens ≤ s'.lens
  lack : s'.lack ≤ s.lack
/-- A truth with less water than another one, in the first n months. -/
structure LessT (n : Nat) (t t' : Tru) : Prop where
  start : t.start ≤ t'.start
  soak : t.soak ≤ t'.soak
  leak : t'.leak ≤ t.leak
  rains : ∀ k, k < n → t.rains k ≤ t'.rains k
  needs : ∀ k, k < n → t'.needs k ≤ t.needs k
theorem step_mono {i : Isl} {tanks : Int} {t t' : Tru} (h : Fit i tanks t) (h' : Fit i tanks t') (hl : LessT i.nm t t') {k : Nat} (hk : k < i.nm) {s s' : St} (hs : StOk i (i.size * tanks) k s) (hs' : StOk i (i.size * tanks) k s') (ht : s.tanks ≤ s'.tanks) (hle : s.lens ≤ s'.lens) :
    Less (stepSt i (i.size * tanks) t k s) (stepSt i (i.size * tanks) t' k s') := by
  obtain ⟨r1, r2, a, b, g, T, M, U, p⟩ := parts h hk hs
  obtain ⟨r1', r2', a', b', g', T', M', U', p'⟩ := parts h' hk hs'
  have hr := hl.rains k hk
  have hn := hl.needs k hk
  have q0 := (h.rain k hk).1
  have q1 := (h'.rain k hk).1
  have x1 : r1 ≤ r1' := by
    rw [← p.e1, ← p'.e1]
    exact Int.ediv_le_ediv (by decide) (Int.mul_le_mul_of_nonneg_left hr h.roof0)
  have x2 : r2 ≤ r2' := by
    rw [← p.e2, ← p'.e2]
    exact Int.ediv_le_ediv (by decide) (Int.mul_le_mul (Int.mul_le_mul_of_nonneg_left hr h.sand0) hl.soak h.soak0 (Int.mul_nonneg h.sand0 q1))
  have ha : a ≤ a' := min_mono (by omega) p.ea p'.ea
  have hb : b ≤ b' := min_mono (by omega) p.eb p'.eb
  have hc : b - g ≤ b' - g' := by
    rw [← p.eg, ← p'.eg]
    exact leak_mono p.b0 hb h'.leak0 hl.leak h.leak1
  obtain ⟨y1, y2⟩ := take_mono ha hn p.eT p'.eT
  obtain ⟨z1, z2⟩ := pump_mono hc y2 (by have := p'.T1; omega) h.pump0 p.eM' p'.eM' p.eU p'.eU
  rw [p.out, p'.out]
  exact ⟨y1, z1, z2⟩
theorem run_mono {i : Isl} {tanks : Int} {t t' : Tru} (h : Fit i tanks t) (h' : Fit i tanks t') (hl : LessT i.nm t t') : ∀ k, k ≤ i.nm → Less (runTo i tanks t k) (runTo i tanks t' k)
  | 0, _ => ⟨Int.le_refl _, hl.start, Int.le_refl _⟩
  | k + 1, hk => by
    have ih := run_mono h h' hl k (by omega)
    exact step_mono h h' hl (by omega) (runTo_ok h (by omega)) (runTo_ok h' (by omega)) ih.tanks ih.lens
end Lens

namespace Go.Proofs.YtffdidleebognaaGreatDoor
open Lens
/-- An end lies within bounds. -/
structure Within (s : Seen) (k : Kn) : Prop where
  t0 : k.tl ≤ s.tanks
  t1 : s.tanks ≤ k.th
  l0 : k.ll ≤ s.lens
  l1 : s.lens ≤ k.lh
  k0 : k.kl ≤ s.lack
  k1 : s.lack ≤ k.kh
theorem bits_of (d : Nat → Bool) : ∀ n, ∃ b, b < 2 ^ n ∧ ∀ j, j < n → bitsDry n b j = d j
  | 0 => ⟨0, by simp, fun j h => by omega⟩
  | n + 1 => by
    obtain ⟨b, hb, h⟩ := bits_of d n
    refine ⟨2 * b + (d n).toNat, ?_, fun j hj => ?_⟩
    · have : (d n).toNat ≤ 1 := Bool.toNat_le _
      rw [Nat.pow_succ]; omega
    · have h1 : (d n).toNat ≤ 1 := Bool.toNat_le _
      simp only [bitsDry]
      rcases Nat.lt_or_ge j n with hlt | hge
      · have e : n + 1 - 1 - j = (n - 1 - j) + 1 := by omega
        rw [e, Nat.testBit_succ, show (2 * b + (d n).toNat) / 2 = b by omega]
        exact h j hlt
      · have : j = n := by omega
        subst this
        rw [show j + 1 - 1 - j = 0 by omega, Nat.testBit_zero]
        cases d j <;> simp <;> omega
theorem drAll_congr {d d' : Nat → Bool} : ∀ k, (∀ j, j < k → d j = d' j) → drAll d k = drAll d' k
  | 0, _ => rfl
  | k + 1, h => by simp only [drAll, h k (by omega), drAll_congr k fun j hj => h j (by omega)]
theorem drRow_congr {d d' : Nat → Bool} : ∀ k, (∀ j, j < k → d j = d' j) → drRow d k = drRow d' k
  | 0, _ => rfl
  | k + 1, h => by simp only [drRow, h k (by omega), drRow_congr k fun j hj => h j (by omega)]
theorem drB_congr {most row : Int} {n : Nat} {d d' : Nat → Bool} (h : ∀ j, j < n → d j = d' j) (hd : drB most row n d = true) : drB most row n d' = true := by
  simp only [drB, allTo_iff] at hd ⊢
  intro k hk
  have := hd k hk
  simp only [drOk] at this ⊢
  rw [← h k hk, ← drAll_congr (k + 1) fun j hj => h j (by omega), ← drRow_congr (k + 1) fun j hj => h j (by omega)]
  exact this
theorem less_low {i : Isl} {t : Tru} {d : Nat → Bool} (ht : truB i t = true) (hd : ∀ j, j < i.nm → d j = t.dry j) : LessT i.nm (endTru i false i.nm d) t := by
  simp only [truB, Bool.and_eq_true, isInB_iff, allTo_iff] at ht
  obtain ⟨⟨⟨⟨⟨⟨⟨u1, u2⟩, u3⟩, _⟩, _⟩, _⟩, _⟩, u8⟩ := ht
  refine ⟨u1.1, u2.1, u3.2, fun k hk => ?_, fun k hk => ?_⟩
  · have := u8 k hk
    simp only [truOk, Bool.and_eq_true, isInB_iff] at this
    rw [← hd k hk] at this
    exact this.1.1
  · have := u8 k hk
    simp only [truOk, Bool.and_eq_true, isInB_iff] at this
    exact this.2.2
end Go.Proofs.YtffdidleebognaaGreatDoor

namespace Go.Proofs.YtffdidleebognaaGreatDoor
open Go Go.CE Go.Proofs Go.RowKit Lens
theorem lt_ret {B : Lo} {f : FuncId} {len : Nat} {w : World} {i : Isl} {wa : Option Addr} {wc : Nat} {ma : Option Addr} {mc : Nat} {tanks : Int} {t : Tru} {da : Option Addr} {dc : Nat} {ra : Option Addr} {rc : Nat} {na : Option Addr} {nc : Nat} {c : CF} {H : Heap} {n fuel n' : Nat} {sc : Script} {L : List Prop} {W : List Nat}
    (hc : enterC Tryz.prog f #[islR i wa wc ma mc, .int .i64 tanks, truR t da dc ra rc na nc] = some (entryC Tryz.prog f len [islR i wa wc ma mc, .int .i64 tanks, truR t da dc ra rc na nc]))
    (hg : GoE Tryz.prog B (entryC Tryz.prog f len [islR i wa wc ma mc, .int .i64 tanks, truR t da dc ra rc na nc]) [] 0 c H n W)
    (e : ended (srun Tryz.prog goFns B fuel 0 c H n sc 0 [] []) [] = some ⟨.ret (.bool true), [], n', L⟩) (hL : AllP L) (hB : B.has w) :
    Calls Tryz.prog f #[islV i wa wc ma mc, .int .i64 tanks, truV t da dc ra rc na nc] w fun e' w' => e' = .returned (.bool true) ∧ Below w.heap.size w w' :=
  (hg.calls goFns_ok mixed_ok hc e hL hB (VRl.vrs' ex_it.vrl)).mono fun _ _ ⟨v', _, he, hv, hb, _⟩ => ⟨by rw [he, af_eq (v := .bool true) rfl hv], hb⟩
end Go.Proofs.YtffdidleebognaaGreatDoor

namespace Go.Proofs.YtffdidleebognaaGreatDoor
open Lens
theorem firstLow_none {i : Isl} {s : Seen} : ∀ n, firstLow i s n = none ↔ ∀ k, k < n → i.wells k ≤ s.lens
  | 0 => by simp [firstLow]
  | n + 1 => by
    have ih := firstLow_none (i := i) (s := s) n
    simp only [firstLow]
    constructor
    · intro h k hk
      split at h
      · cases h
      · rename_i h0
        split at h
        · cases h
        · rename_i h1
          rcases Nat.lt_or_ge k n with hlt | hge
          · exact ih.1 h0 k hlt
          · have : k = n := by omega
            subst this
            omega
    · intro h
      rw [ih.2 fun k hk => h k (by omega)]
      have := h n (by omega)
      simp only [show ¬ s.lens < i.wells n by omega, if_false]
theorem wrongRule_iff {i : Isl} {s : Seen} : wrongRule i s = 1 ↔ s.lack ≤ 0 ∧ ∀ k, k < i.nw → i.wells k ≤ s.lens := by
  rw [← firstLow_none]
  unfold wrongRule
  constructor
  · intro h
    split at h
    · omega
    · refine ⟨by omega, ?_⟩
      generalize firstLow i s i.nw = x at *
      cases x with
      | none => rfl
      | some k => simp at h
  · rintro ⟨h1, h2⟩
    rw [if_neg (by omega), h2]
theorem wrong_mono {i : Isl} {s s' : Seen} (h : wrongRule i s = 1) (h1 : s.lens ≤ s'.lens) (h2 : s'.lack ≤ s.lack) : wrongRule i s' = 1 := by
  rw [wrongRule_iff] at h ⊢
  exact ⟨by omega, fun k hk => Int.le_trans (h.2 k hk) h1⟩
end Go.Proofs.YtffdidleebognaaGreatDoor
