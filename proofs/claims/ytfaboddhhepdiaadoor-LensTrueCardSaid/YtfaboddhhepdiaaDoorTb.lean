/- a round of Known's loop over droughts, and the iterator. -/
import Derived.Test.YtfaboddhhepdiaaDoorTa
import Derived.Test.YtfaboddhhepdiaaDoorSf
import Derived.IntWalk
/- Contract of a round of Known's loop over droughts. -/
namespace Go.Proofs.YtfaboddhhepdiaaDoor
open Go Go.CE Go.Proofs Go.RowKit Lens
def knE (kn : Nat → Kn) (j : Nat) : List Value := [.int .i64 (kn j).tl, .int .i64 (kn j).th, .int .i64 (kn j).ll, .int .i64 (kn j).lh, .int .i64 (kn j).kl, .int .i64 (kn j).kh]
def wid (k : Kn) (s : Seen) : Kn := ⟨min k.tl s.tanks, max k.th s.tanks, min k.ll s.lens, max k.lh s.lens, min k.kl s.lack, max k.kh s.lack⟩
/-- Bounds, widened by the ends of the first m months. -/
def pass (kn : Nat → Kn) (e : Nat → Seen) (m j : Nat) : Kn := if j < m then wid (kn j) (e j) else kn j
def endsOf (i : Isl) (tanks : Int) (much : Bool) (d : Nat → Bool) (j : Nat) : Seen := seenOf (runTo i tanks (endTru i much i.nm d) (j + 1))
/-- Bounds, widened by the ends of both extremes of a drought. -/
def widest (i : Isl) (tanks : Int) (d : Nat → Bool) (kn : Nat → Kn) : Nat → Kn := pass (pass kn (endsOf i tanks false d) i.nm) (endsOf i tanks true d) i.nm
theorem loose_ints {e : Nat → List Value} (n : Nat) (h : ∀ k, ∀ v ∈ e k, ∃ x, v = .int .i64 x) : ∀ v ∈ rowA e n, Loose v := rowA_mem n fun k _ v hv => by
  obtain ⟨x, rfl⟩ := h k v hv
  exact loose_int _ _
theorem loose_knE (kn : Nat → Kn) (n : Nat) : ∀ v ∈ rowA (knE kn) n, Loose v := loose_ints n fun k v hv => by
  simp only [knE, List.mem_cons, List.not_mem_nil, or_false] at hv
  rcases hv with rfl | rfl | rfl | rfl | rfl | rfl <;> exact ⟨_, rfl⟩
theorem loose_intE (f : Nat → Int) (n : Nat) : ∀ v ∈ rowA (intE f) n, Loose v := loose_ints n fun k v hv => by
  simp only [intE, List.mem_cons, List.not_mem_nil, or_false] at hv
  exact ⟨_, hv⟩
theorem loose_boolE (d : Nat → Bool) (n : Nat) : ∀ v ∈ rowA (boolE d) n, Loose v := rowA_mem n fun k _ v hv => by
  simp only [boolE, List.mem_cons, List.not_mem_nil, or_false] at hv
  rw [hv]; exact loose_bool _
theorem loose_seenE (i : Isl) (tanks : Int) (t : Tru) (n : Nat) : ∀ v ∈ rowA (seenE i tanks t) n, Loose v := loose_ints n fun k v hv => by
  simp only [seenE, List.mem_cons, List.not_mem_nil, or_false] at hv
  rcases hv with rfl | rfl | rfl <;> exact ⟨_, rfl⟩
theorem pass_splice {kn : Nat → Kn} {e : Nat → Seen} {n m : Nat} (hm : m < n) :
    0 + m * 6 + 6 ≤ (rowA (knE (pass kn e m)) n).size ∧ splice (rowA (knE (pass kn e m)) n) (0 + m * 6) #[.int .i64 (min (kn m).tl (e m).tanks), .int .i64 (max (kn m).th (e m).tanks), .int .i64 (min (kn m).ll (e m).lens), .int .i64 (max (kn m).lh (e m).lens), .int .i64 (min (kn m).kl (e m).lack), .int .i64 (max (kn m).kh (e m).lack)] = rowA (knE (pass kn e (m + 1))) n := by
  have := row_splice (e := knE (pass kn e m)) (z := 6) (n := n) (x := knE (fun j => wid (kn j) (e j)) m) (fun _ => rfl) rfl hm
  rw [Nat.zero_add]
  refine ⟨this.1, this.2.trans (row_congr n fun k hk => ?_)⟩
  by_cases h : k = m
  · subst h
    simp only [if_true, knE, pass, show k < k + 1 by omega]
  · rw [if_neg h]
    simp only [knE, pass]
    by_cases h2 : k < m
    · simp only [h2, show k < m + 1 by omega]
    · simp only [h2, show ¬ k < m + 1 by omega]
theorem pass_get {kn : Nat → Kn} {e : Nat → Seen} {n m : Nat} (hm : m < n) : 0 + m * 6 + 6 ≤ (rowA (knE (pass kn e m)) n).size ∧ (rowA (knE (pass kn e m)) n).extract (0 + m * 6) (0 + m * 6 + 6) = #[.int .i64 (kn m).tl, .int .i64 (kn m).th, .int .i64 (kn m).ll, .int .i64 (kn m).lh, .int .i64 (kn m).kl, .int .i64 (kn m).kh] := by
  refine ⟨(pass_splice hm).1, ?_⟩
  rw [Nat.zero_add, row_extract (z := 6) (fun _ => rfl) hm]
  simp only [knE, pass, Nat.lt_irrefl, if_false]
theorem seen_get {i : Isl} {tanks : Int} {t : Tru} {n m : Nat} (hm : m < n) : 0 + m * 3 + 3 ≤ (rowA (seenE i tanks t) n).size ∧ (rowA (seenE i tanks t) n).extract (0 + m * 3) (0 + m * 3 + 3) = #[.int .i64 (runTo i tanks t (m + 1)).tanks, .int .i64 (runTo i tanks t (m + 1)).lens, .int .i64 (runTo i tanks t (m + 1)).lack] := by
  rw [Nat.zero_add, row_extract (z := 3) (fun _ => rfl) hm]
  refine ⟨?_, rfl⟩
  rw [rowA_size (z := 3) (fun _ => rfl) n, ← Nat.succ_mul]
  exact Nat.mul_le_mul_right _ hm
theorem slots_arr {a : Nat} {T : Tm} (h : SlotsOk a T) : ∀ v ∈ tmArr T, Loose v ∨ okV a 3 v = true := fun v hv => by
  simp only [tmArr, List.mem_toArray, List.mem_map] at hv
  obtain ⟨t, _, rfl⟩ := hv
  exact h t
section
variable {i : Isl} {wa : Option Addr} {wc mb mo mc : Nat} {tanks : Int} {w : World} {d : Nat → Bool} {dk : Nat → Value} {k : Nat}
theorem knR_ok (hdk : ∀ t, Loose (dk t)) : SlotsOk 8 (mkT 72 (knR i (rawS wa i.nw wc) mb mo mc k) dk) := slots_mkT (by decide) hdk fun p hp => by
  simp only [knR, knL, List.cons_append, List.nil_append, List.mem_cons, List.not_mem_nil, or_false] at hp
  rcases hp with rfl | rfl | rfl | rfl | rfl | rfl | rfl | rfl | rfl | rfl
  · exact .inr (by kernel_rfl)
  · exact .inr (by kernel_rfl)
  · exact .inr (by kernel_rfl)
  · exact .inr (by kernel_rfl)
  · exact .inr (by kernel_rfl)
  · exact .inr (by kernel_rfl)
  · exact .inr (by kernel_rfl)
  · exact .inl (loose_bool _)
  · exact .inl (exact_isl i wa wc (some ⟨mb, mo, none⟩) mc).loose
  · exact .inr (by kernel_rfl)
end
end Go.Proofs.YtfaboddhhepdiaaDoor
/- Contract of a round of Known's loop over droughts: what it comes to. -/
namespace Go.Proofs.YtfaboddhhepdiaaDoor
open Go Go.CE Go.Proofs Go.RowKit Lens
section
variable {i : Isl} {wa : Option Addr} {wc mb mo mc : Nat} {tanks : Int} {w : World} {d : Nat → Bool} {dk : Nat → Value} {k : Nat}
theorem pass_zero (kn : Nat → Kn) (e : Nat → Seen) : pass kn e 0 = kn := by funext j; simp [pass]
theorem knRec_fix {n : Nat} (h8 : 8 ≤ n) (hdk : ∀ t, Loose (dk t)) {s : LoopState} : FixO n (.loop { knRec i (rawS wa i.nw wc) mb mo mc k dk with state := s }) := fun v hv => by
  rcases slots_arr (knR_ok (i := i) (wa := wa) (wc := wc) (mb := mb) (mo := mo) (mc := mc) (k := k) hdk) v hv with h | h
  · exact .inl h
  · exact .inr (okV_mono h8 3 v h)
theorem rn_ok (hdk : ∀ t, Loose (dk t)) {A D R1 N1 R2 N2 E : Array Value} (hA : ∀ v ∈ A, Loose v) (hD : ∀ v ∈ D, Loose v) (h1 : ∀ v ∈ R1, Loose v) (h2 : ∀ v ∈ N1, Loose v) (h3 : ∀ v ∈ R2, Loose v) (h4 : ∀ v ∈ N2, Loose v) (h5 : ∀ v ∈ E, Loose v) :
    OkB 9 14 (rnO i (rawS wa i.nw wc) mb mo mc tanks A k dk D R1 N1 R2 N2 E) :=
  ⟨.inr ⟨rfl, .inl (loose_isl i wa wc (some ⟨mb, mo, none⟩) mc)⟩, .inl ⟨rfl, by kernel_rfl⟩, .inl ⟨rfl, by kernel_rfl⟩, .inr ⟨rfl, .inl hA⟩, .inl ⟨rfl, by kernel_rfl⟩, .inr ⟨rfl, .inl (loose_isl i wa wc (some ⟨mb, mo, none⟩) mc)⟩, .inr ⟨rfl, .inr trivial⟩, .inr ⟨rfl, .inr (knRec_fix (by omega) hdk)⟩,
    .inr ⟨rfl, .inl hD⟩, .inr ⟨rfl, .inl h1⟩, .inr ⟨rfl, .inl h2⟩, .inr ⟨rfl, .inl h3⟩, .inr ⟨rfl, .inl h4⟩, .inr ⟨rfl, .inl h5⟩, trivial⟩
theorem rn_same {W : Value} {A A' D R1 N1 R2 N2 E : Array Value} : ∀ j, j < 9 → j ∉ [3, 7] → hget (heapO 0 (rnO i W mb mo mc tanks A' k dk D R1 N1 R2 N2 E)) j = hget (heapO 0 (drO i W mb mo mc tanks A k dk ++ [(false, Obj.cells D 4 (0, 0))])) j := fun j hj hn => by
  have : j = 0 ∨ j = 1 ∨ j = 2 ∨ j = 3 ∨ j = 4 ∨ j = 5 ∨ j = 6 ∨ j = 7 ∨ j = 8 := by omega
  rcases this with rfl | rfl | rfl | rfl | rfl | rfl | rfl | rfl | rfl
  all_goals first
    | (exact absurd (by decide) hn; done)
    | rfl
theorem rn_writable {W : Value} {A D : Array Value} : Writable (heapO 0 (drO i W mb mo mc tanks A k dk ++ [(false, Obj.cells D 4 (0, 0))])) 9 [3, 7] := fun j _ hj => by
  simp only [List.mem_cons, List.not_mem_nil, or_false] at hj
  rcases hj with rfl | rfl
  · exact .inl ⟨_, _, rfl⟩
  · exact .inr ⟨_, rfl⟩
set_option maxRecDepth 100000 in
theorem rn_std (hi : IslAt w w.heap.size i wa (some ⟨mb, mo, none⟩)) (h1 : 1 ≤ i.nm) (hdk : ∀ t, Loose (dk t)) (hf : ∀ much, Fit i tanks (endTru i much i.nm d)) (kn : Nat → Kn) :
    StdF Tryd.prog (worldLo w) (rnC i (rawS wa i.nw wc) mb mo mc k dk) (heapO 0 (drO i (rawS wa i.nw wc) mb mo mc tanks (rowA (knE kn) i.nm) k dk ++ [(false, Obj.cells (rowA (boolE d) i.nm) 4 (0, 0))])) 9 (.bool true)
      (heapO 0 (drO i (rawS wa i.nw wc) mb mo mc tanks (rowA (knE (widest i tanks d kn)) i.nm) k dk ++ [(false, Obj.cells (rowA (boolE d) i.nm) 4 (0, 0))])) 9 [3, 7] := by
  have h8 : i.nm ≤ 8 := (hf true).nm
  have hml : i.nm ≤ maxLen := by unfold maxLen; omega
  have hokA : ∀ (kn : Nat → Kn) (t : Tru), OkB 9 14 (rnO i (rawS wa i.nw wc) mb mo mc tanks (rowA (knE kn) i.nm) k dk (rowA (boolE d) i.nm) (rowA (intE (endTru i false i.nm d).rains) i.nm) (rowA (intE (endTru i false i.nm d).needs) i.nm) (rowA (intE (endTru i true i.nm d).rains) i.nm) (rowA (intE (endTru i true i.nm d).needs) i.nm) (rowA (seenE i tanks t) i.nm)) := fun kn t =>
    rn_ok hdk (loose_knE _ _) (loose_boolE _ _) (loose_intE _ _) (loose_intE _ _) (loose_intE _ _) (loose_intE _ _) (loose_seenE _ _ _ _)
  have hr7 : ∀ l, some 7 = some l → l < 9 := fun l e => by cases e; omega
  let H0 := heapO 0 (drO i (rawS wa i.nw wc) mb mo mc tanks (rowA (knE kn) i.nm) k dk ++ [(false, Obj.cells (rowA (boolE d) i.nm) 4 (0, 0))])
  let at' : Nat → Nat → (Nat → Kn) → Tru → Prop := fun h m kn' t => ∃ d' : Nat → Value, (∀ t, Loose (d' t)) ∧ GoE Tryd.prog (worldLo w) (rnC i (rawS wa i.nw wc) mb mo mc k dk) H0 9
    (headR (some 7) 46 72 (rnL i.nm i.sl i.kl i.lh i.sh i.kh i.ll h m) d' (rnT.map (it (bodyOf Tryd.prog 46)))) (heapO 0 (rnO i (rawS wa i.nw wc) mb mo mc tanks (rowA (knE kn') i.nm) k dk (rowA (boolE d) i.nm) (rowA (intE (endTru i false i.nm d).rains) i.nm) (rowA (intE (endTru i false i.nm d).needs) i.nm) (rowA (intE (endTru i true i.nm d).rains) i.nm) (rowA (intE (endTru i true i.nm d).needs) i.nm) (rowA (seenE i tanks t) i.nm))) 14 [3, 7]
  have s0 : at' 0 0 kn (endTru i false i.nm d) :=
    ((GoE.refl (P := Tryd.prog) (B := worldLo w) (c0 := rnC i (rawS wa i.nw wc) mb mo mc k dk) (under_heapO (drO i (rawS wa i.nw wc) mb mo mc tanks (rowA (knE kn) i.nm) k dk ++ [(false, Obj.cells (rowA (boolE d) i.nm) 4 (0, 0))]) (Nat.le_refl 9))).widen (Wf := [3, 7]) (fun _ _ h => by simp at h) rn_writable).headR goFns_ok mixed_ok rn_writable
      (rn_start (worldLo w) i (rawS wa i.nw wc) mb mo mc tanks (rowA (knE kn) i.nm) k dk (rowA (boolE d) i.nm) (rowA (intE (endTru i false i.nm d).rains) i.nm) (rowA (intE (endTru i false i.nm d).needs) i.nm) (rowA (intE (endTru i true i.nm d).rains) i.nm) (rowA (intE (endTru i true i.nm d).needs) i.nm) i.sl i.kl i.lh i.sh i.kh i.ll (rowA (seenE i tanks (endTru i false i.nm d)) i.nm)
        (i.size * tanks + (endTru i false i.nm d).start) (runTo i tanks (endTru i false i.nm d) i.nm).rain (runTo i tanks (endTru i false i.nm d) i.nm).used (runTo i tanks (endTru i false i.nm d) i.nm).leak (runTo i tanks (endTru i false i.nm d) i.nm).sea ((runTo i tanks (endTru i false i.nm d) i.nm).tanks + (runTo i tanks (endTru i false i.nm d) i.nm).lens))
      ⟨con_follow (w := w) (i := i) (tanks := tanks) (wa := wa) (wc := wc) (ma := some ⟨mb, mo, none⟩) (mc := mc) (t := endTru i false i.nm d) (n := 14) (k := 8) (r := 9) (s := 10) (by omega) (by omega) (by omega) hml hml hml (hf false) h1 hml, ric_con hi h1 (Nat.le_refl _) h8 (k := 8) (n := 11) (by omega), sca_con hi h1 (Nat.le_refl _) h8 (k := 8) (n := 9) (by omega), trivial⟩
      (by kernel_rfl) (by kernel_rfl) (by kernel_rfl) (by kernel_rfl) (by kernel_rfl) (by kernel_rfl) (by kernel_rfl) (by kernel_rfl) (by kernel_rfl) (by kernel_rfl) (hokA kn _) rn_same hr7
  have months : ∀ (h : Nat) (kn' : Nat → Kn) (t : Tru), at' h 0 kn' t → ∀ m, m ≤ i.nm → at' h m (pass kn' (fun j => seenOf (runTo i tanks t (j + 1))) m) t := by
    intro h kn' t hs m
    induction m with
    | zero => intro _; rw [pass_zero]; exact hs
    | succ m ih =>
      intro hm
      obtain ⟨d', _, hg⟩ := ih (by omega)
      have hlt : m < i.nm := by omega
      refine hg.headR goFns_ok mixed_ok rn_writable
        (rn_month (worldLo w) i (rawS wa i.nw wc) mb mo mc tanks (rowA (knE (pass kn' (fun j => seenOf (runTo i tanks t (j + 1))) m)) i.nm) k dk (rowA (boolE d) i.nm) (rowA (intE (endTru i false i.nm d).rains) i.nm) (rowA (intE (endTru i false i.nm d).needs) i.nm) (rowA (intE (endTru i true i.nm d).rains) i.nm) (rowA (intE (endTru i true i.nm d).needs) i.nm) i.sl i.kl i.lh i.sh i.kh i.ll (rowA (seenE i tanks t) i.nm)
          (rowA (knE (pass kn' (fun j => seenOf (runTo i tanks t (j + 1))) (m + 1))) i.nm) h m (runTo i tanks t (m + 1)).tanks (runTo i tanks t (m + 1)).lens (runTo i tanks t (m + 1)).lack (kn' m).tl (kn' m).th (kn' m).ll (kn' m).lh (kn' m).kl (kn' m).kh
          (min (kn' m).tl (runTo i tanks t (m + 1)).tanks) (max (kn' m).th (runTo i tanks t (m + 1)).tanks) (min (kn' m).ll (runTo i tanks t (m + 1)).lens) (max (kn' m).lh (runTo i tanks t (m + 1)).lens) (min (kn' m).kl (runTo i tanks t (m + 1)).lack) (max (kn' m).kh (runTo i tanks t (m + 1)).lack) d')
        ⟨wq_in (by omega) (by omega), pass_splice (e := fun j => seenOf (runTo i tanks t (j + 1))) hlt, ⟨rfl, hlt⟩, con_withEnd (w := w) (n := 15) (kn' m) (seenOf (runTo i tanks t (m + 1))), pass_get (e := fun j => seenOf (runTo i tanks t (j + 1))) hlt, ⟨rfl, hlt⟩, seen_get hlt, ⟨rfl, hlt⟩, ltq_t (by omega), trivial⟩
        (by kernel_rfl) (by kernel_rfl) (by kernel_rfl) (by kernel_rfl) (by kernel_rfl) (by kernel_rfl) (by kernel_rfl) (by kernel_rfl) (by kernel_rfl) (by kernel_rfl) (hokA _ _) rn_same hr7
  obtain ⟨d1, _, g1⟩ := months 0 kn _ s0 i.nm (Nat.le_refl _)
  have s1 : at' 1 0 (pass kn (endsOf i tanks false d) i.nm) (endTru i true i.nm d) :=
    g1.headR goFns_ok mixed_ok rn_writable
      (rn_next (worldLo w) i (rawS wa i.nw wc) mb mo mc tanks (rowA (knE (pass kn (endsOf i tanks false d) i.nm)) i.nm) k dk (rowA (boolE d) i.nm) (rowA (intE (endTru i false i.nm d).rains) i.nm) (rowA (intE (endTru i false i.nm d).needs) i.nm) (rowA (intE (endTru i true i.nm d).rains) i.nm) (rowA (intE (endTru i true i.nm d).needs) i.nm) i.sl i.kl i.lh i.sh i.kh i.ll (rowA (seenE i tanks (endTru i false i.nm d)) i.nm) (rowA (seenE i tanks (endTru i true i.nm d)) i.nm) i.nm
        (i.size * tanks + (endTru i true i.nm d).start) (runTo i tanks (endTru i true i.nm d) i.nm).rain (runTo i tanks (endTru i true i.nm d) i.nm).used (runTo i tanks (endTru i true i.nm d) i.nm).leak (runTo i tanks (endTru i true i.nm d) i.nm).sea ((runTo i tanks (endTru i true i.nm d) i.nm).tanks + (runTo i tanks (endTru i true i.nm d) i.nm).lens) d1)
      ⟨con_follow (w := w) (i := i) (tanks := tanks) (wa := wa) (wc := wc) (ma := some ⟨mb, mo, none⟩) (mc := mc) (t := endTru i true i.nm d) (n := 15) (k := 8) (r := 11) (s := 12) (by omega) (by omega) (by omega) hml hml hml (hf true) h1 hml, ltq_f (by omega), trivial⟩
      (by kernel_rfl) (by kernel_rfl) (by kernel_rfl) (by kernel_rfl) (by kernel_rfl) (by kernel_rfl) (by kernel_rfl) (by kernel_rfl) (by kernel_rfl) (by kernel_rfl) (hokA _ _) rn_same hr7
  obtain ⟨d2, _, g2⟩ := months 1 _ _ s1 i.nm (Nat.le_refl _)
  refine g2.stdF goFns_ok mixed_ok rn_writable (os := drO i (rawS wa i.nw wc) mb mo mc tanks (rowA (knE (widest i tanks d kn)) i.nm) k dk ++ [(false, Obj.cells (rowA (boolE d) i.nm) 4 (0, 0))])
    (rn_end (worldLo w) i (rawS wa i.nw wc) mb mo mc tanks (rowA (knE (widest i tanks d kn)) i.nm) k dk (rowA (boolE d) i.nm) (rowA (intE (endTru i false i.nm d).rains) i.nm) (rowA (intE (endTru i false i.nm d).needs) i.nm) (rowA (intE (endTru i true i.nm d).rains) i.nm) (rowA (intE (endTru i true i.nm d).needs) i.nm) i.sl i.kl i.lh i.sh i.kh i.ll (rowA (seenE i tanks (endTru i true i.nm d)) i.nm) i.nm d2)
    ⟨ltq_f (by omega), trivial⟩ (by kernel_rfl) (by kernel_rfl) (by kernel_rfl) (by kernel_rfl) (by kernel_rfl) (by kernel_rfl) (by kernel_rfl) (by kernel_rfl) ?_ ?_
  · exact ⟨.inr ⟨rfl, .inl (loose_isl i wa wc (some ⟨mb, mo, none⟩) mc)⟩, .inl ⟨rfl, by kernel_rfl⟩, .inl ⟨rfl, by kernel_rfl⟩, .inr ⟨rfl, .inl (loose_knE _ _)⟩, .inl ⟨rfl, by kernel_rfl⟩, .inr ⟨rfl, .inl (loose_isl i wa wc (some ⟨mb, mo, none⟩) mc)⟩, .inr ⟨rfl, .inr trivial⟩, .inr ⟨rfl, .inr (knRec_fix (by omega) hdk)⟩, .inr ⟨rfl, .inl (loose_boolE _ _)⟩, trivial⟩
  · intro j hj hn
    have : j = 0 ∨ j = 1 ∨ j = 2 ∨ j = 3 ∨ j = 4 ∨ j = 5 ∨ j = 6 ∨ j = 7 ∨ j = 8 := by omega
    rcases this with rfl | rfl | rfl | rfl | rfl | rfl | rfl | rfl | rfl
    all_goals first
      | (exact absurd (by decide) hn; done)
      | rfl
end
end Go.Proofs.YtfaboddhhepdiaaDoor
/- Contract of the iterator over droughts, with Known's rounds. -/
namespace Go.Proofs.YtfaboddhhepdiaaDoor
open Go Go.CE Go.Proofs Go.RowKit Lens
theorem fix_loose {a : Nat} {o : Obj} (h : looseO o) : FixO a o := by
  cases o with
  | cells cs t fz => exact fun v hv => .inl (h v hv)
  | _ => exact h.elim
theorem fix_ok {a : Nat} {o : Obj} (h : okO a o = true) : FixO a o := by
  cases o with
  | cells cs t fz =>
    intro v hv
    obtain ⟨i, hi, rfl⟩ := Array.mem_iff_getElem.1 hv
    exact .inr (Array.all_eq_true.1 h i hi)
  | _ => cases h
section
variable {i : Isl} {wa : Option Addr} {wc mb mo mc : Nat} {tanks : Int} {w : World} {d : Nat → Bool} {dk : Nat → Value} {k : Nat}
theorem dr_fix {n : Nat} (h8 : 8 ≤ n) (hdk : ∀ t, Loose (dk t)) {A : Array Value} (hA : ∀ v ∈ A, Loose v) : ∀ b ∈ drO i (rawS wa i.nw wc) mb mo mc tanks A k dk, FixO n b.2 := by
  intro b hb
  have hint : ∀ (x : Int), FixO n (.cells #[.int .i64 x] 3 (0, 0)) := fun x v hv => by
    simp only [List.mem_toArray, List.mem_cons, List.not_mem_nil, or_false] at hv
    rw [hv]; exact .inl (loose_int _ _)
  have h2 : FixO n (.cells #[.int .i64 9223372036854775807, .int .i64 (-9223372036854775808)] 23 (0, 0)) := fun v hv => by
    simp only [List.mem_toArray, List.mem_cons, List.not_mem_nil, or_false] at hv
    rcases hv with rfl | rfl <;> exact .inl (loose_int _ _)
  have h4 : FixO n (.cells #[.slice (some ⟨3, 0, none⟩) i.nm 6] 32 (0, 0)) := fun v hv => by
    simp only [List.mem_toArray, List.mem_cons, List.not_mem_nil, or_false] at hv
    rw [hv]; exact .inr (okV_mono h8 3 _ (by kernel_rfl))
  simp only [drO, knO, List.cons_append, List.nil_append, List.mem_cons, List.not_mem_nil, or_false] at hb
  rcases hb with rfl | rfl | rfl | rfl | rfl | rfl | rfl | rfl
  · exact fix_loose (loose_isl i wa wc (some ⟨mb, mo, none⟩) mc)
  · exact hint _
  · exact h2
  · exact fix_loose (o := .cells A 56 (0, 0)) hA
  · exact h4
  · exact fix_loose (loose_isl i wa wc (some ⟨mb, mo, none⟩) mc)
  · trivial
  · exact knRec_fix (s := .ready) h8 hdk
theorem rnC_slots (hdk : ∀ t, Loose (dk t)) : SlotsOk 9 (rnC i (rawS wa i.nw wc) mb mo mc k dk).tmps := slots_mkT (by decide) hdk fun p hp => by
  simp only [knR, knL, List.cons_append, List.nil_append, List.mem_cons, List.not_mem_nil, or_false] at hp
  rcases hp with rfl | rfl | rfl | rfl | rfl | rfl | rfl | rfl | rfl | rfl | rfl
  · exact .inr (by kernel_rfl)
  · exact .inr (by kernel_rfl)
  · exact .inr (by kernel_rfl)
  · exact .inr (by kernel_rfl)
  · exact .inr (by kernel_rfl)
  · exact .inr (by kernel_rfl)
  · exact .inr (by kernel_rfl)
  · exact .inl (loose_bool _)
  · exact .inl (exact_isl i wa wc (some ⟨mb, mo, none⟩) mc).loose
  · exact .inr (by kernel_rfl)
  · exact .inr (by kernel_rfl)
theorem rn_rj (hi : IslAt w w.heap.size i wa (some ⟨mb, mo, none⟩)) (h1 : 1 ≤ i.nm) (hdk : ∀ t, Loose (dk t)) (hf : ∀ much, Fit i tanks (endTru i much i.nm d)) (kn : Nat → Kn) :
    RJ Tryd.prog (worldLo w) (rnC i (rawS wa i.nw wc) mb mo mc k dk) ((List.range 9).map fun q => (q, hget (heapO 0 (drO i (rawS wa i.nw wc) mb mo mc tanks (rowA (knE kn) i.nm) k dk ++ [(false, Obj.cells (rowA (boolE d) i.nm) 4 (0, 0))])) q)) 9 (.bool true)
      [(3, .cells (rowA (knE (widest i tanks d kn)) i.nm) 56 (0, 0)), (7, .loop (knRec i (rawS wa i.nw wc) mb mo mc k dk))] 9 [3, 7] := by
  have fx : ∀ (kn : Nat → Kn), ∀ b ∈ drO i (rawS wa i.nw wc) mb mo mc tanks (rowA (knE kn) i.nm) k dk ++ [(false, Obj.cells (rowA (boolE d) i.nm) 4 (0, 0))], FixO 9 b.2 := fun kn b hb => by
    rcases List.mem_append.1 hb with h | h
    · exact dr_fix (by omega) hdk (loose_knE _ _) b h
    · simp only [List.mem_cons, List.not_mem_nil, or_false] at h
      rw [h]; exact fix_loose (o := .cells (rowA (boolE d) i.nm) 4 (0, 0)) (loose_boolE _ _)
  exact StdX.rj (os := drO i (rawS wa i.nw wc) mb mo mc tanks (rowA (knE kn) i.nm) k dk ++ [(false, Obj.cells (rowA (boolE d) i.nm) 4 (0, 0))]) (os' := drO i (rawS wa i.nw wc) mb mo mc tanks (rowA (knE (widest i tanks d kn)) i.nm) k dk ++ [(false, Obj.cells (rowA (boolE d) i.nm) 4 (0, 0))])
    (rn_std hi h1 hdk hf kn) (rnC_slots hdk) (by kernel_rfl) rfl rfl (fun l e => by cases e; show 7 < 9; omega) (fx kn) (fx _) (by kernel_rfl) (by kernel_rfl) (by kernel_rfl) (by kernel_rfl) (by kernel_rfl) (by kernel_rfl)
end
end Go.Proofs.YtfaboddhhepdiaaDoor
/- Numbers of bits, as runs have them. -/
namespace Go.CE
open Go Go.RowKit
theorem shr_eq {b s : Nat} (hs : s ≤ 60) : Int.fdiv (b : Int) (2 ^ min (Int.toNat (s : Int)) (IntKind.bits IntKind.i64)) = ((b / 2 ^ s : Nat) : Int) := by
  have e : min (Int.toNat (s : Int)) (IntKind.bits IntKind.i64) = s := by
    rw [Int.toNat_natCast]
    exact Nat.min_eq_left (by show s ≤ 64; omega)
  rw [e, Int.fdiv_eq_ediv_of_nonneg _ (Int.le_of_lt (Int.pow_pos (by decide))), Int.natCast_ediv, Int.natCast_pow]
  rfl
theorem and1_eq {x : Nat} (hx : x < 2 ^ 62) : IntKind.wrap IntKind.i64 ((BitVec.toNat (BitVec.ofInt (IntKind.bits IntKind.i64) (x : Int) &&& BitVec.ofInt (IntKind.bits IntKind.i64) 1) : Nat) : Int) = ((x % 2 : Nat) : Int) := by
  have e1 : BitVec.ofInt (IntKind.bits IntKind.i64) (x : Int) = BitVec.ofNat 64 x := BitVec.ofInt_natCast 64 x
  have e2 : BitVec.ofInt (IntKind.bits IntKind.i64) 1 = BitVec.ofNat 64 1 := rfl
  rw [e1, e2]
  have e3 : BitVec.toNat (BitVec.ofNat 64 x &&& BitVec.ofNat 64 1) = x % 2 := by
    rw [BitVec.toNat_and, BitVec.toNat_ofNat, BitVec.toNat_ofNat, Nat.mod_eq_of_lt (a := x) (by omega), Nat.mod_eq_of_lt (a := 1) (by decide), Nat.and_one_is_mod]
  show IntKind.wrap IntKind.i64 ((BitVec.toNat (BitVec.ofNat 64 x &&& BitVec.ofNat 64 1) : Nat) : Int) = _
  rw [e3]
  exact wrap_in (by omega) (by omega)
theorem shl1_eq {s : Nat} (hs : s ≤ 60) : IntKind.wrap IntKind.i64 (1 * 2 ^ min (Int.toNat (s : Int)) (IntKind.bits IntKind.i64)) = ((2 ^ s : Nat) : Int) := by
  have e : min (Int.toNat (s : Int)) (IntKind.bits IntKind.i64) = s := by
    rw [Int.toNat_natCast]
    exact Nat.min_eq_left (by show s ≤ 64; omega)
  have hp : (2 : Nat) ^ s ≤ 2 ^ 60 := Nat.pow_le_pow_right (by decide) hs
  have e2 : (2 : Int) ^ s = ((2 ^ s : Nat) : Int) := by rw [Int.natCast_pow]; rfl
  rw [e, Int.one_mul, e2]
  generalize 2 ^ s = y at *
  exact wrap_in (by omega) (by omega)
theorem bit_eq {b s : Nat} : eqq ((b / 2 ^ s % 2 : Nat) : Int) 1 = b.testBit s := by
  rw [Nat.testBit_eq_decide_div_mod_eq]
  generalize b / 2 ^ s % 2 = y
  by_cases h : y = 1
  · subst h; rfl
  · rw [decide_eq_false h]
    exact eqq_f (by omega)
end Go.CE
/- Contract of the iterator over droughts, with Known's rounds: what it comes to. -/
namespace Go.Proofs.YtfaboddhhepdiaaDoor
open Go Go.CE Go.Proofs Go.RowKit Lens
/-- Bounds, widened by all droughts whose number is below b. -/
def upTo (i : Isl) (tanks : Int) (kn : Nat → Kn) : Nat → (Nat → Kn)
  | 0 => kn
  | b + 1 => if drB i.most i.row i.nm (bitsDry i.nm b) then widest i tanks (bitsDry i.nm b) (upTo i tanks kn b) else upTo i tanks kn b
def bitsTo (n b m j : Nat) : Bool := if j < m then bitsDry n b j else false
theorem bitsTo_splice {n b m : Nat} (hm : m < n) : 0 + m * 1 + 1 ≤ (rowA (boolE (bitsTo n b m)) n).size ∧ splice (rowA (boolE (bitsTo n b m)) n) (0 + m * 1) #[.bool (bitsDry n b m)] = rowA (boolE (bitsTo n b (m + 1))) n := by
  have := row_splice (e := boolE (bitsTo n b m)) (z := 1) (n := n) (x := [.bool (bitsDry n b m)]) (fun _ => rfl) rfl hm
  rw [Nat.zero_add]
  refine ⟨this.1, this.2.trans (row_congr n fun k hk => ?_)⟩
  by_cases h : k = m
  · subst h
    simp only [if_true, boolE, bitsTo, show k < k + 1 by omega]
  · rw [if_neg h]
    simp only [boolE, bitsTo]
    by_cases h2 : k < m
    · simp only [h2, show k < m + 1 by omega]
    · simp only [h2, show ¬ k < m + 1 by omega]
theorem bitsTo_zero (n b : Nat) : rowA (fun _ => [.bool false]) n = rowA (boolE (bitsTo n b 0)) n := row_congr n fun k _ => by simp [boolE, bitsTo]
theorem bitsTo_all (n b : Nat) : rowA (boolE (bitsTo n b n)) n = rowA (boolE (bitsDry n b)) n := row_congr n fun k hk => by simp [boolE, bitsTo, hk]
section
variable {i : Isl} {wa : Option Addr} {wc mb mo mc : Nat} {tanks : Int} {w : World} {dk : Nat → Value} {k : Nat}
theorem okO_one {n : Nat} (h8 : 8 ≤ n) : okO n (.cells #[.slice (some ⟨3, 0, none⟩) i.nm 6] 32 (0, 0)) = true := by
  have := okV_mono h8 3 (.slice (some ⟨3, 0, none⟩) i.nm 6) (by kernel_rfl)
  simp only [okO, List.all_toArray, List.all_cons, List.all_nil, Bool.and_true]
  exact this
theorem dr_ok {n : Nat} (h8 : 8 ≤ n) (hdk : ∀ t, Loose (dk t)) {A : Array Value} (hA : ∀ v ∈ A, Loose v) {l : List (Bool × Obj)} (hl : OkB 8 n l) : OkB 8 n (drO i (rawS wa i.nw wc) mb mo mc tanks A k dk ++ l) := by
  have hf := dr_fix (i := i) (wa := wa) (wc := wc) (mb := mb) (mo := mo) (mc := mc) (tanks := tanks) (k := k) (n := 8) (Nat.le_refl 8) hdk hA
  exact ⟨.inr ⟨rfl, .inl (loose_isl i wa wc (some ⟨mb, mo, none⟩) mc)⟩, .inl ⟨rfl, by kernel_rfl⟩, .inl ⟨rfl, by kernel_rfl⟩, .inr ⟨rfl, .inl hA⟩, .inl ⟨rfl, okO_one h8⟩, .inr ⟨rfl, .inl (loose_isl i wa wc (some ⟨mb, mo, none⟩) mc)⟩, .inr ⟨rfl, .inr trivial⟩, .inr ⟨rfl, .inr (knRec_fix (s := .ready) (Nat.le_refl 8) hdk)⟩, hl⟩
theorem dr_same {W : Value} {A A' : Array Value} {l : List (Bool × Obj)} : ∀ j, j < 8 → j ∉ [3, 7] → hget (heapO 0 (drO i W mb mo mc tanks A' k dk ++ l)) j = hget (heapO 0 (drO i W mb mo mc tanks A k dk)) j := fun j hj hn => by
  have : j = 0 ∨ j = 1 ∨ j = 2 ∨ j = 3 ∨ j = 4 ∨ j = 5 ∨ j = 6 ∨ j = 7 := by omega
  rcases this with rfl | rfl | rfl | rfl | rfl | rfl | rfl | rfl
  all_goals first
    | (exact absurd (by decide) hn; done)
    | rfl
theorem dr_writable {W : Value} {A : Array Value} : Writable (heapO 0 (drO i W mb mo mc tanks A k dk)) 8 [3, 7] := fun j _ hj => by
  simp only [List.mem_cons, List.not_mem_nil, or_false] at hj
  rcases hj with rfl | rfl
  · exact .inl ⟨_, _, rfl⟩
  · exact .inr ⟨_, rfl⟩
set_option maxRecDepth 100000 in
theorem dr_std (hi : IslAt w w.heap.size i wa (some ⟨mb, mo, none⟩)) (h1 : 1 ≤ i.nm) (hdk : ∀ t, Loose (dk t)) (hf : ∀ much d, Fit i tanks (endTru i much i.nm d)) (kn : Nat → Kn) :
    StdF Tryd.prog (worldLo w) (entryC Tryd.prog 77 43 [.func (.yield 7) #[] #[], .pointer (some ⟨5, 0, none⟩)]) (heapO 0 (drO i (rawS wa i.nw wc) mb mo mc tanks (rowA (knE kn) i.nm) k dk)) 8 (.tuple #[])
      (heapO 0 (drO i (rawS wa i.nw wc) mb mo mc tanks (rowA (knE (upTo i tanks kn (2 ^ i.nm))) i.nm) k dk)) 8 [3, 7] := by
  have h8 : i.nm ≤ 8 := (hf true fun _ => false).nm
  have hml : i.nm ≤ maxLen := by unfold maxLen; omega
  have hp : 2 ^ i.nm ≤ 256 := Nat.pow_le_pow_right (by decide) h8
  let c0 := entryC Tryd.prog 77 43 [.func (.yield 7) #[] #[], .pointer (some ⟨5, 0, none⟩)]
  let H0 := heapO 0 (drO i (rawS wa i.nw wc) mb mo mc tanks (rowA (knE kn) i.nm) k dk)
  let at1 : Nat → Prop := fun b => ∃ d' : Nat → Value, (∀ t, Loose (d' t)) ∧ GoE Tryd.prog (worldLo w) c0 H0 8
    (headC 77 43 (drL i.nm ((2 ^ i.nm : Nat) : Int) b) d' (drT.map (it (bodyOf Tryd.prog 77)))) (heapO 0 (drO i (rawS wa i.nw wc) mb mo mc tanks (rowA (knE (upTo i tanks kn b)) i.nm) k dk)) 8 [3, 7]
  let at2 : Nat → Nat → Prop := fun b m => ∃ d' : Nat → Value, (∀ t, Loose (d' t)) ∧ GoE Tryd.prog (worldLo w) c0 H0 8
    (headC 77 43 (drM i.nm ((2 ^ i.nm : Nat) : Int) b m) d' (drU.map (it (bodyOf Tryd.prog 77)))) (heapO 0 (drO i (rawS wa i.nw wc) mb mo mc tanks (rowA (knE (upTo i tanks kn b)) i.nm) k dk ++ [(false, Obj.cells (rowA (boolE (bitsTo i.nm b m)) i.nm) 4 (0, 0))])) 9 [3, 7]
  have ok1 : ∀ kn', OkB 8 8 (drO i (rawS wa i.nw wc) mb mo mc tanks (rowA (knE kn') i.nm) k dk) := fun kn' => dr_ok (l := []) (by omega) hdk (loose_knE _ _) trivial
  have ok2 : ∀ kn' f, OkB 8 9 (drO i (rawS wa i.nw wc) mb mo mc tanks (rowA (knE kn') i.nm) k dk ++ [(false, Obj.cells (rowA (boolE f) i.nm) 4 (0, 0))]) := fun kn' f => dr_ok (by omega) hdk (loose_knE _ _) ⟨.inr ⟨rfl, .inl (loose_boolE _ _)⟩, trivial⟩
  have s0 : at1 0 :=
    ((GoE.refl (P := Tryd.prog) (B := worldLo w) (c0 := c0) (under_heapO (drO i (rawS wa i.nw wc) mb mo mc tanks (rowA (knE kn) i.nm) k dk) (Nat.le_refl 8))).widen (Wf := [3, 7]) (fun _ _ h => by simp at h) dr_writable).headB goFns_ok mixed_ok dr_writable
      (dr_entry (worldLo w) i (rawS wa i.nw wc) mb mo mc tanks (rowA (knE kn) i.nm) k dk ((2 ^ i.nm : Nat) : Int)) ⟨shl1_eq (by omega), trivial⟩
      (by kernel_rfl) (by kernel_rfl) (by kernel_rfl) (by kernel_rfl) (by kernel_rfl) (by kernel_rfl) (by kernel_rfl) (by kernel_rfl) (by kernel_rfl) (by kernel_rfl) (ok1 kn) (dr_same (l := []))
  have next : ∀ b, b < 2 ^ i.nm → at1 b → at1 (b + 1) := by
    intro b hb ⟨d1, _, g1⟩
    have hmk : cMake Tryd.prog 38 (.int .i64 (i.nm : Int)) (.int .i64 (i.nm : Int)) = some (4, rowA (boolE (bitsTo i.nm b 0)) i.nm, i.nm, 1) := by
      rw [← bitsTo_zero]
      exact cMake_row (P := Tryd.prog) (t := 38) (e := 4) (i := Go.Proofs.Tryd.t4) (zv := .bool false) (by kernel_rfl) (by kernel_rfl) (by kernel_rfl) (by kernel_rfl) (by decide) (by kernel_rfl) (by show 1 * i.nm ≤ _; omega) (by omega)
    have s2 : at2 b 0 := g1.headB goFns_ok mixed_ok dr_writable
      (dr_bits (worldLo w) i (rawS wa i.nw wc) mb mo mc tanks (rowA (knE (upTo i tanks kn b)) i.nm) k dk ((2 ^ i.nm : Nat) : Int) b (rowA (boolE (bitsTo i.nm b 0)) i.nm) d1) ⟨hmk, ltq_t (by omega), trivial⟩
      (by kernel_rfl) (by kernel_rfl) (by kernel_rfl) (by kernel_rfl) (by kernel_rfl) (by kernel_rfl) (by kernel_rfl) (by kernel_rfl) (by kernel_rfl) (by kernel_rfl) (ok2 _ _) dr_same
    have all : ∀ m, m ≤ i.nm → at2 b m := by
      intro m
      induction m with
      | zero => intro _; exact s2
      | succ m ih =>
        intro hm
        obtain ⟨d2, _, g2⟩ := ih (by omega)
        have hlt : m < i.nm := by omega
        have hbit : ((b / 2 ^ (i.nm - 1 - m) % 2 : Nat) : Int) = ((b / 2 ^ (i.nm - 1 - m) % 2 : Nat) : Int) := rfl
        have hle : b / 2 ^ (i.nm - 1 - m) ≤ b := Nat.div_le_self _ _
        exact g2.headB goFns_ok mixed_ok dr_writable
          (dr_bit (worldLo w) i (rawS wa i.nw wc) mb mo mc tanks (rowA (knE (upTo i tanks kn b)) i.nm) k dk ((2 ^ i.nm : Nat) : Int) b m (rowA (boolE (bitsTo i.nm b m)) i.nm) (rowA (boolE (bitsTo i.nm b (m + 1))) i.nm) ((b / 2 ^ (i.nm - 1 - m) : Nat) : Int) ((b / 2 ^ (i.nm - 1 - m) % 2 : Nat) : Int) (bitsDry i.nm b m) d2)
          ⟨wq_in (by omega) (by omega), bitsTo_splice hlt, ⟨rfl, hlt⟩, bit_eq, and1_eq (by omega), shr_eq (by omega), (wq_in (by omega) (by omega)).trans (by omega), wq_in (by omega) (by omega), ltq_t (by omega), trivial⟩
          (by kernel_rfl) (by kernel_rfl) (by kernel_rfl) (by kernel_rfl) (by kernel_rfl) (by kernel_rfl) (by kernel_rfl) (by kernel_rfl) (by kernel_rfl) (by kernel_rfl) (ok2 _ _) dr_same
    obtain ⟨d3, _, g3⟩ := all i.nm (Nat.le_refl _)
    rw [bitsTo_all] at g3
    cases hdr : drB i.most i.row i.nm (bitsDry i.nm b) with
    | false =>
      have hu : upTo i tanks kn (b + 1) = upTo i tanks kn b := by simp only [upTo, hdr]; rfl
      show ∃ d' : Nat → Value, _
      rw [hu]
      exact g3.headB goFns_ok mixed_ok dr_writable
        (dr_no (worldLo w) i (rawS wa i.nw wc) mb mo mc tanks (rowA (knE (upTo i tanks kn b)) i.nm) k dk ((2 ^ i.nm : Nat) : Int) b i.nm (rowA (boolE (bitsDry i.nm b)) i.nm) d3)
        ⟨wq_in (by omega) (by omega), hdr ▸ con_isDrought (w := w) (i := i) (wa := wa) (wc := wc) (ma := some ⟨mb, mo, none⟩) (mc := mc) (k := 8) (n := 9) (by omega) hml, ltq_f (by omega), trivial⟩
        (by kernel_rfl) (by kernel_rfl) (by kernel_rfl) (by kernel_rfl) (by kernel_rfl) (by kernel_rfl) (by kernel_rfl) (by kernel_rfl) (by kernel_rfl) (by kernel_rfl) (ok1 _) (dr_same (l := []))
    | true =>
      have hu : upTo i tanks kn (b + 1) = widest i tanks (bitsDry i.nm b) (upTo i tanks kn b) := by simp only [upTo, hdr]; rfl
      show ∃ d' : Nat → Value, _
      rw [hu]
      exact g3.headB goFns_ok mixed_ok dr_writable
        (dr_yield (worldLo w) i (rawS wa i.nw wc) mb mo mc tanks (rowA (knE (upTo i tanks kn b)) i.nm) k dk ((2 ^ i.nm : Nat) : Int) b i.nm (rowA (boolE (bitsDry i.nm b)) i.nm) (rowA (knE (widest i tanks (bitsDry i.nm b) (upTo i tanks kn b))) i.nm) d3)
        ⟨wq_in (by omega) (by omega), rn_rj hi h1 hdk (fun much => hf much _) _, hdr ▸ con_isDrought (w := w) (i := i) (wa := wa) (wc := wc) (ma := some ⟨mb, mo, none⟩) (mc := mc) (k := 8) (n := 9) (by omega) hml, ltq_f (by omega), trivial⟩
        (by kernel_rfl) (by kernel_rfl) (by kernel_rfl) (by kernel_rfl) (by kernel_rfl) (by kernel_rfl) (by kernel_rfl) (by kernel_rfl) (by kernel_rfl) (by kernel_rfl) (ok1 _) (dr_same (l := []))
  have all : ∀ b, b ≤ 2 ^ i.nm → at1 b := by
    intro b
    induction b with
    | zero => intro _; exact s0
    | succ b ih => intro hb; exact next b (by omega) (ih (by omega))
  obtain ⟨d4, _, g4⟩ := all _ (Nat.le_refl _)
  exact g4.stdF goFns_ok mixed_ok dr_writable (os := drO i (rawS wa i.nw wc) mb mo mc tanks (rowA (knE (upTo i tanks kn (2 ^ i.nm))) i.nm) k dk)
    (dr_end (worldLo w) i (rawS wa i.nw wc) mb mo mc tanks (rowA (knE (upTo i tanks kn (2 ^ i.nm))) i.nm) k dk ((2 ^ i.nm : Nat) : Int) (2 ^ i.nm) d4)
    ⟨ltq_f (by omega), trivial⟩ (by kernel_rfl) (by kernel_rfl) (by kernel_rfl) (by kernel_rfl) (by kernel_rfl) (by kernel_rfl) (by kernel_rfl) (by kernel_rfl) (ok1 _) (dr_same (l := []))
end
end Go.Proofs.YtfaboddhhepdiaaDoor
