/- Contracts of layer 1, as Known's runs use them: isDrought, follow, withEnd, droughts. -/
import Derived.Test.YtffdidleebognaaGreatDoorZG07
import Derived.Test.YtffdidleebognaaGreatDoorZG43
import Derived.Test.YtffdidleebognaaGreatDoorZG46
import Derived.Test.YtffdidleebognaaGreatDoorZG16
import Derived.Test.YtffdidleebognaaGreatDoorZG26
import Derived.Test.YtffdidleebognaaGreatDoorZG47
import Derived.IntWalk
import Derived.Test.YtffdidleebognaaGreatDoorZG17
namespace Go.Proofs.YtffdidleebognaaGreatDoor
open Go Go.CE Go.Proofs Go.RowKit Lens
set_option maxRecDepth 100000 in
theorem dro_run (B : Lo) (i : Isl) (W M : Value) : endedB (srun Tryz.prog goFns B 6 0 (entryC Tryz.prog 57 4 [.agg (islC i W M)]) (heapO 0 []) 0
    [] 0 [] []) ((kz [0] [(false, .cells (islC i W M) 27 (0, 0))]).map (·.old)) = some (⟨.ret (rnV (rhoK (kz [0] [(false, .cells (islC i W M) 27 (0, 0))])) 3 (.func (.func 76) #[] #[.pointer (some ⟨0, 0, none⟩)])), (kz [0] [(false, .cells (islC i W M) 27 (0, 0))]).map (fun kept_ => some (wasK (rhoK (kz [0] [(false, .cells (islC i W M) 27 (0, 0))])) kept_)), 1,
    []⟩, []) := by kernel_rfl
section
variable {i : Isl} {wa : Option Addr} {wc : Nat} {ma : Option Addr} {mc : Nat} {tanks : Int} {w : World} {n : Nat} {d : Nat → Bool} {nd : Nat}
theorem con_withEnd (k : Kn) (s : Seen) : CJ Tryz.prog (worldLo w) 60 #[.agg #[.int .i64 k.tl, .int .i64 k.th, .int .i64 k.ll, .int .i64 k.lh, .int .i64 k.kl, .int .i64 k.kh], .agg #[.int .i64 s.tanks, .int .i64 s.lens, .int .i64 s.lack]] [] n
    (.agg #[.int .i64 (min k.tl s.tanks), .int .i64 (max k.th s.tanks), .int .i64 (min k.ll s.lens), .int .i64 (max k.lh s.lens), .int .i64 (min k.kl s.lack), .int .i64 (max k.kh s.lack)]) [] n [] :=
  con_of (l := [.agg #[.int .i64 k.tl, .int .i64 k.th, .int .i64 k.ll, .int .i64 k.lh, .int .i64 k.kl, .int .i64 k.kh], .agg #[.int .i64 s.tanks, .int .i64 s.lens, .int .i64 s.lack]])
    (l' := [.agg #[.int .i64 k.tl, .int .i64 k.th, .int .i64 k.ll, .int .i64 k.lh, .int .i64 k.kl, .int .i64 k.kh], .agg #[.int .i64 s.tanks, .int .i64 s.lens, .int .i64 s.lack]])
    (v' := .agg #[.int .i64 (min k.tl s.tanks), .int .i64 (max k.th s.tanks), .int .i64 (min k.ll s.lens), .int .i64 (max k.lh s.lens), .int .i64 (min k.kl s.lack), .int .i64 (max k.kh s.lack)])
    (.cons (exact_agg (.cons (exact_af rfl) (.cons (exact_af rfl) (.cons (exact_af rfl) (.cons (exact_af rfl) (.cons (exact_af rfl) (.cons (exact_af rfl) .nil))))))) (.cons (exact_agg (.cons (exact_af rfl) (.cons (exact_af rfl) (.cons (exact_af rfl) .nil)))) .nil))
    (exact_agg (.cons (exact_af rfl) (.cons (exact_af rfl) (.cons (exact_af rfl) (.cons (exact_af rfl) (.cons (exact_af rfl) (.cons (exact_af rfl) .nil))))))) fun w' _ => withEnd_any k s w'
theorem boolE_get (k j : Nat) (hj : j < 1) : (boolE d k)[j]? = some (encBool (d k) j) ∧ af (encBool (d k) j) = true := by
  obtain rfl : j = 0 := by omega
  exact ⟨rfl, rfl⟩
theorem intE_get {f : Nat → Int} (k j : Nat) (hj : j < 1) : (intE f k)[j]? = some (encInt (f k) j) ∧ af (encInt (f k) j) = true := by
  obtain rfl : j = 0 := by omega
  exact ⟨rfl, rfl⟩
theorem vrl_args {μ : Mu} {l : List Value} {args' : Array Value} (hv : VRs μ l.toArray args') : VRl μ l args'.toList := vrl_mk _ _ (by simpa using hv.1) fun i v v' x y => hv.2 i v v' (by simpa using x) (by simpa using y)
theorem con_isDrought {k : Nat} (hk : k < n) (hm : nd ≤ maxLen) :
    CJ Tryz.prog (worldLo w) 62 #[islR i wa wc ma mc, .slice (some ⟨k, 0, none⟩) nd 1] [(k, some (.cells (rowA (boolE d) nd) 4 (0, 0)))] n (.bool (drB i.most i.row nd d)) [] n [] := by
  refine cj_read rfl (fun p hp => ?_) fun μ w' args' hB hv hH => ?_
  · simp only [List.mem_cons, List.not_mem_nil, or_false] at hp
    rcases hp with rfl
    exact hk
  · obtain ⟨im, h1, h2, h3⟩ := hH (k, some (.cells (rowA (boolE d) nd) 4 (0, 0))) (by simp) _ _ _ rfl
    have hl := vrl_args (l := [islR i wa wc ma mc, .slice (some ⟨k, 0, none⟩) nd 1]) hv
    generalize hg : args'.toList = l at hl
    cases hl with
    | cons q1 hl => cases hl with
      | cons q2 hl =>
        cases hl
        obtain ⟨c, rfl, _, _⟩ := q2.slice_new h1
        have e1 := (exact_isl i wa wc ma mc).2 _ _ q1
        have e : args' = #[islV i wa wc ma mc, .slice (some ⟨im.blk, im.off, none⟩) nd c] := by rw [← Array.toList_inj, hg, e1]
        rw [e]
        exact isDrought_any i wa wc ma mc _ nd c d w' hm (atN_of_or h3 h2 (fun _ => rfl) boolE_get)
theorem con_follow {t : Tru} {k r s : Nat} (hk : k < n) (hr : r < n) (hs : s < n) (m1 : t.nd ≤ maxLen) (m2 : t.nr ≤ maxLen) (m3 : t.nn ≤ maxLen) (hf : Fit i tanks t) (h1 : 1 ≤ i.nm) (hnm : i.nm ≤ maxLen) :
    CJ Tryz.prog (worldLo w) 45 #[islR i wa wc ma mc, .int .i64 tanks, .agg #[.int .i64 t.start, .int .i64 t.soak, .int .i64 t.leak, .slice (some ⟨k, 0, none⟩) t.nd 1, .slice (some ⟨r, 0, none⟩) t.nr 1, .slice (some ⟨s, 0, none⟩) t.nn 1]]
      [(k, some (.cells (rowA (boolE t.dry) t.nd) 4 (0, 0))), (r, some (.cells (rowA (intE t.rains) t.nr) 3 (0, 0))), (s, some (.cells (rowA (intE t.needs) t.nn) 3 (0, 0)))] n
      (.tuple #[.slice (some ⟨n, 0, none⟩) i.nm 0, .agg #[.int .i64 (i.size * tanks + t.start), .int .i64 (runTo i tanks t i.nm).rain, .int .i64 (runTo i tanks t i.nm).used, .int .i64 (runTo i tanks t i.nm).leak, .int .i64 (runTo i tanks t i.nm).sea, .int .i64 ((runTo i tanks t i.nm).tanks + (runTo i tanks t i.nm).lens)]])
      [(n, .cells (rowA (seenE i tanks t) i.nm) 53 (1, 1))] (n + 1) [] := by
  refine cj_readrow seenE_af (fun p hp => ?_) fun μ w' args' hB hv hH => ?_
  · simp only [List.mem_cons, List.not_mem_nil, or_false] at hp
    rcases hp with rfl | rfl | rfl <;> assumption
  · obtain ⟨imk, k1, k2, k3⟩ := hH (k, some (.cells (rowA (boolE t.dry) t.nd) 4 (0, 0))) (by simp) _ _ _ rfl
    obtain ⟨imr, r1, r2, r3⟩ := hH (r, some (.cells (rowA (intE t.rains) t.nr) 3 (0, 0))) (by simp) _ _ _ rfl
    obtain ⟨ims, s1, s2, s3⟩ := hH (s, some (.cells (rowA (intE t.needs) t.nn) 3 (0, 0))) (by simp) _ _ _ rfl
    have hl := vrl_args (l := [islR i wa wc ma mc, .int .i64 tanks, .agg #[.int .i64 t.start, .int .i64 t.soak, .int .i64 t.leak, .slice (some ⟨k, 0, none⟩) t.nd 1, .slice (some ⟨r, 0, none⟩) t.nr 1, .slice (some ⟨s, 0, none⟩) t.nn 1]]) hv
    generalize hg : args'.toList = l at hl
    cases hl with
    | cons q1 hl => cases hl with
      | cons q2 hl => cases hl with
        | cons q3 hl =>
          cases hl
          have e1 := (exact_isl i wa wc ma mc).2 _ _ q1
          have e2 := (exact_af (v := .int .i64 tanks) rfl).2 _ _ q2
          obtain ⟨ys, rfl, hy⟩ := q3.agg_inv
          cases hy with
          | cons y1 hy => cases hy with
            | cons y2 hy => cases hy with
              | cons y3 hy => cases hy with
                | cons y4 hy => cases hy with
                  | cons y5 hy => cases hy with
                    | cons y6 hy =>
                      cases hy
                      have f1 := (exact_af (v := .int .i64 t.start) rfl).2 _ _ y1
                      have f2 := (exact_af (v := .int .i64 t.soak) rfl).2 _ _ y2
                      have f3 := (exact_af (v := .int .i64 t.leak) rfl).2 _ _ y3
                      obtain ⟨ck, rfl, _, _⟩ := y4.slice_new k1
                      obtain ⟨cr, rfl, _, _⟩ := y5.slice_new r1
                      obtain ⟨cs, rfl, _, _⟩ := y6.slice_new s1
                      subst e1 e2 f1 f2 f3
                      have e : args' = #[islV i wa wc ma mc, .int .i64 tanks, truV t (some ⟨imk.blk, imk.off, none⟩) ck (some ⟨imr.blk, imr.off, none⟩) cr (some ⟨ims.blk, ims.off, none⟩) cs] := by rw [← Array.toList_inj, hg]; rfl
                      rw [e]
                      refine (follow_any i wa wc ma mc tanks t _ ck _ cr _ cs w' ⟨m1, m2, m3, atN_of_or k3 k2 (fun _ => rfl) boolE_get, atN_of_or r3 r2 (fun _ => rfl) intE_get, atN_of_or s3 s2 (fun _ => rfl) intE_get⟩ hf).mono fun e w'' ⟨g, hg1, he, hs, hb⟩ => ⟨⟨g, _, hg1, ?_, he, seens_cells hs, fun μ' hμ => ?_⟩, hb⟩
                      · obtain ⟨b, off, he, hlt, _⟩ := hs (by omega)
                        cases he
                        exact hlt
                      · have : VRl μ' [.slice (some ⟨n, 0, none⟩) i.nm 0, .agg #[.int .i64 (i.size * tanks + t.start), .int .i64 (runTo i tanks t i.nm).rain, .int .i64 (runTo i tanks t i.nm).used, .int .i64 (runTo i tanks t i.nm).leak, .int .i64 (runTo i tanks t i.nm).sea, .int .i64 ((runTo i tanks t i.nm).tanks + (runTo i tanks t i.nm).lens)]]
                            [.slice (some ⟨g, 0, none⟩) i.nm i.nm, .agg #[.int .i64 (i.size * tanks + t.start), .int .i64 (runTo i tanks t i.nm).rain, .int .i64 (runTo i tanks t i.nm).used, .int .i64 (runTo i tanks t i.nm).leak, .int .i64 (runTo i tanks t i.nm).sea, .int .i64 ((runTo i tanks t i.nm).tanks + (runTo i tanks t i.nm).lens)]] :=
                          .cons (.slice ⟨_, hμ, rfl, rfl⟩ (Nat.le_refl _) hnm fun h => absurd rfl h) (.cons (vr_af (by kernel_rfl)) .nil)
                        exact .tuple this.vrs'.1 this.vrs'.2
end
end Go.Proofs.YtffdidleebognaaGreatDoor

namespace Go.Proofs.YtffdidleebognaaGreatDoor
open Go Go.CE Go.Proofs Go.RowKit Lens
def knE (kn : Nat → Kn) (j : Nat) : List Value := [.int .i64 (kn j).tl, .int .i64 (kn j).th, .int .i64 (kn j).ll, .int .i64 (kn j).lh, .int .i64 (kn j).kl, .int .i64 (kn j).kh]
def wid (k : Kn) (s : Seen) : Kn := ⟨min k.tl s.tanks, max k.th s.tanks, min k.ll s.lens, max k.lh s.lens, min k.kl s.lack, max k.kh s.lack⟩
/-- Bounds, widened by the ends of the first m months. -/
def pass (kn : Nat → Kn) (e : Nat → Seen) (m j : Nat) : Kn := if j < m then wid (kn j) (e j) else kn j
def endsOf (i : Isl) (tanks : Int) (much : Bool) (d : Nat → Bool) (j : Nat) : Seen := seenOf (runTo i tanks (endTru i much i.nm d) (j + 1))
/-- Bounds, widened by the ends of both extremes of a drought. -/
def widest (i : Isl) (tanks : Int) (d : Nat → Bool) (kn : Nat → Kn) : Nat → Kn := pass (pass kn (endsOf i tanks false d) i.nm) (endsOf i tanks true d) i.nm
theorem loose_ints {e : Nat → List Value} (n : Nat) (h : ∀ k, ∀ v ∈ e k, ∃ x, v = .int .i64 x) : ∀ v ∈ rowA e n, Loose v := rowA_mem n fun k _ v hv => by
  obtain ⟨x, rfl⟩ := h k v hv
  exact loose_int _ _
theorem loose_knE (kn : Nat → Kn) (n : Nat) : ∀ v ∈ rowA (knE kn) n, Loose v := loose_ints n fun k v hv => by
  simp only [knE, List.mem_cons, List.not_mem_nil, or_false] at hv
  rcases hv with rfl | rfl | rfl | rfl | rfl | rfl <;> exact ⟨_, rfl⟩
theorem loose_intE (f : Nat → Int) (n : Nat) : ∀ v ∈ rowA (intE f) n, Loose v := loose_ints n fun k v hv => by
  simp only [intE, List.mem_cons, List.not_mem_nil, or_false] at hv
  exact ⟨_, hv⟩
theorem loose_boolE (d : Nat → Bool) (n : Nat) : ∀ v ∈ rowA (boolE d) n, Loose v := rowA_mem n fun k _ v hv => by
  simp only [boolE, List.mem_cons, List.not_mem_nil, or_false] at hv
  rw [hv]; exact loose_bool _
theorem loose_seenE (i : Isl) (tanks : Int) (t : Tru) (n : Nat) : ∀ v ∈ rowA (seenE i tanks t) n, Loose v := loose_ints n fun k v hv => by
  simp only [seenE, List.mem_cons, List.not_mem_nil, or_false] at hv
  rcases hv with rfl | rfl | rfl <;> exact ⟨_, rfl⟩
theorem pass_splice {kn : Nat → Kn} {e : Nat → Seen} {n m : Nat} (hm : m < n) :
    0 + m * 6 + 6 ≤ (rowA (knE (pass kn e m)) n).size ∧ splice (rowA (knE (pass kn e m)) n) (0 + m * 6) #[.int .i64 (min (kn m).tl (e m).tanks), .int .i64 (max (kn m).th (e m).tanks), .int .i64 (min (kn m).ll (e m).lens), .int .i64 (max (kn m).lh (e m).lens), .int .i64 (min (kn m).kl (e m).lack), .int .i64 (max (kn m).kh (e m).lack)] = rowA (knE (pass kn e (m + 1))) n := by
  have := row_splice (e := knE (pass kn e m)) (z := 6) (n := n) (x := knE (fun j => wid (kn j) (e j)) m) (fun _ => rfl) rfl hm
  rw [Nat.zero_add]
  refine ⟨this.1, this.2.trans (row_congr n fun k hk => ?_)⟩
  by_cases h : k = m
  · subst h
    simp only [if_true, knE, pass, show k < k + 1 by omega]
  · rw [if_neg h]
    simp only [knE, pass]
    by_cases h2 : k < m
    · simp only [h2, show k < m + 1 by omega]
    · simp only [h2, show ¬ k < m + 1 by omega]
theorem pass_get {kn : Nat → Kn} {e : Nat → Seen} {n m : Nat} (hm : m < n) : 0 + m * 6 + 6 ≤ (rowA (knE (pass kn e m)) n).size ∧ (rowA (knE (pass kn e m)) n).extract (0 + m * 6) (0 + m * 6 + 6) = #[.int .i64 (kn m).tl, .int .i64 (kn m).th, .int .i64 (kn m).ll, .int .i64 (kn m).lh, .int .i64 (kn m).kl, .int .i64 (kn m).kh] := by
  refine ⟨(pass_splice hm).1, ?_⟩
  rw [Nat.zero_add, row_extract (z := 6) (fun _ => rfl) hm]
  simp only [knE, pass, Nat.lt_irrefl, if_false]
theorem seen_get {i : Isl} {tanks : Int} {t : Tru} {n m : Nat} (hm : m < n) : 0 + m * 3 + 3 ≤ (rowA (seenE i tanks t) n).size ∧ (rowA (seenE i tanks t) n).extract (0 + m * 3) (0 + m * 3 + 3) = #[.int .i64 (runTo i tanks t (m + 1)).tanks, .int .i64 (runTo i tanks t (m + 1)).lens, .int .i64 (runTo i tanks t (m + 1)).lack] := by
  rw [Nat.zero_add, row_extract (z := 3) (fun _ => rfl) hm]
  refine ⟨?_, rfl⟩
  rw [rowA_size (z := 3) (fun _ => rfl) n, ← Nat.succ_mul]
  exact Nat.mul_le_mul_right _ hm
theorem slots_arr {a : Nat} {T : Tm} (h : SlotsOk a T) : ∀ v ∈ tmArr T, Loose v ∨ okV a 3 v = true := fun v hv => by
  simp only [tmArr, List.mem_toArray, List.mem_map] at hv
  obtain ⟨t, _, rfl⟩ := hv
  exact h t
section
variable {i : Isl} {wa : Option Addr} {wc mb mo mc : Nat} {tanks : Int} {w : World} {d : Nat → Bool} {dk : Nat → Value} {k : Nat}
theorem knR_ok (hdk : ∀ t, Loose (dk t)) : SlotsOk 7 (mkT 70 (knR i (rawS wa i.nw wc) mb mo mc k) dk) := slots_mkT (by decide) hdk fun p hp => by
  simp only [knR, knL, List.cons_append, List.nil_append, List.mem_cons, List.not_mem_nil, or_false] at hp
  rcases hp with rfl | rfl | rfl | rfl | rfl | rfl | rfl | rfl | rfl
  · exact .inr (by kernel_rfl)
  · exact .inr (by kernel_rfl)
  · exact .inr (by kernel_rfl)
  · exact .inr (by kernel_rfl)
  · exact .inr (by kernel_rfl)
  · exact .inr (by kernel_rfl)
  · exact .inl (loose_bool _)
  · exact .inl (exact_isl i wa wc (some ⟨mb, mo, none⟩) mc).loose
  · exact .inr (by kernel_rfl)
end
end Go.Proofs.YtffdidleebognaaGreatDoor

namespace Go.Proofs.YtffdidleebognaaGreatDoor
open Go Go.CE Go.Proofs Go.RowKit Lens
section
variable {i : Isl} {wa : Option Addr} {wc mb mo mc : Nat} {tanks : Int} {w : World} {d : Nat → Bool} {dk : Nat → Value} {k : Nat}
theorem pass_zero (kn : Nat → Kn) (e : Nat → Seen) : pass kn e 0 = kn := by funext j; simp [pass]
theorem knRec_fix {n : Nat} (h8 : 7 ≤ n) (hdk : ∀ t, Loose (dk t)) {s : LoopState} : FixO n (.loop { knRec i (rawS wa i.nw wc) mb mo mc k dk with state := s }) := fun v hv => by
  rcases slots_arr (knR_ok (i := i) (wa := wa) (wc := wc) (mb := mb) (mo := mo) (mc := mc) (k := k) hdk) v hv with h | h
  · exact .inl h
  · exact .inr (okV_mono h8 3 v h)
theorem rn_ok (hdk : ∀ t, Loose (dk t)) {A D R1 N1 R2 N2 E : Array Value} (hA : ∀ v ∈ A, Loose v) (hD : ∀ v ∈ D, Loose v) (h1 : ∀ v ∈ R1, Loose v) (h2 : ∀ v ∈ N1, Loose v) (h3 : ∀ v ∈ R2, Loose v) (h4 : ∀ v ∈ N2, Loose v) (h5 : ∀ v ∈ E, Loose v) :
    OkB 8 13 (rnO i (rawS wa i.nw wc) mb mo mc tanks A k dk D R1 N1 R2 N2 E) :=
  ⟨.inr ⟨rfl, .inl (loose_isl i wa wc (some ⟨mb, mo, none⟩) mc)⟩, .inl ⟨rfl, by kernel_rfl⟩, .inr ⟨rfl, .inl hA⟩, .inl ⟨rfl, by kernel_rfl⟩, .inr ⟨rfl, .inl (loose_isl i wa wc (some ⟨mb, mo, none⟩) mc)⟩, .inr ⟨rfl, .inr trivial⟩, .inr ⟨rfl, .inr (knRec_fix (by omega) hdk)⟩,
    .inr ⟨rfl, .inl hD⟩, .inr ⟨rfl, .inl h1⟩, .inr ⟨rfl, .inl h2⟩, .inr ⟨rfl, .inl h3⟩, .inr ⟨rfl, .inl h4⟩, .inr ⟨rfl, .inl h5⟩, trivial⟩
theorem rn_same {W : Value} {A A' D R1 N1 R2 N2 E : Array Value} : ∀ j, j < 8 → j ∉ [2, 6] → hget (heapO 0 (rnO i W mb mo mc tanks A' k dk D R1 N1 R2 N2 E)) j = hget (heapO 0 (drO i W mb mo mc tanks A k dk ++ [(false, Obj.cells D 4 (0, 0))])) j := fun j hj hn => by
  have : j = 0 ∨ j = 1 ∨ j = 2 ∨ j = 3 ∨ j = 4 ∨ j = 5 ∨ j = 6 ∨ j = 7 := by omega
  rcases this with rfl | rfl | rfl | rfl | rfl | rfl | rfl | rfl
  all_goals first
    | (exact absurd (by decide) hn; done)
    | rfl
theorem rn_writable {W : Value} {A D : Array Value} : Writable (heapO 0 (drO i W mb mo mc tanks A k dk ++ [(false, Obj.cells D 4 (0, 0))])) 8 [2, 6] := fun j _ hj => by
  simp only [List.mem_cons, List.not_mem_nil, or_false] at hj
  rcases hj with rfl | rfl
  · exact .inl ⟨_, _, rfl⟩
  · exact .inr (.inl ⟨_, rfl⟩)
set_option maxRecDepth 100000 in
theorem rn_std (hi : IslAt w w.heap.size i wa (some ⟨mb, mo, none⟩)) (h1 : 1 ≤ i.nm) (hdk : ∀ t, Loose (dk t)) (hf : ∀ much, Fit i tanks (endTru i much i.nm d)) (kn : Nat → Kn) :
    StdF Tryz.prog (worldLo w) (rnC i (rawS wa i.nw wc) mb mo mc k dk) (heapO 0 (drO i (rawS wa i.nw wc) mb mo mc tanks (rowA (knE kn) i.nm) k dk ++ [(false, Obj.cells (rowA (boolE d) i.nm) 4 (0, 0))])) 8 (.bool true)
      (heapO 0 (drO i (rawS wa i.nw wc) mb mo mc tanks (rowA (knE (widest i tanks d kn)) i.nm) k dk ++ [(false, Obj.cells (rowA (boolE d) i.nm) 4 (0, 0))])) 8 [2, 6] := by
  have h8 : i.nm ≤ 8 := (hf true).nm
  have hml : i.nm ≤ maxLen := by unfold maxLen; omega
  have hokA : ∀ (kn : Nat → Kn) (t : Tru), OkB 8 13 (rnO i (rawS wa i.nw wc) mb mo mc tanks (rowA (knE kn) i.nm) k dk (rowA (boolE d) i.nm) (rowA (intE (endTru i false i.nm d).rains) i.nm) (rowA (intE (endTru i false i.nm d).needs) i.nm) (rowA (intE (endTru i true i.nm d).rains) i.nm) (rowA (intE (endTru i true i.nm d).needs) i.nm) (rowA (seenE i tanks t) i.nm)) := fun kn t =>
    rn_ok hdk (loose_knE _ _) (loose_boolE _ _) (loose_intE _ _) (loose_intE _ _) (loose_intE _ _) (loose_intE _ _) (loose_seenE _ _ _ _)
  have hr7 : ∀ l, some 6 = some l → l < 8 := fun l e => by cases e; omega
  let H0 := heapO 0 (drO i (rawS wa i.nw wc) mb mo mc tanks (rowA (knE kn) i.nm) k dk ++ [(false, Obj.cells (rowA (boolE d) i.nm) 4 (0, 0))])
  let at' : Nat → Nat → (Nat → Kn) → Tru → Prop := fun h m kn' t => ∃ d' : Nat → Value, (∀ t, Loose (d' t)) ∧ GoE Tryz.prog (worldLo w) (rnC i (rawS wa i.nw wc) mb mo mc k dk) H0 8
    (headR (some 6) 38 70 (rnL i.nm i.sl i.kl i.lh i.sh i.kh i.ll h m) d' (rnT.map (it (bodyOf Tryz.prog 38)))) (heapO 0 (rnO i (rawS wa i.nw wc) mb mo mc tanks (rowA (knE kn') i.nm) k dk (rowA (boolE d) i.nm) (rowA (intE (endTru i false i.nm d).rains) i.nm) (rowA (intE (endTru i false i.nm d).needs) i.nm) (rowA (intE (endTru i true i.nm d).rains) i.nm) (rowA (intE (endTru i true i.nm d).needs) i.nm) (rowA (seenE i tanks t) i.nm))) 13 [2, 6]
  have s0 : at' 0 0 kn (endTru i false i.nm d) :=
    ((GoE.refl (P := Tryz.prog) (B := worldLo w) (c0 := rnC i (rawS wa i.nw wc) mb mo mc k dk) (under_heapO (drO i (rawS wa i.nw wc) mb mo mc tanks (rowA (knE kn) i.nm) k dk ++ [(false, Obj.cells (rowA (boolE d) i.nm) 4 (0, 0))]) (Nat.le_refl 8))).widen (Wf := [2, 6]) (fun _ _ h => by simp at h) rn_writable).headR goFns_ok mixed_ok rn_writable
      (rn_start (worldLo w) i (rawS wa i.nw wc) mb mo mc tanks (rowA (knE kn) i.nm) k dk (rowA (boolE d) i.nm) (rowA (intE (endTru i false i.nm d).rains) i.nm) (rowA (intE (endTru i false i.nm d).needs) i.nm) (rowA (intE (endTru i true i.nm d).rains) i.nm) (rowA (intE (endTru i true i.nm d).needs) i.nm) i.sl i.kl i.lh i.sh i.kh i.ll (rowA (seenE i tanks (endTru i false i.nm d)) i.nm)
        (i.size * tanks + (endTru i false i.nm d).start) (runTo i tanks (endTru i false i.nm d) i.nm).rain (runTo i tanks (endTru i false i.nm d) i.nm).used (runTo i tanks (endTru i false i.nm d) i.nm).leak (runTo i tanks (endTru i false i.nm d) i.nm).sea ((runTo i tanks (endTru i false i.nm d) i.nm).tanks + (runTo i tanks (endTru i false i.nm d) i.nm).lens))
      ⟨con_follow (w := w) (i := i) (tanks := tanks) (wa := wa) (wc := wc) (ma := some ⟨mb, mo, none⟩) (mc := mc) (t := endTru i false i.nm d) (n := 13) (k := 7) (r := 8) (s := 9) (by omega) (by omega) (by omega) hml hml hml (hf false) h1 hml, ric_con hi h1 (Nat.le_refl _) h8 (k := 7) (n := 10) (by omega), sca_con hi h1 (Nat.le_refl _) h8 (k := 7) (n := 8) (by omega), trivial⟩
      (by kernel_rfl) (by kernel_rfl) (by kernel_rfl) (by kernel_rfl) (by kernel_rfl) (by kernel_rfl) (by kernel_rfl) (by kernel_rfl) (by kernel_rfl) (by kernel_rfl) (hokA kn _) rn_same hr7
  have months : ∀ (h : Nat) (kn' : Nat → Kn) (t : Tru), at' h 0 kn' t → ∀ m, m ≤ i.nm → at' h m (pass kn' (fun j => seenOf (runTo i tanks t (j + 1))) m) t := by
    intro h kn' t hs m
    induction m with
    | zero => intro _; rw [pass_zero]; exact hs
    | succ m ih =>
      intro hm
      obtain ⟨d', _, hg⟩ := ih (by omega)
      have hlt : m < i.nm := by omega
      refine hg.headR goFns_ok mixed_ok rn_writable
        (rn_month (worldLo w) i (rawS wa i.nw wc) mb mo mc tanks (rowA (knE (pass kn' (fun j => seenOf (runTo i tanks t (j + 1))) m)) i.nm) k dk (rowA (boolE d) i.nm) (rowA (intE (endTru i false i.nm d).rains) i.nm) (rowA (intE (endTru i false i.nm d).needs) i.nm) (rowA (intE (endTru i true i.nm d).rains) i.nm) (rowA (intE (endTru i true i.nm d).needs) i.nm) i.sl i.kl i.lh i.sh i.kh i.ll (rowA (seenE i tanks t) i.nm)
          (rowA (knE (pass kn' (fun j => seenOf (runTo i tanks t (j + 1))) (m + 1))) i.nm) h m (runTo i tanks t (m + 1)).tanks (runTo i tanks t (m + 1)).lens (runTo i tanks t (m + 1)).lack (kn' m).tl (kn' m).th (kn' m).ll (kn' m).lh (kn' m).kl (kn' m).kh
          (min (kn' m).tl (runTo i tanks t (m + 1)).tanks) (max (kn' m).th (runTo i tanks t (m + 1)).tanks) (min (kn' m).ll (runTo i tanks t (m + 1)).lens) (max (kn' m).lh (runTo i tanks t (m + 1)).lens) (min (kn' m).kl (runTo i tanks t (m + 1)).lack) (max (kn' m).kh (runTo i tanks t (m + 1)).lack) d')
        ⟨wq_in (by omega) (by omega), pass_splice (e := fun j => seenOf (runTo i tanks t (j + 1))) hlt, ⟨rfl, hlt⟩, con_withEnd (w := w) (n := 14) (kn' m) (seenOf (runTo i tanks t (m + 1))), pass_get (e := fun j => seenOf (runTo i tanks t (j + 1))) hlt, ⟨rfl, hlt⟩, seen_get hlt, ⟨rfl, hlt⟩, ltq_t (by omega), trivial⟩
        (by kernel_rfl) (by kernel_rfl) (by kernel_rfl) (by kernel_rfl) (by kernel_rfl) (by kernel_rfl) (by kernel_rfl) (by kernel_rfl) (by kernel_rfl) (by kernel_rfl) (hokA _ _) rn_same hr7
  obtain ⟨d1, _, g1⟩ := months 0 kn _ s0 i.nm (Nat.le_refl _)
  have s1 : at' 1 0 (pass kn (endsOf i tanks false d) i.nm) (endTru i true i.nm d) :=
    g1.headR goFns_ok mixed_ok rn_writable
      (rn_next (worldLo w) i (rawS wa i.nw wc) mb mo mc tanks (rowA (knE (pass kn (endsOf i tanks false d) i.nm)) i.nm) k dk (rowA (boolE d) i.nm) (rowA (intE (endTru i false i.nm d).rains) i.nm) (rowA (intE (endTru i false i.nm d).needs) i.nm) (rowA (intE (endTru i true i.nm d).rains) i.nm) (rowA (intE (endTru i true i.nm d).needs) i.nm) i.sl i.kl i.lh i.sh i.kh i.ll (rowA (seenE i tanks (endTru i false i.nm d)) i.nm) (rowA (seenE i tanks (endTru i true i.nm d)) i.nm) i.nm
        (i.size * tanks + (endTru i true i.nm d).start) (runTo i tanks (endTru i true i.nm d) i.nm).rain (runTo i tanks (endTru i true i.nm d) i.nm).used (runTo i tanks (endTru i true i.nm d) i.nm).leak (runTo i tanks (endTru i true i.nm d) i.nm).sea ((runTo i tanks (endTru i true i.nm d) i.nm).tanks + (runTo i tanks (endTru i true i.nm d) i.nm).lens) d1)
      ⟨con_follow (w := w) (i := i) (tanks := tanks) (wa := wa) (wc := wc) (ma := some ⟨mb, mo, none⟩) (mc := mc) (t := endTru i true i.nm d) (n := 14) (k := 7) (r := 10) (s := 11) (by omega) (by omega) (by omega) hml hml hml (hf true) h1 hml, ltq_f (by omega), trivial⟩
      (by kernel_rfl) (by kernel_rfl) (by kernel_rfl) (by kernel_rfl) (by kernel_rfl) (by kernel_rfl) (by kernel_rfl) (by kernel_rfl) (by kernel_rfl) (by kernel_rfl) (hokA _ _) rn_same hr7
  obtain ⟨d2, _, g2⟩ := months 1 _ _ s1 i.nm (Nat.le_refl _)
  refine g2.stdF goFns_ok mixed_ok rn_writable (os := drO i (rawS wa i.nw wc) mb mo mc tanks (rowA (knE (widest i tanks d kn)) i.nm) k dk ++ [(false, Obj.cells (rowA (boolE d) i.nm) 4 (0, 0))])
    (rn_end (worldLo w) i (rawS wa i.nw wc) mb mo mc tanks (rowA (knE (widest i tanks d kn)) i.nm) k dk (rowA (boolE d) i.nm) (rowA (intE (endTru i false i.nm d).rains) i.nm) (rowA (intE (endTru i false i.nm d).needs) i.nm) (rowA (intE (endTru i true i.nm d).rains) i.nm) (rowA (intE (endTru i true i.nm d).needs) i.nm) i.sl i.kl i.lh i.sh i.kh i.ll (rowA (seenE i tanks (endTru i true i.nm d)) i.nm) i.nm d2)
    ⟨ltq_f (by omega), trivial⟩ (by kernel_rfl) (by kernel_rfl) (by kernel_rfl) (by kernel_rfl) (by kernel_rfl) (by kernel_rfl) (by kernel_rfl) (by kernel_rfl) ?_ ?_
  · exact ⟨.inr ⟨rfl, .inl (loose_isl i wa wc (some ⟨mb, mo, none⟩) mc)⟩, .inl ⟨rfl, by kernel_rfl⟩, .inr ⟨rfl, .inl (loose_knE _ _)⟩, .inl ⟨rfl, by kernel_rfl⟩, .inr ⟨rfl, .inl (loose_isl i wa wc (some ⟨mb, mo, none⟩) mc)⟩, .inr ⟨rfl, .inr trivial⟩, .inr ⟨rfl, .inr (knRec_fix (by omega) hdk)⟩, .inr ⟨rfl, .inl (loose_boolE _ _)⟩, trivial⟩
  · intro j hj hn
    have : j = 0 ∨ j = 1 ∨ j = 2 ∨ j = 3 ∨ j = 4 ∨ j = 5 ∨ j = 6 ∨ j = 7 := by omega
    rcases this with rfl | rfl | rfl | rfl | rfl | rfl | rfl | rfl
    all_goals first
      | (exact absurd (by decide) hn; done)
      | rfl
end
end Go.Proofs.YtffdidleebognaaGreatDoor

namespace Go.Proofs.YtffdidleebognaaGreatDoor
open Go Go.CE Go.Proofs Go.RowKit Lens
theorem fix_loose {a : Nat} {o : Obj} (h : looseO o) : FixO a o := by
  cases o with
  | cells cs t fz => exact fun v hv => .inl (h v hv)
  | _ => exact h.elim
theorem fix_ok {a : Nat} {o : Obj} (h : okO a o = true) : FixO a o := by
  cases o with
  | cells cs t fz =>
    intro v hv
    obtain ⟨i, hi, rfl⟩ := Array.mem_iff_getElem.1 hv
    exact .inr (Array.all_eq_true.1 h i hi)
  | _ => cases h
section
variable {i : Isl} {wa : Option Addr} {wc mb mo mc : Nat} {tanks : Int} {w : World} {d : Nat → Bool} {dk : Nat → Value} {k : Nat}
theorem dr_fix {n : Nat} (h8 : 7 ≤ n) (hdk : ∀ t, Loose (dk t)) {A : Array Value} (hA : ∀ v ∈ A, Loose v) : ∀ b ∈ drO i (rawS wa i.nw wc) mb mo mc tanks A k dk, FixO n b.2 := by
  intro b hb
  have hint : ∀ (x : Int), FixO n (.cells #[.int .i64 x] 3 (0, 0)) := fun x v hv => by
    simp only [List.mem_toArray, List.mem_cons, List.not_mem_nil, or_false] at hv
    rw [hv]; exact .inl (loose_int _ _)
  have h4 : FixO n (.cells #[.slice (some ⟨2, 0, none⟩) i.nm 6] 32 (0, 0)) := fun v hv => by
    simp only [List.mem_toArray, List.mem_cons, List.not_mem_nil, or_false] at hv
    rw [hv]; exact .inr (okV_mono h8 3 _ (by kernel_rfl))
  simp only [drO, knO, List.cons_append, List.nil_append, List.mem_cons, List.not_mem_nil, or_false] at hb
  rcases hb with rfl | rfl | rfl | rfl | rfl | rfl | rfl
  · exact fix_loose (loose_isl i wa wc (some ⟨mb, mo, none⟩) mc)
  · exact hint _
  · exact fix_loose (o := .cells A 56 (0, 0)) hA
  · exact h4
  · exact fix_loose (loose_isl i wa wc (some ⟨mb, mo, none⟩) mc)
  · trivial
  · exact knRec_fix (s := .ready) h8 hdk
theorem rnC_slots (hdk : ∀ t, Loose (dk t)) : SlotsOk 8 (rnC i (rawS wa i.nw wc) mb mo mc k dk).tmps := slots_mkT (by decide) hdk fun p hp => by
  simp only [knR, knL, List.cons_append, List.nil_append, List.mem_cons, List.not_mem_nil, or_false] at hp
  rcases hp with rfl | rfl | rfl | rfl | rfl | rfl | rfl | rfl | rfl | rfl
  · exact .inr (by kernel_rfl)
  · exact .inr (by kernel_rfl)
  · exact .inr (by kernel_rfl)
  · exact .inr (by kernel_rfl)
  · exact .inr (by kernel_rfl)
  · exact .inr (by kernel_rfl)
  · exact .inl (loose_bool _)
  · exact .inl (exact_isl i wa wc (some ⟨mb, mo, none⟩) mc).loose
  · exact .inr (by kernel_rfl)
  · exact .inr (by kernel_rfl)
theorem rn_rj (hi : IslAt w w.heap.size i wa (some ⟨mb, mo, none⟩)) (h1 : 1 ≤ i.nm) (hdk : ∀ t, Loose (dk t)) (hf : ∀ much, Fit i tanks (endTru i much i.nm d)) (kn : Nat → Kn) :
    RJ Tryz.prog (worldLo w) (rnC i (rawS wa i.nw wc) mb mo mc k dk) ((List.range 8).map fun q => (q, hget (heapO 0 (drO i (rawS wa i.nw wc) mb mo mc tanks (rowA (knE kn) i.nm) k dk ++ [(false, Obj.cells (rowA (boolE d) i.nm) 4 (0, 0))])) q)) 8 (.bool true)
      [(2, .cells (rowA (knE (widest i tanks d kn)) i.nm) 56 (0, 0)), (6, .loop (knRec i (rawS wa i.nw wc) mb mo mc k dk))] 8 [2, 6] := by
  have fx : ∀ (kn : Nat → Kn), ∀ b ∈ drO i (rawS wa i.nw wc) mb mo mc tanks (rowA (knE kn) i.nm) k dk ++ [(false, Obj.cells (rowA (boolE d) i.nm) 4 (0, 0))], FixO 8 b.2 := fun kn b hb => by
    rcases List.mem_append.1 hb with h | h
    · exact dr_fix (by omega) hdk (loose_knE _ _) b h
    · simp only [List.mem_cons, List.not_mem_nil, or_false] at h
      rw [h]; exact fix_loose (o := .cells (rowA (boolE d) i.nm) 4 (0, 0)) (loose_boolE _ _)
  exact StdX.rj (os := drO i (rawS wa i.nw wc) mb mo mc tanks (rowA (knE kn) i.nm) k dk ++ [(false, Obj.cells (rowA (boolE d) i.nm) 4 (0, 0))]) (os' := drO i (rawS wa i.nw wc) mb mo mc tanks (rowA (knE (widest i tanks d kn)) i.nm) k dk ++ [(false, Obj.cells (rowA (boolE d) i.nm) 4 (0, 0))])
    (rn_std hi h1 hdk hf kn) (rnC_slots hdk) (by kernel_rfl) rfl rfl (fun l e => by cases e; show 6 < 8; omega) (fx kn) (fx _) (by kernel_rfl) (by kernel_rfl) (by kernel_rfl) (by kernel_rfl) (by kernel_rfl) (by kernel_rfl)
end
end Go.Proofs.YtffdidleebognaaGreatDoor

namespace Go.CE
open Go Go.RowKit
theorem shr_eq {b s : Nat} (hs : s ≤ 60) : Int.fdiv (b : Int) (2 ^ min (Int.toNat (s : Int)) (IntKind.bits IntKind.i64)) = ((b / 2 ^ s : Nat) : Int) := by
  have e : min (Int.toNat (s : Int)) (IntKind.bits IntKind.i64) = s := by
    rw [Int.toNat_natCast]
    exact Nat.min_eq_left (by show s ≤ 64; omega)
  rw [e, Int.fdiv_eq_ediv_of_nonneg _ (Int.le_of_lt (Int.pow_pos (by decide))), Int.natCast_ediv, Int.natCast_pow]
  rfl
theorem and1_eq {x : Nat} (hx : x < 2 ^ 62) : IntKind.wrap IntKind.i64 ((BitVec.toNat (BitVec.ofInt (IntKind.bits IntKind.i64) (x : Int) &&& BitVec.ofInt (IntKind.bits IntKind.i64) 1) : Nat) : Int) = ((x % 2 : Nat) : Int) := by
  have e1 : BitVec.ofInt (IntKind.bits IntKind.i64) (x : Int) = BitVec.ofNat 64 x := BitVec.ofInt_natCast 64 x
  have e2 : BitVec.ofInt (IntKind.bits IntKind.i64) 1 = BitVec.ofNat 64 1 := rfl
  rw [e1, e2]
  have e3 : BitVec.toNat (BitVec.ofNat 64 x &&& BitVec.ofNat 64 1) = x % 2 := by
    rw [BitVec.toNat_and, BitVec.toNat_ofNat, BitVec.toNat_ofNat, Nat.mod_eq_of_lt (a := x) (by omega), Nat.mod_eq_of_lt (a := 1) (by decide), Nat.and_one_is_mod]
  show IntKind.wrap IntKind.i64 ((BitVec.toNat (BitVec.ofNat 64 x &&& BitVec.ofNat 64 1) : Nat) : Int) = _
  rw [e3]
  exact wrap_in (by omega) (by omega)
theorem shl1_eq {s : Nat} (hs : s ≤ 60) : IntKind.wrap IntKind.i64 (1 * 2 ^ min (Int.toNat (s : Int)) (IntKind.bits IntKind.i64)) = ((2 ^ s : Nat) : Int) := by
  have e : min (Int.toNat (s : Int)) (IntKind.bits IntKind.i64) = s := by
    rw [Int.toNat_natCast]
    exact Nat.min_eq_left (by show s ≤ 64; omega)
  have hp : (2 : Nat) ^ s ≤ 2 ^ 60 := Nat.pow_le_pow_right (by decide) hs
  have e2 : (2 : Int) ^ s = ((2 ^ s : Nat) : Int) := by rw [Int.natCast_pow]; rfl
  rw [e, Int.one_mul, e2]
  generalize 2 ^ s = y at *
  exact wrap_in (by omega) (by omega)
theorem bit_eq {b s : Nat} : eqq ((b / 2 ^ s % 2 : Nat) : Int) 1 = b.testBit s := by
  rw [Nat.testBit_eq_decide_div_mod_eq]
  generalize b / 2 ^ s % 2 = y
  by_cases h : y = 1
  · subst h; rfl
  · rw [decide_eq_false h]
    exact eqq_f (by omega)
end Go.CE

namespace Go.Proofs.YtffdidleebognaaGreatDoor
open Go Go.CE Go.Proofs Go.RowKit Lens
/-- Bounds, widened by all droughts whose number is below b. -/
def upTo (i : Isl) (tanks : Int) (kn : Nat → Kn) : Nat → (Nat → Kn)
  | 0 => kn
  | b + 1 => if drB i.most i.row i.nm (bitsDry i.nm b) then widest i tanks (bitsDry i.nm b) (upTo i tanks kn b) else upTo i tanks kn b
def bitsTo (n b m j : Nat) : Bool := if j < m then bitsDry n b j else false
theorem bitsTo_splice {n b m : Nat} (hm : m < n) : 0 + m * 1 + 1 ≤ (rowA (boolE (bitsTo n b m)) n).size ∧ splice (rowA (boolE (bitsTo n b m)) n) (0 + m * 1) #[.bool (bitsDry n b m)] = rowA (boolE (bitsTo n b (m + 1))) n := by
  have := row_splice (e := boolE (bitsTo n b m)) (z := 1) (n := n) (x := [.bool (bitsDry n b m)]) (fun _ => rfl) rfl hm
  rw [Nat.zero_add]
  refine ⟨this.1, this.2.trans (row_congr n fun k hk => ?_)⟩
  by_cases h : k = m
  · subst h
    simp only [if_true, boolE, bitsTo, show k < k + 1 by omega]
  · rw [if_neg h]
    simp only [boolE, bitsTo]
    by_cases h2 : k < m
    · simp only [h2, show k < m + 1 by omega]
    · simp only [h2, show ¬ k < m + 1 by omega]
theorem bitsTo_zero (n b : Nat) : rowA (fun _ => [.bool false]) n = rowA (boolE (bitsTo n b 0)) n := row_congr n fun k _ => by simp [boolE, bitsTo]
theorem bitsTo_all (n b : Nat) : rowA (boolE (bitsTo n b n)) n = rowA (boolE (bitsDry n b)) n := row_congr n fun k hk => by simp [boolE, bitsTo, hk]
section
variable {i : Isl} {wa : Option Addr} {wc mb mo mc : Nat} {tanks : Int} {w : World} {dk : Nat → Value} {k : Nat}
theorem okO_one {n : Nat} (h8 : 7 ≤ n) : okO n (.cells #[.slice (some ⟨2, 0, none⟩) i.nm 6] 32 (0, 0)) = true := by
  have := okV_mono h8 3 (.slice (some ⟨2, 0, none⟩) i.nm 6) (by kernel_rfl)
  simp only [okO, List.all_toArray, List.all_cons, List.all_nil, Bool.and_true]
  exact this
theorem dr_ok {n : Nat} (h8 : 7 ≤ n) (hdk : ∀ t, Loose (dk t)) {A : Array Value} (hA : ∀ v ∈ A, Loose v) {l : List (Bool × Obj)} (hl : OkB 7 n l) : OkB 7 n (drO i (rawS wa i.nw wc) mb mo mc tanks A k dk ++ l) := by
  have hf := dr_fix (i := i) (wa := wa) (wc := wc) (mb := mb) (mo := mo) (mc := mc) (tanks := tanks) (k := k) (n := 7) (Nat.le_refl 7) hdk hA
  exact ⟨.inr ⟨rfl, .inl (loose_isl i wa wc (some ⟨mb, mo, none⟩) mc)⟩, .inl ⟨rfl, by kernel_rfl⟩, .inr ⟨rfl, .inl hA⟩, .inl ⟨rfl, okO_one h8⟩, .inr ⟨rfl, .inl (loose_isl i wa wc (some ⟨mb, mo, none⟩) mc)⟩, .inr ⟨rfl, .inr trivial⟩, .inr ⟨rfl, .inr (knRec_fix (s := .ready) (Nat.le_refl 7) hdk)⟩, hl⟩
theorem dr_same {W : Value} {A A' : Array Value} {l : List (Bool × Obj)} : ∀ j, j < 7 → j ∉ [2, 6] → hget (heapO 0 (drO i W mb mo mc tanks A' k dk ++ l)) j = hget (heapO 0 (drO i W mb mo mc tanks A k dk)) j := fun j hj hn => by
  have : j = 0 ∨ j = 1 ∨ j = 2 ∨ j = 3 ∨ j = 4 ∨ j = 5 ∨ j = 6 := by omega
  rcases this with rfl | rfl | rfl | rfl | rfl | rfl | rfl
  all_goals first
    | (exact absurd (by decide) hn; done)
    | rfl
theorem dr_writable {W : Value} {A : Array Value} : Writable (heapO 0 (drO i W mb mo mc tanks A k dk)) 7 [2, 6] := fun j _ hj => by
  simp only [List.mem_cons, List.not_mem_nil, or_false] at hj
  rcases hj with rfl | rfl
  · exact .inl ⟨_, _, rfl⟩
  · exact .inr (.inl ⟨_, rfl⟩)
set_option maxRecDepth 100000 in
theorem dr_std (hi : IslAt w w.heap.size i wa (some ⟨mb, mo, none⟩)) (h1 : 1 ≤ i.nm) (hdk : ∀ t, Loose (dk t)) (hf : ∀ much d, Fit i tanks (endTru i much i.nm d)) (kn : Nat → Kn) :
    StdF Tryz.prog (worldLo w) (entryC Tryz.prog 76 43 [.func (.yield 6) #[] #[], .pointer (some ⟨4, 0, none⟩)]) (heapO 0 (drO i (rawS wa i.nw wc) mb mo mc tanks (rowA (knE kn) i.nm) k dk)) 7 (.tuple #[])
      (heapO 0 (drO i (rawS wa i.nw wc) mb mo mc tanks (rowA (knE (upTo i tanks kn (2 ^ i.nm))) i.nm) k dk)) 7 [2, 6] := by
  have h8 : i.nm ≤ 8 := (hf true fun _ => false).nm
  have hml : i.nm ≤ maxLen := by unfold maxLen; omega
  have hp : 2 ^ i.nm ≤ 256 := Nat.pow_le_pow_right (by decide) h8
  let c0 := entryC Tryz.prog 76 43 [.func (.yield 6) #[] #[], .pointer (some ⟨4, 0, none⟩)]
  let H0 := heapO 0 (drO i (rawS wa i.nw wc) mb mo mc tanks (rowA (knE kn) i.nm) k dk)
  let at1 : Nat → Prop := fun b => ∃ d' : Nat → Value, (∀ t, Loose (d' t)) ∧ GoE Tryz.prog (worldLo w) c0 H0 7
    (headC 76 43 (drL i.nm ((2 ^ i.nm : Nat) : Int) b) d' (drT.map (it (bodyOf Tryz.prog 76)))) (heapO 0 (drO i (rawS wa i.nw wc) mb mo mc tanks (rowA (knE (upTo i tanks kn b)) i.nm) k dk)) 7 [2, 6]
  let at2 : Nat → Nat → Prop := fun b m => ∃ d' : Nat → Value, (∀ t, Loose (d' t)) ∧ GoE Tryz.prog (worldLo w) c0 H0 7
    (headC 76 43 (drM i.nm ((2 ^ i.nm : Nat) : Int) b m) d' (drU.map (it (bodyOf Tryz.prog 76)))) (heapO 0 (drO i (rawS wa i.nw wc) mb mo mc tanks (rowA (knE (upTo i tanks kn b)) i.nm) k dk ++ [(false, Obj.cells (rowA (boolE (bitsTo i.nm b m)) i.nm) 4 (0, 0))])) 8 [2, 6]
  have ok1 : ∀ kn', OkB 7 7 (drO i (rawS wa i.nw wc) mb mo mc tanks (rowA (knE kn') i.nm) k dk) := fun kn' => dr_ok (l := []) (by omega) hdk (loose_knE _ _) trivial
  have ok2 : ∀ kn' f, OkB 7 8 (drO i (rawS wa i.nw wc) mb mo mc tanks (rowA (knE kn') i.nm) k dk ++ [(false, Obj.cells (rowA (boolE f) i.nm) 4 (0, 0))]) := fun kn' f => dr_ok (by omega) hdk (loose_knE _ _) ⟨.inr ⟨rfl, .inl (loose_boolE _ _)⟩, trivial⟩
  have s0 : at1 0 :=
    ((GoE.refl (P := Tryz.prog) (B := worldLo w) (c0 := c0) (under_heapO (drO i (rawS wa i.nw wc) mb mo mc tanks (rowA (knE kn) i.nm) k dk) (Nat.le_refl 7))).widen (Wf := [2, 6]) (fun _ _ h => by simp at h) dr_writable).headB goFns_ok mixed_ok dr_writable
      (dr_entry (worldLo w) i (rawS wa i.nw wc) mb mo mc tanks (rowA (knE kn) i.nm) k dk ((2 ^ i.nm : Nat) : Int)) ⟨shl1_eq (by omega), trivial⟩
      (by kernel_rfl) (by kernel_rfl) (by kernel_rfl) (by kernel_rfl) (by kernel_rfl) (by kernel_rfl) (by kernel_rfl) (by kernel_rfl) (by kernel_rfl) (by kernel_rfl) (ok1 kn) (dr_same (l := []))
  have next : ∀ b, b < 2 ^ i.nm → at1 b → at1 (b + 1) := by
    intro b hb ⟨d1, _, g1⟩
    have hmk : cMake Tryz.prog 38 (.int .i64 (i.nm : Int)) (.int .i64 (i.nm : Int)) = some (4, rowA (boolE (bitsTo i.nm b 0)) i.nm, i.nm, 1) := by
      rw [← bitsTo_zero]
      exact cMake_row (P := Tryz.prog) (t := 38) (e := 4) (i := Go.Proofs.Tryz.t4) (zv := .bool false) (by kernel_rfl) (by kernel_rfl) (by kernel_rfl) (by kernel_rfl) (by decide) (by kernel_rfl) (by show 1 * i.nm ≤ _; omega) (by omega)
    have s2 : at2 b 0 := g1.headB goFns_ok mixed_ok dr_writable
      (dr_bits (worldLo w) i (rawS wa i.nw wc) mb mo mc tanks (rowA (knE (upTo i tanks kn b)) i.nm) k dk ((2 ^ i.nm : Nat) : Int) b (rowA (boolE (bitsTo i.nm b 0)) i.nm) d1) ⟨hmk, ltq_t (by omega), trivial⟩
      (by kernel_rfl) (by kernel_rfl) (by kernel_rfl) (by kernel_rfl) (by kernel_rfl) (by kernel_rfl) (by kernel_rfl) (by kernel_rfl) (by kernel_rfl) (by kernel_rfl) (ok2 _ _) dr_same
    have all : ∀ m, m ≤ i.nm → at2 b m := by
      intro m
      induction m with
      | zero => intro _; exact s2
      | succ m ih =>
        intro hm
        obtain ⟨d2, _, g2⟩ := ih (by omega)
        have hlt : m < i.nm := by omega
        have hbit : ((b / 2 ^ (i.nm - 1 - m) % 2 : Nat) : Int) = ((b / 2 ^ (i.nm - 1 - m) % 2 : Nat) : Int) := rfl
        have hle : b / 2 ^ (i.nm - 1 - m) ≤ b := Nat.div_le_self _ _
        exact g2.headB goFns_ok mixed_ok dr_writable
          (dr_bit (worldLo w) i (rawS wa i.nw wc) mb mo mc tanks (rowA (knE (upTo i tanks kn b)) i.nm) k dk ((2 ^ i.nm : Nat) : Int) b m (rowA (boolE (bitsTo i.nm b m)) i.nm) (rowA (boolE (bitsTo i.nm b (m + 1))) i.nm) ((b / 2 ^ (i.nm - 1 - m) : Nat) : Int) ((b / 2 ^ (i.nm - 1 - m) % 2 : Nat) : Int) (bitsDry i.nm b m) d2)
          ⟨wq_in (by omega) (by omega), bitsTo_splice hlt, ⟨rfl, hlt⟩, bit_eq, and1_eq (by omega), shr_eq (by omega), (wq_in (by omega) (by omega)).trans (by omega), wq_in (by omega) (by omega), ltq_t (by omega), trivial⟩
          (by kernel_rfl) (by kernel_rfl) (by kernel_rfl) (by kernel_rfl) (by kernel_rfl) (by kernel_rfl) (by kernel_rfl) (by kernel_rfl) (by kernel_rfl) (by kernel_rfl) (ok2 _ _) dr_same
    obtain ⟨d3, _, g3⟩ := all i.nm (Nat.le_refl _)
    rw [bitsTo_all] at g3
    cases hdr : drB i.most i.row i.nm (bitsDry i.nm b) with
    | false =>
      have hu : upTo i tanks kn (b + 1) = upTo i tanks kn b := by simp only [upTo, hdr]; rfl
      show ∃ d' : Nat → Value, _
      rw [hu]
      exact g3.headB goFns_ok mixed_ok dr_writable
        (dr_no (worldLo w) i (rawS wa i.nw wc) mb mo mc tanks (rowA (knE (upTo i tanks kn b)) i.nm) k dk ((2 ^ i.nm : Nat) : Int) b i.nm (rowA (boolE (bitsDry i.nm b)) i.nm) d3)
        ⟨wq_in (by omega) (by omega), hdr ▸ con_isDrought (w := w) (i := i) (wa := wa) (wc := wc) (ma := some ⟨mb, mo, none⟩) (mc := mc) (k := 7) (n := 8) (by omega) hml, ltq_f (by omega), trivial⟩
        (by kernel_rfl) (by kernel_rfl) (by kernel_rfl) (by kernel_rfl) (by kernel_rfl) (by kernel_rfl) (by kernel_rfl) (by kernel_rfl) (by kernel_rfl) (by kernel_rfl) (ok1 _) (dr_same (l := []))
    | true =>
      have hu : upTo i tanks kn (b + 1) = widest i tanks (bitsDry i.nm b) (upTo i tanks kn b) := by simp only [upTo, hdr]; rfl
      show ∃ d' : Nat → Value, _
      rw [hu]
      exact g3.headB goFns_ok mixed_ok dr_writable
        (dr_yield (worldLo w) i (rawS wa i.nw wc) mb mo mc tanks (rowA (knE (upTo i tanks kn b)) i.nm) k dk ((2 ^ i.nm : Nat) : Int) b i.nm (rowA (boolE (bitsDry i.nm b)) i.nm) (rowA (knE (widest i tanks (bitsDry i.nm b) (upTo i tanks kn b))) i.nm) d3)
        ⟨wq_in (by omega) (by omega), rn_rj hi h1 hdk (fun much => hf much _) _, hdr ▸ con_isDrought (w := w) (i := i) (wa := wa) (wc := wc) (ma := some ⟨mb, mo, none⟩) (mc := mc) (k := 7) (n := 8) (by omega) hml, ltq_f (by omega), trivial⟩
        (by kernel_rfl) (by kernel_rfl) (by kernel_rfl) (by kernel_rfl) (by kernel_rfl) (by kernel_rfl) (by kernel_rfl) (by kernel_rfl) (by kernel_rfl) (by kernel_rfl) (ok1 _) (dr_same (l := []))
  have all : ∀ b, b ≤ 2 ^ i.nm → at1 b := by
    intro b
    induction b with
    | zero => intro _; exact s0
    | succ b ih => intro hb; exact next b (by omega) (ih (by omega))
  obtain ⟨d4, _, g4⟩ := all _ (Nat.le_refl _)
  exact g4.stdF goFns_ok mixed_ok dr_writable (os := drO i (rawS wa i.nw wc) mb mo mc tanks (rowA (knE (upTo i tanks kn (2 ^ i.nm))) i.nm) k dk)
    (dr_end (worldLo w) i (rawS wa i.nw wc) mb mo mc tanks (rowA (knE (upTo i tanks kn (2 ^ i.nm))) i.nm) k dk ((2 ^ i.nm : Nat) : Int) (2 ^ i.nm) d4)
    ⟨ltq_f (by omega), trivial⟩ (by kernel_rfl) (by kernel_rfl) (by kernel_rfl) (by kernel_rfl) (by kernel_rfl) (by kernel_rfl) (by kernel_rfl) (by kernel_rfl) (ok1 _) (dr_same (l := []))
end
end Go.Proofs.YtffdidleebognaaGreatDoor

namespace Go.Proofs.YtffdidleebognaaGreatDoor
open Go Go.CE Go.Proofs Go.RowKit Lens
/-- A list of months, by its number's bits. -/
def dqB (k b : Nat) : Array Value := ((List.range k).map fun j => .bool (b.testBit (k - 1 - j))).toArray
def dqA (k : Nat) : Array Value := bif Nat.beq k 0 then #[.slice none 0 0] else ((List.range (2 ^ k)).map fun b => .slice (some ⟨2 + b, 0, none⟩) k 1).toArray
def dqR (k : Nat) : List (Bool × Obj) := bif Nat.beq k 0 then [] else (List.range (2 ^ k)).map fun b => (false, .cells (dqB k b) 4 (0, 0))
def dqO (i : Isl) (W : Value) (mb mo ms k : Nat) : List (Bool × Obj) :=
  (false, .cells (islC i W (.slice (some ⟨mb, mo, some 0⟩) i.nm ms)) 27 (0, 0)) :: (true, .cells (dqA k) 38 (0, 0)) :: dqR k
def dqL (k : Nat) : List (Nat × Value) := [(1, .pointer (some ⟨0, 0, none⟩)), (3, .slice (some ⟨1, 0, none⟩) (2 ^ k) 1), (4, .int .i64 k)]
def dqF (k : Nat) : List (Nat × Value) := [(1, .pointer (some ⟨0, 0, none⟩)), (3, .slice (some ⟨1, 0, none⟩) (2 ^ k) 1), (7, .slice none 0 0), (8, .int .i64 0)]
def dqT : List It := [.code [1, 1, 0, 1, 0, 0], .inLoop [1, 1, 0, 1, 0, 0], .inBlock 0, .code [1, 1, 1]]
def dqU : List It := [.code [1, 1, 1, 1, 0, 1, 0, 0], .inLoop [1, 1, 1, 1, 0, 1, 0, 0], .inBlock 4, .code [1, 1, 1, 1, 1]]
set_option maxRecDepth 100000 in
theorem dq_entry (B : Lo) (i : Isl) (W : Value) (mb mo ms : Nat) : land (srun Tryz.prog goFns B 9 0 (entryC Tryz.prog 42 61 [.agg (islC i W (.slice (some ⟨mb, mo, some 0⟩) i.nm ms))]) [] 0
    [] 0 [] []) ((dqL 0).map (·.1)) ((kz [0, 1] (dqO i W mb mo ms 0)).map (·.old)) = some ⟨42, 61, dqT.map (it (bodyOf Tryz.prog 42)), [], .run, none, (dqL 0).map (fun p => rnV (rhoK (kz [0, 1] (dqO i W mb mo ms 0))) 3 p.2), (kz [0, 1] (dqO i W mb mo ms 0)).map (fun kept_ => some (wasK (rhoK (kz [0, 1] (dqO i W mb mo ms 0))) kept_)), 2,
    []⟩ := by kernel_rfl
set_option maxRecDepth 100000 in
theorem dq_month0 (B : Lo) (i : Isl) (W : Value) (mb mo ms : Nat) (d : Nat → Value) : land (srun Tryz.prog goFns B 34 0 (headC 42 61 (dqL 0) d (dqT.map (it (bodyOf Tryz.prog 42)))) (heapO 0 (dqO i W mb mo ms 0)) ((dqO i W mb mo ms 0)).length
    [(4, Hint.val (Value.bool true))] 0 [] []) ((dqL 1).map (·.1)) ((kz [0, 7, 3, 5] (dqO i W mb mo ms 1)).map (·.old)) = some ⟨42, 61, dqT.map (it (bodyOf Tryz.prog 42)), [], .run, none, (dqL 1).map (fun p => rnV (rhoK (kz [0, 7, 3, 5] (dqO i W mb mo ms 1))) 3 p.2), (kz [0, 7, 3, 5] (dqO i W mb mo ms 1)).map (fun kept_ => some (wasK (rhoK (kz [0, 7, 3, 5] (dqO i W mb mo ms 1))) kept_)), 8,
    [ltq 0 (↑(Isl.nm i) : Int) = true]⟩ := by kernel_rfl
set_option maxRecDepth 100000 in
theorem dq_end1 (B : Lo) (i : Isl) (W : Value) (mb mo ms : Nat) (d : Nat → Value) : land (srun Tryz.prog goFns B 12 0 (headC 42 61 (dqL 1) d (dqT.map (it (bodyOf Tryz.prog 42)))) (heapO 0 (dqO i W mb mo ms 1)) ((dqO i W mb mo ms 1)).length
    [(4, Hint.val (Value.bool false))] 0 [] []) ((dqF 1).map (·.1)) ((kz [0, 1, 2, 3] (dqO i W mb mo ms 1)).map (·.old)) = some ⟨42, 61, dqU.map (it (bodyOf Tryz.prog 42)), [], .run, none, (dqF 1).map (fun p => rnV (rhoK (kz [0, 1, 2, 3] (dqO i W mb mo ms 1))) 3 p.2), (kz [0, 1, 2, 3] (dqO i W mb mo ms 1)).map (fun kept_ => some (wasK (rhoK (kz [0, 1, 2, 3] (dqO i W mb mo ms 1))) kept_)), 4,
    [ltq 1 (↑(Isl.nm i) : Int) = false]⟩ := by kernel_rfl
set_option maxRecDepth 100000 in
theorem dq_month1 (B : Lo) (i : Isl) (W : Value) (mb mo ms : Nat) (d : Nat → Value) : land (srun Tryz.prog goFns B 45 0 (headC 42 61 (dqL 1) d (dqT.map (it (bodyOf Tryz.prog 42)))) (heapO 0 (dqO i W mb mo ms 1)) ((dqO i W mb mo ms 1)).length
    [(4, Hint.val (Value.bool true))] 0 [] []) ((dqL 2).map (·.1)) ((kz [0, 19, 6, 9, 14, 17] (dqO i W mb mo ms 2)).map (·.old)) = some ⟨42, 61, dqT.map (it (bodyOf Tryz.prog 42)), [], .run, none, (dqL 2).map (fun p => rnV (rhoK (kz [0, 19, 6, 9, 14, 17] (dqO i W mb mo ms 2))) 3 p.2), (kz [0, 19, 6, 9, 14, 17] (dqO i W mb mo ms 2)).map (fun kept_ => some (wasK (rhoK (kz [0, 19, 6, 9, 14, 17] (dqO i W mb mo ms 2))) kept_)), 20,
    [ltq 1 (↑(Isl.nm i) : Int) = true]⟩ := by kernel_rfl
set_option maxRecDepth 100000 in
theorem dq_end2 (B : Lo) (i : Isl) (W : Value) (mb mo ms : Nat) (d : Nat → Value) : land (srun Tryz.prog goFns B 12 0 (headC 42 61 (dqL 2) d (dqT.map (it (bodyOf Tryz.prog 42)))) (heapO 0 (dqO i W mb mo ms 2)) ((dqO i W mb mo ms 2)).length
    [(4, Hint.val (Value.bool false))] 0 [] []) ((dqF 2).map (·.1)) ((kz [0, 1, 2, 3, 4, 5] (dqO i W mb mo ms 2)).map (·.old)) = some ⟨42, 61, dqU.map (it (bodyOf Tryz.prog 42)), [], .run, none, (dqF 2).map (fun p => rnV (rhoK (kz [0, 1, 2, 3, 4, 5] (dqO i W mb mo ms 2))) 3 p.2), (kz [0, 1, 2, 3, 4, 5] (dqO i W mb mo ms 2)).map (fun kept_ => some (wasK (rhoK (kz [0, 1, 2, 3, 4, 5] (dqO i W mb mo ms 2))) kept_)), 6,
    [ltq 2 (↑(Isl.nm i) : Int) = false]⟩ := by kernel_rfl
set_option maxRecDepth 100000 in
theorem dq_month2 (B : Lo) (i : Isl) (W : Value) (mb mo ms : Nat) (d : Nat → Value) : land (srun Tryz.prog goFns B 67 0 (headC 42 61 (dqL 2) d (dqT.map (it (bodyOf Tryz.prog 42)))) (heapO 0 (dqO i W mb mo ms 2)) ((dqO i W mb mo ms 2)).length
    [(4, Hint.val (Value.bool true))] 0 [] []) ((dqL 3).map (·.1)) ((kz [0, 37, 8, 11, 16, 19, 24, 27, 32, 35] (dqO i W mb mo ms 3)).map (·.old)) = some ⟨42, 61, dqT.map (it (bodyOf Tryz.prog 42)), [], .run, none, (dqL 3).map (fun p => rnV (rhoK (kz [0, 37, 8, 11, 16, 19, 24, 27, 32, 35] (dqO i W mb mo ms 3))) 3 p.2), (kz [0, 37, 8, 11, 16, 19, 24, 27, 32, 35] (dqO i W mb mo ms 3)).map (fun kept_ => some (wasK (rhoK (kz [0, 37, 8, 11, 16, 19, 24, 27, 32, 35] (dqO i W mb mo ms 3))) kept_)), 38,
    [ltq 2 (↑(Isl.nm i) : Int) = true]⟩ := by kernel_rfl
set_option maxRecDepth 100000 in
theorem dq_end3 (B : Lo) (i : Isl) (W : Value) (mb mo ms : Nat) (d : Nat → Value) : land (srun Tryz.prog goFns B 12 0 (headC 42 61 (dqL 3) d (dqT.map (it (bodyOf Tryz.prog 42)))) (heapO 0 (dqO i W mb mo ms 3)) ((dqO i W mb mo ms 3)).length
    [(4, Hint.val (Value.bool false))] 0 [] []) ((dqF 3).map (·.1)) ((kz [0, 1, 2, 3, 4, 5, 6, 7, 8, 9] (dqO i W mb mo ms 3)).map (·.old)) = some ⟨42, 61, dqU.map (it (bodyOf Tryz.prog 42)), [], .run, none, (dqF 3).map (fun p => rnV (rhoK (kz [0, 1, 2, 3, 4, 5, 6, 7, 8, 9] (dqO i W mb mo ms 3))) 3 p.2), (kz [0, 1, 2, 3, 4, 5, 6, 7, 8, 9] (dqO i W mb mo ms 3)).map (fun kept_ => some (wasK (rhoK (kz [0, 1, 2, 3, 4, 5, 6, 7, 8, 9] (dqO i W mb mo ms 3))) kept_)), 10,
    [ltq 3 (↑(Isl.nm i) : Int) = false]⟩ := by kernel_rfl
set_option maxRecDepth 100000 in
theorem dq_month3 (B : Lo) (i : Isl) (W : Value) (mb mo ms : Nat) (d : Nat → Value) : land (srun Tryz.prog goFns B 111 0 (headC 42 61 (dqL 3) d (dqT.map (it (bodyOf Tryz.prog 42)))) (heapO 0 (dqO i W mb mo ms 3)) ((dqO i W mb mo ms 3)).length
    [(4, Hint.val (Value.bool true))] 0 [] []) ((dqL 4).map (·.1)) ((kz [0, 73, 12, 15, 20, 23, 28, 31, 36, 39, 44, 47, 52, 55, 60, 63, 68, 71] (dqO i W mb mo ms 4)).map (·.old)) = some ⟨42, 61, dqT.map (it (bodyOf Tryz.prog 42)), [], .run, none, (dqL 4).map (fun p => rnV (rhoK (kz [0, 73, 12, 15, 20, 23, 28, 31, 36, 39, 44, 47, 52, 55, 60, 63, 68, 71] (dqO i W mb mo ms 4))) 3 p.2), (kz [0, 73, 12, 15, 20, 23, 28, 31, 36, 39, 44, 47, 52, 55, 60, 63, 68, 71] (dqO i W mb mo ms 4)).map (fun kept_ => some (wasK (rhoK (kz [0, 73, 12, 15, 20, 23, 28, 31, 36, 39, 44, 47, 52, 55, 60, 63, 68, 71] (dqO i W mb mo ms 4))) kept_)), 74,
    [ltq 3 (↑(Isl.nm i) : Int) = true]⟩ := by kernel_rfl
set_option maxRecDepth 100000 in
theorem dq_end4 (B : Lo) (i : Isl) (W : Value) (mb mo ms : Nat) (d : Nat → Value) : land (srun Tryz.prog goFns B 12 0 (headC 42 61 (dqL 4) d (dqT.map (it (bodyOf Tryz.prog 42)))) (heapO 0 (dqO i W mb mo ms 4)) ((dqO i W mb mo ms 4)).length
    [(4, Hint.val (Value.bool false))] 0 [] []) ((dqF 4).map (·.1)) ((kz [0, 1, 2, 3, 4, 5, 6, 7, 8, 9, 10, 11, 12, 13, 14, 15, 16, 17] (dqO i W mb mo ms 4)).map (·.old)) = some ⟨42, 61, dqU.map (it (bodyOf Tryz.prog 42)), [], .run, none, (dqF 4).map (fun p => rnV (rhoK (kz [0, 1, 2, 3, 4, 5, 6, 7, 8, 9, 10, 11, 12, 13, 14, 15, 16, 17] (dqO i W mb mo ms 4))) 3 p.2), (kz [0, 1, 2, 3, 4, 5, 6, 7, 8, 9, 10, 11, 12, 13, 14, 15, 16, 17] (dqO i W mb mo ms 4)).map (fun kept_ => some (wasK (rhoK (kz [0, 1, 2, 3, 4, 5, 6, 7, 8, 9, 10, 11, 12, 13, 14, 15, 16, 17] (dqO i W mb mo ms 4))) kept_)), 18,
    [ltq 4 (↑(Isl.nm i) : Int) = false]⟩ := by kernel_rfl
set_option maxRecDepth 100000 in
theorem dq_month4 (B : Lo) (i : Isl) (W : Value) (mb mo ms : Nat) (d : Nat → Value) : land (srun Tryz.prog goFns B 199 0 (headC 42 61 (dqL 4) d (dqT.map (it (bodyOf Tryz.prog 42)))) (heapO 0 (dqO i W mb mo ms 4)) ((dqO i W mb mo ms 4)).length
    [(4, Hint.val (Value.bool true))] 0 [] []) ((dqL 5).map (·.1)) ((kz [0, 145, 20, 23, 28, 31, 36, 39, 44, 47, 52, 55, 60, 63, 68, 71, 76, 79, 84, 87, 92, 95, 100, 103, 108, 111, 116, 119, 124, 127, 132, 135, 140, 143] (dqO i W mb mo ms 5)).map (·.old)) = some ⟨42, 61, dqT.map (it (bodyOf Tryz.prog 42)), [], .run, none, (dqL 5).map (fun p => rnV (rhoK (kz [0, 145, 20, 23, 28, 31, 36, 39, 44, 47, 52, 55, 60, 63, 68, 71, 76, 79, 84, 87, 92, 95, 100, 103, 108, 111, 116, 119, 124, 127, 132, 135, 140, 143] (dqO i W mb mo ms 5))) 3 p.2), (kz [0, 145, 20, 23, 28, 31, 36, 39, 44, 47, 52, 55, 60, 63, 68, 71, 76, 79, 84, 87, 92, 95, 100, 103, 108, 111, 116, 119, 124, 127, 132, 135, 140, 143] (dqO i W mb mo ms 5)).map (fun kept_ => some (wasK (rhoK (kz [0, 145, 20, 23, 28, 31, 36, 39, 44, 47, 52, 55, 60, 63, 68, 71, 76, 79, 84, 87, 92, 95, 100, 103, 108, 111, 116, 119, 124, 127, 132, 135, 140, 143] (dqO i W mb mo ms 5))) kept_)), 146,
    [ltq 4 (↑(Isl.nm i) : Int) = true]⟩ := by kernel_rfl
set_option maxRecDepth 100000 in
theorem dq_end5 (B : Lo) (i : Isl) (W : Value) (mb mo ms : Nat) (d : Nat → Value) : land (srun Tryz.prog goFns B 12 0 (headC 42 61 (dqL 5) d (dqT.map (it (bodyOf Tryz.prog 42)))) (heapO 0 (dqO i W mb mo ms 5)) ((dqO i W mb mo ms 5)).length
    [(4, Hint.val (Value.bool false))] 0 [] []) ((dqF 5).map (·.1)) ((kz [0, 1, 2, 3, 4, 5, 6, 7, 8, 9, 10, 11, 12, 13, 14, 15, 16, 17, 18, 19, 20, 21, 22, 23, 24, 25, 26, 27, 28, 29, 30, 31, 32, 33] (dqO i W mb mo ms 5)).map (·.old)) = some ⟨42, 61, dqU.map (it (bodyOf Tryz.prog 42)), [], .run, none, (dqF 5).map (fun p => rnV (rhoK (kz [0, 1, 2, 3, 4, 5, 6, 7, 8, 9, 10, 11, 12, 13, 14, 15, 16, 17, 18, 19, 20, 21, 22, 23, 24, 25, 26, 27, 28, 29, 30, 31, 32, 33] (dqO i W mb mo ms 5))) 3 p.2), (kz [0, 1, 2, 3, 4, 5, 6, 7, 8, 9, 10, 11, 12, 13, 14, 15, 16, 17, 18, 19, 20, 21, 22, 23, 24, 25, 26, 27, 28, 29, 30, 31, 32, 33] (dqO i W mb mo ms 5)).map (fun kept_ => some (wasK (rhoK (kz [0, 1, 2, 3, 4, 5, 6, 7, 8, 9, 10, 11, 12, 13, 14, 15, 16, 17, 18, 19, 20, 21, 22, 23, 24, 25, 26, 27, 28, 29, 30, 31, 32, 33] (dqO i W mb mo ms 5))) kept_)), 34,
    [ltq 5 (↑(Isl.nm i) : Int) = false]⟩ := by kernel_rfl
set_option maxRecDepth 100000 in
theorem dq_month5 (B : Lo) (i : Isl) (W : Value) (mb mo ms : Nat) (d : Nat → Value) : land (srun Tryz.prog goFns B 375 0 (headC 42 61 (dqL 5) d (dqT.map (it (bodyOf Tryz.prog 42)))) (heapO 0 (dqO i W mb mo ms 5)) ((dqO i W mb mo ms 5)).length
    [(4, Hint.val (Value.bool true))] 0 [] []) ((dqL 6).map (·.1)) ((kz [0, 289, 36, 39, 44, 47, 52, 55, 60, 63, 68, 71, 76, 79, 84, 87, 92, 95, 100, 103, 108, 111, 116, 119, 124, 127, 132, 135, 140, 143, 148, 151, 156, 159, 164, 167, 172, 175, 180, 183, 188, 191, 196, 199, 204, 207, 212, 215, 220, 223, 228, 231, 236, 239, 244, 247, 252, 255, 260, 263, 268, 271, 276, 279, 284, 287] (dqO i W mb mo ms 6)).map (·.old)) = some ⟨42, 61, dqT.map (it (bodyOf Tryz.prog 42)), [], .run, none, (dqL 6).map (fun p => rnV (rhoK (kz [0, 289, 36, 39, 44, 47, 52, 55, 60, 63, 68, 71, 76, 79, 84, 87, 92, 95, 100, 103, 108, 111, 116, 119, 124, 127, 132, 135, 140, 143, 148, 151, 156, 159, 164, 167, 172, 175, 180, 183, 188, 191, 196, 199, 204, 207, 212, 215, 220, 223, 228, 231, 236, 239, 244, 247, 252, 255, 260, 263, 268, 271, 276, 279, 284, 287] (dqO i W mb mo ms 6))) 3 p.2), (kz [0, 289, 36, 39, 44, 47, 52, 55, 60, 63, 68, 71, 76, 79, 84, 87, 92, 95, 100, 103, 108, 111, 116, 119, 124, 127, 132, 135, 140, 143, 148, 151, 156, 159, 164, 167, 172, 175, 180, 183, 188, 191, 196, 199, 204, 207, 212, 215, 220, 223, 228, 231, 236, 239, 244, 247, 252, 255, 260, 263, 268, 271, 276, 279, 284, 287] (dqO i W mb mo ms 6)).map (fun kept_ => some (wasK (rhoK (kz [0, 289, 36, 39, 44, 47, 52, 55, 60, 63, 68, 71, 76, 79, 84, 87, 92, 95, 100, 103, 108, 111, 116, 119, 124, 127, 132, 135, 140, 143, 148, 151, 156, 159, 164, 167, 172, 175, 180, 183, 188, 191, 196, 199, 204, 207, 212, 215, 220, 223, 228, 231, 236, 239, 244, 247, 252, 255, 260, 263, 268, 271, 276, 279, 284, 287] (dqO i W mb mo ms 6))) kept_)), 290,
    [ltq 5 (↑(Isl.nm i) : Int) = true]⟩ := by kernel_rfl
set_option maxRecDepth 100000 in
theorem dq_end6 (B : Lo) (i : Isl) (W : Value) (mb mo ms : Nat) (d : Nat → Value) : land (srun Tryz.prog goFns B 12 0 (headC 42 61 (dqL 6) d (dqT.map (it (bodyOf Tryz.prog 42)))) (heapO 0 (dqO i W mb mo ms 6)) ((dqO i W mb mo ms 6)).length
    [(4, Hint.val (Value.bool false))] 0 [] []) ((dqF 6).map (·.1)) ((kz [0, 1, 2, 3, 4, 5, 6, 7, 8, 9, 10, 11, 12, 13, 14, 15, 16, 17, 18, 19, 20, 21, 22, 23, 24, 25, 26, 27, 28, 29, 30, 31, 32, 33, 34, 35, 36, 37, 38, 39, 40, 41, 42, 43, 44, 45, 46, 47, 48, 49, 50, 51, 52, 53, 54, 55, 56, 57, 58, 59, 60, 61, 62, 63, 64, 65] (dqO i W mb mo ms 6)).map (·.old)) = some ⟨42, 61, dqU.map (it (bodyOf Tryz.prog 42)), [], .run, none, (dqF 6).map (fun p => rnV (rhoK (kz [0, 1, 2, 3, 4, 5, 6, 7, 8, 9, 10, 11, 12, 13, 14, 15, 16, 17, 18, 19, 20, 21, 22, 23, 24, 25, 26, 27, 28, 29, 30, 31, 32, 33, 34, 35, 36, 37, 38, 39, 40, 41, 42, 43, 44, 45, 46, 47, 48, 49, 50, 51, 52, 53, 54, 55, 56, 57, 58, 59, 60, 61, 62, 63, 64, 65] (dqO i W mb mo ms 6))) 3 p.2), (kz [0, 1, 2, 3, 4, 5, 6, 7, 8, 9, 10, 11, 12, 13, 14, 15, 16, 17, 18, 19, 20, 21, 22, 23, 24, 25, 26, 27, 28, 29, 30, 31, 32, 33, 34, 35, 36, 37, 38, 39, 40, 41, 42, 43, 44, 45, 46, 47, 48, 49, 50, 51, 52, 53, 54, 55, 56, 57, 58, 59, 60, 61, 62, 63, 64, 65] (dqO i W mb mo ms 6)).map (fun kept_ => some (wasK (rhoK (kz [0, 1, 2, 3, 4, 5, 6, 7, 8, 9, 10, 11, 12, 13, 14, 15, 16, 17, 18, 19, 20, 21, 22, 23, 24, 25, 26, 27, 28, 29, 30, 31, 32, 33, 34, 35, 36, 37, 38, 39, 40, 41, 42, 43, 44, 45, 46, 47, 48, 49, 50, 51, 52, 53, 54, 55, 56, 57, 58, 59, 60, 61, 62, 63, 64, 65] (dqO i W mb mo ms 6))) kept_)), 66,
    [ltq 6 (↑(Isl.nm i) : Int) = false]⟩ := by kernel_rfl
set_option maxRecDepth 100000 in
theorem dq_month6 (B : Lo) (i : Isl) (W : Value) (mb mo ms : Nat) (d : Nat → Value) : land (srun Tryz.prog goFns B 727 0 (headC 42 61 (dqL 6) d (dqT.map (it (bodyOf Tryz.prog 42)))) (heapO 0 (dqO i W mb mo ms 6)) ((dqO i W mb mo ms 6)).length
    [(4, Hint.val (Value.bool true))] 0 [] []) ((dqL 7).map (·.1)) ((kz [0, 577, 68, 71, 76, 79, 84, 87, 92, 95, 100, 103, 108, 111, 116, 119, 124, 127, 132, 135, 140, 143, 148, 151, 156, 159, 164, 167, 172, 175, 180, 183, 188, 191, 196, 199, 204, 207, 212, 215, 220, 223, 228, 231, 236, 239, 244, 247, 252, 255, 260, 263, 268, 271, 276, 279, 284, 287, 292, 295, 300, 303, 308, 311, 316, 319, 324, 327, 332, 335, 340, 343, 348, 351, 356, 359, 364, 367, 372, 375, 380, 383, 388, 391, 396, 399, 404, 407, 412, 415, 420, 423, 428, 431, 436, 439, 444, 447, 452, 455, 460, 463, 468, 471, 476, 479, 484, 487, 492, 495, 500, 503, 508, 511, 516, 519, 524, 527, 532, 535, 540, 543, 548, 551, 556, 559, 564, 567, 572, 575] (dqO i W mb mo ms 7)).map (·.old)) = some ⟨42, 61, dqT.map (it (bodyOf Tryz.prog 42)), [], .run, none, (dqL 7).map (fun p => rnV (rhoK (kz [0, 577, 68, 71, 76, 79, 84, 87, 92, 95, 100, 103, 108, 111, 116, 119, 124, 127, 132, 135, 140, 143, 148, 151, 156, 159, 164, 167, 172, 175, 180, 183, 188, 191, 196, 199, 204, 207, 212, 215, 220, 223, 228, 231, 236, 239, 244, 247, 252, 255, 260, 263, 268, 271, 276, 279, 284, 287, 292, 295, 300, 303, 308, 311, 316, 319, 324, 327, 332, 335, 340, 343, 348, 351, 356, 359, 364, 367, 372, 375, 380, 383, 388, 391, 396, 399, 404, 407, 412, 415, 420, 423, 428, 431, 436, 439, 444, 447, 452, 455, 460, 463, 468, 471, 476, 479, 484, 487, 492, 495, 500, 503, 508, 511, 516, 519, 524, 527, 532, 535, 540, 543, 548, 551, 556, 559, 564, 567, 572, 575] (dqO i W mb mo ms 7))) 3 p.2), (kz [0, 577, 68, 71, 76, 79, 84, 87, 92, 95, 100, 103, 108, 111, 116, 119, 124, 127, 132, 135, 140, 143, 148, 151, 156, 159, 164, 167, 172, 175, 180, 183, 188, 191, 196, 199, 204, 207, 212, 215, 220, 223, 228, 231, 236, 239, 244, 247, 252, 255, 260, 263, 268, 271, 276, 279, 284, 287, 292, 295, 300, 303, 308, 311, 316, 319, 324, 327, 332, 335, 340, 343, 348, 351, 356, 359, 364, 367, 372, 375, 380, 383, 388, 391, 396, 399, 404, 407, 412, 415, 420, 423, 428, 431, 436, 439, 444, 447, 452, 455, 460, 463, 468, 471, 476, 479, 484, 487, 492, 495, 500, 503, 508, 511, 516, 519, 524, 527, 532, 535, 540, 543, 548, 551, 556, 559, 564, 567, 572, 575] (dqO i W mb mo ms 7)).map (fun kept_ => some (wasK (rhoK (kz [0, 577, 68, 71, 76, 79, 84, 87, 92, 95, 100, 103, 108, 111, 116, 119, 124, 127, 132, 135, 140, 143, 148, 151, 156, 159, 164, 167, 172, 175, 180, 183, 188, 191, 196, 199, 204, 207, 212, 215, 220, 223, 228, 231, 236, 239, 244, 247, 252, 255, 260, 263, 268, 271, 276, 279, 284, 287, 292, 295, 300, 303, 308, 311, 316, 319, 324, 327, 332, 335, 340, 343, 348, 351, 356, 359, 364, 367, 372, 375, 380, 383, 388, 391, 396, 399, 404, 407, 412, 415, 420, 423, 428, 431, 436, 439, 444, 447, 452, 455, 460, 463, 468, 471, 476, 479, 484, 487, 492, 495, 500, 503, 508, 511, 516, 519, 524, 527, 532, 535, 540, 543, 548, 551, 556, 559, 564, 567, 572, 575] (dqO i W mb mo ms 7))) kept_)), 578,
    [ltq 6 (↑(Isl.nm i) : Int) = true]⟩ := by kernel_rfl
set_option maxRecDepth 100000 in
theorem dq_end7 (B : Lo) (i : Isl) (W : Value) (mb mo ms : Nat) (d : Nat → Value) : land (srun Tryz.prog goFns B 12 0 (headC 42 61 (dqL 7) d (dqT.map (it (bodyOf Tryz.prog 42)))) (heapO 0 (dqO i W mb mo ms 7)) ((dqO i W mb mo ms 7)).length
    [(4, Hint.val (Value.bool false))] 0 [] []) ((dqF 7).map (·.1)) ((kz [0, 1, 2, 3, 4, 5, 6, 7, 8, 9, 10, 11, 12, 13, 14, 15, 16, 17, 18, 19, 20, 21, 22, 23, 24, 25, 26, 27, 28, 29, 30, 31, 32, 33, 34, 35, 36, 37, 38, 39, 40, 41, 42, 43, 44, 45, 46, 47, 48, 49, 50, 51, 52, 53, 54, 55, 56, 57, 58, 59, 60, 61, 62, 63, 64, 65, 66, 67, 68, 69, 70, 71, 72, 73, 74, 75, 76, 77, 78, 79, 80, 81, 82, 83, 84, 85, 86, 87, 88, 89, 90, 91, 92, 93, 94, 95, 96, 97, 98, 99, 100, 101, 102, 103, 104, 105, 106, 107, 108, 109, 110, 111, 112, 113, 114, 115, 116, 117, 118, 119, 120, 121, 122, 123, 124, 125, 126, 127, 128, 129] (dqO i W mb mo ms 7)).map (·.old)) = some ⟨42, 61, dqU.map (it (bodyOf Tryz.prog 42)), [], .run, none, (dqF 7).map (fun p => rnV (rhoK (kz [0, 1, 2, 3, 4, 5, 6, 7, 8, 9, 10, 11, 12, 13, 14, 15, 16, 17, 18, 19, 20, 21, 22, 23, 24, 25, 26, 27, 28, 29, 30, 31, 32, 33, 34, 35, 36, 37, 38, 39, 40, 41, 42, 43, 44, 45, 46, 47, 48, 49, 50, 51, 52, 53, 54, 55, 56, 57, 58, 59, 60, 61, 62, 63, 64, 65, 66, 67, 68, 69, 70, 71, 72, 73, 74, 75, 76, 77, 78, 79, 80, 81, 82, 83, 84, 85, 86, 87, 88, 89, 90, 91, 92, 93, 94, 95, 96, 97, 98, 99, 100, 101, 102, 103, 104, 105, 106, 107, 108, 109, 110, 111, 112, 113, 114, 115, 116, 117, 118, 119, 120, 121, 122, 123, 124, 125, 126, 127, 128, 129] (dqO i W mb mo ms 7))) 3 p.2), (kz [0, 1, 2, 3, 4, 5, 6, 7, 8, 9, 10, 11, 12, 13, 14, 15, 16, 17, 18, 19, 20, 21, 22, 23, 24, 25, 26, 27, 28, 29, 30, 31, 32, 33, 34, 35, 36, 37, 38, 39, 40, 41, 42, 43, 44, 45, 46, 47, 48, 49, 50, 51, 52, 53, 54, 55, 56, 57, 58, 59, 60, 61, 62, 63, 64, 65, 66, 67, 68, 69, 70, 71, 72, 73, 74, 75, 76, 77, 78, 79, 80, 81, 82, 83, 84, 85, 86, 87, 88, 89, 90, 91, 92, 93, 94, 95, 96, 97, 98, 99, 100, 101, 102, 103, 104, 105, 106, 107, 108, 109, 110, 111, 112, 113, 114, 115, 116, 117, 118, 119, 120, 121, 122, 123, 124, 125, 126, 127, 128, 129] (dqO i W mb mo ms 7)).map (fun kept_ => some (wasK (rhoK (kz [0, 1, 2, 3, 4, 5, 6, 7, 8, 9, 10, 11, 12, 13, 14, 15, 16, 17, 18, 19, 20, 21, 22, 23, 24, 25, 26, 27, 28, 29, 30, 31, 32, 33, 34, 35, 36, 37, 38, 39, 40, 41, 42, 43, 44, 45, 46, 47, 48, 49, 50, 51, 52, 53, 54, 55, 56, 57, 58, 59, 60, 61, 62, 63, 64, 65, 66, 67, 68, 69, 70, 71, 72, 73, 74, 75, 76, 77, 78, 79, 80, 81, 82, 83, 84, 85, 86, 87, 88, 89, 90, 91, 92, 93, 94, 95, 96, 97, 98, 99, 100, 101, 102, 103, 104, 105, 106, 107, 108, 109, 110, 111, 112, 113, 114, 115, 116, 117, 118, 119, 120, 121, 122, 123, 124, 125, 126, 127, 128, 129] (dqO i W mb mo ms 7))) kept_)), 130,
    [ltq 7 (↑(Isl.nm i) : Int) = false]⟩ := by kernel_rfl
end Go.Proofs.YtffdidleebognaaGreatDoor

namespace Go.Proofs.YtffdidleebognaaGreatDoor
open Go Go.CE Go.Proofs Go.RowKit Lens
def flL (b0 b1 c K : Nat) (out : Value) (n : Nat) : List (Nat × Value) := [(1, .pointer (some ⟨b0, 0, some 0⟩)), (3, .slice (some ⟨b1, 0, some 0⟩) K c), (7, out), (8, .int .i64 n)]
set_option maxRecDepth 100000 in
theorem fl_first (B : Lo) (i : Isl) (W M : Value) (b0 b1 c K rb rc : Nat) (d : Nat → Value) : land (srun Tryz.prog goFns B 14 0 (headC 42 61 (flL b0 b1 c K (.slice none 0 0) 0) d (dqU.map (it (bodyOf Tryz.prog 42)))) (heapO 0 ([] : List (Bool × Obj))) (([] : List (Bool × Obj))).length
    [(3, Hint.val (Value.bool true)),
(4, Hint.raw
  (Value.agg
    #[Value.int IntKind.i64 (Isl.cap i), Value.int IntKind.i64 (Isl.sl i), Value.int IntKind.i64 (Isl.sh i),
      Value.int IntKind.i64 (Isl.roof i), Value.int IntKind.i64 (Isl.sand i), Value.int IntKind.i64 (Isl.kl i),
      Value.int IntKind.i64 (Isl.kh i), Value.int IntKind.i64 (Isl.ll i), Value.int IntKind.i64 (Isl.lh i),
      Value.int IntKind.i64 (Isl.pump i), Value.int IntKind.i64 (Isl.keep i), Value.int IntKind.i64 (Isl.size i), W, M,
      Value.int IntKind.i64 (Isl.most i), Value.int IntKind.i64 (Isl.row i)])),
(7, Hint.idx 0),
(8, Hint.raw (Value.slice (some { block := rb, off := 0, spot := some 0 }) (Isl.nm i) rc)),
(9, Hint.call [] (Value.bool true) [] 0 []),
(13, Hint.idx 0),
(14, Hint.raw (Value.slice (some { block := rb, off := 0, spot := some 0 }) (Isl.nm i) rc))] 0 [] []) ((flL b0 b1 c K (.slice (some ⟨0, 0, none⟩) 1 1) 1).map (·.1)) ((kz [1] [(false, Obj.cells #[.slice (some ⟨rb, 0, some 0⟩) i.nm rc] 38 (0, 0))]).map (·.old)) = some ⟨42, 61, dqU.map (it (bodyOf Tryz.prog 42)), [], .run, none, (flL b0 b1 c K (.slice (some ⟨0, 0, none⟩) 1 1) 1).map (fun p => rnV (rhoK (kz [1] [(false, Obj.cells #[.slice (some ⟨rb, 0, some 0⟩) i.nm rc] 38 (0, 0))])) 3 p.2), (kz [1] [(false, Obj.cells #[.slice (some ⟨rb, 0, some 0⟩) i.nm rc] 38 (0, 0))]).map (fun kept_ => some (wasK (rhoK (kz [1] [(false, Obj.cells #[.slice (some ⟨rb, 0, some 0⟩) i.nm rc] 38 (0, 0))])) kept_)), 2,
    [RawCell B b1 0 (Value.slice (some { block := rb, off := 0, spot := some 0 }) (Isl.nm i) rc),
0 = (↑0 : Int) ∧ 0 < K,
CJ Tryz.prog B 28
  #[Value.agg
      #[Value.int IntKind.i64 (Isl.cap i), Value.int IntKind.i64 (Isl.sl i), Value.int IntKind.i64 (Isl.sh i),
        Value.int IntKind.i64 (Isl.roof i), Value.int IntKind.i64 (Isl.sand i), Value.int IntKind.i64 (Isl.kl i),
        Value.int IntKind.i64 (Isl.kh i), Value.int IntKind.i64 (Isl.ll i), Value.int IntKind.i64 (Isl.lh i),
        Value.int IntKind.i64 (Isl.pump i), Value.int IntKind.i64 (Isl.keep i), Value.int IntKind.i64 (Isl.size i), W,
        M, Value.int IntKind.i64 (Isl.most i), Value.int IntKind.i64 (Isl.row i)],
    Value.slice (some { block := rb, off := 0, spot := some 0 }) (Isl.nm i) rc]
  [] 0 (Value.bool true) [] 0 [],
RawCell B b1 0 (Value.slice (some { block := rb, off := 0, spot := some 0 }) (Isl.nm i) rc),
0 = (↑0 : Int) ∧ 0 < K,
∀ (j : Nat) (u : Value),
  #[Value.int IntKind.i64 (Isl.cap i), Value.int IntKind.i64 (Isl.sl i), Value.int IntKind.i64 (Isl.sh i),
          Value.int IntKind.i64 (Isl.roof i), Value.int IntKind.i64 (Isl.sand i), Value.int IntKind.i64 (Isl.kl i),
          Value.int IntKind.i64 (Isl.kh i), Value.int IntKind.i64 (Isl.ll i), Value.int IntKind.i64 (Isl.lh i),
          Value.int IntKind.i64 (Isl.pump i), Value.int IntKind.i64 (Isl.keep i), Value.int IntKind.i64 (Isl.size i), W,
          M, Value.int IntKind.i64 (Isl.most i), Value.int IntKind.i64 (Isl.row i)][j]? =
      some u →
    RawCell B b0 (0 + j) u,
ltq 0 (↑K : Int) = true]⟩ := by kernel_rfl
set_option maxRecDepth 100000 in
theorem fl_no (B : Lo) (i : Isl) (W M : Value) (b0 b1 c K rb rc n m : Nat) (O : Array Value) (d : Nat → Value) : land (srun Tryz.prog goFns B 14 0 (headC 42 61 (flL b0 b1 c K (.slice (some ⟨0, 0, none⟩) m 1) n) d (dqU.map (it (bodyOf Tryz.prog 42)))) (heapO 0 [(false, Obj.cells O 38 (0, 0))]) ([(false, Obj.cells O 38 (0, 0))]).length
    [(3, Hint.val (Value.bool true)),
(4, Hint.raw
  (Value.agg
    #[Value.int IntKind.i64 (Isl.cap i), Value.int IntKind.i64 (Isl.sl i), Value.int IntKind.i64 (Isl.sh i),
      Value.int IntKind.i64 (Isl.roof i), Value.int IntKind.i64 (Isl.sand i), Value.int IntKind.i64 (Isl.kl i),
      Value.int IntKind.i64 (Isl.kh i), Value.int IntKind.i64 (Isl.ll i), Value.int IntKind.i64 (Isl.lh i),
      Value.int IntKind.i64 (Isl.pump i), Value.int IntKind.i64 (Isl.keep i), Value.int IntKind.i64 (Isl.size i), W, M,
      Value.int IntKind.i64 (Isl.most i), Value.int IntKind.i64 (Isl.row i)])),
(7, Hint.idx n),
(8, Hint.raw (Value.slice (some { block := rb, off := 0, spot := some 0 }) (Isl.nm i) rc)),
(9, Hint.call [] (Value.bool false) [] 1 []),
(11, Hint.val (Value.int IntKind.i64 ((↑n : Int) + 1)))] 0 [] []) ((flL b0 b1 c K (.slice (some ⟨0, 0, none⟩) m 1) (n + 1)).map (·.1)) ((kz [0] [(false, Obj.cells O 38 (0, 0))]).map (·.old)) = some ⟨42, 61, dqU.map (it (bodyOf Tryz.prog 42)), [], .run, none, (flL b0 b1 c K (.slice (some ⟨0, 0, none⟩) m 1) (n + 1)).map (fun p => rnV (rhoK (kz [0] [(false, Obj.cells O 38 (0, 0))])) 3 p.2), (kz [0] [(false, Obj.cells O 38 (0, 0))]).map (fun kept_ => some (wasK (rhoK (kz [0] [(false, Obj.cells O 38 (0, 0))])) kept_)), 1,
    [wq ((↑n : Int) + 1) = (↑n : Int) + 1,
CJ Tryz.prog B 28
  #[Value.agg
      #[Value.int IntKind.i64 (Isl.cap i), Value.int IntKind.i64 (Isl.sl i), Value.int IntKind.i64 (Isl.sh i),
        Value.int IntKind.i64 (Isl.roof i), Value.int IntKind.i64 (Isl.sand i), Value.int IntKind.i64 (Isl.kl i),
        Value.int IntKind.i64 (Isl.kh i), Value.int IntKind.i64 (Isl.ll i), Value.int IntKind.i64 (Isl.lh i),
        Value.int IntKind.i64 (Isl.pump i), Value.int IntKind.i64 (Isl.keep i), Value.int IntKind.i64 (Isl.size i), W,
        M, Value.int IntKind.i64 (Isl.most i), Value.int IntKind.i64 (Isl.row i)],
    Value.slice (some { block := rb, off := 0, spot := some 0 }) (Isl.nm i) rc]
  [] 1 (Value.bool false) [] 1 [],
RawCell B b1 (0 + n * 1) (Value.slice (some { block := rb, off := 0, spot := some 0 }) (Isl.nm i) rc),
(↑n : Int) = (↑n : Int) ∧ n < K,
∀ (j : Nat) (u : Value),
  #[Value.int IntKind.i64 (Isl.cap i), Value.int IntKind.i64 (Isl.sl i), Value.int IntKind.i64 (Isl.sh i),
          Value.int IntKind.i64 (Isl.roof i), Value.int IntKind.i64 (Isl.sand i), Value.int IntKind.i64 (Isl.kl i),
          Value.int IntKind.i64 (Isl.kh i), Value.int IntKind.i64 (Isl.ll i), Value.int IntKind.i64 (Isl.lh i),
          Value.int IntKind.i64 (Isl.pump i), Value.int IntKind.i64 (Isl.keep i), Value.int IntKind.i64 (Isl.size i), W,
          M, Value.int IntKind.i64 (Isl.most i), Value.int IntKind.i64 (Isl.row i)][j]? =
      some u →
    RawCell B b0 (0 + j) u,
ltq (↑n : Int) (↑K : Int) = true]⟩ := by kernel_rfl
set_option maxRecDepth 100000 in
theorem fl_yes (B : Lo) (i : Isl) (W M : Value) (b0 b1 c K rb rc n m : Nat) (O : Array Value) (d : Nat → Value) : land (srun Tryz.prog goFns B 14 0 (headC 42 61 (flL b0 b1 c K (.slice (some ⟨0, 0, none⟩) m 1) n) d (dqU.map (it (bodyOf Tryz.prog 42)))) (heapO 0 [(false, Obj.cells O 38 (0, 0))]) ([(false, Obj.cells O 38 (0, 0))]).length
    [(3, Hint.val (Value.bool true)),
(4, Hint.raw
  (Value.agg
    #[Value.int IntKind.i64 (Isl.cap i), Value.int IntKind.i64 (Isl.sl i), Value.int IntKind.i64 (Isl.sh i),
      Value.int IntKind.i64 (Isl.roof i), Value.int IntKind.i64 (Isl.sand i), Value.int IntKind.i64 (Isl.kl i),
      Value.int IntKind.i64 (Isl.kh i), Value.int IntKind.i64 (Isl.ll i), Value.int IntKind.i64 (Isl.lh i),
      Value.int IntKind.i64 (Isl.pump i), Value.int IntKind.i64 (Isl.keep i), Value.int IntKind.i64 (Isl.size i), W, M,
      Value.int IntKind.i64 (Isl.most i), Value.int IntKind.i64 (Isl.row i)])),
(7, Hint.idx n),
(8, Hint.raw (Value.slice (some { block := rb, off := 0, spot := some 0 }) (Isl.nm i) rc)),
(9, Hint.call [] (Value.bool true) [] 1 []),
(13, Hint.idx n),
(14, Hint.raw (Value.slice (some { block := rb, off := 0, spot := some 0 }) (Isl.nm i) rc)),
(16, Hint.app (O ++ #[Value.slice (some { block := rb, off := 0, spot := some 0 }) (Isl.nm i) rc])),
(19, Hint.val (Value.int IntKind.i64 ((↑n : Int) + 1)))] 0 [] []) ((flL b0 b1 c K (.slice (some ⟨0, 0, none⟩) (m + 1) 1) (n + 1)).map (·.1)) ((kz [2] [(false, Obj.cells (O ++ #[.slice (some ⟨rb, 0, some 0⟩) i.nm rc]) 38 (0, 0))]).map (·.old)) = some ⟨42, 61, dqU.map (it (bodyOf Tryz.prog 42)), [], .run, none, (flL b0 b1 c K (.slice (some ⟨0, 0, none⟩) (m + 1) 1) (n + 1)).map (fun p => rnV (rhoK (kz [2] [(false, Obj.cells (O ++ #[.slice (some ⟨rb, 0, some 0⟩) i.nm rc]) 38 (0, 0))])) 3 p.2), (kz [2] [(false, Obj.cells (O ++ #[.slice (some ⟨rb, 0, some 0⟩) i.nm rc]) 38 (0, 0))]).map (fun kept_ => some (wasK (rhoK (kz [2] [(false, Obj.cells (O ++ #[.slice (some ⟨rb, 0, some 0⟩) i.nm rc]) 38 (0, 0))])) kept_)), 3,
    [wq ((↑n : Int) + 1) = (↑n : Int) + 1,
Array.size O = m * (0 + 1) ∧
  m + 1 ≤ maxLen ∧
    (m + 1) * TypeInfo.bytes Tryz.t38 ≤ 140737488355328 ∧
      O ++
          Array.extract #[Value.slice (some { block := rb, off := 0, spot := some 0 }) (Isl.nm i) rc] 0
            (0 + 1 * (0 + 1)) =
        O ++ #[Value.slice (some { block := rb, off := 0, spot := some 0 }) (Isl.nm i) rc],
RawCell B b1 (0 + n * 1) (Value.slice (some { block := rb, off := 0, spot := some 0 }) (Isl.nm i) rc),
(↑n : Int) = (↑n : Int) ∧ n < K,
CJ Tryz.prog B 28
  #[Value.agg
      #[Value.int IntKind.i64 (Isl.cap i), Value.int IntKind.i64 (Isl.sl i), Value.int IntKind.i64 (Isl.sh i),
        Value.int IntKind.i64 (Isl.roof i), Value.int IntKind.i64 (Isl.sand i), Value.int IntKind.i64 (Isl.kl i),
        Value.int IntKind.i64 (Isl.kh i), Value.int IntKind.i64 (Isl.ll i), Value.int IntKind.i64 (Isl.lh i),
        Value.int IntKind.i64 (Isl.pump i), Value.int IntKind.i64 (Isl.keep i), Value.int IntKind.i64 (Isl.size i), W,
        M, Value.int IntKind.i64 (Isl.most i), Value.int IntKind.i64 (Isl.row i)],
    Value.slice (some { block := rb, off := 0, spot := some 0 }) (Isl.nm i) rc]
  [] 1 (Value.bool true) [] 1 [],
RawCell B b1 (0 + n * 1) (Value.slice (some { block := rb, off := 0, spot := some 0 }) (Isl.nm i) rc),
(↑n : Int) = (↑n : Int) ∧ n < K,
∀ (j : Nat) (u : Value),
  #[Value.int IntKind.i64 (Isl.cap i), Value.int IntKind.i64 (Isl.sl i), Value.int IntKind.i64 (Isl.sh i),
          Value.int IntKind.i64 (Isl.roof i), Value.int IntKind.i64 (Isl.sand i), Value.int IntKind.i64 (Isl.kl i),
          Value.int IntKind.i64 (Isl.kh i), Value.int IntKind.i64 (Isl.ll i), Value.int IntKind.i64 (Isl.lh i),
          Value.int IntKind.i64 (Isl.pump i), Value.int IntKind.i64 (Isl.keep i), Value.int IntKind.i64 (Isl.size i), W,
          M, Value.int IntKind.i64 (Isl.most i), Value.int IntKind.i64 (Isl.row i)][j]? =
      some u →
    RawCell B b0 (0 + j) u,
ltq (↑n : Int) (↑K : Int) = true]⟩ := by kernel_rfl
set_option maxRecDepth 100000 in
theorem fl_end (B : Lo) (b0 b1 c K n m : Nat) (O : Array Value) (d : Nat → Value) : ended (srun Tryz.prog goFns B 9 0 (headC 42 61 (flL b0 b1 c K (.slice (some ⟨0, 0, none⟩) m 1) n) d (dqU.map (it (bodyOf Tryz.prog 42)))) (heapO 0 [(false, Obj.cells O 38 (0, 0))]) ([(false, Obj.cells O 38 (0, 0))]).length
    [(3, Hint.val (Value.bool false))] 0 [] []) [0] = some ⟨.ret (.slice (some ⟨0, 0, none⟩) m 1), [some (.cells O 38 (0, 0))], 1,
    [ltq (↑n : Int) (↑K : Int) = false]⟩ := by kernel_rfl
theorem okAll_of {m : Nat} : ∀ {l : List (Bool × Obj)}, (∀ b ∈ l, (b.1 = true ∧ okO m b.2 = true) ∨ (b.1 = false ∧ looseO b.2)) → OkAll m l
  | [], _ => trivial
  | b :: l, h => ⟨h b (by simp), okAll_of fun c hc => h c (by simp [hc])⟩
theorem dqB_loose (k b : Nat) : ∀ v ∈ dqB k b, Loose v := fun v hv => by
  simp only [dqB, List.mem_toArray, List.mem_map] at hv
  obtain ⟨j, _, rfl⟩ := hv
  exact loose_bool _
theorem dqB_get {k b j : Nat} (hj : j < k) : (dqB k b)[j]? = some (.bool (bitsDry k b j)) := by
  simp [dqB, bitsDry, hj]
theorem dqR_get {k b : Nat} (hk : 1 ≤ k) (hb : b < 2 ^ k) : (dqR k)[b]? = some (false, .cells (dqB k b) 4 (0, 0)) := by
  obtain ⟨m, rfl⟩ : ∃ m, k = m + 1 := ⟨k - 1, by omega⟩
  show ((List.range (2 ^ (m + 1))).map _)[b]? = _
  simp [hb]
theorem dqA_get {k b : Nat} (hk : 1 ≤ k) (hb : b < 2 ^ k) : (dqA k)[b]? = some (.slice (some ⟨2 + b, 0, none⟩) k 1) := by
  obtain ⟨m, rfl⟩ : ∃ m, k = m + 1 := ⟨k - 1, by omega⟩
  show (((List.range (2 ^ (m + 1))).map fun b => Value.slice (some ⟨2 + b, 0, none⟩) (m + 1) 1).toArray)[b]? = _
  simp [hb]
theorem dqR_mem {k : Nat} : ∀ b ∈ dqR k, b.1 = false ∧ looseO b.2 := fun b hb => by
  unfold dqR at hb
  cases hk : Nat.beq k 0 with
  | true => rw [hk] at hb; simp at hb
  | false =>
    rw [hk] at hb
    simp only [cond_false, List.mem_map] at hb
    obtain ⟨x, _, rfl⟩ := hb
    exact ⟨rfl, dqB_loose _ _⟩
section
variable {i : Isl} {wa : Option Addr} {wc mb mo mc : Nat} {ma : Option Addr} {w : World}
theorem dq_ok {k m : Nat} (h : okO m (.cells (dqA k) 38 (0, 0)) = true) : OkAll m (dqO i (rawS wa i.nw wc) mb mo mc k) :=
  ⟨.inr ⟨rfl, loose_isl i wa wc (some ⟨mb, mo, none⟩) mc⟩, .inl ⟨rfl, h⟩, okAll_of fun b hb => .inr (dqR_mem b hb)⟩
noncomputable abbrev dqC (i : Isl) (wa : Option Addr) (wc mb mo mc : Nat) : CF := entryC Tryz.prog 42 61 [islR i wa wc (some ⟨mb, mo, none⟩) mc]
def DqAt (i : Isl) (wa : Option Addr) (wc mb mo mc : Nat) (w : World) (k : Nat) : Prop := ∃ d : Nat → Value, (∀ t, Loose (d t)) ∧ GoE Tryz.prog (worldLo w) (dqC i wa wc mb mo mc) [] 0
  (headC 42 61 (dqL k) d (dqT.map (it (bodyOf Tryz.prog 42)))) (heapO 0 (dqO i (rawS wa i.nw wc) mb mo mc k)) (dqO i (rawS wa i.nw wc) mb mo mc k).length []
set_option maxRecDepth 100000 in
theorem dq_step {k : Nat} (hk : k < 7) (hlt : k < i.nm) (h : DqAt i wa wc mb mo mc w k) : DqAt i wa wc mb mo mc w (k + 1) := by
  obtain ⟨d, _, hg⟩ := h
  match k, hk with
  | 0, _ => exact hg.headO goFns_ok mixed_ok (dq_month0 (worldLo w) i (rawS wa i.nw wc) mb mo mc d) ⟨ltq_t (by omega), trivial⟩ (by kernel_rfl) (by kernel_rfl) (by kernel_rfl) (by kernel_rfl) (by kernel_rfl) (by kernel_rfl) (dq_ok (by kernel_rfl))
  | 1, _ => exact hg.headO goFns_ok mixed_ok (dq_month1 (worldLo w) i (rawS wa i.nw wc) mb mo mc d) ⟨ltq_t (by omega), trivial⟩ (by kernel_rfl) (by kernel_rfl) (by kernel_rfl) (by kernel_rfl) (by kernel_rfl) (by kernel_rfl) (dq_ok (by kernel_rfl))
  | 2, _ => exact hg.headO goFns_ok mixed_ok (dq_month2 (worldLo w) i (rawS wa i.nw wc) mb mo mc d) ⟨ltq_t (by omega), trivial⟩ (by kernel_rfl) (by kernel_rfl) (by kernel_rfl) (by kernel_rfl) (by kernel_rfl) (by kernel_rfl) (dq_ok (by kernel_rfl))
  | 3, _ => exact hg.headO goFns_ok mixed_ok (dq_month3 (worldLo w) i (rawS wa i.nw wc) mb mo mc d) ⟨ltq_t (by omega), trivial⟩ (by kernel_rfl) (by kernel_rfl) (by kernel_rfl) (by kernel_rfl) (by kernel_rfl) (by kernel_rfl) (dq_ok (by kernel_rfl))
  | 4, _ => exact hg.headO goFns_ok mixed_ok (dq_month4 (worldLo w) i (rawS wa i.nw wc) mb mo mc d) ⟨ltq_t (by omega), trivial⟩ (by kernel_rfl) (by kernel_rfl) (by kernel_rfl) (by kernel_rfl) (by kernel_rfl) (by kernel_rfl) (dq_ok (by kernel_rfl))
  | 5, _ => exact hg.headO goFns_ok mixed_ok (dq_month5 (worldLo w) i (rawS wa i.nw wc) mb mo mc d) ⟨ltq_t (by omega), trivial⟩ (by kernel_rfl) (by kernel_rfl) (by kernel_rfl) (by kernel_rfl) (by kernel_rfl) (by kernel_rfl) (dq_ok (by kernel_rfl))
  | 6, _ => exact hg.headO goFns_ok mixed_ok (dq_month6 (worldLo w) i (rawS wa i.nw wc) mb mo mc d) ⟨ltq_t (by omega), trivial⟩ (by kernel_rfl) (by kernel_rfl) (by kernel_rfl) (by kernel_rfl) (by kernel_rfl) (by kernel_rfl) (dq_ok (by kernel_rfl))
theorem dq_all : ∀ k, k ≤ 7 → k ≤ i.nm → DqAt i wa wc mb mo mc w k := by
  intro k
  induction k with
  | zero =>
    intro _ _
    exact (GoE.refl under_nil).headO goFns_ok mixed_ok (dq_entry (worldLo w) i (rawS wa i.nw wc) mb mo mc) trivial (by kernel_rfl) (by kernel_rfl) (by kernel_rfl) (by kernel_rfl) (by kernel_rfl) (by kernel_rfl) (dq_ok (by kernel_rfl))
  | succ k ih => intro h7 hn; exact dq_step (by omega) (by omega) (ih (by omega) (by omega))
set_option maxRecDepth 100000 in
theorem dq_fin {k : Nat} (h1 : 1 ≤ k) (h7 : k ≤ 7) (hn : i.nm = k) : ∃ d : Nat → Value, (∀ t, Loose (d t)) ∧ GoE Tryz.prog (worldLo w) (dqC i wa wc mb mo mc) [] 0
    (headC 42 61 (dqF k) d (dqU.map (it (bodyOf Tryz.prog 42)))) (heapO 0 (dqO i (rawS wa i.nw wc) mb mo mc k)) (dqO i (rawS wa i.nw wc) mb mo mc k).length [] := by
  obtain ⟨d, _, hg⟩ := dq_all (i := i) (wa := wa) (wc := wc) (mb := mb) (mo := mo) (mc := mc) (w := w) k h7 (by omega)
  match k, h1, h7 with
  | 1, _, _ => exact hg.headO goFns_ok mixed_ok (dq_end1 (worldLo w) i (rawS wa i.nw wc) mb mo mc d) ⟨ltq_f (by omega), trivial⟩ (by kernel_rfl) (by kernel_rfl) (by kernel_rfl) (by kernel_rfl) (by kernel_rfl) (by kernel_rfl) (dq_ok (by kernel_rfl))
  | 2, _, _ => exact hg.headO goFns_ok mixed_ok (dq_end2 (worldLo w) i (rawS wa i.nw wc) mb mo mc d) ⟨ltq_f (by omega), trivial⟩ (by kernel_rfl) (by kernel_rfl) (by kernel_rfl) (by kernel_rfl) (by kernel_rfl) (by kernel_rfl) (dq_ok (by kernel_rfl))
  | 3, _, _ => exact hg.headO goFns_ok mixed_ok (dq_end3 (worldLo w) i (rawS wa i.nw wc) mb mo mc d) ⟨ltq_f (by omega), trivial⟩ (by kernel_rfl) (by kernel_rfl) (by kernel_rfl) (by kernel_rfl) (by kernel_rfl) (by kernel_rfl) (dq_ok (by kernel_rfl))
  | 4, _, _ => exact hg.headO goFns_ok mixed_ok (dq_end4 (worldLo w) i (rawS wa i.nw wc) mb mo mc d) ⟨ltq_f (by omega), trivial⟩ (by kernel_rfl) (by kernel_rfl) (by kernel_rfl) (by kernel_rfl) (by kernel_rfl) (by kernel_rfl) (dq_ok (by kernel_rfl))
  | 5, _, _ => exact hg.headO goFns_ok mixed_ok (dq_end5 (worldLo w) i (rawS wa i.nw wc) mb mo mc d) ⟨ltq_f (by omega), trivial⟩ (by kernel_rfl) (by kernel_rfl) (by kernel_rfl) (by kernel_rfl) (by kernel_rfl) (by kernel_rfl) (dq_ok (by kernel_rfl))
  | 6, _, _ => exact hg.headO goFns_ok mixed_ok (dq_end6 (worldLo w) i (rawS wa i.nw wc) mb mo mc d) ⟨ltq_f (by omega), trivial⟩ (by kernel_rfl) (by kernel_rfl) (by kernel_rfl) (by kernel_rfl) (by kernel_rfl) (by kernel_rfl) (dq_ok (by kernel_rfl))
  | 7, _, _ => exact hg.headO goFns_ok mixed_ok (dq_end7 (worldLo w) i (rawS wa i.nw wc) mb mo mc d) ⟨ltq_f (by omega), trivial⟩ (by kernel_rfl) (by kernel_rfl) (by kernel_rfl) (by kernel_rfl) (by kernel_rfl) (by kernel_rfl) (dq_ok (by kernel_rfl))
theorem dqO_get {k b : Nat} (hk : 1 ≤ k) (hb : b < 2 ^ k) {W : Value} : hget (heapO 0 (dqO i W mb mo mc k)) (2 + b) = some (.cells (dqB k b) 4 (0, 0)) := by
  rw [heapO_get, if_pos (Nat.zero_le _), Nat.sub_zero, show 2 + b = b + 1 + 1 by omega]
  simp only [dqO, List.getElem?_cons_succ, dqR_get hk hb, Option.map_some]
theorem dqO_len {k : Nat} (hk : 1 ≤ k) {W : Value} : (dqO i W mb mo mc k).length = 2 ^ k + 2 := by
  obtain ⟨m, rfl⟩ : ∃ m, k = m + 1 := ⟨k - 1, by omega⟩
  show ((List.range (2 ^ (m + 1))).map _).length + 1 + 1 = _
  simp
/-- Lists of bools, each of its own, at a list. -/
structure Nest (w : World) (g n k : Nat) (rb rc : Nat → Nat) (f : Nat → Nat → Bool) : Prop where
  lt : g < w.heap.size
  at' : ∀ b, b < n → w.cell? ⟨g, b, none⟩ = some (.slice (some ⟨rb b, 0, none⟩) k (rc b))
  row : ∀ b, b < n → rb b < w.heap.size ∧ ∀ j, j < k → w.cell? ⟨rb b, j, none⟩ = some (.bool (f b j))
  cap : ∀ b, b < n → k ≤ rc b ∧ rc b ≤ maxLen
theorem Nest.lo {w w' : World} {g n k : Nat} {rb rc : Nat → Nat} {f : Nat → Nat → Bool} (h : Nest w g n k rb rc f) (hw : (worldLo w).has w') : Nest w' g n k rb rc f :=
  ⟨Nat.lt_of_lt_of_le h.lt hw.le, fun b hb => (worldLo_cell hw h.lt).trans (h.at' b hb), fun b hb => ⟨Nat.lt_of_lt_of_le (h.row b hb).1 hw.le, fun j hj => (worldLo_cell hw (h.row b hb).1).trans ((h.row b hb).2 j hj)⟩, h.cap⟩
theorem isl_raw {w1 : World} {b0 : Nat} {i : Isl} {wa ma : Option Addr} {wc mc : Nat} (hlt : b0 < w1.heap.size) (h : ∀ (j : Nat) v, (islC i (rawS wa i.nw wc) (rawS ma i.nm mc))[j]? = some v → ∃ μ v', w1.cell? ⟨b0, j, none⟩ = some v' ∧ VR μ v v') :
    ∀ (j : Nat) u, (islC i (rawS wa i.nw wc) (rawS ma i.nm mc))[j]? = some u → RawCell (worldLo w1) b0 (0 + j) u := fun j u hu => by
  obtain ⟨μ, v', h1, h2⟩ := h j u hu
  rw [Nat.zero_add]
  exact raw_of hlt h1 fun μ' => loose_isl i wa wc ma mc u (Array.mem_of_getElem? hu) _ _ _ h2
set_option maxRecDepth 100000 in
theorem droughts_nest (_hi : IslAt w w.heap.size i wa (some ⟨mb, mo, none⟩)) (h1 : 1 ≤ i.nm) (h7 : i.nm ≤ 7) (cs : List Frame) :
    ∃ w1 b0 b1 c d rb rc, (∀ t, Loose (d t)) ∧ At Tryz.prog (Frame.enter Tryz.prog 42 #[islV i wa wc (some ⟨mb, mo, none⟩) mc] .normal) cs w (worldLo w1)
        (headC 42 61 (flL b0 b1 c (2 ^ i.nm) (.slice none 0 0) 0) d (dqU.map (it (bodyOf Tryz.prog 42)))) [] 0 w1 ∧
      (∀ (j : Nat) u, (islC i (rawS wa i.nw wc) (rawS (some ⟨mb, mo, none⟩) i.nm mc))[j]? = some u → RawCell (worldLo w1) b0 (0 + j) u) ∧ Nest w1 b1 (2 ^ i.nm) i.nm rb rc (bitsDry i.nm) ∧ ∀ b, b < 2 ^ i.nm → w.heap.size ≤ rb b := by
  obtain ⟨d, hd, hg⟩ := dq_fin (i := i) (wa := wa) (wc := wc) (mb := mb) (mo := mo) (mc := mc) (w := w) h1 h7 rfl
  have hst : At Tryz.prog (Frame.enter Tryz.prog 42 #[islV i wa wc (some ⟨mb, mo, none⟩) mc] .normal) cs w (worldLo w) (dqC i wa wc mb mo mc) [] 0 w :=
    At.start (args := #[islR i wa wc (some ⟨mb, mo, none⟩) mc]) (by kernel_rfl) (VRl.vrs' (.cons (vr_isl i wa wc (some ⟨mb, mo, none⟩) mc) .nil))
  obtain ⟨w1, hat⟩ := hst.go hg
  obtain ⟨μ, A, hok, hh, hmk⟩ := hat.rebase (by decide) hd (by kernel_rfl) (by kernel_rfl) (by kernel_rfl)
  have hn := dqO_len (i := i) (mb := mb) (mo := mo) (mc := mc) h1 (W := rawS wa i.nw wc)
  have hp : 0 < 2 ^ i.nm := Nat.two_pow_pos _
  obtain ⟨im0, him0, hor0⟩ := hok.rel 0 (.cells (islC i (rawS wa i.nw wc) (.slice (some ⟨mb, mo, some 0⟩) i.nm mc)) 27 (0, 0)) (by show 0 < (dqO i (rawS wa i.nw wc) mb mo mc i.nm).length; omega) rfl trivial
  obtain ⟨im1, him1, hor1⟩ := hok.rel 1 (.cells (dqA i.nm) 38 (0, 0)) (by show 1 < (dqO i (rawS wa i.nw wc) mb mo mc i.nm).length; omega) rfl trivial
  have hl0 := (hok.low 0 _ im0 (by show 0 < (dqO i (rawS wa i.nw wc) mb mo mc i.nm).length; omega) (show hget (heapO 0 (dqO i (rawS wa i.nw wc) mb mo mc i.nm)) 0 = some (.cells (islC i (rawS wa i.nw wc) (.slice (some ⟨mb, mo, some 0⟩) i.nm mc)) 27 (0, 0)) from rfl) trivial him0).1
  have hl1 := (hok.low 1 _ im1 (by show 1 < (dqO i (rawS wa i.nw wc) mb mo mc i.nm).length; omega) (show hget (heapO 0 (dqO i (rawS wa i.nw wc) mb mo mc i.nm)) 1 = some (.cells (dqA i.nm) 38 (0, 0)) from rfl) trivial him1).1
  have off0 : ∀ {im : Img} {cs : Array Value} {t : TypeId}, OR μ w1 im (.cells cs t (0, 0)) → im.off = 0 := fun h => by
    rcases h with ⟨_, _, h, _⟩ | ⟨h, _⟩
    · exact h
    · exact absurd rfl h
  have rw0 : ∀ {im : Img} {cs : Array Value} {t : TypeId}, OR μ w1 im (.cells cs t (0, 0)) → im.rw = true := fun h => by
    rcases h with ⟨_, h, _⟩ | ⟨h, _⟩
    · exact h
    · exact absurd rfl h
  have o0 := off0 hor0
  have o1 := off0 hor1
  have hP := hh (1, .pointer (some ⟨0, 0, none⟩)) (by simp [dqF])
  have hS := hh (3, .slice (some ⟨1, 0, none⟩) (2 ^ i.nm) 1) (by simp [dqF])
  have h7' := hh (7, .slice none 0 0) (by simp [dqF])
  have h8' := hh (8, .int .i64 0) (by simp [dqF])
  have eP : A.getD 1 undef = .pointer (some ⟨im0.blk, 0, none⟩) := by
    generalize A.getD 1 undef = v at hP
    cases hP with
    | ptr har =>
      obtain ⟨im, q1, _, rfl⟩ := har
      rw [him0] at q1; cases q1
      simp [o0]
  obtain ⟨c, eS, _, _⟩ := hS.slice_new him1
  rw [o1] at eS
  have rows : ∀ b, ∃ rb rc, b < 2 ^ i.nm → w1.cell? ⟨im1.blk, b, none⟩ = some (.slice (some ⟨rb, 0, none⟩) i.nm rc) ∧ ((i.nm ≤ rc ∧ rc ≤ maxLen) ∧ w.heap.size ≤ rb) ∧ rb < w1.heap.size ∧ ∀ j, j < i.nm → w1.cell? ⟨rb, j, none⟩ = some (.bool (bitsDry i.nm b j)) := by
    intro b
    by_cases hb : b < 2 ^ i.nm
    · obtain ⟨imb, himb, horb⟩ := hok.rel (2 + b) _ (by show 2 + b < (dqO i (rawS wa i.nw wc) mb mo mc i.nm).length; omega) (dqO_get h1 hb) trivial
      have hlb := (hok.low (2 + b) _ imb (by show 2 + b < (dqO i (rawS wa i.nw wc) mb mo mc i.nm).length; omega) (dqO_get h1 hb) trivial himb).1
      have hge : w.heap.size ≤ imb.blk := (hok.low (2 + b) _ imb (by show 2 + b < (dqO i (rawS wa i.nw wc) mb mo mc i.nm).length; omega) (dqO_get h1 hb) trivial himb).2.1 (rw0 horb)
      obtain ⟨v', hc, hv⟩ := hor1.cell (dqA_get h1 hb)
      obtain ⟨rc, rfl, hc1, hc2⟩ := hv.slice_new himb
      rw [o1, Nat.zero_add, off0 horb] at hc
      refine ⟨imb.blk, rc, fun _ => ⟨hc, ⟨⟨hc1, hc2⟩, hge⟩, hlb, fun j hj => ?_⟩⟩
      obtain ⟨v', hc, hv⟩ := horb.cell (dqB_get (b := b) hj)
      rw [off0 horb, Nat.zero_add] at hc
      rw [hc, af_eq (v := .bool (bitsDry i.nm b j)) rfl hv]
    · exact ⟨0, 0, fun h => absurd h hb⟩
  refine ⟨w1, im0.blk, im1.blk, c, d, fun b => Classical.choose (rows b), fun b => Classical.choose (Classical.choose_spec (rows b)), hd, hmk (flL im0.blk im1.blk c (2 ^ i.nm) (.slice none 0 0) 0) rfl ?_, isl_raw hl0 fun j v hv => ?_, ⟨hl1, fun b hb => ?_, fun b hb => ?_, fun b hb => ?_⟩, fun b hb => ?_⟩
  · intro p hp
    simp only [flL, List.mem_cons, List.not_mem_nil, or_false] at hp
    rcases hp with rfl | rfl | rfl | rfl
    · rw [eP]; exact .rawPtr _ _ 0
    · rw [eS]; exact .rawSlice _ _ 0 _ _
    · rw [af_eq (v := .slice none 0 0) rfl h7']; exact .nilSlice 0 0
    · rw [af_eq (v := .int .i64 0) rfl h8']; exact .int _ _
  · obtain ⟨v', hc, hv'⟩ := hor0.cell hv
    rw [o0, Nat.zero_add] at hc
    exact ⟨μ, v', hc, hv'⟩
  · exact (Classical.choose_spec (Classical.choose_spec (rows b)) hb).1
  · exact (Classical.choose_spec (Classical.choose_spec (rows b)) hb).2.2
  · exact (Classical.choose_spec (Classical.choose_spec (rows b)) hb).2.1.1
  · exact (Classical.choose_spec (Classical.choose_spec (rows b)) hb).2.1.2
/-- The droughts among the lists whose number is below n. -/
def pas (i : Isl) (n : Nat) : List Nat := (List.range n).filter fun b => drB i.most i.row i.nm (bitsDry i.nm b)
theorem pas_succ {i : Isl} {n : Nat} : pas i (n + 1) = if drB i.most i.row i.nm (bitsDry i.nm n) = true then pas i n ++ [n] else pas i n := by
  simp only [pas, List.range_succ, List.filter_append, List.filter_cons, List.filter_nil]
  split <;> simp
theorem pas_mem {i : Isl} {n b : Nat} : b ∈ pas i n ↔ b < n ∧ drB i.most i.row i.nm (bitsDry i.nm b) = true := by simp [pas]
theorem dry_none {i : Isl} (_h2 : 0 ≤ i.most) (_h3 : 0 ≤ i.row) : drB i.most i.row i.nm (bitsDry i.nm 0) = true := by
  have hz : ∀ j, bitsDry i.nm 0 j = false := fun j => by simp [bitsDry]
  have ha : ∀ k, drAll (bitsDry i.nm 0) k = 0 := fun k => by
    induction k with
    | zero => rfl
    | succ k ih => simp [drAll, hz, ih]
  have hr : ∀ k, drRow (bitsDry i.nm 0) k = 0 := fun k => by
    induction k with
    | zero => rfl
    | succ k ih => simp [drRow, hz]
  simp only [drB, allTo_iff]
  intro k _
  simp [drOk, hz, ha, hr]
end
theorem isl_nm' {i : Isl} (h1 : islB i = true) : 1 ≤ i.nm ∧ i.nm ≤ 8 ∧ 0 ≤ i.most ∧ 0 ≤ i.row := by
  simp only [islB, monthsB, Bool.and_eq_true, isInB_iff] at h1
  omega
section
variable {i : Isl} {wa : Option Addr} {wc mb mo mc : Nat} {ma : Option Addr} {w w1 : World} {n : Nat}
/-- The reference's Drought at a list that stands in memory that nobody writes. -/
theorem con_rDroughtR {rb rc : Nat} {d : Nat → Bool} (_hi : IslAt w1 w1.heap.size i wa ma) (h1 : 0 ≤ i.most) (h2 : 0 ≤ i.row) (hm : i.nm ≤ maxLen) (hlt : rb < w1.heap.size) (hrow : ∀ j, j < i.nm → w1.cell? ⟨rb, j, none⟩ = some (.bool (d j))) :
    CJ Tryz.prog (worldLo w1) 28 #[islR i wa wc ma mc, .slice (some ⟨rb, 0, some 0⟩) i.nm rc] [] n (.bool (drB i.most i.row i.nm d)) [] n [] :=
  con_of (l := [islR i wa wc ma mc, .slice (some ⟨rb, 0, some 0⟩) i.nm rc]) (l' := [islV i wa wc ma mc, .slice (some ⟨rb, 0, none⟩) i.nm rc]) (.cons (exact_isl _ _ _ _ _) (.cons (exact_rawS (some ⟨rb, 0, none⟩) i.nm rc) .nil)) (exact_af rfl) fun w' hw => by
    have hb : BoolsAt w' w'.heap.size (some ⟨rb, 0, none⟩) i.nm d := fun _ => ⟨rb, 0, rfl, Nat.lt_of_lt_of_le hlt hw.le, fun k hk j hj => by
      obtain rfl : j = 0 := by omega
      rw [show 0 + k * 1 + 0 = k by omega, worldLo_cell hw hlt]
      exact hrow k hk⟩
    have := rDrought_any i wa wc ma mc (some ⟨rb, 0, none⟩) i.nm rc d w' hm hb h1 h2
    simpa using this
/-- A list of lists, as it is told: of those that stand at raw places. -/
def outA (nm : Nat) (rb rc : Nat → Nat) (l : List Nat) : Array Value := (l.map fun b => .slice (some ⟨rb b, 0, some 0⟩) nm (rc b)).toArray
theorem outA_snoc {nm : Nat} {rb rc : Nat → Nat} {l : List Nat} {b : Nat} : outA nm rb rc (l ++ [b]) = outA nm rb rc l ++ #[.slice (some ⟨rb b, 0, some 0⟩) nm (rc b)] := by simp [outA]
theorem outA_loose {nm : Nat} {rb rc : Nat → Nat} {l : List Nat} : ∀ v ∈ outA nm rb rc l, Loose v := fun v hv => by
  simp only [outA, List.mem_toArray, List.mem_map] at hv
  obtain ⟨b, _, rfl⟩ := hv
  exact loose_rawS (some ⟨rb b, 0, none⟩) nm (rc b)
theorem outA_size {nm : Nat} {rb rc : Nat → Nat} {l : List Nat} : (outA nm rb rc l).size = l.length := by simp [outA]
set_option maxRecDepth 100000 in
/-- The reference's Droughts. -/
theorem rDroughts_any (hi : IslAt w w.heap.size i wa ma) (hI : islB i = true) (h7 : i.nm ≤ 7) :
    Calls Tryz.prog 42 #[islV i wa wc ma mc] w fun e w' => (∃ v, e = .returned v ∧ ∃ g c rb rc, v = .slice (some ⟨g, 0, none⟩) (pas i (2 ^ i.nm)).length c ∧ (pas i (2 ^ i.nm)).length ≤ c ∧ c ≤ maxLen ∧ w.heap.size ≤ g ∧ (∀ n, n < (pas i (2 ^ i.nm)).length → w.heap.size ≤ rb n) ∧
      Nest w' g (pas i (2 ^ i.nm)).length i.nm rb rc fun n => bitsDry i.nm ((pas i (2 ^ i.nm)).getD n 0)) ∧ Below w.heap.size w w' := by
  obtain ⟨hnm1, hnm8, hmost, hrow⟩ := isl_nm' hI
  have hml : i.nm ≤ maxLen := by unfold maxLen; omega
  obtain ⟨mb, mo, rfl, _⟩ := monsGet hi.months (show 0 < i.nm by omega)
  have hp : 2 ^ i.nm ≤ 128 := Nat.pow_le_pow_right (by decide) h7
  have hp0 : 0 < 2 ^ i.nm := Nat.two_pow_pos _
  intro cs
  obtain ⟨w1, b0, b1, c, d0, rb, rc, hd0, hat, hIsl, hN, hge⟩ := droughts_nest (wc := wc) (mc := mc) hi hnm1 h7 cs
  have hhas : (worldLo w).has w1 := ⟨hat.below.size, fun b hb => hat.below.block b hb⟩
  have hi1 := islAt_lo hi hhas
  have cell : ∀ b, b < 2 ^ i.nm → RawCell (worldLo w1) b1 (0 + b * 1) (.slice (some ⟨rb b, 0, some 0⟩) i.nm (rc b)) := fun b hb => by
    rw [show 0 + b * 1 = b by omega]
    exact raw_of hN.lt (hN.at' b hb) fun _ => .rawSlice _ _ 0 _ _
  have drt : ∀ b n, b < 2 ^ i.nm → CJ Tryz.prog (worldLo w1) 28 #[islR i wa wc (some ⟨mb, mo, none⟩) mc, .slice (some ⟨rb b, 0, some 0⟩) i.nm (rc b)] [] n (.bool (drB i.most i.row i.nm (bitsDry i.nm b))) [] n [] := fun b n hb =>
    con_rDroughtR hi1 hmost hrow hml (hN.row b hb).1 (hN.row b hb).2
  have hby : Go.Proofs.Tryz.t38.bytes = 24 := by kernel_rfl
  have hlen : ∀ n, (pas i n).length ≤ n := fun n => Nat.le_trans (List.length_filter_le _ _) (by simp)
  let c0 := headC 42 61 (flL b0 b1 c (2 ^ i.nm) (.slice none 0 0) 0) d0 (dqU.map (it (bodyOf Tryz.prog 42)))
  have all : ∀ n, n < 2 ^ i.nm → ∃ d : Nat → Value, (∀ t, Loose (d t)) ∧ GoE Tryz.prog (worldLo w1) c0 [] 0
      (headC 42 61 (flL b0 b1 c (2 ^ i.nm) (.slice (some ⟨0, 0, none⟩) (pas i (n + 1)).length 1) (n + 1)) d (dqU.map (it (bodyOf Tryz.prog 42)))) (heapO 0 [(false, .cells (outA i.nm rb rc (pas i (n + 1))) 38 (0, 0))]) 1 [] := by
    intro n
    induction n with
    | zero =>
      intro _
      have hz := dry_none hmost hrow
      have e1 : pas i 1 = [0] := by rw [pas_succ, if_pos hz]; rfl
      have hdr := drt 0 0 hp0
      rw [hz] at hdr
      rw [e1]
      have hc0 := cell 0 hp0
      exact (GoE.refl under_nil).headO goFns_ok mixed_ok (fl_first (worldLo w1) i (rawS wa i.nw wc) (rawS (some ⟨mb, mo, none⟩) i.nm mc) b0 b1 c (2 ^ i.nm) (rb 0) (rc 0) d0)
        ⟨hc0, ⟨rfl, hp0⟩, hdr, hc0, ⟨rfl, hp0⟩, hIsl, ltq_t (by omega), trivial⟩
        (by kernel_rfl) (by kernel_rfl) (by kernel_rfl) (by kernel_rfl) (by kernel_rfl) (by kernel_rfl) ⟨.inr ⟨rfl, outA_loose (l := [0])⟩, trivial⟩
    | succ n ih =>
      intro hn
      obtain ⟨d, _, hg⟩ := ih (by omega)
      have hdr := drt (n + 1) 1 hn
      have hc := cell (n + 1) hn
      have hle := hlen (n + 1)
      cases hz : drB i.most i.row i.nm (bitsDry i.nm (n + 1)) with
      | false =>
        rw [hz] at hdr
        have e1 : pas i (n + 1 + 1) = pas i (n + 1) := by rw [pas_succ, hz]; rfl
        rw [e1]
        exact hg.headO goFns_ok mixed_ok (fl_no (worldLo w1) i (rawS wa i.nw wc) (rawS (some ⟨mb, mo, none⟩) i.nm mc) b0 b1 c (2 ^ i.nm) (rb (n + 1)) (rc (n + 1)) (n + 1) (pas i (n + 1)).length (outA i.nm rb rc (pas i (n + 1))) d)
          ⟨wq_in (by omega) (by omega), hdr, hc, ⟨rfl, hn⟩, hIsl, ltq_t (by omega), trivial⟩
          (by kernel_rfl) (by kernel_rfl) (by kernel_rfl) (by kernel_rfl) (by kernel_rfl) (by kernel_rfl) ⟨.inr ⟨rfl, outA_loose⟩, trivial⟩
      | true =>
        rw [hz] at hdr
        have e1 : pas i (n + 1 + 1) = pas i (n + 1) ++ [n + 1] := by rw [pas_succ, hz]; rfl
        rw [e1, outA_snoc, List.length_append, List.length_singleton]
        exact hg.headO goFns_ok mixed_ok (fl_yes (worldLo w1) i (rawS wa i.nw wc) (rawS (some ⟨mb, mo, none⟩) i.nm mc) b0 b1 c (2 ^ i.nm) (rb (n + 1)) (rc (n + 1)) (n + 1) (pas i (n + 1)).length (outA i.nm rb rc (pas i (n + 1))) d)
          ⟨wq_in (by omega) (by omega), ⟨by rw [outA_size]; omega, by unfold maxLen; omega, by rw [hby]; omega, rfl⟩, hc, ⟨rfl, hn⟩, hdr, hc, ⟨rfl, hn⟩, hIsl, ltq_t (by omega), trivial⟩
          (by kernel_rfl) (by kernel_rfl) (by kernel_rfl) (by kernel_rfl) (by kernel_rfl) (by kernel_rfl) ⟨.inr ⟨rfl, by rw [← outA_snoc]; exact outA_loose⟩, trivial⟩
  obtain ⟨m, hm⟩ : ∃ m, 2 ^ i.nm = m + 1 := ⟨2 ^ i.nm - 1, by omega⟩
  obtain ⟨d, _, hg⟩ := all m (by omega)
  rw [← hm] at hg
  obtain ⟨w2, hat2⟩ := hat.go hg
  refine hat2.ends goFns_ok mixed_ok (under_heapO _ (by simp)) (fl_end (worldLo w1) b0 b1 c (2 ^ i.nm) (2 ^ i.nm) (pas i (2 ^ i.nm)).length (outA i.nm rb rc (pas i (2 ^ i.nm))) d) ⟨ltq_f (Int.le_refl _), trivial⟩ fun v' μ' w' hv hb hB hnew => ⟨⟨v', rfl, ?_⟩, hb⟩
  obtain ⟨g, cap, arr, k1, k2, k3, k4, k5, k6⟩ := hnew 0 0 (outA i.nm rb rc (pas i (2 ^ i.nm))) 38 rfl rfl
  obtain ⟨c', rfl, hc1, hc2⟩ := hv.slice_new k2
  have hN' := hN.lo hB
  have hg' : g < w'.heap.size := (Array.getElem?_eq_some_iff.1 k3).1
  have hin : ∀ n, n < (pas i (2 ^ i.nm)).length → (pas i (2 ^ i.nm)).getD n 0 ∈ pas i (2 ^ i.nm) := fun n hn => by
    rw [List.getD_eq_getElem?_getD, List.getElem?_eq_getElem hn]
    exact List.getElem_mem hn
  refine ⟨g, c', fun n => rb ((pas i (2 ^ i.nm)).getD n 0), fun n => rc ((pas i (2 ^ i.nm)).getD n 0), rfl, hc1, hc2, k1, fun n hn => hge _ (pas_mem.1 (hin n hn)).1, hg', fun n hn => ?_, fun n hn => ?_, fun n hn => hN'.cap _ (pas_mem.1 (hin n hn)).1⟩
  · have e : (outA i.nm rb rc (pas i (2 ^ i.nm)))[n]? = some (.slice (some ⟨rb ((pas i (2 ^ i.nm)).getD n 0), 0, some 0⟩) i.nm (rc ((pas i (2 ^ i.nm)).getD n 0))) := by
      simp [outA, hn]
    obtain ⟨v', h1, h2⟩ := k6 n _ e
    have h3 := (exact_rawS (some ⟨rb ((pas i (2 ^ i.nm)).getD n 0), 0, none⟩) i.nm (rc ((pas i (2 ^ i.nm)).getD n 0))).2 _ _ h2
    rw [h3] at h1
    simp [World.cell?, k3, h1]
  · exact hN'.row _ (pas_mem.1 (hin n hn)).1
end
end Go.Proofs.YtffdidleebognaaGreatDoor

namespace Go.Proofs.YtffdidleebognaaGreatDoor
open Go Go.CE Go.Proofs Go.RowKit Lens
theorem slots_args {a len : Nat} {l : List Value} (hl : l.length ≤ 16000) (h : ∀ v ∈ l, Loose v ∨ okV a 3 v = true) : SlotsOk a (ofList len l) := fun t => by
  have hg := ofL_get l 0 .lf t (by omega)
  have e : tget (ofList len l) t = (ofL l 0 .lf).get t := rfl
  rw [e, hg]
  simp only [Nat.zero_le, true_and, Nat.zero_add, Nat.sub_zero, Tri.get_lf]
  split
  · rename_i ht
    have : l.getD t undef ∈ l := by
      rw [List.getD_eq_getElem?_getD, List.getElem?_eq_getElem ht]
      exact List.getElem_mem ht
    exact h _ this
  · exact .inl fun _ _ _ hv => by
      have := af_eq (v := undef) (by simp [Go.undef, af]) hv
      rw [this]; exact VR.undef
section
variable {i : Isl} {wa : Option Addr} {wc mb mo mc : Nat} {ma : Option Addr} {tanks : Int} {w : World} {dk : Nat → Value} {k : Nat}
theorem dr_rj (hi : IslAt w w.heap.size i wa (some ⟨mb, mo, none⟩)) (h1 : 1 ≤ i.nm) (hdk : ∀ t, Loose (dk t)) (hf : ∀ much d, Fit i tanks (endTru i much i.nm d)) (kn : Nat → Kn) :
    RJ Tryz.prog (worldLo w) (entryC Tryz.prog 76 43 [.func (.yield 6) #[] #[], .pointer (some ⟨4, 0, none⟩)]) ((List.range 7).map fun q => (q, hget (heapO 0 (drO i (rawS wa i.nw wc) mb mo mc tanks (rowA (knE kn) i.nm) k dk)) q)) 7 (.tuple #[])
      [(2, .cells (rowA (knE (upTo i tanks kn (2 ^ i.nm))) i.nm) 56 (0, 0)), (6, .loop (knRec i (rawS wa i.nw wc) mb mo mc k dk))] 7 [2, 6] :=
  StdX.rj (os := drO i (rawS wa i.nw wc) mb mo mc tanks (rowA (knE kn) i.nm) k dk) (os' := drO i (rawS wa i.nw wc) mb mo mc tanks (rowA (knE (upTo i tanks kn (2 ^ i.nm))) i.nm) k dk)
    (dr_std hi h1 hdk hf kn) (slots_args (by decide) fun v hv => by
      simp only [List.mem_cons, List.not_mem_nil, or_false] at hv
      rcases hv with rfl | rfl
      · exact .inr (by kernel_rfl)
      · exact .inr (by kernel_rfl)) (by kernel_rfl) rfl rfl (fun l e => by cases e) (dr_fix (Nat.le_refl 7) hdk (loose_knE _ _)) (dr_fix (Nat.le_refl 7) hdk (loose_knE _ _)) (by kernel_rfl) (by kernel_rfl) (by kernel_rfl) (by kernel_rfl) (by kernel_rfl) (by kernel_rfl)
theorem con_droughts {n : Nat} : CJ Tryz.prog (worldLo w) 57 #[islR i wa wc (some ⟨mb, mo, none⟩) mc] [] n (.func (.func 76) #[] #[.pointer (some ⟨n, 0, none⟩)]) [(n, .cells (islC i (rawS wa i.nw wc) (rawS (some ⟨mb, mo, none⟩) i.nm mc)) 27 (0, 0))] (n + 1) [] := by
  have hl : looseO (.cells (islC i (rawS wa i.nw wc) (rawS (some ⟨mb, mo, none⟩) i.nm mc)) 27 (0, 0)) := loose_isl i wa wc (some ⟨mb, mo, none⟩) mc
  have h : StdJ Tryz.prog (worldLo w) 57 #[islR i wa wc (some ⟨mb, mo, none⟩) mc] (heapO 0 []) 0 (.func (.func 76) #[] #[.pointer (some ⟨0, 0, none⟩)])
      (heapO 0 [(false, .cells (islC i (rawS wa i.nw wc) (rawS (some ⟨mb, mo, none⟩) i.nm mc)) 27 (0, 0))]) 1 [] :=
    (GoE.refl (P := Tryz.prog) (B := worldLo w) (c0 := entryC Tryz.prog 57 4 [islR i wa wc (some ⟨mb, mo, none⟩) mc]) (under_heapO [] (Nat.le_refl 0))).std goFns_ok mixed_ok (by kernel_rfl) (writable_nil _ _)
      (os := [(false, .cells (islC i (rawS wa i.nw wc) (rawS (some ⟨mb, mo, none⟩) i.nm mc)) 27 (0, 0))]) (dro_run (worldLo w) i (rawS wa i.nw wc) (rawS (some ⟨mb, mo, none⟩) i.nm mc)) trivial
      (by kernel_rfl) (by kernel_rfl) (by kernel_rfl) (by kernel_rfl) (by kernel_rfl) (by kernel_rfl) (by kernel_rfl) (by kernel_rfl) ⟨.inr ⟨rfl, .inl hl⟩, trivial⟩ (fun j hj _ => by omega)
  have hloose : ∀ b ∈ ([] : List (Bool × Obj)) ++ [(false, Obj.cells (islC i (rawS wa i.nw wc) (rawS (some ⟨mb, mo, none⟩) i.nm mc)) 27 (0, 0))], looseO b.2 := by
    intro b hb
    simp only [List.nil_append, List.mem_cons, List.not_mem_nil, or_false] at hb
    rw [hb]; exact hl
  rcases wa with _ | ⟨b, o, _ | z⟩
  all_goals exact (StdJ.rows (kept := []) (l := []) (n := n) h rfl (fun k hk => by simp at hk) rfl hloose (by kernel_rfl) (by kernel_rfl)).cast (by kernel_rfl) (by kernel_rfl) (by kernel_rfl) (by kernel_rfl) (by kernel_rfl)
end
end Go.Proofs.YtffdidleebognaaGreatDoor

namespace Go.Proofs.YtffdidleebognaaGreatDoor
open Go Go.CE Go.Proofs Go.RowKit Lens
def enT : List It := [.code [1, 1, 1, 0, 1, 0, 0], .inLoop [1, 1, 1, 0, 1, 0, 0], .inBlock 0, .code [1, 1, 1, 1]]
theorem con_rRain {w : World} (m : Mon) (y : Bool) (n : Nat) : CJ Tryz.prog (worldLo w) 46 #[.agg (monC m), .bool y] [] n (.agg #[.int .i64 (rlo m y), .int .i64 (rhi m y)]) [] n [] :=
  con_of (l := [.agg (monC m), .bool y]) (l' := [.agg (monC m), .bool y]) (v' := .agg #[.int .i64 (rlo m y), .int .i64 (rhi m y)]) (.cons (exact_agg (.cons (exact_af rfl) (.cons (exact_af rfl) (.cons (exact_af rfl) (.cons (exact_af rfl) (.cons (exact_af rfl) (.cons (exact_af rfl) .nil))))))) (.cons (exact_af rfl) .nil)) (exact_agg (.cons (exact_af rfl) (.cons (exact_af rfl) .nil))) fun w' _ => rRain_any m y w'

end Go.Proofs.YtffdidleebognaaGreatDoor

