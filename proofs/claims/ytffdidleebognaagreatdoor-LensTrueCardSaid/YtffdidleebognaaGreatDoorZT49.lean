/- Contracts of layer 1, as Known's runs use them: isDrought, follow, withEnd, droughts. -/
import Derived.Test.YtffdidleebognaaGreatDoorZT43
import Derived.Test.YtffdidleebognaaGreatDoorZT44
import Derived.Test.YtffdidleebognaaGreatDoorZT47
import Derived.Test.YtffdidleebognaaGreatDoorZT15
import Derived.Test.YtffdidleebognaaGreatDoorZT25
import Derived.Test.YtffdidleebognaaGreatDoorZT48
import Derived.IntWalk
import Derived.Test.YtffdidleebognaaGreatDoorZT22
import Derived.Test.YtffdidleebognaaGreatDoorZT42
namespace Go.Proofs.YtffdidleebognaaGreatDoor
open Go Go.CE Go.Proofs Go.RowKit Lens
set_option maxRecDepth 100000 in
theorem dro_run (B : Lo) (i : Isl) (W M : Value) : endedB (srun Tryz.prog goFns B 6 0 (entryC Tryz.prog 57 4 [.agg (islC i W M)]) (heapO 0 []) 0
    [] 0 [] []) ((kz [0] [(false, .cells (islC i W M) 27 (0, 0))]).map (·.old)) = some (⟨.ret (rnV (rhoK (kz [0] [(false, .cells (islC i W M) 27 (0, 0))])) 3 (.func (.func 76) #[] #[.pointer (some ⟨0, 0, none⟩)])), (kz [0] [(false, .cells (islC i W M) 27 (0, 0))]).map (fun kept_ => some (wasK (rhoK (kz [0] [(false, .cells (islC i W M) 27 (0, 0))])) kept_)), 1,
    []⟩, []) := by kernel_rfl
section
variable {i : Isl} {wa : Option Addr} {wc : Nat} {ma : Option Addr} {mc : Nat} {tanks : Int} {w : World} {n : Nat} {d : Nat → Bool} {nd : Nat}
theorem con_none : CJ Tryz.prog (worldLo w) 56 #[] [] n (.agg #[.int .i64 9223372036854775807, .int .i64 (-9223372036854775808)]) [] n [] :=
  con_of (l := []) (l' := []) (v' := .agg #[.int .i64 9223372036854775807, .int .i64 (-9223372036854775808)]) .nil (exact_agg (.cons (exact_af rfl) (.cons (exact_af rfl) .nil))) fun w' _ => none_any w'
theorem con_withEnd (k : Kn) (s : Seen) : CJ Tryz.prog (worldLo w) 60 #[.agg #[.int .i64 k.tl, .int .i64 k.th, .int .i64 k.ll, .int .i64 k.lh, .int .i64 k.kl, .int .i64 k.kh], .agg #[.int .i64 s.tanks, .int .i64 s.lens, .int .i64 s.lack]] [] n
    (.agg #[.int .i64 (min k.tl s.tanks), .int .i64 (max k.th s.tanks), .int .i64 (min k.ll s.lens), .int .i64 (max k.lh s.lens), .int .i64 (min k.kl s.lack), .int .i64 (max k.kh s.lack)]) [] n [] :=
  con_of (l := [.agg #[.int .i64 k.tl, .int .i64 k.th, .int .i64 k.ll, .int .i64 k.lh, .int .i64 k.kl, .int .i64 k.kh], .agg #[.int .i64 s.tanks, .int .i64 s.lens, .int .i64 s.lack]])
    (l' := [.agg #[.int .i64 k.tl, .int .i64 k.th, .int .i64 k.ll, .int .i64 k.lh, .int .i64 k.kl, .int .i64 k.kh], .agg #[.int .i64 s.tanks, .int .i64 s.lens, .int .i64 s.lack]])
    (v' := .agg #[.int .i64 (min k.tl s.tanks), .int .i64 (max k.th s.tanks), .int .i64 (min k.ll s.lens), .int .i64 (max k.lh s.lens), .int .i64 (min k.kl s.lack), .int .i64 (max k.kh s.lack)])
    (.cons (exact_agg (.cons (exact_af rfl) (.cons (exact_af rfl) (.cons (exact_af rfl) (.cons (exact_af rfl) (.cons (exact_af rfl) (.cons (exact_af rfl) .nil))))))) (.cons (exact_agg (.cons (exact_af rfl) (.cons (exact_af rfl) (.cons (exact_af rfl) .nil)))) .nil))
    (exact_agg (.cons (exact_af rfl) (.cons (exact_af rfl) (.cons (exact_af rfl) (.cons (exact_af rfl) (.cons (exact_af rfl) (.cons (exact_af rfl) .nil))))))) fun w' _ => withEnd_any k s w'
theorem boolE_get (k j : Nat) (hj : j < 1) : (boolE d k)[j]? = some (encBool (d k) j) ∧ af (encBool (d k) j) = true := by
  obtain rfl : j = 0 := by omega
  exact ⟨rfl, rfl⟩
theorem intE_get {f : Nat → Int} (k j : Nat) (hj : j < 1) : (intE f k)[j]? = some (encInt (f k) j) ∧ af (encInt (f k) j) = true := by
  obtain rfl : j = 0 := by omega
  exact ⟨rfl, rfl⟩
theorem vrl_args {μ : Mu} {l : List Value} {args' : Array Value} (hv : VRs μ l.toArray args') : VRl μ l args'.toList := vrl_mk _ _ (by simpa using hv.1) fun i v v' x y => hv.2 i v v' (by simpa using x) (by simpa using y)
theorem con_isDrought {k : Nat} (hk : k < n) (hm : nd ≤ maxLen) :
    CJ Tryz.prog (worldLo w) 62 #[islR i wa wc ma mc, .slice (some ⟨k, 0, none⟩) nd 1] [(k, some (.cells (rowA (boolE d) nd) 4 (0, 0)))] n (.bool (drB i.most i.row nd d)) [] n [] := by
  refine cj_read rfl (fun p hp => ?_) fun μ w' args' hB hv hH => ?_
  · simp only [List.mem_cons, List.not_mem_nil, or_false] at hp
    rcases hp with rfl
    exact hk
  · obtain ⟨im, h1, h2, h3⟩ := hH (k, some (.cells (rowA (boolE d) nd) 4 (0, 0))) (by simp) _ _ _ rfl
    have hl := vrl_args (l := [islR i wa wc ma mc, .slice (some ⟨k, 0, none⟩) nd 1]) hv
    generalize hg : args'.toList = l at hl
    cases hl with
    | cons q1 hl => cases hl with
      | cons q2 hl =>
        cases hl
        obtain ⟨c, rfl, _, _⟩ := q2.slice_new h1
        have e1 := (exact_isl i wa wc ma mc).2 _ _ q1
        have e : args' = #[islV i wa wc ma mc, .slice (some ⟨im.blk, im.off, none⟩) nd c] := by rw [← Array.toList_inj, hg, e1]
        rw [e]
        exact isDrought_any i wa wc ma mc _ nd c d w' hm (atN_of_or h3 h2 (fun _ => rfl) boolE_get)
theorem con_follow {t : Tru} {k r s : Nat} (hk : k < n) (hr : r < n) (hs : s < n) (m1 : t.nd ≤ maxLen) (m2 : t.nr ≤ maxLen) (m3 : t.nn ≤ maxLen) (hf : Fit i tanks t) (h1 : 1 ≤ i.nm) (hnm : i.nm ≤ maxLen) :
    CJ Tryz.prog (worldLo w) 45 #[islR i wa wc ma mc, .int .i64 tanks, .agg #[.int .i64 t.start, .int .i64 t.soak, .int .i64 t.leak, .slice (some ⟨k, 0, none⟩) t.nd 1, .slice (some ⟨r, 0, none⟩) t.nr 1, .slice (some ⟨s, 0, none⟩) t.nn 1]]
      [(k, some (.cells (rowA (boolE t.dry) t.nd) 4 (0, 0))), (r, some (.cells (rowA (intE t.rains) t.nr) 3 (0, 0))), (s, some (.cells (rowA (intE t.needs) t.nn) 3 (0, 0)))] n
      (.tuple #[.slice (some ⟨n, 0, none⟩) i.nm 0, .agg #[.int .i64 (i.size * tanks + t.start), .int .i64 (runTo i tanks t i.nm).rain, .int .i64 (runTo i tanks t i.nm).used, .int .i64 (runTo i tanks t i.nm).leak, .int .i64 (runTo i tanks t i.nm).sea, .int .i64 ((runTo i tanks t i.nm).tanks + (runTo i tanks t i.nm).lens)]])
      [(n, .cells (rowA (seenE i tanks t) i.nm) 53 (1, 1))] (n + 1) [] := by
  refine cj_readrow seenE_af (fun p hp => ?_) fun μ w' args' hB hv hH => ?_
  · simp only [List.mem_cons, List.not_mem_nil, or_false] at hp
    rcases hp with rfl | rfl | rfl <;> assumption
  · obtain ⟨imk, k1, k2, k3⟩ := hH (k, some (.cells (rowA (boolE t.dry) t.nd) 4 (0, 0))) (by simp) _ _ _ rfl
    obtain ⟨imr, r1, r2, r3⟩ := hH (r, some (.cells (rowA (intE t.rains) t.nr) 3 (0, 0))) (by simp) _ _ _ rfl
    obtain ⟨ims, s1, s2, s3⟩ := hH (s, some (.cells (rowA (intE t.needs) t.nn) 3 (0, 0))) (by simp) _ _ _ rfl
    have hl := vrl_args (l := [islR i wa wc ma mc, .int .i64 tanks, .agg #[.int .i64 t.start, .int .i64 t.soak, .int .i64 t.leak, .slice (some ⟨k, 0, none⟩) t.nd 1, .slice (some ⟨r, 0, none⟩) t.nr 1, .slice (some ⟨s, 0, none⟩) t.nn 1]]) hv
    generalize hg : args'.toList = l at hl
    cases hl with
    | cons q1 hl => cases hl with
      | cons q2 hl => cases hl with
        | cons q3 hl =>
          cases hl
          have e1 := (exact_isl i wa wc ma mc).2 _ _ q1
          have e2 := (exact_af (v := .int .i64 tanks) rfl).2 _ _ q2
          obtain ⟨ys, rfl, hy⟩ := q3.agg_inv
          cases hy with
          | cons y1 hy => cases hy with
            | cons y2 hy => cases hy with
              | cons y3 hy => cases hy with
                | cons y4 hy => cases hy with
                  | cons y5 hy => cases hy with
                    | cons y6 hy =>
                      cases hy
                      have f1 := (exact_af (v := .int .i64 t.start) rfl).2 _ _ y1
                      have f2 := (exact_af (v := .int .i64 t.soak) rfl).2 _ _ y2
                      have f3 := (exact_af (v := .int .i64 t.leak) rfl).2 _ _ y3
                      obtain ⟨ck, rfl, _, _⟩ := y4.slice_new k1
                      obtain ⟨cr, rfl, _, _⟩ := y5.slice_new r1
                      obtain ⟨cs, rfl, _, _⟩ := y6.slice_new s1
                      subst e1 e2 f1 f2 f3
                      have e : args' = #[islV i wa wc ma mc, .int .i64 tanks, truV t (some ⟨imk.blk, imk.off, none⟩) ck (some ⟨imr.blk, imr.off, none⟩) cr (some ⟨ims.blk, ims.off, none⟩) cs] := by rw [← Array.toList_inj, hg]; rfl
                      rw [e]
                      refine (follow_any i wa wc ma mc tanks t _ ck _ cr _ cs w' ⟨m1, m2, m3, atN_of_or k3 k2 (fun _ => rfl) boolE_get, atN_of_or r3 r2 (fun _ => rfl) intE_get, atN_of_or s3 s2 (fun _ => rfl) intE_get⟩ hf).mono fun e w'' ⟨g, hg1, he, hs, hb⟩ => ⟨⟨g, _, hg1, ?_, he, seens_cells hs, fun μ' hμ => ?_⟩, hb⟩
                      · obtain ⟨b, off, he, hlt, _⟩ := hs (by omega)
                        cases he
                        exact hlt
                      · have : VRl μ' [.slice (some ⟨n, 0, none⟩) i.nm 0, .agg #[.int .i64 (i.size * tanks + t.start), .int .i64 (runTo i tanks t i.nm).rain, .int .i64 (runTo i tanks t i.nm).used, .int .i64 (runTo i tanks t i.nm).leak, .int .i64 (runTo i tanks t i.nm).sea, .int .i64 ((runTo i tanks t i.nm).tanks + (runTo i tanks t i.nm).lens)]]
                            [.slice (some ⟨g, 0, none⟩) i.nm i.nm, .agg #[.int .i64 (i.size * tanks + t.start), .int .i64 (runTo i tanks t i.nm).rain, .int .i64 (runTo i tanks t i.nm).used, .int .i64 (runTo i tanks t i.nm).leak, .int .i64 (runTo i tanks t i.nm).sea, .int .i64 ((runTo i tanks t i.nm).tanks + (runTo i tanks t i.nm).lens)]] :=
                          .cons (.slice ⟨_, hμ, rfl, rfl⟩ (Nat.le_refl _) hnm fun h => absurd rfl h) (.cons (vr_af (by kernel_rfl)) .nil)
                        exact .tuple this.vrs'.1 this.vrs'.2
end
end Go.Proofs.YtffdidleebognaaGreatDoor

namespace Go.Proofs.YtffdidleebognaaGreatDoor
open Go Go.CE Go.Proofs Go.RowKit Lens
def knE (kn : Nat → Kn) (j : Nat) : List Value := [.int .i64 (kn j).tl, .int .i64 (kn j).th, .int .i64 (kn j).ll, .int .i64 (kn j).lh, .int .i64 (kn j).kl, .int .i64 (kn j).kh]
def wid (k : Kn) (s : Seen) : Kn := ⟨min k.tl s.tanks, max k.th s.tanks, min k.ll s.lens, max k.lh s.lens, min k.kl s.lack, max k.kh s.lack⟩
/-- Bounds, widened by the ends of the first m months. -/
def pass (kn : Nat → Kn) (e : Nat → Seen) (m j : Nat) : Kn := if j < m then wid (kn j) (e j) else kn j
def endsOf (i : Isl) (tanks : Int) (much : Bool) (d : Nat → Bool) (j : Nat) : Seen := seenOf (runTo i tanks (endTru i much i.nm d) (j + 1))
/-- Bounds, widened by the ends of both extremes of a drought. -/
def widest (i : Isl) (tanks : Int) (d : Nat → Bool) (kn : Nat → Kn) : Nat → Kn := pass (pass kn (endsOf i tanks false d) i.nm) (endsOf i tanks true d) i.nm
theorem loose_ints {e : Nat → List Value} (n : Nat) (h : ∀ k, ∀ v ∈ e k, ∃ x, v = .int .i64 x) : ∀ v ∈ rowA e n, Loose v := rowA_mem n fun k _ v hv => by
  obtain ⟨x, rfl⟩ := h k v hv
  exact loose_int _ _
theorem loose_knE (kn : Nat → Kn) (n : Nat) : ∀ v ∈ rowA (knE kn) n, Loose v := loose_ints n fun k v hv => by
  simp only [knE, List.mem_cons, List.not_mem_nil, or_false] at hv
  rcases hv with rfl | rfl | rfl | rfl | rfl | rfl <;> exact ⟨_, rfl⟩
theorem loose_intE (f : Nat → Int) (n : Nat) : ∀ v ∈ rowA (intE f) n, Loose v := loose_ints n fun k v hv => by
  simp only [intE, List.mem_cons, List.not_mem_nil, or_false] at hv
  exact ⟨_, hv⟩
theorem loose_boolE (d : Nat → Bool) (n : Nat) : ∀ v ∈ rowA (boolE d) n, Loose v := rowA_mem n fun k _ v hv => by
  simp only [boolE, List.mem_cons, List.not_mem_nil, or_false] at hv
  rw [hv]; exact loose_bool _
theorem loose_seenE (i : Isl) (tanks : Int) (t : Tru) (n : Nat) : ∀ v ∈ rowA (seenE i tanks t) n, Loose v := loose_ints n fun k v hv => by
  simp only [seenE, List.mem_cons, List.not_mem_nil, or_false] at hv
  rcases hv with rfl | rfl | rfl <;> exact ⟨_, rfl⟩
theorem pass_splice {kn : Nat → Kn} {e : Nat → Seen} {n m : Nat} (hm : m < n) :
    0 + m * 6 + 6 ≤ (rowA (knE (pass kn e m)) n).size ∧ splice (rowA (knE (pass kn e m)) n) (0 + m * 6) #[.int .i64 (min (kn m).tl (e m).tanks), .int .i64 (max (kn m).th (e m).tanks), .int .i64 (min (kn m).ll (e m).lens), .int .i64 (max (kn m).lh (e m).lens), .int .i64 (min (kn m).kl (e m).lack), .int .i64 (max (kn m).kh (e m).lack)] = rowA (knE (pass kn e (m + 1))) n := by
  have := row_splice (e := knE (pass kn e m)) (z := 6) (n := n) (x := knE (fun j => wid (kn j) (e j)) m) (fun _ => rfl) rfl hm
  rw [Nat.zero_add]
  refine ⟨this.1, this.2.trans (row_congr n fun k hk => ?_)⟩
  by_cases h : k = m
  · subst h
    simp only [if_true, knE, pass, show k < k + 1 by omega]
  · rw [if_neg h]
    simp only [knE, pass]
    by_cases h2 : k < m
    · simp only [h2, show k < m + 1 by omega]
    · simp only [h2, show ¬ k < m + 1 by omega]
theorem pass_get {kn : Nat → Kn} {e : Nat → Seen} {n m : Nat} (hm : m < n) : 0 + m * 6 + 6 ≤ (rowA (knE (pass kn e m)) n).size ∧ (rowA (knE (pass kn e m)) n).extract (0 + m * 6) (0 + m * 6 + 6) = #[.int .i64 (kn m).tl, .int .i64 (kn m).th, .int .i64 (kn m).ll, .int .i64 (kn m).lh, .int .i64 (kn m).kl, .int .i64 (kn m).kh] := by
  refine ⟨(pass_splice hm).1, ?_⟩
  rw [Nat.zero_add, row_extract (z := 6) (fun _ => rfl) hm]
  simp only [knE, pass, Nat.lt_irrefl, if_false]
theorem seen_get {i : Isl} {tanks : Int} {t : Tru} {n m : Nat} (hm : m < n) : 0 + m * 3 + 3 ≤ (rowA (seenE i tanks t) n).size ∧ (rowA (seenE i tanks t) n).extract (0 + m * 3) (0 + m * 3 + 3) = #[.int .i64 (runTo i tanks t (m + 1)).tanks, .int .i64 (runTo i tanks t (m + 1)).lens, .int .i64 (runTo i tanks t (m + 1)).lack] := by
  rw [Nat.zero_add, row_extract (z := 3) (fun _ => rfl) hm]
  refine ⟨?_, rfl⟩
  rw [rowA_size (z := 3) (fun _ => rfl) n, ← Nat.succ_mul]
  exact Nat.mul_le_mul_right _ hm
theorem slots_arr {a : Nat} {T : Tm} (h : SlotsOk a T) : ∀ v ∈ tmArr T, Loose v ∨ okV a 3 v = true := fun v hv => by
  simp only [tmArr, List.mem_toArray, List.mem_map] at hv
  obtain ⟨t, _, rfl⟩ := hv
  exact h t
section
variable {i : Isl} {wa : Option Addr} {wc mb mo mc : Nat} {tanks : Int} {w : World} {d : Nat → Bool} {dk : Nat → Value} {k : Nat}
theorem knR_ok (hdk : ∀ t, Loose (dk t)) : SlotsOk 7 (mkT 70 (knR i (rawS wa i.nw wc) mb mo mc k) dk) := slots_mkT (by decide) hdk fun p hp => by
  simp only [knR, knL, List.cons_append, List.nil_append, List.mem_cons, List.not_mem_nil, or_false] at hp
  rcases hp with rfl | rfl | rfl | rfl | rfl | rfl | rfl | rfl | rfl
  · exact .inr (by kernel_rfl)
  · exact .inr (by kernel_rfl)
  · exact .inr (by kernel_rfl)
  · exact .inr (by kernel_rfl)
  · exact .inr (by kernel_rfl)
  · exact .inr (by kernel_rfl)
  · exact .inl (loose_bool _)
  · exact .inl (exact_isl i wa wc (some ⟨mb, mo, none⟩) mc).loose
  · exact .inr (by kernel_rfl)
end
end Go.Proofs.YtffdidleebognaaGreatDoor

namespace Go.Proofs.YtffdidleebognaaGreatDoor
open Go Go.CE Go.Proofs Go.RowKit Lens
section
variable {i : Isl} {wa : Option Addr} {wc mb mo mc : Nat} {tanks : Int} {w : World} {d : Nat → Bool} {dk : Nat → Value} {k : Nat}
theorem pass_zero (kn : Nat → Kn) (e : Nat → Seen) : pass kn e 0 = kn := by funext j; simp [pass]
theorem knRec_fix {n : Nat} (h8 : 7 ≤ n) (hdk : ∀ t, Loose (dk t)) {s : LoopState} : FixO n (.loop { knRec i (rawS wa i.nw wc) mb mo mc k dk with state := s }) := fun v hv => by
  rcases slots_arr (knR_ok (i := i) (wa := wa) (wc := wc) (mb := mb) (mo := mo) (mc := mc) (k := k) hdk) v hv with h | h
  · exact .inl h
  · exact .inr (okV_mono h8 3 v h)
theorem rn_ok (hdk : ∀ t, Loose (dk t)) {A D R1 N1 R2 N2 E : Array Value} (hA : ∀ v ∈ A, Loose v) (hD : ∀ v ∈ D, Loose v) (h1 : ∀ v ∈ R1, Loose v) (h2 : ∀ v ∈ N1, Loose v) (h3 : ∀ v ∈ R2, Loose v) (h4 : ∀ v ∈ N2, Loose v) (h5 : ∀ v ∈ E, Loose v) :
    OkB 8 13 (rnO i (rawS wa i.nw wc) mb mo mc tanks A k dk D R1 N1 R2 N2 E) :=
  ⟨.inr ⟨rfl, .inl (loose_isl i wa wc (some ⟨mb, mo, none⟩) mc)⟩, .inl ⟨rfl, by kernel_rfl⟩, .inr ⟨rfl, .inl hA⟩, .inl ⟨rfl, by kernel_rfl⟩, .inr ⟨rfl, .inl (loose_isl i wa wc (some ⟨mb, mo, none⟩) mc)⟩, .inr ⟨rfl, .inr trivial⟩, .inr ⟨rfl, .inr (knRec_fix (by omega) hdk)⟩,
    .inr ⟨rfl, .inl hD⟩, .inr ⟨rfl, .inl h1⟩, .inr ⟨rfl, .inl h2⟩, .inr ⟨rfl, .inl h3⟩, .inr ⟨rfl, .inl h4⟩, .inr ⟨rfl, .inl h5⟩, trivial⟩
theorem rn_same {W : Value} {A A' D R1 N1 R2 N2 E : Array Value} : ∀ j, j < 8 → j ∉ [2, 6] → hget (heapO 0 (rnO i W mb mo mc tanks A' k dk D R1 N1 R2 N2 E)) j = hget (heapO 0 (drO i W mb mo mc tanks A k dk ++ [(false, Obj.cells D 4 (0, 0))])) j := fun j hj hn => by
  have : j = 0 ∨ j = 1 ∨ j = 2 ∨ j = 3 ∨ j = 4 ∨ j = 5 ∨ j = 6 ∨ j = 7 := by omega
  rcases this with rfl | rfl | rfl | rfl | rfl | rfl | rfl | rfl
  all_goals first
    | (exact absurd (by decide) hn; done)
    | rfl
theorem rn_writable {W : Value} {A D : Array Value} : Writable (heapO 0 (drO i W mb mo mc tanks A k dk ++ [(false, Obj.cells D 4 (0, 0))])) 8 [2, 6] := fun j _ hj => by
  simp only [List.mem_cons, List.not_mem_nil, or_false] at hj
  rcases hj with rfl | rfl
  · exact .inl ⟨_, _, rfl⟩
  · exact .inr (.inl ⟨_, rfl⟩)
set_option maxRecDepth 100000 in
theorem rn_std (hi : IslAt w w.heap.size i wa (some ⟨mb, mo, none⟩)) (h1 : 1 ≤ i.nm) (hdk : ∀ t, Loose (dk t)) (hf : ∀ much, Fit i tanks (endTru i much i.nm d)) (kn : Nat → Kn) :
    StdF Tryz.prog (worldLo w) (rnC i (rawS wa i.nw wc) mb mo mc k dk) (heapO 0 (drO i (rawS wa i.nw wc) mb mo mc tanks (rowA (knE kn) i.nm) k dk ++ [(false, Obj.cells (rowA (boolE d) i.nm) 4 (0, 0))])) 8 (.bool true)
      (heapO 0 (drO i (rawS wa i.nw wc) mb mo mc tanks (rowA (knE (widest i tanks d kn)) i.nm) k dk ++ [(false, Obj.cells (rowA (boolE d) i.nm) 4 (0, 0))])) 8 [2, 6] := by
  have h8 : i.nm ≤ 8 := (hf true).nm
  have hml : i.nm ≤ maxLen := by unfold maxLen; omega
  have hokA : ∀ (kn : Nat → Kn) (t : Tru), OkB 8 13 (rnO i (rawS wa i.nw wc) mb mo mc tanks (rowA (knE kn) i.nm) k dk (rowA (boolE d) i.nm) (rowA (intE (endTru i false i.nm d).rains) i.nm) (rowA (intE (endTru i false i.nm d).needs) i.nm) (rowA (intE (endTru i true i.nm d).rains) i.nm) (rowA (intE (endTru i true i.nm d).needs) i.nm) (rowA (seenE i tanks t) i.nm)) := fun kn t =>
    rn_ok hdk (loose_knE _ _) (loose_boolE _ _) (loose_intE _ _) (loose_intE _ _) (loose_intE _ _) (loose_intE _ _) (loose_seenE _ _ _ _)
  have hr7 : ∀ l, some 6 = some l → l < 8 := fun l e => by cases e; omega
  let H0 := heapO 0 (drO i (rawS wa i.nw wc) mb mo mc tanks (rowA (knE kn) i.nm) k dk ++ [(false, Obj.cells (rowA (boolE d) i.nm) 4 (0, 0))])
  let at' : Nat → Nat → (Nat → Kn) → Tru → Prop := fun h m kn' t => ∃ d' : Nat → Value, (∀ t, Loose (d' t)) ∧ GoE Tryz.prog (worldLo w) (rnC i (rawS wa i.nw wc) mb mo mc k dk) H0 8
    (headR (some 6) 38 70 (rnL i.nm i.sl i.kl i.lh i.sh i.kh i.ll h m) d' (rnT.map (it (bodyOf Tryz.prog 38)))) (heapO 0 (rnO i (rawS wa i.nw wc) mb mo mc tanks (rowA (knE kn') i.nm) k dk (rowA (boolE d) i.nm) (rowA (intE (endTru i false i.nm d).rains) i.nm) (rowA (intE (endTru i false i.nm d).needs) i.nm) (rowA (intE (endTru i true i.nm d).rains) i.nm) (rowA (intE (endTru i true i.nm d).needs) i.nm) (rowA (seenE i tanks t) i.nm))) 13 [2, 6]
  have s0 : at' 0 0 kn (endTru i false i.nm d) :=
    ((GoE.refl (P := Tryz.prog) (B := worldLo w) (c0 := rnC i (rawS wa i.nw wc) mb mo mc k dk) (under_heapO (drO i (rawS wa i.nw wc) mb mo mc tanks (rowA (knE kn) i.nm) k dk ++ [(false, Obj.cells (rowA (boolE d) i.nm) 4 (0, 0))]) (Nat.le_refl 8))).widen (Wf := [2, 6]) (fun _ _ h => by simp at h) rn_writable).headR goFns_ok mixed_ok rn_writable
      (rn_start (worldLo w) i (rawS wa i.nw wc) mb mo mc tanks (rowA (knE kn) i.nm) k dk (rowA (boolE d) i.nm) (rowA (intE (endTru i false i.nm d).rains) i.nm) (rowA (intE (endTru i false i.nm d).needs) i.nm) (rowA (intE (endTru i true i.nm d).rains) i.nm) (rowA (intE (endTru i true i.nm d).needs) i.nm) i.sl i.kl i.lh i.sh i.kh i.ll (rowA (seenE i tanks (endTru i false i.nm d)) i.nm)
        (i.size * tanks + (endTru i false i.nm d).start) (runTo i tanks (endTru i false i.nm d) i.nm).rain (runTo i tanks (endTru i false i.nm d) i.nm).used (runTo i tanks (endTru i false i.nm d) i.nm).leak (runTo i tanks (endTru i false i.nm d) i.nm).sea ((runTo i tanks (endTru i false i.nm d) i.nm).tanks + (runTo i tanks (endTru i false i.nm d) i.nm).lens))
      ⟨con_follow (w := w) (i := i) (tanks := tanks) (wa := wa) (wc := wc) (ma := some ⟨mb, mo, none⟩) (mc := mc) (t := endTru i false i.nm d) (n := 13) (k := 7) (r := 8) (s := 9) (by omega) (by omega) (by omega) hml hml hml (hf false) h1 hml, ric_con hi h1 (Nat.le_refl _) h8 (k := 7) (n := 10) (by omega), sca_con hi h1 (Nat.le_refl _) h8 (k := 7) (n := 8) (by omega), trivial⟩
      (by kernel_rfl) (by kernel_rfl) (by kernel_rfl) (by kernel_rfl) (by kernel_rfl) (by kernel_rfl) (by kernel_rfl) (by kernel_rfl) (by kernel_rfl) (by kernel_rfl) (hokA kn _) rn_same hr7
  have months : ∀ (h : Nat) (kn' : Nat → Kn) (t : Tru), at' h 0 kn' t → ∀ m, m ≤ i.nm → at' h m (pass kn' (fun j => seenOf (runTo i tanks t (j + 1))) m) t := by
    intro h kn' t hs m
    induction m with
    | zero => intro _; rw [pass_zero]; exact hs
    | succ m ih =>
      intro hm
      obtain ⟨d', _, hg⟩ := ih (by omega)
      have hlt : m < i.nm := by omega
      refine hg.headR goFns_ok mixed_ok rn_writable
        (rn_month (worldLo w) i (rawS wa i.nw wc) mb mo mc tanks (rowA (knE (pass kn' (fun j => seenOf (runTo i tanks t (j + 1))) m)) i.nm) k dk (rowA (boolE d) i.nm) (rowA (intE (endTru i false i.nm d).rains) i.nm) (rowA (intE (endTru i false i.nm d).needs) i.nm) (rowA (intE (endTru i true i.nm d).rains) i.nm) (rowA (intE (endTru i true i.nm d).needs) i.nm) i.sl i.kl i.lh i.sh i.kh i.ll (rowA (seenE i tanks t) i.nm)
          (rowA (knE (pass kn' (fun j => seenOf (runTo i tanks t (j + 1))) (m + 1))) i.nm) h m (runTo i tanks t (m + 1)).tanks (runTo i tanks t (m + 1)).lens (runTo i tanks t (m + 1)).lack (kn' m).tl (kn' m).th (kn' m).ll (kn' m).lh (kn' m).kl (kn' m).kh
          (min (kn' m).tl (runTo i tanks t (m + 1)).tanks) (max (kn' m).th (runTo i tanks t (m + 1)).tanks) (min (kn' m).ll (runTo i tanks t (m + 1)).lens) (max (kn' m).lh (runTo i tanks t (m + 1)).lens) (min (kn' m).kl (runTo i tanks t (m + 1)).lack) (max (kn' m).kh (runTo i tanks t (m + 1)).lack) d')
        ⟨wq_in (by omega) (by omega), pass_splice (e := fun j => seenOf (runTo i tanks t (j + 1))) hlt, ⟨rfl, hlt⟩, con_withEnd (w := w) (n := 14) (kn' m) (seenOf (runTo i tanks t (m + 1))), pass_get (e := fun j => seenOf (runTo i tanks t (j + 1))) hlt, ⟨rfl, hlt⟩, seen_get hlt, ⟨rfl, hlt⟩, ltq_t (by omega), trivial⟩
        (by kernel_rfl) (by kernel_rfl) (by kernel_rfl) (by kernel_rfl) (by kernel_rfl) (by kernel_rfl) (by kernel_rfl) (by kernel_rfl) (by kernel_rfl) (by kernel_rfl) (hokA _ _) rn_same hr7
  obtain ⟨d1, _, g1⟩ := months 0 kn _ s0 i.nm (Nat.le_refl _)
  have s1 : at' 1 0 (pass kn (endsOf i tanks false d) i.nm) (endTru i true i.nm d) :=
    g1.headR goFns_ok mixed_ok rn_writable
      (rn_next (worldLo w) i (rawS wa i.nw wc) mb mo mc tanks (rowA (knE (pass kn (endsOf i tanks false d) i.nm)) i.nm) k dk (rowA (boolE d) i.nm) (rowA (intE (endTru i false i.nm d).rains) i.nm) (rowA (intE (endTru i false i.nm d).needs) i.nm) (rowA (intE (endTru i true i.nm d).rains) i.nm) (rowA (intE (endTru i true i.nm d).needs) i.nm) i.sl i.kl i.lh i.sh i.kh i.ll (rowA (seenE i tanks (endTru i false i.nm d)) i.nm) (rowA (seenE i tanks (endTru i true i.nm d)) i.nm) i.nm
        (i.size * tanks + (endTru i true i.nm d).start) (runTo i tanks (endTru i true i.nm d) i.nm).rain (runTo i tanks (endTru i true i.nm d) i.nm).used (runTo i tanks (endTru i true i.nm d) i.nm).leak (runTo i tanks (endTru i true i.nm d) i.nm).sea ((runTo i tanks (endTru i true i.nm d) i.nm).tanks + (runTo i tanks (endTru i true i.nm d) i.nm).lens) d1)
      ⟨con_follow (w := w) (i := i) (tanks := tanks) (wa := wa) (wc := wc) (ma := some ⟨mb, mo, none⟩) (mc := mc) (t := endTru i true i.nm d) (n := 14) (k := 7) (r := 10) (s := 11) (by omega) (by omega) (by omega) hml hml hml (hf true) h1 hml, ltq_f (by omega), trivial⟩
      (by kernel_rfl) (by kernel_rfl) (by kernel_rfl) (by kernel_rfl) (by kernel_rfl) (by kernel_rfl) (by kernel_rfl) (by kernel_rfl) (by kernel_rfl) (by kernel_rfl) (hokA _ _) rn_same hr7
  obtain ⟨d2, _, g2⟩ := months 1 _ _ s1 i.nm (Nat.le_refl _)
  refine g2.stdF goFns_ok mixed_ok rn_writable (os := drO i (rawS wa i.nw wc) mb mo mc tanks (rowA (knE (widest i tanks d kn)) i.nm) k dk ++ [(false, Obj.cells (rowA (boolE d) i.nm) 4 (0, 0))])
    (rn_end (worldLo w) i (rawS wa i.nw wc) mb mo mc tanks (rowA (knE (widest i tanks d kn)) i.nm) k dk (rowA (boolE d) i.nm) (rowA (intE (endTru i false i.nm d).rains) i.nm) (rowA (intE (endTru i false i.nm d).needs) i.nm) (rowA (intE (endTru i true i.nm d).rains) i.nm) (rowA (intE (endTru i true i.nm d).needs) i.nm) i.sl i.kl i.lh i.sh i.kh i.ll (rowA (seenE i tanks (endTru i true i.nm d)) i.nm) i.nm d2)
    ⟨ltq_f (by omega), trivial⟩ (by kernel_rfl) (by kernel_rfl) (by kernel_rfl) (by kernel_rfl) (by kernel_rfl) (by kernel_rfl) (by kernel_rfl) (by kernel_rfl) ?_ ?_
  · exact ⟨.inr ⟨rfl, .inl (loose_isl i wa wc (some ⟨mb, mo, none⟩) mc)⟩, .inl ⟨rfl, by kernel_rfl⟩, .inr ⟨rfl, .inl (loose_knE _ _)⟩, .inl ⟨rfl, by kernel_rfl⟩, .inr ⟨rfl, .inl (loose_isl i wa wc (some ⟨mb, mo, none⟩) mc)⟩, .inr ⟨rfl, .inr trivial⟩, .inr ⟨rfl, .inr (knRec_fix (by omega) hdk)⟩, .inr ⟨rfl, .inl (loose_boolE _ _)⟩, trivial⟩
  · intro j hj hn
    have : j = 0 ∨ j = 1 ∨ j = 2 ∨ j = 3 ∨ j = 4 ∨ j = 5 ∨ j = 6 ∨ j = 7 := by omega
    rcases this with rfl | rfl | rfl | rfl | rfl | rfl | rfl | rfl
    all_goals first
      | (exact absurd (by decide) hn; done)
      | rfl
end
end Go.Proofs.YtffdidleebognaaGreatDoor

namespace Go.Proofs.YtffdidleebognaaGreatDoor
open Go Go.CE Go.Proofs Go.RowKit Lens
theorem fix_loose {a : Nat} {o : Obj} (h : looseO o) : FixO a o := by
  cases o with
  | cells cs t fz => exact fun v hv => .inl (h v hv)
  | _ => exact h.elim
section
variable {i : Isl} {wa : Option Addr} {wc mb mo mc : Nat} {tanks : Int} {w : World} {d : Nat → Bool} {dk : Nat → Value} {k : Nat}
theorem dr_fix {n : Nat} (h8 : 7 ≤ n) (hdk : ∀ t, Loose (dk t)) {A : Array Value} (hA : ∀ v ∈ A, Loose v) : ∀ b ∈ drO i (rawS wa i.nw wc) mb mo mc tanks A k dk, FixO n b.2 := by
  intro b hb
  have hint : ∀ (x : Int), FixO n (.cells #[.int .i64 x] 3 (0, 0)) := fun x v hv => by
    simp only [List.mem_toArray, List.mem_cons, List.not_mem_nil, or_false] at hv
    rw [hv]; exact .inl (loose_int _ _)
  have h4 : FixO n (.cells #[.slice (some ⟨2, 0, none⟩) i.nm 6] 32 (0, 0)) := fun v hv => by
    simp only [List.mem_toArray, List.mem_cons, List.not_mem_nil, or_false] at hv
    rw [hv]; exact .inr (okV_mono h8 3 _ (by kernel_rfl))
  simp only [drO, knO, List.cons_append, List.nil_append, List.mem_cons, List.not_mem_nil, or_false] at hb
  rcases hb with rfl | rfl | rfl | rfl | rfl | rfl | rfl
  · exact fix_loose (loose_isl i wa wc (some ⟨mb, mo, none⟩) mc)
  · exact hint _
  · exact fix_loose (o := .cells A 56 (0, 0)) hA
  · exact h4
  · exact fix_loose (loose_isl i wa wc (some ⟨mb, mo, none⟩) mc)
  · trivial
  · exact knRec_fix (s := .ready) h8 hdk
theorem rnC_slots (hdk : ∀ t, Loose (dk t)) : SlotsOk 8 (rnC i (rawS wa i.nw wc) mb mo mc k dk).tmps := slots_mkT (by decide) hdk fun p hp => by
  simp only [knR, knL, List.cons_append, List.nil_append, List.mem_cons, List.not_mem_nil, or_false] at hp
  rcases hp with rfl | rfl | rfl | rfl | rfl | rfl | rfl | rfl | rfl | rfl
  · exact .inr (by kernel_rfl)
  · exact .inr (by kernel_rfl)
  · exact .inr (by kernel_rfl)
  · exact .inr (by kernel_rfl)
  · exact .inr (by kernel_rfl)
  · exact .inr (by kernel_rfl)
  · exact .inl (loose_bool _)
  · exact .inl (exact_isl i wa wc (some ⟨mb, mo, none⟩) mc).loose
  · exact .inr (by kernel_rfl)
  · exact .inr (by kernel_rfl)
theorem rn_rj (hi : IslAt w w.heap.size i wa (some ⟨mb, mo, none⟩)) (h1 : 1 ≤ i.nm) (hdk : ∀ t, Loose (dk t)) (hf : ∀ much, Fit i tanks (endTru i much i.nm d)) (kn : Nat → Kn) :
    RJ Tryz.prog (worldLo w) (rnC i (rawS wa i.nw wc) mb mo mc k dk) ((List.range 8).map fun q => (q, hget (heapO 0 (drO i (rawS wa i.nw wc) mb mo mc tanks (rowA (knE kn) i.nm) k dk ++ [(false, Obj.cells (rowA (boolE d) i.nm) 4 (0, 0))])) q)) 8 (.bool true)
      [(2, .cells (rowA (knE (widest i tanks d kn)) i.nm) 56 (0, 0)), (6, .loop (knRec i (rawS wa i.nw wc) mb mo mc k dk))] 8 [2, 6] := by
  have fx : ∀ (kn : Nat → Kn), ∀ b ∈ drO i (rawS wa i.nw wc) mb mo mc tanks (rowA (knE kn) i.nm) k dk ++ [(false, Obj.cells (rowA (boolE d) i.nm) 4 (0, 0))], FixO 8 b.2 := fun kn b hb => by
    rcases List.mem_append.1 hb with h | h
    · exact dr_fix (by omega) hdk (loose_knE _ _) b h
    · simp only [List.mem_cons, List.not_mem_nil, or_false] at h
      rw [h]; exact fix_loose (o := .cells (rowA (boolE d) i.nm) 4 (0, 0)) (loose_boolE _ _)
  exact StdX.rj (os := drO i (rawS wa i.nw wc) mb mo mc tanks (rowA (knE kn) i.nm) k dk ++ [(false, Obj.cells (rowA (boolE d) i.nm) 4 (0, 0))]) (os' := drO i (rawS wa i.nw wc) mb mo mc tanks (rowA (knE (widest i tanks d kn)) i.nm) k dk ++ [(false, Obj.cells (rowA (boolE d) i.nm) 4 (0, 0))])
    (rn_std hi h1 hdk hf kn) (rnC_slots hdk) (by kernel_rfl) rfl rfl (fun l e => by cases e; show 6 < 8; omega) (fx kn) (fx _) (by kernel_rfl) (by kernel_rfl) (by kernel_rfl) (by kernel_rfl) (by kernel_rfl) (by kernel_rfl)
end
end Go.Proofs.YtffdidleebognaaGreatDoor

namespace Go.CE
open Go Go.RowKit
theorem shr_eq {b s : Nat} (hs : s ≤ 60) : Int.fdiv (b : Int) (2 ^ min (Int.toNat (s : Int)) (IntKind.bits IntKind.i64)) = ((b / 2 ^ s : Nat) : Int) := by
  have e : min (Int.toNat (s : Int)) (IntKind.bits IntKind.i64) = s := by
    rw [Int.toNat_natCast]
    exact Nat.min_eq_left (by show s ≤ 64; omega)
  rw [e, Int.fdiv_eq_ediv_of_nonneg _ (Int.le_of_lt (Int.pow_pos (by decide))), Int.natCast_ediv, Int.natCast_pow]
  rfl
theorem and1_eq {x : Nat} (hx : x < 2 ^ 62) : IntKind.wrap IntKind.i64 ((BitVec.toNat (BitVec.ofInt (IntKind.bits IntKind.i64) (x : Int) &&& BitVec.ofInt (IntKind.bits IntKind.i64) 1) : Nat) : Int) = ((x % 2 : Nat) : Int) := by
  have e1 : BitVec.ofInt (IntKind.bits IntKind.i64) (x : Int) = BitVec.ofNat 64 x := BitVec.ofInt_natCast 64 x
  have e2 : BitVec.ofInt (IntKind.bits IntKind.i64) 1 = BitVec.ofNat 64 1 := rfl
  rw [e1, e2]
  have e3 : BitVec.toNat (BitVec.ofNat 64 x &&& BitVec.ofNat 64 1) = x % 2 := by
    rw [BitVec.toNat_and, BitVec.toNat_ofNat, BitVec.toNat_ofNat, Nat.mod_eq_of_lt (a := x) (by omega), Nat.mod_eq_of_lt (a := 1) (by decide), Nat.and_one_is_mod]
  show IntKind.wrap IntKind.i64 ((BitVec.toNat (BitVec.ofNat 64 x &&& BitVec.ofNat 64 1) : Nat) : Int) = _
  rw [e3]
  exact wrap_in (by omega) (by omega)
theorem shl1_eq {s : Nat} (hs : s ≤ 60) : IntKind.wrap IntKind.i64 (1 * 2 ^ min (Int.toNat (s : Int)) (IntKind.bits IntKind.i64)) = ((2 ^ s : Nat) : Int) := by
  have e : min (Int.toNat (s : Int)) (IntKind.bits IntKind.i64) = s := by
    rw [Int.toNat_natCast]
    exact Nat.min_eq_left (by show s ≤ 64; omega)
  have hp : (2 : Nat) ^ s ≤ 2 ^ 60 := Nat.pow_le_pow_right (by decide) hs
  have e2 : (2 : Int) ^ s = ((2 ^ s : Nat) : Int) := by rw [Int.natCast_pow]; rfl
  rw [e, Int.one_mul, e2]
  generalize 2 ^ s = y at *
  exact wrap_in (by omega) (by omega)
theorem bit_eq {b s : Nat} : eqq ((b / 2 ^ s % 2 : Nat) : Int) 1 = b.testBit s := by
  rw [Nat.testBit_eq_decide_div_mod_eq]
  generalize b / 2 ^ s % 2 = y
  by_cases h : y = 1
  · subst h; rfl
  · rw [decide_eq_false h]
    exact eqq_f (by omega)
end Go.CE

namespace Go.Proofs.YtffdidleebognaaGreatDoor
open Go Go.CE Go.Proofs Go.RowKit Lens
/-- Bounds, widened by all droughts whose number is below b. -/
def upTo (i : Isl) (tanks : Int) (kn : Nat → Kn) : Nat → (Nat → Kn)
  | 0 => kn
  | b + 1 => if drB i.most i.row i.nm (bitsDry i.nm b) then widest i tanks (bitsDry i.nm b) (upTo i tanks kn b) else upTo i tanks kn b
def bitsTo (n b m j : Nat) : Bool := if j < m then bitsDry n b j else false
theorem bitsTo_splice {n b m : Nat} (hm : m < n) : 0 + m * 1 + 1 ≤ (rowA (boolE (bitsTo n b m)) n).size ∧ splice (rowA (boolE (bitsTo n b m)) n) (0 + m * 1) #[.bool (bitsDry n b m)] = rowA (boolE (bitsTo n b (m + 1))) n := by
  have := row_splice (e := boolE (bitsTo n b m)) (z := 1) (n := n) (x := [.bool (bitsDry n b m)]) (fun _ => rfl) rfl hm
  rw [Nat.zero_add]
  refine ⟨this.1, this.2.trans (row_congr n fun k hk => ?_)⟩
  by_cases h : k = m
  · subst h
    simp only [if_true, boolE, bitsTo, show k < k + 1 by omega]
  · rw [if_neg h]
    simp only [boolE, bitsTo]
    by_cases h2 : k < m
    · simp only [h2, show k < m + 1 by omega]
    · simp only [h2, show ¬ k < m + 1 by omega]
theorem bitsTo_zero (n b : Nat) : rowA (fun _ => [.bool false]) n = rowA (boolE (bitsTo n b 0)) n := row_congr n fun k _ => by simp [boolE, bitsTo]
theorem bitsTo_all (n b : Nat) : rowA (boolE (bitsTo n b n)) n = rowA (boolE (bitsDry n b)) n := row_congr n fun k hk => by simp [boolE, bitsTo, hk]
section
variable {i : Isl} {wa : Option Addr} {wc mb mo mc : Nat} {tanks : Int} {w : World} {dk : Nat → Value} {k : Nat}
theorem okO_one {n : Nat} (h8 : 7 ≤ n) : okO n (.cells #[.slice (some ⟨2, 0, none⟩) i.nm 6] 32 (0, 0)) = true := by
  have := okV_mono h8 3 (.slice (some ⟨2, 0, none⟩) i.nm 6) (by kernel_rfl)
  simp only [okO, List.all_toArray, List.all_cons, List.all_nil, Bool.and_true]
  exact this
theorem dr_ok {n : Nat} (h8 : 7 ≤ n) (hdk : ∀ t, Loose (dk t)) {A : Array Value} (hA : ∀ v ∈ A, Loose v) {l : List (Bool × Obj)} (hl : OkB 7 n l) : OkB 7 n (drO i (rawS wa i.nw wc) mb mo mc tanks A k dk ++ l) := by
  have hf := dr_fix (i := i) (wa := wa) (wc := wc) (mb := mb) (mo := mo) (mc := mc) (tanks := tanks) (k := k) (n := 7) (Nat.le_refl 7) hdk hA
  exact ⟨.inr ⟨rfl, .inl (loose_isl i wa wc (some ⟨mb, mo, none⟩) mc)⟩, .inl ⟨rfl, by kernel_rfl⟩, .inr ⟨rfl, .inl hA⟩, .inl ⟨rfl, okO_one h8⟩, .inr ⟨rfl, .inl (loose_isl i wa wc (some ⟨mb, mo, none⟩) mc)⟩, .inr ⟨rfl, .inr trivial⟩, .inr ⟨rfl, .inr (knRec_fix (s := .ready) (Nat.le_refl 7) hdk)⟩, hl⟩
theorem dr_same {W : Value} {A A' : Array Value} {l : List (Bool × Obj)} : ∀ j, j < 7 → j ∉ [2, 6] → hget (heapO 0 (drO i W mb mo mc tanks A' k dk ++ l)) j = hget (heapO 0 (drO i W mb mo mc tanks A k dk)) j := fun j hj hn => by
  have : j = 0 ∨ j = 1 ∨ j = 2 ∨ j = 3 ∨ j = 4 ∨ j = 5 ∨ j = 6 := by omega
  rcases this with rfl | rfl | rfl | rfl | rfl | rfl | rfl
  all_goals first
    | (exact absurd (by decide) hn; done)
    | rfl
theorem dr_writable {W : Value} {A : Array Value} : Writable (heapO 0 (drO i W mb mo mc tanks A k dk)) 7 [2, 6] := fun j _ hj => by
  simp only [List.mem_cons, List.not_mem_nil, or_false] at hj
  rcases hj with rfl | rfl
  · exact .inl ⟨_, _, rfl⟩
  · exact .inr (.inl ⟨_, rfl⟩)
set_option maxRecDepth 100000 in
theorem dr_std (hi : IslAt w w.heap.size i wa (some ⟨mb, mo, none⟩)) (h1 : 1 ≤ i.nm) (hdk : ∀ t, Loose (dk t)) (hf : ∀ much d, Fit i tanks (endTru i much i.nm d)) (kn : Nat → Kn) :
    StdF Tryz.prog (worldLo w) (entryC Tryz.prog 76 43 [.func (.yield 6) #[] #[], .pointer (some ⟨4, 0, none⟩)]) (heapO 0 (drO i (rawS wa i.nw wc) mb mo mc tanks (rowA (knE kn) i.nm) k dk)) 7 (.tuple #[])
      (heapO 0 (drO i (rawS wa i.nw wc) mb mo mc tanks (rowA (knE (upTo i tanks kn (2 ^ i.nm))) i.nm) k dk)) 7 [2, 6] := by
  have h8 : i.nm ≤ 8 := (hf true fun _ => false).nm
  have hml : i.nm ≤ maxLen := by unfold maxLen; omega
  have hp : 2 ^ i.nm ≤ 256 := Nat.pow_le_pow_right (by decide) h8
  let c0 := entryC Tryz.prog 76 43 [.func (.yield 6) #[] #[], .pointer (some ⟨4, 0, none⟩)]
  let H0 := heapO 0 (drO i (rawS wa i.nw wc) mb mo mc tanks (rowA (knE kn) i.nm) k dk)
  let at1 : Nat → Prop := fun b => ∃ d' : Nat → Value, (∀ t, Loose (d' t)) ∧ GoE Tryz.prog (worldLo w) c0 H0 7
    (headC 76 43 (drL i.nm ((2 ^ i.nm : Nat) : Int) b) d' (drT.map (it (bodyOf Tryz.prog 76)))) (heapO 0 (drO i (rawS wa i.nw wc) mb mo mc tanks (rowA (knE (upTo i tanks kn b)) i.nm) k dk)) 7 [2, 6]
  let at2 : Nat → Nat → Prop := fun b m => ∃ d' : Nat → Value, (∀ t, Loose (d' t)) ∧ GoE Tryz.prog (worldLo w) c0 H0 7
    (headC 76 43 (drM i.nm ((2 ^ i.nm : Nat) : Int) b m) d' (drU.map (it (bodyOf Tryz.prog 76)))) (heapO 0 (drO i (rawS wa i.nw wc) mb mo mc tanks (rowA (knE (upTo i tanks kn b)) i.nm) k dk ++ [(false, Obj.cells (rowA (boolE (bitsTo i.nm b m)) i.nm) 4 (0, 0))])) 8 [2, 6]
  have ok1 : ∀ kn', OkB 7 7 (drO i (rawS wa i.nw wc) mb mo mc tanks (rowA (knE kn') i.nm) k dk) := fun kn' => dr_ok (l := []) (by omega) hdk (loose_knE _ _) trivial
  have ok2 : ∀ kn' f, OkB 7 8 (drO i (rawS wa i.nw wc) mb mo mc tanks (rowA (knE kn') i.nm) k dk ++ [(false, Obj.cells (rowA (boolE f) i.nm) 4 (0, 0))]) := fun kn' f => dr_ok (by omega) hdk (loose_knE _ _) ⟨.inr ⟨rfl, .inl (loose_boolE _ _)⟩, trivial⟩
  have s0 : at1 0 :=
    ((GoE.refl (P := Tryz.prog) (B := worldLo w) (c0 := c0) (under_heapO (drO i (rawS wa i.nw wc) mb mo mc tanks (rowA (knE kn) i.nm) k dk) (Nat.le_refl 7))).widen (Wf := [2, 6]) (fun _ _ h => by simp at h) dr_writable).headB goFns_ok mixed_ok dr_writable
      (dr_entry (worldLo w) i (rawS wa i.nw wc) mb mo mc tanks (rowA (knE kn) i.nm) k dk ((2 ^ i.nm : Nat) : Int)) ⟨shl1_eq (by omega), trivial⟩
      (by kernel_rfl) (by kernel_rfl) (by kernel_rfl) (by kernel_rfl) (by kernel_rfl) (by kernel_rfl) (by kernel_rfl) (by kernel_rfl) (by kernel_rfl) (by kernel_rfl) (ok1 kn) (dr_same (l := []))
  have next : ∀ b, b < 2 ^ i.nm → at1 b → at1 (b + 1) := by
    intro b hb ⟨d1, _, g1⟩
    have hmk : cMake Tryz.prog 38 (.int .i64 (i.nm : Int)) (.int .i64 (i.nm : Int)) = some (4, rowA (boolE (bitsTo i.nm b 0)) i.nm, i.nm, 1) := by
      rw [← bitsTo_zero]
      exact cMake_row (P := Tryz.prog) (t := 38) (e := 4) (i := Go.Proofs.Tryz.t4) (zv := .bool false) (by kernel_rfl) (by kernel_rfl) (by kernel_rfl) (by kernel_rfl) (by decide) (by kernel_rfl) (by show 1 * i.nm ≤ _; omega) (by omega)
    have s2 : at2 b 0 := g1.headB goFns_ok mixed_ok dr_writable
      (dr_bits (worldLo w) i (rawS wa i.nw wc) mb mo mc tanks (rowA (knE (upTo i tanks kn b)) i.nm) k dk ((2 ^ i.nm : Nat) : Int) b (rowA (boolE (bitsTo i.nm b 0)) i.nm) d1) ⟨hmk, ltq_t (by omega), trivial⟩
      (by kernel_rfl) (by kernel_rfl) (by kernel_rfl) (by kernel_rfl) (by kernel_rfl) (by kernel_rfl) (by kernel_rfl) (by kernel_rfl) (by kernel_rfl) (by kernel_rfl) (ok2 _ _) dr_same
    have all : ∀ m, m ≤ i.nm → at2 b m := by
      intro m
      induction m with
      | zero => intro _; exact s2
      | succ m ih =>
        intro hm
        obtain ⟨d2, _, g2⟩ := ih (by omega)
        have hlt : m < i.nm := by omega
        have hbit : ((b / 2 ^ (i.nm - 1 - m) % 2 : Nat) : Int) = ((b / 2 ^ (i.nm - 1 - m) % 2 : Nat) : Int) := rfl
        have hle : b / 2 ^ (i.nm - 1 - m) ≤ b := Nat.div_le_self _ _
        exact g2.headB goFns_ok mixed_ok dr_writable
          (dr_bit (worldLo w) i (rawS wa i.nw wc) mb mo mc tanks (rowA (knE (upTo i tanks kn b)) i.nm) k dk ((2 ^ i.nm : Nat) : Int) b m (rowA (boolE (bitsTo i.nm b m)) i.nm) (rowA (boolE (bitsTo i.nm b (m + 1))) i.nm) ((b / 2 ^ (i.nm - 1 - m) : Nat) : Int) ((b / 2 ^ (i.nm - 1 - m) % 2 : Nat) : Int) (bitsDry i.nm b m) d2)
          ⟨wq_in (by omega) (by omega), bitsTo_splice hlt, ⟨rfl, hlt⟩, bit_eq, and1_eq (by omega), shr_eq (by omega), (wq_in (by omega) (by omega)).trans (by omega), wq_in (by omega) (by omega), ltq_t (by omega), trivial⟩
          (by kernel_rfl) (by kernel_rfl) (by kernel_rfl) (by kernel_rfl) (by kernel_rfl) (by kernel_rfl) (by kernel_rfl) (by kernel_rfl) (by kernel_rfl) (by kernel_rfl) (ok2 _ _) dr_same
    obtain ⟨d3, _, g3⟩ := all i.nm (Nat.le_refl _)
    rw [bitsTo_all] at g3
    cases hdr : drB i.most i.row i.nm (bitsDry i.nm b) with
    | false =>
      have hu : upTo i tanks kn (b + 1) = upTo i tanks kn b := by simp only [upTo, hdr]; rfl
      show ∃ d' : Nat → Value, _
      rw [hu]
      exact g3.headB goFns_ok mixed_ok dr_writable
        (dr_no (worldLo w) i (rawS wa i.nw wc) mb mo mc tanks (rowA (knE (upTo i tanks kn b)) i.nm) k dk ((2 ^ i.nm : Nat) : Int) b i.nm (rowA (boolE (bitsDry i.nm b)) i.nm) d3)
        ⟨wq_in (by omega) (by omega), hdr ▸ con_isDrought (w := w) (i := i) (wa := wa) (wc := wc) (ma := some ⟨mb, mo, none⟩) (mc := mc) (k := 7) (n := 8) (by omega) hml, ltq_f (by omega), trivial⟩
        (by kernel_rfl) (by kernel_rfl) (by kernel_rfl) (by kernel_rfl) (by kernel_rfl) (by kernel_rfl) (by kernel_rfl) (by kernel_rfl) (by kernel_rfl) (by kernel_rfl) (ok1 _) (dr_same (l := []))
    | true =>
      have hu : upTo i tanks kn (b + 1) = widest i tanks (bitsDry i.nm b) (upTo i tanks kn b) := by simp only [upTo, hdr]; rfl
      show ∃ d' : Nat → Value, _
      rw [hu]
      exact g3.headB goFns_ok mixed_ok dr_writable
        (dr_yield (worldLo w) i (rawS wa i.nw wc) mb mo mc tanks (rowA (knE (upTo i tanks kn b)) i.nm) k dk ((2 ^ i.nm : Nat) : Int) b i.nm (rowA (boolE (bitsDry i.nm b)) i.nm) (rowA (knE (widest i tanks (bitsDry i.nm b) (upTo i tanks kn b))) i.nm) d3)
        ⟨wq_in (by omega) (by omega), rn_rj hi h1 hdk (fun much => hf much _) _, hdr ▸ con_isDrought (w := w) (i := i) (wa := wa) (wc := wc) (ma := some ⟨mb, mo, none⟩) (mc := mc) (k := 7) (n := 8) (by omega) hml, ltq_f (by omega), trivial⟩
        (by kernel_rfl) (by kernel_rfl) (by kernel_rfl) (by kernel_rfl) (by kernel_rfl) (by kernel_rfl) (by kernel_rfl) (by kernel_rfl) (by kernel_rfl) (by kernel_rfl) (ok1 _) (dr_same (l := []))
  have all : ∀ b, b ≤ 2 ^ i.nm → at1 b := by
    intro b
    induction b with
    | zero => intro _; exact s0
    | succ b ih => intro hb; exact next b (by omega) (ih (by omega))
  obtain ⟨d4, _, g4⟩ := all _ (Nat.le_refl _)
  exact g4.stdF goFns_ok mixed_ok dr_writable (os := drO i (rawS wa i.nw wc) mb mo mc tanks (rowA (knE (upTo i tanks kn (2 ^ i.nm))) i.nm) k dk)
    (dr_end (worldLo w) i (rawS wa i.nw wc) mb mo mc tanks (rowA (knE (upTo i tanks kn (2 ^ i.nm))) i.nm) k dk ((2 ^ i.nm : Nat) : Int) (2 ^ i.nm) d4)
    ⟨ltq_f (by omega), trivial⟩ (by kernel_rfl) (by kernel_rfl) (by kernel_rfl) (by kernel_rfl) (by kernel_rfl) (by kernel_rfl) (by kernel_rfl) (by kernel_rfl) (ok1 _) (dr_same (l := []))
end
end Go.Proofs.YtffdidleebognaaGreatDoor

namespace Go.Proofs.YtffdidleebognaaGreatDoor
open Go Go.CE Go.Proofs Go.RowKit Lens
theorem slots_args {a len : Nat} {l : List Value} (hl : l.length ≤ 16000) (h : ∀ v ∈ l, Loose v ∨ okV a 3 v = true) : SlotsOk a (ofList len l) := fun t => by
  have hg := ofL_get l 0 .lf t (by omega)
  have e : tget (ofList len l) t = (ofL l 0 .lf).get t := rfl
  rw [e, hg]
  simp only [Nat.zero_le, true_and, Nat.zero_add, Nat.sub_zero, Tri.get_lf]
  split
  · rename_i ht
    have : l.getD t undef ∈ l := by
      rw [List.getD_eq_getElem?_getD, List.getElem?_eq_getElem ht]
      exact List.getElem_mem ht
    exact h _ this
  · exact .inl fun _ _ _ hv => by
      have := af_eq (v := undef) (by simp [Go.undef, af]) hv
      rw [this]; exact VR.undef
section
variable {i : Isl} {wa : Option Addr} {wc mb mo mc : Nat} {ma : Option Addr} {tanks : Int} {w : World} {dk : Nat → Value} {k : Nat}
theorem dr_rj (hi : IslAt w w.heap.size i wa (some ⟨mb, mo, none⟩)) (h1 : 1 ≤ i.nm) (hdk : ∀ t, Loose (dk t)) (hf : ∀ much d, Fit i tanks (endTru i much i.nm d)) (kn : Nat → Kn) :
    RJ Tryz.prog (worldLo w) (entryC Tryz.prog 76 43 [.func (.yield 6) #[] #[], .pointer (some ⟨4, 0, none⟩)]) ((List.range 7).map fun q => (q, hget (heapO 0 (drO i (rawS wa i.nw wc) mb mo mc tanks (rowA (knE kn) i.nm) k dk)) q)) 7 (.tuple #[])
      [(2, .cells (rowA (knE (upTo i tanks kn (2 ^ i.nm))) i.nm) 56 (0, 0)), (6, .loop (knRec i (rawS wa i.nw wc) mb mo mc k dk))] 7 [2, 6] :=
  StdX.rj (os := drO i (rawS wa i.nw wc) mb mo mc tanks (rowA (knE kn) i.nm) k dk) (os' := drO i (rawS wa i.nw wc) mb mo mc tanks (rowA (knE (upTo i tanks kn (2 ^ i.nm))) i.nm) k dk)
    (dr_std hi h1 hdk hf kn) (slots_args (by decide) fun v hv => by
      simp only [List.mem_cons, List.not_mem_nil, or_false] at hv
      rcases hv with rfl | rfl
      · exact .inr (by kernel_rfl)
      · exact .inr (by kernel_rfl)) (by kernel_rfl) rfl rfl (fun l e => by cases e) (dr_fix (Nat.le_refl 7) hdk (loose_knE _ _)) (dr_fix (Nat.le_refl 7) hdk (loose_knE _ _)) (by kernel_rfl) (by kernel_rfl) (by kernel_rfl) (by kernel_rfl) (by kernel_rfl) (by kernel_rfl)
theorem con_droughts {n : Nat} : CJ Tryz.prog (worldLo w) 57 #[islR i wa wc (some ⟨mb, mo, none⟩) mc] [] n (.func (.func 76) #[] #[.pointer (some ⟨n, 0, none⟩)]) [(n, .cells (islC i (rawS wa i.nw wc) (rawS (some ⟨mb, mo, none⟩) i.nm mc)) 27 (0, 0))] (n + 1) [] := by
  have hl : looseO (.cells (islC i (rawS wa i.nw wc) (rawS (some ⟨mb, mo, none⟩) i.nm mc)) 27 (0, 0)) := loose_isl i wa wc (some ⟨mb, mo, none⟩) mc
  have h : StdJ Tryz.prog (worldLo w) 57 #[islR i wa wc (some ⟨mb, mo, none⟩) mc] (heapO 0 []) 0 (.func (.func 76) #[] #[.pointer (some ⟨0, 0, none⟩)])
      (heapO 0 [(false, .cells (islC i (rawS wa i.nw wc) (rawS (some ⟨mb, mo, none⟩) i.nm mc)) 27 (0, 0))]) 1 [] :=
    (GoE.refl (P := Tryz.prog) (B := worldLo w) (c0 := entryC Tryz.prog 57 4 [islR i wa wc (some ⟨mb, mo, none⟩) mc]) (under_heapO [] (Nat.le_refl 0))).std goFns_ok mixed_ok (by kernel_rfl) (writable_nil _ _)
      (os := [(false, .cells (islC i (rawS wa i.nw wc) (rawS (some ⟨mb, mo, none⟩) i.nm mc)) 27 (0, 0))]) (dro_run (worldLo w) i (rawS wa i.nw wc) (rawS (some ⟨mb, mo, none⟩) i.nm mc)) trivial
      (by kernel_rfl) (by kernel_rfl) (by kernel_rfl) (by kernel_rfl) (by kernel_rfl) (by kernel_rfl) (by kernel_rfl) (by kernel_rfl) ⟨.inr ⟨rfl, .inl hl⟩, trivial⟩ (fun j hj _ => by omega)
  have hloose : ∀ b ∈ ([] : List (Bool × Obj)) ++ [(false, Obj.cells (islC i (rawS wa i.nw wc) (rawS (some ⟨mb, mo, none⟩) i.nm mc)) 27 (0, 0))], looseO b.2 := by
    intro b hb
    simp only [List.nil_append, List.mem_cons, List.not_mem_nil, or_false] at hb
    rw [hb]; exact hl
  rcases wa with _ | ⟨b, o, _ | z⟩
  all_goals exact (StdJ.rows (kept := []) (l := []) (n := n) h rfl (fun k hk => by simp at hk) rfl hloose (by kernel_rfl) (by kernel_rfl)).cast (by kernel_rfl) (by kernel_rfl) (by kernel_rfl) (by kernel_rfl) (by kernel_rfl)
end
end Go.Proofs.YtffdidleebognaaGreatDoor

namespace Go.Proofs.YtffdidleebognaaGreatDoor
open Go Go.CE Go.Proofs Go.RowKit Lens
/-- No bounds yet. -/
def noKn : Kn := ⟨9223372036854775807, -9223372036854775808, 9223372036854775807, -9223372036854775808, 9223372036854775807, -9223372036854775808⟩
def zeroKn : Kn := ⟨0, 0, 0, 0, 0, 0⟩
def fillK (m j : Nat) : Kn := if j < m then noKn else zeroKn
theorem fill_splice {n m : Nat} (hm : m < n) : 0 + m * 6 + 6 ≤ (rowA (knE (fillK m)) n).size ∧ splice (rowA (knE (fillK m)) n) (0 + m * 6) #[.int .i64 9223372036854775807, .int .i64 (-9223372036854775808), .int .i64 9223372036854775807, .int .i64 (-9223372036854775808), .int .i64 9223372036854775807, .int .i64 (-9223372036854775808)] = rowA (knE (fillK (m + 1))) n := by
  have := row_splice (e := knE (fillK m)) (z := 6) (n := n) (x := knE (fun _ => noKn) m) (fun _ => rfl) rfl hm
  rw [Nat.zero_add]
  refine ⟨this.1, this.2.trans (row_congr n fun k hk => ?_)⟩
  by_cases h : k = m
  · subst h
    simp only [if_true, knE, fillK, show k < k + 1 by omega]
  · rw [if_neg h]
    simp only [knE, fillK]
    by_cases h2 : k < m
    · simp only [h2, show k < m + 1 by omega]
    · simp only [h2, show ¬ k < m + 1 by omega]
theorem fill_all (n : Nat) : rowA (knE (fillK n)) n = rowA (knE fun _ => noKn) n := row_congr n fun k hk => by simp [knE, fillK, hk]
section
variable {i : Isl} {wa : Option Addr} {wc mb mo mc : Nat} {ma : Option Addr} {tanks : Int} {w : World} {dk : Nat → Value} {k : Nat}
set_option maxRecDepth 100000 in
theorem known_any (hi : IslAt w w.heap.size i wa ma) (h1 : 1 ≤ i.nm) (hf : ∀ much d, Fit i tanks (endTru i much i.nm d)) :
    Calls Tryz.prog 38 #[islV i wa wc ma mc, .int .i64 tanks] w fun e' w' => (∃ g c, e' = .returned (.slice (some ⟨g, 0, none⟩) i.nm c) ∧ w.heap.size ≤ g ∧ g < w'.heap.size ∧ i.nm ≤ c ∧ c ≤ maxLen ∧
      ∀ (j : Nat) v, (rowA (knE (upTo i tanks (fun _ => noKn) (2 ^ i.nm))) i.nm)[j]? = some v → w'.cell? ⟨g, j, none⟩ = some v) ∧ Below w.heap.size w w' := by
  have h8 : i.nm ≤ 8 := (hf true fun _ => false).nm
  obtain ⟨mb, mo, rfl, _⟩ := monsGet hi.months (show 0 < i.nm by omega)
  have ok1 : ∀ kn', OkAll 4 (knO i (rawS wa i.nw wc) mb mo mc tanks (rowA (knE kn') i.nm)) := fun kn' =>
    ⟨.inr ⟨rfl, loose_isl i wa wc (some ⟨mb, mo, none⟩) mc⟩, .inl ⟨rfl, by kernel_rfl⟩, .inr ⟨rfl, loose_knE _ _⟩, .inl ⟨rfl, by kernel_rfl⟩, trivial⟩
  let c0 := entryC Tryz.prog 38 70 [islR i wa wc (some ⟨mb, mo, none⟩) mc, .int .i64 tanks]
  let at1 : Nat → Prop := fun m => ∃ d' : Nat → Value, (∀ t, Loose (d' t)) ∧ GoE Tryz.prog (worldLo w) c0 [] 0
    (headC 38 70 (knL i.nm m) d' (knT.map (it (bodyOf Tryz.prog 38)))) (heapO 0 (knO i (rawS wa i.nw wc) mb mo mc tanks (rowA (knE (fillK m)) i.nm))) 4 []
  have hmk : cMake Tryz.prog 32 (.int .i64 (i.nm : Int)) (.int .i64 (i.nm : Int)) = some (56, rowA (knE (fillK 0)) i.nm, i.nm, 6) := by
    have e : rowA (knE (fillK 0)) i.nm = rowA (fun _ => [.int .i64 0, .int .i64 0, .int .i64 0, .int .i64 0, .int .i64 0, .int .i64 0]) i.nm := row_congr _ fun k _ => by simp [knE, fillK, zeroKn]
    rw [e]
    exact cMake_row (P := Tryz.prog) (t := 32) (e := 56) (i := Go.Proofs.Tryz.t56) (zv := .agg #[.int .i64 0, .int .i64 0, .int .i64 0, .int .i64 0, .int .i64 0, .int .i64 0]) (by kernel_rfl) (by kernel_rfl) (by kernel_rfl) (by kernel_rfl) (by decide) (by kernel_rfl) (by show 48 * i.nm ≤ _; omega) (by omega)
  have s0 : at1 0 := (GoE.refl (P := Tryz.prog) (B := worldLo w) (c0 := c0) under_nil).headO goFns_ok mixed_ok
    (kn_entry (worldLo w) i (rawS wa i.nw wc) mb mo mc tanks (rowA (knE (fillK 0)) i.nm)) ⟨hmk, trivial⟩
    (by kernel_rfl) (by kernel_rfl) (by kernel_rfl) (by kernel_rfl) (by kernel_rfl) (by kernel_rfl) (ok1 _)
  have all : ∀ m, m ≤ i.nm → at1 m := by
    intro m
    induction m with
    | zero => intro _; exact s0
    | succ m ih =>
      intro hm
      obtain ⟨d', _, g⟩ := ih (by omega)
      have hlt : m < i.nm := by omega
      exact g.headO goFns_ok mixed_ok
        (kn_fill (worldLo w) i (rawS wa i.nw wc) mb mo mc tanks (rowA (knE (fillK m)) i.nm) (rowA (knE (fillK (m + 1))) i.nm) m d') ⟨wq_in (by omega) (by omega), fill_splice hlt, ⟨rfl, hlt⟩, con_none, con_none, con_none, ltq_t (by omega), trivial⟩
        (by kernel_rfl) (by kernel_rfl) (by kernel_rfl) (by kernel_rfl) (by kernel_rfl) (by kernel_rfl) (ok1 _)
  obtain ⟨d1, hd1, g⟩ := all _ (Nat.le_refl _)
  rw [fill_all] at g
  have hcalls := g.calls goFns_ok mixed_ok (f := 38) (args := #[islR i wa wc (some ⟨mb, mo, none⟩) mc, .int .i64 tanks]) (args' := #[islV i wa wc (some ⟨mb, mo, none⟩) mc, .int .i64 tanks]) (by kernel_rfl)
    (kn_range (worldLo w) i (rawS wa i.nw wc) mb mo mc tanks (rowA (knE fun _ => noKn) i.nm) (rowA (knE (upTo i tanks (fun _ => noKn) (2 ^ i.nm))) i.nm) i.nm d1) ⟨dr_rj hi h1 hd1 hf _, con_droughts, ltq_f (by omega), trivial⟩ (worldLo_has w)
    (VRl.vrs' (.cons (vr_isl i wa wc (some ⟨mb, mo, none⟩) mc) (.cons (.int _ _) .nil)))
  refine hcalls.mono fun en w' ⟨v', μ', he, hv, hb, hnew⟩ => ⟨?_, hb⟩
  have hrow := af_row (hnew 0 2 (rowA (knE (upTo i tanks (fun _ => noKn) (2 ^ i.nm))) i.nm) 56 rfl rfl) (rowA_mem i.nm fun j _ v hv => by
    simp only [knE, List.mem_cons, List.not_mem_nil, or_false] at hv
    rcases hv with rfl | rfl | rfl | rfl | rfl | rfl <;> rfl)
  obtain ⟨g', cap, k1, k2, k3, k4⟩ := hrow
  obtain ⟨c, rfl, hc1, hc2⟩ := hv.slice_new k3
  exact ⟨g', c, he, k1, k2, hc1, hc2, k4⟩
end
end Go.Proofs.YtffdidleebognaaGreatDoor

namespace Go.Proofs.YtffdidleebognaaGreatDoor
open Go Go.CE Go.Proofs Go.RowKit Lens
set_option maxRecDepth 100000 in
theorem kw_fine (B : Lo) (i : Isl) (W M : Value) (tanks : Int) (A : Array Value) : endedB (srun Tryz.prog goFns B 11 0 (entryC Tryz.prog 13 17 [.agg (islC i W M), .int .i64 tanks]) (heapO 0 []) 0
    [(4, Hint.call [] (Value.bool true) [] 1 []),
(8, Hint.call [] (Value.bool true) [] 1 []),
(13, Hint.call [] (Value.slice (some { block := 1, off := 0 }) (Isl.nm i) 0) [(1, Obj.cells A 56 (1, 1))] 2 [])] 0 [] []) ((kz [1] [(false, .cells A 56 (1, 1))]).map (·.old)) = some (⟨.ret (rnV (rhoK (kz [1] [(false, .cells A 56 (1, 1))])) 3 (.tuple #[.slice (some ⟨0, 0, none⟩) i.nm 0, .int .i64 0])), (kz [1] [(false, .cells A 56 (1, 1))]).map (fun kept_ => some (wasK (rhoK (kz [1] [(false, .cells A 56 (1, 1))])) kept_)), 2,
    [CJ Tryz.prog B 38
  #[Value.agg
      #[Value.int IntKind.i64 (Isl.cap i), Value.int IntKind.i64 (Isl.sl i), Value.int IntKind.i64 (Isl.sh i),
        Value.int IntKind.i64 (Isl.roof i), Value.int IntKind.i64 (Isl.sand i), Value.int IntKind.i64 (Isl.kl i),
        Value.int IntKind.i64 (Isl.kh i), Value.int IntKind.i64 (Isl.ll i), Value.int IntKind.i64 (Isl.lh i),
        Value.int IntKind.i64 (Isl.pump i), Value.int IntKind.i64 (Isl.keep i), Value.int IntKind.i64 (Isl.size i), W,
        M, Value.int IntKind.i64 (Isl.most i), Value.int IntKind.i64 (Isl.row i)],
    Value.int IntKind.i64 tanks]
  [] 1 (Value.slice (some { block := 1, off := 0 }) (Isl.nm i) 0) [(1, Obj.cells A 56 (1, 1))] 2 [],
CJ Tryz.prog B 37 #[Value.int IntKind.i64 tanks] [] 1 (Value.bool true) [] 1 [],
CJ Tryz.prog B 36
  #[Value.agg
      #[Value.int IntKind.i64 (Isl.cap i), Value.int IntKind.i64 (Isl.sl i), Value.int IntKind.i64 (Isl.sh i),
        Value.int IntKind.i64 (Isl.roof i), Value.int IntKind.i64 (Isl.sand i), Value.int IntKind.i64 (Isl.kl i),
        Value.int IntKind.i64 (Isl.kh i), Value.int IntKind.i64 (Isl.ll i), Value.int IntKind.i64 (Isl.lh i),
        Value.int IntKind.i64 (Isl.pump i), Value.int IntKind.i64 (Isl.keep i), Value.int IntKind.i64 (Isl.size i), W,
        M, Value.int IntKind.i64 (Isl.most i), Value.int IntKind.i64 (Isl.row i)]]
  [] 1 (Value.bool true) [] 1 []]⟩, []) := by kernel_rfl
theorem fit_end {i : Isl} {tanks : Int} (hi : islB i = true) (ht : tanksB tanks = true) (much : Bool) (nd : Nat) (d : Nat → Bool) : Fit i tanks (endTru i much nd d) := by
  simp only [islB, monthsB, tanksB, Bool.and_eq_true, isInB_iff, isSpanB_iff, allTo_iff] at hi ht
  obtain ⟨⟨⟨⟨⟨⟨⟨⟨⟨⟨⟨⟨i1, i2⟩, i3⟩, i4⟩, i5⟩, i6⟩, i7⟩, i8⟩, i9⟩, i10⟩, ⟨i11, i12⟩⟩, i13⟩, i14⟩ := hi
  have mon : ∀ k, k < i.nm → (0 ≤ (i.months k).wl ∧ (i.months k).wl ≤ (i.months k).wh ∧ (i.months k).wh ≤ 2000) ∧ (0 ≤ (i.months k).dl ∧ (i.months k).dl ≤ (i.months k).dh ∧ (i.months k).dh ≤ 2000) ∧ (0 ≤ (i.months k).nl ∧ (i.months k).nl ≤ (i.months k).nh ∧ (i.months k).nh ≤ 10000000) := by
    intro k hk
    have := i12 k hk
    simp only [monB, Bool.and_eq_true, isSpanB_iff, decide_eq_true_eq] at this
    obtain ⟨⟨⟨⟨m1, m2⟩, m3⟩, _⟩, _⟩ := this
    exact ⟨m1, m2, m3⟩
  refine ⟨by omega, by omega, i3.1, i3.2, i4.1, i4.2, i7.1, i7.2, i9.1, i9.2, i8.1, i8.2, ht.1, ht.2, by omega, ?_, ?_, ?_, ?_, ?_, ?_, rfl, rfl, ?_, ?_⟩
  · cases much <;> simp only [endTru, lohi] <;> simp <;> omega
  · cases much <;> simp only [endTru, lohi] <;> simp <;> omega
  · cases much <;> simp only [endTru, lohi] <;> simp <;> omega
  · cases much <;> simp only [endTru, lohi] <;> simp <;> omega
  · cases much <;> simp only [endTru, lohi] <;> simp <;> omega
  · cases much <;> simp only [endTru, lohi] <;> simp <;> omega
  · intro k hk
    have := mon k hk
    cases much <;> cases h : d k <;> simp only [endTru, lohi, rlo, rhi, h] <;> simp <;> omega
  · intro k hk
    have := mon k hk
    cases much <;> simp only [endTru, lohi] <;> simp <;> omega
section
variable {i : Isl} {wa : Option Addr} {wc mc : Nat} {ma : Option Addr} {tanks : Int} {w : World}
def knA (i : Isl) (tanks : Int) : Array Value := rowA (knE (upTo i tanks (fun _ => noKn) (2 ^ i.nm))) i.nm
theorem knE_af (kn : Nat → Kn) (n : Nat) : ∀ v ∈ rowA (knE kn) n, af v = true := rowA_mem n fun j _ v hv => by
  simp only [knE, List.mem_cons, List.not_mem_nil, or_false] at hv
  rcases hv with rfl | rfl | rfl | rfl | rfl | rfl <;> rfl
theorem con_known0 {n : Nat} (hi : IslAt w w.heap.size i wa ma) (h1 : islB i = true) (h2 : tanksB tanks = true) :
    CJ Tryz.prog (worldLo w) 38 #[islR i wa wc ma mc, .int .i64 tanks] [] n (.slice (some ⟨n, 0, none⟩) i.nm 0) [(n, .cells (knA i tanks) 56 (1, 1))] (n + 1) [] :=
  cj_row (knE_af _ _) fun μ w' args' hB ha => by
    have hl : ExL [islR i wa wc ma mc, .int .i64 tanks] [islV i wa wc ma mc, .int .i64 tanks] := .cons (exact_isl _ _ _ _ _) (.cons (exact_af rfl) .nil)
    rw [hl.args ha]
    have hnm : 1 ≤ i.nm := by
      simp only [islB, monthsB, Bool.and_eq_true, isInB_iff] at h1
      omega
    refine (known_any (islAt_lo hi hB) hnm fun much d => fit_end h1 h2 much _ d).mono fun e w'' ⟨⟨g, c, he, k1, k2, k3, k4, k5⟩, hb⟩ => ⟨⟨g, _, k1, k2, he, k5, fun μ' hμ => .slice ⟨_, hμ, rfl, rfl⟩ k3 k4 fun h => absurd rfl h⟩, hb⟩
theorem con_isIslet {n : Nat} (hi : IslAt w w.heap.size i wa ma) : CJ Tryz.prog (worldLo w) 36 #[islR i wa wc ma mc] [] n (.bool (islB i)) [] n [] :=
  con_of (.cons (exact_isl _ _ _ _ _) .nil) (exact_af rfl) fun w' hw => isIslet_any i wa wc ma mc w' (islAt_lo hi hw)
theorem con_areTanks {n : Nat} : CJ Tryz.prog (worldLo w) 37 #[.int .i64 tanks] [] n (.bool (tanksB tanks)) [] n [] :=
  con_of (l := [.int .i64 tanks]) (l' := [.int .i64 tanks]) (.cons (exact_af rfl) .nil) (exact_af rfl) fun w' _ => (areTanks_any tanks w').mono fun _ _ ⟨h1, h2⟩ => ⟨h1, h2 ▸ Below.refl _ _⟩
theorem con_Known {n : Nat} (hi : IslAt w w.heap.size i wa ma) (h1 : islB i = true) (h2 : tanksB tanks = true) :
    CJ Tryz.prog (worldLo w) 13 #[islR i wa wc ma mc, .int .i64 tanks] [] n (.tuple #[.slice (some ⟨n, 0, none⟩) i.nm 0, .int .i64 0]) [(n, .cells (knA i tanks) 56 (1, 1))] (n + 1) [] := by
  have hA : looseO (.cells (knA i tanks) 56 (1, 1)) := loose_knE _ _
  have h : StdJ Tryz.prog (worldLo w) 13 #[islR i wa wc ma mc, .int .i64 tanks] (heapO 0 []) 0 (.tuple #[.slice (some ⟨0, 0, none⟩) i.nm 0, .int .i64 0]) (heapO 0 [(false, .cells (knA i tanks) 56 (1, 1))]) 1 [] :=
    (GoE.refl (P := Tryz.prog) (B := worldLo w) (c0 := entryC Tryz.prog 13 17 [islR i wa wc ma mc, .int .i64 tanks]) (under_heapO [] (Nat.le_refl 0))).std goFns_ok mixed_ok (by kernel_rfl) (writable_nil _ _)
      (os := [(false, .cells (knA i tanks) 56 (1, 1))]) (kw_fine (worldLo w) i (rawS wa i.nw wc) (rawS ma i.nm mc) tanks (knA i tanks)) ⟨con_known0 hi h1 h2, h2 ▸ con_areTanks, h1 ▸ con_isIslet hi, trivial⟩
      (by kernel_rfl) (by kernel_rfl) (by kernel_rfl) (by kernel_rfl) (by kernel_rfl) (by kernel_rfl) (by kernel_rfl) (by kernel_rfl) ⟨.inr ⟨rfl, .inl hA⟩, trivial⟩ (fun j hj _ => by omega)
  have hloose : ∀ b ∈ ([] : List (Bool × Obj)) ++ [(false, Obj.cells (knA i tanks) 56 (1, 1))], looseO b.2 := by
    intro b hb
    simp only [List.nil_append, List.mem_cons, List.not_mem_nil, or_false] at hb
    rw [hb]; exact hA
  rcases wa with _ | ⟨b, o, _ | z⟩ <;> rcases ma with _ | ⟨b', o', _ | z'⟩
  all_goals exact (StdJ.rows (kept := []) (l := []) (n := n) h rfl (fun k hk => by simp at hk) rfl hloose (by kernel_rfl) (by kernel_rfl)).cast (by kernel_rfl) (by kernel_rfl) (by kernel_rfl) (by kernel_rfl) (by kernel_rfl)
end
end Go.Proofs.YtffdidleebognaaGreatDoor

namespace Go.Proofs.YtffdidleebognaaGreatDoor
open Lens
/-- An end lies within bounds. -/
structure Within (s : Seen) (k : Kn) : Prop where
  t0 : k.tl ≤ s.tanks
  t1 : s.tanks ≤ k.th
  l0 : k.ll ≤ s.lens
  l1 : s.lens ≤ k.lh
  k0 : k.kl ≤ s.lack
  k1 : s.lack ≤ k.kh
theorem wid_in (k : Kn) (s : Seen) : Within s (wid k s) := by
  constructor <;> simp only [wid] <;> omega
theorem wid_keeps {k : Kn} {s : Seen} (x : Seen) (h : Within s k) : Within s (wid k x) := by
  obtain ⟨a, b, c, d, e, f⟩ := h
  constructor <;> simp only [wid] <;> omega
theorem widest_at {i : Isl} {tanks : Int} {d : Nat → Bool} {kn : Nat → Kn} {j : Nat} (hj : j < i.nm) : widest i tanks d kn j = wid (wid (kn j) (endsOf i tanks false d j)) (endsOf i tanks true d j) := by
  simp only [widest, pass, hj, if_true]
theorem upTo_keeps {i : Isl} {tanks : Int} {kn : Nat → Kn} {j : Nat} (hj : j < i.nm) {s : Seen} {b : Nat} (h : Within s (upTo i tanks kn b j)) : Within s (upTo i tanks kn (b + 1) j) := by
  simp only [upTo]
  split
  · rw [widest_at hj]
    exact wid_keeps _ (wid_keeps _ h)
  · exact h
theorem upTo_has {i : Isl} {tanks : Int} {kn : Nat → Kn} {j : Nat} (hj : j < i.nm) {b0 : Nat} (hd : drB i.most i.row i.nm (bitsDry i.nm b0) = true) : ∀ b, b0 < b → Within (endsOf i tanks false (bitsDry i.nm b0) j) (upTo i tanks kn b j) ∧ Within (endsOf i tanks true (bitsDry i.nm b0) j) (upTo i tanks kn b j) := by
  intro b
  induction b with
  | zero => intro h; omega
  | succ b ih =>
    intro h
    rcases Nat.lt_or_ge b0 b with hlt | hge
    · exact ⟨upTo_keeps hj (ih hlt).1, upTo_keeps hj (ih hlt).2⟩
    · have : b0 = b := by omega
      subst this
      simp only [upTo, hd, if_true]
      rw [widest_at hj]
      exact ⟨wid_keeps _ (wid_in _ _), wid_in _ _⟩
theorem bits_of (d : Nat → Bool) : ∀ n, ∃ b, b < 2 ^ n ∧ ∀ j, j < n → bitsDry n b j = d j
  | 0 => ⟨0, by simp, fun j h => by omega⟩
  | n + 1 => by
    obtain ⟨b, hb, h⟩ := bits_of d n
    refine ⟨2 * b + (d n).toNat, ?_, fun j hj => ?_⟩
    · have : (d n).toNat ≤ 1 := Bool.toNat_le _
      rw [Nat.pow_succ]; omega
    · have h1 : (d n).toNat ≤ 1 := Bool.toNat_le _
      simp only [bitsDry]
      rcases Nat.lt_or_ge j n with hlt | hge
      · have e : n + 1 - 1 - j = (n - 1 - j) + 1 := by omega
        rw [e, Nat.testBit_succ, show (2 * b + (d n).toNat) / 2 = b by omega]
        exact h j hlt
      · have : j = n := by omega
        subst this
        rw [show j + 1 - 1 - j = 0 by omega, Nat.testBit_zero]
        cases d j <;> simp <;> omega
theorem drAll_congr {d d' : Nat → Bool} : ∀ k, (∀ j, j < k → d j = d' j) → drAll d k = drAll d' k
  | 0, _ => rfl
  | k + 1, h => by simp only [drAll, h k (by omega), drAll_congr k fun j hj => h j (by omega)]
theorem drRow_congr {d d' : Nat → Bool} : ∀ k, (∀ j, j < k → d j = d' j) → drRow d k = drRow d' k
  | 0, _ => rfl
  | k + 1, h => by simp only [drRow, h k (by omega), drRow_congr k fun j hj => h j (by omega)]
theorem drB_congr {most row : Int} {n : Nat} {d d' : Nat → Bool} (h : ∀ j, j < n → d j = d' j) (hd : drB most row n d = true) : drB most row n d' = true := by
  simp only [drB, allTo_iff] at hd ⊢
  intro k hk
  have := hd k hk
  simp only [drOk] at this ⊢
  rw [← h k hk, ← drAll_congr (k + 1) fun j hj => h j (by omega), ← drRow_congr (k + 1) fun j hj => h j (by omega)]
  exact this
theorem less_low {i : Isl} {t : Tru} {d : Nat → Bool} (ht : truB i t = true) (hd : ∀ j, j < i.nm → d j = t.dry j) : LessT i.nm (endTru i false i.nm d) t := by
  simp only [truB, Bool.and_eq_true, isInB_iff, allTo_iff] at ht
  obtain ⟨⟨⟨⟨⟨⟨⟨u1, u2⟩, u3⟩, _⟩, _⟩, _⟩, _⟩, u8⟩ := ht
  refine ⟨u1.1, u2.1, u3.2, fun k hk => ?_, fun k hk => ?_⟩
  · have := u8 k hk
    simp only [truOk, Bool.and_eq_true, isInB_iff] at this
    rw [← hd k hk] at this
    exact this.1.1
  · have := u8 k hk
    simp only [truOk, Bool.and_eq_true, isInB_iff] at this
    exact this.2.2
theorem less_high {i : Isl} {t : Tru} {d : Nat → Bool} (ht : truB i t = true) (hd : ∀ j, j < i.nm → d j = t.dry j) : LessT i.nm t (endTru i true i.nm d) := by
  simp only [truB, Bool.and_eq_true, isInB_iff, allTo_iff] at ht
  obtain ⟨⟨⟨⟨⟨⟨⟨u1, u2⟩, u3⟩, _⟩, _⟩, _⟩, _⟩, u8⟩ := ht
  refine ⟨u1.2, u2.2, u3.1, fun k hk => ?_, fun k hk => ?_⟩
  · have := u8 k hk
    simp only [truOk, Bool.and_eq_true, isInB_iff] at this
    rw [← hd k hk] at this
    exact this.1.2
  · have := u8 k hk
    simp only [truOk, Bool.and_eq_true, isInB_iff] at this
    exact this.2.1
/-- Whatever is true, each month's end lies within what is known. -/
theorem true_within {i : Isl} {tanks : Int} {t : Tru} (h1 : islB i = true) (h2 : tanksB tanks = true) (h3 : truB i t = true) {j : Nat} (hj : j < i.nm) : Within (seenOf (runTo i tanks t (j + 1))) (upTo i tanks (fun _ => noKn) (2 ^ i.nm) j) := by
  obtain ⟨b0, hb, hd⟩ := bits_of t.dry i.nm
  have hdr : drB i.most i.row i.nm (bitsDry i.nm b0) = true := by
    have h := h3
    simp only [truB, Bool.and_eq_true, decide_eq_true_eq] at h
    obtain ⟨⟨⟨⟨⟨_, e⟩, _⟩, _⟩, hdr⟩, _⟩ := h
    rw [e] at hdr
    exact drB_congr (fun j hj => (hd j hj).symm) hdr
  obtain ⟨lo, hi⟩ := upTo_has (tanks := tanks) (kn := fun _ => noKn) hj hdr _ hb
  have ft := fit_of h1 h2 h3
  have m1 := run_mono (fit_end h1 h2 false i.nm (bitsDry i.nm b0)) ft (less_low h3 hd) (j + 1) (by omega)
  have m2 := run_mono ft (fit_end h1 h2 true i.nm (bitsDry i.nm b0)) (less_high h3 hd) (j + 1) (by omega)
  exact ⟨Int.le_trans lo.t0 m1.tanks, Int.le_trans m2.tanks hi.t1, Int.le_trans lo.l0 m1.lens, Int.le_trans m2.lens hi.l1, Int.le_trans hi.k0 m2.lack, Int.le_trans m1.lack lo.k1⟩
end Go.Proofs.YtffdidleebognaaGreatDoor

namespace Go.Proofs.YtffdidleebognaaGreatDoor
open Go Go.CE Go.Proofs Go.RowKit Lens
def ltL (nm k : Nat) : List (Nat × Value) := [(7, .slice (some ⟨0, 0, none⟩) nm 0), (10, .slice (some ⟨1, 0, none⟩) nm 0), (12, .int .i64 k)]
def ltO (E K : Array Value) : List (Bool × Obj) := [(false, .cells E 53 (1, 1)), (false, .cells K 56 (1, 1))]
def ltT : List It := [.code [1, 1, 1, 1, 1, 0, 1, 0, 0], .inLoop [1, 1, 1, 1, 1, 0, 1, 0, 0], .inBlock 0, .code [1, 1, 1, 1, 1, 1]]
set_option maxRecDepth 100000 in
theorem lt_short (B : Lo) (i : Isl) (t : Tru) (tanks : Int) (W M D R N : Value) : ended (srun Tryz.prog goFns B 10 0 (entryC Tryz.prog 6 116 [.agg (islC i W M), .int .i64 tanks, .agg (truC t D R N)]) [] 0
    [(4, Hint.call [] (Value.bool false) [] 2 []),
(23, Hint.call [] (Value.bool true) [] 2 [])] 0 [] []) [] = some ⟨.ret (.bool true), [], 2,
    [CJ Tryz.prog B 11 #[] [] 2 (Value.bool true) [] 2 [],
CJ Tryz.prog B 18
  #[Value.agg
      #[Value.int IntKind.i64 (Isl.cap i), Value.int IntKind.i64 (Isl.sl i), Value.int IntKind.i64 (Isl.sh i),
        Value.int IntKind.i64 (Isl.roof i), Value.int IntKind.i64 (Isl.sand i), Value.int IntKind.i64 (Isl.kl i),
        Value.int IntKind.i64 (Isl.kh i), Value.int IntKind.i64 (Isl.ll i), Value.int IntKind.i64 (Isl.lh i),
        Value.int IntKind.i64 (Isl.pump i), Value.int IntKind.i64 (Isl.keep i), Value.int IntKind.i64 (Isl.size i), W,
        M, Value.int IntKind.i64 (Isl.most i), Value.int IntKind.i64 (Isl.row i)]]
  [] 2 (Value.bool false) [] 2 []]⟩ := by kernel_rfl
set_option maxRecDepth 100000 in
theorem lt_sized (B : Lo) (i : Isl) (t : Tru) (tanks : Int) (W M D R N : Value) : ended (srun Tryz.prog goFns B 10 0 (entryC Tryz.prog 6 116 [.agg (islC i W M), .int .i64 tanks, .agg (truC t D R N)]) [] 0
    [(4, Hint.call [] (Value.bool true) [] 2 []),
(8, Hint.call [] (Value.bool false) [] 2 []),
(23, Hint.call [] (Value.bool true) [] 2 [])] 0 [] []) [] = some ⟨.ret (.bool true), [], 2,
    [CJ Tryz.prog B 11 #[] [] 2 (Value.bool true) [] 2 [],
CJ Tryz.prog B 19
  #[Value.agg
      #[Value.int IntKind.i64 (Tru.start t), Value.int IntKind.i64 (Tru.soak t), Value.int IntKind.i64 (Tru.leak t), D,
        R, N]]
  [] 2 (Value.bool false) [] 2 [],
CJ Tryz.prog B 18
  #[Value.agg
      #[Value.int IntKind.i64 (Isl.cap i), Value.int IntKind.i64 (Isl.sl i), Value.int IntKind.i64 (Isl.sh i),
        Value.int IntKind.i64 (Isl.roof i), Value.int IntKind.i64 (Isl.sand i), Value.int IntKind.i64 (Isl.kl i),
        Value.int IntKind.i64 (Isl.kh i), Value.int IntKind.i64 (Isl.ll i), Value.int IntKind.i64 (Isl.lh i),
        Value.int IntKind.i64 (Isl.pump i), Value.int IntKind.i64 (Isl.keep i), Value.int IntKind.i64 (Isl.size i), W,
        M, Value.int IntKind.i64 (Isl.most i), Value.int IntKind.i64 (Isl.row i)]]
  [] 2 (Value.bool true) [] 2 []]⟩ := by kernel_rfl
set_option maxRecDepth 100000 in
theorem lt_asked (B : Lo) (i : Isl) (t : Tru) (tanks : Int) (W M D R N : Value) : ended (srun Tryz.prog goFns B 10 0 (entryC Tryz.prog 6 116 [.agg (islC i W M), .int .i64 tanks, .agg (truC t D R N)]) [] 0
    [(4, Hint.call [] (Value.bool true) [] 2 []),
(8, Hint.call [] (Value.bool true) [] 2 []),
(14, Hint.call [] (Value.bool false) [] 2 []),
(23, Hint.call [] (Value.bool true) [] 2 [])] 0 [] []) [] = some ⟨.ret (.bool true), [], 2,
    [CJ Tryz.prog B 11 #[] [] 2 (Value.bool true) [] 2 [],
CJ Tryz.prog B 15
  #[Value.agg
      #[Value.int IntKind.i64 (Isl.cap i), Value.int IntKind.i64 (Isl.sl i), Value.int IntKind.i64 (Isl.sh i),
        Value.int IntKind.i64 (Isl.roof i), Value.int IntKind.i64 (Isl.sand i), Value.int IntKind.i64 (Isl.kl i),
        Value.int IntKind.i64 (Isl.kh i), Value.int IntKind.i64 (Isl.ll i), Value.int IntKind.i64 (Isl.lh i),
        Value.int IntKind.i64 (Isl.pump i), Value.int IntKind.i64 (Isl.keep i), Value.int IntKind.i64 (Isl.size i), W,
        M, Value.int IntKind.i64 (Isl.most i), Value.int IntKind.i64 (Isl.row i)],
    Value.int IntKind.i64 tanks]
  [] 2 (Value.bool false) [] 2 [],
CJ Tryz.prog B 19
  #[Value.agg
      #[Value.int IntKind.i64 (Tru.start t), Value.int IntKind.i64 (Tru.soak t), Value.int IntKind.i64 (Tru.leak t), D,
        R, N]]
  [] 2 (Value.bool true) [] 2 [],
CJ Tryz.prog B 18
  #[Value.agg
      #[Value.int IntKind.i64 (Isl.cap i), Value.int IntKind.i64 (Isl.sl i), Value.int IntKind.i64 (Isl.sh i),
        Value.int IntKind.i64 (Isl.roof i), Value.int IntKind.i64 (Isl.sand i), Value.int IntKind.i64 (Isl.kl i),
        Value.int IntKind.i64 (Isl.kh i), Value.int IntKind.i64 (Isl.ll i), Value.int IntKind.i64 (Isl.lh i),
        Value.int IntKind.i64 (Isl.pump i), Value.int IntKind.i64 (Isl.keep i), Value.int IntKind.i64 (Isl.size i), W,
        M, Value.int IntKind.i64 (Isl.most i), Value.int IntKind.i64 (Isl.row i)]]
  [] 2 (Value.bool true) [] 2 []]⟩ := by kernel_rfl
set_option maxRecDepth 100000 in
theorem lt_truth (B : Lo) (i : Isl) (t : Tru) (tanks : Int) (W M D R N : Value) : ended (srun Tryz.prog goFns B 10 0 (entryC Tryz.prog 6 116 [.agg (islC i W M), .int .i64 tanks, .agg (truC t D R N)]) [] 0
    [(4, Hint.call [] (Value.bool true) [] 2 []),
(8, Hint.call [] (Value.bool true) [] 2 []),
(14, Hint.call [] (Value.bool true) [] 2 []),
(20, Hint.call [] (Value.bool false) [] 2 []),
(23, Hint.call [] (Value.bool true) [] 2 [])] 0 [] []) [] = some ⟨.ret (.bool true), [], 2,
    [CJ Tryz.prog B 11 #[] [] 2 (Value.bool true) [] 2 [],
CJ Tryz.prog B 21
  #[Value.agg
      #[Value.int IntKind.i64 (Isl.cap i), Value.int IntKind.i64 (Isl.sl i), Value.int IntKind.i64 (Isl.sh i),
        Value.int IntKind.i64 (Isl.roof i), Value.int IntKind.i64 (Isl.sand i), Value.int IntKind.i64 (Isl.kl i),
        Value.int IntKind.i64 (Isl.kh i), Value.int IntKind.i64 (Isl.ll i), Value.int IntKind.i64 (Isl.lh i),
        Value.int IntKind.i64 (Isl.pump i), Value.int IntKind.i64 (Isl.keep i), Value.int IntKind.i64 (Isl.size i), W,
        M, Value.int IntKind.i64 (Isl.most i), Value.int IntKind.i64 (Isl.row i)],
    Value.agg
      #[Value.int IntKind.i64 (Tru.start t), Value.int IntKind.i64 (Tru.soak t), Value.int IntKind.i64 (Tru.leak t), D,
        R, N]]
  [] 2 (Value.bool false) [] 2 [],
CJ Tryz.prog B 15
  #[Value.agg
      #[Value.int IntKind.i64 (Isl.cap i), Value.int IntKind.i64 (Isl.sl i), Value.int IntKind.i64 (Isl.sh i),
        Value.int IntKind.i64 (Isl.roof i), Value.int IntKind.i64 (Isl.sand i), Value.int IntKind.i64 (Isl.kl i),
        Value.int IntKind.i64 (Isl.kh i), Value.int IntKind.i64 (Isl.ll i), Value.int IntKind.i64 (Isl.lh i),
        Value.int IntKind.i64 (Isl.pump i), Value.int IntKind.i64 (Isl.keep i), Value.int IntKind.i64 (Isl.size i), W,
        M, Value.int IntKind.i64 (Isl.most i), Value.int IntKind.i64 (Isl.row i)],
    Value.int IntKind.i64 tanks]
  [] 2 (Value.bool true) [] 2 [],
CJ Tryz.prog B 19
  #[Value.agg
      #[Value.int IntKind.i64 (Tru.start t), Value.int IntKind.i64 (Tru.soak t), Value.int IntKind.i64 (Tru.leak t), D,
        R, N]]
  [] 2 (Value.bool true) [] 2 [],
CJ Tryz.prog B 18
  #[Value.agg
      #[Value.int IntKind.i64 (Isl.cap i), Value.int IntKind.i64 (Isl.sl i), Value.int IntKind.i64 (Isl.sh i),
        Value.int IntKind.i64 (Isl.roof i), Value.int IntKind.i64 (Isl.sand i), Value.int IntKind.i64 (Isl.kl i),
        Value.int IntKind.i64 (Isl.kh i), Value.int IntKind.i64 (Isl.ll i), Value.int IntKind.i64 (Isl.lh i),
        Value.int IntKind.i64 (Isl.pump i), Value.int IntKind.i64 (Isl.keep i), Value.int IntKind.i64 (Isl.size i), W,
        M, Value.int IntKind.i64 (Isl.most i), Value.int IntKind.i64 (Isl.row i)]]
  [] 2 (Value.bool true) [] 2 []]⟩ := by kernel_rfl
set_option maxRecDepth 100000 in
theorem lt_entry (B : Lo) (i : Isl) (t : Tru) (tanks : Int) (W D R N : Value) (mb mo mc : Nat) (E K : Array Value) (g0 g1 g2 g3 g4 g5 : Int) : land (srun Tryz.prog goFns B 21 0 (entryC Tryz.prog 6 116 [.agg (islC i W (.slice (some ⟨mb, mo, some 0⟩) i.nm mc)), .int .i64 tanks, .agg (truC t D R N)]) [] 0
    [(4, Hint.call [] (Value.bool true) [] 2 []),
(8, Hint.call [] (Value.bool true) [] 2 []),
(14, Hint.call [] (Value.bool true) [] 2 []),
(20, Hint.call [] (Value.bool true) [] 2 []),
(26, Hint.call []
  (Value.tuple
    #[Value.slice (some { block := 2, off := 0 }) (Isl.nm i) 0,
      Value.agg
        #[Value.int IntKind.i64 g0, Value.int IntKind.i64 g1, Value.int IntKind.i64 g2, Value.int IntKind.i64 g3,
          Value.int IntKind.i64 g4, Value.int IntKind.i64 g5],
      Value.int IntKind.i64 0])
  [(2, Obj.cells E 53 (1, 1))] 3 []),
(37, Hint.call [] (Value.tuple #[Value.slice (some { block := 4, off := 0 }) (Isl.nm i) 0, Value.int IntKind.i64 0])
  [(4, Obj.cells K 56 (1, 1))] 5 []),
(55, Hint.val (Value.bool false)),
(62, Hint.val (Value.bool false))] 0 [] []) ((ltL i.nm 0).map (·.1)) ((kz [2, 4] (ltO E K)).map (·.old)) = some ⟨6, 116, ltT.map (it (bodyOf Tryz.prog 6)), [], .run, none, (ltL i.nm 0).map (fun p => rnV (rhoK (kz [2, 4] (ltO E K))) 3 p.2), (kz [2, 4] (ltO E K)).map (fun kept_ => some (wasK (rhoK (kz [2, 4] (ltO E K))) kept_)), 5,
    [(!eqq (↑(Isl.nm i) : Int) (↑(Isl.nm i) : Int)) = false,
(!eqq (↑(Isl.nm i) : Int) (↑(Isl.nm i) : Int)) = false,
CJ Tryz.prog B 13
  #[Value.agg
      #[Value.int IntKind.i64 (Isl.cap i), Value.int IntKind.i64 (Isl.sl i), Value.int IntKind.i64 (Isl.sh i),
        Value.int IntKind.i64 (Isl.roof i), Value.int IntKind.i64 (Isl.sand i), Value.int IntKind.i64 (Isl.kl i),
        Value.int IntKind.i64 (Isl.kh i), Value.int IntKind.i64 (Isl.ll i), Value.int IntKind.i64 (Isl.lh i),
        Value.int IntKind.i64 (Isl.pump i), Value.int IntKind.i64 (Isl.keep i), Value.int IntKind.i64 (Isl.size i), W,
        Value.slice (some { block := mb, off := mo, spot := some 0 }) (Isl.nm i) mc, Value.int IntKind.i64 (Isl.most i),
        Value.int IntKind.i64 (Isl.row i)],
    Value.int IntKind.i64 tanks]
  [] 4 (Value.tuple #[Value.slice (some { block := 4, off := 0 }) (Isl.nm i) 0, Value.int IntKind.i64 0])
  [(4, Obj.cells K 56 (1, 1))] 5 [],
CJ Tryz.prog B 20
  #[Value.agg
      #[Value.int IntKind.i64 (Isl.cap i), Value.int IntKind.i64 (Isl.sl i), Value.int IntKind.i64 (Isl.sh i),
        Value.int IntKind.i64 (Isl.roof i), Value.int IntKind.i64 (Isl.sand i), Value.int IntKind.i64 (Isl.kl i),
        Value.int IntKind.i64 (Isl.kh i), Value.int IntKind.i64 (Isl.ll i), Value.int IntKind.i64 (Isl.lh i),
        Value.int IntKind.i64 (Isl.pump i), Value.int IntKind.i64 (Isl.keep i), Value.int IntKind.i64 (Isl.size i), W,
        Value.slice (some { block := mb, off := mo, spot := some 0 }) (Isl.nm i) mc, Value.int IntKind.i64 (Isl.most i),
        Value.int IntKind.i64 (Isl.row i)],
    Value.int IntKind.i64 tanks,
    Value.agg
      #[Value.int IntKind.i64 (Tru.start t), Value.int IntKind.i64 (Tru.soak t), Value.int IntKind.i64 (Tru.leak t), D,
        R, N]]
  [] 2
  (Value.tuple
    #[Value.slice (some { block := 2, off := 0 }) (Isl.nm i) 0,
      Value.agg
        #[Value.int IntKind.i64 g0, Value.int IntKind.i64 g1, Value.int IntKind.i64 g2, Value.int IntKind.i64 g3,
          Value.int IntKind.i64 g4, Value.int IntKind.i64 g5],
      Value.int IntKind.i64 0])
  [(2, Obj.cells E 53 (1, 1))] 3 [],
CJ Tryz.prog B 21
  #[Value.agg
      #[Value.int IntKind.i64 (Isl.cap i), Value.int IntKind.i64 (Isl.sl i), Value.int IntKind.i64 (Isl.sh i),
        Value.int IntKind.i64 (Isl.roof i), Value.int IntKind.i64 (Isl.sand i), Value.int IntKind.i64 (Isl.kl i),
        Value.int IntKind.i64 (Isl.kh i), Value.int IntKind.i64 (Isl.ll i), Value.int IntKind.i64 (Isl.lh i),
        Value.int IntKind.i64 (Isl.pump i), Value.int IntKind.i64 (Isl.keep i), Value.int IntKind.i64 (Isl.size i), W,
        Value.slice (some { block := mb, off := mo, spot := some 0 }) (Isl.nm i) mc, Value.int IntKind.i64 (Isl.most i),
        Value.int IntKind.i64 (Isl.row i)],
    Value.agg
      #[Value.int IntKind.i64 (Tru.start t), Value.int IntKind.i64 (Tru.soak t), Value.int IntKind.i64 (Tru.leak t), D,
        R, N]]
  [] 2 (Value.bool true) [] 2 [],
CJ Tryz.prog B 15
  #[Value.agg
      #[Value.int IntKind.i64 (Isl.cap i), Value.int IntKind.i64 (Isl.sl i), Value.int IntKind.i64 (Isl.sh i),
        Value.int IntKind.i64 (Isl.roof i), Value.int IntKind.i64 (Isl.sand i), Value.int IntKind.i64 (Isl.kl i),
        Value.int IntKind.i64 (Isl.kh i), Value.int IntKind.i64 (Isl.ll i), Value.int IntKind.i64 (Isl.lh i),
        Value.int IntKind.i64 (Isl.pump i), Value.int IntKind.i64 (Isl.keep i), Value.int IntKind.i64 (Isl.size i), W,
        Value.slice (some { block := mb, off := mo, spot := some 0 }) (Isl.nm i) mc, Value.int IntKind.i64 (Isl.most i),
        Value.int IntKind.i64 (Isl.row i)],
    Value.int IntKind.i64 tanks]
  [] 2 (Value.bool true) [] 2 [],
CJ Tryz.prog B 19
  #[Value.agg
      #[Value.int IntKind.i64 (Tru.start t), Value.int IntKind.i64 (Tru.soak t), Value.int IntKind.i64 (Tru.leak t), D,
        R, N]]
  [] 2 (Value.bool true) [] 2 [],
CJ Tryz.prog B 18
  #[Value.agg
      #[Value.int IntKind.i64 (Isl.cap i), Value.int IntKind.i64 (Isl.sl i), Value.int IntKind.i64 (Isl.sh i),
        Value.int IntKind.i64 (Isl.roof i), Value.int IntKind.i64 (Isl.sand i), Value.int IntKind.i64 (Isl.kl i),
        Value.int IntKind.i64 (Isl.kh i), Value.int IntKind.i64 (Isl.ll i), Value.int IntKind.i64 (Isl.lh i),
        Value.int IntKind.i64 (Isl.pump i), Value.int IntKind.i64 (Isl.keep i), Value.int IntKind.i64 (Isl.size i), W,
        Value.slice (some { block := mb, off := mo, spot := some 0 }) (Isl.nm i) mc, Value.int IntKind.i64 (Isl.most i),
        Value.int IntKind.i64 (Isl.row i)]]
  [] 2 (Value.bool true) [] 2 []]⟩ := by kernel_rfl
set_option maxRecDepth 100000 in
theorem lt_round (B : Lo) (nm k : Nat) (E K : Array Value) (e0 e1 e2 b0 b1 b2 b3 b4 b5 : Int) (d : Nat → Value) : land (srun Tryz.prog goFns B 14 0 (headC 6 116 (ltL nm k) d (ltT.map (it (bodyOf Tryz.prog 6)))) (heapO 0 (ltO E K)) ((ltO E K)).length
    [(3, Hint.val (Value.bool true)),
(6, Hint.idx k),
(8, Hint.ld (Value.int IntKind.i64 e0)),
(11, Hint.idx k),
(13, Hint.ld (Value.agg #[Value.int IntKind.i64 b0, Value.int IntKind.i64 b1])),
(14, Hint.call [] (Value.bool true) [] 2 []),
(19, Hint.idx k),
(21, Hint.ld (Value.int IntKind.i64 e1)),
(24, Hint.idx k),
(26, Hint.ld (Value.agg #[Value.int IntKind.i64 b2, Value.int IntKind.i64 b3])),
(27, Hint.call [] (Value.bool true) [] 2 []),
(33, Hint.idx k),
(35, Hint.ld (Value.int IntKind.i64 e2)),
(38, Hint.idx k),
(40, Hint.ld (Value.agg #[Value.int IntKind.i64 b4, Value.int IntKind.i64 b5])),
(41, Hint.call [] (Value.bool true) [] 2 []),
(45, Hint.val (Value.int IntKind.i64 ((↑k : Int) + 1)))] 0 [] []) ((ltL nm (k + 1)).map (·.1)) ((kz [0, 1] (ltO E K)).map (·.old)) = some ⟨6, 116, ltT.map (it (bodyOf Tryz.prog 6)), [], .run, none, (ltL nm (k + 1)).map (fun p => rnV (rhoK (kz [0, 1] (ltO E K))) 3 p.2), (kz [0, 1] (ltO E K)).map (fun kept_ => some (wasK (rhoK (kz [0, 1] (ltO E K))) kept_)), 2,
    [wq ((↑k : Int) + 1) = (↑k : Int) + 1,
CJ Tryz.prog B 24 #[Value.int IntKind.i64 e2, Value.agg #[Value.int IntKind.i64 b4, Value.int IntKind.i64 b5]] [] 2
  (Value.bool true) [] 2 [],
0 + k * 6 + 4 + TypeInfo.size Tryz.t23 ≤ Array.size K ∧
  Array.extract K (0 + k * 6 + 4) (0 + k * 6 + 4 + TypeInfo.size Tryz.t23) =
    #[Value.int IntKind.i64 b4, Value.int IntKind.i64 b5],
(↑k : Int) = (↑k : Int) ∧ k < nm,
E[0 + k * 3 + 2]? = some (Value.int IntKind.i64 e2),
(↑k : Int) = (↑k : Int) ∧ k < nm,
CJ Tryz.prog B 24 #[Value.int IntKind.i64 e1, Value.agg #[Value.int IntKind.i64 b2, Value.int IntKind.i64 b3]] [] 2
  (Value.bool true) [] 2 [],
0 + k * 6 + 2 + TypeInfo.size Tryz.t23 ≤ Array.size K ∧
  Array.extract K (0 + k * 6 + 2) (0 + k * 6 + 2 + TypeInfo.size Tryz.t23) =
    #[Value.int IntKind.i64 b2, Value.int IntKind.i64 b3],
(↑k : Int) = (↑k : Int) ∧ k < nm,
E[0 + k * 3 + 1]? = some (Value.int IntKind.i64 e1),
(↑k : Int) = (↑k : Int) ∧ k < nm,
CJ Tryz.prog B 24 #[Value.int IntKind.i64 e0, Value.agg #[Value.int IntKind.i64 b0, Value.int IntKind.i64 b1]] [] 2
  (Value.bool true) [] 2 [],
0 + k * 6 + 0 + TypeInfo.size Tryz.t23 ≤ Array.size K ∧
  Array.extract K (0 + k * 6 + 0) (0 + k * 6 + 0 + TypeInfo.size Tryz.t23) =
    #[Value.int IntKind.i64 b0, Value.int IntKind.i64 b1],
(↑k : Int) = (↑k : Int) ∧ k < nm,
E[0 + k * 3 + 0]? = some (Value.int IntKind.i64 e0),
(↑k : Int) = (↑k : Int) ∧ k < nm,
ltq (↑k : Int) (↑nm : Int) = true]⟩ := by kernel_rfl
set_option maxRecDepth 100000 in
theorem lt_end (B : Lo) (nm k : Nat) (E K : Array Value) (d : Nat → Value) : ended (srun Tryz.prog goFns B 9 0 (headC 6 116 (ltL nm k) d (ltT.map (it (bodyOf Tryz.prog 6)))) (heapO 0 (ltO E K)) ((ltO E K)).length
    [(3, Hint.val (Value.bool false)),
(4, Hint.call [] (Value.bool true) [] 2 [])] 0 [] []) [] = some ⟨.ret (.bool true), [], 2,
    [CJ Tryz.prog B 11 #[] [] 2 (Value.bool true) [] 2 [],
ltq (↑k : Int) (↑nm : Int) = false]⟩ := by kernel_rfl
set_option maxRecDepth 100000 in
theorem true_walk : Walk3 6 := by
  intro i wa wc ma mc tanks t da dc ra rc na nc w hi ht hp
  have hB := worldLo_has w
  cases hs : shortB i with
  | false => exact lt_ret (by kernel_rfl) (GoE.refl under_nil) (lt_short (worldLo w) i t tanks _ _ _ _ _) ⟨con_known hp, hs ▸ con_short, trivial⟩ hB
  | true =>
    cases hz : sizedB t with
    | false => exact lt_ret (by kernel_rfl) (GoE.refl under_nil) (lt_sized (worldLo w) i t tanks _ _ _ _ _) ⟨con_known hp, hz ▸ con_sized, hs ▸ con_short, trivial⟩ hB
    | true =>
      cases ha : (islB i && tanksB tanks) with
      | false => exact lt_ret (by kernel_rfl) (GoE.refl under_nil) (lt_asked (worldLo w) i t tanks _ _ _ _ _) ⟨con_known hp, ha ▸ con_asked hi, hz ▸ con_sized, hs ▸ con_short, trivial⟩ hB
      | true =>
        have hmr : 0 ≤ i.most ∧ 0 ≤ i.row ∧ 1 ≤ i.nm := by
          have := ha
          simp only [islB, monthsB, Bool.and_eq_true, isInB_iff] at this
          exact ⟨this.1.1.2.1, this.1.2.1, by omega⟩
        cases htr : truB i t with
        | false => exact lt_ret (by kernel_rfl) (GoE.refl under_nil) (lt_truth (worldLo w) i t tanks _ _ _ _ _) ⟨con_known hp, htr ▸ con_truth hi ht hmr.1 hmr.2.1, ha ▸ con_asked hi, hz ▸ con_sized, hs ▸ con_short, trivial⟩ hB
        | true =>
          have ha' := ha
          simp only [Bool.and_eq_true] at ha'
          obtain ⟨mb, mo, rfl, _⟩ := monsGet hi.months (show 0 < i.nm by omega)
          have hnm8 : i.nm ≤ 8 := (fit_of ha'.1 ha'.2 htr).nm
          have ok : OkAll 2 (ltO (rowA (seenE i tanks t) i.nm) (knA i tanks)) := ⟨.inr ⟨rfl, loose_seenE _ _ _ _⟩, .inr ⟨rfl, loose_knE _ _⟩, trivial⟩
          have all : ∀ k, k ≤ i.nm → ∃ d : Nat → Value, (∀ t, Loose (d t)) ∧ GoE Tryz.prog (worldLo w) (entryC Tryz.prog 6 116 [islR i wa wc (some ⟨mb, mo, none⟩) mc, .int .i64 tanks, truR t da dc ra rc na nc]) [] 0
              (headC 6 116 (ltL i.nm k) d (ltT.map (it (bodyOf Tryz.prog 6)))) (heapO 0 (ltO (rowA (seenE i tanks t) i.nm) (knA i tanks))) 2 [] := by
            intro k
            induction k with
            | zero =>
              intro _
              exact (GoE.refl under_nil).headO goFns_ok mixed_ok
                (lt_entry (worldLo w) i t tanks (rawS wa i.nw wc) (rawS da t.nd dc) (rawS ra t.nr rc) (rawS na t.nn nc) mb mo mc (rowA (seenE i tanks t) i.nm) (knA i tanks) (i.size * tanks + t.start) (runTo i tanks t i.nm).rain (runTo i tanks t i.nm).used (runTo i tanks t i.nm).leak (runTo i tanks t i.nm).sea ((runTo i tanks t i.nm).tanks + (runTo i tanks t i.nm).lens))
                ⟨by simp [eqq_eq], by simp [eqq_eq], con_Known hi ha'.1 ha'.2, con_play hi ht ha'.1 ha'.2 htr, htr ▸ con_truth hi ht hmr.1 hmr.2.1, ha ▸ con_asked hi, hz ▸ con_sized, hs ▸ con_short (w := w) (i := i) (wa := wa) (wc := wc) (ma := some ⟨mb, mo, none⟩) (mc := mc) (n := 2), trivial⟩
                (by kernel_rfl) (by kernel_rfl) (by kernel_rfl) (by kernel_rfl) (by kernel_rfl) (by kernel_rfl) ok
            | succ k ih =>
              intro hk
              obtain ⟨d, _, hg⟩ := ih (by omega)
              have hlt : k < i.nm := by omega
              have hin := true_within ha'.1 ha'.2 htr hlt
              have hE : ∀ j, j < 3 → (rowA (seenE i tanks t) i.nm)[0 + k * 3 + j]? = (seenE i tanks t k)[j]? := fun j hj => by rw [Nat.zero_add]; exact rowA_get (z := 3) (fun _ => rfl) hj i.nm k hlt
              have hK : ∀ off (x : List Value), x.length = 2 → off + 2 ≤ 6 → (∀ j, j < 2 → (knE (upTo i tanks (fun _ => noKn) (2 ^ i.nm)) k)[off + j]? = x[j]?) → 0 + k * 6 + off + 2 ≤ (knA i tanks).size ∧ (knA i tanks).extract (0 + k * 6 + off) (0 + k * 6 + off + 2) = x.toArray := fun off x hx h6 hg => row_piece (z := 6) (fun _ => rfl) hlt h6 hx hg
              have two : ∀ {p : Nat → Prop}, p 0 → p 1 → ∀ j, j < 2 → p j := fun h0 h1 j hj => by
                rcases (show j = 0 ∨ j = 1 by omega) with rfl | rfl
                · exact h0
                · exact h1
              exact hg.headO goFns_ok mixed_ok
                (lt_round (worldLo w) i.nm k (rowA (seenE i tanks t) i.nm) (knA i tanks) (runTo i tanks t (k + 1)).tanks (runTo i tanks t (k + 1)).lens (runTo i tanks t (k + 1)).lack (upTo i tanks (fun _ => noKn) (2 ^ i.nm) k).tl (upTo i tanks (fun _ => noKn) (2 ^ i.nm) k).th (upTo i tanks (fun _ => noKn) (2 ^ i.nm) k).ll (upTo i tanks (fun _ => noKn) (2 ^ i.nm) k).lh (upTo i tanks (fun _ => noKn) (2 ^ i.nm) k).kl (upTo i tanks (fun _ => noKn) (2 ^ i.nm) k).kh d)
                ⟨wq_in (by omega) (by omega), con_inside hin.k0 hin.k1, hK 4 [_, _] rfl (by omega) (two rfl rfl), ⟨rfl, hlt⟩, hE 2 (by omega), ⟨rfl, hlt⟩, con_inside hin.l0 hin.l1, hK 2 [_, _] rfl (by omega) (two rfl rfl), ⟨rfl, hlt⟩, hE 1 (by omega), ⟨rfl, hlt⟩,
                  con_inside hin.t0 hin.t1, hK 0 [_, _] rfl (by omega) (two rfl rfl), ⟨rfl, hlt⟩, hE 0 (by omega), ⟨rfl, hlt⟩, ltq_t (by omega), trivial⟩
                (by kernel_rfl) (by kernel_rfl) (by kernel_rfl) (by kernel_rfl) (by kernel_rfl) (by kernel_rfl) ok
          obtain ⟨d, _, hg⟩ := all i.nm (Nat.le_refl _)
          exact lt_ret (by kernel_rfl) hg (lt_end (worldLo w) i.nm i.nm (rowA (seenE i tanks t) i.nm) (knA i tanks) d) ⟨con_known hp, ltq_f (by omega), trivial⟩ hB
end Go.Proofs.YtffdidleebognaaGreatDoor

