/- LensFews: the walk. -/
import Derived.Test.YtffdidleebognaaGreatDoorZG50
namespace Go.Proofs.YtffdidleebognaaGreatDoor
open Go Go.CE Go.Proofs Go.RowKit Lens
section
variable {i : Isl} {wa : Option Addr} {wc mc : Nat} {ma : Option Addr} {tanks : Int} {w : World} {n : Nat}
theorem few_none {t : Int} {q : Int} (hq : Few i q) (hf : fine i q = false) (h0 : 0 ≤ t) (h1 : t ≤ 40) : fine i t = false := by
  have e : q = 40 := by
    refine Int.le_antisymm hq.n1 (Int.not_lt.1 fun hc => ?_)
    have := hq.high q (Int.le_refl _) hc
    rw [hf] at this; cases this
  rcases (show t < q ∨ t = q by omega) with h | h
  · exact hq.low t h0 h
  · rw [h]; exact hf
theorem rFewest_any (hi : IslAt w w.heap.size i wa ma) (h1 : islB i = true) (h7 : i.nm ≤ 7) {q : Int} (hq : Few i q) :
    Calls Tryz.prog 32 #[islV i wa wc ma mc] w fun e w' => e = .returned (.int .i64 (if fine i q = true then q else -1)) ∧ Below w.heap.size w w' := by
  have q0 := hq.n0
  have q1 := hq.n1
  have ok1 : OkAll 1 [(false, Obj.cells (islC i (rawS wa i.nw wc) (rawS ma i.nm mc)) 27 (0, 0))] := ⟨.inr ⟨rfl, loose_isl i wa wc ma mc⟩, trivial⟩
  have all : ∀ k : Nat, k ≤ 41 → (∀ t : Nat, t < k → fine i t = false) → ∃ d : Nat → Value, (∀ t, Loose (d t)) ∧ GoE Tryz.prog (worldLo w) (entryC Tryz.prog 32 14 [islR i wa wc ma mc]) [] 0
      (headC 32 14 (rwL k) d (rwT.map (it (bodyOf Tryz.prog 32)))) (heapO 0 [(false, Obj.cells (islC i (rawS wa i.nw wc) (rawS ma i.nm mc)) 27 (0, 0))]) 1 [] := by
    intro k
    induction k with
    | zero =>
      intro _ _
      exact (GoE.refl under_nil).headO goFns_ok mixed_ok (rw_entry (worldLo w) i (rawS wa i.nw wc) (rawS ma i.nm mc)) trivial (by kernel_rfl) (by kernel_rfl) (by kernel_rfl) (by kernel_rfl) (by kernel_rfl) (by kernel_rfl) ok1
    | succ k ih =>
      intro hk hf
      obtain ⟨d, _, hg⟩ := ih (by omega) fun t ht => hf t (by omega)
      have ht : tanksB (k : Int) = true := tanksB_iff.2 ⟨by omega, by omega⟩
      have hk' := hf k (by omega)
      cases hft : ftTo i (k : Int) (2 ^ i.nm) with
      | none => rw [fine_iff.2 hft] at hk'; cases hk'
      | some y =>
        obtain ⟨b, m⟩ := y
        obtain ⟨_, _, _, hb⟩ := ftTo_some hft
        obtain ⟨_, hr, _⟩ := badTo_some hb
        exact hg.headO goFns_ok mixed_ok (rw_bad (worldLo w) i (rawS wa i.nw wc) (rawS ma i.nm mc) k m (wrongRule i (endsOf i k false (bitsDry i.nm b) m)) (wrongWell i (endsOf i k false (bitsDry i.nm b) m)) (rowA (boolE (bitsDry i.nm b)) i.nm) d)
          ⟨wq_in (by omega) (by omega), eqq_f hr, con_rFaultBad hi h1 ht h7 hft, by rw [ltq_f (by omega)]; rfl, trivial⟩ (by kernel_rfl) (by kernel_rfl) (by kernel_rfl) (by kernel_rfl) (by kernel_rfl) (by kernel_rfl) ok1
  have fin : ∀ {d : Nat → Value} {k fuel n' : Nat} {sc : Script} {L : List Prop} {r : Int}, GoE Tryz.prog (worldLo w) (entryC Tryz.prog 32 14 [islR i wa wc ma mc]) [] 0
      (headC 32 14 (rwL k) d (rwT.map (it (bodyOf Tryz.prog 32)))) (heapO 0 [(false, Obj.cells (islC i (rawS wa i.nw wc) (rawS ma i.nm mc)) 27 (0, 0))]) 1 [] →
      ended (srun Tryz.prog goFns (worldLo w) fuel 0 (headC 32 14 (rwL k) d (rwT.map (it (bodyOf Tryz.prog 32)))) (heapO 0 [(false, Obj.cells (islC i (rawS wa i.nw wc) (rawS ma i.nm mc)) 27 (0, 0))]) 1 sc 0 [] []) [] = some ⟨.ret (.int .i64 r), [], n', L⟩ → AllP L →
      Calls Tryz.prog 32 #[islV i wa wc ma mc] w fun e w' => e = .returned (.int .i64 r) ∧ Below w.heap.size w w' := fun hg e hL =>
    (hg.calls goFns_ok mixed_ok (f := 32) (args := #[islR i wa wc ma mc]) (by kernel_rfl) e hL (worldLo_has w) (VRl.vrs' exl_i.vrl)).mono fun _ _ ⟨v', _, he, hv, hb, _⟩ => ⟨by rw [he, af_eq (v := .int .i64 _) rfl hv], hb⟩
  cases hf : fine i q with
  | true =>
    obtain ⟨k, rfl⟩ : ∃ k : Nat, q = k := ⟨q.toNat, by omega⟩
    obtain ⟨d, _, hg⟩ := all k (by omega) fun t ht => hq.low t (by omega) (by omega)
    exact fin hg (rw_fine (worldLo w) i (rawS wa i.nw wc) (rawS ma i.nm mc) k d) ⟨con_rFaultFine hi h1 (tanksB_iff.2 ⟨by omega, by omega⟩) h7 (fine_iff.1 hf), by rw [ltq_f (by omega)]; rfl, trivial⟩
  | false =>
    obtain ⟨d, _, hg⟩ := all 41 (Nat.le_refl _) fun t ht => few_none hq hf (by omega) (by omega)
    exact fin hg (rw_end (worldLo w) i (rawS wa i.nw wc) (rawS ma i.nm mc) 41 d) ⟨by rw [ltq_t (by omega)]; rfl, trivial⟩
theorem con_rFewest (hi : IslAt w w.heap.size i wa ma) (h1 : islB i = true) (h7 : i.nm ≤ 7) {q : Int} (hq : Few i q) : CJ Tryz.prog (worldLo w) 32 #[islR i wa wc ma mc] [] n (.int .i64 (if fine i q = true then q else -1)) [] n [] :=
  con_of exl_i (exact_af rfl) fun _ hB => rFewest_any (islAt_lo hi hB) h1 h7 hq
def fewB5 (i : Isl) : Bool := shortB i && (!islB i || decide (i.nm ≤ 5))
theorem con_few5 (hi : IslAt w w.heap.size i wa ma) : CJ Tryz.prog (worldLo w) 10 #[islR i wa wc ma mc, .int .i64 5] [] n (.bool (fewB5 i)) [] n [] :=
  con_of exl_it (exact_af rfl) fun w' hB => by
    have hi' := islAt_lo hi hB
    unfold fewB5
    cases hs : shortB i with
    | false => exact b_ret exl_it (exact_af rfl) (by kernel_rfl) (few5_short (worldLo w') i _ _) ⟨hs ▸ con_short, trivial⟩
    | true =>
      cases h1 : islB i with
      | false => exact b_ret exl_it (exact_af rfl) (by kernel_rfl) (few5_ref (worldLo w') i _ _) ⟨h1 ▸ con_rIslet hi', hs ▸ con_short, trivial⟩
      | true =>
        refine b_ret exl_it (exact_af rfl) (by kernel_rfl) (few5_num (worldLo w') i (rawS wa i.nw wc) (rawO ma) mc (decide (i.nm ≤ 5))) ⟨?_, sliceLen_rawS ma i.nm mc, h1 ▸ con_rIslet hi', hs ▸ con_short, trivial⟩
        by_cases h : i.nm ≤ 5
        · rw [ltq_f (by omega)]; simp [h]
        · rw [ltq_t (by omega)]; simp [h]
end
set_option maxRecDepth 100000 in
theorem fews_walk : Walk1 9 := by
  intro i wa wc ma mc w hi hp
  cases hs : fewB5 i with
  | false => exact b_ret exl_i (exact_af rfl) (by kernel_rfl) (lg_few (worldLo w) i _ _) ⟨con_known hp, hs ▸ con_few5 hi, trivial⟩
  | true =>
    cases h1 : islB i with
    | false => exact b_ret exl_i (exact_af rfl) (by kernel_rfl) (lg_bad (worldLo w) i _ _) ⟨con_known hp, h1 ▸ con_rIslet hi, con_FewestNo hi h1, hs ▸ con_few5 hi, trivial⟩
    | true =>
      have h7 : i.nm ≤ 7 := by
        simp only [fewB5, h1, Bool.not_true, Bool.false_or, Bool.and_eq_true, decide_eq_true_eq] at hs
        omega
      obtain ⟨n, hn⟩ := few_ex h1
      have n0 := hn.n0
      cases hf : fine i n with
      | true =>
        exact b_ret exl_i (exact_af rfl) (by kernel_rfl) (lg_fine (worldLo w) i _ _ n) ⟨con_known hp, eqq_t rfl, ltq_f n0, (show n = if fine i n = true then n else -1 by rw [hf]; rfl) ▸ con_rFewest hi h1 h7 hn, h1 ▸ con_rIslet hi, con_FewestFine hi h1 hn hf, hs ▸ con_few5 hi, trivial⟩
      | false =>
        exact b_ret exl_i (exact_af rfl) (by kernel_rfl) (lg_none (worldLo w) i _ _) ⟨con_known hp, (show (-1 : Int) = if fine i n = true then n else -1 by rw [hf]; rfl) ▸ con_rFewest hi h1 h7 hn, h1 ▸ con_rIslet hi, con_FewestNone hi h1 hn hf, hs ▸ con_few5 hi, trivial⟩
end Go.Proofs.YtffdidleebognaaGreatDoor
