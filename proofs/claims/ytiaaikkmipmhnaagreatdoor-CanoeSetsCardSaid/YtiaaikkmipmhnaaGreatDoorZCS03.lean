/- CE: steps that touch a part of the heap alone, one after the other, in whatever order. -/
import Derived.Test.YtiaaikkmipmhnaaGreatDoorZCS01
import Derived.Test.YtiaaikkmipmhnaaGreatDoorZCS02
set_option linter.all false
namespace Go.CE
open Go Go.RowKit

structure PG (B : Nat) (S New W : Nat → Prop) (μ μ' : Mu) (G G' : Nat → Option Obj) (w w' : World) : Prop where
  ok : Ok B (fun i => S i ∨ New i) μ' G' w'
  ext : ∀ i, ¬ New i → μ' i = μ i
  keep : ∀ i, ¬ New i → ¬ W i → G' i = G i
  grow : w.heap.size ≤ w'.heap.size
  frame : ∀ b, b < w.heap.size → (∀ i, W i → ∀ im, μ i = some im → im.blk ≠ b) → w'.heap[b]? = w.heap[b]?
  wr : ∀ i, W i → S i ∧ (∃ o, G i = some o ∧ live o) ∧ ∃ im, μ i = some im ∧ im.rw = true
  fresh : ∀ i im o, New i → G' i = some o → live o → μ' i = some im → im.rw = true ∧
    (w.heap.size ≤ im.blk ∨ ∃ k, W k ∧ (∃ im', μ k = some im' ∧ im'.blk = im.blk) ∧ ∀ o, G' k = some o → ¬ live o)
  rf : ∀ i im o, (New i ∨ W i) → G' i = some o → isReg o → μ' i = some im → ∀ b x, im.fm b = some x →
    w.heap.size ≤ b ∨ (∃ k kim ko, S k ∧ G k = some ko ∧ isReg ko ∧ μ k = some kim ∧ kim.fm b = some x) ∨ ∃ k, W k ∧ (∃ im', μ k = some im' ∧ im'.blk = b) ∧ ∀ o, G' k = some o → ¬ live o
  os : w'.os = w.os
  tape : w'.tape = w.tape
  output : w'.output = w.output
theorem PG.refl {B : Nat} {S : Nat → Prop} {μ : Mu} {G : Nat → Option Obj} {w : World} (h : Ok B S μ G w) : PG B S (fun _ => False) (fun _ => False) μ μ G G w w :=
  ⟨h.sub fun _ hi => hi.elim id False.elim, fun _ _ => rfl, fun _ _ _ => rfl, Nat.le_refl _, fun _ _ _ => rfl, fun _ h => h.elim, fun _ _ _ h => h.elim, fun _ _ _ h => h.elim False.elim False.elim, rfl, rfl, rfl⟩
theorem Post.pg {B : Nat} {S : Nat → Prop} {n n' : Nat} {W : List Nat} {μ μ' : Mu} {H H' : Heap} {w w' : World} (h : Post B S n n' W μ μ' H H' w w') (hn : ∀ i, n' ≤ i → hget H' i = hget H i) :
    PG B S (fun i => n ≤ i ∧ i < n') (fun i => i ∈ W ∧ i < n) μ μ' (hget H) (hget H') w w' := by
  have hle := h.le
  refine ⟨h.ok, h.ext, fun i hi hw => ?_, h.grow, fun b hb hw => h.frame b hb fun i a c => hw i ⟨a, c⟩, fun i hi => h.wr i hi.1 hi.2, fun i im o hi ho hl hm => ?_, fun i im o hi ho hr hm b x hb => ?_, h.os, h.tape, h.output⟩
  · rcases Nat.lt_or_ge i n with hlt | hge
    · exact h.keep i hlt fun e => hw ⟨e, hlt⟩
    · exact hn i (by omega)
  · obtain ⟨hr, hf⟩ := h.fresh i im o hi.1 hi.2 ho hl hm
    refine ⟨hr, hf.imp id ?_⟩
    rintro ⟨k, a, b, c, d⟩
    exact ⟨k, ⟨a, b⟩, c, d⟩
  · rcases h.rf i im o hi ho hr hm b x hb with e | ⟨k, kim, ko, a, c, d⟩ | ⟨k, a, c, d⟩
    · exact .inl e
    · exact .inr (.inl ⟨k, kim, ko, a, d⟩)
    · exact .inr (.inr ⟨k, ⟨a, c⟩, d⟩)
theorem PG.post {B : Nat} {S New : Nat → Prop} {n n' : Nat} {W : List Nat} {μ μ' : Mu} {H H' : Heap} {w w' : World} (h : PG B S New (fun i => i ∈ W ∧ i < n) μ μ' (hget H) (hget H') w w') (hN : ∀ i, New i ↔ n ≤ i ∧ i < n') (hle : n ≤ n') (hS : ∀ i, S i → i < n) : Post B S n n' W μ μ' H H' w w' := by
  refine ⟨h.ok.sub fun i hi => hi.imp id (hN i).2, hle, fun i hi => h.ext i fun e => hi ((hN i).1 e), fun i hi hw => h.keep i (fun e => by have := ((hN i).1 e).1; omega) (fun e => hw e.1), h.grow,
    fun b hb hw => h.frame b hb fun i hi => hw i hi.1 hi.2, fun i hi hlt => h.wr i ⟨hi, hlt⟩, fun i im o h1 h2 ho hl hm => ?_, fun i im o hi ho hr hm b x hb => ?_, h.os, h.tape, h.output⟩
  · obtain ⟨hr, hf⟩ := h.fresh i im o ((hN i).2 ⟨h1, h2⟩) ho hl hm
    refine ⟨hr, hf.imp id ?_⟩
    rintro ⟨k, ⟨a, b⟩, c, d⟩
    exact ⟨k, a, b, c, d⟩
  · rcases h.rf i im o (hi.imp (hN i).2 id) ho hr hm b x hb with e | ⟨k, kim, ko, a, c⟩ | ⟨k, ⟨a, c⟩, d⟩
    · exact .inl e
    · exact .inr (.inl ⟨k, kim, ko, a, hS k a, c⟩)
    · exact .inr (.inr ⟨k, a, c, d⟩)
theorem PG.then {B : Nat} {S S2 New1 New2 W1 W2 : Nat → Prop} {μ μ1 μ2 : Mu} {G G1 Gc G2' G2 : Nat → Option Obj} {w w1 w2 : World} (h1 : PG B S New1 W1 μ μ1 G G1 w w1) (h2 : PG B S2 New2 W2 μ1 μ2 Gc G2' w1 w2)
    (hsub : ∀ i, S2 i → S i ∨ New1 i) (hGc : ∀ i, S2 i → Gc i = G1 i) (hnew : ∀ i, New2 i → ¬ S i ∧ ¬ New1 i) (hfree : ∀ i, New2 i → μ1 i = none)
    (ha : ∀ i, W2 i ∨ New2 i → G2 i = G2' i) (hb : ∀ i, ¬ W2 i → ¬ New2 i → G2 i = G1 i) :
    PG B S (fun i => New1 i ∨ New2 i) (fun i => W1 i ∨ (W2 i ∧ ¬ New1 i)) μ μ2 G G2 w w2 := by
  have hW2S : ∀ i, W2 i → S2 i ∧ (∃ o, G1 i = some o ∧ live o) ∧ ∃ im, μ1 i = some im ∧ im.rw = true := by
    intro i hi
    obtain ⟨a, ⟨o, ho, hl⟩, c⟩ := h2.wr i hi
    exact ⟨a, ⟨o, by rw [← hGc i a]; exact ho, hl⟩, c⟩
  have hW2N : ∀ i, W2 i → ¬ New2 i := by
    intro i hi hn
    rcases hsub i (hW2S i hi).1 with h | h
    · exact (hnew i hn).1 h
    · exact (hnew i hn).2 h
  have ext12 : Ext μ1 μ2 := by
    intro k im hk
    rw [h2.ext k fun hn => by rw [hfree k hn] at hk; cases hk]
    exact hk
  have mu2 : ∀ i, ¬ New2 i → μ2 i = μ1 i := h2.ext
  -- blocks that the second piece leaves
  have other : ∀ i o im, (S i ∨ New1 i) → ¬ W2 i → G1 i = some o → live o → μ1 i = some im → (∀ k, W2 k → ∀ im', μ1 k = some im' → im'.blk ≠ im.blk) := by
    intro i o im hi hw ho hl him k hk im' him'
    obtain ⟨hkS, ⟨ok, hok, hlk⟩, im'', him'', hr⟩ := hW2S k hk
    rw [him'] at him''; cases him''
    by_cases hra : im.rw = true
    · exact h1.ok.inj k i ok o im' im (hsub k hkS) hi (fun e => hw (e ▸ hk)) hok ho hlk hl him' him hr hra
    · have a := (h1.ok.low i o im hi ho hl him).2.2 (by simpa using hra)
      have b := (h1.ok.low k ok im' (hsub k hkS) hok hlk him').2.1 hr
      omega
  have dead : ∀ k, W1 k → (∀ o, G1 k = some o → ¬ live o) → ∀ o, G2 k = some o → ¬ live o := by
    intro k hk hd o ho hl
    have hS := (h1.wr k hk).1
    by_cases hw : W2 k
    · obtain ⟨_, ⟨o', ho', hl'⟩, _⟩ := hW2S k hw
      exact hd o' ho' hl'
    · rw [hb k hw (fun e => (hnew k e).1 hS)] at ho
      exact hd o ho hl
  -- what is live behind both, and old for the second, was live between
  have liveMid : ∀ i o, ¬ New2 i → G2 i = some o → live o → ∃ o', G1 i = some o' ∧ live o' := by
    intro i o hn ho hl
    by_cases hw : W2 i
    · exact (hW2S i hw).2.1
    · rw [hb i hw hn] at ho; exact ⟨o, ho, hl⟩
  refine ⟨⟨fun i o hi ho hl => ?_, fun i o im hi ho hl him => ?_, fun i j oi oj a b hi hj hij hoi hoj hli hlj hma hmb hra hrb => ?_, fun i o hi ho hr => ?_, fun i j oi oj a b x hi hj hoi hoj hri hlj hma hmb hrb hx => ?_⟩, fun i hi => ?_, fun i hn hw => ?_, Nat.le_trans h1.grow h2.grow, fun b hb0 hw => ?_, fun i hi => ?_, fun i im o hi ho hl him => ?_, fun i im o hi ho hr him b x hfb => ?_,
    h2.os.trans h1.os, h2.tape.trans h1.tape, h2.output.trans h1.output⟩
  · by_cases ht : W2 i ∨ New2 i
    · rw [ha i ht] at ho
      exact h2.ok.rel i o (ht.imp (fun h => (hW2S i h).1) id) ho hl
    · have hw : ¬ W2 i := fun h => ht (.inl h)
      have hn : ¬ New2 i := fun h => ht (.inr h)
      rw [hb i hw hn] at ho
      have hi' : S i ∨ New1 i := by rcases hi with h | h | h <;> first | exact .inl h | exact .inr h | exact absurd h hn
      obtain ⟨im, him, hr⟩ := h1.ok.rel i o hi' ho hl
      exact ⟨im, ext12 _ _ him, hr.keep ext12 (h2.frame _ (h1.ok.low i o im hi' ho hl him).1 (other i o im hi' hw ho hl him))⟩
  · by_cases ht : W2 i ∨ New2 i
    · rw [ha i ht] at ho
      exact h2.ok.low i o im (ht.imp (fun h => (hW2S i h).1) id) ho hl him
    · have hw : ¬ W2 i := fun h => ht (.inl h)
      have hn : ¬ New2 i := fun h => ht (.inr h)
      rw [hb i hw hn] at ho
      rw [mu2 i hn] at him
      have hi' : S i ∨ New1 i := by rcases hi with h | h | h <;> first | exact .inl h | exact .inr h | exact absurd h hn
      have := h1.ok.low i o im hi' ho hl him
      exact ⟨Nat.lt_of_lt_of_le this.1 h2.grow, this.2⟩
  · have old : ∀ i, (S i ∨ New1 i ∨ New2 i) → ¬ New2 i → S i ∨ New1 i := by
      intro i hi hn
      rcases hi with h | h | h <;> first | exact .inl h | exact .inr h | exact absurd h hn
    have nw : ∀ i j oi oj a b, New2 i → ¬ New2 j → (S j ∨ New1 j ∨ New2 j) → i ≠ j → G2 i = some oi → G2 j = some oj → live oi → live oj → μ2 i = some a → μ2 j = some b → b.rw = true → a.blk ≠ b.blk := by
      intro i j oi oj a b hn hj0 hjS hij hoi hoj hli hlj hma hmb hrb
      rw [ha i (.inr hn)] at hoi
      rw [mu2 j hj0] at hmb
      obtain ⟨o', ho', hl'⟩ := liveMid j oj hj0 hoj hlj
      have hjj := old j hjS hj0
      obtain ⟨_, hf⟩ := h2.fresh i a oi hn hoi hli hma
      rcases hf with hf | ⟨k, hk, ⟨im', him', hbb⟩, hd⟩
      · have := (h1.ok.low j o' b hjj ho' hl' hmb).1
        omega
      · obtain ⟨hkS, ⟨ok, hok, hlk⟩, im'', him'', hrk⟩ := hW2S k hk
        rw [him'] at him''; cases him''
        have hkj : k ≠ j := by
          rintro rfl
          rw [ha k (.inl hk)] at hoj
          exact hd oj hoj hlj
        have := h1.ok.inj k j ok o' im' b (hsub k hkS) hjj hkj hok ho' hlk hl' him' hmb hrk hrb
        omega
    by_cases hni : New2 i
    · by_cases hnj : New2 j
      · rw [ha i (.inr hni)] at hoi
        rw [ha j (.inr hnj)] at hoj
        exact h2.ok.inj i j oi oj a b (.inr hni) (.inr hnj) hij hoi hoj hli hlj hma hmb hra hrb
      · exact nw i j oi oj a b hni hnj hj hij hoi hoj hli hlj hma hmb hrb
    · by_cases hnj : New2 j
      · exact Ne.symm (nw j i oj oi b a hnj hni hi (Ne.symm hij) hoj hoi hlj hli hmb hma hra)
      · rw [mu2 i hni] at hma
        rw [mu2 j hnj] at hmb
        obtain ⟨o1, ho1, hl1⟩ := liveMid i oi hni hoi hli
        obtain ⟨o2, ho2, hl2⟩ := liveMid j oj hnj hoj hlj
        exact h1.ok.inj i j o1 o2 a b (old i hi hni) (old j hj hnj) hij ho1 ho2 hl1 hl2 hma hmb hra hrb
  · by_cases ht : W2 i ∨ New2 i
    · rw [ha i ht] at ho
      exact h2.ok.reg i o (ht.imp (fun h => (hW2S i h).1) id) ho hr
    · have hw : ¬ W2 i := fun h => ht (.inl h)
      have hn : ¬ New2 i := fun h => ht (.inr h)
      rw [hb i hw hn] at ho
      have hi' : S i ∨ New1 i := by rcases hi with h | h | h <;> first | exact .inl h | exact .inr h | exact absurd h hn
      obtain ⟨im, him, hf⟩ := h1.ok.reg i o hi' ho hr
      refine ⟨im, ext12 _ _ him, fun b x hx => ?_⟩
      have e := hf b x hx
      rw [h2.frame b (by simpa using (Array.getElem?_eq_some_iff.1 e).1) fun k hk im' him' hbb => ?_]
      · exact e
      · obtain ⟨hkS, ⟨ok, hok, hlk⟩, im'', him'', hrk⟩ := hW2S k hk
        rw [him'] at him''; cases him''
        exact h1.ok.sep i k o ok im im' x hi' (hsub k hkS) ho hok hr hlk him him' hrk (by rw [hbb]; exact hx)
  · have old : ∀ i, (S i ∨ New1 i ∨ New2 i) → ¬ New2 i → S i ∨ New1 i := by
      intro i hi hn
      rcases hi with h | h | h <;> first | exact .inl h | exact .inr h | exact absurd h hn
    by_cases htj : W2 j ∨ New2 j
    · by_cases hti : W2 i ∨ New2 i
      · rw [ha i hti] at hoi
        rw [ha j htj] at hoj
        exact h2.ok.sep i j oi oj a b x (hti.imp (fun h => (hW2S i h).1) id) (htj.imp (fun h => (hW2S j h).1) id) hoi hoj hri hlj hma hmb hrb hx
      · have hw : ¬ W2 i := fun h => hti (.inl h)
        have hn : ¬ New2 i := fun h => hti (.inr h)
        rw [hb i hw hn] at hoi
        rw [mu2 i hn] at hma
        have hi' := old i hi hn
        obtain ⟨im, him, hf⟩ := h1.ok.reg i oi hi' hoi hri
        rw [hma] at him; cases him
        have hlt : b.blk < w1.heap.size := (Array.getElem?_eq_some_iff.1 (hf _ x hx)).1
        by_cases hnj : New2 j
        · rw [ha j (.inr hnj)] at hoj
          obtain ⟨_, hfr⟩ := h2.fresh j b oj hnj hoj hlj hmb
          rcases hfr with hfr | ⟨k, hk, ⟨im', him', hbb⟩, hd⟩
          · omega
          · obtain ⟨hkS, ⟨ok, hok, hlk⟩, im'', him'', hrk⟩ := hW2S k hk
            rw [him'] at him''; cases him''
            exact h1.ok.sep i k oi ok a im' x hi' (hsub k hkS) hoi hok hri hlk hma him' hrk (by rw [hbb]; exact hx)
        · have hwj : W2 j := htj.resolve_right hnj
          obtain ⟨hkS, ⟨ok, hok, hlk⟩, im'', him'', hrk⟩ := hW2S j hwj
          rw [mu2 j hnj] at hmb
          exact h1.ok.sep i j oi ok a b x hi' (hsub j hkS) hoi hok hri hlk hma hmb hrb hx
    · have hwj : ¬ W2 j := fun h => htj (.inl h)
      have hnj : ¬ New2 j := fun h => htj (.inr h)
      rw [hb j hwj hnj] at hoj
      rw [mu2 j hnj] at hmb
      have hj' := old j hj hnj
      by_cases hti : W2 i ∨ New2 i
      · rw [ha i hti] at hoi
        rcases h2.rf i a oi hti.symm hoi hri hma b.blk x hx with e | ⟨k, kim, ko, hS, hko, hkr, hkm, hkb⟩ | ⟨k, hk, ⟨im', him', hbb⟩, hd⟩
        · have := (h1.ok.low j oj b hj' hoj hlj hmb).1
          omega
        · rw [hGc k hS] at hko
          exact h1.ok.sep k j ko oj kim b x (hsub k hS) hj' hko hoj hkr hlj hkm hmb hrb hkb
        · obtain ⟨hkS, ⟨ok, hok, hlk⟩, im'', him'', hrk⟩ := hW2S k hk
          rw [him'] at him''; cases him''
          exact h1.ok.inj k j ok oj im' b (hsub k hkS) hj' (fun e => hwj (e ▸ hk)) hok hoj hlk hlj him' hmb hrk hrb hbb
      · have hw : ¬ W2 i := fun h => hti (.inl h)
        have hn : ¬ New2 i := fun h => hti (.inr h)
        rw [hb i hw hn] at hoi
        rw [mu2 i hn] at hma
        exact h1.ok.sep i j oi oj a b x (old i hi hn) hj' hoi hoj hri hlj hma hmb hrb hx
  · rw [mu2 i (fun h => hi (.inr h)), h1.ext i (fun h => hi (.inl h))]
  · have hn1 : ¬ New1 i := fun h => hn (.inl h)
    rw [hb i (fun h => hw (.inr ⟨h, hn1⟩)) (fun h => hn (.inr h)), h1.keep i hn1 (fun h => hw (.inl h))]
  · have e1 := h1.frame b hb0 fun i hi => hw i (.inl hi)
    rw [← e1]
    refine h2.frame b (Nat.lt_of_lt_of_le hb0 h1.grow) fun i hi im him => ?_
    by_cases hn : New1 i
    · obtain ⟨_, ⟨o, ho, hl⟩, _⟩ := hW2S i hi
      obtain ⟨_, hf⟩ := h1.fresh i im o hn ho hl him
      rcases hf with hf | ⟨k, hk, ⟨im', him', hbb⟩, _⟩
      · omega
      · rw [← hbb]; exact hw k (.inl hk) im' him'
    · rw [h1.ext i hn] at him
      exact hw i (.inr ⟨hi, hn⟩) im him
  · rcases hi with hi | ⟨hi, hn⟩
    · exact h1.wr i hi
    · obtain ⟨hS2, ⟨o, ho, hl⟩, im, him, hr⟩ := hW2S i hi
      have hS : S i := (hsub i hS2).elim id fun h => absurd h hn
      refine ⟨hS, ?_, im, by rw [← h1.ext i hn]; exact him, hr⟩
      by_cases hw : W1 i
      · exact (h1.wr i hw).2.1
      · rw [h1.keep i hn hw] at ho; exact ⟨o, ho, hl⟩
  · by_cases hn : New2 i
    · rw [ha i (.inr hn)] at ho
      obtain ⟨hr, hf⟩ := h2.fresh i im o hn ho hl him
      refine ⟨hr, ?_⟩
      rcases hf with hf | ⟨k, hk, ⟨im', him', hbb⟩, hd⟩
      · exact .inl (Nat.le_trans h1.grow hf)
      · have hd2 : ∀ o, G2 k = some o → ¬ live o := fun o ho => by rw [ha k (.inl hk)] at ho; exact hd o ho
        by_cases hk1 : New1 k
        · obtain ⟨_, ⟨o', ho', hl'⟩, _⟩ := hW2S k hk
          obtain ⟨_, hf'⟩ := h1.fresh k im' o' hk1 ho' hl' him'
          rcases hf' with hf' | ⟨k', hk', ⟨im'', him'', hb''⟩, hd'⟩
          · exact .inl (by omega)
          · exact .inr ⟨k', .inl hk', ⟨im'', him'', by omega⟩, dead k' hk' hd'⟩
        · exact .inr ⟨k, .inr ⟨hk, hk1⟩, ⟨im', by rw [← h1.ext k hk1]; exact him', hbb⟩, hd2⟩
    · have hn1 : New1 i := hi.elim id fun h => absurd h hn
      rw [mu2 i hn] at him
      obtain ⟨o', ho', hl'⟩ := liveMid i o hn ho hl
      obtain ⟨hr, hf⟩ := h1.fresh i im o' hn1 ho' hl' him
      refine ⟨hr, ?_⟩
      rcases hf with hf | ⟨k, hk, him', hd⟩
      · exact .inl hf
      · exact .inr ⟨k, .inl hk, him', dead k hk hd⟩
  · have mid : ∀ k kim ko, (New1 k ∨ W1 k) → G1 k = some ko → isReg ko → μ1 k = some kim → kim.fm b = some x →
        w.heap.size ≤ b ∨ (∃ k kim ko, S k ∧ G k = some ko ∧ isReg ko ∧ μ k = some kim ∧ kim.fm b = some x) ∨ ∃ k, (W1 k ∨ (W2 k ∧ ¬ New1 k)) ∧ (∃ im', μ k = some im' ∧ im'.blk = b) ∧ ∀ o, G2 k = some o → ¬ live o := by
      intro k kim ko hk hko hkr hkm hkb
      rcases h1.rf k kim ko hk hko hkr hkm b x hkb with h | h | ⟨k', a, d, e⟩
      · exact .inl h
      · exact .inr (.inl h)
      · exact .inr (.inr ⟨k', .inl a, d, dead k' a e⟩)
    by_cases hA : New2 i ∨ W2 i
    · rw [ha i hA.symm] at ho
      rcases h2.rf i im o hA ho hr him b x hfb with h | ⟨k, kim, ko, hS, hko, hkr, hkm, hkb⟩ | ⟨k, hk, ⟨im', him', hbb⟩, hd⟩
      · exact .inl (Nat.le_trans h1.grow h)
      · rw [hGc k hS] at hko
        by_cases hx : New1 k ∨ W1 k
        · exact mid k kim ko hx hko hkr hkm hkb
        · have hk1 : ¬ New1 k := fun e => hx (.inl e)
          rw [h1.keep k hk1 fun e => hx (.inr e)] at hko
          rw [h1.ext k hk1] at hkm
          exact .inr (.inl ⟨k, kim, ko, (hsub k hS).resolve_right hk1, hko, hkr, hkm, hkb⟩)
      · have hd2 : ∀ o, G2 k = some o → ¬ live o := fun o ho => by rw [ha k (.inl hk)] at ho; exact hd o ho
        by_cases hk1 : New1 k
        · obtain ⟨_, ⟨o', ho', hl'⟩, _⟩ := hW2S k hk
          obtain ⟨_, hf'⟩ := h1.fresh k im' o' hk1 ho' hl' him'
          rcases hf' with hf' | ⟨k', hk', ⟨im'', him'', hb''⟩, hd'⟩
          · exact .inl (by omega)
          · exact .inr (.inr ⟨k', .inl hk', ⟨im'', him'', by omega⟩, dead k' hk' hd'⟩)
        · exact .inr (.inr ⟨k, .inr ⟨hk, hk1⟩, ⟨im', by rw [← h1.ext k hk1]; exact him', hbb⟩, hd2⟩)
    · have hn2 : ¬ New2 i := fun e => hA (.inl e)
      have hw2 : ¬ W2 i := fun e => hA (.inr e)
      rw [hb i hw2 hn2] at ho
      rw [mu2 i hn2] at him
      refine mid i im o ?_ ho hr him hfb
      rcases hi with (h | h) | h | h
      · exact .inl h
      · exact absurd h hn2
      · exact .inr h
      · exact absurd h.1 hw2
end Go.CE

namespace Go.CE
open Go Go.RowKit

def up1 {α : Type} (b : Bool) : Option α → α → α
  | some x, a => bif b then x else a
  | none, a => a
def lastc {α : Type} (D : Nat → Bool) : List (Option α) → Nat → α → α
  | [], _, a => a
  | c :: l, k, a => lastc D l (k + 1) (up1 (D k) c a)
theorem lastc_congr {α : Type} {D D' : Nat → Bool} : ∀ (l : List (Option α)) (k : Nat) (a : α), (∀ i x, l[i]? = some (some x) → D (k + i) = D' (k + i)) → lastc D l k a = lastc D' l k a
  | [], _, _, _ => rfl
  | c :: l, k, a, h => by
    simp only [lastc]
    have e : up1 (D k) c a = up1 (D' k) c a := by
      cases c with
      | none => rfl
      | some x => rw [show D k = D' k by simpa using h 0 x rfl]
    rw [e]
    exact lastc_congr l (k + 1) _ fun i x hx => by have := h (i + 1) x (by simpa using hx); rwa [show k + (i + 1) = k + 1 + i by omega] at this
theorem lastc_none {α : Type} {D : Nat → Bool} : ∀ (l : List (Option α)) (k : Nat) (a : α), (∀ i x, l[i]? = some (some x) → D (k + i) = false) → lastc D l k a = a
  | [], _, _, _ => rfl
  | c :: l, k, a, h => by
    simp only [lastc]
    have e : up1 (D k) c a = a := by
      cases c with
      | none => rfl
      | some x => rw [show D k = false by simpa using h 0 x rfl]; rfl
    rw [e]
    exact lastc_none l (k + 1) a fun i x hx => by have := h (i + 1) x (by simpa using hx); rwa [show k + (i + 1) = k + 1 + i by omega] at this
theorem lastc_at {α : Type} {D : Nat → Bool} {x : α} : ∀ (l : List (Option α)) (k j : Nat) (a : α), l[j]? = some (some x) → D (k + j) = true → (∀ i y, j < i → l[i]? = some (some y) → D (k + i) = false) → lastc D l k a = x
  | [], _, _, _, h, _, _ => by simp at h
  | c :: l, k, 0, a, h, hd, hn => by
    simp only [List.getElem?_cons_zero, Option.some.injEq] at h
    subst h
    simp only [lastc]
    rw [show D k = true by simpa using hd]
    exact lastc_none l (k + 1) x fun i y hy => by have := hn (i + 1) y (by omega) (by simpa using hy); rwa [show k + (i + 1) = k + 1 + i by omega] at this
  | c :: l, k, j + 1, a, h, hd, hn => by
    simp only [lastc]
    exact lastc_at l (k + 1) j _ (by simpa using h) (by rwa [show k + 1 + j = k + (j + 1) by omega]) fun i y hi hy => by
      have := hn (i + 1) y (by omega) (by simpa using hy)
      rwa [show k + (i + 1) = k + 1 + i by omega] at this

inductive Tri where
  | lf
  | nd (l : Tri) (v : Value) (r : Tri)
def Tri.get : Tri → Nat → Value
  | .lf, _ => undef
  | .nd _ v _, 0 => v
  | .nd l _ r, k + 1 => bif Nat.beq (k % 2) 0 then l.get (k / 2) else r.get (k / 2)
def Tri.set : Nat → Tri → Nat → Value → Tri
  | 0, t, _, _ => t
  | _ + 1, .lf, 0, x => .nd .lf x .lf
  | _ + 1, .nd l _ r, 0, x => .nd l x r
  | f + 1, .lf, k + 1, x => bif Nat.beq (k % 2) 0 then .nd (Tri.set f .lf (k / 2) x) undef .lf else .nd .lf undef (Tri.set f .lf (k / 2) x)
  | f + 1, .nd l v r, k + 1, x => bif Nat.beq (k % 2) 0 then .nd (Tri.set f l (k / 2) x) v r else .nd l v (Tri.set f r (k / 2) x)
theorem Tri.get_lf (i : Nat) : Tri.lf.get i = undef := by cases i <;> rfl
theorem Tri.get_succ (l : Tri) (v : Value) (r : Tri) (k : Nat) : (Tri.nd l v r).get (k + 1) = if k % 2 = 0 then l.get (k / 2) else r.get (k / 2) := by
  show (bif Nat.beq (k % 2) 0 then l.get (k / 2) else r.get (k / 2)) = _
  by_cases h : k % 2 = 0
  · rw [h]; rfl
  · rw [beq_no h, if_neg h]; rfl
theorem Tri.set_lf (f k : Nat) (x : Value) : Tri.set (f + 1) .lf (k + 1) x = if k % 2 = 0 then Tri.nd (Tri.set f .lf (k / 2) x) undef .lf else Tri.nd .lf undef (Tri.set f .lf (k / 2) x) := by
  show (bif Nat.beq (k % 2) 0 then _ else _) = _
  by_cases h : k % 2 = 0
  · rw [h]; rfl
  · rw [beq_no h, if_neg h]; rfl
theorem Tri.set_nd (f k : Nat) (l : Tri) (v : Value) (r : Tri) (x : Value) : Tri.set (f + 1) (.nd l v r) (k + 1) x = if k % 2 = 0 then Tri.nd (Tri.set f l (k / 2) x) v r else Tri.nd l v (Tri.set f r (k / 2) x) := by
  show (bif Nat.beq (k % 2) 0 then _ else _) = _
  by_cases h : k % 2 = 0
  · rw [h]; rfl
  · rw [beq_no h, if_neg h]; rfl
theorem Tri.lf_get (j : Nat) : (Tri.nd .lf undef .lf).get j = Tri.lf.get j := by
  cases j with
  | zero => rfl
  | succ j => rw [Tri.get_succ]; simp only [Tri.get_lf, ite_self]
theorem Tri.get_set : ∀ (f : Nat) (t : Tri) (i : Nat) (x : Value) (j : Nat), i + 1 < 2 ^ f → (t.set f i x).get j = if j = i then x else t.get j
  | 0, t, i, x, j, h => by simp at h
  | f + 1, t, 0, x, j, _ => by
    cases t with
    | lf =>
      show (Tri.nd .lf x .lf).get j = _
      cases j with
      | zero => rfl
      | succ j => rw [if_neg (by omega), Tri.get_succ]; simp only [Tri.get_lf, ite_self]
    | nd l v r =>
      show (Tri.nd l x r).get j = _
      cases j with
      | zero => rfl
      | succ j => rw [if_neg (by omega), Tri.get_succ, Tri.get_succ]
  | f + 1, t, k + 1, x, j, h => by
    have hk : k / 2 + 1 < 2 ^ f := by rw [Nat.pow_succ] at h; omega
    by_cases he : k % 2 = 0
    · have key : ∀ l v r, (Tri.nd (Tri.set f l (k / 2) x) v r).get j = if j = k + 1 then x else (Tri.nd l v r).get j := by
        intro l v r
        cases j with
        | zero => rfl
        | succ j =>
          rw [Tri.get_succ, Tri.get_succ, Tri.get_set f l (k / 2) x (j / 2) hk]
          by_cases hj : j % 2 = 0
          · rw [if_pos hj, if_pos hj]
            by_cases e : j = k
            · subst e; simp
            · rw [if_neg (by omega), if_neg (by omega)]
          · rw [if_neg hj, if_neg hj, if_neg (by omega)]
      cases t with
      | lf => rw [Tri.set_lf, if_pos he, key, Tri.lf_get]
      | nd l v r => rw [Tri.set_nd, if_pos he, key]
    · have key : ∀ l v r, (Tri.nd l v (Tri.set f r (k / 2) x)).get j = if j = k + 1 then x else (Tri.nd l v r).get j := by
        intro l v r
        cases j with
        | zero => rfl
        | succ j =>
          rw [Tri.get_succ, Tri.get_succ, Tri.get_set f r (k / 2) x (j / 2) hk]
          by_cases hj : j % 2 = 0
          · rw [if_pos hj, if_pos hj, if_neg (by omega)]
          · rw [if_neg hj, if_neg hj]
            by_cases e : j = k
            · subst e; simp
            · rw [if_neg (by omega), if_neg (by omega)]
      cases t with
      | lf => rw [Tri.set_lf, if_neg he, key, Tri.lf_get]
      | nd l v r => rw [Tri.set_nd, if_neg he, key]
structure Tm where
  len : Nat
  tr : Tri
def tget (T : Tm) (t : Nat) : Value := T.tr.get t
def tput (T : Tm) (d : Option Tmp) (v : Value) : Tm := match d with | some d => ⟨T.len, T.tr.set 14 d v⟩ | none => T
def evC (T : Tm) : Operand → Option Value
  | .tmp t => some (tget T t)
  | .const v => bif af v then some v else none
  | .func f => some (.func (.func f) #[] #[])
  | .global _ => none
def TR (μ : Mu) (T : Tm) (A : Array Value) : Prop := T.len = A.size ∧ ∀ t, VR μ (tget T t) (A.getD t undef)
theorem TR.mono {μ μ' : Mu} (e : Ext μ μ') {T : Tm} {A : Array Value} (h : TR μ T A) : TR μ' T A := ⟨h.1, fun t => (h.2 t).mono e⟩
theorem tput_len {T : Tm} {d : Option Tmp} {v : Value} : (tput T d v).len = T.len := by cases d <;> rfl
theorem lt14 (d : Nat) (h : d < 16000) : d + 1 < 2 ^ 14 := by omega
theorem tput_get {T : Tm} {d : Option Tmp} {v : Value} {t : Nat} (h : ∀ x, d = some x → x < 16000) : tget (tput T d v) t = if d = some t then v else tget T t := by
  cases d with
  | none => simp [tput]
  | some d =>
    have h2 := lt14 d (h d rfl)
    simp only [tput, tget, Option.some.injEq]
    rw [Tri.get_set 14 _ d _ _ h2]
    by_cases e : d = t
    · subst e; simp
    · rw [if_neg (Ne.symm e), if_neg e]
theorem TR.put {μ : Mu} {T : Tm} {A : Array Value} (h : TR μ T A) {d : Option Tmp} (hd : ∀ x, d = some x → x < T.len ∧ x < 16000) {v v' : Value} (hv : VR μ v v') : TR μ (tput T d v) (match d with | some x => A.setIfInBounds x v' | none => A) := by
  refine ⟨?_, fun t => ?_⟩
  · rw [tput_len]; cases d <;> simp [h.1]
  · rw [tput_get fun x hx => (hd x hx).2]
    cases d with
    | none => simpa using h.2 t
    | some x =>
      have hx : x < A.size := h.1 ▸ (hd x rfl).1
      simp only [Option.some.injEq]
      by_cases e : x = t
      · subst e; simpa [hx] using hv
      · have := h.2 t
        simp [e] at this ⊢
        exact this
def boolOf : Value → Option Bool
  | .bool b => some b
  | _ => none
def yieldedC (ops : Array Oper) (T : Tm) (j : Nat) : Option Bool :=
  match nth ops.toList j with
  | some o => match o.dst with
    | some t => boolOf (tget T t)
    | none => none
  | none => none
theorem yieldedC_eq {ops : Array Oper} {T : Tm} {j : Nat} : yieldedC ops T j = match (ops[j]?).bind (·.dst) with
    | some t => boolOf (tget T t)
    | none => none := by
  unfold yieldedC
  rw [nth_eq, Array.getElem?_toList]
  cases ops[j]? <;> rfl
theorem yielded_eq {ops : Array Oper} {A : Array Value} {j : Nat} : yielded ops A j = match (ops[j]?).bind (·.dst) with
    | some t => boolOf (A.getD t undef)
    | none => none := by
  unfold yielded
  cases (ops[j]?).bind (·.dst) with
  | none => rfl
  | some t =>
    simp only [Option.bind_some, Array.getD_eq_getD_getElem?]
    cases A[t]? with
    | none => rfl
    | some v => cases v <;> rfl
theorem bool_vr {μ : Mu} {v v' : Value} (h : VR μ v v') : boolOf v' = boolOf v := by
  cases h with
  | junk a b c =>
    cases v' with
    | bool q => exact absurd rfl (a q)
    | _ => rfl
  | top a b c =>
    cases v' with
    | bool q => exact absurd rfl (c.nobool a q)
    | _ => rfl
  | _ => rfl

structure Rec where
  o : Oper
  run : Bool
  v : Value
  T : Tm
  H : Heap
  H' : Heap
  n : Nat
  n' : Nat
  R : List Nat
  W : List Nat
def Chain : List Rec → Tm → Heap → Nat → Tm → Heap → Nat → Prop
  | [], T, H, n, T', H', n' => T = T' ∧ H = H' ∧ n = n'
  | r :: l, T, H, n, T', H', n' => r.T = T ∧ r.H = H ∧ r.n = n ∧ Chain l (tput T r.o.dst r.v) r.H' r.n' T' H' n'
structure Sane (len : Nat) (r : Rec) : Prop where
  le : r.n ≤ r.n'
  keep : ∀ i, i < r.n → i ∉ r.W → hget r.H' i = hget r.H i
  top : ∀ i, r.n' ≤ i → hget r.H' i = hget r.H i
  sub : ∀ i, i ∈ r.W → i ∈ r.R
  wlt : ∀ i, i ∈ r.W → i < r.n'
  dst : ∀ x, r.o.dst = some x → x < len ∧ x < 16000
def touches (r : Rec) (i : Nat) : Bool := r.W.contains i || (Nat.ble r.n i && Nat.blt i r.n')
theorem touches_iff {r : Rec} {i : Nat} : touches r i = true ↔ i ∈ r.W ∨ (r.n ≤ i ∧ i < r.n') := by
  simp only [touches, Bool.or_eq_true, List.contains_iff_mem, Bool.and_eq_true]
  refine or_congr Iff.rfl ⟨fun h => ⟨Nat.le_of_ble_eq_true h.1, Nat.le_of_ble_eq_true h.2⟩, fun h => ⟨Nat.ble_eq_true_of_le h.1, Nat.ble_eq_true_of_le h.2⟩⟩
def cH (i : Nat) (r : Rec) : Option (Option Obj) := bif touches r i then some (hget r.H' i) else none
def cT (t : Nat) (r : Rec) : Option Value := if r.o.dst = some t then some r.v else none
theorem cH_step {len : Nat} {r : Rec} (h : Sane len r) (i : Nat) (a : Option Obj) (ha : a = hget r.H i) : up1 true (cH i r) a = hget r.H' i := by
  unfold cH
  cases ht : touches r i with
  | true => rfl
  | false =>
    simp only [cond_false, up1]
    have hn : ¬ (i ∈ r.W ∨ (r.n ≤ i ∧ i < r.n')) := fun e => by rw [touches_iff.2 e] at ht; cases ht
    rw [ha]
    rcases Nat.lt_or_ge i r.n with hlt | hge
    · exact (h.keep i hlt fun e => hn (.inl e)).symm
    · exact (h.top i (by
        rcases Nat.lt_or_ge i r.n' with h1 | h1
        · exact absurd (.inr ⟨hge, h1⟩) hn
        · exact h1)).symm
theorem chain_heap {len : Nat} (i : Nat) : ∀ (l : List Rec) (k : Nat) (T : Tm) (H : Heap) (n : Nat) (T' : Tm) (H' : Heap) (n' : Nat), Chain l T H n T' H' n' → (∀ r ∈ l, Sane len r) →
    (∀ j r, l[j]? = some r → hget r.H i = lastc (fun q => decide (q < k + j)) (l.map (cH i)) k (hget H i)) ∧ hget H' i = lastc (fun _ => true) (l.map (cH i)) k (hget H i)
  | [], k, T, H, n, T', H', n', h, _ => ⟨fun j r hr => by simp at hr, by obtain ⟨_, rfl, _⟩ := h; rfl⟩
  | r :: l, k, T, H, n, T', H', n', h, hs => by
    obtain ⟨h1, h2, h3, h4⟩ := h
    obtain ⟨q1, q2⟩ := chain_heap i l (k + 1) _ _ _ _ _ _ h4 fun x hx => hs x (List.mem_cons_of_mem _ hx)
    have hst := cH_step (hs r (by simp)) i (hget H i) (by rw [h2])
    refine ⟨fun j x hx => ?_, ?_⟩
    · cases j with
      | zero =>
        simp only [List.getElem?_cons_zero, Option.some.injEq] at hx
        subst hx
        rw [lastc_none _ _ _ fun a y _ => by simp, h2]
      | succ j =>
        rw [q1 j x (by simpa using hx)]
        simp only [List.map_cons, lastc]
        rw [show (decide (k < k + (j + 1))) = true by simp]
        rw [hst]
        exact lastc_congr _ _ _ fun a y _ => by rw [show k + 1 + j = k + (j + 1) by omega]
    · rw [q2]
      simp only [List.map_cons, lastc]
      rw [hst]
theorem chain_tmps {len : Nat} (t : Nat) : ∀ (l : List Rec) (k : Nat) (T : Tm) (H : Heap) (n : Nat) (T' : Tm) (H' : Heap) (n' : Nat), Chain l T H n T' H' n' → (∀ r ∈ l, Sane len r) → T.len = len →
    (∀ j r, l[j]? = some r → r.T.len = len ∧ tget r.T t = lastc (fun q => decide (q < k + j)) (l.map (cT t)) k (tget T t)) ∧ T'.len = len ∧ tget T' t = lastc (fun _ => true) (l.map (cT t)) k (tget T t)
  | [], k, T, H, n, T', H', n', h, _, hl => ⟨fun j r hr => by simp at hr, by obtain ⟨rfl, _⟩ := h; exact ⟨hl, rfl⟩⟩
  | r :: l, k, T, H, n, T', H', n', h, hs, hl => by
    obtain ⟨h1, h2, h3, h4⟩ := h
    have hd := (hs r (by simp)).dst
    have hlen : (tput T r.o.dst r.v).len = len := by rw [tput_len]; exact hl
    obtain ⟨q1, q2, q3⟩ := chain_tmps t l (k + 1) _ _ _ _ _ _ h4 (fun x hx => hs x (List.mem_cons_of_mem _ hx)) hlen
    have hst : up1 true (cT t r) (tget T t) = tget (tput T r.o.dst r.v) t := by
      rw [tput_get fun x hx => (hd x hx).2]
      unfold cT
      split <;> rfl
    refine ⟨fun j x hx => ?_, q2, ?_⟩
    · cases j with
      | zero =>
        simp only [List.getElem?_cons_zero, Option.some.injEq] at hx
        subst hx
        rw [lastc_none _ _ _ fun a y _ => by simp, h1]
        exact ⟨hl, rfl⟩
      | succ j =>
        obtain ⟨a1, a2⟩ := q1 j x (by simpa using hx)
        refine ⟨a1, ?_⟩
        rw [a2]
        simp only [List.map_cons, lastc]
        rw [show (decide (k < k + (j + 1))) = true by simp]
        rw [hst]
        exact lastc_congr _ _ _ fun a y _ => by rw [show k + 1 + j = k + (j + 1) by omega]
    · rw [q3]
      simp only [List.map_cons, lastc]
      rw [hst]
theorem chain_n {len : Nat} : ∀ (l : List Rec) (T : Tm) (H : Heap) (n : Nat) (T' : Tm) (H' : Heap) (n' : Nat), Chain l T H n T' H' n' → (∀ r ∈ l, Sane len r) →
    n ≤ n' ∧ (∀ r ∈ l, n ≤ r.n ∧ r.n' ≤ n') ∧ (∀ (i j : Nat) (a b : Rec), i < j → l[i]? = some a → l[j]? = some b → a.n' ≤ b.n) ∧ (∀ x, n ≤ x → x < n' → ∃ (j : Nat) (r : Rec), l[j]? = some r ∧ r.n ≤ x ∧ x < r.n')
  | [], T, H, n, T', H', n', h, _ => by obtain ⟨_, _, rfl⟩ := h; exact ⟨Nat.le_refl _, by simp, fun i j a b _ h => by simp at h, fun x h1 h2 => absurd h1 (by omega)⟩
  | r :: l, T, H, n, T', H', n', h, hs => by
    obtain ⟨h1, h2, h3, h4⟩ := h
    obtain ⟨q1, q2, q3, q4⟩ := chain_n l _ _ _ _ _ _ h4 fun x hx => hs x (List.mem_cons_of_mem _ hx)
    have hr := (hs r (by simp)).le
    refine ⟨by omega, fun x hx => ?_, fun i j a b hij ha hb => ?_, fun x hx1 hx2 => ?_⟩
    · rcases List.mem_cons.1 hx with rfl | hx
      · omega
      · have := q2 x hx; omega
    · cases j with
      | zero => omega
      | succ j =>
        cases i with
        | zero =>
          simp only [List.getElem?_cons_zero, Option.some.injEq] at ha
          subst ha
          exact (q2 b (List.mem_of_getElem? (by simpa using hb))).1
        | succ i => exact q3 i j a b (by omega) (by simpa using ha) (by simpa using hb)
    · rcases Nat.lt_or_ge x r.n' with hlt | hge
      · exact ⟨0, r, rfl, by omega, hlt⟩
      · obtain ⟨j, r', hj, hx⟩ := q4 x hge hx2
        exact ⟨j + 1, r', by simpa using hj, hx⟩

theorem getD_app {α : Type} {l m : List α} {i : Nat} {d : α} (h : i < l.length) : (l ++ m).getD i d = l.getD i d := by
  rw [List.getD_eq_getElem?_getD, List.getD_eq_getElem?_getD, List.getElem?_append_left h]
def befsM : List Oper → List Nat → List Nat
  | [], acc => acc
  | o :: l, acc => befsM l (acc ++ [o.after.toList.foldr (fun e m => bif Region.binds .any e then Nat.lor (Nat.lor (Nat.shiftLeft 1 e.on) (acc.getD e.on 0)) m else m) 0])
def maskL (n m : Nat) : List Nat := (List.range n).filter fun i => Nat.beq (Nat.land (Nat.shiftRight m i) 1) 1
theorem maskL_mem {n m i : Nat} : i ∈ maskL n m ↔ i < n ∧ m.testBit i = true := by
  unfold maskL
  rw [List.mem_filter, List.mem_range, Nat.beq_eq, Nat.testBit_eq_decide_div_mod_eq, decide_eq_true_iff]
  show (i < n ∧ (m >>> i) &&& 1 = 1) ↔ _
  rw [Nat.and_one_is_mod, Nat.shiftRight_eq_div_pow]
theorem lor_bit {a b i : Nat} : (Nat.lor a b).testBit i = (a.testBit i || b.testBit i) := Nat.testBit_or a b i
theorem one_bit {k i : Nat} (h : (Nat.shiftLeft 1 k).testBit i = true) : i = k := by
  have e : Nat.shiftLeft 1 k = 2 ^ k := by show 1 <<< k = _; rw [Nat.shiftLeft_eq, Nat.one_mul]
  rw [e, Nat.testBit_two_pow] at h
  exact (of_decide_eq_true h).symm
theorem fold_bit {acc : List Nat} {i : Nat} : ∀ (l : List Edge), (l.foldr (fun e m => bif Region.binds .any e then Nat.lor (Nat.lor (Nat.shiftLeft 1 e.on) (acc.getD e.on 0)) m else m) 0).testBit i = true → ∃ e ∈ l, Region.binds .any e = true ∧ (i = e.on ∨ (acc.getD e.on 0).testBit i = true)
  | [], h => by simp at h
  | e :: l, h => by
    rw [List.foldr_cons] at h
    cases hb : Region.binds .any e with
    | false =>
      rw [hb, cond_false] at h
      obtain ⟨x, hx, h1⟩ := fold_bit l h
      exact ⟨x, List.mem_cons_of_mem _ hx, h1⟩
    | true =>
      rw [hb, cond_true, lor_bit, lor_bit, Bool.or_eq_true, Bool.or_eq_true] at h
      rcases h with (h | h) | h
      · exact ⟨e, List.mem_cons_self, hb, Or.inl (one_bit h)⟩
      · exact ⟨e, List.mem_cons_self, hb, Or.inr h⟩
      · obtain ⟨x, hx, h1⟩ := fold_bit l h
        exact ⟨x, List.mem_cons_of_mem _ hx, h1⟩
def befs (l : List Oper) (_ : List (List Nat)) : List (List Nat) := (befsM l []).map (maskL l.length)
def Bef (ops : List Oper) (bs : List (List Nat)) : Prop := bs.length ≤ ops.length ∧ ∀ k b, bs[k]? = some b → ∀ i ∈ b, ∃ o, ops[k]? = some o ∧ ∃ e ∈ o.after, Region.binds .any e = true ∧ e.on < k ∧ (i = e.on ∨ i ∈ bs.getD e.on [])
def BefM (ops : List Oper) (bs : List Nat) : Prop := bs.length ≤ ops.length ∧ ∀ k b, bs[k]? = some b → ∀ i, b.testBit i = true → ∃ o, ops[k]? = some o ∧ ∃ e ∈ o.after, Region.binds .any e = true ∧ e.on < k ∧ (i = e.on ∨ (bs.getD e.on 0).testBit i = true)
theorem befsM_ok : ∀ (l pre : List Oper) (acc : List Nat), acc.length = pre.length → BefM (pre ++ l) acc → (∀ (k : Nat) o, (pre ++ l)[k]? = some o → ∀ e ∈ o.after, Region.binds .any e = true → e.on < k) → BefM (pre ++ l) (befsM l acc) ∧ (befsM l acc).length = (pre ++ l).length
  | [], pre, acc, hl, h, _ => ⟨h, by simpa [befsM] using hl⟩
  | o :: l, pre, acc, hl, h, hlt => by
    have e : pre ++ o :: l = (pre ++ [o]) ++ l := by simp
    rw [e] at h hlt ⊢
    refine befsM_ok l (pre ++ [o]) _ (by simp [hl]) ⟨by simp [hl], fun k b hb i hi => ?_⟩ hlt
    rcases Nat.lt_or_ge k acc.length with hk | hk
    · rw [List.getElem?_append_left hk] at hb
      obtain ⟨x, hx, ed, hed, hbd, hon, hor⟩ := h.2 k b hb i hi
      refine ⟨x, hx, ed, hed, hbd, hon, hor.imp id fun h => ?_⟩
      rwa [getD_app (by omega)]
    · have hk0 : k = acc.length := by
        have := (List.getElem?_eq_some_iff.1 hb).1
        simp at this
        omega
      subst hk0
      rw [List.getElem?_append_right (Nat.le_refl _)] at hb
      simp only [Nat.sub_self, List.getElem?_cons_zero, Option.some.injEq] at hb
      subst hb
      have ho : ((pre ++ [o]) ++ l)[acc.length]? = some o := by rw [hl]; simp
      obtain ⟨ed, hed, hbd, hi⟩ := fold_bit _ hi
      have hon := hlt acc.length o ho ed (by simpa using hed) hbd
      exact ⟨o, ho, ed, by simpa using hed, hbd, hon, hi.imp id fun h => by rwa [getD_app (by omega)]⟩
theorem befs_ok (l : List Oper) (hlt : ∀ (k : Nat) o, l[k]? = some o → ∀ e ∈ o.after, Region.binds .any e = true → e.on < k) : Bef l (befs l []) ∧ (befs l []).length = l.length := by
  obtain ⟨⟨h1, h2⟩, h3⟩ := befsM_ok l [] [] rfl ⟨by simp, fun q b hq => by simp at hq⟩ (fun q o ho => hlt q o (by simpa using ho))
  simp only [List.nil_append] at h1 h2 h3
  refine ⟨⟨by simpa [befs] using h1, fun k b hb i hi => ?_⟩, by simpa [befs] using h3⟩
  unfold befs at hb ⊢
  rw [List.getElem?_map] at hb
  cases hm : (befsM l [])[k]? with
  | none => rw [hm] at hb; cases hb
  | some m =>
    rw [hm] at hb
    simp only [Option.map_some, Option.some.injEq] at hb
    subst hb
    obtain ⟨hi1, hi2⟩ := maskL_mem.1 hi
    obtain ⟨o, ho, e, he, hbd, hon, hor⟩ := h2 k m hm i hi2
    refine ⟨o, ho, e, he, hbd, hon, hor.imp id fun h => ?_⟩
    have hk : k < (befsM l []).length := (List.getElem?_eq_some_iff.1 hm).1
    have he2 : e.on < (befsM l []).length := by omega
    rw [List.getD_eq_getElem?_getD, List.getElem?_map, List.getElem?_eq_getElem he2]
    rw [List.getD_eq_getElem?_getD, List.getElem?_eq_getElem he2] at h
    exact maskL_mem.2 ⟨hi1, h⟩
theorem bef_closed {ops : List Oper} {bs : List (List Nat)} (h : Bef ops bs) {D : Nat → Bool} (hD : ∀ k o, D k = true → ops[k]? = some o → ∀ e ∈ o.after, Region.binds .any e = true → D e.on = true) :
    ∀ (k : Nat), (∀ o, ops[k]? = some o → ∀ e ∈ o.after, Region.binds .any e = true → D e.on = true) → ∀ i ∈ bs.getD k [], D i = true := by
  intro k
  induction k using Nat.strongRecOn with
  | _ k ih =>
    intro hk i hi
    rw [List.getD_eq_getElem?_getD] at hi
    cases hb : bs[k]? with
    | none => rw [hb] at hi; simp at hi
    | some b =>
      rw [hb] at hi
      obtain ⟨o, ho, e, he, hbd, hon, hor⟩ := h.2 k b hb i hi
      have hDe := hk o ho e he hbd
      rcases hor with rfl | hor
      · exact hDe
      · exact ih e.on hon (fun o' ho' => hD e.on o' hDe ho') i hor
end Go.CE

namespace Go.CE
open Go Go.RowKit

inductive OO where
  | ret (v : Value)
  | pan (v : Value)
inductive OR2 (μ : Mu) : OO → OO → Prop
  | ret {v v'} : VR μ v v' → OR2 μ (.ret v) (.ret v')
  | pan {v v'} : VR μ v v' → OR2 μ (.pan v) (.pan v')
def OO.on (fr : Frame) : OO → Frame
  | .ret v => fr.finish v
  | .pan v => fr.raise [{ v, recovered := false }]
def Does (P : Program) (B : Lo) (o : Oper) (ev : Operand → Option Value) (H : Heap) (n : Nat) (out : OO) (H' : Heap) (n' : Nat) (R W : List Nat) : Prop :=
  ∀ (S : Nat → Prop) (μ : Mu) (w : World) (fr : Frame) (cs : List Frame) (k : List Item) (ops : Array Oper) (i : Nat) (rest : List Nat), Ok B S μ (hget H) w → B.has w → (∀ i, S i → i < n) → Free μ n n' →
    (∀ x ∈ o.op.operands, ∀ v, ev x = some v → VR μ v (fr.eval x)) → (∀ i ∈ R, i < n → S i) →
    fr.mode = .run → fr.todo = .inRegion ops (i :: rest) :: k → ops[i]? = some o → Region.wanted o (yielded ops fr.tmps) = true →
    ∃ out' w' μ', Post B S n n' W μ μ' H H' w w' ∧ OR2 μ' out out' ∧ Steps P (lone fr cs w) (lone (out'.on fr) cs w')
def RecOk (P : Program) (B : Lo) (ops : Array Oper) (r : Rec) : Prop :=
  (r.run = Region.wanted r.o (yieldedC ops r.T)) ∧ (r.run = true → Does P B r.o (evC r.T) r.H r.n (.ret r.v) r.H' r.n' r.R r.W) ∧ (r.run = false → r.v = undef ∧ r.H' = r.H ∧ r.n' = r.n ∧ r.W = [])

def meets (r x : Rec) : Bool := r.W.any fun i => x.R.contains i
def bears (r x : Rec) : Bool := x.R.any fun i => Nat.ble r.n i && Nat.blt i r.n'
def tied (ops : Array Oper) (r x : Rec) : Bool := !(r.o.apart ops x.o) || meets r x || meets x r || bears r x
def indepFrom (ops : Array Oper) (r : Rec) (k : Nat) : List Rec → List (List Nat) → Bool
  | x :: l, b :: bs => (b.contains k || !(tied ops r x)) && indepFrom ops r k l bs
  | [], _ => true
  | _ :: _, [] => false
def indep (ops : Array Oper) : Nat → List Rec → List (List Nat) → Bool
  | k, r :: l, _ :: bs => indepFrom ops r k l bs && indep ops (k + 1) l bs
  | _, [], _ => true
  | _, _ :: _, [] => false
theorem indepFrom_spec {ops : Array Oper} {r : Rec} {k : Nat} : ∀ (l : List Rec) (bs : List (List Nat)), indepFrom ops r k l bs = true → ∀ (j : Nat) x, l[j]? = some x → tied ops r x = true → k ∈ bs.getD j []
  | x :: l, b :: bs, h, j, y, hj, ht => by
    simp only [indepFrom, Bool.and_eq_true, Bool.or_eq_true, Bool.not_eq_true', List.contains_iff_mem] at h
    cases j with
    | zero =>
      simp only [List.getElem?_cons_zero, Option.some.injEq] at hj
      subst hj
      rcases h.1 with h1 | h1
      · simpa using h1
      · rw [ht] at h1; cases h1
    | succ j =>
      have := indepFrom_spec l bs h.2 j y (by simpa using hj) ht
      simpa using this
  | [], _, _, j, y, hj, _ => by simp at hj
  | _ :: _, [], h, _, _, _, _ => by simp [indepFrom] at h
theorem indep_spec {ops : Array Oper} : ∀ (l : List Rec) (bs : List (List Nat)) (k : Nat), indep ops k l bs = true → ∀ (i j : Nat) r x, i < j → l[i]? = some r → l[j]? = some x → tied ops r x = true → k + i ∈ bs.getD j []
  | r :: l, b :: bs, k, h, i, j, y, x, hij, hi, hj, ht => by
    simp only [indep, Bool.and_eq_true] at h
    cases j with
    | zero => omega
    | succ j =>
      cases i with
      | zero =>
        simp only [List.getElem?_cons_zero, Option.some.injEq] at hi
        subst hi
        have := indepFrom_spec l bs h.1 j x (by simpa using hj) ht
        simpa using this
      | succ i =>
        have := indep_spec l bs (k + 1) h.2 i j y x (by omega) (by simpa using hi) (by simpa using hj) ht
        rw [show k + 1 + i = k + (i + 1) by omega] at this
        simpa using this
  | [], _, _, _, i, j, y, x, _, hi, _, _ => by simp at hi
  | _ :: _, [], _, h, _, _, _, _, _, _, _, _ => by simp [indep] at h
theorem PG.congr {B : Nat} {S New New' W W' : Nat → Prop} {μ μ' : Mu} {G G' G'' : Nat → Option Obj} {w w' : World} (h : PG B S New W μ μ' G G' w w') (hN : ∀ i, New i ↔ New' i) (hW : ∀ i, W i ↔ W' i) (hG : ∀ i, G' i = G'' i) : PG B S New' W' μ μ' G G'' w w' := by
  have e1 : New = New' := funext fun i => propext (hN i)
  have e2 : W = W' := funext fun i => propext (hW i)
  have e3 : G' = G'' := funext hG
  subst e1 e2 e3
  exact h

def IndP (ops : Array Oper) (recs : List Rec) (bs : List (List Nat)) : Prop := ∀ (i j : Nat) (r x : Rec), i < j → recs[i]? = some r → recs[j]? = some x → tied ops r x = true → 0 + i ∈ bs.getD j []
structure Setup (P : Program) (B : Lo) (ops : Array Oper) (recs : List Rec) (bs : List (List Nat)) (T : Tm) (H : Heap) (n : Nat) (T' : Tm) (H' : Heap) (n' : Nat) : Prop where
  chain : Chain recs T H n T' H' n'
  sane : ∀ r ∈ recs, Sane T.len r
  own : ∀ (i : Nat) r, recs[i]? = some r → ops[i]? = some r.o
  len : recs.length = ops.size
  bef : Bef ops.toList bs
  ind : IndP ops recs bs
  edge : ∀ (k : Nat) o, ops[k]? = some o → ∀ e ∈ o.after, Region.binds .any e = true → e.on < k
section
variable {P : Program} {B : Lo} {ops : Array Oper} {recs : List Rec} {bs : List (List Nat)} {T : Tm} {H : Heap} {n : Nat} {T' : Tm} {H' : Heap} {n' : Nat}
def gD (recs : List Rec) (H : Heap) (D : Nat → Bool) (i : Nat) : Option Obj := lastc D (recs.map (cH i)) 0 (hget H i)
def tD (recs : List Rec) (T : Tm) (D : Nat → Bool) (t : Nat) : Value := lastc D (recs.map (cT t)) 0 (tget T t)
def NewD (recs : List Rec) (D : Nat → Bool) (i : Nat) : Prop := ∃ (j : Nat) (r : Rec), D j = true ∧ recs[j]? = some r ∧ r.n ≤ i ∧ i < r.n'
def WD (recs : List Rec) (n : Nat) (D : Nat → Bool) (i : Nat) : Prop := i < n ∧ ∃ (j : Nat) (r : Rec), D j = true ∧ recs[j]? = some r ∧ i ∈ r.W
def Closed (ops : Array Oper) (D : Nat → Bool) : Prop := ∀ k o, D k = true → ops[k]? = some o → ∀ e ∈ o.after, Region.binds .any e = true → D e.on = true
theorem bef_cl (h : Setup P B ops recs bs T H n T' H' n') {D : Nat → Bool} (hD : Closed ops D) {k : Nat} (hk : ∀ o, ops[k]? = some o → ∀ e ∈ o.after, Region.binds .any e = true → D e.on = true) : ∀ i ∈ bs.getD k [], D i = true :=
  bef_closed h.bef (fun k o a b => hD k o a (by simpa using b)) k (fun o a => hk o (by simpa using a))
theorem same_for (h : Setup P B ops recs bs T H n T' H' n') {D : Nat → Bool} (hD : Closed ops D) {j : Nat} {x : Rec} (hj : recs[j]? = some x) (hn : D j = false) (hr : ∀ o, ops[j]? = some o → ∀ e ∈ o.after, Region.binds .any e = true → D e.on = true)
    {i : Nat} {r : Rec} (hi : recs[i]? = some r) (ht : (i < j → tied ops r x = true) ∧ (j < i → tied ops x r = true)) : D i = decide (i < j) := by
  rcases Nat.lt_trichotomy i j with hlt | heq | hgt
  · have := h.ind i j r x hlt hi hj (ht.1 hlt)
    rw [Nat.zero_add] at this
    rw [bef_cl h hD hr i this]
    simp [hlt]
  · subst heq
    rw [hn]; simp
  · have := h.ind j i x r hgt hj hi (ht.2 hgt)
    rw [Nat.zero_add] at this
    have hf : D i = false := by
      cases hd : D i with
      | false => rfl
      | true =>
        have := bef_cl h hD (k := i) (fun o ho => hD i o hd ho) j this
        rw [hn] at this; cases this
    rw [hf]; simp; omega
theorem tied_symm_T {r x : Rec} {t : Nat} (ht : r.o.dst = some t) (hl : t ∈ x.o.looksAt ops ∨ x.o.dst = some t) : tied ops r x = true ∧ tied ops x r = true := by
  constructor
  · have : r.o.apart ops x.o = false := by
      cases hap : r.o.apart ops x.o with
      | false => rfl
      | true =>
        obtain ⟨h1, h2, _⟩ := Oper.apart_spec hap
        rcases hl with hl | hl
        · exact absurd hl (h1 t ht)
        · exact absurd hl (h2 t ht)
    simp [tied, this]
  · have : x.o.apart ops r.o = false := by
      cases hap : x.o.apart ops r.o with
      | false => rfl
      | true =>
        obtain ⟨_, h2, h3⟩ := Oper.apart_spec hap
        rcases hl with hl | hl
        · exact absurd hl (h3 t ht)
        · exact absurd ht (h2 t hl)
    simp [tied, this]
theorem cT_some {t : Nat} {i : Nat} {v : Value} (h : (recs.map (cT t))[i]? = some (some v)) : ∃ r, recs[i]? = some r ∧ r.o.dst = some t ∧ r.v = v := by
  rw [List.getElem?_map] at h
  cases hr : recs[i]? with
  | none => rw [hr] at h; cases h
  | some r =>
    rw [hr] at h
    simp only [Option.map_some, Option.some.injEq, cT] at h
    split at h
    · rename_i hd; exact ⟨r, rfl, hd, by simpa using h⟩
    · cases h
theorem cH_some {q : Nat} {i : Nat} {v : Option Obj} (h : (recs.map (cH q))[i]? = some (some v)) : ∃ r, recs[i]? = some r ∧ (q ∈ r.W ∨ (r.n ≤ q ∧ q < r.n')) ∧ hget r.H' q = v := by
  rw [List.getElem?_map] at h
  cases hr : recs[i]? with
  | none => rw [hr] at h; cases h
  | some r =>
    rw [hr] at h
    simp only [Option.map_some, Option.some.injEq, cH] at h
    cases ht : touches r q with
    | false => rw [ht] at h; cases h
    | true => rw [ht] at h; exact ⟨r, rfl, touches_iff.1 ht, by simpa using h⟩
theorem tD_ready (h : Setup P B ops recs bs T H n T' H' n') {D : Nat → Bool} (hD : Closed ops D) {j : Nat} {x : Rec} (hj : recs[j]? = some x) (hn : D j = false) (hr : ∀ o, ops[j]? = some o → ∀ e ∈ o.after, Region.binds .any e = true → D e.on = true)
    {t : Nat} (ht : t ∈ x.o.looksAt ops) : tD recs T D t = tget x.T t := by
  obtain ⟨q1, _⟩ := chain_tmps (len := T.len) t recs 0 T H n T' H' n' h.chain h.sane rfl
  rw [(q1 j x hj).2]
  refine lastc_congr _ _ _ fun i v hv => ?_
  obtain ⟨r, hri, hd, _⟩ := cT_some hv
  have htt := tied_symm_T (ops := ops) hd (.inl ht)
  simp only [Nat.zero_add]
  exact same_for h hD hj hn hr hri ⟨fun _ => htt.1, fun _ => htt.2⟩
theorem tied_of_H (h : Setup P B ops recs bs T H n T' H' n') {i j : Nat} {r x : Rec} {q : Nat} (hi : recs[i]? = some r) (hj : recs[j]? = some x) (hq : q ∈ x.R) (hqn : q < x.n) (hr : q ∈ r.W ∨ (r.n ≤ q ∧ q < r.n')) : (i < j → tied ops r x = true) ∧ (j < i → tied ops x r = true) := by
  have hch := chain_n recs T H n T' H' n' h.chain h.sane
  rcases hr with hr | hr
  · have m1 : meets r x = true := List.any_eq_true.2 ⟨q, hr, by simpa using hq⟩
    exact ⟨fun _ => by simp [tied, m1], fun _ => by simp [tied, m1]⟩
  · refine ⟨fun _ => ?_, fun hlt => ?_⟩
    · have : bears r x = true := List.any_eq_true.2 ⟨q, hq, by simp only [Bool.and_eq_true]; exact ⟨Nat.ble_eq_true_of_le hr.1, Nat.ble_eq_true_of_le hr.2⟩⟩
      simp [tied, this]
    · have h1 := hch.2.2.1 j i x r hlt hj hi
      have h2 := (h.sane x (List.mem_of_getElem? hj)).le
      omega
theorem gD_ready (h : Setup P B ops recs bs T H n T' H' n') {D : Nat → Bool} (hD : Closed ops D) {j : Nat} {x : Rec} (hj : recs[j]? = some x) (hn : D j = false) (hr : ∀ o, ops[j]? = some o → ∀ e ∈ o.after, Region.binds .any e = true → D e.on = true)
    {q : Nat} (hq : q ∈ x.R) (hqn : q < x.n) : gD recs H D q = hget x.H q := by
  obtain ⟨q1, _⟩ := chain_heap (len := T.len) q recs 0 T H n T' H' n' h.chain h.sane
  rw [q1 j x hj]
  refine lastc_congr _ _ _ fun i v hv => ?_
  obtain ⟨r, hri, hd, _⟩ := cH_some hv
  simp only [Nat.zero_add]
  exact same_for h hD hj hn hr hri (tied_of_H h hri hj hq hqn hd)
end
end Go.CE

namespace Go.CE
open Go Go.RowKit

theorem Ok.congr {B : Nat} {S : Nat → Prop} {μ : Mu} {G G' : Nat → Option Obj} {w : World} (h : Ok B S μ G w) (hg : ∀ i, S i → G' i = G i) : Ok B S μ G' w :=
  ⟨fun i o a b c => h.rel i o a (by rw [← hg i a]; exact b) c, fun i o im a b c d => h.low i o im a (by rw [← hg i a]; exact b) c d,
    fun i j oi oj x y a b c d e => h.inj i j oi oj x y a b c (by rw [← hg i a]; exact d) (by rw [← hg j b]; exact e),
    fun i o a b => h.reg i o a (by rw [← hg i a]; exact b), fun i j oi oj x y z a b c d => h.sep i j oi oj x y z a b (by rw [← hg i a]; exact c) (by rw [← hg j b]; exact d)⟩
def inReg (fr : Frame) (A : Array Value) (ops : Array Oper) (l : List Nat) (k : List Item) : Frame := { fr with tmps := A, todo := .inRegion ops l :: k }
theorem finish_inReg {fr : Frame} {A : Array Value} {ops : Array Oper} {i : Nat} {l : List Nat} {k : List Item} {o : Oper} (ho : ops[i]? = some o) (v : Value) :
    (inReg fr A ops (i :: l) k).finish v = inReg fr (match o.dst with | some d => A.setIfInBounds d v | none => A) ops l k := by
  simp only [Frame.finish, inReg, ho, Option.bind_some]
  cases o.dst <;> rfl
theorem step_skip_op {P : Program} {fr : Frame} {cs : List Frame} {w : World} {A : Array Value} {ops : Array Oper} {i : Nat} {l : List Nat} {k : List Item} {o : Oper} (hm : fr.mode = .run) (ho : ops[i]? = some o) (hw : Region.wanted o (yielded ops A) = false) :
    step P (lone (inReg fr A ops (i :: l) k) cs w) = .next (lone ((inReg fr A ops (i :: l) k).finish undef) cs w) :=
  step_lone_go (by simp [stepG, stepG.exec, inReg, hm, ho, hw])
theorem step_inReg_end {P : Program} {fr : Frame} {cs : List Frame} {w : World} {A : Array Value} {ops : Array Oper} {k : List Item} (hm : fr.mode = .run) :
    step P (lone (inReg fr A ops [] k) cs w) = .next (lone { fr with tmps := A, todo := k } cs w) :=
  step_lone_go (by simp [stepG, stepG.exec, inReg, hm])
section
variable {P : Program} {B : Lo} {ops : Array Oper} {recs : List Rec} {bs : List (List Nat)} {T : Tm} {H : Heap} {n : Nat} {T' : Tm} {H' : Heap} {n' : Nat}
theorem Lo.has.pg {L : Lo} {S New W : Nat → Prop} {μ μ' : Mu} {G G' : Nat → Option Obj} {w w' : World} (h : L.has w) (hok : Ok L.B S μ G w) (hp : PG L.B S New W μ μ' G G' w w') : L.has w' := by
  refine ⟨Nat.le_trans h.le hp.grow, L.still w w' (fun b hb => hp.frame b (Nat.lt_of_lt_of_le hb h.le) fun i hi im him => ?_) h.inv⟩
  obtain ⟨hs, ⟨o, ho, hl⟩, im', him', hrw⟩ := hp.wr i hi
  rw [him] at him'; cases him'
  have := (hok.low i o im hs ho hl him).2.1 hrw
  omega
structure Inv (B : Nat) (recs : List Rec) (T : Tm) (H : Heap) (n : Nat) (S : Nat → Prop) (μ0 : Mu) (w0 : World) (D : Nat → Bool) (μ : Mu) (A : Array Value) (w : World) : Prop where
  pg : PG B S (NewD recs D) (WD recs n D) μ0 μ (hget H) (gD recs H D) w0 w
  size : A.size = T.len
  tmps : ∀ t, VR μ (tD recs T D t) (A.getD t undef)
theorem cover (h : Setup P B ops recs bs T H n T' H' n') {D : Nat → Bool} (hD : Closed ops D) {j : Nat} {x : Rec} (hj : recs[j]? = some x) (hr : ∀ o, ops[j]? = some o → ∀ e ∈ o.after, Region.binds .any e = true → D e.on = true)
    {q : Nat} (hq : q ∈ x.R) (hqn : q < x.n) : q < n ∨ NewD recs D q := by
  rcases Nat.lt_or_ge q n with hlt | hge
  · exact .inl hlt
  · have hch := chain_n recs T H n T' H' n' h.chain h.sane
    have hx := hch.2.1 x (List.mem_of_getElem? hj)
    have hxs := (h.sane x (List.mem_of_getElem? hj)).le
    obtain ⟨i, r, hi, h1, h2⟩ := hch.2.2.2 q hge (by omega)
    rcases Nat.lt_trichotomy i j with hlt | heq | hgt
    · have hb : bears r x = true := List.any_eq_true.2 ⟨q, hq, by simp only [Bool.and_eq_true]; exact ⟨Nat.ble_eq_true_of_le h1, Nat.ble_eq_true_of_le h2⟩⟩
      have := h.ind i j r x hlt hi hj (by simp [tied, hb])
      rw [Nat.zero_add] at this
      exact .inr ⟨i, r, bef_cl h hD hr i this, hi, h1, h2⟩
    · subst heq
      rw [hj] at hi; cases hi
      omega
    · have := hch.2.2.1 j i x r hgt hj hi
      omega
theorem wanted_ready (h : Setup P B ops recs bs T H n T' H' n') {D : Nat → Bool} (hD : Closed ops D) {j : Nat} {x : Rec} (hj : recs[j]? = some x) (hn : D j = false) (hr : ∀ o, ops[j]? = some o → ∀ e ∈ o.after, Region.binds .any e = true → D e.on = true)
    {μ : Mu} {A : Array Value} (hA : ∀ t, VR μ (tD recs T D t) (A.getD t undef)) : Region.wanted x.o (yielded ops A) = Region.wanted x.o (yieldedC ops x.T) := by
  unfold Region.wanted
  cases hg : x.o.guard with
  | none => rfl
  | some gw =>
    obtain ⟨g, want⟩ := gw
    have : yielded ops A g = yieldedC ops x.T g := by
      rw [yielded_eq, yieldedC_eq]
      cases hd : (ops[g]?).bind (·.dst) with
      | none => rfl
      | some t =>
        have ht : t ∈ x.o.looksAt ops := by simp [Oper.looksAt, hg, hd]
        have := hA t
        rw [tD_ready h hD hj hn hr ht] at this
        exact bool_vr this
    simp only [this]
theorem eval_ready (h : Setup P B ops recs bs T H n T' H' n') {D : Nat → Bool} (hD : Closed ops D) {j : Nat} {x : Rec} (hj : recs[j]? = some x) (hn : D j = false) (hr : ∀ o, ops[j]? = some o → ∀ e ∈ o.after, Region.binds .any e = true → D e.on = true)
    {μ : Mu} {A : Array Value} (hA : ∀ t, VR μ (tD recs T D t) (A.getD t undef)) {fr : Frame} {l : List Nat} {k : List Item} : ∀ y ∈ x.o.op.operands, ∀ v, evC x.T y = some v → VR μ v ((inReg fr A ops l k).eval y) := by
  intro y hy v hv
  cases y with
  | tmp t =>
    simp only [evC, Option.some.injEq] at hv
    subst hv
    have ht : t ∈ x.o.looksAt ops := by
      unfold Oper.looksAt
      exact List.mem_append_left _ (List.mem_filterMap.2 ⟨.tmp t, by simpa using hy, rfl⟩)
    rw [← tD_ready h hD hj hn hr ht]
    exact hA t
  | const u =>
    simp only [evC] at hv
    cases ha : af u with
    | false => rw [ha] at hv; cases hv
    | true => rw [ha] at hv; simp only [cond_true, Option.some.injEq] at hv; subst hv; exact vr_af ha
  | func f =>
    simp only [evC, Option.some.injEq] at hv
    subst hv
    exact vr_af rfl
  | global g => cases hv
theorem tied_later (h : Setup P B ops recs bs T H n T' H' n') {D : Nat → Bool} (hD : Closed ops D) {j : Nat} {x : Rec} (hj : recs[j]? = some x) (hn : D j = false) {i : Nat} {r : Rec} (hi : recs[i]? = some r) (hlt : j < i) (ht : tied ops x r = true) : D i = false := by
  have := h.ind j i x r hlt hj hi ht
  rw [Nat.zero_add] at this
  cases hd : D i with
  | false => rfl
  | true =>
    have := bef_cl h hD (k := i) (fun o ho => hD i o hd ho) j this
    rw [hn] at this; cases this
def plus (D : Nat → Bool) (j : Nat) : Nat → Bool := fun k => D k || Nat.beq k j
theorem plus_self {D : Nat → Bool} {j : Nat} : plus D j j = true := by simp [plus]
theorem plus_ne {D : Nat → Bool} {j k : Nat} (h : k ≠ j) : plus D j k = D k := by simp [plus, beq_no h]
theorem tD_plus (h : Setup P B ops recs bs T H n T' H' n') {D : Nat → Bool} (hD : Closed ops D) {j : Nat} {x : Rec} (hj : recs[j]? = some x) (hn : D j = false) (t : Nat) : tD recs T (plus D j) t = if x.o.dst = some t then x.v else tD recs T D t := by
  by_cases hd : x.o.dst = some t
  · rw [if_pos hd]
    refine lastc_at _ 0 j _ ?_ (by rw [Nat.zero_add]; exact plus_self) fun i y hi hy => ?_
    · rw [List.getElem?_map, hj]; simp [cT, hd]
    · rw [Nat.zero_add, plus_ne (by omega)]
      obtain ⟨r, hri, hrd, _⟩ := cT_some hy
      exact tied_later h hD hj hn hri hi (tied_symm_T (ops := ops) hd (.inr hrd)).1
  · rw [if_neg hd]
    refine lastc_congr _ _ _ fun i y hy => ?_
    obtain ⟨r, hri, hrd, _⟩ := cT_some hy
    rw [Nat.zero_add]
    refine plus_ne fun e => ?_
    subst e
    rw [hj] at hri; cases hri
    exact hd hrd
theorem gD_plus_in (h : Setup P B ops recs bs T H n T' H' n') {D : Nat → Bool} (hD : Closed ops D) {j : Nat} {x : Rec} (hj : recs[j]? = some x) (hn : D j = false) {q : Nat} (hq : q ∈ x.W ∨ (x.n ≤ q ∧ q < x.n')) : gD recs H (plus D j) q = hget x.H' q := by
  refine lastc_at _ 0 j _ ?_ (by rw [Nat.zero_add]; exact plus_self) fun i y hi hy => ?_
  · rw [List.getElem?_map, hj]; simp [cH, touches_iff.2 hq]
  · rw [Nat.zero_add, plus_ne (by omega)]
    obtain ⟨r, hri, hrd, _⟩ := cH_some hy
    have hch := chain_n recs T H n T' H' n' h.chain h.sane
    have hsr := h.sane r (List.mem_of_getElem? hri)
    have hsx := h.sane x (List.mem_of_getElem? hj)
    have hlt := hch.2.2.1 j i x r hi hj hri
    have hxl := hsx.le
    refine tied_later h hD hj hn hri hi ?_
    rcases hq with hq | hq
    · rcases hrd with hrd | hrd
      · have : meets x r = true := List.any_eq_true.2 ⟨q, hq, by simpa using hsr.sub q hrd⟩
        simp [tied, this]
      · have := hsx.wlt q hq; omega
    · rcases hrd with hrd | hrd
      · have : bears x r = true := List.any_eq_true.2 ⟨q, hsr.sub q hrd, by simp only [Bool.and_eq_true]; exact ⟨Nat.ble_eq_true_of_le hq.1, Nat.ble_eq_true_of_le hq.2⟩⟩
        simp [tied, this]
      · omega
theorem gD_plus_out {D : Nat → Bool} {j : Nat} {x : Rec} (hj : recs[j]? = some x) {q : Nat} (hq : ¬ (q ∈ x.W ∨ (x.n ≤ q ∧ q < x.n'))) : gD recs H (plus D j) q = gD recs H D q := by
  refine lastc_congr _ _ _ fun i y hy => ?_
  obtain ⟨r, hri, hrd, _⟩ := cH_some hy
  rw [Nat.zero_add]
  refine plus_ne fun e => ?_
  subst e
  rw [hj] at hri; cases hri
  exact hq hrd
theorem NewD_plus {D : Nat → Bool} {j : Nat} {x : Rec} (hj : recs[j]? = some x) (i : Nat) : (NewD recs D i ∨ (x.n ≤ i ∧ i < x.n')) ↔ NewD recs (plus D j) i := by
  constructor
  · rintro (⟨k, r, hd, hr, h1⟩ | h1)
    · exact ⟨k, r, by simp [plus, hd], hr, h1⟩
    · exact ⟨j, x, plus_self, hj, h1⟩
  · rintro ⟨k, r, hd, hr, h1⟩
    by_cases e : k = j
    · subst e; rw [hj] at hr; cases hr; exact .inr h1
    · rw [plus_ne e] at hd; exact .inl ⟨k, r, hd, hr, h1⟩
theorem inv_does (h : Setup P B ops recs bs T H n T' H' n') {S : Nat → Prop} {μ0 : Mu} {w0 : World} (hS : ∀ i, S i → i < n) (hR : ∀ r ∈ recs, ∀ i ∈ r.R, i < n → S i) (hfree : Free μ0 n n') (hB : B.has w0) (hok0 : Ok B S μ0 (hget H) w0) {D : Nat → Bool} (hD : Closed ops D) {j : Nat} (hn : D j = false)
    (hr : ∀ o, ops[j]? = some o → ∀ e ∈ o.after, Region.binds .any e = true → D e.on = true) {μ : Mu} {A : Array Value} {w : World} (hi : Inv B recs T H n S μ0 w0 D μ A w) {fr : Frame} {cs : List Frame} {l : List Nat} {k : List Item} (hm : fr.mode = .run)
    {x : Rec} (hj : recs[j]? = some x) {out : OO} (hdo : Does P B x.o (evC x.T) x.H x.n out x.H' x.n' x.R x.W) (hrun : Region.wanted x.o (yieldedC ops x.T) = true) :
    ∃ out' μ' w', PG B S (NewD recs (plus D j)) (WD recs n (plus D j)) μ0 μ' (hget H) (gD recs H (plus D j)) w0 w' ∧ Ext μ μ' ∧ OR2 μ' out out' ∧ Steps P (lone (inReg fr A ops (j :: l) k) cs w) (lone (out'.on (inReg fr A ops (j :: l) k)) cs w') := by
  have hx := List.mem_of_getElem? hj
  have hsx := h.sane x hx
  have hoj := h.own j x hj
  have hch := chain_n recs T H n T' H' n' h.chain h.sane
  have hxn := hch.2.1 x hx
  have hnewn : ∀ i, x.n ≤ i → i < x.n' → ¬ NewD recs D i := by
    rintro i h1 h2 ⟨q, r, a, b, c, d⟩
    rcases Nat.lt_trichotomy q j with hq | hq | hq
    · have := hch.2.2.1 q j r x hq b hj; omega
    · subst hq; rw [hn] at a; cases a
    · have := hch.2.2.1 j q x r hq hj b; omega
  have hsub : ∀ i, (i ∈ x.R ∧ i < x.n) → S i ∨ NewD recs D i := fun i hi => (cover h hD hj hr hi.1 hi.2).imp (hR x hx i hi.1) id
  have hgc : ∀ i, (i ∈ x.R ∧ i < x.n) → hget x.H i = gD recs H D i := fun i hi => (gD_ready h hD hj hn hr hi.1 hi.2).symm
  have hfr : ∀ i, x.n ≤ i → i < x.n' → μ i = none := fun i h1 h2 => by rw [hi.pg.ext i (hnewn i h1 h2)]; exact hfree i (by omega) (by omega)
  have hwant : Region.wanted x.o (yielded ops A) = true := by rw [wanted_ready h hD hj hn hr hi.tmps]; exact hrun
  obtain ⟨out', w', μ', hpost, hor, hst⟩ := hdo (fun i => i ∈ x.R ∧ i < x.n) μ w (inReg fr A ops (j :: l) k) cs k ops j l ((hi.pg.ok.sub hsub).congr hgc) (hB.pg hok0 hi.pg) (fun i hi => hi.2) (fun i h1 h2 => hfr i h1 h2)
    (eval_ready h hD hj hn hr hi.tmps) (fun i h1 h2 => ⟨h1, h2⟩) hm rfl hoj hwant
  refine ⟨out', μ', w', (hi.pg.then (hpost.pg hsx.top) hsub hgc (fun i hi => ⟨fun hs => by have := hS i hs; omega, hnewn i hi.1 hi.2⟩) (fun i hi => hfr i hi.1 hi.2) (G2 := gD recs H (plus D j)) (fun i hi => gD_plus_in h hD hj hn (hi.imp And.left id))
    (fun i h1 h2 => gD_plus_out hj ?_)).congr (NewD_plus hj) (fun i => ?_) (fun _ => rfl), hpost.mu fun i h1 h2 => hfr i h1 h2, hor, hst⟩
  · rintro (hw | hw)
    · have := hsx.wlt i hw
      rcases Nat.lt_or_ge i x.n with ha | ha
      · exact h1 ⟨hw, ha⟩
      · exact h2 ⟨ha, this⟩
    · exact h2 hw
  · constructor
    · rintro (⟨a, q, r, b, c, d⟩ | ⟨⟨a, b⟩, c⟩)
      · exact ⟨a, q, r, by simp [plus, b], c, d⟩
      · exact ⟨(cover h hD hj hr (hsx.sub i a) b).elim id fun e => absurd e c, j, x, plus_self, hj, a⟩
    · rintro ⟨a, q, r, b, c, d⟩
      by_cases e : q = j
      · subst e; rw [hj] at c; cases c
        refine .inr ⟨⟨d, by omega⟩, ?_⟩
        rintro ⟨q', r', _, b', c', _⟩
        have := (hch.2.1 r' (List.mem_of_getElem? b')).1
        omega
      · rw [plus_ne e] at b; exact .inl ⟨a, q, r, b, c, d⟩
theorem inv_step (h : Setup P B ops recs bs T H n T' H' n') {S : Nat → Prop} {μ0 : Mu} {w0 : World} (hS : ∀ i, S i → i < n) (hR : ∀ r ∈ recs, ∀ i ∈ r.R, i < n → S i) (hfree : Free μ0 n n') (hB : B.has w0) (hok0 : Ok B S μ0 (hget H) w0) {D : Nat → Bool} (hD : Closed ops D) {j : Nat} (hlt : j < ops.size) (hn : D j = false)
    (hk : ∀ x, recs[j]? = some x → RecOk P B ops x) (hr : ∀ o, ops[j]? = some o → ∀ e ∈ o.after, Region.binds .any e = true → D e.on = true) {μ : Mu} {A : Array Value} {w : World} (hi : Inv B recs T H n S μ0 w0 D μ A w) {fr : Frame} {cs : List Frame} {l : List Nat} {k : List Item} (hm : fr.mode = .run) :
    ∃ μ' A' w', Inv B recs T H n S μ0 w0 (plus D j) μ' A' w' ∧ Steps P (lone (inReg fr A ops (j :: l) k) cs w) (lone (inReg fr A' ops l k) cs w') := by
  obtain ⟨x, hj⟩ : ∃ x, recs[j]? = some x := ⟨recs[j]'(by rw [h.len]; exact hlt), by simp⟩
  have hx := List.mem_of_getElem? hj
  have hsx := h.sane x hx
  have hoj := h.own j x hj
  obtain ⟨hrun, hdo, hno⟩ := hk x hj
  have hch := chain_n recs T H n T' H' n' h.chain h.sane
  have hxn := hch.2.1 x hx
  have hdst : ∀ d, x.o.dst = some d → d < A.size := fun d hd => by rw [hi.size]; exact (hsx.dst d hd).1
  have put : ∀ (μ' : Mu) v', Ext μ μ' → VR μ' x.v v' → (match x.o.dst with | some d => A.setIfInBounds d v' | none => A).size = T.len ∧ ∀ t, VR μ' (tD recs T (plus D j) t) ((match x.o.dst with | some d => A.setIfInBounds d v' | none => A).getD t undef) := by
    intro μ' v' he hv
    refine ⟨?_, fun t => ?_⟩
    · cases x.o.dst <;> simp [hi.size]
    · rw [tD_plus h hD hj hn t]
      have ho := (hi.tmps t).mono he
      cases hd : x.o.dst with
      | none => simpa using ho
      | some d =>
        have hdl := hdst d hd
        simp only [Option.some.injEq]
        by_cases e : d = t
        · subst e; simpa [hdl] using hv
        · simp [e] at ho ⊢; exact ho
  cases hrx : x.run with
  | false =>
    obtain ⟨hv, hH, hnn, hW⟩ := hno hrx
    have hwant : Region.wanted x.o (yielded ops A) = false := by rw [wanted_ready h hD hj hn hr hi.tmps, ← hrun]; exact hrx
    obtain ⟨p1, p2⟩ := put μ undef (Ext.refl _) (by rw [hv]; exact VR.undef)
    refine ⟨μ, _, w, ⟨hi.pg.congr (fun i => ?_) (fun i => ?_) (fun i => ?_), p1, p2⟩, Steps.one ((step_skip_op hm hoj hwant).trans (by rw [finish_inReg hoj]))⟩
    · rw [← NewD_plus hj i]
      exact ⟨.inl, fun h => h.elim id fun h => absurd h.1 (by omega)⟩
    · refine and_congr Iff.rfl ⟨?_, ?_⟩
      · rintro ⟨q, r, a, b, c⟩; exact ⟨q, r, by simp [plus, a], b, c⟩
      · rintro ⟨q, r, a, b, c⟩
        by_cases e : q = j
        · subst e; rw [hj] at b; cases b; rw [hW] at c; simp at c
        · rw [plus_ne e] at a; exact ⟨q, r, a, b, c⟩
    · exact (gD_plus_out hj (by rw [hW]; rintro (h | h) <;> first | (simp at h; done) | omega)).symm
  | true =>
    obtain ⟨out', μ', w', hpg, hext, hor, hst⟩ := inv_does h hS hR hfree hB hok0 hD hn hr hi (fr := fr) (cs := cs) (l := l) (k := k) hm hj (hdo hrx) (by rw [← hrun]; exact hrx)
    cases hor with
    | ret hv =>
      rename_i v'
      obtain ⟨p1, p2⟩ := put μ' v' hext hv
      exact ⟨μ', _, w', ⟨hpg, p1, p2⟩, hst.trans (by simp only [OO.on]; rw [finish_inReg hoj]; exact Steps.refl _ _)⟩
end
end Go.CE

namespace Go.CE
open Go Go.RowKit

theorem countP_lt {α : Type} {p q : α → Bool} : ∀ (l : List α), (∀ x ∈ l, p x = true → q x = true) → (∃ x ∈ l, q x = true ∧ p x = false) → l.countP p < l.countP q
  | [], _, h => by obtain ⟨x, hx, _⟩ := h; simp at hx
  | a :: l, hpq, h => by
    obtain ⟨x, hx, h1, h2⟩ := h
    have hm : l.countP p ≤ l.countP q := List.countP_mono_left fun y hy hp => hpq y (List.mem_cons_of_mem _ hy) hp
    rcases List.mem_cons.1 hx with rfl | hx
    · rw [List.countP_cons, List.countP_cons, h1, h2]; simp; omega
    · have := countP_lt l (fun y hy => hpq y (List.mem_cons_of_mem _ hy)) ⟨x, hx, h1, h2⟩
      have ha := hpq a (by simp)
      rw [List.countP_cons, List.countP_cons]
      cases hp : p a with
      | true => rw [ha hp]; simp; omega
      | false => simp; omega
section
variable {P : Program} {B : Lo} {ops : Array Oper} {recs : List Rec} {bs : List (List Nat)} {T : Tm} {H : Heap} {n : Nat} {T' : Tm} {H' : Heap} {n' : Nat}
def allW (recs : List Rec) : List Nat := recs.flatMap (·.W)
def allR (recs : List Rec) : List Nat := recs.flatMap (·.R)
theorem pg_full (h : Setup P B ops recs bs T H n T' H' n') {S : Nat → Prop} {μ0 μ : Mu} {w0 w : World} {D : Nat → Bool} (hpg : PG B S (NewD recs D) (WD recs n D) μ0 μ (hget H) (gD recs H D) w0 w) (hD : ∀ k, k < ops.size → D k = true) (hS : ∀ i, S i → i < n) :
    Post B S n n' (allW recs) μ0 μ H H' w0 w := by
  have hch := chain_n recs T H n T' H' n' h.chain h.sane
  have dk : ∀ (k : Nat) (r : Rec), recs[k]? = some r → D k = true := fun k r hk => hD k (by rw [← h.len]; exact (List.getElem?_eq_some_iff.1 hk).1)
  refine PG.post (New := NewD recs D) (hpg.congr (fun _ => Iff.rfl) (fun i => ?_) (fun i => ?_)) (fun i => ?_) hch.1 hS
  · constructor
    · rintro ⟨a, q, r, _, b, c⟩; exact ⟨List.mem_flatMap.2 ⟨r, List.mem_of_getElem? b, c⟩, a⟩
    · rintro ⟨a, b⟩
      obtain ⟨r, hr, hw⟩ := List.mem_flatMap.1 a
      obtain ⟨q, hq⟩ := List.getElem?_of_mem hr
      exact ⟨b, q, r, dk q r hq, hq, hw⟩
  · rw [(chain_heap (len := T.len) i recs 0 T H n T' H' n' h.chain h.sane).2]
    refine lastc_congr _ _ _ fun q y hy => ?_
    obtain ⟨r, hr, _⟩ := cH_some hy
    rw [Nat.zero_add]
    exact dk q r hr
  · constructor
    · rintro ⟨q, r, _, b, c, d⟩
      have := hch.2.1 r (List.mem_of_getElem? b)
      omega
    · rintro ⟨a, b⟩
      obtain ⟨q, r, hq, c, d⟩ := hch.2.2.2 i a b
      exact ⟨q, r, dk q r hq, hq, c, d⟩
theorem Inv.full (h : Setup P B ops recs bs T H n T' H' n') {S : Nat → Prop} {μ0 μ : Mu} {w0 w : World} {D : Nat → Bool} {A : Array Value} (hi : Inv B recs T H n S μ0 w0 D μ A w) (hD : ∀ k, k < ops.size → D k = true) (hS : ∀ i, S i → i < n) :
    Post B S n n' (allW recs) μ0 μ H H' w0 w ∧ TR μ T' A := by
  have hch := chain_n recs T H n T' H' n' h.chain h.sane
  have dk : ∀ (k : Nat) (r : Rec), recs[k]? = some r → D k = true := fun k r hk => hD k (by rw [← h.len]; exact (List.getElem?_eq_some_iff.1 hk).1)
  constructor
  · exact pg_full h hi.pg hD hS
  · have hl := (chain_tmps (len := T.len) 0 recs 0 T H n T' H' n' h.chain h.sane rfl).2.1
    refine ⟨by rw [hl, hi.size], fun t => ?_⟩
    rw [(chain_tmps (len := T.len) t recs 0 T H n T' H' n' h.chain h.sane rfl).2.2]
    have := hi.tmps t
    rw [show tD recs T D t = lastc (fun _ => true) (recs.map (cT t)) 0 (tget T t) from ?_] at this
    · exact this
    · refine lastc_congr _ _ _ fun q y hy => ?_
      obtain ⟨r, hr, _⟩ := cT_some hy
      rw [Nat.zero_add]
      exact dk q r hr
theorem linear (h : Setup P B ops recs bs T H n T' H' n') (hk : ∀ r ∈ recs, RecOk P B ops r) {S : Nat → Prop} {μ0 : Mu} {w0 : World} (hS : ∀ i, S i → i < n) (hR : ∀ r ∈ recs, ∀ i ∈ r.R, i < n → S i) (hfree : Free μ0 n n') (hB : B.has w0) (hok0 : Ok B S μ0 (hget H) w0) {fr : Frame} {cs : List Frame} {k : List Item} (hm : fr.mode = .run) :
    ∀ (fuel t : Nat) (listed : Array Bool) (μ : Mu) (A : Array Value) (w : World), listed.size = ops.size → Closed ops (fun i => listed.getD i false) → (List.range ops.size).countP (fun i => !listed.getD i false) ≤ fuel → Inv B recs T H n S μ0 w0 (fun i => listed.getD i false) μ A w →
      ∃ μ' A' w', Post B S n n' (allW recs) μ0 μ' H H' w0 w' ∧ TR μ' T' A' ∧ Steps P (lone (inReg fr A ops (Region.linearise.go .any ops fuel t listed []) k) cs w) (lone { fr with tmps := A', todo := k } cs w') := by
  have done : ∀ (listed : Array Bool) (μ : Mu) (A : Array Value) (w : World), Inv B recs T H n S μ0 w0 (fun i => listed.getD i false) μ A w → (∀ k, k < ops.size → listed.getD k false = true) →
      ∃ μ' A' w', Post B S n n' (allW recs) μ0 μ' H H' w0 w' ∧ TR μ' T' A' ∧ Steps P (lone (inReg fr A ops [] k) cs w) (lone { fr with tmps := A', todo := k } cs w') := by
    intro listed μ A w hi hall
    obtain ⟨h1, h2⟩ := hi.full h hall hS
    exact ⟨μ, A, w, h1, h2, .one (step_inReg_end hm)⟩
  intro fuel
  induction fuel with
  | zero =>
    intro t listed μ A w hl hc hcnt hi
    have hz : ∀ q ∈ List.range ops.size, ¬ (!listed.getD q false) = true := List.countP_eq_zero.1 (by omega)
    simp only [Region.linearise.go, List.reverse_nil]
    exact done listed μ A w hi fun q hq => by simpa using hz q (List.mem_range.2 hq)
  | succ fuel ih =>
    intro t listed μ A w hl hc hcnt hi
    simp only [Region.linearise.go]
    change ∃ μ' A' w', _ ∧ _ ∧ Steps P (lone (inReg fr A ops (match (Region.ready .any ops listed)[t % (Region.ready .any ops listed).length]? with
      | some i => Region.linearise.go .any ops fuel (t / (Region.ready .any ops listed).length) (listed.setIfInBounds i true) [i]
      | none => [].reverse) k) cs w) _
    have gtrue : ∀ q, q < ops.size → listed.getD q true = listed.getD q false := by
      intro q hq
      have : q < listed.size := by omega
      simp [this]
    cases hi0 : (Region.ready .any ops listed)[t % (Region.ready .any ops listed).length]? with
    | none =>
      have hnil : Region.ready .any ops listed = [] := by
        cases hr : Region.ready .any ops listed with
        | nil => rfl
        | cons x xs =>
          rw [hr] at hi0
          have hlt : t % (x :: xs).length < (x :: xs).length := Nat.mod_lt _ (by simp)
          simp at hi0
          simp at hlt
          omega
      have hall : ∀ q, q < ops.size → listed.getD q false = true := by
        intro q
        induction q using Nat.strongRecOn with
        | _ q ihq =>
          intro hq
          cases hd : listed.getD q false with
          | true => rfl
          | false =>
            have : q ∈ Region.ready .any ops listed := by
              rw [mem_ready]
              refine ⟨by rw [gtrue q hq]; exact hd, ops[q], by simp [hq], fun e he hb => ?_⟩
              have hlt := h.edge q ops[q] (by simp [hq]) e he hb
              exact ihq e.on hlt (by omega)
            rw [hnil] at this; cases this
      simp only [List.reverse_nil]
      exact done listed μ A w hi hall
    | some j =>
      have hmem := List.mem_of_getElem? hi0
      obtain ⟨hj1, o, ho, hj2⟩ := mem_ready.1 hmem
      have hjlt : j < ops.size := (Array.getElem?_eq_some_iff.1 ho).1
      have hjf : listed.getD j false = false := by rw [← gtrue j hjlt]; exact hj1
      simp only []
      rw [linearise_go_acc, List.reverse_singleton, List.singleton_append]
      have hready : ∀ o', ops[j]? = some o' → ∀ e ∈ o'.after, Region.binds .any e = true → listed.getD e.on false = true := fun o' ho' => by rw [ho] at ho'; cases ho'; exact hj2
      obtain ⟨μ1, A1, w1, hi1, hs1⟩ := inv_step h hS hR hfree hB hok0 (D := fun i => listed.getD i false) hc hjlt hjf (fun x hx => hk x (List.mem_of_getElem? hx)) hready hi (cs := cs) (l := Region.linearise.go .any ops fuel (t / (Region.ready .any ops listed).length) (listed.setIfInBounds j true) []) (k := k) hm
      have heq : (fun i => (listed.setIfInBounds j true).getD i false) = plus (fun i => listed.getD i false) j := by
        funext q
        by_cases e : q = j
        · subst e
          rw [plus_self]
          simp [show q < listed.size by omega]
        · rw [plus_ne e, getD_set_ne false (Ne.symm e)]
      have hc1 : Closed ops (fun i => (listed.setIfInBounds j true).getD i false) := by
        intro q o' hq ho' e he hb
        rw [heq] at hq
        by_cases eq : q = j
        · subst eq
          exact getD_set_true (hready o' ho' e he hb)
        · rw [plus_ne eq] at hq
          exact getD_set_true (hc q o' hq ho' e he hb)
      obtain ⟨μ2, A2, w2, h1, h2, h3⟩ := ih (t / (Region.ready .any ops listed).length) (listed.setIfInBounds j true) μ1 A1 w1 (by simpa using hl) hc1 (by
        have : (List.range ops.size).countP (fun i => !(listed.setIfInBounds j true).getD i false) < (List.range ops.size).countP (fun i => !listed.getD i false) := by
          refine countP_lt _ (fun q _ hq => ?_) ⟨j, List.mem_range.2 hjlt, by simpa using hjf, ?_⟩
          · have e2 := congrFun heq q
            rw [e2] at hq
            by_cases e : q = j
            · subst e; rw [plus_self] at hq; cases hq
            · rw [plus_ne e] at hq; exact hq
          · have e2 := congrFun heq j
            rw [e2, plus_self]; rfl
        omega) (by rw [heq]; exact hi1)
      exact ⟨μ2, A2, w2, h1, h2, hs1.trans h3⟩
theorem linearP (h : Setup P B ops recs bs T H n T' H' n') (hk : ∀ (i : Nat) r, recs[i]? = some r → i + 1 < ops.size → RecOk P B ops r) (hpos : 0 < ops.size) (hlast : ∀ i, i + 1 < ops.size → i ∈ bs.getD (ops.size - 1) []) {S : Nat → Prop} {μ0 : Mu} {w0 : World} (hS : ∀ i, S i → i < n) (hR : ∀ r ∈ recs, ∀ i ∈ r.R, i < n → S i) (hfree : Free μ0 n n') (hB : B.has w0) (hok0 : Ok B S μ0 (hget H) w0) {fr : Frame} {cs : List Frame} {k : List Item} (hm : fr.mode = .run) :
    ∀ (fuel t : Nat) (listed : Array Bool) (μ : Mu) (A : Array Value) (w : World), listed.size = ops.size → Closed ops (fun i => listed.getD i false) → (List.range ops.size).countP (fun i => !listed.getD i false) ≤ fuel → listed.getD (ops.size - 1) false = false → Inv B recs T H n S μ0 w0 (fun i => listed.getD i false) μ A w →
      ∃ l μ' A' w', Inv B recs T H n S μ0 w0 (fun i => decide (i + 1 < ops.size)) μ' A' w' ∧ Steps P (lone (inReg fr A ops (Region.linearise.go .any ops fuel t listed []) k) cs w) (lone (inReg fr A' ops ((ops.size - 1) :: l) k) cs w') := by
  intro fuel
  induction fuel with
  | zero =>
    intro t listed μ A w hl hc hcnt hun hi
    have hz : ∀ q ∈ List.range ops.size, ¬ (!listed.getD q false) = true := List.countP_eq_zero.1 (by omega)
    exact absurd (hz (ops.size - 1) (List.mem_range.2 (by omega))) (by simp only [hun]; decide)
  | succ fuel ih =>
    intro t listed μ A w hl hc hcnt hun hi
    simp only [Region.linearise.go]
    change ∃ l μ' A' w', _ ∧ Steps P (lone (inReg fr A ops (match (Region.ready .any ops listed)[t % (Region.ready .any ops listed).length]? with
      | some i => Region.linearise.go .any ops fuel (t / (Region.ready .any ops listed).length) (listed.setIfInBounds i true) [i]
      | none => [].reverse) k) cs w) _
    have gtrue : ∀ q, q < ops.size → listed.getD q true = listed.getD q false := by
      intro q hq
      have : q < listed.size := by omega
      simp [this]
    cases hi0 : (Region.ready .any ops listed)[t % (Region.ready .any ops listed).length]? with
    | none =>
      have hnil : Region.ready .any ops listed = [] := by
        cases hr : Region.ready .any ops listed with
        | nil => rfl
        | cons x xs =>
          rw [hr] at hi0
          have hlt : t % (x :: xs).length < (x :: xs).length := Nat.mod_lt _ (by simp)
          simp at hi0
          simp at hlt
          omega
      have hall : ∀ q, q < ops.size → listed.getD q false = true := by
        intro q
        induction q using Nat.strongRecOn with
        | _ q ihq =>
          intro hq
          cases hd : listed.getD q false with
          | true => rfl
          | false =>
            have : q ∈ Region.ready .any ops listed := by
              rw [mem_ready]
              refine ⟨by rw [gtrue q hq]; exact hd, ops[q], by simp [hq], fun e he hb => ?_⟩
              have hlt := h.edge q ops[q] (by simp [hq]) e he hb
              exact ihq e.on hlt (by omega)
            rw [hnil] at this; cases this
      exact absurd (hall (ops.size - 1) (by omega)) (by rw [hun]; decide)
    | some j =>
      have hmem := List.mem_of_getElem? hi0
      obtain ⟨hj1, o, ho, hj2⟩ := mem_ready.1 hmem
      have hjlt : j < ops.size := (Array.getElem?_eq_some_iff.1 ho).1
      have hjf : listed.getD j false = false := by rw [← gtrue j hjlt]; exact hj1
      simp only []
      rw [linearise_go_acc, List.reverse_singleton, List.singleton_append]
      have hready : ∀ o', ops[j]? = some o' → ∀ e ∈ o'.after, Region.binds .any e = true → listed.getD e.on false = true := fun o' ho' => by rw [ho] at ho'; cases ho'; exact hj2
      by_cases hjl : j = ops.size - 1
      · have heq : (fun i => listed.getD i false) = fun i => decide (i + 1 < ops.size) := by
          funext q
          by_cases hq : q + 1 < ops.size
          · have := bef_cl h hc (k := j) hready q (by rw [hjl]; exact hlast q hq)
            rw [this]; simp [hq]
          · by_cases hq2 : q = ops.size - 1
            · rw [hq2, hun]; simp; omega
            · have : ¬ q < listed.size := by omega
              simp [this, hq]
        rw [heq] at hi
        refine ⟨Region.linearise.go .any ops fuel (t / (Region.ready .any ops listed).length) (listed.setIfInBounds j true) [], μ, A, w, hi, ?_⟩
        rw [← hjl]
        exact Steps.refl _ _
      · have hjs : j + 1 < ops.size := by omega
        obtain ⟨μ1, A1, w1, hi1, hs1⟩ := inv_step h hS hR hfree hB hok0 (D := fun i => listed.getD i false) hc hjlt hjf (fun x hx => hk j x hx hjs) hready hi (cs := cs) (l := Region.linearise.go .any ops fuel (t / (Region.ready .any ops listed).length) (listed.setIfInBounds j true) []) (k := k) hm
        have heq : (fun i => (listed.setIfInBounds j true).getD i false) = plus (fun i => listed.getD i false) j := by
          funext q
          by_cases e : q = j
          · subst e
            rw [plus_self]
            simp [show q < listed.size by omega]
          · rw [plus_ne e, getD_set_ne false (Ne.symm e)]
        have hc1 : Closed ops (fun i => (listed.setIfInBounds j true).getD i false) := by
          intro q o' hq ho' e he hb
          rw [heq] at hq
          by_cases eq : q = j
          · subst eq
            exact getD_set_true (hready o' ho' e he hb)
          · rw [plus_ne eq] at hq
            exact getD_set_true (hc q o' hq ho' e he hb)
        obtain ⟨l2, μ2, A2, w2, h1, h3⟩ := ih (t / (Region.ready .any ops listed).length) (listed.setIfInBounds j true) μ1 A1 w1 (by simpa using hl) hc1 (by
          have : (List.range ops.size).countP (fun i => !(listed.setIfInBounds j true).getD i false) < (List.range ops.size).countP (fun i => !listed.getD i false) := by
            refine countP_lt _ (fun q _ hq => ?_) ⟨j, List.mem_range.2 hjlt, by simpa using hjf, ?_⟩
            · have e2 := congrFun heq q
              rw [e2] at hq
              by_cases e : q = j
              · subst e; rw [plus_self] at hq; cases hq
              · rw [plus_ne e] at hq; exact hq
            · have e2 := congrFun heq j
              rw [e2, plus_self]; rfl
          omega) (by have e3 := congrFun heq (ops.size - 1); rw [e3, plus_ne (Ne.symm hjl)]; exact hun) (by rw [heq]; exact hi1)
        exact ⟨l2, μ2, A2, w2, h1, hs1.trans h3⟩
theorem region_draw (hmix : P.follows .mixedOrders = true) (h : Setup P B ops recs bs T H n T' H' n') (hk0 : ∀ r ∈ recs, RecOk P B ops r) {S : Nat → Prop} {μ : Mu} {w : World} (hok : Ok B S μ (hget H) w) (hS : ∀ i, S i → i < n) (hR : ∀ i ∈ allR recs, i < n → S i) (hfree : Free μ n n') (hB : B.has w) {fr : Frame} {cs : List Frame} {id : Nat} {k : List Item}
    (hm : fr.mode = .run) (ht : TR μ T fr.tmps) (hk : fr.todo = .code (.region id ops true) :: k) :
    ∃ μ' A' w', Post B S n n' (allW recs) μ μ' H H' w w' ∧ TR μ' T' A' ∧ Steps P (lone fr cs w) (lone { fr with tmps := A', todo := k } cs w') := by
  let w1 : World := { w with drawn := w.drawn + 1 }
  have hw1 : Ok B S μ (hget H) w1 := ⟨fun i o a b c => let ⟨im, x, y⟩ := hok.rel i o a b c; ⟨im, x, y.keep (Ext.refl _) rfl⟩, hok.low, hok.inj, hok.reg, hok.sep⟩
  have hstep : step P (lone fr cs w) = .next (lone (inReg fr fr.tmps ops (Region.schedule (P.follows .mixedOrders) ops (w.tape w.drawn (.order fr.fn id))) k) cs w1) :=
    step_lone_go (by simp [stepG, stepG.exec, inReg, hm, hk, choose, Sem.run, Question.forced, Question.cut, w1])
  have hsch : Region.schedule (P.follows .mixedOrders) ops (w.tape w.drawn (.order fr.fn id)) = Region.linearise .any ops (w.tape w.drawn (.order fr.fn id)) := by
    simp [Region.schedule, hmix]
  rw [hsch] at hstep
  have hrep : ∀ i, (Array.replicate ops.size false).getD i false = false := by
    intro i
    by_cases hi : i < ops.size <;> simp [hi]
  have hinv : Inv B recs T H n S μ w1 (fun i => (Array.replicate ops.size false).getD i false) μ fr.tmps w1 := by
    refine ⟨(PG.refl hw1).congr (fun i => ⟨False.elim, ?_⟩) (fun i => ⟨False.elim, ?_⟩) (fun i => ?_), ht.1.symm, fun t => ?_⟩
    · rintro ⟨q, r, a, _⟩; exact absurd ((hrep q).symm.trans a) (by simp)
    · rintro ⟨_, q, r, a, _⟩; exact absurd ((hrep q).symm.trans a) (by simp)
    · exact (lastc_none _ _ _ fun q x _ => hrep _).symm
    · rw [show tD recs T (fun i => (Array.replicate ops.size false).getD i false) t = tget T t from lastc_none _ _ _ fun q x _ => hrep _]
      exact ht.2 t
  obtain ⟨μ', A', w', h1, h2, h3⟩ := linear h hk0 (w0 := w1) hS (fun r hr i hi => hR i (List.mem_flatMap.2 ⟨r, hr, hi⟩)) hfree ⟨hB.le, B.still w w1 (fun _ _ => rfl) hB.inv⟩ hw1 (fr := fr) (cs := cs) (k := k) hm ops.size (w.tape w.drawn (.order fr.fn id)) (Array.replicate ops.size false) μ fr.tmps w1 (by simp)
    (fun q o a => absurd ((hrep q).symm.trans a) (by simp)) (by
      have := List.countP_le_length (p := fun i => !(Array.replicate ops.size false).getD i false) (l := List.range ops.size)
      simpa using this) hinv
  exact ⟨μ', A', w', ⟨h1.ok, h1.le, h1.ext, h1.keep, h1.grow, h1.frame, h1.wr, h1.fresh, h1.rf, h1.os, h1.tape, h1.output⟩, h2, .head hstep h3⟩
theorem region_draw_pan (hmix : P.follows .mixedOrders = true) (h : Setup P B ops recs bs T H n T' H' n') (hk0 : ∀ (i : Nat) r, recs[i]? = some r → i + 1 < ops.size → RecOk P B ops r) (hlast : ∀ i, i + 1 < ops.size → i ∈ bs.getD (ops.size - 1) []) {x : Rec} {v : Value} (hx : recs[ops.size - 1]? = some x) (hdo : Does P B x.o (evC x.T) x.H x.n (.pan v) x.H' x.n' x.R x.W) (hwant : Region.wanted x.o (yieldedC ops x.T) = true) {S : Nat → Prop} {μ : Mu} {w : World} (hok : Ok B S μ (hget H) w) (hS : ∀ i, S i → i < n) (hR : ∀ i ∈ allR recs, i < n → S i) (hfree : Free μ n n') (hB : B.has w) {fr : Frame} {cs : List Frame} {id : Nat} {k : List Item}
    (hm : fr.mode = .run) (ht : TR μ T fr.tmps) (hk : fr.todo = .code (.region id ops true) :: k) :
    ∃ μ' A' w' l v', Post B S n n' (allW recs) μ μ' H H' w w' ∧ TR μ' x.T A' ∧ VR μ' v v' ∧ Steps P (lone fr cs w) (lone { inReg fr A' ops ((ops.size - 1) :: l) k with mode := .panicking [{ v := v', recovered := false }] } cs w') := by
  have hpos : 0 < ops.size := by have := (List.getElem?_eq_some_iff.1 hx).1; rw [h.len] at this; omega
  let w1 : World := { w with drawn := w.drawn + 1 }
  have hw1 : Ok B S μ (hget H) w1 := ⟨fun i o a b c => let ⟨im, x, y⟩ := hok.rel i o a b c; ⟨im, x, y.keep (Ext.refl _) rfl⟩, hok.low, hok.inj, hok.reg, hok.sep⟩
  have hstep : step P (lone fr cs w) = .next (lone (inReg fr fr.tmps ops (Region.schedule (P.follows .mixedOrders) ops (w.tape w.drawn (.order fr.fn id))) k) cs w1) :=
    step_lone_go (by simp [stepG, stepG.exec, inReg, hm, hk, choose, Sem.run, Question.forced, Question.cut, w1])
  have hsch : Region.schedule (P.follows .mixedOrders) ops (w.tape w.drawn (.order fr.fn id)) = Region.linearise .any ops (w.tape w.drawn (.order fr.fn id)) := by
    simp [Region.schedule, hmix]
  rw [hsch] at hstep
  have hrep : ∀ i, (Array.replicate ops.size false).getD i false = false := by
    intro i
    by_cases hi : i < ops.size <;> simp [hi]
  have hinv : Inv B recs T H n S μ w1 (fun i => (Array.replicate ops.size false).getD i false) μ fr.tmps w1 := by
    refine ⟨(PG.refl hw1).congr (fun i => ⟨False.elim, ?_⟩) (fun i => ⟨False.elim, ?_⟩) (fun i => ?_), ht.1.symm, fun t => ?_⟩
    · rintro ⟨q, r, a, _⟩; exact absurd ((hrep q).symm.trans a) (by simp)
    · rintro ⟨_, q, r, a, _⟩; exact absurd ((hrep q).symm.trans a) (by simp)
    · exact (lastc_none _ _ _ fun q x _ => hrep _).symm
    · rw [show tD recs T (fun i => (Array.replicate ops.size false).getD i false) t = tget T t from lastc_none _ _ _ fun q x _ => hrep _]
      exact ht.2 t
  have hRR : ∀ r ∈ recs, ∀ i ∈ r.R, i < n → S i := fun r hr i hi => hR i (List.mem_flatMap.2 ⟨r, hr, hi⟩)
  have hB1 : B.has w1 := ⟨hB.le, B.still w w1 (fun _ _ => rfl) hB.inv⟩
  obtain ⟨l, μ1, A1, w2, h1, h3⟩ := linearP h hk0 hpos hlast (w0 := w1) hS (fun r hr i hi => hR i (List.mem_flatMap.2 ⟨r, hr, hi⟩)) hfree ⟨hB.le, B.still w w1 (fun _ _ => rfl) hB.inv⟩ hw1 (fr := fr) (cs := cs) (k := k) hm ops.size (w.tape w.drawn (.order fr.fn id)) (Array.replicate ops.size false) μ fr.tmps w1 (by simp)
    (fun q o a => absurd ((hrep q).symm.trans a) (by simp)) (by
      have := List.countP_le_length (p := fun i => !(Array.replicate ops.size false).getD i false) (l := List.range ops.size)
      simpa using this) (hrep _) hinv
  have hcl : Closed ops (fun i => decide (i + 1 < ops.size)) := by
    intro q o hq ho e he hb
    have := h.edge q o ho e he hb
    simp only [decide_eq_true_eq] at hq ⊢
    omega
  obtain ⟨out', μ', w', hpg, hext, hor, hst⟩ := inv_does h hS hRR hfree hB1 hw1 hcl (j := ops.size - 1) (by simp; omega) (fun o ho e he hb => by
    have := h.edge _ o ho e he hb
    simp only [decide_eq_true_eq]
    omega) h1 (fr := fr) (cs := cs) (l := l) (k := k) hm hx hdo hwant
  have hp := pg_full h hpg (fun q hq => by
    by_cases e : q = ops.size - 1
    · rw [e]; exact plus_self
    · rw [plus_ne e]; simp only [decide_eq_true_eq]; omega) hS
  have hch := chain_n recs T H n T' H' n' h.chain h.sane
  have hT : TR μ1 x.T A1 := by
    have hl := ((chain_tmps (len := T.len) 0 recs 0 T H n T' H' n' h.chain h.sane rfl).1 _ x hx).1
    refine ⟨by rw [hl, h1.size], fun t => ?_⟩
    have hq := ((chain_tmps (len := T.len) t recs 0 T H n T' H' n' h.chain h.sane rfl).1 _ x hx).2
    rw [hq]
    have := h1.tmps t
    rw [show tD recs T (fun i => decide (i + 1 < ops.size)) t = lastc (fun q => decide (q < 0 + (ops.size - 1))) (recs.map (cT t)) 0 (tget T t) from ?_] at this
    · exact this
    · refine lastc_congr _ _ _ fun q y hy => ?_
      exact decide_eq_decide.2 (by omega)
  cases hor with
  | pan hv =>
    rename_i v'
    refine ⟨μ', A1, w', l, v', ⟨hp.ok, hp.le, hp.ext, hp.keep, hp.grow, hp.frame, hp.wr, hp.fresh, hp.rf, hp.os, hp.tape, hp.output⟩, ?_, hv, .head hstep (h3.trans (hst.trans ?_))⟩
    · exact hT.mono hext
    · simp only [OO.on, Frame.raise, inReg, hm]
      exact Steps.refl _ _
end
end Go.CE

namespace Go.CE
open Go Go.RowKit
structure Shape (H : Heap) (n : Nat) (H' : Heap) (n' : Nat) (R W : List Nat) : Prop where
  le : n ≤ n'
  keep : ∀ i, i < n → i ∉ W → hget H' i = hget H i
  top : ∀ i, n' ≤ i → hget H' i = hget H i
  sub : ∀ i, i ∈ W → i ∈ R
  wlt : ∀ i, i ∈ W → i < n'
theorem Shape.same (H : Heap) (n : Nat) (R : List Nat) : Shape H n H n R [] := ⟨Nat.le_refl _, fun _ _ _ => rfl, fun _ _ => rfl, fun _ h => by simp at h, fun _ h => by simp at h⟩
theorem Shape.trans {H H1 H2 : Heap} {n n1 n2 : Nat} {R1 R2 W1 W2 : List Nat} (h : Shape H n H1 n1 R1 W1) (k : Shape H1 n1 H2 n2 R2 W2) : Shape H n H2 n2 (R1 ++ R2) (W1 ++ W2) := by
  have := h.le
  have := k.le
  refine ⟨by omega, fun i hi hw => ?_, fun i hi => ?_, fun i hi => ?_, fun i hi => ?_⟩
  · rw [k.keep i (by omega) (fun e => hw (List.mem_append_right _ e)), h.keep i hi (fun e => hw (List.mem_append_left _ e))]
  · rw [k.top i hi, h.top i (by omega)]
  · exact (List.mem_append.1 hi).elim (fun e => List.mem_append_left _ (h.sub i e)) (fun e => List.mem_append_right _ (k.sub i e))
  · exact (List.mem_append.1 hi).elim (fun e => by have := h.wlt i e; omega) (k.wlt i)
theorem Shape.new (H : Heap) (n : Nat) (o : Obj) (R : List Nat) : Shape H n ((n, o) :: H) (n + 1) R [] :=
  ⟨by omega, fun i hi _ => by rw [hget_cons, if_neg (by omega)], fun i hi => by rw [hget_cons, if_neg (by omega)], fun _ h => by simp at h, fun _ h => by simp at h⟩
theorem Shape.set {H : Heap} {n b : Nat} (o : Obj) (hb : b < n) : Shape H n (hset H b o) n [b] [b] :=
  ⟨Nat.le_refl _, fun i _ hw => by rw [hget_hset, if_neg (fun e => hw (by simp [e.1]))], fun i hi => by rw [hget_hset, if_neg (fun e => by omega)], fun _ h => h, fun _ h => by simp at h; omega⟩
theorem Shape.moreR {H H' : Heap} {n n' : Nat} {R R' W : List Nat} (h : Shape H n H' n' R W) (hr : ∀ i, i ∈ W → i ∈ R') : Shape H n H' n' R' W := ⟨h.le, h.keep, h.top, hr, h.wlt⟩
def Under (H : Heap) (n : Nat) : Prop := ∀ i, n ≤ i → hget H i = none
theorem Under.lt {H : Heap} {n i : Nat} {o : Obj} (h : Under H n) (hg : hget H i = some o) : i < n := by
  rcases Nat.lt_or_ge i n with hl | hl
  · exact hl
  · rw [h i hl] at hg; cases hg
theorem Under.shape {H H' : Heap} {n n' : Nat} {R W : List Nat} (h : Under H n) (hs : Shape H n H' n' R W) : Under H' n' := fun i hi => by
  rw [hs.top i hi]; exact h i (Nat.le_trans hs.le hi)
theorem cAppend_shape {P : Program} {t : TypeId} {H : Heap} {n : Nat} {s x : Value} {r : CR} (hu : Under H n) (h : cAppend P t H n s x = some r) : Shape H n r.H r.n r.R r.W := by
  unfold cAppend at h
  split at h
  · split at h
    · split at h
      · split at h
        · rename_i cs k ko ns m b hh hn
          rw [← bif_some h]
          have hko : ∀ q, ko = some q → q < n := by
            intro q hq
            subst hq
            have hh' := hh
            unfold headOf at hh'
            split at hh'
            · cases hh'
            · split at hh'
              · rename_i hg
                have e := (headOf_inv hg hh).2.2.2.2.2
                simp only [Option.some.injEq] at e
                rw [e]
                exact hu.lt hg
              · cases hh'
            · cases hh'
          refine ⟨by simp, fun i hi hw => ?_, fun i hi => ?_, fun i hi => List.mem_cons_of_mem _ hi, fun i hi => ?_⟩
          · simp only at hw ⊢
            rw [hget_cons, if_neg (by omega), hget_killo, if_neg]
            rintro ⟨⟨q, rfl, rfl⟩, _⟩
            exact hw (by simp)
          · simp only at hi ⊢
            rw [hget_cons, if_neg (by omega), hget_killo, if_neg]
            rintro ⟨⟨q, e, rfl⟩, _⟩
            have := hko _ e
            omega
          · simp only at hi ⊢
            have := hko i (by cases ko <;> simp_all)
            omega
        · cases h
      · cases h
    · cases h
  · cases h
theorem cTail_shape {P : Program} {t : TypeId} {H : Heap} {n : Nat} {x : Value} {lo hi : Option Value} {r : CR} (hu : Under H n) (h : cTail P t H n x lo hi = some r) : Shape H n r.H r.n r.R r.W := by
  unfold cTail at h
  split at h
  · rename_i b _ _ _ _
    split at h
    · rename_i hg
      rw [← bif_some h]
      have hlt : b < n := hu.lt hg
      refine ⟨by simp, fun i hi hw => ?_, fun i hi => ?_, fun i hi => ?_, fun i hi => ?_⟩
      · simp only at hw ⊢
        rw [hget_cons, if_neg (by omega), hget_killo, if_neg]
        rintro ⟨⟨q, e, e2⟩, _⟩
        cases e
        exact hw (by simp [e2])
      · simp only at hi ⊢
        rw [hget_cons, if_neg (by omega), hget_killo, if_neg]
        rintro ⟨⟨q, e, e2⟩, _⟩
        cases e
        omega
      · simp only at hi ⊢
        simp_all
      · simp only at hi ⊢
        simp at hi
        omega
    · cases h
  · cases h
theorem cAppT_shape {P : Program} {t : TypeId} {H : Heap} {n : Nat} {s x : Value} {r : CR} (hu : Under H n) (h : cAppT P t H n s x = some r) : Shape H n r.H r.n r.R r.W := by
  unfold cAppT at h
  split at h
  · split at h
    · split at h
      · split at h
        · rename_i b _ _ _ _ _ _
          split at h
          · rename_i hg
            rw [← bif_some h]
            have hlt : b < n := hu.lt hg
            refine ⟨by simp, fun i hi hw => ?_, fun i hi => ?_, fun i hi => ?_, fun i hi => ?_⟩
            · simp only at hw ⊢
              rw [hget_cons, if_neg (by omega), hget_killo, if_neg]
              rintro ⟨⟨q, e, e2⟩, _⟩
              cases e
              exact hw (by simp [e2])
            · simp only at hi ⊢
              rw [hget_cons, if_neg (by omega), hget_killo, if_neg]
              rintro ⟨⟨q, e, e2⟩, _⟩
              cases e
              omega
            · simp only at hi ⊢
              simp_all
            · simp only at hi ⊢
              simp at hi
              omega
          · cases h
        · cases h
      · cases h
    · cases h
  · cases h
theorem cApp_shape {P : Program} {t t' : TypeId} {H : Heap} {n : Nat} {s x : Value} {r : CR} (hu : Under H n) (h : cApp P t t' H n s x = some r) : Shape H n r.H r.n r.R r.W := by
  unfold cApp at h
  cases htt : Nat.beq t t' with
  | false =>
    rw [htt] at h
    simp only [cond_false] at h
    unfold cAppZ at h
    split at h
    · split at h
      · split at h
        · rw [← bif_some h]; exact Shape.new _ _ _ _
        · cases h
      · cases h
    · cases h
  | true =>
    rw [htt] at h
    simp only [cond_true] at h
    split at h
    · rename_i r0 hca
      simp only [Option.some.injEq] at h
      subst h
      exact cAppend_shape hu hca
    · split at h
      · rename_i r0 hct
        simp only [Option.some.injEq] at h
        subst h
        exact cAppT_shape hu hct
      · unfold cApp0 at h
        split at h
        · split at h
          · rw [← bif_some h]; exact Shape.same _ _ _
          · cases h
        · cases h
theorem cop_shape {P : Program} {F : FuncId → Bool} {o : Oper} {ev : Operand → Option Value} {H : Heap} {n : Nat} {r : CR} (hu : Under H n) (h : cop P F ev o H n = some r) : Shape H n r.H r.n r.R r.W := by
  have pureCase : ∀ {x : Option Value}, mkPure x H n = some r → Shape H n r.H r.n r.R r.W := by
    intro x h
    obtain ⟨v, _, rfl⟩ := mkPure_some h
    exact Shape.same _ _ _
  unfold cop at h
  split at h
  · exact pureCase h
  · exact pureCase h
  · split at h
    · exact pureCase h
    · cases h
  · split at h
    · rw [← bif_some h]; exact Shape.new _ _ _ _
    · cases h
  · split at h
    · simp only [Option.some.injEq] at h; subst h; exact Shape.new _ _ _ _
    · cases h
  · split at h
    · exact pureCase h
    · cases h
  · split at h
    · split at h
      · simp only [Option.some.injEq] at h; subst h; exact Shape.new _ _ _ _
      · rw [← bif_some h]; exact Shape.same _ _ _
    · cases h
  · split at h
    · split at h
      · simp only [Option.some.injEq] at h; subst h; exact Shape.same _ _ _
      · cases h
    · cases h
  · -- store
    split at h
    · split at h
      · rename_i H' b hb
        simp only [Option.some.injEq] at h
        subst h
        unfold cStore at hb
        split at hb
        · split at hb
          · rename_i hg
            split at hb
            · have e := bif_some hb
              simp only [Prod.mk.injEq] at e
              obtain ⟨rfl, rfl⟩ := e
              exact Shape.set _ (hu.lt hg)
            · cases hb
          · cases hb
        · cases hb
      · cases h
    · cases h
  · split at h
    · exact pureCase h
    · cases h
  · split at h
    · exact pureCase h
    · cases h
  · split at h
    · exact pureCase h
    · cases h
  · split at h
    · exact pureCase h
    · exact pureCase h
  · split at h
    · exact pureCase h
    · cases h
  · split at h
    · split at h
      · simp only [Option.some.injEq] at h; subst h; exact Shape.new _ _ _ _
      · cases h
    · cases h
  · split at h
    · split at h
      · rename_i r0 hct
        simp only [Option.some.injEq] at h
        subst h
        exact cTail_shape hu hct
      · exact pureCase h
    · exact pureCase h
    · exact pureCase h
  · rename_i t x lo hi mx ho
    cases hc : cSlice3 P t (ev x) (evo ev lo) (ev hi) (ev mx) with
    | true => rw [hc] at h; simp only [cond_true, Option.some.injEq] at h; subst h; exact Shape.same _ _ _
    | false => rw [hc] at h; exact pureCase h
  · split at h
    · simp only [Option.some.injEq] at h; subst h; exact Shape.same _ _ _
    · cases h
  · simp only [Option.some.injEq] at h; subst h; exact Shape.new _ _ _ _
  · split at h
    · split at h
      · simp only [Option.some.injEq] at h; subst h; exact Shape.same _ _ _
      · cases h
    · cases h
  · -- mapUpdate
    split at h
    · split at h
      · rename_i H' b hb
        simp only [Option.some.injEq] at h
        subst h
        unfold cMapUpdate at hb
        split at hb
        · split at hb
          · rename_i hg
            have hb := bif_some' hb
            split at hb
            · split at hb
              · have e := bif_some hb
                simp only [Prod.mk.injEq] at e
                obtain ⟨rfl, rfl⟩ := e
                exact Shape.set _ (hu.lt hg)
              · cases hb
            · simp only [Option.some.injEq, Prod.mk.injEq] at hb
              obtain ⟨rfl, rfl⟩ := hb
              exact Shape.set _ (hu.lt hg)
            · cases hb
          · cases hb
        · cases hb
      · cases h
    · cases h
  · -- insert
    split at h
    · split at h
      · rename_i H' b hb
        simp only [Option.some.injEq] at h
        subst h
        unfold cMapUpdate at hb
        split at hb
        · split at hb
          · rename_i hg
            have hb := bif_some' hb
            split at hb
            · split at hb
              · have e := bif_some hb
                simp only [Prod.mk.injEq] at e
                obtain ⟨rfl, rfl⟩ := e
                exact Shape.set _ (hu.lt hg)
              · cases hb
            · simp only [Option.some.injEq, Prod.mk.injEq] at hb
              obtain ⟨rfl, rfl⟩ := hb
              exact Shape.set _ (hu.lt hg)
            · cases hb
          · cases hb
        · cases hb
      · cases h
    · cases h
  · split at h
    · split at h
      · simp only [Option.some.injEq] at h; subst h; exact Shape.same _ _ _
      · exact pureCase h
    · cases h
  · split at h
    · simp only [Option.some.injEq] at h; subst h; exact Shape.same _ _ _
    · simp only [Option.some.injEq] at h; subst h; exact Shape.same _ _ _
    · simp only [Option.some.injEq] at h; subst h; exact Shape.same _ _ _
    · cases h
  · split at h
    · split at h
      · split at h
        · -- append
          exact cApp_shape hu h
        · cases h
      · cases h
    · split at h
      · split at h
        · simp only [Option.some.injEq] at h; subst h; exact Shape.same _ _ _
        · simp only [Option.some.injEq] at h; subst h; exact Shape.same _ _ _
        · exact pureCase h
      · cases h
    · split at h
      · split at h
        · -- copy
          unfold cCopy at h
          split at h
          · split at h
            · split at h
              · split at h
                · rename_i hg _
                  rw [← bif_some h]
                  obtain ⟨a1, a2, a3, a4, a5⟩ := Shape.set (H := H) (n := n) (.cells (splice _ _ _) _ (0, 0)) (hu.lt hg)
                  exact ⟨a1, a2, a3, fun i hi => by simp at hi; subst hi; simp, a5⟩
                · cases h
              · cases h
            · cases h
          · cases h
        · cases h
      · cases h
    · exact pureCase h
    · split at h
      · split at h
        · simp only [Option.some.injEq] at h; subst h; exact Shape.same _ _ _
        · cases h
      · cases h
    · cases h
  · exact pureCase h
end Go.CE

namespace Go.CE
open Go Go.RowKit

inductive CM where
  | run
  | ret
  | pan (v : Value)
structure CF where
  fn : FuncId
  tmps : Tm
  todo : List Item
  defers : List Nat
  mode : CM
  roundOf : Option Nat
structure Rs where
  out : OO
  H : Heap
  n : Nat
  R : List Nat
  W : List Nat
def ofL : List Value → Nat → Tri → Tri
  | [], _, t => t
  | v :: l, i, t => ofL l (i + 1) (Tri.set 14 t i v)
def tmArr (T : Tm) : Array Value := ((List.range T.len).map (tget T)).toArray
def ofList (len : Nat) (l : List Value) : Tm := ⟨len, ofL l 0 .lf⟩
def enterC (P : Program) (f : FuncId) (args : Array Value) : Option CF :=
  match nth P.funcs.toList f with
  | some fn => match fn.body with
    | some c => bif Nat.ble (args.size + (fn.ntmps - args.size)) 16000 then some ⟨f, ofList (args.size + (fn.ntmps - args.size)) args.toList, [.code c], [], .run, none⟩ else none
    | none => none
  | none => none
def dropNew (H : Heap) (s : Rs) : Rs :=
  match s.W, s.out with
  | [], .ret v => bif af v then { s with H := H } else s
  | _, _ => s
abbrev Orc := FuncId → Array Value → Heap → Nat → Option Rs
def copR (P : Program) (F : FuncId → Bool) (ev : Operand → Option Value) (o : Oper) (H : Heap) (n : Nat) : Option CR :=
  match cop P F ev o H n with
  | some r => bif r.R.all (fun i => Nat.blt i n) then some r else none
  | none => none
theorem copR_cop {P : Program} {F : FuncId → Bool} {ev : Operand → Option Value} {o : Oper} {H : Heap} {n : Nat} {r : CR} (h : copR P F ev o H n = some r) : cop P F ev o H n = some r ∧ ∀ q ∈ r.R, q < n := by
  unfold copR at h
  split at h
  · rename_i r' hr
    cases hq : r'.R.all (fun i => Nat.blt i n) with
    | false => rw [hq] at h; cases h
    | true =>
      rw [← bif_some h]
      exact ⟨hr, fun q hq' => Nat.le_of_ble_eq_true (List.all_eq_true.1 hq q hq')⟩
  · cases h
def opS (P : Program) (F : FuncId → Bool) (orc : Orc) (rec : CF → Heap → Nat → Option Rs) (T : Tm) (o : Oper) (H : Heap) (n : Nat) : Option Rs :=
  match o.op with
  | .defer _ => none
  | .panic x => match evC T x with
    | some (.iface t v) => some ⟨.pan (.iface t v), H, n, [], []⟩
    | _ => none
  | _ => match copR P F (evC T) o H n with
    | some r => match r.nx with
      | .val v => some ⟨.ret v, r.H, r.n, r.R, r.W⟩
      | .enter g args => match orc g args r.H r.n with
        | some s => some ⟨s.out, s.H, s.n, r.R ++ s.R, r.W ++ s.W⟩
        | none => match enterC P g args with
          | some c => match rec c r.H r.n with
            | some s => match dropNew r.H s with
              | s => some ⟨s.out, s.H, s.n, r.R ++ s.R, r.W ++ s.W⟩
            | none => none
          | none => none
      | .round l fn tm a b => bif Nat.ble tm.size 16000 then match rec ⟨fn, ofList tm.size tm.toList, [.code a, .beginRound, .code b], [], .run, some l⟩ r.H r.n with
        | some s => some ⟨s.out, s.H, s.n, r.R ++ s.R, r.W ++ s.W⟩
        | none => none
        else none
    | none => none
def dstOk (T : Tm) : Option Tmp → Bool
  | some d => Nat.blt d T.len && Nat.blt d 16000
  | none => true
inductive RF where
  | ok (T : Tm) (H : Heap) (n : Nat)
  | pan (T : Tm) (v : Value) (H : Heap) (n : Nat) (R W : List Nat)
def rrun (P : Program) (F : FuncId → Bool) (orc : Orc) (rec : CF → Heap → Nat → Option Rs) (ops : Array Oper) : List Oper → Tm → Heap → Nat → Option (List Rec × RF)
  | [], T, H, n => some ([], .ok T H n)
  | o :: l, T, H, n =>
    bif dstOk T o.dst then
      bif Region.wanted o (yieldedC ops T) then
        match opS P F orc rec T o H n with
        | some s => match s.out with
          | .ret v => match rrun P F orc rec ops l (tput T o.dst v) s.H s.n with
            | some (rs, fin) => some (⟨o, true, v, T, H, s.H, n, s.n, s.R, s.W⟩ :: rs, fin)
            | none => none
          | .pan v => some ([], .pan T v s.H s.n s.R s.W)
        | none => none
      else match rrun P F orc rec ops l (tput T o.dst undef) H n with
        | some (rs, fin) => some (⟨o, false, undef, T, H, H, n, n, [], []⟩ :: rs, fin)
        | none => none
    else none
def edgesOk : Nat → List Oper → Bool
  | _, [] => true
  | k, o :: l => o.after.all (fun e => !Region.binds .any e || Nat.blt e.on k) && edgesOk (k + 1) l
def panLast (ops : Array Oper) (recs : List Rec) (T : Tm) : Bool :=
  edgesOk 0 ops.toList && (indep ops 0 recs (befs ops.toList []) && (Nat.beq (recs.length + 1) ops.toList.length && ((List.range recs.length).all (fun i => ((befs ops.toList []).getD recs.length []).contains i) && ops.toList.all (fun o => dstOk T o.dst))))
def resVars (P : Program) (H : Heap) (T : Tm) : List ResultVar → Option (List Value × List Nat)
  | [] => some ([], [])
  | .tmp t :: l => match resVars P H T l with
    | some (vs, R) => some (tget T t :: vs, R)
    | none => none
  | .cell a t :: l => match cLoad P t H (tget T a) with
    | some (v, b) => match resVars P H T l with
      | some (vs, R) => some (v :: vs, b :: R)
      | none => none
    | none => none
def oneOf : List Value → Value
  | [v] => v
  | vs => .tuple vs.toArray
def resC (P : Program) (f : FuncId) (H : Heap) (T : Tm) : Option (Value × List Nat) :=
  match nth P.funcs.toList f with
  | some fn => match resVars P H T fn.results.toList with
    | some (vs, R) => some (oneOf vs, R)
    | none => none
  | none => none
def isFn (P : Program) (f : FuncId) : Bool := match nth P.funcs.toList f with | some _ => true | none => false
inductive FS where
  | go (c : CF) (H : Heap) (n : Nat) (R W : List Nat)
  | done (out : OO) (H : Heap) (n : Nat) (R W : List Nat)
def leaveC (c : CF) (H : Heap) (n : Nat) (jump : Option Code) : Option FS :=
  match c.roundOf with
  | none => match jump with
    | none | some .ret => some (.go { c with mode := .ret } H n [] [])
    | _ => none
  | some l => match hget H l with
    | some (.loop r) => some (.done (.ret (.bool jump.isNone)) (hset H l (.loop { r with state := if jump.isNone then .ready else .done, pending := jump })) n [l] [l])
    | _ => none
def openLoop (c : CF) (H : Heap) (n : Nat) (params : Array Tmp) (assign body : Code) : Option (Heap × Nat × List Nat × List Nat) :=
  match c.roundOf with
  | none => some ((n + 1, .loop ⟨.ready, none, c.fn, tmArr c.tmps, params, assign, body, n⟩) :: (n, .deferred (some [])) :: H, n + 1, [n], [])
  | some l => match hget H l with
    | some (.loop _) => some ((n, .loop ⟨.ready, none, c.fn, tmArr c.tmps, params, assign, body, n⟩) :: H, n, [], [l])
    | _ => none
def fstep (P : Program) (F : FuncId → Bool) (orc : Orc) (rec : CF → Heap → Nat → Option Rs) (c : CF) (H : Heap) (n : Nat) : Option FS :=
  match c.mode with
  | .run => match c.todo with
    | [] => leaveC c H n none
    | .code .ret :: _ => leaveC c H n (some .ret)
    | .code .skip :: k | .code (.label _) :: k | .inBlock _ :: k | .inScope _ :: k => some (.go { c with todo := k } H n [] [])
    | .code (.seq a b) :: k => some (.go { c with todo := .code a :: .code b :: k } H n [] [])
    | .code (.cond x a b) :: k => match evC c.tmps x with
      | some (.bool t) => some (.go { c with todo := .code (bif t then a else b) :: k } H n [] [])
      | _ => none
    | .code (.block id b) :: k => some (.go { c with todo := .code b :: .inBlock id :: k } H n [] [])
    | .code (.loop b) :: k | .inLoop b :: k => some (.go { c with todo := .code b :: .inLoop b :: k } H n [] [])
    | .code (.scope b) :: k => some (.go { c with todo := .code b :: .inScope b :: k } H n [] [])
    | .code (.exit id) :: k => match exitTo id k with
      | some k' => some (.go { c with todo := k' } H n [] [])
      | none => leaveC c H n (some (.exit id))
    | .code (.goto l) :: k => match gotoIn l k with
      | some k' => some (.go { c with todo := k' } H n [] [])
      | none => leaveC c H n (some (.goto l))
    | .code (.region _ ops draw) :: k => match rrun P F orc rec ops ops.toList c.tmps H n with
      | some (recs, .ok T' H' n') => bif !draw || (edgesOk 0 ops.toList && indep ops 0 recs (befs ops.toList [])) then some (.go { c with tmps := T', todo := k } H' n' (allR recs) (allW recs)) else none
      | some (recs, .pan T' v H' n' R W) => bif !draw || panLast ops recs T' then some (.go { c with tmps := T', mode := .pan v } H' n' (allR recs ++ R) (allW recs ++ W)) else none
      | none => none
    | .code (.rangeFunc f params assign body) :: k => match evC c.tmps f with
      | some fv =>
        match openLoop c H n params assign body with
        | some (H1, l, ds, R1) => match cCall F H1 fv #[.func (.yield l) #[] #[]] with
          | some (.enter g args, R2) => match enterC P g args with
            | some c1 => match rec c1 H1 (l + 1) with
              | some s => match s.out with
                | .ret _ => some (.go { c with todo := .endRangeFunc l :: k, defers := ds ++ c.defers } s.H s.n (R1 ++ R2 ++ s.R) s.W)
                | .pan v => some (.go { c with mode := .pan v, defers := ds ++ c.defers } s.H s.n (R1 ++ R2 ++ s.R) s.W)
              | none => none
            | none => none
          | _ => none
        | none => none
      | none => none
    | .endRangeFunc l :: k => match hget H l with
      | some (.loop r) => bif !(decide (r.state = .busy)) then some (.go { c with todo := (r.pending.map Item.code).toList ++ k } (hset H l (.loop { r with state := .exhausted })) n [l] [l]) else none
      | _ => none
    | .beginRound :: k => match c.roundOf with
      | some l => match hget H l with
        | some (.loop r) => bif decide (r.state = .ready) then some (.go { c with todo := k } (hset H l (.loop { r with state := .busy })) n [l] [l]) else none
        | _ => none
      | none => none
    | _ => none
  | m => match c.defers with
    | d :: ds => match hget H d with
      | some (.deferred (some [])) => some (.go { c with defers := ds } (hset H d (.deferred none)) n [d] [d])
      | _ => none
    | [] => match m with
      | .pan v => bif isFn P c.fn then some (.done (.pan v) H n [] []) else none
      | _ => match c.roundOf, resC P c.fn H c.tmps with
        | none, some (v, R) => some (.done (.ret v) H n R [])
        | _, _ => none
def addl (b : Nat) : List Nat → List Nat → List Nat
  | [], acc => acc
  | x :: l, acc => addl b l (bif Nat.blt x b && !(acc.contains x) then x :: acc else acc)
theorem addl_mem {b : Nat} : ∀ (l acc : List Nat) (i : Nat), (i ∈ addl b l acc → i ∈ acc ∨ (i ∈ l ∧ i < b)) ∧ (i ∈ acc → i ∈ addl b l acc) ∧ (i ∈ l → i < b → i ∈ addl b l acc)
  | [], acc, i => ⟨fun h => .inl h, fun h => h, fun h => by simp at h⟩
  | x :: l, acc, i => by
    obtain ⟨h1, h2, h3⟩ := addl_mem l (bif Nat.blt x b && !(acc.contains x) then x :: acc else acc) i
    have hb : Nat.blt x b = true ↔ x < b := ⟨fun h => Nat.le_of_ble_eq_true h, fun h => Nat.ble_eq_true_of_le h⟩
    simp only [addl]
    cases hc : (Nat.blt x b && !(acc.contains x)) with
    | true =>
      rw [hc] at h1 h2 h3
      simp only [cond_true] at h1 h2 h3 ⊢
      simp only [Bool.and_eq_true] at hc
      refine ⟨fun h => ?_, fun h => h2 (List.mem_cons_of_mem _ h), fun h hl => ?_⟩
      · rcases h1 h with h | h
        · rcases List.mem_cons.1 h with rfl | h
          · exact .inr ⟨by simp, hb.1 hc.1⟩
          · exact .inl h
        · exact .inr ⟨List.mem_cons_of_mem _ h.1, h.2⟩
      · rcases List.mem_cons.1 h with rfl | h
        · exact h2 (by simp)
        · exact h3 h hl
    | false =>
      rw [hc] at h1 h2 h3
      simp only [cond_false] at h1 h2 h3 ⊢
      refine ⟨fun h => (h1 h).imp id fun h => ⟨List.mem_cons_of_mem _ h.1, h.2⟩, h2, fun h hl => ?_⟩
      rcases List.mem_cons.1 h with rfl | h
      · rw [hb.2 hl] at hc
        simp only [Bool.true_and, Bool.not_eq_false', List.contains_iff_mem] at hc
        exact h2 hc
      · exact h3 h hl
def frun (P : Program) (F : FuncId → Bool) (orc : Orc) : Nat → Nat → CF → Heap → Nat → List Nat → List Nat → Option Rs
  | 0, _, _, _, _, _, _ => none
  | fuel + 1, b, c, H, n, R, W =>
    match fstep P F orc (fun c1 H1 n1 => frun P F orc fuel n1 c1 H1 n1 [] []) c H n with
    | some (.go c' H' n' R' W') => frun P F orc fuel b c' H' n' (addl b R' R) (addl b W' W)
    | some (.done out H' n' R' W') => some ⟨out, H', n', addl b R' R, addl b W' W⟩
    | none => none
end Go.CE
