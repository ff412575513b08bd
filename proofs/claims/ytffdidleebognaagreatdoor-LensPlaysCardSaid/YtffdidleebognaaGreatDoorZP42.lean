/- Contracts of layer 1, as runs use them. -/
import Derived.Test.YtffdidleebognaaGreatDoorZP11
import Derived.Test.YtffdidleebognaaGreatDoorZP13
import Derived.Test.YtffdidleebognaaGreatDoorZP19
import Derived.Test.YtffdidleebognaaGreatDoorZP21
import Derived.Test.YtffdidleebognaaGreatDoorZP27
import Derived.Test.YtffdidleebognaaGreatDoorZP28
import Derived.Test.YtffdidleebognaaGreatDoorZP32
import Derived.Test.YtffdidleebognaaGreatDoorZP41
namespace Go.Proofs.YtffdidleebognaaGreatDoor
open Go Go.CE Go.RowKit Lens
theorem atN_of_or {α : Type} {sz : Nat} {enc : α → Nat → Value} {μ : Mu} {w : World} {im : Img} {f : Nat → α} {e : Nat → List Value} {n : Nat} {t : TypeId} {fz : Nat × Nat} (h : OR μ w im (.cells (rowA e n) t fz)) (hlt : im.blk < w.heap.size)
    (hlen : ∀ k, (e k).length = sz) (he : ∀ k j, j < sz → (e k)[j]? = some (enc (f k) j) ∧ af (enc (f k) j) = true) : AtN sz enc w w.heap.size (some ⟨im.blk, im.off, none⟩) n f := by
  intro _
  refine ⟨im.blk, im.off, rfl, hlt, fun k hk j hj => ?_⟩
  have hv := (rowA_get hlen hj n k hk).trans (he k j hj).1
  obtain ⟨v', h1, h2⟩ := h.cell hv
  rw [Nat.add_assoc, h1, af_eq (he k j hj).2 h2]
section
variable {i : Isl} {wa : Option Addr} {wc : Nat} {ma : Option Addr} {mc : Nat} {tanks : Int} {t : Tru} {da : Option Addr} {dc : Nat} {ra : Option Addr} {rc : Nat} {na : Option Addr} {nc : Nat} {w : World} {n : Nat}
abbrev islR (i : Isl) (wa : Option Addr) (wc : Nat) (ma : Option Addr) (mc : Nat) : Value := .agg (islC i (rawS wa i.nw wc) (rawS ma i.nm mc))
abbrev truR (t : Tru) (da : Option Addr) (dc : Nat) (ra : Option Addr) (rc : Nat) (na : Option Addr) (nc : Nat) : Value := .agg (truC t (rawS da t.nd dc) (rawS ra t.nr rc) (rawS na t.nn nc))
theorem ex_it : ExL [islR i wa wc ma mc, .int .i64 tanks, truR t da dc ra rc na nc] [islV i wa wc ma mc, .int .i64 tanks, truV t da dc ra rc na nc] := .cons (exact_isl _ _ _ _ _) (.cons (exact_af rfl) (.cons (exact_tru _ _ _ _ _ _ _) .nil))
theorem con_short : CJ Tryz.prog (worldLo w) 18 #[islR i wa wc ma mc] [] n (.bool (shortB i)) [] n [] :=
  con_of (.cons (exact_isl _ _ _ _ _) .nil) (exact_af rfl) fun w' _ => short_any i wa wc ma mc w'
theorem con_sized : CJ Tryz.prog (worldLo w) 19 #[truR t da dc ra rc na nc] [] n (.bool (sizedB t)) [] n [] :=
  con_of (.cons (exact_tru _ _ _ _ _ _ _) .nil) (exact_af rfl) fun w' _ => sized_any t da dc ra rc na nc w'
theorem con_asked (hi : IslAt w w.heap.size i wa ma) : CJ Tryz.prog (worldLo w) 15 #[islR i wa wc ma mc, .int .i64 tanks] [] n (.bool (islB i && tanksB tanks)) [] n [] :=
  con_of (.cons (exact_isl _ _ _ _ _) (.cons (exact_af rfl) .nil)) (exact_af rfl) fun w' hw => asked_any i wa wc ma mc tanks w' (islAt_lo hi hw)
theorem con_truth (hi : IslAt w w.heap.size i wa ma) (ht : TruAt w w.heap.size t da ra na) (h1 : 0 ≤ i.most) (h2 : 0 ≤ i.row) : CJ Tryz.prog (worldLo w) 21 #[islR i wa wc ma mc, truR t da dc ra rc na nc] [] n (.bool (truB i t)) [] n [] :=
  con_of (.cons (exact_isl _ _ _ _ _) (.cons (exact_tru _ _ _ _ _ _ _) .nil)) (exact_af rfl) fun w' hw => rTruth_any i wa wc ma mc t da dc ra rc na nc w' (islAt_lo hi hw) (truAt_lo ht hw) h1 h2
theorem con_playNo (hi : IslAt w w.heap.size i wa ma) (ht : TruAt w w.heap.size t da ra na) (h : (islB i && tanksB tanks && truB i t) = false) :
    CJ Tryz.prog (worldLo w) 20 #[islR i wa wc ma mc, .int .i64 tanks, truR t da dc ra rc na nc] [] n (.tuple #[.slice none 0 0, .agg #[.int .i64 0, .int .i64 0, .int .i64 0, .int .i64 0, .int .i64 0, .int .i64 0], .int .i64 2]) [] n [] :=
  con_of (v' := .tuple #[.slice none 0 0, .agg #[.int .i64 0, .int .i64 0, .int .i64 0, .int .i64 0, .int .i64 0, .int .i64 0], .int .i64 2]) ex_it (exact_tuple (.cons (exact_af rfl) (.cons (exact_agg (.cons (exact_af rfl) (.cons (exact_af rfl) (.cons (exact_af rfl) (.cons (exact_af rfl) (.cons (exact_af rfl) (.cons (exact_af rfl) .nil))))))) (.cons (exact_af rfl) .nil)))) fun w' hw => play_no i wa wc ma mc tanks t da dc ra rc na nc w' (islAt_lo hi hw) (truAt_lo ht hw) h
def seenE (i : Isl) (tanks : Int) (t : Tru) (k : Nat) : List Value := [.int .i64 (runTo i tanks t (k + 1)).tanks, .int .i64 (runTo i tanks t (k + 1)).lens, .int .i64 (runTo i tanks t (k + 1)).lack]
theorem seenE_af : ∀ v ∈ rowA (seenE i tanks t) n, af v = true := rowA_mem n fun j _ v hv => by
  simp only [seenE, List.mem_cons, List.not_mem_nil, or_false] at hv
  rcases hv with rfl | rfl | rfl <;> rfl
theorem seenE_get (k j : Nat) (hj : j < 3) : (seenE i tanks t k)[j]? = some (encSeen (seenOf (runTo i tanks t (k + 1))) j) ∧ af (encSeen (seenOf (runTo i tanks t (k + 1))) j) = true := by
  match j, hj with
  | 0, _ => exact ⟨rfl, rfl⟩
  | 1, _ => exact ⟨rfl, rfl⟩
  | 2, _ => exact ⟨rfl, rfl⟩
theorem seens_cells {w' : World} {g : Nat} (h : SeensAt w' w'.heap.size (some ⟨g, 0, none⟩) n (fun k => seenOf (runTo i tanks t (k + 1)))) : ∀ (j : Nat) v, (rowA (seenE i tanks t) n)[j]? = some v → w'.cell? ⟨g, j, none⟩ = some v := by
  intro j v hv
  have hs := rowA_size (e := seenE i tanks t) (z := 3) (fun _ => rfl) n
  have hlt : j < n * 3 := by rw [← hs]; exact (Array.getElem?_eq_some_iff.1 hv).1
  obtain ⟨b, off, he, _, hc⟩ := h (by omega)
  cases he
  have hj := hc (j / 3) (by omega) (j % 3) (by omega)
  have hd : j / 3 * 3 + j % 3 = j := by omega
  have hg := rowA_get (e := seenE i tanks t) (z := 3) (fun _ => rfl) (show j % 3 < 3 by omega) n (j / 3) (by omega)
  rw [hd, hv] at hg
  rw [Nat.zero_add, hd] at hj
  rw [hj, hg, (seenE_get (j / 3) (j % 3) (by omega)).1]
theorem con_play (hi : IslAt w w.heap.size i wa ma) (ht : TruAt w w.heap.size t da ra na) (h1 : islB i = true) (h2 : tanksB tanks = true) (h3 : truB i t = true) :
    CJ Tryz.prog (worldLo w) 20 #[islR i wa wc ma mc, .int .i64 tanks, truR t da dc ra rc na nc] [] n (.tuple #[.slice (some ⟨n, 0, none⟩) i.nm 0, .agg #[.int .i64 (i.size * tanks + t.start), .int .i64 (runTo i tanks t i.nm).rain, .int .i64 (runTo i tanks t i.nm).used, .int .i64 (runTo i tanks t i.nm).leak, .int .i64 (runTo i tanks t i.nm).sea, .int .i64 ((runTo i tanks t i.nm).tanks + (runTo i tanks t i.nm).lens)], .int .i64 0])
      [(n, .cells (rowA (seenE i tanks t) i.nm) 53 (1, 1))] (n + 1) [] :=
  con_row (u' := [.agg #[.int .i64 (i.size * tanks + t.start), .int .i64 (runTo i tanks t i.nm).rain, .int .i64 (runTo i tanks t i.nm).used, .int .i64 (runTo i tanks t i.nm).leak, .int .i64 (runTo i tanks t i.nm).sea, .int .i64 ((runTo i tanks t i.nm).tanks + (runTo i tanks t i.nm).lens)], .int .i64 0]) ex_it
    (.cons (exact_af (by kernel_rfl)) (.cons (exact_af rfl) .nil)) seenE_af fun w' hw => by
    have h1' := islAt_lo hi hw
    refine (play_at i wa wc ma mc tanks t da dc ra rc na nc w' h1' (truAt_lo ht hw) h1 h2 h3).mono fun e w'' ⟨⟨g, he, hs, hg⟩, hb⟩ => ⟨⟨g, i.nm, hg, ?_, Nat.le_refl _, hi.nm, he, seens_cells hs⟩, hb⟩
    have hnm : 1 ≤ i.nm := by
      simp only [islB, monthsB, Bool.and_eq_true, isInB_iff] at h1
      omega
    obtain ⟨b, off, he, hlt, _⟩ := hs (by omega)
    cases he
    exact hlt
theorem con_run (ht : TruAt w w.heap.size t da ra na) (h : Fit i tanks t) (h1 : 1 ≤ i.nm) :
    CJ Tryz.prog (worldLo w) 22 #[islR i wa wc ma mc, .int .i64 tanks, truR t da dc ra rc na nc] [] n (.tuple #[.slice (some ⟨n, 0, none⟩) i.nm 0, .agg #[.int .i64 (i.size * tanks + t.start), .int .i64 (runTo i tanks t i.nm).rain, .int .i64 (runTo i tanks t i.nm).used, .int .i64 (runTo i tanks t i.nm).leak, .int .i64 (runTo i tanks t i.nm).sea, .int .i64 ((runTo i tanks t i.nm).tanks + (runTo i tanks t i.nm).lens)]])
      [(n, .cells (rowA (seenE i tanks t) i.nm) 53 (1, 1))] (n + 1) [] :=
  con_row (u' := [.agg #[.int .i64 (i.size * tanks + t.start), .int .i64 (runTo i tanks t i.nm).rain, .int .i64 (runTo i tanks t i.nm).used, .int .i64 (runTo i tanks t i.nm).leak, .int .i64 (runTo i tanks t i.nm).sea, .int .i64 ((runTo i tanks t i.nm).tanks + (runTo i tanks t i.nm).lens)]]) ex_it
    (.cons (exact_af (by kernel_rfl)) .nil) seenE_af fun w' hw => by
    refine (rRun_any i wa wc ma mc tanks t da dc ra rc na nc w' (truAt_lo ht hw) h h1).mono fun e w'' ⟨⟨g, c, he, hg, hc1, hc2, hs⟩, hb⟩ => ⟨⟨g, c, hg, ?_, hc1, hc2, he, seens_cells hs⟩, hb⟩
    obtain ⟨b, off, he, hlt, _⟩ := hs (by omega)
    cases he
    exact hlt
theorem con_sameSeen {a b m : Nat} (hm : m ≤ maxLen) (ha : a < n) (hb : b < n) :
    CJ Tryz.prog (worldLo w) 23 #[.slice (some ⟨a, 0, none⟩) m 0, .slice (some ⟨b, 0, none⟩) m 0] [(a, some (.cells (rowA (seenE i tanks t) m) 53 (1, 1))), (b, some (.cells (rowA (seenE i tanks t) m) 53 (1, 1)))] n (.bool true) [] n [] := by
  refine cj_read rfl (fun p hp => ?_) fun μ w' args' hB hv hH => ?_
  · simp only [List.mem_cons, List.not_mem_nil, or_false] at hp
    rcases hp with rfl | rfl
    · exact ha
    · exact hb
  · obtain ⟨ima, h1, h2, h3⟩ := hH (a, some (.cells (rowA (seenE i tanks t) m) 53 (1, 1))) (by simp) _ _ _ rfl
    obtain ⟨imb, k1, k2, k3⟩ := hH (b, some (.cells (rowA (seenE i tanks t) m) 53 (1, 1))) (by simp) _ _ _ rfl
    have hl : VRl μ [.slice (some ⟨a, 0, none⟩) m 0, .slice (some ⟨b, 0, none⟩) m 0] args'.toList := vrl_mk _ _ (by simpa using hv.1) fun i v v' x y => hv.2 i v v' (by simpa using x) (by simpa using y)
    generalize hg : args'.toList = l at hl
    cases hl with
    | cons q1 hl => cases hl with
      | cons q2 hl =>
        cases hl
        obtain ⟨ca, rfl, _, _⟩ := q1.slice_new h1
        obtain ⟨cb, rfl, _, _⟩ := q2.slice_new k1
        have e : args' = #[.slice (some ⟨ima.blk, ima.off, none⟩) m ca, .slice (some ⟨imb.blk, imb.off, none⟩) m cb] := by rw [← Array.toList_inj, hg]
        rw [e]
        exact rSameSeen_true _ _ m ca cb (fun k => seenOf (runTo i tanks t (k + 1))) w' hm (atN_of_or h3 h2 (fun _ => rfl) seenE_get) (atN_of_or k3 k2 (fun _ => rfl) seenE_get)
theorem con_known (hp : CE.pow10Is w) : CJ Tryz.prog (worldLo w) 11 #[] [] n (.bool true) [] n [] :=
  con_of (l := []) (l' := []) .nil (exact_af rfl) fun _ hw => CE.known_true (CE.pow10_still (hw.inv 0 (CE.pow10_pos hp)) hp)
end
end Go.Proofs.YtffdidleebognaaGreatDoor

namespace Go.Proofs.YtffdidleebognaaGreatDoor
open Go Go.CE Go.Proofs Go.RowKit Lens
def ledV (l0 l1 l2 l3 l4 l5 : Int) : Value := .agg #[.int .i64 l0, .int .i64 l1, .int .i64 l2, .int .i64 l3, .int .i64 l4, .int .i64 l5]
set_option maxRecDepth 100000 in
theorem lplays_short (B : Lo) (i : Isl) (t : Tru) (tanks : Int) (W M D R N : Value) : ended (srun Tryz.prog goFns B 10 0 (entryC Tryz.prog 4 76 [.agg (islC i W M), .int .i64 tanks, .agg (truC t D R N)]) [] 0
    [(4, Hint.call [] (Value.bool false) [] 2 []),
(11, Hint.call [] (Value.bool true) [] 2 [])] 0 [] []) [] = some ⟨.ret (.bool true), [], 2,
    [CJ Tryz.prog B 11 #[] [] 2 (Value.bool true) [] 2 [],
CJ Tryz.prog B 18
  #[Value.agg
      #[Value.int IntKind.i64 (Isl.cap i), Value.int IntKind.i64 (Isl.sl i), Value.int IntKind.i64 (Isl.sh i),
        Value.int IntKind.i64 (Isl.roof i), Value.int IntKind.i64 (Isl.sand i), Value.int IntKind.i64 (Isl.kl i),
        Value.int IntKind.i64 (Isl.kh i), Value.int IntKind.i64 (Isl.ll i), Value.int IntKind.i64 (Isl.lh i),
        Value.int IntKind.i64 (Isl.pump i), Value.int IntKind.i64 (Isl.keep i), Value.int IntKind.i64 (Isl.size i), W,
        M, Value.int IntKind.i64 (Isl.most i), Value.int IntKind.i64 (Isl.row i)]]
  [] 2 (Value.bool false) [] 2 []]⟩ := by kernel_rfl
set_option maxRecDepth 100000 in
theorem lplays_sized (B : Lo) (i : Isl) (t : Tru) (tanks : Int) (W M D R N : Value) : ended (srun Tryz.prog goFns B 10 0 (entryC Tryz.prog 4 76 [.agg (islC i W M), .int .i64 tanks, .agg (truC t D R N)]) [] 0
    [(4, Hint.call [] (Value.bool true) [] 2 []),
(8, Hint.call [] (Value.bool false) [] 2 []),
(11, Hint.call [] (Value.bool true) [] 2 [])] 0 [] []) [] = some ⟨.ret (.bool true), [], 2,
    [CJ Tryz.prog B 11 #[] [] 2 (Value.bool true) [] 2 [],
CJ Tryz.prog B 19
  #[Value.agg
      #[Value.int IntKind.i64 (Tru.start t), Value.int IntKind.i64 (Tru.soak t), Value.int IntKind.i64 (Tru.leak t), D,
        R, N]]
  [] 2 (Value.bool false) [] 2 [],
CJ Tryz.prog B 18
  #[Value.agg
      #[Value.int IntKind.i64 (Isl.cap i), Value.int IntKind.i64 (Isl.sl i), Value.int IntKind.i64 (Isl.sh i),
        Value.int IntKind.i64 (Isl.roof i), Value.int IntKind.i64 (Isl.sand i), Value.int IntKind.i64 (Isl.kl i),
        Value.int IntKind.i64 (Isl.kh i), Value.int IntKind.i64 (Isl.ll i), Value.int IntKind.i64 (Isl.lh i),
        Value.int IntKind.i64 (Isl.pump i), Value.int IntKind.i64 (Isl.keep i), Value.int IntKind.i64 (Isl.size i), W,
        M, Value.int IntKind.i64 (Isl.most i), Value.int IntKind.i64 (Isl.row i)]]
  [] 2 (Value.bool true) [] 2 []]⟩ := by kernel_rfl
set_option maxRecDepth 100000 in
theorem lplays_asked (B : Lo) (i : Isl) (t : Tru) (tanks : Int) (W M D R N : Value) : ended (srun Tryz.prog goFns B 17 0 (entryC Tryz.prog 4 76 [.agg (islC i W M), .int .i64 tanks, .agg (truC t D R N)]) [] 0
    [(4, Hint.call [] (Value.bool true) [] 2 []),
(8, Hint.call [] (Value.bool true) [] 2 []),
(14, Hint.call [] (Value.tuple #[Value.slice none 0 0, ledV 0 0 0 0 0 0, Value.int IntKind.i64 2]) [] 2 []),
(25, Hint.call [] (Value.bool false) [] 3 []),
(46, Hint.call [] (Value.bool true) [] 3 [])] 0 [] []) [] = some ⟨.ret (.bool true), [], 3,
    [CJ Tryz.prog B 11 #[] [] 3 (Value.bool true) [] 3 [],
CJ Tryz.prog B 15
  #[Value.agg
      #[Value.int IntKind.i64 (Isl.cap i), Value.int IntKind.i64 (Isl.sl i), Value.int IntKind.i64 (Isl.sh i),
        Value.int IntKind.i64 (Isl.roof i), Value.int IntKind.i64 (Isl.sand i), Value.int IntKind.i64 (Isl.kl i),
        Value.int IntKind.i64 (Isl.kh i), Value.int IntKind.i64 (Isl.ll i), Value.int IntKind.i64 (Isl.lh i),
        Value.int IntKind.i64 (Isl.pump i), Value.int IntKind.i64 (Isl.keep i), Value.int IntKind.i64 (Isl.size i), W,
        M, Value.int IntKind.i64 (Isl.most i), Value.int IntKind.i64 (Isl.row i)],
    Value.int IntKind.i64 tanks]
  [] 3 (Value.bool false) [] 3 [],
CJ Tryz.prog B 20
  #[Value.agg
      #[Value.int IntKind.i64 (Isl.cap i), Value.int IntKind.i64 (Isl.sl i), Value.int IntKind.i64 (Isl.sh i),
        Value.int IntKind.i64 (Isl.roof i), Value.int IntKind.i64 (Isl.sand i), Value.int IntKind.i64 (Isl.kl i),
        Value.int IntKind.i64 (Isl.kh i), Value.int IntKind.i64 (Isl.ll i), Value.int IntKind.i64 (Isl.lh i),
        Value.int IntKind.i64 (Isl.pump i), Value.int IntKind.i64 (Isl.keep i), Value.int IntKind.i64 (Isl.size i), W,
        M, Value.int IntKind.i64 (Isl.most i), Value.int IntKind.i64 (Isl.row i)],
    Value.int IntKind.i64 tanks,
    Value.agg
      #[Value.int IntKind.i64 (Tru.start t), Value.int IntKind.i64 (Tru.soak t), Value.int IntKind.i64 (Tru.leak t), D,
        R, N]]
  [] 2 (Value.tuple #[Value.slice none 0 0, ledV 0 0 0 0 0 0, Value.int IntKind.i64 2]) [] 2 [],
CJ Tryz.prog B 19
  #[Value.agg
      #[Value.int IntKind.i64 (Tru.start t), Value.int IntKind.i64 (Tru.soak t), Value.int IntKind.i64 (Tru.leak t), D,
        R, N]]
  [] 2 (Value.bool true) [] 2 [],
CJ Tryz.prog B 18
  #[Value.agg
      #[Value.int IntKind.i64 (Isl.cap i), Value.int IntKind.i64 (Isl.sl i), Value.int IntKind.i64 (Isl.sh i),
        Value.int IntKind.i64 (Isl.roof i), Value.int IntKind.i64 (Isl.sand i), Value.int IntKind.i64 (Isl.kl i),
        Value.int IntKind.i64 (Isl.kh i), Value.int IntKind.i64 (Isl.ll i), Value.int IntKind.i64 (Isl.lh i),
        Value.int IntKind.i64 (Isl.pump i), Value.int IntKind.i64 (Isl.keep i), Value.int IntKind.i64 (Isl.size i), W,
        M, Value.int IntKind.i64 (Isl.most i), Value.int IntKind.i64 (Isl.row i)]]
  [] 2 (Value.bool true) [] 2 []]⟩ := by kernel_rfl
set_option maxRecDepth 100000 in
theorem lplays_truth (B : Lo) (i : Isl) (t : Tru) (tanks : Int) (W M D R N : Value) : ended (srun Tryz.prog goFns B 17 0 (entryC Tryz.prog 4 76 [.agg (islC i W M), .int .i64 tanks, .agg (truC t D R N)]) [] 0
    [(4, Hint.call [] (Value.bool true) [] 2 []),
(8, Hint.call [] (Value.bool true) [] 2 []),
(14, Hint.call [] (Value.tuple #[Value.slice none 0 0, ledV 0 0 0 0 0 0, Value.int IntKind.i64 2]) [] 2 []),
(25, Hint.call [] (Value.bool true) [] 3 []),
(30, Hint.call [] (Value.bool false) [] 3 []),
(46, Hint.call [] (Value.bool true) [] 3 [])] 0 [] []) [] = some ⟨.ret (.bool true), [], 3,
    [CJ Tryz.prog B 11 #[] [] 3 (Value.bool true) [] 3 [],
CJ Tryz.prog B 21
  #[Value.agg
      #[Value.int IntKind.i64 (Isl.cap i), Value.int IntKind.i64 (Isl.sl i), Value.int IntKind.i64 (Isl.sh i),
        Value.int IntKind.i64 (Isl.roof i), Value.int IntKind.i64 (Isl.sand i), Value.int IntKind.i64 (Isl.kl i),
        Value.int IntKind.i64 (Isl.kh i), Value.int IntKind.i64 (Isl.ll i), Value.int IntKind.i64 (Isl.lh i),
        Value.int IntKind.i64 (Isl.pump i), Value.int IntKind.i64 (Isl.keep i), Value.int IntKind.i64 (Isl.size i), W,
        M, Value.int IntKind.i64 (Isl.most i), Value.int IntKind.i64 (Isl.row i)],
    Value.agg
      #[Value.int IntKind.i64 (Tru.start t), Value.int IntKind.i64 (Tru.soak t), Value.int IntKind.i64 (Tru.leak t), D,
        R, N]]
  [] 3 (Value.bool false) [] 3 [],
CJ Tryz.prog B 15
  #[Value.agg
      #[Value.int IntKind.i64 (Isl.cap i), Value.int IntKind.i64 (Isl.sl i), Value.int IntKind.i64 (Isl.sh i),
        Value.int IntKind.i64 (Isl.roof i), Value.int IntKind.i64 (Isl.sand i), Value.int IntKind.i64 (Isl.kl i),
        Value.int IntKind.i64 (Isl.kh i), Value.int IntKind.i64 (Isl.ll i), Value.int IntKind.i64 (Isl.lh i),
        Value.int IntKind.i64 (Isl.pump i), Value.int IntKind.i64 (Isl.keep i), Value.int IntKind.i64 (Isl.size i), W,
        M, Value.int IntKind.i64 (Isl.most i), Value.int IntKind.i64 (Isl.row i)],
    Value.int IntKind.i64 tanks]
  [] 3 (Value.bool true) [] 3 [],
CJ Tryz.prog B 20
  #[Value.agg
      #[Value.int IntKind.i64 (Isl.cap i), Value.int IntKind.i64 (Isl.sl i), Value.int IntKind.i64 (Isl.sh i),
        Value.int IntKind.i64 (Isl.roof i), Value.int IntKind.i64 (Isl.sand i), Value.int IntKind.i64 (Isl.kl i),
        Value.int IntKind.i64 (Isl.kh i), Value.int IntKind.i64 (Isl.ll i), Value.int IntKind.i64 (Isl.lh i),
        Value.int IntKind.i64 (Isl.pump i), Value.int IntKind.i64 (Isl.keep i), Value.int IntKind.i64 (Isl.size i), W,
        M, Value.int IntKind.i64 (Isl.most i), Value.int IntKind.i64 (Isl.row i)],
    Value.int IntKind.i64 tanks,
    Value.agg
      #[Value.int IntKind.i64 (Tru.start t), Value.int IntKind.i64 (Tru.soak t), Value.int IntKind.i64 (Tru.leak t), D,
        R, N]]
  [] 2 (Value.tuple #[Value.slice none 0 0, ledV 0 0 0 0 0 0, Value.int IntKind.i64 2]) [] 2 [],
CJ Tryz.prog B 19
  #[Value.agg
      #[Value.int IntKind.i64 (Tru.start t), Value.int IntKind.i64 (Tru.soak t), Value.int IntKind.i64 (Tru.leak t), D,
        R, N]]
  [] 2 (Value.bool true) [] 2 [],
CJ Tryz.prog B 18
  #[Value.agg
      #[Value.int IntKind.i64 (Isl.cap i), Value.int IntKind.i64 (Isl.sl i), Value.int IntKind.i64 (Isl.sh i),
        Value.int IntKind.i64 (Isl.roof i), Value.int IntKind.i64 (Isl.sand i), Value.int IntKind.i64 (Isl.kl i),
        Value.int IntKind.i64 (Isl.kh i), Value.int IntKind.i64 (Isl.ll i), Value.int IntKind.i64 (Isl.lh i),
        Value.int IntKind.i64 (Isl.pump i), Value.int IntKind.i64 (Isl.keep i), Value.int IntKind.i64 (Isl.size i), W,
        M, Value.int IntKind.i64 (Isl.most i), Value.int IntKind.i64 (Isl.row i)]]
  [] 2 (Value.bool true) [] 2 []]⟩ := by kernel_rfl
set_option maxRecDepth 100000 in
theorem lplays_fine (B : Lo) (i : Isl) (t : Tru) (tanks : Int) (W M D R N : Value) (l0 l1 l2 l3 l4 l5 : Int) (n : Nat) (A : Array Value) : ended (srun Tryz.prog goFns B 20 0 (entryC Tryz.prog 4 76 [.agg (islC i W M), .int .i64 tanks, .agg (truC t D R N)]) [] 0
    [(4, Hint.call [] (Value.bool true) [] 2 []),
(8, Hint.call [] (Value.bool true) [] 2 []),
(14, Hint.call []
  (Value.tuple #[Value.slice (some { block := 2, off := 0 }) n 0, ledV l0 l1 l2 l3 l4 l5, Value.int IntKind.i64 0])
  [(2, Obj.cells A 53 (1, 1))] 3 []),
(25, Hint.call [] (Value.bool true) [] 4 []),
(30, Hint.call [] (Value.bool true) [] 4 []),
(36, Hint.call [] (Value.tuple #[Value.slice (some { block := 4, off := 0 }) n 0, ledV l0 l1 l2 l3 l4 l5])
  [(4, Obj.cells A 53 (1, 1))] 5 []),
(48, Hint.call [2, 4] (Value.bool true) [] 6 []),
(53, Hint.eq true),
(56, Hint.call [] (Value.bool true) [] 6 [])] 0 [] []) [] = some ⟨.ret (.bool true), [], 6,
    [CJ Tryz.prog B 11 #[] [] 6 (Value.bool true) [] 6 [],
(eqq l0 l0 && (eqq l1 l1 && (eqq l2 l2 && (eqq l3 l3 && (eqq l4 l4 && (eqq l5 l5 && true)))))) = true,
CJ Tryz.prog B 23 #[Value.slice (some { block := 2, off := 0 }) n 0, Value.slice (some { block := 4, off := 0 }) n 0]
  [(2, some (Obj.cells A 53 (1, 1))), (4, some (Obj.cells A 53 (1, 1)))] 6 (Value.bool true) [] 6 [],
CJ Tryz.prog B 22
  #[Value.agg
      #[Value.int IntKind.i64 (Isl.cap i), Value.int IntKind.i64 (Isl.sl i), Value.int IntKind.i64 (Isl.sh i),
        Value.int IntKind.i64 (Isl.roof i), Value.int IntKind.i64 (Isl.sand i), Value.int IntKind.i64 (Isl.kl i),
        Value.int IntKind.i64 (Isl.kh i), Value.int IntKind.i64 (Isl.ll i), Value.int IntKind.i64 (Isl.lh i),
        Value.int IntKind.i64 (Isl.pump i), Value.int IntKind.i64 (Isl.keep i), Value.int IntKind.i64 (Isl.size i), W,
        M, Value.int IntKind.i64 (Isl.most i), Value.int IntKind.i64 (Isl.row i)],
    Value.int IntKind.i64 tanks,
    Value.agg
      #[Value.int IntKind.i64 (Tru.start t), Value.int IntKind.i64 (Tru.soak t), Value.int IntKind.i64 (Tru.leak t), D,
        R, N]]
  [] 4 (Value.tuple #[Value.slice (some { block := 4, off := 0 }) n 0, ledV l0 l1 l2 l3 l4 l5])
  [(4, Obj.cells A 53 (1, 1))] 5 [],
CJ Tryz.prog B 21
  #[Value.agg
      #[Value.int IntKind.i64 (Isl.cap i), Value.int IntKind.i64 (Isl.sl i), Value.int IntKind.i64 (Isl.sh i),
        Value.int IntKind.i64 (Isl.roof i), Value.int IntKind.i64 (Isl.sand i), Value.int IntKind.i64 (Isl.kl i),
        Value.int IntKind.i64 (Isl.kh i), Value.int IntKind.i64 (Isl.ll i), Value.int IntKind.i64 (Isl.lh i),
        Value.int IntKind.i64 (Isl.pump i), Value.int IntKind.i64 (Isl.keep i), Value.int IntKind.i64 (Isl.size i), W,
        M, Value.int IntKind.i64 (Isl.most i), Value.int IntKind.i64 (Isl.row i)],
    Value.agg
      #[Value.int IntKind.i64 (Tru.start t), Value.int IntKind.i64 (Tru.soak t), Value.int IntKind.i64 (Tru.leak t), D,
        R, N]]
  [] 4 (Value.bool true) [] 4 [],
CJ Tryz.prog B 15
  #[Value.agg
      #[Value.int IntKind.i64 (Isl.cap i), Value.int IntKind.i64 (Isl.sl i), Value.int IntKind.i64 (Isl.sh i),
        Value.int IntKind.i64 (Isl.roof i), Value.int IntKind.i64 (Isl.sand i), Value.int IntKind.i64 (Isl.kl i),
        Value.int IntKind.i64 (Isl.kh i), Value.int IntKind.i64 (Isl.ll i), Value.int IntKind.i64 (Isl.lh i),
        Value.int IntKind.i64 (Isl.pump i), Value.int IntKind.i64 (Isl.keep i), Value.int IntKind.i64 (Isl.size i), W,
        M, Value.int IntKind.i64 (Isl.most i), Value.int IntKind.i64 (Isl.row i)],
    Value.int IntKind.i64 tanks]
  [] 4 (Value.bool true) [] 4 [],
CJ Tryz.prog B 20
  #[Value.agg
      #[Value.int IntKind.i64 (Isl.cap i), Value.int IntKind.i64 (Isl.sl i), Value.int IntKind.i64 (Isl.sh i),
        Value.int IntKind.i64 (Isl.roof i), Value.int IntKind.i64 (Isl.sand i), Value.int IntKind.i64 (Isl.kl i),
        Value.int IntKind.i64 (Isl.kh i), Value.int IntKind.i64 (Isl.ll i), Value.int IntKind.i64 (Isl.lh i),
        Value.int IntKind.i64 (Isl.pump i), Value.int IntKind.i64 (Isl.keep i), Value.int IntKind.i64 (Isl.size i), W,
        M, Value.int IntKind.i64 (Isl.most i), Value.int IntKind.i64 (Isl.row i)],
    Value.int IntKind.i64 tanks,
    Value.agg
      #[Value.int IntKind.i64 (Tru.start t), Value.int IntKind.i64 (Tru.soak t), Value.int IntKind.i64 (Tru.leak t), D,
        R, N]]
  [] 2 (Value.tuple #[Value.slice (some { block := 2, off := 0 }) n 0, ledV l0 l1 l2 l3 l4 l5, Value.int IntKind.i64 0])
  [(2, Obj.cells A 53 (1, 1))] 3 [],
CJ Tryz.prog B 19
  #[Value.agg
      #[Value.int IntKind.i64 (Tru.start t), Value.int IntKind.i64 (Tru.soak t), Value.int IntKind.i64 (Tru.leak t), D,
        R, N]]
  [] 2 (Value.bool true) [] 2 [],
CJ Tryz.prog B 18
  #[Value.agg
      #[Value.int IntKind.i64 (Isl.cap i), Value.int IntKind.i64 (Isl.sl i), Value.int IntKind.i64 (Isl.sh i),
        Value.int IntKind.i64 (Isl.roof i), Value.int IntKind.i64 (Isl.sand i), Value.int IntKind.i64 (Isl.kl i),
        Value.int IntKind.i64 (Isl.kh i), Value.int IntKind.i64 (Isl.ll i), Value.int IntKind.i64 (Isl.lh i),
        Value.int IntKind.i64 (Isl.pump i), Value.int IntKind.i64 (Isl.keep i), Value.int IntKind.i64 (Isl.size i), W,
        M, Value.int IntKind.i64 (Isl.most i), Value.int IntKind.i64 (Isl.row i)]]
  [] 2 (Value.bool true) [] 2 []]⟩ := by kernel_rfl
theorem law_ret {B : Lo} {f : FuncId} {len : Nat} {w : World} {i : Isl} {wa : Option Addr} {wc : Nat} {ma : Option Addr} {mc : Nat} {tanks : Int} {t : Tru} {da : Option Addr} {dc : Nat} {ra : Option Addr} {rc : Nat} {na : Option Addr} {nc : Nat} {fuel n' : Nat} {sc : Script} {L : List Prop}
    (hc : enterC Tryz.prog f #[islR i wa wc ma mc, .int .i64 tanks, truR t da dc ra rc na nc] = some (entryC Tryz.prog f len [islR i wa wc ma mc, .int .i64 tanks, truR t da dc ra rc na nc]))
    (e : ended (srun Tryz.prog goFns B fuel 0 (entryC Tryz.prog f len [islR i wa wc ma mc, .int .i64 tanks, truR t da dc ra rc na nc]) [] 0 sc 0 [] []) [] = some ⟨.ret (.bool true), [], n', L⟩) (hL : AllP L) (hB : B.has w) :
    Calls Tryz.prog f #[islV i wa wc ma mc, .int .i64 tanks, truV t da dc ra rc na nc] w fun e' w' => e' = .returned (.bool true) ∧ Below w.heap.size w w' :=
  ((GoE.refl under_nil).calls goFns_ok mixed_ok hc e hL hB (VRl.vrs' ex_it.vrl)).mono fun _ _ ⟨v', _, he, hv, hb, _⟩ => ⟨by rw [he, af_eq (v := .bool true) rfl hv], hb⟩
theorem plays_walk : Walk3 4 := by
  intro i wa wc ma mc tanks t da dc ra rc na nc w hi ht hp
  have hB := worldLo_has w
  cases hs : shortB i with
  | false => exact law_ret (by kernel_rfl) (lplays_short (worldLo w) i t tanks _ _ _ _ _) ⟨con_known hp, hs ▸ con_short, trivial⟩ hB
  | true =>
    cases hz : sizedB t with
    | false => exact law_ret (by kernel_rfl) (lplays_sized (worldLo w) i t tanks _ _ _ _ _) ⟨con_known hp, hz ▸ con_sized, hs ▸ con_short, trivial⟩ hB
    | true =>
      cases ha : (islB i && tanksB tanks) with
      | false => exact law_ret (by kernel_rfl) (lplays_asked (worldLo w) i t tanks _ _ _ _ _) ⟨con_known hp, ha ▸ con_asked hi, con_playNo hi ht (by rw [ha]; rfl), hz ▸ con_sized, hs ▸ con_short, trivial⟩ hB
      | true =>
        have hmr : 0 ≤ i.most ∧ 0 ≤ i.row ∧ 1 ≤ i.nm := by
          have := ha
          simp only [islB, monthsB, Bool.and_eq_true, isInB_iff] at this
          exact ⟨this.1.1.2.1, this.1.2.1, by omega⟩
        cases htr : truB i t with
        | false => exact law_ret (by kernel_rfl) (lplays_truth (worldLo w) i t tanks _ _ _ _ _) ⟨con_known hp, htr ▸ con_truth hi ht hmr.1 hmr.2.1, ha ▸ con_asked hi, con_playNo hi ht (by rw [ha, htr]; rfl), hz ▸ con_sized, hs ▸ con_short, trivial⟩ hB
        | true =>
          have ha' := ha
          simp only [Bool.and_eq_true] at ha'
          exact law_ret (by kernel_rfl) (lplays_fine (worldLo w) i t tanks _ _ _ _ _ _ _ _ _ _ _ i.nm (rowA (seenE i tanks t) i.nm))
            ⟨con_known hp, by simp [eqq_eq], con_sameSeen hi.nm (by omega) (by omega), con_run ht (fit_of ha'.1 ha'.2 htr) hmr.2.2, htr ▸ con_truth hi ht hmr.1 hmr.2.1, ha ▸ con_asked hi, con_play hi ht ha'.1 ha'.2 htr, hz ▸ con_sized, hs ▸ con_short, trivial⟩ hB
end Go.Proofs.YtffdidleebognaaGreatDoor

