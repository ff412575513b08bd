/- Contracts of layer 1, as runs use them. -/
import Derived.Test.YtffdidleebognaaDoorZR12
import Derived.Test.YtffdidleebognaaDoorZR14
import Derived.Test.YtffdidleebognaaDoorZR20
import Derived.Test.YtffdidleebognaaDoorZR22
import Derived.Test.YtffdidleebognaaDoorZR28
import Derived.Test.YtffdidleebognaaDoorZR29
import Derived.Test.YtffdidleebognaaDoorZR33
import Derived.Test.YtffdidleebognaaDoorZR42
import Derived.Test.YtffdidleebognaaDoorZR08
import Derived.Test.YtffdidleebognaaDoorZR07
namespace Go.Proofs.YtffdidleebognaaDoor
open Go Go.CE Go.RowKit Lens
theorem atN_of_or {α : Type} {sz : Nat} {enc : α → Nat → Value} {μ : Mu} {w : World} {im : Img} {f : Nat → α} {e : Nat → List Value} {n : Nat} {t : TypeId} {fz : Nat × Nat} (h : OR μ w im (.cells (rowA e n) t fz)) (hlt : im.blk < w.heap.size)
    (hlen : ∀ k, (e k).length = sz) (he : ∀ k j, j < sz → (e k)[j]? = some (enc (f k) j) ∧ af (enc (f k) j) = true) : AtN sz enc w w.heap.size (some ⟨im.blk, im.off, none⟩) n f := by
  intro _
  refine ⟨im.blk, im.off, rfl, hlt, fun k hk j hj => ?_⟩
  have hv := (rowA_get hlen hj n k hk).trans (he k j hj).1
  obtain ⟨v', h1, h2⟩ := h.cell hv
  rw [Nat.add_assoc, h1, af_eq (he k j hj).2 h2]
section
variable {i : Isl} {wa : Option Addr} {wc : Nat} {ma : Option Addr} {mc : Nat} {tanks : Int} {t : Tru} {da : Option Addr} {dc : Nat} {ra : Option Addr} {rc : Nat} {na : Option Addr} {nc : Nat} {w : World} {n : Nat}
abbrev islR (i : Isl) (wa : Option Addr) (wc : Nat) (ma : Option Addr) (mc : Nat) : Value := .agg (islC i (rawS wa i.nw wc) (rawS ma i.nm mc))
theorem con_short : CJ Tryd.prog (worldLo w) 4 #[islR i wa wc ma mc] [] n (.bool (shortB i)) [] n [] :=
  con_of (.cons (exact_isl _ _ _ _ _) .nil) (exact_af rfl) fun w' _ => short_any i wa wc ma mc w'
theorem con_asked (hi : IslAt w w.heap.size i wa ma) : CJ Tryd.prog (worldLo w) 5 #[islR i wa wc ma mc, .int .i64 tanks] [] n (.bool (islB i && tanksB tanks)) [] n [] :=
  con_of (.cons (exact_isl _ _ _ _ _) (.cons (exact_af rfl) .nil)) (exact_af rfl) fun w' hw => asked_any i wa wc ma mc tanks w' (islAt_lo hi hw)
def seenE (i : Isl) (tanks : Int) (t : Tru) (k : Nat) : List Value := [.int .i64 (runTo i tanks t (k + 1)).tanks, .int .i64 (runTo i tanks t (k + 1)).lens, .int .i64 (runTo i tanks t (k + 1)).lack]
theorem seenE_af : ∀ v ∈ rowA (seenE i tanks t) n, af v = true := rowA_mem n fun j _ v hv => by
  simp only [seenE, List.mem_cons, List.not_mem_nil, or_false] at hv
  rcases hv with rfl | rfl | rfl <;> rfl
theorem seenE_get (k j : Nat) (hj : j < 3) : (seenE i tanks t k)[j]? = some (encSeen (seenOf (runTo i tanks t (k + 1))) j) ∧ af (encSeen (seenOf (runTo i tanks t (k + 1))) j) = true := by
  match j, hj with
  | 0, _ => exact ⟨rfl, rfl⟩
  | 1, _ => exact ⟨rfl, rfl⟩
  | 2, _ => exact ⟨rfl, rfl⟩
theorem seens_cells {w' : World} {g : Nat} (h : SeensAt w' w'.heap.size (some ⟨g, 0, none⟩) n (fun k => seenOf (runTo i tanks t (k + 1)))) : ∀ (j : Nat) v, (rowA (seenE i tanks t) n)[j]? = some v → w'.cell? ⟨g, j, none⟩ = some v := by
  intro j v hv
  have hs := rowA_size (e := seenE i tanks t) (z := 3) (fun _ => rfl) n
  have hlt : j < n * 3 := by rw [← hs]; exact (Array.getElem?_eq_some_iff.1 hv).1
  obtain ⟨b, off, he, _, hc⟩ := h (by omega)
  cases he
  have hj := hc (j / 3) (by omega) (j % 3) (by omega)
  have hd : j / 3 * 3 + j % 3 = j := by omega
  have hg := rowA_get (e := seenE i tanks t) (z := 3) (fun _ => rfl) (show j % 3 < 3 by omega) n (j / 3) (by omega)
  rw [hd, hv] at hg
  rw [Nat.zero_add, hd] at hj
  rw [hj, hg, (seenE_get (j / 3) (j % 3) (by omega)).1]
theorem con_known (hp : CE.pow10Is w) : CJ Tryd.prog (worldLo w) 6 #[] [] n (.bool true) [] n [] :=
  con_of (l := []) (l' := []) .nil (exact_af rfl) fun _ hw => CE.known_true (CE.pow10_still (hw.inv 0 (CE.pow10_pos hp)) hp)
end
end Go.Proofs.YtffdidleebognaaDoor

namespace Lens
def lohi (much : Bool) (lo hi : Int) : Int := if much then hi else lo
/-- The truth of a drought in which water is scarcest, or in which there is most. -/
def endTru (i : Isl) (much : Bool) (nd : Nat) (d : Nat → Bool) : Tru :=
  { start := lohi much i.sl i.sh, soak := lohi much i.kl i.kh, leak := lohi (!much) i.ll i.lh, nd := nd, dry := d,
    nr := i.nm, rains := fun k => lohi much (rlo (i.months k) (d k)) (rhi (i.months k) (d k)), nn := i.nm, needs := fun k => lohi (!much) (i.months k).nl (i.months k).nh }
/-- The drought that a number's bits tell, the first month being the highest. -/
def bitsDry (n bits k : Nat) : Bool := bits.testBit (n - 1 - k)
end Lens

namespace Go.Proofs.YtffdidleebognaaDoor
open Go Go.CE Go.Proofs Go.RowKit Lens
def monC (m : Mon) : Array Value := #[.int .i64 m.wl, .int .i64 m.wh, .int .i64 m.dl, .int .i64 m.dh, .int .i64 m.nl, .int .i64 m.nh]
def extO (i : Isl) (W : Value) (mb mo ms : Nat) (a b c : Int) (A : Array Value) (nd : Nat) (R N : Value) : List (Bool × Obj) :=
  [(false, .cells A 4 (0, 0)), (false, .cells (islC i W (.slice (some ⟨mb, mo, some 0⟩) i.nm ms)) 27 (0, 0)),
   (true, .cells #[.int .i64 0, .int .i64 0, .int .i64 0, .slice none 0 0, .slice none 0 0, .slice none 0 0] 48 (0, 0)),
   (true, .cells #[.int .i64 a, .int .i64 b, .int .i64 c, .slice (some ⟨0, 0, none⟩) nd 1, R, N] 48 (0, 0))]
def extL (nd : Nat) (c g : Value) (mb mo ms nm k : Nat) : List (Nat × Value) :=
  [(1, .slice (some ⟨0, 0, none⟩) nd 1), (2, c), (3, g), (4, .pointer (some ⟨1, 0, none⟩)), (8, .pointer (some ⟨2, 0, none⟩)), (9, .pointer (some ⟨3, 0, none⟩)), (27, .slice (some ⟨mb, mo, some 0⟩) nm ms), (28, .int .i64 nm), (29, .int .i64 k)]
def extT : List It := [.code [1, 1, 0, 1, 0, 0], .inLoop [1, 1, 0, 1, 0, 0], .inBlock 0, .code [1, 1, 1]]
set_option maxRecDepth 100000 in
theorem lext_entry (B : Lo) (i : Isl) (W : Value) (mb mo ms nd : Nat) (A : Array Value) : landB (srun Tryd.prog goFns B 9 1 (entryC Tryd.prog 56 58 [.agg (islC i W (.slice (some ⟨mb, mo, some 0⟩) i.nm ms)), .slice (some ⟨0, 0, none⟩) nd 1, .func (.func 57) #[] #[], .func (.func 58) #[] #[]]) (heapO 0 [(false, .cells A 4 (0, 0))]) 1
    [(5, Hint.call [] (Value.int IntKind.i64 (Isl.sl i)) [] 3 []),
(9, Hint.call [] (Value.int IntKind.i64 (Isl.kl i)) [] 3 []),
(13, Hint.call [] (Value.int IntKind.i64 (Isl.lh i)) [] 3 [])] 0 [] []) ((extL nd (.func (.func 57) #[] #[]) (.func (.func 58) #[] #[]) mb mo ms i.nm 0).map (·.1)) ((kz [0, 1, 2, 3] (extO i W mb mo ms i.sl i.kl i.lh A nd (.slice none 0 0) (.slice none 0 0))).map (·.old)) = some (⟨56, 58, extT.map (it (bodyOf Tryd.prog 56)), [], .run, none, (extL nd (.func (.func 57) #[] #[]) (.func (.func 58) #[] #[]) mb mo ms i.nm 0).map (fun p => rnV (rhoK (kz [0, 1, 2, 3] (extO i W mb mo ms i.sl i.kl i.lh A nd (.slice none 0 0) (.slice none 0 0)))) 3 p.2), (kz [0, 1, 2, 3] (extO i W mb mo ms i.sl i.kl i.lh A nd (.slice none 0 0) (.slice none 0 0))).map (fun kept_ => some (wasK (rhoK (kz [0, 1, 2, 3] (extO i W mb mo ms i.sl i.kl i.lh A nd (.slice none 0 0) (.slice none 0 0)))) kept_)), 4,
    [CJ Tryd.prog B 58 #[Value.agg #[Value.int IntKind.i64 (Isl.ll i), Value.int IntKind.i64 (Isl.lh i)]] [] 3
  (Value.int IntKind.i64 (Isl.lh i)) [] 3 [],
CJ Tryd.prog B 57 #[Value.agg #[Value.int IntKind.i64 (Isl.kl i), Value.int IntKind.i64 (Isl.kh i)]] [] 3
  (Value.int IntKind.i64 (Isl.kl i)) [] 3 [],
CJ Tryd.prog B 57 #[Value.agg #[Value.int IntKind.i64 (Isl.sl i), Value.int IntKind.i64 (Isl.sh i)]] [] 3
  (Value.int IntKind.i64 (Isl.sl i)) [] 3 []]⟩, []) := by kernel_rfl
set_option maxRecDepth 100000 in
theorem lext_first (B : Lo) (i : Isl) (W : Value) (mb mo ms nd : Nat) (A : Array Value) (a b c : Int) (m : Mon) (y : Bool) (r0 r1 : Int) (d : Nat → Value) : landB (srun Tryd.prog goFns B 15 1 (headC 56 58 (extL nd (.func (.func 57) #[] #[]) (.func (.func 58) #[] #[]) mb mo ms i.nm 0) d (extT.map (it (bodyOf Tryd.prog 56)))) (heapO 0 (extO i W mb mo ms a b c A nd (.slice none 0 0) (.slice none 0 0))) ((extO i W mb mo ms a b c A nd (.slice none 0 0) (.slice none 0 0))).length
    [(0, Hint.val (Value.bool true)),
(2, Hint.idx 0),
(3, Hint.raw
  (Value.agg
    #[Value.int IntKind.i64 (Mon.wl m), Value.int IntKind.i64 (Mon.wh m), Value.int IntKind.i64 (Mon.dl m),
      Value.int IntKind.i64 (Mon.dh m), Value.int IntKind.i64 (Mon.nl m), Value.int IntKind.i64 (Mon.nh m)])),
(13, Hint.idx 0),
(14, Hint.ld (Value.bool y)),
(15, Hint.call [] (Value.agg #[Value.int IntKind.i64 r0, Value.int IntKind.i64 r1]) [] 5 []),
(16, Hint.call [] (Value.int IntKind.i64 r0) [] 5 []),
(26, Hint.call [] (Value.int IntKind.i64 (Mon.nh m)) [] 7 [])] 0 [] []) ((extL nd (.func (.func 57) #[] #[]) (.func (.func 58) #[] #[]) mb mo ms i.nm 1).map (·.1)) ((kz [0, 1, 2, 3, 6, 8] (extO i W mb mo ms a b c A nd (.slice (some ⟨4, 0, none⟩) 1 1) (.slice (some ⟨5, 0, none⟩) 1 1) ++ [(false, Obj.cells #[.int .i64 r0] 3 (0, 0)), (false, Obj.cells #[.int .i64 m.nh] 3 (0, 0))])).map (·.old)) = some (⟨56, 58, extT.map (it (bodyOf Tryd.prog 56)), [], .run, none, (extL nd (.func (.func 57) #[] #[]) (.func (.func 58) #[] #[]) mb mo ms i.nm 1).map (fun p => rnV (rhoK (kz [0, 1, 2, 3, 6, 8] (extO i W mb mo ms a b c A nd (.slice (some ⟨4, 0, none⟩) 1 1) (.slice (some ⟨5, 0, none⟩) 1 1) ++ [(false, Obj.cells #[.int .i64 r0] 3 (0, 0)), (false, Obj.cells #[.int .i64 m.nh] 3 (0, 0))]))) 3 p.2), (kz [0, 1, 2, 3, 6, 8] (extO i W mb mo ms a b c A nd (.slice (some ⟨4, 0, none⟩) 1 1) (.slice (some ⟨5, 0, none⟩) 1 1) ++ [(false, Obj.cells #[.int .i64 r0] 3 (0, 0)), (false, Obj.cells #[.int .i64 m.nh] 3 (0, 0))])).map (fun kept_ => some (wasK (rhoK (kz [0, 1, 2, 3, 6, 8] (extO i W mb mo ms a b c A nd (.slice (some ⟨4, 0, none⟩) 1 1) (.slice (some ⟨5, 0, none⟩) 1 1) ++ [(false, Obj.cells #[.int .i64 r0] 3 (0, 0)), (false, Obj.cells #[.int .i64 m.nh] 3 (0, 0))]))) kept_)), 9,
    [CJ Tryd.prog B 58 #[Value.agg #[Value.int IntKind.i64 (Mon.nl m), Value.int IntKind.i64 (Mon.nh m)]] [] 7
  (Value.int IntKind.i64 (Mon.nh m)) [] 7 [],
CJ Tryd.prog B 57 #[Value.agg #[Value.int IntKind.i64 r0, Value.int IntKind.i64 r1]] [] 5 (Value.int IntKind.i64 r0) []
  5 [],
CJ Tryd.prog B 41
  #[Value.agg
      #[Value.int IntKind.i64 (Mon.wl m), Value.int IntKind.i64 (Mon.wh m), Value.int IntKind.i64 (Mon.dl m),
        Value.int IntKind.i64 (Mon.dh m), Value.int IntKind.i64 (Mon.nl m), Value.int IntKind.i64 (Mon.nh m)],
    Value.bool y]
  [] 5 (Value.agg #[Value.int IntKind.i64 r0, Value.int IntKind.i64 r1]) [] 5 [],
A[0]? = some (Value.bool y),
0 = (↑0 : Int) ∧ 0 < nd,
∀ (j : Nat) (u : Value),
  #[Value.int IntKind.i64 (Mon.wl m), Value.int IntKind.i64 (Mon.wh m), Value.int IntKind.i64 (Mon.dl m),
          Value.int IntKind.i64 (Mon.dh m), Value.int IntKind.i64 (Mon.nl m), Value.int IntKind.i64 (Mon.nh m)][j]? =
      some u →
    RawCell B mb (mo + 0 + j) u,
0 = (↑0 : Int) ∧ 0 < Isl.nm i,
ltq 0 (↑(Isl.nm i) : Int) = true]⟩, []) := by kernel_rfl
set_option maxRecDepth 100000 in
theorem lext_round (B : Lo) (i : Isl) (W : Value) (mb mo ms nd k : Nat) (A : Array Value) (a b c : Int) (m : Mon) (y : Bool) (r0 r1 : Int) (X Y : Array Value) (d : Nat → Value) : landB (srun Tryd.prog goFns B 15 1 (headC 56 58 (extL nd (.func (.func 57) #[] #[]) (.func (.func 58) #[] #[]) mb mo ms i.nm k) d (extT.map (it (bodyOf Tryd.prog 56)))) (heapO 0 (extO i W mb mo ms a b c A nd (.slice (some ⟨4, 0, none⟩) k 1) (.slice (some ⟨5, 0, none⟩) k 1) ++ [(false, Obj.cells X 3 (0, 0)), (false, Obj.cells Y 3 (0, 0))])) ((extO i W mb mo ms a b c A nd (.slice (some ⟨4, 0, none⟩) k 1) (.slice (some ⟨5, 0, none⟩) k 1) ++ [(false, Obj.cells X 3 (0, 0)), (false, Obj.cells Y 3 (0, 0))])).length
    [(0, Hint.val (Value.bool true)),
(2, Hint.idx k),
(3, Hint.raw
  (Value.agg
    #[Value.int IntKind.i64 (Mon.wl m), Value.int IntKind.i64 (Mon.wh m), Value.int IntKind.i64 (Mon.dl m),
      Value.int IntKind.i64 (Mon.dh m), Value.int IntKind.i64 (Mon.nl m), Value.int IntKind.i64 (Mon.nh m)])),
(13, Hint.idx k),
(14, Hint.ld (Value.bool y)),
(15, Hint.call [] (Value.agg #[Value.int IntKind.i64 r0, Value.int IntKind.i64 r1]) [] 7 []),
(16, Hint.call [] (Value.int IntKind.i64 r0) [] 7 []),
(18, Hint.app (X ++ #[Value.int IntKind.i64 r0])),
(26, Hint.call [] (Value.int IntKind.i64 (Mon.nh m)) [] 9 []),
(28, Hint.app (Y ++ #[Value.int IntKind.i64 (Mon.nh m)])),
(31, Hint.val (Value.int IntKind.i64 ((↑k : Int) + 1)))] 0 [] []) ((extL nd (.func (.func 57) #[] #[]) (.func (.func 58) #[] #[]) mb mo ms i.nm (k + 1)).map (·.1)) ((kz [0, 1, 2, 3, 8, 10] (extO i W mb mo ms a b c A nd (.slice (some ⟨4, 0, none⟩) (k + 1) 1) (.slice (some ⟨5, 0, none⟩) (k + 1) 1) ++ [(false, Obj.cells (X ++ #[.int .i64 r0]) 3 (0, 0)), (false, Obj.cells (Y ++ #[.int .i64 m.nh]) 3 (0, 0))])).map (·.old)) = some (⟨56, 58, extT.map (it (bodyOf Tryd.prog 56)), [], .run, none, (extL nd (.func (.func 57) #[] #[]) (.func (.func 58) #[] #[]) mb mo ms i.nm (k + 1)).map (fun p => rnV (rhoK (kz [0, 1, 2, 3, 8, 10] (extO i W mb mo ms a b c A nd (.slice (some ⟨4, 0, none⟩) (k + 1) 1) (.slice (some ⟨5, 0, none⟩) (k + 1) 1) ++ [(false, Obj.cells (X ++ #[.int .i64 r0]) 3 (0, 0)), (false, Obj.cells (Y ++ #[.int .i64 m.nh]) 3 (0, 0))]))) 3 p.2), (kz [0, 1, 2, 3, 8, 10] (extO i W mb mo ms a b c A nd (.slice (some ⟨4, 0, none⟩) (k + 1) 1) (.slice (some ⟨5, 0, none⟩) (k + 1) 1) ++ [(false, Obj.cells (X ++ #[.int .i64 r0]) 3 (0, 0)), (false, Obj.cells (Y ++ #[.int .i64 m.nh]) 3 (0, 0))])).map (fun kept_ => some (wasK (rhoK (kz [0, 1, 2, 3, 8, 10] (extO i W mb mo ms a b c A nd (.slice (some ⟨4, 0, none⟩) (k + 1) 1) (.slice (some ⟨5, 0, none⟩) (k + 1) 1) ++ [(false, Obj.cells (X ++ #[.int .i64 r0]) 3 (0, 0)), (false, Obj.cells (Y ++ #[.int .i64 m.nh]) 3 (0, 0))]))) kept_)), 11,
    [wq ((↑k : Int) + 1) = (↑k : Int) + 1,
Array.size Y = k * (0 + 1) ∧
  k + 1 ≤ maxLen ∧
    (k + 1) * TypeInfo.bytes Tryd.t3 ≤ 140737488355328 ∧
      Y ++ Array.extract #[Value.int IntKind.i64 (Mon.nh m)] 0 (0 + 1 * (0 + 1)) =
        Y ++ #[Value.int IntKind.i64 (Mon.nh m)],
CJ Tryd.prog B 58 #[Value.agg #[Value.int IntKind.i64 (Mon.nl m), Value.int IntKind.i64 (Mon.nh m)]] [] 9
  (Value.int IntKind.i64 (Mon.nh m)) [] 9 [],
Array.size X = k * (0 + 1) ∧
  k + 1 ≤ maxLen ∧
    (k + 1) * TypeInfo.bytes Tryd.t3 ≤ 140737488355328 ∧
      X ++ Array.extract #[Value.int IntKind.i64 r0] 0 (0 + 1 * (0 + 1)) = X ++ #[Value.int IntKind.i64 r0],
CJ Tryd.prog B 57 #[Value.agg #[Value.int IntKind.i64 r0, Value.int IntKind.i64 r1]] [] 7 (Value.int IntKind.i64 r0) []
  7 [],
CJ Tryd.prog B 41
  #[Value.agg
      #[Value.int IntKind.i64 (Mon.wl m), Value.int IntKind.i64 (Mon.wh m), Value.int IntKind.i64 (Mon.dl m),
        Value.int IntKind.i64 (Mon.dh m), Value.int IntKind.i64 (Mon.nl m), Value.int IntKind.i64 (Mon.nh m)],
    Value.bool y]
  [] 7 (Value.agg #[Value.int IntKind.i64 r0, Value.int IntKind.i64 r1]) [] 7 [],
A[0 + k * 1]? = some (Value.bool y),
(↑k : Int) = (↑k : Int) ∧ k < nd,
∀ (j : Nat) (u : Value),
  #[Value.int IntKind.i64 (Mon.wl m), Value.int IntKind.i64 (Mon.wh m), Value.int IntKind.i64 (Mon.dl m),
          Value.int IntKind.i64 (Mon.dh m), Value.int IntKind.i64 (Mon.nl m), Value.int IntKind.i64 (Mon.nh m)][j]? =
      some u →
    RawCell B mb (mo + k * 6 + j) u,
(↑k : Int) = (↑k : Int) ∧ k < Isl.nm i,
ltq (↑k : Int) (↑(Isl.nm i) : Int) = true]⟩, []) := by kernel_rfl
set_option maxRecDepth 100000 in
theorem lext_end (B : Lo) (i : Isl) (W : Value) (mb mo ms nd k : Nat) (A : Array Value) (a b c : Int) (X Y : Array Value) (d : Nat → Value) : endedB (srun Tryd.prog goFns B 9 1 (headC 56 58 (extL nd (.func (.func 57) #[] #[]) (.func (.func 58) #[] #[]) mb mo ms i.nm k) d (extT.map (it (bodyOf Tryd.prog 56)))) (heapO 0 (extO i W mb mo ms a b c A nd (.slice (some ⟨4, 0, none⟩) k 1) (.slice (some ⟨5, 0, none⟩) k 1) ++ [(false, Obj.cells X 3 (0, 0)), (false, Obj.cells Y 3 (0, 0))])) ((extO i W mb mo ms a b c A nd (.slice (some ⟨4, 0, none⟩) k 1) (.slice (some ⟨5, 0, none⟩) k 1) ++ [(false, Obj.cells X 3 (0, 0)), (false, Obj.cells Y 3 (0, 0))])).length
    [(0, Hint.val (Value.bool false))] 0 [] []) ((kz [0, 4, 5] [(false, .cells A 4 (0, 0)), (false, .cells X 3 (0, 0)), (false, .cells Y 3 (0, 0))]).map (·.old)) = some (⟨.ret (rnV (rhoK (kz [0, 4, 5] [(false, .cells A 4 (0, 0)), (false, .cells X 3 (0, 0)), (false, .cells Y 3 (0, 0))])) 3 (.agg #[.int .i64 a, .int .i64 b, .int .i64 c, .slice (some ⟨0, 0, none⟩) nd 1, .slice (some ⟨1, 0, none⟩) k 1, .slice (some ⟨2, 0, none⟩) k 1])), (kz [0, 4, 5] [(false, .cells A 4 (0, 0)), (false, .cells X 3 (0, 0)), (false, .cells Y 3 (0, 0))]).map (fun kept_ => some (wasK (rhoK (kz [0, 4, 5] [(false, .cells A 4 (0, 0)), (false, .cells X 3 (0, 0)), (false, .cells Y 3 (0, 0))])) kept_)), 6,
    [ltq (↑k : Int) (↑(Isl.nm i) : Int) = false]⟩, []) := by kernel_rfl
set_option maxRecDepth 100000 in
theorem hext_entry (B : Lo) (i : Isl) (W : Value) (mb mo ms nd : Nat) (A : Array Value) : landB (srun Tryd.prog goFns B 9 1 (entryC Tryd.prog 56 58 [.agg (islC i W (.slice (some ⟨mb, mo, some 0⟩) i.nm ms)), .slice (some ⟨0, 0, none⟩) nd 1, .func (.func 58) #[] #[], .func (.func 57) #[] #[]]) (heapO 0 [(false, .cells A 4 (0, 0))]) 1
    [(5, Hint.call [] (Value.int IntKind.i64 (Isl.sh i)) [] 3 []),
(9, Hint.call [] (Value.int IntKind.i64 (Isl.kh i)) [] 3 []),
(13, Hint.call [] (Value.int IntKind.i64 (Isl.ll i)) [] 3 [])] 0 [] []) ((extL nd (.func (.func 58) #[] #[]) (.func (.func 57) #[] #[]) mb mo ms i.nm 0).map (·.1)) ((kz [0, 1, 2, 3] (extO i W mb mo ms i.sh i.kh i.ll A nd (.slice none 0 0) (.slice none 0 0))).map (·.old)) = some (⟨56, 58, extT.map (it (bodyOf Tryd.prog 56)), [], .run, none, (extL nd (.func (.func 58) #[] #[]) (.func (.func 57) #[] #[]) mb mo ms i.nm 0).map (fun p => rnV (rhoK (kz [0, 1, 2, 3] (extO i W mb mo ms i.sh i.kh i.ll A nd (.slice none 0 0) (.slice none 0 0)))) 3 p.2), (kz [0, 1, 2, 3] (extO i W mb mo ms i.sh i.kh i.ll A nd (.slice none 0 0) (.slice none 0 0))).map (fun kept_ => some (wasK (rhoK (kz [0, 1, 2, 3] (extO i W mb mo ms i.sh i.kh i.ll A nd (.slice none 0 0) (.slice none 0 0)))) kept_)), 4,
    [CJ Tryd.prog B 57 #[Value.agg #[Value.int IntKind.i64 (Isl.ll i), Value.int IntKind.i64 (Isl.lh i)]] [] 3
  (Value.int IntKind.i64 (Isl.ll i)) [] 3 [],
CJ Tryd.prog B 58 #[Value.agg #[Value.int IntKind.i64 (Isl.kl i), Value.int IntKind.i64 (Isl.kh i)]] [] 3
  (Value.int IntKind.i64 (Isl.kh i)) [] 3 [],
CJ Tryd.prog B 58 #[Value.agg #[Value.int IntKind.i64 (Isl.sl i), Value.int IntKind.i64 (Isl.sh i)]] [] 3
  (Value.int IntKind.i64 (Isl.sh i)) [] 3 []]⟩, []) := by kernel_rfl
set_option maxRecDepth 100000 in
theorem hext_first (B : Lo) (i : Isl) (W : Value) (mb mo ms nd : Nat) (A : Array Value) (a b c : Int) (m : Mon) (y : Bool) (r0 r1 : Int) (d : Nat → Value) : landB (srun Tryd.prog goFns B 15 1 (headC 56 58 (extL nd (.func (.func 58) #[] #[]) (.func (.func 57) #[] #[]) mb mo ms i.nm 0) d (extT.map (it (bodyOf Tryd.prog 56)))) (heapO 0 (extO i W mb mo ms a b c A nd (.slice none 0 0) (.slice none 0 0))) ((extO i W mb mo ms a b c A nd (.slice none 0 0) (.slice none 0 0))).length
    [(0, Hint.val (Value.bool true)),
(2, Hint.idx 0),
(3, Hint.raw
  (Value.agg
    #[Value.int IntKind.i64 (Mon.wl m), Value.int IntKind.i64 (Mon.wh m), Value.int IntKind.i64 (Mon.dl m),
      Value.int IntKind.i64 (Mon.dh m), Value.int IntKind.i64 (Mon.nl m), Value.int IntKind.i64 (Mon.nh m)])),
(13, Hint.idx 0),
(14, Hint.ld (Value.bool y)),
(15, Hint.call [] (Value.agg #[Value.int IntKind.i64 r0, Value.int IntKind.i64 r1]) [] 5 []),
(16, Hint.call [] (Value.int IntKind.i64 r1) [] 5 []),
(26, Hint.call [] (Value.int IntKind.i64 (Mon.nl m)) [] 7 [])] 0 [] []) ((extL nd (.func (.func 58) #[] #[]) (.func (.func 57) #[] #[]) mb mo ms i.nm 1).map (·.1)) ((kz [0, 1, 2, 3, 6, 8] (extO i W mb mo ms a b c A nd (.slice (some ⟨4, 0, none⟩) 1 1) (.slice (some ⟨5, 0, none⟩) 1 1) ++ [(false, Obj.cells #[.int .i64 r1] 3 (0, 0)), (false, Obj.cells #[.int .i64 m.nl] 3 (0, 0))])).map (·.old)) = some (⟨56, 58, extT.map (it (bodyOf Tryd.prog 56)), [], .run, none, (extL nd (.func (.func 58) #[] #[]) (.func (.func 57) #[] #[]) mb mo ms i.nm 1).map (fun p => rnV (rhoK (kz [0, 1, 2, 3, 6, 8] (extO i W mb mo ms a b c A nd (.slice (some ⟨4, 0, none⟩) 1 1) (.slice (some ⟨5, 0, none⟩) 1 1) ++ [(false, Obj.cells #[.int .i64 r1] 3 (0, 0)), (false, Obj.cells #[.int .i64 m.nl] 3 (0, 0))]))) 3 p.2), (kz [0, 1, 2, 3, 6, 8] (extO i W mb mo ms a b c A nd (.slice (some ⟨4, 0, none⟩) 1 1) (.slice (some ⟨5, 0, none⟩) 1 1) ++ [(false, Obj.cells #[.int .i64 r1] 3 (0, 0)), (false, Obj.cells #[.int .i64 m.nl] 3 (0, 0))])).map (fun kept_ => some (wasK (rhoK (kz [0, 1, 2, 3, 6, 8] (extO i W mb mo ms a b c A nd (.slice (some ⟨4, 0, none⟩) 1 1) (.slice (some ⟨5, 0, none⟩) 1 1) ++ [(false, Obj.cells #[.int .i64 r1] 3 (0, 0)), (false, Obj.cells #[.int .i64 m.nl] 3 (0, 0))]))) kept_)), 9,
    [CJ Tryd.prog B 57 #[Value.agg #[Value.int IntKind.i64 (Mon.nl m), Value.int IntKind.i64 (Mon.nh m)]] [] 7
  (Value.int IntKind.i64 (Mon.nl m)) [] 7 [],
CJ Tryd.prog B 58 #[Value.agg #[Value.int IntKind.i64 r0, Value.int IntKind.i64 r1]] [] 5 (Value.int IntKind.i64 r1) []
  5 [],
CJ Tryd.prog B 41
  #[Value.agg
      #[Value.int IntKind.i64 (Mon.wl m), Value.int IntKind.i64 (Mon.wh m), Value.int IntKind.i64 (Mon.dl m),
        Value.int IntKind.i64 (Mon.dh m), Value.int IntKind.i64 (Mon.nl m), Value.int IntKind.i64 (Mon.nh m)],
    Value.bool y]
  [] 5 (Value.agg #[Value.int IntKind.i64 r0, Value.int IntKind.i64 r1]) [] 5 [],
A[0]? = some (Value.bool y),
0 = (↑0 : Int) ∧ 0 < nd,
∀ (j : Nat) (u : Value),
  #[Value.int IntKind.i64 (Mon.wl m), Value.int IntKind.i64 (Mon.wh m), Value.int IntKind.i64 (Mon.dl m),
          Value.int IntKind.i64 (Mon.dh m), Value.int IntKind.i64 (Mon.nl m), Value.int IntKind.i64 (Mon.nh m)][j]? =
      some u →
    RawCell B mb (mo + 0 + j) u,
0 = (↑0 : Int) ∧ 0 < Isl.nm i,
ltq 0 (↑(Isl.nm i) : Int) = true]⟩, []) := by kernel_rfl
set_option maxRecDepth 100000 in
theorem hext_round (B : Lo) (i : Isl) (W : Value) (mb mo ms nd k : Nat) (A : Array Value) (a b c : Int) (m : Mon) (y : Bool) (r0 r1 : Int) (X Y : Array Value) (d : Nat → Value) : landB (srun Tryd.prog goFns B 15 1 (headC 56 58 (extL nd (.func (.func 58) #[] #[]) (.func (.func 57) #[] #[]) mb mo ms i.nm k) d (extT.map (it (bodyOf Tryd.prog 56)))) (heapO 0 (extO i W mb mo ms a b c A nd (.slice (some ⟨4, 0, none⟩) k 1) (.slice (some ⟨5, 0, none⟩) k 1) ++ [(false, Obj.cells X 3 (0, 0)), (false, Obj.cells Y 3 (0, 0))])) ((extO i W mb mo ms a b c A nd (.slice (some ⟨4, 0, none⟩) k 1) (.slice (some ⟨5, 0, none⟩) k 1) ++ [(false, Obj.cells X 3 (0, 0)), (false, Obj.cells Y 3 (0, 0))])).length
    [(0, Hint.val (Value.bool true)),
(2, Hint.idx k),
(3, Hint.raw
  (Value.agg
    #[Value.int IntKind.i64 (Mon.wl m), Value.int IntKind.i64 (Mon.wh m), Value.int IntKind.i64 (Mon.dl m),
      Value.int IntKind.i64 (Mon.dh m), Value.int IntKind.i64 (Mon.nl m), Value.int IntKind.i64 (Mon.nh m)])),
(13, Hint.idx k),
(14, Hint.ld (Value.bool y)),
(15, Hint.call [] (Value.agg #[Value.int IntKind.i64 r0, Value.int IntKind.i64 r1]) [] 7 []),
(16, Hint.call [] (Value.int IntKind.i64 r1) [] 7 []),
(18, Hint.app (X ++ #[Value.int IntKind.i64 r1])),
(26, Hint.call [] (Value.int IntKind.i64 (Mon.nl m)) [] 9 []),
(28, Hint.app (Y ++ #[Value.int IntKind.i64 (Mon.nl m)])),
(31, Hint.val (Value.int IntKind.i64 ((↑k : Int) + 1)))] 0 [] []) ((extL nd (.func (.func 58) #[] #[]) (.func (.func 57) #[] #[]) mb mo ms i.nm (k + 1)).map (·.1)) ((kz [0, 1, 2, 3, 8, 10] (extO i W mb mo ms a b c A nd (.slice (some ⟨4, 0, none⟩) (k + 1) 1) (.slice (some ⟨5, 0, none⟩) (k + 1) 1) ++ [(false, Obj.cells (X ++ #[.int .i64 r1]) 3 (0, 0)), (false, Obj.cells (Y ++ #[.int .i64 m.nl]) 3 (0, 0))])).map (·.old)) = some (⟨56, 58, extT.map (it (bodyOf Tryd.prog 56)), [], .run, none, (extL nd (.func (.func 58) #[] #[]) (.func (.func 57) #[] #[]) mb mo ms i.nm (k + 1)).map (fun p => rnV (rhoK (kz [0, 1, 2, 3, 8, 10] (extO i W mb mo ms a b c A nd (.slice (some ⟨4, 0, none⟩) (k + 1) 1) (.slice (some ⟨5, 0, none⟩) (k + 1) 1) ++ [(false, Obj.cells (X ++ #[.int .i64 r1]) 3 (0, 0)), (false, Obj.cells (Y ++ #[.int .i64 m.nl]) 3 (0, 0))]))) 3 p.2), (kz [0, 1, 2, 3, 8, 10] (extO i W mb mo ms a b c A nd (.slice (some ⟨4, 0, none⟩) (k + 1) 1) (.slice (some ⟨5, 0, none⟩) (k + 1) 1) ++ [(false, Obj.cells (X ++ #[.int .i64 r1]) 3 (0, 0)), (false, Obj.cells (Y ++ #[.int .i64 m.nl]) 3 (0, 0))])).map (fun kept_ => some (wasK (rhoK (kz [0, 1, 2, 3, 8, 10] (extO i W mb mo ms a b c A nd (.slice (some ⟨4, 0, none⟩) (k + 1) 1) (.slice (some ⟨5, 0, none⟩) (k + 1) 1) ++ [(false, Obj.cells (X ++ #[.int .i64 r1]) 3 (0, 0)), (false, Obj.cells (Y ++ #[.int .i64 m.nl]) 3 (0, 0))]))) kept_)), 11,
    [wq ((↑k : Int) + 1) = (↑k : Int) + 1,
Array.size Y = k * (0 + 1) ∧
  k + 1 ≤ maxLen ∧
    (k + 1) * TypeInfo.bytes Tryd.t3 ≤ 140737488355328 ∧
      Y ++ Array.extract #[Value.int IntKind.i64 (Mon.nl m)] 0 (0 + 1 * (0 + 1)) =
        Y ++ #[Value.int IntKind.i64 (Mon.nl m)],
CJ Tryd.prog B 57 #[Value.agg #[Value.int IntKind.i64 (Mon.nl m), Value.int IntKind.i64 (Mon.nh m)]] [] 9
  (Value.int IntKind.i64 (Mon.nl m)) [] 9 [],
Array.size X = k * (0 + 1) ∧
  k + 1 ≤ maxLen ∧
    (k + 1) * TypeInfo.bytes Tryd.t3 ≤ 140737488355328 ∧
      X ++ Array.extract #[Value.int IntKind.i64 r1] 0 (0 + 1 * (0 + 1)) = X ++ #[Value.int IntKind.i64 r1],
CJ Tryd.prog B 58 #[Value.agg #[Value.int IntKind.i64 r0, Value.int IntKind.i64 r1]] [] 7 (Value.int IntKind.i64 r1) []
  7 [],
CJ Tryd.prog B 41
  #[Value.agg
      #[Value.int IntKind.i64 (Mon.wl m), Value.int IntKind.i64 (Mon.wh m), Value.int IntKind.i64 (Mon.dl m),
        Value.int IntKind.i64 (Mon.dh m), Value.int IntKind.i64 (Mon.nl m), Value.int IntKind.i64 (Mon.nh m)],
    Value.bool y]
  [] 7 (Value.agg #[Value.int IntKind.i64 r0, Value.int IntKind.i64 r1]) [] 7 [],
A[0 + k * 1]? = some (Value.bool y),
(↑k : Int) = (↑k : Int) ∧ k < nd,
∀ (j : Nat) (u : Value),
  #[Value.int IntKind.i64 (Mon.wl m), Value.int IntKind.i64 (Mon.wh m), Value.int IntKind.i64 (Mon.dl m),
          Value.int IntKind.i64 (Mon.dh m), Value.int IntKind.i64 (Mon.nl m), Value.int IntKind.i64 (Mon.nh m)][j]? =
      some u →
    RawCell B mb (mo + k * 6 + j) u,
(↑k : Int) = (↑k : Int) ∧ k < Isl.nm i,
ltq (↑k : Int) (↑(Isl.nm i) : Int) = true]⟩, []) := by kernel_rfl
set_option maxRecDepth 100000 in
theorem hext_end (B : Lo) (i : Isl) (W : Value) (mb mo ms nd k : Nat) (A : Array Value) (a b c : Int) (X Y : Array Value) (d : Nat → Value) : endedB (srun Tryd.prog goFns B 9 1 (headC 56 58 (extL nd (.func (.func 58) #[] #[]) (.func (.func 57) #[] #[]) mb mo ms i.nm k) d (extT.map (it (bodyOf Tryd.prog 56)))) (heapO 0 (extO i W mb mo ms a b c A nd (.slice (some ⟨4, 0, none⟩) k 1) (.slice (some ⟨5, 0, none⟩) k 1) ++ [(false, Obj.cells X 3 (0, 0)), (false, Obj.cells Y 3 (0, 0))])) ((extO i W mb mo ms a b c A nd (.slice (some ⟨4, 0, none⟩) k 1) (.slice (some ⟨5, 0, none⟩) k 1) ++ [(false, Obj.cells X 3 (0, 0)), (false, Obj.cells Y 3 (0, 0))])).length
    [(0, Hint.val (Value.bool false))] 0 [] []) ((kz [0, 4, 5] [(false, .cells A 4 (0, 0)), (false, .cells X 3 (0, 0)), (false, .cells Y 3 (0, 0))]).map (·.old)) = some (⟨.ret (rnV (rhoK (kz [0, 4, 5] [(false, .cells A 4 (0, 0)), (false, .cells X 3 (0, 0)), (false, .cells Y 3 (0, 0))])) 3 (.agg #[.int .i64 a, .int .i64 b, .int .i64 c, .slice (some ⟨0, 0, none⟩) nd 1, .slice (some ⟨1, 0, none⟩) k 1, .slice (some ⟨2, 0, none⟩) k 1])), (kz [0, 4, 5] [(false, .cells A 4 (0, 0)), (false, .cells X 3 (0, 0)), (false, .cells Y 3 (0, 0))]).map (fun kept_ => some (wasK (rhoK (kz [0, 4, 5] [(false, .cells A 4 (0, 0)), (false, .cells X 3 (0, 0)), (false, .cells Y 3 (0, 0))])) kept_)), 6,
    [ltq (↑k : Int) (↑(Isl.nm i) : Int) = false]⟩, []) := by kernel_rfl
theorem monsRaw {w : World} {b off n : Nat} {f : Nat → Mon} (h : MonsAt w w.heap.size (some ⟨b, off, none⟩) n f) {k : Nat} (hk : k < n) : ∀ (j : Nat) u, (monC (f k))[j]? = some u → RawCell (worldLo w) b (off + k * 6 + j) u := by
  obtain ⟨b', off', he, hlt, hc⟩ := h (by omega)
  cases he
  intro j u hu
  have hj : j < 6 := (Array.getElem?_eq_some_iff.1 hu).1
  have := hc k hk j hj
  refine raw_af hlt (this.trans ?_) ?_
  · rw [← hu]
    match j, hj with
    | 0, _ => rfl
    | 1, _ => rfl
    | 2, _ => rfl
    | 3, _ => rfl
    | 4, _ => rfl
    | 5, _ => rfl
  · match j, hj with
    | 0, _ => cases hu; rfl
    | 1, _ => cases hu; rfl
    | 2, _ => cases hu; rfl
    | 3, _ => cases hu; rfl
    | 4, _ => cases hu; rfl
    | 5, _ => cases hu; rfl
def boolE (d : Nat → Bool) (k : Nat) : List Value := [.bool (d k)]
def intE (f : Nat → Int) (k : Nat) : List Value := [.int .i64 (f k)]
theorem lext_std {i : Isl} {wa : Option Addr} {wc : Nat} {ma : Option Addr} {mc : Nat} {w : World} {nd : Nat} {d : Nat → Bool} (hi : IslAt w w.heap.size i wa ma) (h1 : 1 ≤ i.nm) (hn : i.nm ≤ nd) (h8 : i.nm ≤ 8) :
    StdJ Tryd.prog (worldLo w) 56 #[islR i wa wc ma mc, .slice (some ⟨0, 0, none⟩) nd 1, .func (.func 57) #[] #[], .func (.func 58) #[] #[]] (heapO 0 [(false, .cells (rowA (boolE d) nd) 4 (0, 0))]) 1
      (.agg #[.int .i64 i.sl, .int .i64 i.kl, .int .i64 i.lh, .slice (some ⟨0, 0, none⟩) nd 1, .slice (some ⟨1, 0, none⟩) i.nm 1, .slice (some ⟨2, 0, none⟩) i.nm 1])
      (heapO 0 [(false, .cells (rowA (boolE d) nd) 4 (0, 0)), (false, .cells (rowA (intE (endTru i false nd d).rains) i.nm) 3 (0, 0)), (false, .cells (rowA (intE (endTru i false nd d).needs) i.nm) 3 (0, 0))]) 3 [] := by
  obtain ⟨mb, mo, rfl, _⟩ := monsGet hi.months (show 0 < i.nm by omega)
  have hM : ∀ k, k < i.nm → ∀ (j : Nat) u, (monC (i.months k))[j]? = some u → RawCell (worldLo w) mb (mo + k * 6 + j) u := fun k hk => monsRaw hi.months hk
  have hA : ∀ k, k < nd → (rowA (boolE d) nd)[0 + k * 1]? = some (.bool (d k)) := fun k hk => by
    have := rowA_get (e := boolE d) (z := 1) (fun _ => rfl) (show 0 < 1 by omega) nd k hk
    rw [Nat.zero_add]
    simpa [boolE] using this
  have hl0 : looseO (.cells (islC i (rawS wa i.nw wc) (.slice (some ⟨mb, mo, some 0⟩) i.nm mc)) 27 (0, 0)) := loose_isl i wa wc (some ⟨mb, mo, none⟩) mc
  have hlA : looseO (.cells (rowA (boolE d) nd) 4 (0, 0)) := rowA_mem nd fun j _ v hv => by
    simp only [boolE, List.mem_cons, List.not_mem_nil, or_false] at hv
    rw [hv]; exact loose_bool _
  have hlI : ∀ (f : Nat → Int) k, looseO (.cells (rowA (intE f) k) 3 (0, 0)) := fun f k => rowA_mem k fun j _ v hv => by
    simp only [intE, List.mem_cons, List.not_mem_nil, or_false] at hv
    rw [hv]; exact loose_int _ _
  have cC : ∀ (a b : Int) n, CJ Tryd.prog (worldLo w) 57 #[.agg #[.int .i64 a, .int .i64 b]] [] n (.int .i64 a) [] n [] := fun a b n => con_of (l := [.agg #[.int .i64 a, .int .i64 b]]) (l' := [.agg #[.int .i64 a, .int .i64 b]]) (.cons (exact_agg (.cons (exact_af rfl) (.cons (exact_af rfl) .nil))) .nil) (exact_af rfl) fun w' _ => low_any a b w'
  have cG : ∀ (a b : Int) n, CJ Tryd.prog (worldLo w) 58 #[.agg #[.int .i64 a, .int .i64 b]] [] n (.int .i64 b) [] n [] := fun a b n => con_of (l := [.agg #[.int .i64 a, .int .i64 b]]) (l' := [.agg #[.int .i64 a, .int .i64 b]]) (.cons (exact_agg (.cons (exact_af rfl) (.cons (exact_af rfl) .nil))) .nil) (exact_af rfl) fun w' _ => high_any a b w'
  have cR : ∀ (m : Mon) (y : Bool) n, CJ Tryd.prog (worldLo w) 41 #[.agg (monC m), .bool y] [] n (.agg #[.int .i64 (rlo m y), .int .i64 (rhi m y)]) [] n [] := fun m y n => con_of (l := [.agg (monC m), .bool y]) (l' := [.agg (monC m), .bool y]) (v' := .agg #[.int .i64 (rlo m y), .int .i64 (rhi m y)]) (.cons (exact_agg (.cons (exact_af rfl) (.cons (exact_af rfl) (.cons (exact_af rfl) (.cons (exact_af rfl) (.cons (exact_af rfl) (.cons (exact_af rfl) .nil))))))) (.cons (exact_af rfl) .nil)) (exact_agg (.cons (exact_af rfl) (.cons (exact_af rfl) .nil))) fun w' _ => rainOf_any m y w'
  have hby : Go.Proofs.Tryd.t3.bytes = 8 := by kernel_rfl
  have entry := (GoE.refl (P := Tryd.prog) (B := worldLo w) (c0 := entryC Tryd.prog 56 58 [.agg (islC i (rawS wa i.nw wc) (.slice (some ⟨mb, mo, some 0⟩) i.nm mc)), .slice (some ⟨0, 0, none⟩) nd 1, .func (.func 57) #[] #[], .func (.func 58) #[] #[]]) (under_heapO [(false, Obj.cells (rowA (boolE d) nd) 4 (0, 0))] (Nat.le_refl 1))).headB goFns_ok mixed_ok (writable_nil _ _)
    (lext_entry (worldLo w) i (rawS wa i.nw wc) mb mo mc nd (rowA (boolE d) nd)) ⟨by first | exact cC _ _ _ | exact cG _ _ _, by first | exact cC _ _ _ | exact cG _ _ _, by first | exact cC _ _ _ | exact cG _ _ _, trivial⟩
    (by kernel_rfl) (by kernel_rfl) (by kernel_rfl) (by kernel_rfl) (by kernel_rfl) (by kernel_rfl) (by kernel_rfl) (by kernel_rfl) (by kernel_rfl) (by kernel_rfl)
    ⟨.inr ⟨rfl, .inl hlA⟩, .inr ⟨rfl, .inl hl0⟩, .inl ⟨rfl, by kernel_rfl⟩, .inl ⟨rfl, by kernel_rfl⟩, trivial⟩
    (same1 _ _)
  generalize hc0 : entryC Tryd.prog 56 58 [.agg (islC i (rawS wa i.nw wc) (.slice (some ⟨mb, mo, some 0⟩) i.nm mc)), .slice (some ⟨0, 0, none⟩) nd 1, .func (.func 57) #[] #[], .func (.func 58) #[] #[]] = c0 at entry
  let t := endTru i false nd d
  let os : Nat → List (Bool × Obj) := fun k => extO i (rawS wa i.nw wc) mb mo mc i.sl i.kl i.lh (rowA (boolE d) nd) nd (.slice (some ⟨4, 0, none⟩) k 1) (.slice (some ⟨5, 0, none⟩) k 1) ++ [(false, Obj.cells (rowA (intE t.rains) k) 3 (0, 0)), (false, Obj.cells (rowA (intE t.needs) k) 3 (0, 0))]
  have hos : ∀ k, OkB 1 6 (os k) := fun k => ⟨.inr ⟨rfl, .inl hlA⟩, .inr ⟨rfl, .inl hl0⟩, .inl ⟨rfl, by kernel_rfl⟩, .inl ⟨rfl, by kernel_rfl⟩, .inr ⟨rfl, .inl (hlI _ _)⟩, .inr ⟨rfl, .inl (hlI _ _)⟩, trivial⟩
  have step : ∀ k, k < i.nm → ∃ d' : Nat → Value, (∀ t, Loose (d' t)) ∧ GoE Tryd.prog (worldLo w) c0 (heapO 0 [(false, Obj.cells (rowA (boolE d) nd) 4 (0, 0))]) 1
      (headC 56 58 (extL nd (.func (.func 57) #[] #[]) (.func (.func 58) #[] #[]) mb mo mc i.nm (k + 1)) d' (extT.map (it (bodyOf Tryd.prog 56)))) (heapO 0 (os (k + 1))) 6 [] := by
    intro k
    induction k with
    | zero =>
      intro hk
      obtain ⟨d', _, hg⟩ := entry
      have hr := lext_first (worldLo w) i (rawS wa i.nw wc) mb mo mc nd (rowA (boolE d) nd) i.sl i.kl i.lh (i.months 0) (d 0) (rlo (i.months 0) (d 0)) (rhi (i.months 0) (d 0)) d'
      refine hg.headB goFns_ok mixed_ok (writable_nil _ _) (os := os 1) hr ?_ (by kernel_rfl) (by kernel_rfl) (by kernel_rfl) (by kernel_rfl) (by kernel_rfl) (by kernel_rfl) (by kernel_rfl) (by kernel_rfl) (by kernel_rfl) (by kernel_rfl) (hos 1) (same1 _ _)
      have hMk := hM 0 hk
      have hAk := hA 0 (by omega)
      exact ⟨by first | exact cC _ _ _ | exact cG _ _ _, by first | exact cC _ _ _ | exact cG _ _ _, cR _ _ _, hAk, ⟨rfl, by omega⟩, hMk, ⟨rfl, by omega⟩, ltq_t (by omega), trivial⟩
    | succ k ih =>
      intro hk
      obtain ⟨d', _, hg⟩ := ih (by omega)
      have hr := lext_round (worldLo w) i (rawS wa i.nw wc) mb mo mc nd (k + 1) (rowA (boolE d) nd) i.sl i.kl i.lh (i.months (k + 1)) (d (k + 1)) (rlo (i.months (k + 1)) (d (k + 1))) (rhi (i.months (k + 1)) (d (k + 1))) (rowA (intE t.rains) (k + 1)) (rowA (intE t.needs) (k + 1)) d'
      refine hg.headB goFns_ok mixed_ok (writable_nil _ _) (os := os (k + 1 + 1)) hr ?_ (by kernel_rfl) (by kernel_rfl) (by kernel_rfl) (by kernel_rfl) (by kernel_rfl) (by kernel_rfl) (by kernel_rfl) (by kernel_rfl) (by kernel_rfl) (by kernel_rfl) (hos (k + 1 + 1)) (same1 _ _)
      have hMk := hM (k + 1) hk
      have hAk := hA (k + 1) (by omega)
      have s1 := rowA_size (e := intE t.rains) (z := 1) (fun _ => rfl) (k + 1)
      have s2 := rowA_size (e := intE t.needs) (z := 1) (fun _ => rfl) (k + 1)
      exact ⟨wq_in (by omega) (by omega), ⟨s2, by unfold maxLen; omega, by rw [hby]; omega, rfl⟩, by first | exact cC _ _ _ | exact cG _ _ _, ⟨s1, by unfold maxLen; omega, by rw [hby]; omega, rfl⟩, by first | exact cC _ _ _ | exact cG _ _ _, cR _ _ _, hAk, ⟨rfl, by omega⟩, hMk, ⟨rfl, by omega⟩, ltq_t (by omega), trivial⟩
  obtain ⟨k, hk⟩ : ∃ k, i.nm = k + 1 := ⟨i.nm - 1, by omega⟩
  obtain ⟨d', _, hg⟩ := step k (by omega)
  rw [← hk] at hg
  have hr := lext_end (worldLo w) i (rawS wa i.nw wc) mb mo mc nd i.nm (rowA (boolE d) nd) i.sl i.kl i.lh (rowA (intE t.rains) i.nm) (rowA (intE t.needs) i.nm) d'
  refine hg.std goFns_ok mixed_ok (by rw [← hc0]; kernel_rfl) (writable_nil _ _) (os := [(false, .cells (rowA (boolE d) nd) 4 (0, 0)), (false, .cells (rowA (intE t.rains) i.nm) 3 (0, 0)), (false, .cells (rowA (intE t.needs) i.nm) 3 (0, 0))]) hr ⟨ltq_f (by omega), trivial⟩ (by kernel_rfl) (by kernel_rfl) (by kernel_rfl) (by kernel_rfl) (by kernel_rfl) (by kernel_rfl) (by kernel_rfl) (by kernel_rfl)
    ⟨.inr ⟨rfl, .inl hlA⟩, .inr ⟨rfl, .inl (hlI _ _)⟩, .inr ⟨rfl, .inl (hlI _ _)⟩, trivial⟩ (same1 _ _)
theorem lext_con {i : Isl} {wa : Option Addr} {wc : Nat} {ma : Option Addr} {mc : Nat} {w : World} {nd : Nat} {d : Nat → Bool} (hi : IslAt w w.heap.size i wa ma) (h1 : 1 ≤ i.nm) (hn : i.nm ≤ nd) (h8 : i.nm ≤ 8) {k n : Nat} (hk : k < n) :
    CJ Tryd.prog (worldLo w) 56 #[islR i wa wc ma mc, .slice (some ⟨k, 0, none⟩) nd 1, .func (.func 57) #[] #[], .func (.func 58) #[] #[]] [(k, some (.cells (rowA (boolE d) nd) 4 (0, 0)))] n
      (.agg #[.int .i64 i.sl, .int .i64 i.kl, .int .i64 i.lh, .slice (some ⟨k, 0, none⟩) nd 1, .slice (some ⟨n, 0, none⟩) i.nm 1, .slice (some ⟨n + 1, 0, none⟩) i.nm 1])
      [(n, .cells (rowA (intE (endTru i false nd d).rains) i.nm) 3 (0, 0)), (n + 1, .cells (rowA (intE (endTru i false nd d).needs) i.nm) 3 (0, 0))] (n + 2) [] := by
  have h := lext_std (d := d) (nd := nd) (wc := wc) (mc := mc) hi h1 hn h8
  have hloose : ∀ b ∈ [(false, Obj.cells (rowA (boolE d) nd) 4 (0, 0))] ++ [(false, Obj.cells (rowA (intE (endTru i false nd d).rains) i.nm) 3 (0, 0)), (false, Obj.cells (rowA (intE (endTru i false nd d).needs) i.nm) 3 (0, 0))], looseO b.2 := by
    intro b hb
    have hlI : ∀ (f : Nat → Int) k, looseO (.cells (rowA (intE f) k) 3 (0, 0)) := fun f k => rowA_mem k fun j _ v hv => by
      simp only [intE, List.mem_cons, List.not_mem_nil, or_false] at hv
      rw [hv]; exact loose_int _ _
    simp only [List.cons_append, List.nil_append, List.mem_cons, List.not_mem_nil, or_false] at hb
    rcases hb with rfl | rfl | rfl
    · exact rowA_mem nd fun j _ v hv => by
        simp only [boolE, List.mem_cons, List.not_mem_nil, or_false] at hv
        rw [hv]; exact loose_bool _
    · exact hlI _ _
    · exact hlI _ _
  obtain ⟨mb, mo, rfl, _⟩ := monsGet hi.months (show 0 < i.nm by omega)
  rcases wa with _ | ⟨b, o, _ | z⟩
  all_goals exact (StdJ.rows (kept := [(false, Obj.cells (rowA (boolE d) nd) 4 (0, 0))]) (l := [k]) (n := n) h rfl (by simpa using hk) rfl hloose (by kernel_rfl) (by kernel_rfl)).cast (by kernel_rfl) (by kernel_rfl) (by kernel_rfl) (by kernel_rfl) (by kernel_rfl)
theorem hext_std {i : Isl} {wa : Option Addr} {wc : Nat} {ma : Option Addr} {mc : Nat} {w : World} {nd : Nat} {d : Nat → Bool} (hi : IslAt w w.heap.size i wa ma) (h1 : 1 ≤ i.nm) (hn : i.nm ≤ nd) (h8 : i.nm ≤ 8) :
    StdJ Tryd.prog (worldLo w) 56 #[islR i wa wc ma mc, .slice (some ⟨0, 0, none⟩) nd 1, .func (.func 58) #[] #[], .func (.func 57) #[] #[]] (heapO 0 [(false, .cells (rowA (boolE d) nd) 4 (0, 0))]) 1
      (.agg #[.int .i64 i.sh, .int .i64 i.kh, .int .i64 i.ll, .slice (some ⟨0, 0, none⟩) nd 1, .slice (some ⟨1, 0, none⟩) i.nm 1, .slice (some ⟨2, 0, none⟩) i.nm 1])
      (heapO 0 [(false, .cells (rowA (boolE d) nd) 4 (0, 0)), (false, .cells (rowA (intE (endTru i true nd d).rains) i.nm) 3 (0, 0)), (false, .cells (rowA (intE (endTru i true nd d).needs) i.nm) 3 (0, 0))]) 3 [] := by
  obtain ⟨mb, mo, rfl, _⟩ := monsGet hi.months (show 0 < i.nm by omega)
  have hM : ∀ k, k < i.nm → ∀ (j : Nat) u, (monC (i.months k))[j]? = some u → RawCell (worldLo w) mb (mo + k * 6 + j) u := fun k hk => monsRaw hi.months hk
  have hA : ∀ k, k < nd → (rowA (boolE d) nd)[0 + k * 1]? = some (.bool (d k)) := fun k hk => by
    have := rowA_get (e := boolE d) (z := 1) (fun _ => rfl) (show 0 < 1 by omega) nd k hk
    rw [Nat.zero_add]
    simpa [boolE] using this
  have hl0 : looseO (.cells (islC i (rawS wa i.nw wc) (.slice (some ⟨mb, mo, some 0⟩) i.nm mc)) 27 (0, 0)) := loose_isl i wa wc (some ⟨mb, mo, none⟩) mc
  have hlA : looseO (.cells (rowA (boolE d) nd) 4 (0, 0)) := rowA_mem nd fun j _ v hv => by
    simp only [boolE, List.mem_cons, List.not_mem_nil, or_false] at hv
    rw [hv]; exact loose_bool _
  have hlI : ∀ (f : Nat → Int) k, looseO (.cells (rowA (intE f) k) 3 (0, 0)) := fun f k => rowA_mem k fun j _ v hv => by
    simp only [intE, List.mem_cons, List.not_mem_nil, or_false] at hv
    rw [hv]; exact loose_int _ _
  have cC : ∀ (a b : Int) n, CJ Tryd.prog (worldLo w) 57 #[.agg #[.int .i64 a, .int .i64 b]] [] n (.int .i64 a) [] n [] := fun a b n => con_of (l := [.agg #[.int .i64 a, .int .i64 b]]) (l' := [.agg #[.int .i64 a, .int .i64 b]]) (.cons (exact_agg (.cons (exact_af rfl) (.cons (exact_af rfl) .nil))) .nil) (exact_af rfl) fun w' _ => low_any a b w'
  have cG : ∀ (a b : Int) n, CJ Tryd.prog (worldLo w) 58 #[.agg #[.int .i64 a, .int .i64 b]] [] n (.int .i64 b) [] n [] := fun a b n => con_of (l := [.agg #[.int .i64 a, .int .i64 b]]) (l' := [.agg #[.int .i64 a, .int .i64 b]]) (.cons (exact_agg (.cons (exact_af rfl) (.cons (exact_af rfl) .nil))) .nil) (exact_af rfl) fun w' _ => high_any a b w'
  have cR : ∀ (m : Mon) (y : Bool) n, CJ Tryd.prog (worldLo w) 41 #[.agg (monC m), .bool y] [] n (.agg #[.int .i64 (rlo m y), .int .i64 (rhi m y)]) [] n [] := fun m y n => con_of (l := [.agg (monC m), .bool y]) (l' := [.agg (monC m), .bool y]) (v' := .agg #[.int .i64 (rlo m y), .int .i64 (rhi m y)]) (.cons (exact_agg (.cons (exact_af rfl) (.cons (exact_af rfl) (.cons (exact_af rfl) (.cons (exact_af rfl) (.cons (exact_af rfl) (.cons (exact_af rfl) .nil))))))) (.cons (exact_af rfl) .nil)) (exact_agg (.cons (exact_af rfl) (.cons (exact_af rfl) .nil))) fun w' _ => rainOf_any m y w'
  have hby : Go.Proofs.Tryd.t3.bytes = 8 := by kernel_rfl
  have entry := (GoE.refl (P := Tryd.prog) (B := worldLo w) (c0 := entryC Tryd.prog 56 58 [.agg (islC i (rawS wa i.nw wc) (.slice (some ⟨mb, mo, some 0⟩) i.nm mc)), .slice (some ⟨0, 0, none⟩) nd 1, .func (.func 58) #[] #[], .func (.func 57) #[] #[]]) (under_heapO [(false, Obj.cells (rowA (boolE d) nd) 4 (0, 0))] (Nat.le_refl 1))).headB goFns_ok mixed_ok (writable_nil _ _)
    (hext_entry (worldLo w) i (rawS wa i.nw wc) mb mo mc nd (rowA (boolE d) nd)) ⟨by first | exact cC _ _ _ | exact cG _ _ _, by first | exact cC _ _ _ | exact cG _ _ _, by first | exact cC _ _ _ | exact cG _ _ _, trivial⟩
    (by kernel_rfl) (by kernel_rfl) (by kernel_rfl) (by kernel_rfl) (by kernel_rfl) (by kernel_rfl) (by kernel_rfl) (by kernel_rfl) (by kernel_rfl) (by kernel_rfl)
    ⟨.inr ⟨rfl, .inl hlA⟩, .inr ⟨rfl, .inl hl0⟩, .inl ⟨rfl, by kernel_rfl⟩, .inl ⟨rfl, by kernel_rfl⟩, trivial⟩
    (same1 _ _)
  generalize hc0 : entryC Tryd.prog 56 58 [.agg (islC i (rawS wa i.nw wc) (.slice (some ⟨mb, mo, some 0⟩) i.nm mc)), .slice (some ⟨0, 0, none⟩) nd 1, .func (.func 58) #[] #[], .func (.func 57) #[] #[]] = c0 at entry
  let t := endTru i true nd d
  let os : Nat → List (Bool × Obj) := fun k => extO i (rawS wa i.nw wc) mb mo mc i.sh i.kh i.ll (rowA (boolE d) nd) nd (.slice (some ⟨4, 0, none⟩) k 1) (.slice (some ⟨5, 0, none⟩) k 1) ++ [(false, Obj.cells (rowA (intE t.rains) k) 3 (0, 0)), (false, Obj.cells (rowA (intE t.needs) k) 3 (0, 0))]
  have hos : ∀ k, OkB 1 6 (os k) := fun k => ⟨.inr ⟨rfl, .inl hlA⟩, .inr ⟨rfl, .inl hl0⟩, .inl ⟨rfl, by kernel_rfl⟩, .inl ⟨rfl, by kernel_rfl⟩, .inr ⟨rfl, .inl (hlI _ _)⟩, .inr ⟨rfl, .inl (hlI _ _)⟩, trivial⟩
  have step : ∀ k, k < i.nm → ∃ d' : Nat → Value, (∀ t, Loose (d' t)) ∧ GoE Tryd.prog (worldLo w) c0 (heapO 0 [(false, Obj.cells (rowA (boolE d) nd) 4 (0, 0))]) 1
      (headC 56 58 (extL nd (.func (.func 58) #[] #[]) (.func (.func 57) #[] #[]) mb mo mc i.nm (k + 1)) d' (extT.map (it (bodyOf Tryd.prog 56)))) (heapO 0 (os (k + 1))) 6 [] := by
    intro k
    induction k with
    | zero =>
      intro hk
      obtain ⟨d', _, hg⟩ := entry
      have hr := hext_first (worldLo w) i (rawS wa i.nw wc) mb mo mc nd (rowA (boolE d) nd) i.sh i.kh i.ll (i.months 0) (d 0) (rlo (i.months 0) (d 0)) (rhi (i.months 0) (d 0)) d'
      refine hg.headB goFns_ok mixed_ok (writable_nil _ _) (os := os 1) hr ?_ (by kernel_rfl) (by kernel_rfl) (by kernel_rfl) (by kernel_rfl) (by kernel_rfl) (by kernel_rfl) (by kernel_rfl) (by kernel_rfl) (by kernel_rfl) (by kernel_rfl) (hos 1) (same1 _ _)
      have hMk := hM 0 hk
      have hAk := hA 0 (by omega)
      exact ⟨by first | exact cC _ _ _ | exact cG _ _ _, by first | exact cC _ _ _ | exact cG _ _ _, cR _ _ _, hAk, ⟨rfl, by omega⟩, hMk, ⟨rfl, by omega⟩, ltq_t (by omega), trivial⟩
    | succ k ih =>
      intro hk
      obtain ⟨d', _, hg⟩ := ih (by omega)
      have hr := hext_round (worldLo w) i (rawS wa i.nw wc) mb mo mc nd (k + 1) (rowA (boolE d) nd) i.sh i.kh i.ll (i.months (k + 1)) (d (k + 1)) (rlo (i.months (k + 1)) (d (k + 1))) (rhi (i.months (k + 1)) (d (k + 1))) (rowA (intE t.rains) (k + 1)) (rowA (intE t.needs) (k + 1)) d'
      refine hg.headB goFns_ok mixed_ok (writable_nil _ _) (os := os (k + 1 + 1)) hr ?_ (by kernel_rfl) (by kernel_rfl) (by kernel_rfl) (by kernel_rfl) (by kernel_rfl) (by kernel_rfl) (by kernel_rfl) (by kernel_rfl) (by kernel_rfl) (by kernel_rfl) (hos (k + 1 + 1)) (same1 _ _)
      have hMk := hM (k + 1) hk
      have hAk := hA (k + 1) (by omega)
      have s1 := rowA_size (e := intE t.rains) (z := 1) (fun _ => rfl) (k + 1)
      have s2 := rowA_size (e := intE t.needs) (z := 1) (fun _ => rfl) (k + 1)
      exact ⟨wq_in (by omega) (by omega), ⟨s2, by unfold maxLen; omega, by rw [hby]; omega, rfl⟩, by first | exact cC _ _ _ | exact cG _ _ _, ⟨s1, by unfold maxLen; omega, by rw [hby]; omega, rfl⟩, by first | exact cC _ _ _ | exact cG _ _ _, cR _ _ _, hAk, ⟨rfl, by omega⟩, hMk, ⟨rfl, by omega⟩, ltq_t (by omega), trivial⟩
  obtain ⟨k, hk⟩ : ∃ k, i.nm = k + 1 := ⟨i.nm - 1, by omega⟩
  obtain ⟨d', _, hg⟩ := step k (by omega)
  rw [← hk] at hg
  have hr := hext_end (worldLo w) i (rawS wa i.nw wc) mb mo mc nd i.nm (rowA (boolE d) nd) i.sh i.kh i.ll (rowA (intE t.rains) i.nm) (rowA (intE t.needs) i.nm) d'
  refine hg.std goFns_ok mixed_ok (by rw [← hc0]; kernel_rfl) (writable_nil _ _) (os := [(false, .cells (rowA (boolE d) nd) 4 (0, 0)), (false, .cells (rowA (intE t.rains) i.nm) 3 (0, 0)), (false, .cells (rowA (intE t.needs) i.nm) 3 (0, 0))]) hr ⟨ltq_f (by omega), trivial⟩ (by kernel_rfl) (by kernel_rfl) (by kernel_rfl) (by kernel_rfl) (by kernel_rfl) (by kernel_rfl) (by kernel_rfl) (by kernel_rfl)
    ⟨.inr ⟨rfl, .inl hlA⟩, .inr ⟨rfl, .inl (hlI _ _)⟩, .inr ⟨rfl, .inl (hlI _ _)⟩, trivial⟩ (same1 _ _)
theorem hext_con {i : Isl} {wa : Option Addr} {wc : Nat} {ma : Option Addr} {mc : Nat} {w : World} {nd : Nat} {d : Nat → Bool} (hi : IslAt w w.heap.size i wa ma) (h1 : 1 ≤ i.nm) (hn : i.nm ≤ nd) (h8 : i.nm ≤ 8) {k n : Nat} (hk : k < n) :
    CJ Tryd.prog (worldLo w) 56 #[islR i wa wc ma mc, .slice (some ⟨k, 0, none⟩) nd 1, .func (.func 58) #[] #[], .func (.func 57) #[] #[]] [(k, some (.cells (rowA (boolE d) nd) 4 (0, 0)))] n
      (.agg #[.int .i64 i.sh, .int .i64 i.kh, .int .i64 i.ll, .slice (some ⟨k, 0, none⟩) nd 1, .slice (some ⟨n, 0, none⟩) i.nm 1, .slice (some ⟨n + 1, 0, none⟩) i.nm 1])
      [(n, .cells (rowA (intE (endTru i true nd d).rains) i.nm) 3 (0, 0)), (n + 1, .cells (rowA (intE (endTru i true nd d).needs) i.nm) 3 (0, 0))] (n + 2) [] := by
  have h := hext_std (d := d) (nd := nd) (wc := wc) (mc := mc) hi h1 hn h8
  have hloose : ∀ b ∈ [(false, Obj.cells (rowA (boolE d) nd) 4 (0, 0))] ++ [(false, Obj.cells (rowA (intE (endTru i true nd d).rains) i.nm) 3 (0, 0)), (false, Obj.cells (rowA (intE (endTru i true nd d).needs) i.nm) 3 (0, 0))], looseO b.2 := by
    intro b hb
    have hlI : ∀ (f : Nat → Int) k, looseO (.cells (rowA (intE f) k) 3 (0, 0)) := fun f k => rowA_mem k fun j _ v hv => by
      simp only [intE, List.mem_cons, List.not_mem_nil, or_false] at hv
      rw [hv]; exact loose_int _ _
    simp only [List.cons_append, List.nil_append, List.mem_cons, List.not_mem_nil, or_false] at hb
    rcases hb with rfl | rfl | rfl
    · exact rowA_mem nd fun j _ v hv => by
        simp only [boolE, List.mem_cons, List.not_mem_nil, or_false] at hv
        rw [hv]; exact loose_bool _
    · exact hlI _ _
    · exact hlI _ _
  obtain ⟨mb, mo, rfl, _⟩ := monsGet hi.months (show 0 < i.nm by omega)
  rcases wa with _ | ⟨b, o, _ | z⟩
  all_goals exact (StdJ.rows (kept := [(false, Obj.cells (rowA (boolE d) nd) 4 (0, 0))]) (l := [k]) (n := n) h rfl (by simpa using hk) rfl hloose (by kernel_rfl) (by kernel_rfl)).cast (by kernel_rfl) (by kernel_rfl) (by kernel_rfl) (by kernel_rfl) (by kernel_rfl)
end Go.Proofs.YtffdidleebognaaDoor

namespace Go.Proofs.YtffdidleebognaaDoor
open Go Go.CE Go.Proofs Go.RowKit Lens
def knO (i : Isl) (W : Value) (mb mo ms : Nat) (tanks : Int) (A : Array Value) : List (Bool × Obj) :=
  [(false, .cells (islC i W (.slice (some ⟨mb, mo, some 0⟩) i.nm ms)) 27 (0, 0)), (true, .cells #[.int .i64 tanks] 3 (0, 0)), (false, .cells A 63 (0, 0)), (true, .cells #[.slice (some ⟨2, 0, none⟩) i.nm 6] 49 (0, 0))]
def knL (nm k : Nat) : List (Nat × Value) :=
  [(2, .pointer (some ⟨0, 0, none⟩)), (3, .pointer (some ⟨1, 0, none⟩)), (4, .slice none 0 0), (5, .pointer (some ⟨3, 0, none⟩)), (19, .int .i64 nm), (20, .int .i64 k)]
def knR (i : Isl) (W : Value) (mb mo ms k : Nat) : List (Nat × Value) :=
  knL i.nm k ++ [(21, .bool false), (31, .agg (islC i W (.slice (some ⟨mb, mo, some 0⟩) i.nm ms))), (32, .func (.func 55) #[] #[.pointer (some ⟨4, 0, none⟩)])]
noncomputable def knRec (i : Isl) (W : Value) (mb mo ms k : Nat) (d : Nat → Value) : Loop :=
  ⟨.ready, none, 27, tmArr (mkT 70 (knR i W mb mo ms k) d), #[33], nav (bodyOf Tryd.prog 27) [1, 1, 1, 0, 1, 0, 0], nav (bodyOf Tryd.prog 27) [1, 1, 1, 0, 1, 0, 1], 5⟩
noncomputable def drO (i : Isl) (W : Value) (mb mo ms : Nat) (tanks : Int) (A : Array Value) (k : Nat) (d : Nat → Value) : List (Bool × Obj) :=
  knO i W mb mo ms tanks A ++ [(false, .cells (islC i W (.slice (some ⟨mb, mo, some 0⟩) i.nm ms)) 27 (0, 0)), (false, .deferred (some [])), (false, .loop (knRec i W mb mo ms k d))]
noncomputable def rnC (i : Isl) (W : Value) (mb mo ms k : Nat) (d : Nat → Value) : CF :=
  headR (some 6) 27 70 (knR i W mb mo ms k ++ [(33, .slice (some ⟨7, 0, none⟩) i.nm 1)]) d [.code (nav (bodyOf Tryd.prog 27) [1, 1, 1, 0, 1, 0, 0]), .beginRound, .code (nav (bodyOf Tryd.prog 27) [1, 1, 1, 0, 1, 0, 1])]
def drL (nm : Nat) (p2 : Int) (b : Nat) : List (Nat × Value) := [(0, .func (.yield 6) #[] #[]), (1, .pointer (some ⟨4, 0, none⟩)), (3, .int .i64 nm), (11, .int .i64 p2), (12, .int .i64 b)]
def drM (nm : Nat) (p2 : Int) (b m : Nat) : List (Nat × Value) := [(0, .func (.yield 6) #[] #[]), (1, .pointer (some ⟨4, 0, none⟩)), (3, .int .i64 nm), (4, .int .i64 b), (5, .slice (some ⟨7, 0, none⟩) nm 1), (11, .int .i64 p2), (12, .int .i64 b), (17, .int .i64 nm), (18, .int .i64 m)]
def drT : List It := [.code [1, 1, 0, 0], .inLoop [1, 1, 0, 0], .inBlock 0]
def drU : List It := [.code [1, 1, 0, 0, 1, 1, 0, 0, 1, 1, 0, 1, 0, 0], .inLoop [1, 1, 0, 0, 1, 1, 0, 0, 1, 1, 0, 1, 0, 0], .inBlock 2, .code [1, 1, 0, 0, 1, 1, 0, 0, 1, 1, 1], .inBlock 1, .code [1, 1, 0, 0, 1, 1, 1], .inLoop [1, 1, 0, 0], .inBlock 0]
set_option maxRecDepth 100000 in
theorem dr_entry (B : Lo) (i : Isl) (W : Value) (mb mo ms : Nat) (tanks : Int) (A : Array Value) (k : Nat) (dk : Nat → Value) (p2 : Int) : landB (srun Tryd.prog goFns B 6 7 (entryC Tryd.prog 55 43 [.func (.yield 6) #[] #[], .pointer (some ⟨4, 0, none⟩)]) (heapO 0 (drO i W mb mo ms tanks A k dk)) 7
    [(5, Hint.val (Value.int IntKind.i64 p2))] 0 [] []) ((drL i.nm p2 0).map (·.1)) ((kz [0, 1, 2, 3, 4, 5, 6] (drO i W mb mo ms tanks A k dk)).map (·.old)) = some (⟨55, 43, drT.map (it (bodyOf Tryd.prog 55)), [], .run, none, (drL i.nm p2 0).map (fun p => rnV (rhoK (kz [0, 1, 2, 3, 4, 5, 6] (drO i W mb mo ms tanks A k dk))) 3 p.2), (kz [0, 1, 2, 3, 4, 5, 6] (drO i W mb mo ms tanks A k dk)).map (fun kept_ => some (wasK (rhoK (kz [0, 1, 2, 3, 4, 5, 6] (drO i W mb mo ms tanks A k dk))) kept_)), 7,
    [IntKind.wrap IntKind.i64 (1 * 2 ^ min (Int.toNat (↑(Isl.nm i) : Int)) (IntKind.bits IntKind.i64)) = p2]⟩, []) := by kernel_rfl
set_option maxRecDepth 100000 in
theorem dr_bits (B : Lo) (i : Isl) (W : Value) (mb mo ms : Nat) (tanks : Int) (A : Array Value) (k : Nat) (dk : Nat → Value) (p2 : Int) (b : Nat) (D : Array Value) (d : Nat → Value) : landB (srun Tryd.prog goFns B 16 7 (headC 55 43 (drL i.nm p2 b) d (drT.map (it (bodyOf Tryd.prog 55)))) (heapO 0 (drO i W mb mo ms tanks A k dk)) ((drO i W mb mo ms tanks A k dk)).length
    [(0, Hint.val (Value.bool true)),
(4, Hint.mk (Isl.nm i) D)] 0 [] []) ((drM i.nm p2 b 0).map (·.1)) ((kz [0, 1, 2, 3, 4, 5, 6, 7] ((drO i W mb mo ms tanks A k dk) ++ [(false, Obj.cells D 4 (0, 0))])).map (·.old)) = some (⟨55, 43, drU.map (it (bodyOf Tryd.prog 55)), [], .run, none, (drM i.nm p2 b 0).map (fun p => rnV (rhoK (kz [0, 1, 2, 3, 4, 5, 6, 7] ((drO i W mb mo ms tanks A k dk) ++ [(false, Obj.cells D 4 (0, 0))]))) 3 p.2), (kz [0, 1, 2, 3, 4, 5, 6, 7] ((drO i W mb mo ms tanks A k dk) ++ [(false, Obj.cells D 4 (0, 0))])).map (fun kept_ => some (wasK (rhoK (kz [0, 1, 2, 3, 4, 5, 6, 7] ((drO i W mb mo ms tanks A k dk) ++ [(false, Obj.cells D 4 (0, 0))]))) kept_)), 8,
    [cMake Tryd.prog 34 (Value.int IntKind.i64 (↑(Isl.nm i) : Int)) (Value.int IntKind.i64 (↑(Isl.nm i) : Int)) =
  some (4, D, Isl.nm i, 1),
ltq (↑b : Int) p2 = true]⟩, []) := by kernel_rfl
set_option maxRecDepth 100000 in
theorem dr_bit (B : Lo) (i : Isl) (W : Value) (mb mo ms : Nat) (tanks : Int) (A : Array Value) (k : Nat) (dk : Nat → Value) (p2 : Int) (b m : Nat) (D D' : Array Value) (sh an : Int) (y : Bool) (d : Nat → Value) : landB (srun Tryd.prog goFns B 13 7 (headC 55 43 (drM i.nm p2 b m) d (drU.map (it (bodyOf Tryd.prog 55)))) (heapO 0 ((drO i W mb mo ms tanks A k dk) ++ [(false, Obj.cells D 4 (0, 0))])) (((drO i W mb mo ms tanks A k dk) ++ [(false, Obj.cells D 4 (0, 0))])).length
    [(0, Hint.val (Value.bool true)),
(7, Hint.val (Value.int IntKind.i64 ((↑(Isl.nm i) : Int) - 1))),
(9, Hint.val (Value.int IntKind.i64 (↑(Isl.nm i - 1 - m) : Int))),
(10, Hint.val (Value.int IntKind.i64 sh)),
(11, Hint.val (Value.int IntKind.i64 an)),
(12, Hint.val (Value.bool y)),
(13, Hint.idx m),
(14, Hint.st D'),
(15, Hint.val (Value.int IntKind.i64 ((↑m : Int) + 1)))] 0 [] []) ((drM i.nm p2 b (m + 1)).map (·.1)) ((kz [0, 1, 2, 3, 4, 5, 6, 7] ((drO i W mb mo ms tanks A k dk) ++ [(false, Obj.cells D' 4 (0, 0))])).map (·.old)) = some (⟨55, 43, drU.map (it (bodyOf Tryd.prog 55)), [], .run, none, (drM i.nm p2 b (m + 1)).map (fun p => rnV (rhoK (kz [0, 1, 2, 3, 4, 5, 6, 7] ((drO i W mb mo ms tanks A k dk) ++ [(false, Obj.cells D' 4 (0, 0))]))) 3 p.2), (kz [0, 1, 2, 3, 4, 5, 6, 7] ((drO i W mb mo ms tanks A k dk) ++ [(false, Obj.cells D' 4 (0, 0))])).map (fun kept_ => some (wasK (rhoK (kz [0, 1, 2, 3, 4, 5, 6, 7] ((drO i W mb mo ms tanks A k dk) ++ [(false, Obj.cells D' 4 (0, 0))]))) kept_)), 8,
    [wq ((↑m : Int) + 1) = (↑m : Int) + 1,
0 + m * 1 + TypeInfo.size Tryd.t4 ≤ Array.size D ∧ splice D (0 + m * 1) #[Value.bool y] = D',
(↑m : Int) = (↑m : Int) ∧ m < Isl.nm i,
eqq an 1 = y,
IntKind.wrap IntKind.i64
    (↑(BitVec.toNat (BitVec.ofInt (IntKind.bits IntKind.i64) sh &&& BitVec.ofInt (IntKind.bits IntKind.i64) 1)) : Int) =
  an,
Int.fdiv (↑b : Int) (2 ^ min (Int.toNat (↑(Isl.nm i - 1 - m) : Int)) (IntKind.bits IntKind.i64)) = sh,
wq ((↑(Isl.nm i) : Int) - 1 - (↑m : Int)) = (↑(Isl.nm i - 1 - m) : Int),
wq ((↑(Isl.nm i) : Int) - 1) = (↑(Isl.nm i) : Int) - 1,
ltq (↑m : Int) (↑(Isl.nm i) : Int) = true]⟩, []) := by kernel_rfl
set_option maxRecDepth 100000 in
theorem dr_no (B : Lo) (i : Isl) (W : Value) (mb mo ms : Nat) (tanks : Int) (A : Array Value) (k : Nat) (dk : Nat → Value) (p2 : Int) (b m : Nat) (D : Array Value) (d : Nat → Value) : landB (srun Tryd.prog goFns B 12 7 (headC 55 43 (drM i.nm p2 b m) d (drU.map (it (bodyOf Tryd.prog 55)))) (heapO 0 ((drO i W mb mo ms tanks A k dk) ++ [(false, Obj.cells D 4 (0, 0))])) (((drO i W mb mo ms tanks A k dk) ++ [(false, Obj.cells D 4 (0, 0))])).length
    [(0, Hint.val (Value.bool false)),
(3, Hint.call [7] (Value.bool false) [] 8 []),
(10, Hint.val (Value.int IntKind.i64 ((↑b : Int) + 1)))] 0 [] []) ((drL i.nm p2 (b + 1)).map (·.1)) ((kz [0, 1, 2, 3, 4, 5, 6] (drO i W mb mo ms tanks A k dk)).map (·.old)) = some (⟨55, 43, drT.map (it (bodyOf Tryd.prog 55)), [], .run, none, (drL i.nm p2 (b + 1)).map (fun p => rnV (rhoK (kz [0, 1, 2, 3, 4, 5, 6] (drO i W mb mo ms tanks A k dk))) 3 p.2), (kz [0, 1, 2, 3, 4, 5, 6] (drO i W mb mo ms tanks A k dk)).map (fun kept_ => some (wasK (rhoK (kz [0, 1, 2, 3, 4, 5, 6] (drO i W mb mo ms tanks A k dk))) kept_)), 8,
    [wq ((↑b : Int) + 1) = (↑b : Int) + 1,
CJ Tryd.prog B 40
  #[Value.agg
      #[Value.int IntKind.i64 (Isl.cap i), Value.int IntKind.i64 (Isl.sl i), Value.int IntKind.i64 (Isl.sh i),
        Value.int IntKind.i64 (Isl.roof i), Value.int IntKind.i64 (Isl.sand i), Value.int IntKind.i64 (Isl.kl i),
        Value.int IntKind.i64 (Isl.kh i), Value.int IntKind.i64 (Isl.ll i), Value.int IntKind.i64 (Isl.lh i),
        Value.int IntKind.i64 (Isl.pump i), Value.int IntKind.i64 (Isl.keep i), Value.int IntKind.i64 (Isl.size i), W,
        Value.slice (some { block := mb, off := mo, spot := some 0 }) (Isl.nm i) ms, Value.int IntKind.i64 (Isl.most i),
        Value.int IntKind.i64 (Isl.row i)],
    Value.slice (some { block := 7, off := 0 }) (Isl.nm i) 1]
  [(7, some (Obj.cells D 4))] 8 (Value.bool false) [] 8 [],
ltq (↑m : Int) (↑(Isl.nm i) : Int) = false]⟩, []) := by kernel_rfl
set_option maxRecDepth 100000 in
theorem dr_end (B : Lo) (i : Isl) (W : Value) (mb mo ms : Nat) (tanks : Int) (A : Array Value) (k : Nat) (dk : Nat → Value) (p2 : Int) (b : Nat) (d : Nat → Value) : endedB (srun Tryd.prog goFns B 7 7 (headC 55 43 (drL i.nm p2 b) d (drT.map (it (bodyOf Tryd.prog 55)))) (heapO 0 (drO i W mb mo ms tanks A k dk)) ((drO i W mb mo ms tanks A k dk)).length
    [(0, Hint.val (Value.bool false))] 0 [] []) ((kz [0, 1, 2, 3, 4, 5, 6] (drO i W mb mo ms tanks A k dk)).map (·.old)) = some (⟨.ret (rnV (rhoK (kz [0, 1, 2, 3, 4, 5, 6] (drO i W mb mo ms tanks A k dk))) 3 (.tuple #[])), (kz [0, 1, 2, 3, 4, 5, 6] (drO i W mb mo ms tanks A k dk)).map (fun kept_ => some (wasK (rhoK (kz [0, 1, 2, 3, 4, 5, 6] (drO i W mb mo ms tanks A k dk))) kept_)), 7,
    [ltq (↑b : Int) p2 = false]⟩, []) := by kernel_rfl
set_option maxRecDepth 100000 in
theorem dr_yield (B : Lo) (i : Isl) (W : Value) (mb mo ms : Nat) (tanks : Int) (A : Array Value) (k : Nat) (dk : Nat → Value) (p2 : Int) (b m : Nat) (D A' : Array Value) (d : Nat → Value) : landB (srun Tryd.prog goFns B 12 7 (headC 55 43 (drM i.nm p2 b m) d (drU.map (it (bodyOf Tryd.prog 55)))) (heapO 0 ((drO i W mb mo ms tanks A k dk) ++ [(false, Obj.cells D 4 (0, 0))])) (((drO i W mb mo ms tanks A k dk) ++ [(false, Obj.cells D 4 (0, 0))])).length
    [(0, Hint.val (Value.bool false)),
(3, Hint.call [7] (Value.bool true) [] 8 []),
(7, Hint.call [0, 1, 2, 3, 4, 5, 6, 7] (Value.bool true) [(2, Obj.cells A' 63), (6, Obj.loop (knRec i W mb mo ms k dk))]
  8 [2, 6]),
(10, Hint.val (Value.int IntKind.i64 ((↑b : Int) + 1)))] 0 [] []) ((drL i.nm p2 (b + 1)).map (·.1)) ((kz [0, 1, 2, 3, 4, 5, 6] (drO i W mb mo ms tanks A' k dk)).map (·.old)) = some (⟨55, 43, drT.map (it (bodyOf Tryd.prog 55)), [], .run, none, (drL i.nm p2 (b + 1)).map (fun p => rnV (rhoK (kz [0, 1, 2, 3, 4, 5, 6] (drO i W mb mo ms tanks A' k dk))) 3 p.2), (kz [0, 1, 2, 3, 4, 5, 6] (drO i W mb mo ms tanks A' k dk)).map (fun kept_ => some (wasK (rhoK (kz [0, 1, 2, 3, 4, 5, 6] (drO i W mb mo ms tanks A' k dk))) kept_)), 8,
    [wq ((↑b : Int) + 1) = (↑b : Int) + 1,
(RJ Tryd.prog B (rnC i W mb mo ms k dk) ((List.range 8).map fun q => (q, hget (heapO 0 ((drO i W mb mo ms tanks A k dk) ++ [(false, Obj.cells D 4 (0, 0))])) q)) 8 (.bool true) [(2, .cells A' 63 (0, 0)), (6, .loop (knRec i W mb mo ms k dk))] 8 [2, 6]),
CJ Tryd.prog B 40
  #[Value.agg
      #[Value.int IntKind.i64 (Isl.cap i), Value.int IntKind.i64 (Isl.sl i), Value.int IntKind.i64 (Isl.sh i),
        Value.int IntKind.i64 (Isl.roof i), Value.int IntKind.i64 (Isl.sand i), Value.int IntKind.i64 (Isl.kl i),
        Value.int IntKind.i64 (Isl.kh i), Value.int IntKind.i64 (Isl.ll i), Value.int IntKind.i64 (Isl.lh i),
        Value.int IntKind.i64 (Isl.pump i), Value.int IntKind.i64 (Isl.keep i), Value.int IntKind.i64 (Isl.size i), W,
        Value.slice (some { block := mb, off := mo, spot := some 0 }) (Isl.nm i) ms, Value.int IntKind.i64 (Isl.most i),
        Value.int IntKind.i64 (Isl.row i)],
    Value.slice (some { block := 7, off := 0 }) (Isl.nm i) 1]
  [(7, some (Obj.cells D 4))] 8 (Value.bool true) [] 8 [],
ltq (↑m : Int) (↑(Isl.nm i) : Int) = false]⟩, [6, 2]) := by kernel_rfl
noncomputable def rnO (i : Isl) (W : Value) (mb mo ms : Nat) (tanks : Int) (A : Array Value) (k : Nat) (d : Nat → Value) (D R1 N1 R2 N2 E : Array Value) : List (Bool × Obj) :=
  knO i W mb mo ms tanks A ++ [(false, .cells (islC i W (.slice (some ⟨mb, mo, some 0⟩) i.nm ms)) 27 (0, 0)), (false, .deferred (some [])), (false, .loop { knRec i W mb mo ms k d with state := .busy }), (false, .cells D 4 (0, 0)),
    (false, .cells R1 3 (0, 0)), (false, .cells N1 3 (0, 0)), (false, .cells R2 3 (0, 0)), (false, .cells N2 3 (0, 0)), (false, .cells E 59 (1, 1))]
def rnL (nm : Nat) (s1 k1 l1 s2 k2 l2 : Int) (h m : Nat) : List (Nat × Value) :=
  [(2, .pointer (some ⟨0, 0, none⟩)), (3, .pointer (some ⟨1, 0, none⟩)), (5, .pointer (some ⟨3, 0, none⟩)), (40, .agg #[.int .i64 s1, .int .i64 k1, .int .i64 l1, .slice (some ⟨7, 0, none⟩) nm 1, .slice (some ⟨8, 0, none⟩) nm 1, .slice (some ⟨9, 0, none⟩) nm 1, .int .i64 s2, .int .i64 k2, .int .i64 l2, .slice (some ⟨7, 0, none⟩) nm 1, .slice (some ⟨10, 0, none⟩) nm 1, .slice (some ⟨11, 0, none⟩) nm 1]), (41, .int .i64 h), (51, .slice (some ⟨12, 0, none⟩) nm 0), (52, .int .i64 nm), (53, .int .i64 m)]
def rnT : List It := [.code [1, 1, 1, 0, 1, 0, 1, 0, 1, 0, 0, 1, 1, 0, 0, 1, 1, 1, 0, 0], .inLoop [1, 1, 1, 0, 1, 0, 1, 0, 1, 0, 0, 1, 1, 0, 0, 1, 1, 1, 0, 0], .inBlock 6, .inBlock 5, .code [1, 1, 1, 0, 1, 0, 1, 0, 1, 0, 0, 1, 1, 1], .inLoop [1, 1, 1, 0, 1, 0, 1, 0, 1, 0, 0], .inBlock 4, .inBlock 3]
set_option maxRecDepth 100000 in
theorem rn_start (B : Lo) (i : Isl) (W : Value) (mb mo ms : Nat) (tanks : Int) (A : Array Value) (k : Nat) (dk : Nat → Value) (D R1 N1 R2 N2 : Array Value) (s1 k1 l1 s2 k2 l2 : Int) (E : Array Value) (g0 g1 g2 g3 g4 g5 : Int) : landB (srun Tryd.prog goFns B 22 8 (rnC i W mb mo ms k dk) (heapO 0 (drO i W mb mo ms tanks A k dk ++ [(false, Obj.cells D 4 (0, 0))])) ((drO i W mb mo ms tanks A k dk ++ [(false, Obj.cells D 4 (0, 0))])).length
    [(3, Hint.call [7]
  (Value.agg
    #[Value.int IntKind.i64 s1, Value.int IntKind.i64 k1, Value.int IntKind.i64 l1,
      Value.slice (some { block := 7, off := 0 }) (Isl.nm i) 1,
      Value.slice (some { block := 8, off := 0 }) (Isl.nm i) 1,
      Value.slice (some { block := 9, off := 0 }) (Isl.nm i) 1])
  [(8, Obj.cells R1 3), (9, Obj.cells N1 3)] 10 []),
(6, Hint.call [7]
  (Value.agg
    #[Value.int IntKind.i64 s2, Value.int IntKind.i64 k2, Value.int IntKind.i64 l2,
      Value.slice (some { block := 7, off := 0 }) (Isl.nm i) 1,
      Value.slice (some { block := 10, off := 0 }) (Isl.nm i) 1,
      Value.slice (some { block := 11, off := 0 }) (Isl.nm i) 1])
  [(10, Obj.cells R2 3), (11, Obj.cells N2 3)] 12 []),
(16, Hint.call [7, 8, 9]
  (Value.tuple
    #[Value.slice (some { block := 13, off := 0 }) (Isl.nm i) 0,
      Value.agg
        #[Value.int IntKind.i64 g0, Value.int IntKind.i64 g1, Value.int IntKind.i64 g2, Value.int IntKind.i64 g3,
          Value.int IntKind.i64 g4, Value.int IntKind.i64 g5]])
  [(13, Obj.cells E 59 (1, 1))] 14 [])] 0 [] []) ((rnL i.nm s1 k1 l1 s2 k2 l2 0 0).map (·.1)) ((kz [0, 1, 2, 3, 4, 5, 6, 7, 8, 9, 10, 11, 13] (rnO i W mb mo ms tanks A k dk D R1 N1 R2 N2 E)).map (·.old)) = some (⟨27, 70, rnT.map (it (bodyOf Tryd.prog 27)), [], .run, some 6, (rnL i.nm s1 k1 l1 s2 k2 l2 0 0).map (fun p => rnV (rhoK (kz [0, 1, 2, 3, 4, 5, 6, 7, 8, 9, 10, 11, 13] (rnO i W mb mo ms tanks A k dk D R1 N1 R2 N2 E))) 3 p.2), (kz [0, 1, 2, 3, 4, 5, 6, 7, 8, 9, 10, 11, 13] (rnO i W mb mo ms tanks A k dk D R1 N1 R2 N2 E)).map (fun kept_ => some (wasK (rhoK (kz [0, 1, 2, 3, 4, 5, 6, 7, 8, 9, 10, 11, 13] (rnO i W mb mo ms tanks A k dk D R1 N1 R2 N2 E))) kept_)), 15,
    [CJ Tryd.prog B 26
  #[Value.agg
      #[Value.int IntKind.i64 (Isl.cap i), Value.int IntKind.i64 (Isl.sl i), Value.int IntKind.i64 (Isl.sh i),
        Value.int IntKind.i64 (Isl.roof i), Value.int IntKind.i64 (Isl.sand i), Value.int IntKind.i64 (Isl.kl i),
        Value.int IntKind.i64 (Isl.kh i), Value.int IntKind.i64 (Isl.ll i), Value.int IntKind.i64 (Isl.lh i),
        Value.int IntKind.i64 (Isl.pump i), Value.int IntKind.i64 (Isl.keep i), Value.int IntKind.i64 (Isl.size i), W,
        Value.slice (some { block := mb, off := mo, spot := some 0 }) (Isl.nm i) ms, Value.int IntKind.i64 (Isl.most i),
        Value.int IntKind.i64 (Isl.row i)],
    Value.int IntKind.i64 tanks,
    Value.agg
      #[Value.int IntKind.i64 s1, Value.int IntKind.i64 k1, Value.int IntKind.i64 l1,
        Value.slice (some { block := 7, off := 0 }) (Isl.nm i) 1,
        Value.slice (some { block := 8, off := 0 }) (Isl.nm i) 1,
        Value.slice (some { block := 9, off := 0 }) (Isl.nm i) 1]]
  [(7, some (Obj.cells D 4)), (8, some (Obj.cells R1 3)), (9, some (Obj.cells N1 3))] 13
  (Value.tuple
    #[Value.slice (some { block := 13, off := 0 }) (Isl.nm i) 0,
      Value.agg
        #[Value.int IntKind.i64 g0, Value.int IntKind.i64 g1, Value.int IntKind.i64 g2, Value.int IntKind.i64 g3,
          Value.int IntKind.i64 g4, Value.int IntKind.i64 g5]])
  [(13, Obj.cells E 59 (1, 1))] 14 [],
CJ Tryd.prog B 46
  #[Value.agg
      #[Value.int IntKind.i64 (Isl.cap i), Value.int IntKind.i64 (Isl.sl i), Value.int IntKind.i64 (Isl.sh i),
        Value.int IntKind.i64 (Isl.roof i), Value.int IntKind.i64 (Isl.sand i), Value.int IntKind.i64 (Isl.kl i),
        Value.int IntKind.i64 (Isl.kh i), Value.int IntKind.i64 (Isl.ll i), Value.int IntKind.i64 (Isl.lh i),
        Value.int IntKind.i64 (Isl.pump i), Value.int IntKind.i64 (Isl.keep i), Value.int IntKind.i64 (Isl.size i), W,
        Value.slice (some { block := mb, off := mo, spot := some 0 }) (Isl.nm i) ms, Value.int IntKind.i64 (Isl.most i),
        Value.int IntKind.i64 (Isl.row i)],
    Value.slice (some { block := 7, off := 0 }) (Isl.nm i) 1]
  [(7, some (Obj.cells D 4))] 10
  (Value.agg
    #[Value.int IntKind.i64 s2, Value.int IntKind.i64 k2, Value.int IntKind.i64 l2,
      Value.slice (some { block := 7, off := 0 }) (Isl.nm i) 1,
      Value.slice (some { block := 10, off := 0 }) (Isl.nm i) 1,
      Value.slice (some { block := 11, off := 0 }) (Isl.nm i) 1])
  [(10, Obj.cells R2 3), (11, Obj.cells N2 3)] 12 [],
CJ Tryd.prog B 37
  #[Value.agg
      #[Value.int IntKind.i64 (Isl.cap i), Value.int IntKind.i64 (Isl.sl i), Value.int IntKind.i64 (Isl.sh i),
        Value.int IntKind.i64 (Isl.roof i), Value.int IntKind.i64 (Isl.sand i), Value.int IntKind.i64 (Isl.kl i),
        Value.int IntKind.i64 (Isl.kh i), Value.int IntKind.i64 (Isl.ll i), Value.int IntKind.i64 (Isl.lh i),
        Value.int IntKind.i64 (Isl.pump i), Value.int IntKind.i64 (Isl.keep i), Value.int IntKind.i64 (Isl.size i), W,
        Value.slice (some { block := mb, off := mo, spot := some 0 }) (Isl.nm i) ms, Value.int IntKind.i64 (Isl.most i),
        Value.int IntKind.i64 (Isl.row i)],
    Value.slice (some { block := 7, off := 0 }) (Isl.nm i) 1]
  [(7, some (Obj.cells D 4))] 8
  (Value.agg
    #[Value.int IntKind.i64 s1, Value.int IntKind.i64 k1, Value.int IntKind.i64 l1,
      Value.slice (some { block := 7, off := 0 }) (Isl.nm i) 1,
      Value.slice (some { block := 8, off := 0 }) (Isl.nm i) 1,
      Value.slice (some { block := 9, off := 0 }) (Isl.nm i) 1])
  [(8, Obj.cells R1 3), (9, Obj.cells N1 3)] 10 []]⟩, [6]) := by kernel_rfl
set_option maxRecDepth 100000 in
theorem rn_month (B : Lo) (i : Isl) (W : Value) (mb mo ms : Nat) (tanks : Int) (A : Array Value) (k : Nat) (dk : Nat → Value) (D R1 N1 R2 N2 : Array Value) (s1 k1 l1 s2 k2 l2 : Int) (E A' : Array Value) (h m : Nat) (e0 e1 e2 b0 b1 b2 b3 b4 b5 c0 c1 c2 c3 c4 c5 : Int) (d : Nat → Value) : landB (srun Tryd.prog goFns B 13 8 (headR (some 6) 27 70 (rnL i.nm s1 k1 l1 s2 k2 l2 h m) d (rnT.map (it (bodyOf Tryd.prog 27)))) (heapO 0 (rnO i W mb mo ms tanks A k dk D R1 N1 R2 N2 E)) ((rnO i W mb mo ms tanks A k dk D R1 N1 R2 N2 E)).length
    [(0, Hint.val (Value.bool true)),
(2, Hint.idx m),
(3, Hint.ld (Value.agg #[Value.int IntKind.i64 e0, Value.int IntKind.i64 e1, Value.int IntKind.i64 e2])),
(11, Hint.idx m),
(12, Hint.ld
  (Value.agg
    #[Value.int IntKind.i64 b0, Value.int IntKind.i64 b1, Value.int IntKind.i64 b2, Value.int IntKind.i64 b3,
      Value.int IntKind.i64 b4, Value.int IntKind.i64 b5])),
(14, Hint.call []
  (Value.agg
    #[Value.int IntKind.i64 c0, Value.int IntKind.i64 c1, Value.int IntKind.i64 c2, Value.int IntKind.i64 c3,
      Value.int IntKind.i64 c4, Value.int IntKind.i64 c5])
  [] 14 []),
(15, Hint.idx m),
(16, Hint.st A'),
(17, Hint.val (Value.int IntKind.i64 ((↑m : Int) + 1)))] 0 [] []) ((rnL i.nm s1 k1 l1 s2 k2 l2 h (m + 1)).map (·.1)) ((kz [0, 1, 2, 3, 4, 5, 6, 7, 8, 9, 10, 11, 12] (rnO i W mb mo ms tanks A' k dk D R1 N1 R2 N2 E)).map (·.old)) = some (⟨27, 70, rnT.map (it (bodyOf Tryd.prog 27)), [], .run, some 6, (rnL i.nm s1 k1 l1 s2 k2 l2 h (m + 1)).map (fun p => rnV (rhoK (kz [0, 1, 2, 3, 4, 5, 6, 7, 8, 9, 10, 11, 12] (rnO i W mb mo ms tanks A' k dk D R1 N1 R2 N2 E))) 3 p.2), (kz [0, 1, 2, 3, 4, 5, 6, 7, 8, 9, 10, 11, 12] (rnO i W mb mo ms tanks A' k dk D R1 N1 R2 N2 E)).map (fun kept_ => some (wasK (rhoK (kz [0, 1, 2, 3, 4, 5, 6, 7, 8, 9, 10, 11, 12] (rnO i W mb mo ms tanks A' k dk D R1 N1 R2 N2 E))) kept_)), 14,
    [wq ((↑m : Int) + 1) = (↑m : Int) + 1,
0 + m * 6 + TypeInfo.size Tryd.t63 ≤ Array.size A ∧
  splice A (0 + m * 6)
      #[Value.int IntKind.i64 c0, Value.int IntKind.i64 c1, Value.int IntKind.i64 c2, Value.int IntKind.i64 c3,
        Value.int IntKind.i64 c4, Value.int IntKind.i64 c5] =
    A',
(↑m : Int) = (↑m : Int) ∧ m < Isl.nm i,
CJ Tryd.prog B 47
  #[Value.agg
      #[Value.int IntKind.i64 b0, Value.int IntKind.i64 b1, Value.int IntKind.i64 b2, Value.int IntKind.i64 b3,
        Value.int IntKind.i64 b4, Value.int IntKind.i64 b5],
    Value.agg #[Value.int IntKind.i64 e0, Value.int IntKind.i64 e1, Value.int IntKind.i64 e2]]
  [] 14
  (Value.agg
    #[Value.int IntKind.i64 c0, Value.int IntKind.i64 c1, Value.int IntKind.i64 c2, Value.int IntKind.i64 c3,
      Value.int IntKind.i64 c4, Value.int IntKind.i64 c5])
  [] 14 [],
0 + m * 6 + TypeInfo.size Tryd.t63 ≤ Array.size A ∧
  Array.extract A (0 + m * 6) (0 + m * 6 + TypeInfo.size Tryd.t63) =
    #[Value.int IntKind.i64 b0, Value.int IntKind.i64 b1, Value.int IntKind.i64 b2, Value.int IntKind.i64 b3,
      Value.int IntKind.i64 b4, Value.int IntKind.i64 b5],
(↑m : Int) = (↑m : Int) ∧ m < Isl.nm i,
0 + m * 3 + TypeInfo.size Tryd.t59 ≤ Array.size E ∧
  Array.extract E (0 + m * 3) (0 + m * 3 + TypeInfo.size Tryd.t59) =
    #[Value.int IntKind.i64 e0, Value.int IntKind.i64 e1, Value.int IntKind.i64 e2],
(↑m : Int) = (↑m : Int) ∧ m < Isl.nm i,
ltq (↑m : Int) (↑(Isl.nm i) : Int) = true]⟩, [2]) := by kernel_rfl
set_option maxRecDepth 100000 in
theorem rn_next (B : Lo) (i : Isl) (W : Value) (mb mo ms : Nat) (tanks : Int) (A : Array Value) (k : Nat) (dk : Nat → Value) (D R1 N1 R2 N2 : Array Value) (s1 k1 l1 s2 k2 l2 : Int) (E E' : Array Value) (m : Nat) (g0 g1 g2 g3 g4 g5 : Int) (d : Nat → Value) : landB (srun Tryd.prog goFns B 23 8 (headR (some 6) 27 70 (rnL i.nm s1 k1 l1 s2 k2 l2 0 m) d (rnT.map (it (bodyOf Tryd.prog 27)))) (heapO 0 (rnO i W mb mo ms tanks A k dk D R1 N1 R2 N2 E)) ((rnO i W mb mo ms tanks A k dk D R1 N1 R2 N2 E)).length
    [(0, Hint.val (Value.bool false)),
(10, Hint.call [7, 10, 11]
  (Value.tuple
    #[Value.slice (some { block := 14, off := 0 }) (Isl.nm i) 0,
      Value.agg
        #[Value.int IntKind.i64 g0, Value.int IntKind.i64 g1, Value.int IntKind.i64 g2, Value.int IntKind.i64 g3,
          Value.int IntKind.i64 g4, Value.int IntKind.i64 g5]])
  [(14, Obj.cells E' 59 (1, 1))] 15 [])] 0 [] []) ((rnL i.nm s1 k1 l1 s2 k2 l2 1 0).map (·.1)) ((kz [0, 1, 2, 3, 4, 5, 6, 7, 8, 9, 10, 11, 14] (rnO i W mb mo ms tanks A k dk D R1 N1 R2 N2 E')).map (·.old)) = some (⟨27, 70, rnT.map (it (bodyOf Tryd.prog 27)), [], .run, some 6, (rnL i.nm s1 k1 l1 s2 k2 l2 1 0).map (fun p => rnV (rhoK (kz [0, 1, 2, 3, 4, 5, 6, 7, 8, 9, 10, 11, 14] (rnO i W mb mo ms tanks A k dk D R1 N1 R2 N2 E'))) 3 p.2), (kz [0, 1, 2, 3, 4, 5, 6, 7, 8, 9, 10, 11, 14] (rnO i W mb mo ms tanks A k dk D R1 N1 R2 N2 E')).map (fun kept_ => some (wasK (rhoK (kz [0, 1, 2, 3, 4, 5, 6, 7, 8, 9, 10, 11, 14] (rnO i W mb mo ms tanks A k dk D R1 N1 R2 N2 E'))) kept_)), 16,
    [CJ Tryd.prog B 26
  #[Value.agg
      #[Value.int IntKind.i64 (Isl.cap i), Value.int IntKind.i64 (Isl.sl i), Value.int IntKind.i64 (Isl.sh i),
        Value.int IntKind.i64 (Isl.roof i), Value.int IntKind.i64 (Isl.sand i), Value.int IntKind.i64 (Isl.kl i),
        Value.int IntKind.i64 (Isl.kh i), Value.int IntKind.i64 (Isl.ll i), Value.int IntKind.i64 (Isl.lh i),
        Value.int IntKind.i64 (Isl.pump i), Value.int IntKind.i64 (Isl.keep i), Value.int IntKind.i64 (Isl.size i), W,
        Value.slice (some { block := mb, off := mo, spot := some 0 }) (Isl.nm i) ms, Value.int IntKind.i64 (Isl.most i),
        Value.int IntKind.i64 (Isl.row i)],
    Value.int IntKind.i64 tanks,
    Value.agg
      #[Value.int IntKind.i64 s2, Value.int IntKind.i64 k2, Value.int IntKind.i64 l2,
        Value.slice (some { block := 7, off := 0 }) (Isl.nm i) 1,
        Value.slice (some { block := 10, off := 0 }) (Isl.nm i) 1,
        Value.slice (some { block := 11, off := 0 }) (Isl.nm i) 1]]
  [(7, some (Obj.cells D 4)), (10, some (Obj.cells R2 3)), (11, some (Obj.cells N2 3))] 14
  (Value.tuple
    #[Value.slice (some { block := 14, off := 0 }) (Isl.nm i) 0,
      Value.agg
        #[Value.int IntKind.i64 g0, Value.int IntKind.i64 g1, Value.int IntKind.i64 g2, Value.int IntKind.i64 g3,
          Value.int IntKind.i64 g4, Value.int IntKind.i64 g5]])
  [(14, Obj.cells E' 59 (1, 1))] 15 [],
ltq (↑m : Int) (↑(Isl.nm i) : Int) = false]⟩, []) := by kernel_rfl
set_option maxRecDepth 100000 in
theorem rn_end (B : Lo) (i : Isl) (W : Value) (mb mo ms : Nat) (tanks : Int) (A : Array Value) (k : Nat) (dk : Nat → Value) (D R1 N1 R2 N2 : Array Value) (s1 k1 l1 s2 k2 l2 : Int) (E : Array Value) (m : Nat) (d : Nat → Value) : endedB (srun Tryd.prog goFns B 15 8 (headR (some 6) 27 70 (rnL i.nm s1 k1 l1 s2 k2 l2 1 m) d (rnT.map (it (bodyOf Tryd.prog 27)))) (heapO 0 (rnO i W mb mo ms tanks A k dk D R1 N1 R2 N2 E)) ((rnO i W mb mo ms tanks A k dk D R1 N1 R2 N2 E)).length
    [(0, Hint.val (Value.bool false))] 0 [] []) ((kz [0, 1, 2, 3, 4, 5, 6, 7] (drO i W mb mo ms tanks A k dk ++ [(false, Obj.cells D 4 (0, 0))])).map (·.old)) = some (⟨.ret (rnV (rhoK (kz [0, 1, 2, 3, 4, 5, 6, 7] (drO i W mb mo ms tanks A k dk ++ [(false, Obj.cells D 4 (0, 0))]))) 3 (.bool true)), (kz [0, 1, 2, 3, 4, 5, 6, 7] (drO i W mb mo ms tanks A k dk ++ [(false, Obj.cells D 4 (0, 0))])).map (fun kept_ => some (wasK (rhoK (kz [0, 1, 2, 3, 4, 5, 6, 7] (drO i W mb mo ms tanks A k dk ++ [(false, Obj.cells D 4 (0, 0))]))) kept_)), 13,
    [ltq (↑m : Int) (↑(Isl.nm i) : Int) = false]⟩, [6]) := by kernel_rfl
end Go.Proofs.YtffdidleebognaaDoor

