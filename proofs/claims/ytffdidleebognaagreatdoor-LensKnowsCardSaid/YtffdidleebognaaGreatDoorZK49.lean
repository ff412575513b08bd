/- Contract of the reference's End at a list that stands in memory that nobody writes. -/
import Derived.Test.YtffdidleebognaaGreatDoorZK48
import Derived.Test.YtffdidleebognaaGreatDoorZK23
import Derived.Test.YtffdidleebognaaGreatDoorZK43
import Derived.Test.YtffdidleebognaaGreatDoorZK33
import Derived.Test.YtffdidleebognaaGreatDoorZK14
import Derived.Test.YtffdidleebognaaGreatDoorZK17
namespace Go.Proofs.YtffdidleebognaaGreatDoor
open Go Go.CE Go.Proofs Go.RowKit Lens
def erO (i : Isl) (W : Value) (mb mo ms : Nat) (a b c : Int) (db do_ nd z : Nat) (R N : Value) : List (Bool × Obj) :=
  [(false, .cells (islC i W (.slice (some ⟨mb, mo, some 0⟩) i.nm ms)) 27 (0, 0)),
   (true, .cells #[.int .i64 0, .int .i64 0, .int .i64 0, .slice none 0 0, .slice none 0 0, .slice none 0 0] 40 (0, 0)),
   (true, .cells #[.int .i64 a, .int .i64 b, .int .i64 c, .slice (some ⟨db, do_, some 0⟩) nd z, R, N] 40 (0, 0))]
def erL (db do_ nd z k : Nat) (much : Bool) : List (Nat × Value) :=
  [(1, .slice (some ⟨db, do_, some 0⟩) nd z), (2, .bool much), (3, .pointer (some ⟨0, 0, none⟩)), (6, .pointer (some ⟨1, 0, none⟩)), (7, .pointer (some ⟨2, 0, none⟩)), (8, .int .i64 k)]
set_option maxRecDepth 100000 in
theorem ler_entry (B : Lo) (i : Isl) (W : Value) (mb mo ms db do_ nd z : Nat) : landB (srun Tryz.prog goFns B 14 0 (entryC Tryz.prog 29 91 [.agg (islC i W (.slice (some ⟨mb, mo, some 0⟩) i.nm ms)), .slice (some ⟨db, do_, some 0⟩) nd z, .bool false]) (heapO 0 ([] : List (Bool × Obj))) 0
    [] 0 [] []) ((erL db do_ nd z 0 false).map (·.1)) ((kz [0, 1, 2] (erO i W mb mo ms i.sl i.kl i.lh db do_ nd z (.slice none 0 0) (.slice none 0 0))).map (·.old)) = some (⟨29, 91, enT.map (it (bodyOf Tryz.prog 29)), [], .run, none, (erL db do_ nd z 0 false).map (fun p => rnV (rhoK (kz [0, 1, 2] (erO i W mb mo ms i.sl i.kl i.lh db do_ nd z (.slice none 0 0) (.slice none 0 0)))) 3 p.2), (kz [0, 1, 2] (erO i W mb mo ms i.sl i.kl i.lh db do_ nd z (.slice none 0 0) (.slice none 0 0))).map (fun kept_ => some (wasK (rhoK (kz [0, 1, 2] (erO i W mb mo ms i.sl i.kl i.lh db do_ nd z (.slice none 0 0) (.slice none 0 0)))) kept_)), 3,
    []⟩, []) := by kernel_rfl
set_option maxRecDepth 100000 in
theorem ler_first (B : Lo) (i : Isl) (W : Value) (mb mo ms db do_ nd z : Nat) (a b c : Int) (m : Mon) (y : Bool) (r0 r1 : Int) (d : Nat → Value) : landB (srun Tryz.prog goFns B 18 0 (headC 29 91 (erL db do_ nd z 0 false) d (enT.map (it (bodyOf Tryz.prog 29)))) (heapO 0 (erO i W mb mo ms a b c db do_ nd z (.slice none 0 0) (.slice none 0 0))) ((erO i W mb mo ms a b c db do_ nd z (.slice none 0 0) (.slice none 0 0))).length
    [(4, Hint.val (Value.bool true)),
(8, Hint.idx 0),
(9, Hint.raw
  (Value.agg
    #[Value.int IntKind.i64 (Mon.wl m), Value.int IntKind.i64 (Mon.wh m), Value.int IntKind.i64 (Mon.dl m),
      Value.int IntKind.i64 (Mon.dh m), Value.int IntKind.i64 (Mon.nl m), Value.int IntKind.i64 (Mon.nh m)])),
(12, Hint.idx 0),
(13, Hint.raw (Value.bool y)),
(14, Hint.call [] (Value.agg #[Value.int IntKind.i64 r0, Value.int IntKind.i64 r1]) [] 3 []),
(19, Hint.idx 0),
(22, Hint.raw (Value.int IntKind.i64 (Mon.nh m)))] 0 [] []) ((erL db do_ nd z 1 false).map (·.1)) ((kz [0, 1, 2, 4, 6] (erO i W mb mo ms a b c db do_ nd z (.slice (some ⟨3, 0, none⟩) 1 1) (.slice (some ⟨4, 0, none⟩) 1 1) ++ [(false, Obj.cells #[.int .i64 r0] 3 (0, 0)), (false, Obj.cells #[.int .i64 m.nh] 3 (0, 0))])).map (·.old)) = some (⟨29, 91, enT.map (it (bodyOf Tryz.prog 29)), [], .run, none, (erL db do_ nd z 1 false).map (fun p => rnV (rhoK (kz [0, 1, 2, 4, 6] (erO i W mb mo ms a b c db do_ nd z (.slice (some ⟨3, 0, none⟩) 1 1) (.slice (some ⟨4, 0, none⟩) 1 1) ++ [(false, Obj.cells #[.int .i64 r0] 3 (0, 0)), (false, Obj.cells #[.int .i64 m.nh] 3 (0, 0))]))) 3 p.2), (kz [0, 1, 2, 4, 6] (erO i W mb mo ms a b c db do_ nd z (.slice (some ⟨3, 0, none⟩) 1 1) (.slice (some ⟨4, 0, none⟩) 1 1) ++ [(false, Obj.cells #[.int .i64 r0] 3 (0, 0)), (false, Obj.cells #[.int .i64 m.nh] 3 (0, 0))])).map (fun kept_ => some (wasK (rhoK (kz [0, 1, 2, 4, 6] (erO i W mb mo ms a b c db do_ nd z (.slice (some ⟨3, 0, none⟩) 1 1) (.slice (some ⟨4, 0, none⟩) 1 1) ++ [(false, Obj.cells #[.int .i64 r0] 3 (0, 0)), (false, Obj.cells #[.int .i64 m.nh] 3 (0, 0))]))) kept_)), 7,
    [RawCell B mb (mo + 0 + 4 + 1) (Value.int IntKind.i64 (Mon.nh m)),
0 = (↑0 : Int) ∧ 0 < Isl.nm i,
CJ Tryz.prog B 46
  #[Value.agg
      #[Value.int IntKind.i64 (Mon.wl m), Value.int IntKind.i64 (Mon.wh m), Value.int IntKind.i64 (Mon.dl m),
        Value.int IntKind.i64 (Mon.dh m), Value.int IntKind.i64 (Mon.nl m), Value.int IntKind.i64 (Mon.nh m)],
    Value.bool y]
  [] 3 (Value.agg #[Value.int IntKind.i64 r0, Value.int IntKind.i64 r1]) [] 3 [],
RawCell B db (do_ + 0) (Value.bool y),
0 = (↑0 : Int) ∧ 0 < nd,
∀ (j : Nat) (u : Value),
  #[Value.int IntKind.i64 (Mon.wl m), Value.int IntKind.i64 (Mon.wh m), Value.int IntKind.i64 (Mon.dl m),
          Value.int IntKind.i64 (Mon.dh m), Value.int IntKind.i64 (Mon.nl m), Value.int IntKind.i64 (Mon.nh m)][j]? =
      some u →
    RawCell B mb (mo + 0 + j) u,
0 = (↑0 : Int) ∧ 0 < Isl.nm i,
ltq 0 (↑(Isl.nm i) : Int) = true]⟩, []) := by kernel_rfl
set_option maxRecDepth 100000 in
theorem ler_round (B : Lo) (i : Isl) (W : Value) (mb mo ms db do_ nd z k : Nat) (a b c : Int) (m : Mon) (y : Bool) (r0 r1 : Int) (X Y : Array Value) (d : Nat → Value) : landB (srun Tryz.prog goFns B 18 0 (headC 29 91 (erL db do_ nd z k false) d (enT.map (it (bodyOf Tryz.prog 29)))) (heapO 0 (erO i W mb mo ms a b c db do_ nd z (.slice (some ⟨3, 0, none⟩) k 1) (.slice (some ⟨4, 0, none⟩) k 1) ++ [(false, Obj.cells X 3 (0, 0)), (false, Obj.cells Y 3 (0, 0))])) ((erO i W mb mo ms a b c db do_ nd z (.slice (some ⟨3, 0, none⟩) k 1) (.slice (some ⟨4, 0, none⟩) k 1) ++ [(false, Obj.cells X 3 (0, 0)), (false, Obj.cells Y 3 (0, 0))])).length
    [(4, Hint.val (Value.bool true)),
(8, Hint.idx k),
(9, Hint.raw
  (Value.agg
    #[Value.int IntKind.i64 (Mon.wl m), Value.int IntKind.i64 (Mon.wh m), Value.int IntKind.i64 (Mon.dl m),
      Value.int IntKind.i64 (Mon.dh m), Value.int IntKind.i64 (Mon.nl m), Value.int IntKind.i64 (Mon.nh m)])),
(12, Hint.idx k),
(13, Hint.raw (Value.bool y)),
(14, Hint.call [] (Value.agg #[Value.int IntKind.i64 r0, Value.int IntKind.i64 r1]) [] 5 []),
(19, Hint.idx k),
(22, Hint.raw (Value.int IntKind.i64 (Mon.nh m))),
(30, Hint.app (X ++ #[Value.int IntKind.i64 r0])),
(35, Hint.app (Y ++ #[Value.int IntKind.i64 (Mon.nh m)])),
(41, Hint.val (Value.int IntKind.i64 ((↑k : Int) + 1)))] 0 [] []) ((erL db do_ nd z (k + 1) false).map (·.1)) ((kz [0, 1, 2, 6, 8] (erO i W mb mo ms a b c db do_ nd z (.slice (some ⟨3, 0, none⟩) (k + 1) 1) (.slice (some ⟨4, 0, none⟩) (k + 1) 1) ++ [(false, Obj.cells (X ++ #[.int .i64 r0]) 3 (0, 0)), (false, Obj.cells (Y ++ #[.int .i64 m.nh]) 3 (0, 0))])).map (·.old)) = some (⟨29, 91, enT.map (it (bodyOf Tryz.prog 29)), [], .run, none, (erL db do_ nd z (k + 1) false).map (fun p => rnV (rhoK (kz [0, 1, 2, 6, 8] (erO i W mb mo ms a b c db do_ nd z (.slice (some ⟨3, 0, none⟩) (k + 1) 1) (.slice (some ⟨4, 0, none⟩) (k + 1) 1) ++ [(false, Obj.cells (X ++ #[.int .i64 r0]) 3 (0, 0)), (false, Obj.cells (Y ++ #[.int .i64 m.nh]) 3 (0, 0))]))) 3 p.2), (kz [0, 1, 2, 6, 8] (erO i W mb mo ms a b c db do_ nd z (.slice (some ⟨3, 0, none⟩) (k + 1) 1) (.slice (some ⟨4, 0, none⟩) (k + 1) 1) ++ [(false, Obj.cells (X ++ #[.int .i64 r0]) 3 (0, 0)), (false, Obj.cells (Y ++ #[.int .i64 m.nh]) 3 (0, 0))])).map (fun kept_ => some (wasK (rhoK (kz [0, 1, 2, 6, 8] (erO i W mb mo ms a b c db do_ nd z (.slice (some ⟨3, 0, none⟩) (k + 1) 1) (.slice (some ⟨4, 0, none⟩) (k + 1) 1) ++ [(false, Obj.cells (X ++ #[.int .i64 r0]) 3 (0, 0)), (false, Obj.cells (Y ++ #[.int .i64 m.nh]) 3 (0, 0))]))) kept_)), 9,
    [wq ((↑k : Int) + 1) = (↑k : Int) + 1,
Array.size Y = k * (0 + 1) ∧
  k + 1 ≤ maxLen ∧
    (k + 1) * TypeInfo.bytes Tryz.t3 ≤ 140737488355328 ∧
      Y ++ Array.extract #[Value.int IntKind.i64 (Mon.nh m)] 0 (0 + 1 * (0 + 1)) =
        Y ++ #[Value.int IntKind.i64 (Mon.nh m)],
Array.size X = k * (0 + 1) ∧
  k + 1 ≤ maxLen ∧
    (k + 1) * TypeInfo.bytes Tryz.t3 ≤ 140737488355328 ∧
      X ++ Array.extract #[Value.int IntKind.i64 r0] 0 (0 + 1 * (0 + 1)) = X ++ #[Value.int IntKind.i64 r0],
RawCell B mb (mo + k * 6 + 4 + 1) (Value.int IntKind.i64 (Mon.nh m)),
(↑k : Int) = (↑k : Int) ∧ k < Isl.nm i,
CJ Tryz.prog B 46
  #[Value.agg
      #[Value.int IntKind.i64 (Mon.wl m), Value.int IntKind.i64 (Mon.wh m), Value.int IntKind.i64 (Mon.dl m),
        Value.int IntKind.i64 (Mon.dh m), Value.int IntKind.i64 (Mon.nl m), Value.int IntKind.i64 (Mon.nh m)],
    Value.bool y]
  [] 5 (Value.agg #[Value.int IntKind.i64 r0, Value.int IntKind.i64 r1]) [] 5 [],
RawCell B db (do_ + k * 1) (Value.bool y),
(↑k : Int) = (↑k : Int) ∧ k < nd,
∀ (j : Nat) (u : Value),
  #[Value.int IntKind.i64 (Mon.wl m), Value.int IntKind.i64 (Mon.wh m), Value.int IntKind.i64 (Mon.dl m),
          Value.int IntKind.i64 (Mon.dh m), Value.int IntKind.i64 (Mon.nl m), Value.int IntKind.i64 (Mon.nh m)][j]? =
      some u →
    RawCell B mb (mo + k * 6 + j) u,
(↑k : Int) = (↑k : Int) ∧ k < Isl.nm i,
ltq (↑k : Int) (↑(Isl.nm i) : Int) = true]⟩, []) := by kernel_rfl
set_option maxRecDepth 100000 in
theorem ler_end (B : Lo) (i : Isl) (W : Value) (mb mo ms db do_ nd z k : Nat) (a b c : Int) (X Y : Array Value) (d : Nat → Value) : endedB (srun Tryz.prog goFns B 9 0 (headC 29 91 (erL db do_ nd z k false) d (enT.map (it (bodyOf Tryz.prog 29)))) (heapO 0 (erO i W mb mo ms a b c db do_ nd z (.slice (some ⟨3, 0, none⟩) k 1) (.slice (some ⟨4, 0, none⟩) k 1) ++ [(false, Obj.cells X 3 (0, 0)), (false, Obj.cells Y 3 (0, 0))])) ((erO i W mb mo ms a b c db do_ nd z (.slice (some ⟨3, 0, none⟩) k 1) (.slice (some ⟨4, 0, none⟩) k 1) ++ [(false, Obj.cells X 3 (0, 0)), (false, Obj.cells Y 3 (0, 0))])).length
    [(4, Hint.val (Value.bool false))] 0 [] []) ((kz [3, 4] [(false, .cells X 3 (0, 0)), (false, .cells Y 3 (0, 0))]).map (·.old)) = some (⟨.ret (rnV (rhoK (kz [3, 4] [(false, .cells X 3 (0, 0)), (false, .cells Y 3 (0, 0))])) 3 (.agg #[.int .i64 a, .int .i64 b, .int .i64 c, .slice (some ⟨db, do_, some 0⟩) nd z, .slice (some ⟨0, 0, none⟩) k 1, .slice (some ⟨1, 0, none⟩) k 1])), (kz [3, 4] [(false, .cells X 3 (0, 0)), (false, .cells Y 3 (0, 0))]).map (fun kept_ => some (wasK (rhoK (kz [3, 4] [(false, .cells X 3 (0, 0)), (false, .cells Y 3 (0, 0))])) kept_)), 5,
    [ltq (↑k : Int) (↑(Isl.nm i) : Int) = false]⟩, []) := by kernel_rfl
set_option maxRecDepth 100000 in
theorem her_entry (B : Lo) (i : Isl) (W : Value) (mb mo ms db do_ nd z : Nat) : landB (srun Tryz.prog goFns B 14 0 (entryC Tryz.prog 29 91 [.agg (islC i W (.slice (some ⟨mb, mo, some 0⟩) i.nm ms)), .slice (some ⟨db, do_, some 0⟩) nd z, .bool true]) (heapO 0 ([] : List (Bool × Obj))) 0
    [] 0 [] []) ((erL db do_ nd z 0 true).map (·.1)) ((kz [0, 1, 2] (erO i W mb mo ms i.sh i.kh i.ll db do_ nd z (.slice none 0 0) (.slice none 0 0))).map (·.old)) = some (⟨29, 91, enT.map (it (bodyOf Tryz.prog 29)), [], .run, none, (erL db do_ nd z 0 true).map (fun p => rnV (rhoK (kz [0, 1, 2] (erO i W mb mo ms i.sh i.kh i.ll db do_ nd z (.slice none 0 0) (.slice none 0 0)))) 3 p.2), (kz [0, 1, 2] (erO i W mb mo ms i.sh i.kh i.ll db do_ nd z (.slice none 0 0) (.slice none 0 0))).map (fun kept_ => some (wasK (rhoK (kz [0, 1, 2] (erO i W mb mo ms i.sh i.kh i.ll db do_ nd z (.slice none 0 0) (.slice none 0 0)))) kept_)), 3,
    []⟩, []) := by kernel_rfl
set_option maxRecDepth 100000 in
theorem her_first (B : Lo) (i : Isl) (W : Value) (mb mo ms db do_ nd z : Nat) (a b c : Int) (m : Mon) (y : Bool) (r0 r1 : Int) (d : Nat → Value) : landB (srun Tryz.prog goFns B 18 0 (headC 29 91 (erL db do_ nd z 0 true) d (enT.map (it (bodyOf Tryz.prog 29)))) (heapO 0 (erO i W mb mo ms a b c db do_ nd z (.slice none 0 0) (.slice none 0 0))) ((erO i W mb mo ms a b c db do_ nd z (.slice none 0 0) (.slice none 0 0))).length
    [(4, Hint.val (Value.bool true)),
(8, Hint.idx 0),
(9, Hint.raw
  (Value.agg
    #[Value.int IntKind.i64 (Mon.wl m), Value.int IntKind.i64 (Mon.wh m), Value.int IntKind.i64 (Mon.dl m),
      Value.int IntKind.i64 (Mon.dh m), Value.int IntKind.i64 (Mon.nl m), Value.int IntKind.i64 (Mon.nh m)])),
(12, Hint.idx 0),
(13, Hint.raw (Value.bool y)),
(14, Hint.call [] (Value.agg #[Value.int IntKind.i64 r0, Value.int IntKind.i64 r1]) [] 3 []),
(19, Hint.idx 0),
(22, Hint.raw (Value.int IntKind.i64 (Mon.nh m))),
(29, Hint.idx 0),
(30, Hint.raw
  (Value.agg
    #[Value.int IntKind.i64 (Mon.wl m), Value.int IntKind.i64 (Mon.wh m), Value.int IntKind.i64 (Mon.dl m),
      Value.int IntKind.i64 (Mon.dh m), Value.int IntKind.i64 (Mon.nl m), Value.int IntKind.i64 (Mon.nh m)])),
(33, Hint.idx 0),
(34, Hint.raw (Value.bool y)),
(35, Hint.call [] (Value.agg #[Value.int IntKind.i64 r0, Value.int IntKind.i64 r1]) [] 3 []),
(40, Hint.idx 0),
(43, Hint.raw (Value.int IntKind.i64 (Mon.nl m)))] 0 [] []) ((erL db do_ nd z 1 true).map (·.1)) ((kz [0, 1, 2, 4, 6] (erO i W mb mo ms a b c db do_ nd z (.slice (some ⟨3, 0, none⟩) 1 1) (.slice (some ⟨4, 0, none⟩) 1 1) ++ [(false, Obj.cells #[.int .i64 r1] 3 (0, 0)), (false, Obj.cells #[.int .i64 m.nl] 3 (0, 0))])).map (·.old)) = some (⟨29, 91, enT.map (it (bodyOf Tryz.prog 29)), [], .run, none, (erL db do_ nd z 1 true).map (fun p => rnV (rhoK (kz [0, 1, 2, 4, 6] (erO i W mb mo ms a b c db do_ nd z (.slice (some ⟨3, 0, none⟩) 1 1) (.slice (some ⟨4, 0, none⟩) 1 1) ++ [(false, Obj.cells #[.int .i64 r1] 3 (0, 0)), (false, Obj.cells #[.int .i64 m.nl] 3 (0, 0))]))) 3 p.2), (kz [0, 1, 2, 4, 6] (erO i W mb mo ms a b c db do_ nd z (.slice (some ⟨3, 0, none⟩) 1 1) (.slice (some ⟨4, 0, none⟩) 1 1) ++ [(false, Obj.cells #[.int .i64 r1] 3 (0, 0)), (false, Obj.cells #[.int .i64 m.nl] 3 (0, 0))])).map (fun kept_ => some (wasK (rhoK (kz [0, 1, 2, 4, 6] (erO i W mb mo ms a b c db do_ nd z (.slice (some ⟨3, 0, none⟩) 1 1) (.slice (some ⟨4, 0, none⟩) 1 1) ++ [(false, Obj.cells #[.int .i64 r1] 3 (0, 0)), (false, Obj.cells #[.int .i64 m.nl] 3 (0, 0))]))) kept_)), 7,
    [RawCell B mb (mo + 0 + 4 + 0) (Value.int IntKind.i64 (Mon.nl m)),
0 = (↑0 : Int) ∧ 0 < Isl.nm i,
CJ Tryz.prog B 46
  #[Value.agg
      #[Value.int IntKind.i64 (Mon.wl m), Value.int IntKind.i64 (Mon.wh m), Value.int IntKind.i64 (Mon.dl m),
        Value.int IntKind.i64 (Mon.dh m), Value.int IntKind.i64 (Mon.nl m), Value.int IntKind.i64 (Mon.nh m)],
    Value.bool y]
  [] 3 (Value.agg #[Value.int IntKind.i64 r0, Value.int IntKind.i64 r1]) [] 3 [],
RawCell B db (do_ + 0) (Value.bool y),
0 = (↑0 : Int) ∧ 0 < nd,
∀ (j : Nat) (u : Value),
  #[Value.int IntKind.i64 (Mon.wl m), Value.int IntKind.i64 (Mon.wh m), Value.int IntKind.i64 (Mon.dl m),
          Value.int IntKind.i64 (Mon.dh m), Value.int IntKind.i64 (Mon.nl m), Value.int IntKind.i64 (Mon.nh m)][j]? =
      some u →
    RawCell B mb (mo + 0 + j) u,
0 = (↑0 : Int) ∧ 0 < Isl.nm i,
RawCell B mb (mo + 0 + 4 + 1) (Value.int IntKind.i64 (Mon.nh m)),
0 = (↑0 : Int) ∧ 0 < Isl.nm i,
CJ Tryz.prog B 46
  #[Value.agg
      #[Value.int IntKind.i64 (Mon.wl m), Value.int IntKind.i64 (Mon.wh m), Value.int IntKind.i64 (Mon.dl m),
        Value.int IntKind.i64 (Mon.dh m), Value.int IntKind.i64 (Mon.nl m), Value.int IntKind.i64 (Mon.nh m)],
    Value.bool y]
  [] 3 (Value.agg #[Value.int IntKind.i64 r0, Value.int IntKind.i64 r1]) [] 3 [],
RawCell B db (do_ + 0) (Value.bool y),
0 = (↑0 : Int) ∧ 0 < nd,
∀ (j : Nat) (u : Value),
  #[Value.int IntKind.i64 (Mon.wl m), Value.int IntKind.i64 (Mon.wh m), Value.int IntKind.i64 (Mon.dl m),
          Value.int IntKind.i64 (Mon.dh m), Value.int IntKind.i64 (Mon.nl m), Value.int IntKind.i64 (Mon.nh m)][j]? =
      some u →
    RawCell B mb (mo + 0 + j) u,
0 = (↑0 : Int) ∧ 0 < Isl.nm i,
ltq 0 (↑(Isl.nm i) : Int) = true]⟩, []) := by kernel_rfl
set_option maxRecDepth 100000 in
theorem her_round (B : Lo) (i : Isl) (W : Value) (mb mo ms db do_ nd z k : Nat) (a b c : Int) (m : Mon) (y : Bool) (r0 r1 : Int) (X Y : Array Value) (d : Nat → Value) : landB (srun Tryz.prog goFns B 18 0 (headC 29 91 (erL db do_ nd z k true) d (enT.map (it (bodyOf Tryz.prog 29)))) (heapO 0 (erO i W mb mo ms a b c db do_ nd z (.slice (some ⟨3, 0, none⟩) k 1) (.slice (some ⟨4, 0, none⟩) k 1) ++ [(false, Obj.cells X 3 (0, 0)), (false, Obj.cells Y 3 (0, 0))])) ((erO i W mb mo ms a b c db do_ nd z (.slice (some ⟨3, 0, none⟩) k 1) (.slice (some ⟨4, 0, none⟩) k 1) ++ [(false, Obj.cells X 3 (0, 0)), (false, Obj.cells Y 3 (0, 0))])).length
    [(4, Hint.val (Value.bool true)),
(8, Hint.idx k),
(9, Hint.raw
  (Value.agg
    #[Value.int IntKind.i64 (Mon.wl m), Value.int IntKind.i64 (Mon.wh m), Value.int IntKind.i64 (Mon.dl m),
      Value.int IntKind.i64 (Mon.dh m), Value.int IntKind.i64 (Mon.nl m), Value.int IntKind.i64 (Mon.nh m)])),
(12, Hint.idx k),
(13, Hint.raw (Value.bool y)),
(14, Hint.call [] (Value.agg #[Value.int IntKind.i64 r0, Value.int IntKind.i64 r1]) [] 5 []),
(19, Hint.idx k),
(22, Hint.raw (Value.int IntKind.i64 (Mon.nh m))),
(29, Hint.idx k),
(30, Hint.raw
  (Value.agg
    #[Value.int IntKind.i64 (Mon.wl m), Value.int IntKind.i64 (Mon.wh m), Value.int IntKind.i64 (Mon.dl m),
      Value.int IntKind.i64 (Mon.dh m), Value.int IntKind.i64 (Mon.nl m), Value.int IntKind.i64 (Mon.nh m)])),
(33, Hint.idx k),
(34, Hint.raw (Value.bool y)),
(35, Hint.call [] (Value.agg #[Value.int IntKind.i64 r0, Value.int IntKind.i64 r1]) [] 5 []),
(40, Hint.idx k),
(43, Hint.raw (Value.int IntKind.i64 (Mon.nl m))),
(50, Hint.app (X ++ #[Value.int IntKind.i64 r1])),
(55, Hint.app (Y ++ #[Value.int IntKind.i64 (Mon.nl m)])),
(61, Hint.val (Value.int IntKind.i64 ((↑k : Int) + 1)))] 0 [] []) ((erL db do_ nd z (k + 1) true).map (·.1)) ((kz [0, 1, 2, 6, 8] (erO i W mb mo ms a b c db do_ nd z (.slice (some ⟨3, 0, none⟩) (k + 1) 1) (.slice (some ⟨4, 0, none⟩) (k + 1) 1) ++ [(false, Obj.cells (X ++ #[.int .i64 r1]) 3 (0, 0)), (false, Obj.cells (Y ++ #[.int .i64 m.nl]) 3 (0, 0))])).map (·.old)) = some (⟨29, 91, enT.map (it (bodyOf Tryz.prog 29)), [], .run, none, (erL db do_ nd z (k + 1) true).map (fun p => rnV (rhoK (kz [0, 1, 2, 6, 8] (erO i W mb mo ms a b c db do_ nd z (.slice (some ⟨3, 0, none⟩) (k + 1) 1) (.slice (some ⟨4, 0, none⟩) (k + 1) 1) ++ [(false, Obj.cells (X ++ #[.int .i64 r1]) 3 (0, 0)), (false, Obj.cells (Y ++ #[.int .i64 m.nl]) 3 (0, 0))]))) 3 p.2), (kz [0, 1, 2, 6, 8] (erO i W mb mo ms a b c db do_ nd z (.slice (some ⟨3, 0, none⟩) (k + 1) 1) (.slice (some ⟨4, 0, none⟩) (k + 1) 1) ++ [(false, Obj.cells (X ++ #[.int .i64 r1]) 3 (0, 0)), (false, Obj.cells (Y ++ #[.int .i64 m.nl]) 3 (0, 0))])).map (fun kept_ => some (wasK (rhoK (kz [0, 1, 2, 6, 8] (erO i W mb mo ms a b c db do_ nd z (.slice (some ⟨3, 0, none⟩) (k + 1) 1) (.slice (some ⟨4, 0, none⟩) (k + 1) 1) ++ [(false, Obj.cells (X ++ #[.int .i64 r1]) 3 (0, 0)), (false, Obj.cells (Y ++ #[.int .i64 m.nl]) 3 (0, 0))]))) kept_)), 9,
    [wq ((↑k : Int) + 1) = (↑k : Int) + 1,
Array.size Y = k * (0 + 1) ∧
  k + 1 ≤ maxLen ∧
    (k + 1) * TypeInfo.bytes Tryz.t3 ≤ 140737488355328 ∧
      Y ++ Array.extract #[Value.int IntKind.i64 (Mon.nl m)] 0 (0 + 1 * (0 + 1)) =
        Y ++ #[Value.int IntKind.i64 (Mon.nl m)],
Array.size X = k * (0 + 1) ∧
  k + 1 ≤ maxLen ∧
    (k + 1) * TypeInfo.bytes Tryz.t3 ≤ 140737488355328 ∧
      X ++ Array.extract #[Value.int IntKind.i64 r1] 0 (0 + 1 * (0 + 1)) = X ++ #[Value.int IntKind.i64 r1],
RawCell B mb (mo + k * 6 + 4 + 0) (Value.int IntKind.i64 (Mon.nl m)),
(↑k : Int) = (↑k : Int) ∧ k < Isl.nm i,
CJ Tryz.prog B 46
  #[Value.agg
      #[Value.int IntKind.i64 (Mon.wl m), Value.int IntKind.i64 (Mon.wh m), Value.int IntKind.i64 (Mon.dl m),
        Value.int IntKind.i64 (Mon.dh m), Value.int IntKind.i64 (Mon.nl m), Value.int IntKind.i64 (Mon.nh m)],
    Value.bool y]
  [] 5 (Value.agg #[Value.int IntKind.i64 r0, Value.int IntKind.i64 r1]) [] 5 [],
RawCell B db (do_ + k * 1) (Value.bool y),
(↑k : Int) = (↑k : Int) ∧ k < nd,
∀ (j : Nat) (u : Value),
  #[Value.int IntKind.i64 (Mon.wl m), Value.int IntKind.i64 (Mon.wh m), Value.int IntKind.i64 (Mon.dl m),
          Value.int IntKind.i64 (Mon.dh m), Value.int IntKind.i64 (Mon.nl m), Value.int IntKind.i64 (Mon.nh m)][j]? =
      some u →
    RawCell B mb (mo + k * 6 + j) u,
(↑k : Int) = (↑k : Int) ∧ k < Isl.nm i,
RawCell B mb (mo + k * 6 + 4 + 1) (Value.int IntKind.i64 (Mon.nh m)),
(↑k : Int) = (↑k : Int) ∧ k < Isl.nm i,
CJ Tryz.prog B 46
  #[Value.agg
      #[Value.int IntKind.i64 (Mon.wl m), Value.int IntKind.i64 (Mon.wh m), Value.int IntKind.i64 (Mon.dl m),
        Value.int IntKind.i64 (Mon.dh m), Value.int IntKind.i64 (Mon.nl m), Value.int IntKind.i64 (Mon.nh m)],
    Value.bool y]
  [] 5 (Value.agg #[Value.int IntKind.i64 r0, Value.int IntKind.i64 r1]) [] 5 [],
RawCell B db (do_ + k * 1) (Value.bool y),
(↑k : Int) = (↑k : Int) ∧ k < nd,
∀ (j : Nat) (u : Value),
  #[Value.int IntKind.i64 (Mon.wl m), Value.int IntKind.i64 (Mon.wh m), Value.int IntKind.i64 (Mon.dl m),
          Value.int IntKind.i64 (Mon.dh m), Value.int IntKind.i64 (Mon.nl m), Value.int IntKind.i64 (Mon.nh m)][j]? =
      some u →
    RawCell B mb (mo + k * 6 + j) u,
(↑k : Int) = (↑k : Int) ∧ k < Isl.nm i,
ltq (↑k : Int) (↑(Isl.nm i) : Int) = true]⟩, []) := by kernel_rfl
set_option maxRecDepth 100000 in
theorem her_end (B : Lo) (i : Isl) (W : Value) (mb mo ms db do_ nd z k : Nat) (a b c : Int) (X Y : Array Value) (d : Nat → Value) : endedB (srun Tryz.prog goFns B 9 0 (headC 29 91 (erL db do_ nd z k true) d (enT.map (it (bodyOf Tryz.prog 29)))) (heapO 0 (erO i W mb mo ms a b c db do_ nd z (.slice (some ⟨3, 0, none⟩) k 1) (.slice (some ⟨4, 0, none⟩) k 1) ++ [(false, Obj.cells X 3 (0, 0)), (false, Obj.cells Y 3 (0, 0))])) ((erO i W mb mo ms a b c db do_ nd z (.slice (some ⟨3, 0, none⟩) k 1) (.slice (some ⟨4, 0, none⟩) k 1) ++ [(false, Obj.cells X 3 (0, 0)), (false, Obj.cells Y 3 (0, 0))])).length
    [(4, Hint.val (Value.bool false))] 0 [] []) ((kz [3, 4] [(false, .cells X 3 (0, 0)), (false, .cells Y 3 (0, 0))]).map (·.old)) = some (⟨.ret (rnV (rhoK (kz [3, 4] [(false, .cells X 3 (0, 0)), (false, .cells Y 3 (0, 0))])) 3 (.agg #[.int .i64 a, .int .i64 b, .int .i64 c, .slice (some ⟨db, do_, some 0⟩) nd z, .slice (some ⟨0, 0, none⟩) k 1, .slice (some ⟨1, 0, none⟩) k 1])), (kz [3, 4] [(false, .cells X 3 (0, 0)), (false, .cells Y 3 (0, 0))]).map (fun kept_ => some (wasK (rhoK (kz [3, 4] [(false, .cells X 3 (0, 0)), (false, .cells Y 3 (0, 0))])) kept_)), 5,
    [ltq (↑k : Int) (↑(Isl.nm i) : Int) = false]⟩, []) := by kernel_rfl

theorem ler_con {i : Isl} {wa : Option Addr} {wc : Nat} {ma : Option Addr} {mc : Nat} {w : World} {db do_ nd z n : Nat} {d : Nat → Bool} (hi : IslAt w w.heap.size i wa ma) (h1 : 1 ≤ i.nm) (hn : i.nm ≤ nd) (h8 : i.nm ≤ 8) (hA : ∀ k, k < nd → RawCell (worldLo w) db (do_ + k * 1) (.bool (d k))) :
    CJ Tryz.prog (worldLo w) 29 #[islR i wa wc ma mc, .slice (some ⟨db, do_, some 0⟩) nd z, .bool false] [] n
      (.agg #[.int .i64 i.sl, .int .i64 i.kl, .int .i64 i.lh, .slice (some ⟨db, do_, some 0⟩) nd z, .slice (some ⟨n, 0, none⟩) i.nm 1, .slice (some ⟨n + 1, 0, none⟩) i.nm 1])
      [(n, .cells (rowA (intE (endTru i false nd d).rains) i.nm) 3 (0, 0)), (n + 1, .cells (rowA (intE (endTru i false nd d).needs) i.nm) 3 (0, 0))] (n + 2) [] := by
  obtain ⟨mb, mo, rfl, _⟩ := monsGet hi.months (show 0 < i.nm by omega)
  have hM : ∀ k, k < i.nm → ∀ (j : Nat) u, (monC (i.months k))[j]? = some u → RawCell (worldLo w) mb (mo + k * 6 + j) u := fun k hk => monsRaw hi.months hk
  have hl0 : looseO (.cells (islC i (rawS wa i.nw wc) (.slice (some ⟨mb, mo, some 0⟩) i.nm mc)) 27 (0, 0)) := loose_isl i wa wc (some ⟨mb, mo, none⟩) mc
  have hlI : ∀ (f : Nat → Int) k, looseO (.cells (rowA (intE f) k) 3 (0, 0)) := fun f k => loose_intE _ _
  have hby : Go.Proofs.Tryz.t3.bytes = 8 := by kernel_rfl
  have entry := (GoE.refl (P := Tryz.prog) (B := worldLo w) (c0 := entryC Tryz.prog 29 91 [.agg (islC i (rawS wa i.nw wc) (.slice (some ⟨mb, mo, some 0⟩) i.nm mc)), .slice (some ⟨db, do_, some 0⟩) nd z, .bool false]) (under_heapO [] (Nat.le_refl 0))).headB goFns_ok mixed_ok (writable_nil _ _)
    (ler_entry (worldLo w) i (rawS wa i.nw wc) mb mo mc db do_ nd z) trivial (by kernel_rfl) (by kernel_rfl) (by kernel_rfl) (by kernel_rfl) (by kernel_rfl) (by kernel_rfl) (by kernel_rfl) (by kernel_rfl) (by kernel_rfl) (by kernel_rfl)
    ⟨.inr ⟨rfl, .inl hl0⟩, .inl ⟨rfl, by kernel_rfl⟩, .inl ⟨rfl, by kernel_rfl⟩, trivial⟩ (fun j hj _ => by omega)
  generalize hc0 : entryC Tryz.prog 29 91 [.agg (islC i (rawS wa i.nw wc) (.slice (some ⟨mb, mo, some 0⟩) i.nm mc)), .slice (some ⟨db, do_, some 0⟩) nd z, .bool false] = c0 at entry
  let t := endTru i false nd d
  let os : Nat → List (Bool × Obj) := fun k => erO i (rawS wa i.nw wc) mb mo mc i.sl i.kl i.lh db do_ nd z (.slice (some ⟨3, 0, none⟩) k 1) (.slice (some ⟨4, 0, none⟩) k 1) ++ [(false, Obj.cells (rowA (intE t.rains) k) 3 (0, 0)), (false, Obj.cells (rowA (intE t.needs) k) 3 (0, 0))]
  have hos : ∀ k, OkB 0 5 (os k) := fun k => ⟨.inr ⟨rfl, .inl hl0⟩, .inl ⟨rfl, by kernel_rfl⟩, .inl ⟨rfl, by kernel_rfl⟩, .inr ⟨rfl, .inl (hlI _ _)⟩, .inr ⟨rfl, .inl (hlI _ _)⟩, trivial⟩
  have step : ∀ k, k < i.nm → ∃ d' : Nat → Value, (∀ t, Loose (d' t)) ∧ GoE Tryz.prog (worldLo w) c0 (heapO 0 []) 0
      (headC 29 91 (erL db do_ nd z (k + 1) false) d' (enT.map (it (bodyOf Tryz.prog 29)))) (heapO 0 (os (k + 1))) 5 [] := by
    intro k
    induction k with
    | zero =>
      intro hk
      obtain ⟨d', _, hg⟩ := entry
      have hr := ler_first (worldLo w) i (rawS wa i.nw wc) mb mo mc db do_ nd z i.sl i.kl i.lh (i.months 0) (d 0) (rlo (i.months 0) (d 0)) (rhi (i.months 0) (d 0)) d'
      refine hg.headB goFns_ok mixed_ok (writable_nil _ _) (os := os 1) hr ?_ (by kernel_rfl) (by kernel_rfl) (by kernel_rfl) (by kernel_rfl) (by kernel_rfl) (by kernel_rfl) (by kernel_rfl) (by kernel_rfl) (by kernel_rfl) (by kernel_rfl) (hos 1) (fun j hj _ => by omega)
      have hMk := hM 0 hk
      have hAk : RawCell (worldLo w) db (do_ + 0) (.bool (d 0)) := hA 0 (by omega)
      have hH := hMk 5 (.int .i64 (i.months 0).nh) rfl
      have hL := hMk 4 (.int .i64 (i.months 0).nl) rfl
      clear hg hr hos hM hA
      simp only [AllP]
      repeat' apply And.intro
      all_goals first
        | exact hMk
        | exact hAk
        | exact hH
        | exact hL
        | exact con_rRain _ _ _
        | with_reducible exact ltq_t (by omega)
        | with_reducible exact wq_in (by omega) (by omega)
        | (unfold maxLen; omega)
        | (rw [hby]; omega)
        | omega
        | rfl
        | trivial
    | succ k ih =>
      intro hk
      obtain ⟨d', _, hg⟩ := ih (by omega)
      have hr := ler_round (worldLo w) i (rawS wa i.nw wc) mb mo mc db do_ nd z (k + 1) i.sl i.kl i.lh (i.months (k + 1)) (d (k + 1)) (rlo (i.months (k + 1)) (d (k + 1))) (rhi (i.months (k + 1)) (d (k + 1))) (rowA (intE t.rains) (k + 1)) (rowA (intE t.needs) (k + 1)) d'
      refine hg.headB goFns_ok mixed_ok (writable_nil _ _) (os := os (k + 1 + 1)) hr ?_ (by kernel_rfl) (by kernel_rfl) (by kernel_rfl) (by kernel_rfl) (by kernel_rfl) (by kernel_rfl) (by kernel_rfl) (by kernel_rfl) (by kernel_rfl) (by kernel_rfl) (hos (k + 1 + 1)) (fun j hj _ => by omega)
      have hMk := hM (k + 1) hk
      have hAk := hA (k + 1) (by omega)
      have s1 := rowA_size (e := intE t.rains) (z := 1) (fun _ => rfl) (k + 1)
      have s2 := rowA_size (e := intE t.needs) (z := 1) (fun _ => rfl) (k + 1)
      have hH := hMk 5 (.int .i64 (i.months (k + 1)).nh) rfl
      have hL := hMk 4 (.int .i64 (i.months (k + 1)).nl) rfl
      simp only [AllP]
      repeat' apply And.intro
      all_goals first
        | exact hMk
        | exact hAk
        | exact hH
        | exact hL
        | exact con_rRain _ _ _
        | with_reducible exact ltq_t (by omega)
        | with_reducible exact wq_in (by omega) (by omega)
        | exact s1
        | exact s2
        | (unfold maxLen; omega)
        | (rw [hby]; omega)
        | omega
        | rfl
        | trivial
  obtain ⟨k, hk⟩ : ∃ k, i.nm = k + 1 := ⟨i.nm - 1, by omega⟩
  obtain ⟨d', _, hg⟩ := step k (by omega)
  rw [← hk] at hg
  have h : StdJ Tryz.prog (worldLo w) 29 #[islR i wa wc (some ⟨mb, mo, none⟩) mc, .slice (some ⟨db, do_, some 0⟩) nd z, .bool false] (heapO 0 []) 0
      (.agg #[.int .i64 i.sl, .int .i64 i.kl, .int .i64 i.lh, .slice (some ⟨db, do_, some 0⟩) nd z, .slice (some ⟨0, 0, none⟩) i.nm 1, .slice (some ⟨1, 0, none⟩) i.nm 1])
      (heapO 0 [(false, .cells (rowA (intE t.rains) i.nm) 3 (0, 0)), (false, .cells (rowA (intE t.needs) i.nm) 3 (0, 0))]) 2 [] :=
    hg.std goFns_ok mixed_ok (by rw [← hc0]; kernel_rfl) (writable_nil _ _) (os := [(false, .cells (rowA (intE t.rains) i.nm) 3 (0, 0)), (false, .cells (rowA (intE t.needs) i.nm) 3 (0, 0))])
      (ler_end (worldLo w) i (rawS wa i.nw wc) mb mo mc db do_ nd z i.nm i.sl i.kl i.lh (rowA (intE t.rains) i.nm) (rowA (intE t.needs) i.nm) d') ⟨ltq_f (by omega), trivial⟩ (by kernel_rfl) (by kernel_rfl) (by kernel_rfl) (by kernel_rfl) (by kernel_rfl) (by kernel_rfl) (by kernel_rfl) (by kernel_rfl)
      ⟨.inr ⟨rfl, .inl (hlI _ _)⟩, .inr ⟨rfl, .inl (hlI _ _)⟩, trivial⟩ (fun j hj _ => by omega)
  have hloose : ∀ b ∈ ([] : List (Bool × Obj)) ++ [(false, Obj.cells (rowA (intE t.rains) i.nm) 3 (0, 0)), (false, Obj.cells (rowA (intE t.needs) i.nm) 3 (0, 0))], looseO b.2 := by
    intro b hb
    simp only [List.nil_append, List.mem_cons, List.not_mem_nil, or_false] at hb
    rcases hb with rfl | rfl
    · exact hlI _ _
    · exact hlI _ _
  rcases wa with _ | ⟨b, o, _ | z'⟩
  all_goals exact (StdJ.rows (kept := []) (l := []) (n := n) h rfl (fun k hk => by simp at hk) rfl hloose (by kernel_rfl) (by kernel_rfl)).cast (by kernel_rfl) (by kernel_rfl) (by kernel_rfl) (by kernel_rfl) (by kernel_rfl)

theorem her_con {i : Isl} {wa : Option Addr} {wc : Nat} {ma : Option Addr} {mc : Nat} {w : World} {db do_ nd z n : Nat} {d : Nat → Bool} (hi : IslAt w w.heap.size i wa ma) (h1 : 1 ≤ i.nm) (hn : i.nm ≤ nd) (h8 : i.nm ≤ 8) (hA : ∀ k, k < nd → RawCell (worldLo w) db (do_ + k * 1) (.bool (d k))) :
    CJ Tryz.prog (worldLo w) 29 #[islR i wa wc ma mc, .slice (some ⟨db, do_, some 0⟩) nd z, .bool true] [] n
      (.agg #[.int .i64 i.sh, .int .i64 i.kh, .int .i64 i.ll, .slice (some ⟨db, do_, some 0⟩) nd z, .slice (some ⟨n, 0, none⟩) i.nm 1, .slice (some ⟨n + 1, 0, none⟩) i.nm 1])
      [(n, .cells (rowA (intE (endTru i true nd d).rains) i.nm) 3 (0, 0)), (n + 1, .cells (rowA (intE (endTru i true nd d).needs) i.nm) 3 (0, 0))] (n + 2) [] := by
  obtain ⟨mb, mo, rfl, _⟩ := monsGet hi.months (show 0 < i.nm by omega)
  have hM : ∀ k, k < i.nm → ∀ (j : Nat) u, (monC (i.months k))[j]? = some u → RawCell (worldLo w) mb (mo + k * 6 + j) u := fun k hk => monsRaw hi.months hk
  have hl0 : looseO (.cells (islC i (rawS wa i.nw wc) (.slice (some ⟨mb, mo, some 0⟩) i.nm mc)) 27 (0, 0)) := loose_isl i wa wc (some ⟨mb, mo, none⟩) mc
  have hlI : ∀ (f : Nat → Int) k, looseO (.cells (rowA (intE f) k) 3 (0, 0)) := fun f k => loose_intE _ _
  have hby : Go.Proofs.Tryz.t3.bytes = 8 := by kernel_rfl
  have entry := (GoE.refl (P := Tryz.prog) (B := worldLo w) (c0 := entryC Tryz.prog 29 91 [.agg (islC i (rawS wa i.nw wc) (.slice (some ⟨mb, mo, some 0⟩) i.nm mc)), .slice (some ⟨db, do_, some 0⟩) nd z, .bool true]) (under_heapO [] (Nat.le_refl 0))).headB goFns_ok mixed_ok (writable_nil _ _)
    (her_entry (worldLo w) i (rawS wa i.nw wc) mb mo mc db do_ nd z) trivial (by kernel_rfl) (by kernel_rfl) (by kernel_rfl) (by kernel_rfl) (by kernel_rfl) (by kernel_rfl) (by kernel_rfl) (by kernel_rfl) (by kernel_rfl) (by kernel_rfl)
    ⟨.inr ⟨rfl, .inl hl0⟩, .inl ⟨rfl, by kernel_rfl⟩, .inl ⟨rfl, by kernel_rfl⟩, trivial⟩ (fun j hj _ => by omega)
  generalize hc0 : entryC Tryz.prog 29 91 [.agg (islC i (rawS wa i.nw wc) (.slice (some ⟨mb, mo, some 0⟩) i.nm mc)), .slice (some ⟨db, do_, some 0⟩) nd z, .bool true] = c0 at entry
  let t := endTru i true nd d
  let os : Nat → List (Bool × Obj) := fun k => erO i (rawS wa i.nw wc) mb mo mc i.sh i.kh i.ll db do_ nd z (.slice (some ⟨3, 0, none⟩) k 1) (.slice (some ⟨4, 0, none⟩) k 1) ++ [(false, Obj.cells (rowA (intE t.rains) k) 3 (0, 0)), (false, Obj.cells (rowA (intE t.needs) k) 3 (0, 0))]
  have hos : ∀ k, OkB 0 5 (os k) := fun k => ⟨.inr ⟨rfl, .inl hl0⟩, .inl ⟨rfl, by kernel_rfl⟩, .inl ⟨rfl, by kernel_rfl⟩, .inr ⟨rfl, .inl (hlI _ _)⟩, .inr ⟨rfl, .inl (hlI _ _)⟩, trivial⟩
  have step : ∀ k, k < i.nm → ∃ d' : Nat → Value, (∀ t, Loose (d' t)) ∧ GoE Tryz.prog (worldLo w) c0 (heapO 0 []) 0
      (headC 29 91 (erL db do_ nd z (k + 1) true) d' (enT.map (it (bodyOf Tryz.prog 29)))) (heapO 0 (os (k + 1))) 5 [] := by
    intro k
    induction k with
    | zero =>
      intro hk
      obtain ⟨d', _, hg⟩ := entry
      have hr := her_first (worldLo w) i (rawS wa i.nw wc) mb mo mc db do_ nd z i.sh i.kh i.ll (i.months 0) (d 0) (rlo (i.months 0) (d 0)) (rhi (i.months 0) (d 0)) d'
      refine hg.headB goFns_ok mixed_ok (writable_nil _ _) (os := os 1) hr ?_ (by kernel_rfl) (by kernel_rfl) (by kernel_rfl) (by kernel_rfl) (by kernel_rfl) (by kernel_rfl) (by kernel_rfl) (by kernel_rfl) (by kernel_rfl) (by kernel_rfl) (hos 1) (fun j hj _ => by omega)
      have hMk := hM 0 hk
      have hAk : RawCell (worldLo w) db (do_ + 0) (.bool (d 0)) := hA 0 (by omega)
      have hH := hMk 5 (.int .i64 (i.months 0).nh) rfl
      have hL := hMk 4 (.int .i64 (i.months 0).nl) rfl
      clear hg hr hos hM hA
      simp only [AllP]
      repeat' apply And.intro
      all_goals first
        | exact hMk
        | exact hAk
        | exact hH
        | exact hL
        | exact con_rRain _ _ _
        | with_reducible exact ltq_t (by omega)
        | with_reducible exact wq_in (by omega) (by omega)
        | (unfold maxLen; omega)
        | (rw [hby]; omega)
        | omega
        | rfl
        | trivial
    | succ k ih =>
      intro hk
      obtain ⟨d', _, hg⟩ := ih (by omega)
      have hr := her_round (worldLo w) i (rawS wa i.nw wc) mb mo mc db do_ nd z (k + 1) i.sh i.kh i.ll (i.months (k + 1)) (d (k + 1)) (rlo (i.months (k + 1)) (d (k + 1))) (rhi (i.months (k + 1)) (d (k + 1))) (rowA (intE t.rains) (k + 1)) (rowA (intE t.needs) (k + 1)) d'
      refine hg.headB goFns_ok mixed_ok (writable_nil _ _) (os := os (k + 1 + 1)) hr ?_ (by kernel_rfl) (by kernel_rfl) (by kernel_rfl) (by kernel_rfl) (by kernel_rfl) (by kernel_rfl) (by kernel_rfl) (by kernel_rfl) (by kernel_rfl) (by kernel_rfl) (hos (k + 1 + 1)) (fun j hj _ => by omega)
      have hMk := hM (k + 1) hk
      have hAk := hA (k + 1) (by omega)
      have s1 := rowA_size (e := intE t.rains) (z := 1) (fun _ => rfl) (k + 1)
      have s2 := rowA_size (e := intE t.needs) (z := 1) (fun _ => rfl) (k + 1)
      have hH := hMk 5 (.int .i64 (i.months (k + 1)).nh) rfl
      have hL := hMk 4 (.int .i64 (i.months (k + 1)).nl) rfl
      simp only [AllP]
      repeat' apply And.intro
      all_goals first
        | exact hMk
        | exact hAk
        | exact hH
        | exact hL
        | exact con_rRain _ _ _
        | with_reducible exact ltq_t (by omega)
        | with_reducible exact wq_in (by omega) (by omega)
        | exact s1
        | exact s2
        | (unfold maxLen; omega)
        | (rw [hby]; omega)
        | omega
        | rfl
        | trivial
  obtain ⟨k, hk⟩ : ∃ k, i.nm = k + 1 := ⟨i.nm - 1, by omega⟩
  obtain ⟨d', _, hg⟩ := step k (by omega)
  rw [← hk] at hg
  have h : StdJ Tryz.prog (worldLo w) 29 #[islR i wa wc (some ⟨mb, mo, none⟩) mc, .slice (some ⟨db, do_, some 0⟩) nd z, .bool true] (heapO 0 []) 0
      (.agg #[.int .i64 i.sh, .int .i64 i.kh, .int .i64 i.ll, .slice (some ⟨db, do_, some 0⟩) nd z, .slice (some ⟨0, 0, none⟩) i.nm 1, .slice (some ⟨1, 0, none⟩) i.nm 1])
      (heapO 0 [(false, .cells (rowA (intE t.rains) i.nm) 3 (0, 0)), (false, .cells (rowA (intE t.needs) i.nm) 3 (0, 0))]) 2 [] :=
    hg.std goFns_ok mixed_ok (by rw [← hc0]; kernel_rfl) (writable_nil _ _) (os := [(false, .cells (rowA (intE t.rains) i.nm) 3 (0, 0)), (false, .cells (rowA (intE t.needs) i.nm) 3 (0, 0))])
      (her_end (worldLo w) i (rawS wa i.nw wc) mb mo mc db do_ nd z i.nm i.sh i.kh i.ll (rowA (intE t.rains) i.nm) (rowA (intE t.needs) i.nm) d') ⟨ltq_f (by omega), trivial⟩ (by kernel_rfl) (by kernel_rfl) (by kernel_rfl) (by kernel_rfl) (by kernel_rfl) (by kernel_rfl) (by kernel_rfl) (by kernel_rfl)
      ⟨.inr ⟨rfl, .inl (hlI _ _)⟩, .inr ⟨rfl, .inl (hlI _ _)⟩, trivial⟩ (fun j hj _ => by omega)
  have hloose : ∀ b ∈ ([] : List (Bool × Obj)) ++ [(false, Obj.cells (rowA (intE t.rains) i.nm) 3 (0, 0)), (false, Obj.cells (rowA (intE t.needs) i.nm) 3 (0, 0))], looseO b.2 := by
    intro b hb
    simp only [List.nil_append, List.mem_cons, List.not_mem_nil, or_false] at hb
    rcases hb with rfl | rfl
    · exact hlI _ _
    · exact hlI _ _
  rcases wa with _ | ⟨b, o, _ | z'⟩
  all_goals exact (StdJ.rows (kept := []) (l := []) (n := n) h rfl (fun k hk => by simp at hk) rfl hloose (by kernel_rfl) (by kernel_rfl)).cast (by kernel_rfl) (by kernel_rfl) (by kernel_rfl) (by kernel_rfl) (by kernel_rfl)
end Go.Proofs.YtffdidleebognaaGreatDoor

namespace Go.Proofs.YtffdidleebognaaGreatDoor
open Go Go.CE Go.Proofs Go.RowKit Lens
/-- No bounds yet. -/
def noKn : Kn := ⟨9223372036854775807, -9223372036854775808, 9223372036854775807, -9223372036854775808, 9223372036854775807, -9223372036854775808⟩
def zeroKn : Kn := ⟨0, 0, 0, 0, 0, 0⟩
def fillK (m j : Nat) : Kn := if j < m then noKn else zeroKn
theorem fill_splice {n m : Nat} (hm : m < n) : 0 + m * 6 + 6 ≤ (rowA (knE (fillK m)) n).size ∧ splice (rowA (knE (fillK m)) n) (0 + m * 6) #[.int .i64 9223372036854775807, .int .i64 (-9223372036854775808), .int .i64 9223372036854775807, .int .i64 (-9223372036854775808), .int .i64 9223372036854775807, .int .i64 (-9223372036854775808)] = rowA (knE (fillK (m + 1))) n := by
  have := row_splice (e := knE (fillK m)) (z := 6) (n := n) (x := knE (fun _ => noKn) m) (fun _ => rfl) rfl hm
  rw [Nat.zero_add]
  refine ⟨this.1, this.2.trans (row_congr n fun k hk => ?_)⟩
  by_cases h : k = m
  · subst h
    simp only [if_true, knE, fillK, show k < k + 1 by omega]
  · rw [if_neg h]
    simp only [knE, fillK]
    by_cases h2 : k < m
    · simp only [h2, show k < m + 1 by omega]
    · simp only [h2, show ¬ k < m + 1 by omega]
theorem fill_all (n : Nat) : rowA (knE (fillK n)) n = rowA (knE fun _ => noKn) n := row_congr n fun k hk => by simp [knE, fillK, hk]
section
variable {i : Isl} {wa : Option Addr} {wc mb mo mc : Nat} {ma : Option Addr} {tanks : Int} {w : World} {dk : Nat → Value} {k : Nat}
set_option maxRecDepth 100000 in
theorem known_any (hi : IslAt w w.heap.size i wa ma) (h1 : 1 ≤ i.nm) (hf : ∀ much d, Fit i tanks (endTru i much i.nm d)) :
    Calls Tryz.prog 38 #[islV i wa wc ma mc, .int .i64 tanks] w fun e' w' => (∃ g c, e' = .returned (.slice (some ⟨g, 0, none⟩) i.nm c) ∧ w.heap.size ≤ g ∧ g < w'.heap.size ∧ i.nm ≤ c ∧ c ≤ maxLen ∧
      ∀ (j : Nat) v, (rowA (knE (upTo i tanks (fun _ => noKn) (2 ^ i.nm))) i.nm)[j]? = some v → w'.cell? ⟨g, j, none⟩ = some v) ∧ Below w.heap.size w w' := by
  have h8 : i.nm ≤ 8 := (hf true fun _ => false).nm
  obtain ⟨mb, mo, rfl, _⟩ := monsGet hi.months (show 0 < i.nm by omega)
  have ok1 : ∀ kn', OkAll 4 (knO i (rawS wa i.nw wc) mb mo mc tanks (rowA (knE kn') i.nm)) := fun kn' =>
    ⟨.inr ⟨rfl, loose_isl i wa wc (some ⟨mb, mo, none⟩) mc⟩, .inl ⟨rfl, by kernel_rfl⟩, .inr ⟨rfl, loose_knE _ _⟩, .inl ⟨rfl, by kernel_rfl⟩, trivial⟩
  let c0 := entryC Tryz.prog 38 70 [islR i wa wc (some ⟨mb, mo, none⟩) mc, .int .i64 tanks]
  let at1 : Nat → Prop := fun m => ∃ d' : Nat → Value, (∀ t, Loose (d' t)) ∧ GoE Tryz.prog (worldLo w) c0 [] 0
    (headC 38 70 (knL i.nm m) d' (knT.map (it (bodyOf Tryz.prog 38)))) (heapO 0 (knO i (rawS wa i.nw wc) mb mo mc tanks (rowA (knE (fillK m)) i.nm))) 4 []
  have hmk : cMake Tryz.prog 32 (.int .i64 (i.nm : Int)) (.int .i64 (i.nm : Int)) = some (56, rowA (knE (fillK 0)) i.nm, i.nm, 6) := by
    have e : rowA (knE (fillK 0)) i.nm = rowA (fun _ => [.int .i64 0, .int .i64 0, .int .i64 0, .int .i64 0, .int .i64 0, .int .i64 0]) i.nm := row_congr _ fun k _ => by simp [knE, fillK, zeroKn]
    rw [e]
    exact cMake_row (P := Tryz.prog) (t := 32) (e := 56) (i := Go.Proofs.Tryz.t56) (zv := .agg #[.int .i64 0, .int .i64 0, .int .i64 0, .int .i64 0, .int .i64 0, .int .i64 0]) (by kernel_rfl) (by kernel_rfl) (by kernel_rfl) (by kernel_rfl) (by decide) (by kernel_rfl) (by show 48 * i.nm ≤ _; omega) (by omega)
  have s0 : at1 0 := (GoE.refl (P := Tryz.prog) (B := worldLo w) (c0 := c0) under_nil).headO goFns_ok mixed_ok
    (kn_entry (worldLo w) i (rawS wa i.nw wc) mb mo mc tanks (rowA (knE (fillK 0)) i.nm)) ⟨hmk, trivial⟩
    (by kernel_rfl) (by kernel_rfl) (by kernel_rfl) (by kernel_rfl) (by kernel_rfl) (by kernel_rfl) (ok1 _)
  have all : ∀ m, m ≤ i.nm → at1 m := by
    intro m
    induction m with
    | zero => intro _; exact s0
    | succ m ih =>
      intro hm
      obtain ⟨d', _, g⟩ := ih (by omega)
      have hlt : m < i.nm := by omega
      exact g.headO goFns_ok mixed_ok
        (kn_fill (worldLo w) i (rawS wa i.nw wc) mb mo mc tanks (rowA (knE (fillK m)) i.nm) (rowA (knE (fillK (m + 1))) i.nm) m d') ⟨wq_in (by omega) (by omega), fill_splice hlt, ⟨rfl, hlt⟩, con_none, con_none, con_none, ltq_t (by omega), trivial⟩
        (by kernel_rfl) (by kernel_rfl) (by kernel_rfl) (by kernel_rfl) (by kernel_rfl) (by kernel_rfl) (ok1 _)
  obtain ⟨d1, hd1, g⟩ := all _ (Nat.le_refl _)
  rw [fill_all] at g
  have hcalls := g.calls goFns_ok mixed_ok (f := 38) (args := #[islR i wa wc (some ⟨mb, mo, none⟩) mc, .int .i64 tanks]) (args' := #[islV i wa wc (some ⟨mb, mo, none⟩) mc, .int .i64 tanks]) (by kernel_rfl)
    (kn_range (worldLo w) i (rawS wa i.nw wc) mb mo mc tanks (rowA (knE fun _ => noKn) i.nm) (rowA (knE (upTo i tanks (fun _ => noKn) (2 ^ i.nm))) i.nm) i.nm d1) ⟨dr_rj hi h1 hd1 hf _, con_droughts, ltq_f (by omega), trivial⟩ (worldLo_has w)
    (VRl.vrs' (.cons (vr_isl i wa wc (some ⟨mb, mo, none⟩) mc) (.cons (.int _ _) .nil)))
  refine hcalls.mono fun en w' ⟨v', μ', he, hv, hb, hnew⟩ => ⟨?_, hb⟩
  have hrow := af_row (hnew 0 2 (rowA (knE (upTo i tanks (fun _ => noKn) (2 ^ i.nm))) i.nm) 56 rfl rfl) (rowA_mem i.nm fun j _ v hv => by
    simp only [knE, List.mem_cons, List.not_mem_nil, or_false] at hv
    rcases hv with rfl | rfl | rfl | rfl | rfl | rfl <;> rfl)
  obtain ⟨g', cap, k1, k2, k3, k4⟩ := hrow
  obtain ⟨c, rfl, hc1, hc2⟩ := hv.slice_new k3
  exact ⟨g', c, he, k1, k2, hc1, hc2, k4⟩
end
end Go.Proofs.YtffdidleebognaaGreatDoor

namespace Go.Proofs.YtffdidleebognaaGreatDoor
open Go Go.CE Go.Proofs Go.RowKit Lens
set_option maxRecDepth 100000 in
theorem kw_fine (B : Lo) (i : Isl) (W M : Value) (tanks : Int) (A : Array Value) : endedB (srun Tryz.prog goFns B 11 0 (entryC Tryz.prog 13 17 [.agg (islC i W M), .int .i64 tanks]) (heapO 0 []) 0
    [(4, Hint.call [] (Value.bool true) [] 1 []),
(8, Hint.call [] (Value.bool true) [] 1 []),
(13, Hint.call [] (Value.slice (some { block := 1, off := 0 }) (Isl.nm i) 0) [(1, Obj.cells A 56 (1, 1))] 2 [])] 0 [] []) ((kz [1] [(false, .cells A 56 (1, 1))]).map (·.old)) = some (⟨.ret (rnV (rhoK (kz [1] [(false, .cells A 56 (1, 1))])) 3 (.tuple #[.slice (some ⟨0, 0, none⟩) i.nm 0, .int .i64 0])), (kz [1] [(false, .cells A 56 (1, 1))]).map (fun kept_ => some (wasK (rhoK (kz [1] [(false, .cells A 56 (1, 1))])) kept_)), 2,
    [CJ Tryz.prog B 38
  #[Value.agg
      #[Value.int IntKind.i64 (Isl.cap i), Value.int IntKind.i64 (Isl.sl i), Value.int IntKind.i64 (Isl.sh i),
        Value.int IntKind.i64 (Isl.roof i), Value.int IntKind.i64 (Isl.sand i), Value.int IntKind.i64 (Isl.kl i),
        Value.int IntKind.i64 (Isl.kh i), Value.int IntKind.i64 (Isl.ll i), Value.int IntKind.i64 (Isl.lh i),
        Value.int IntKind.i64 (Isl.pump i), Value.int IntKind.i64 (Isl.keep i), Value.int IntKind.i64 (Isl.size i), W,
        M, Value.int IntKind.i64 (Isl.most i), Value.int IntKind.i64 (Isl.row i)],
    Value.int IntKind.i64 tanks]
  [] 1 (Value.slice (some { block := 1, off := 0 }) (Isl.nm i) 0) [(1, Obj.cells A 56 (1, 1))] 2 [],
CJ Tryz.prog B 37 #[Value.int IntKind.i64 tanks] [] 1 (Value.bool true) [] 1 [],
CJ Tryz.prog B 36
  #[Value.agg
      #[Value.int IntKind.i64 (Isl.cap i), Value.int IntKind.i64 (Isl.sl i), Value.int IntKind.i64 (Isl.sh i),
        Value.int IntKind.i64 (Isl.roof i), Value.int IntKind.i64 (Isl.sand i), Value.int IntKind.i64 (Isl.kl i),
        Value.int IntKind.i64 (Isl.kh i), Value.int IntKind.i64 (Isl.ll i), Value.int IntKind.i64 (Isl.lh i),
        Value.int IntKind.i64 (Isl.pump i), Value.int IntKind.i64 (Isl.keep i), Value.int IntKind.i64 (Isl.size i), W,
        M, Value.int IntKind.i64 (Isl.most i), Value.int IntKind.i64 (Isl.row i)]]
  [] 1 (Value.bool true) [] 1 []]⟩, []) := by kernel_rfl
theorem fit_end {i : Isl} {tanks : Int} (hi : islB i = true) (ht : tanksB tanks = true) (much : Bool) (nd : Nat) (d : Nat → Bool) : Fit i tanks (endTru i much nd d) := by
  simp only [islB, monthsB, tanksB, Bool.and_eq_true, isInB_iff, isSpanB_iff, allTo_iff] at hi ht
  obtain ⟨⟨⟨⟨⟨⟨⟨⟨⟨⟨⟨⟨i1, i2⟩, i3⟩, i4⟩, i5⟩, i6⟩, i7⟩, i8⟩, i9⟩, i10⟩, ⟨i11, i12⟩⟩, i13⟩, i14⟩ := hi
  have mon : ∀ k, k < i.nm → (0 ≤ (i.months k).wl ∧ (i.months k).wl ≤ (i.months k).wh ∧ (i.months k).wh ≤ 2000) ∧ (0 ≤ (i.months k).dl ∧ (i.months k).dl ≤ (i.months k).dh ∧ (i.months k).dh ≤ 2000) ∧ (0 ≤ (i.months k).nl ∧ (i.months k).nl ≤ (i.months k).nh ∧ (i.months k).nh ≤ 10000000) := by
    intro k hk
    have := i12 k hk
    simp only [monB, Bool.and_eq_true, isSpanB_iff, decide_eq_true_eq] at this
    obtain ⟨⟨⟨⟨m1, m2⟩, m3⟩, _⟩, _⟩ := this
    exact ⟨m1, m2, m3⟩
  refine ⟨by omega, by omega, i3.1, i3.2, i4.1, i4.2, i7.1, i7.2, i9.1, i9.2, i8.1, i8.2, ht.1, ht.2, by omega, ?_, ?_, ?_, ?_, ?_, ?_, rfl, rfl, ?_, ?_⟩
  · cases much <;> simp only [endTru, lohi] <;> simp <;> omega
  · cases much <;> simp only [endTru, lohi] <;> simp <;> omega
  · cases much <;> simp only [endTru, lohi] <;> simp <;> omega
  · cases much <;> simp only [endTru, lohi] <;> simp <;> omega
  · cases much <;> simp only [endTru, lohi] <;> simp <;> omega
  · cases much <;> simp only [endTru, lohi] <;> simp <;> omega
  · intro k hk
    have := mon k hk
    cases much <;> cases h : d k <;> simp only [endTru, lohi, rlo, rhi, h] <;> simp <;> omega
  · intro k hk
    have := mon k hk
    cases much <;> simp only [endTru, lohi] <;> simp <;> omega
section
variable {i : Isl} {wa : Option Addr} {wc mc : Nat} {ma : Option Addr} {tanks : Int} {w : World}
def knA (i : Isl) (tanks : Int) : Array Value := rowA (knE (upTo i tanks (fun _ => noKn) (2 ^ i.nm))) i.nm
theorem knE_af (kn : Nat → Kn) (n : Nat) : ∀ v ∈ rowA (knE kn) n, af v = true := rowA_mem n fun j _ v hv => by
  simp only [knE, List.mem_cons, List.not_mem_nil, or_false] at hv
  rcases hv with rfl | rfl | rfl | rfl | rfl | rfl <;> rfl
theorem con_known0 {n : Nat} (hi : IslAt w w.heap.size i wa ma) (h1 : islB i = true) (h2 : tanksB tanks = true) :
    CJ Tryz.prog (worldLo w) 38 #[islR i wa wc ma mc, .int .i64 tanks] [] n (.slice (some ⟨n, 0, none⟩) i.nm 0) [(n, .cells (knA i tanks) 56 (1, 1))] (n + 1) [] :=
  cj_row (knE_af _ _) fun μ w' args' hB ha => by
    have hl : ExL [islR i wa wc ma mc, .int .i64 tanks] [islV i wa wc ma mc, .int .i64 tanks] := .cons (exact_isl _ _ _ _ _) (.cons (exact_af rfl) .nil)
    rw [hl.args ha]
    have hnm : 1 ≤ i.nm := by
      simp only [islB, monthsB, Bool.and_eq_true, isInB_iff] at h1
      omega
    refine (known_any (islAt_lo hi hB) hnm fun much d => fit_end h1 h2 much _ d).mono fun e w'' ⟨⟨g, c, he, k1, k2, k3, k4, k5⟩, hb⟩ => ⟨⟨g, _, k1, k2, he, k5, fun μ' hμ => .slice ⟨_, hμ, rfl, rfl⟩ k3 k4 fun h => absurd rfl h⟩, hb⟩
theorem con_isIslet {n : Nat} (hi : IslAt w w.heap.size i wa ma) : CJ Tryz.prog (worldLo w) 36 #[islR i wa wc ma mc] [] n (.bool (islB i)) [] n [] :=
  con_of (.cons (exact_isl _ _ _ _ _) .nil) (exact_af rfl) fun w' hw => isIslet_any i wa wc ma mc w' (islAt_lo hi hw)
theorem con_areTanks {n : Nat} : CJ Tryz.prog (worldLo w) 37 #[.int .i64 tanks] [] n (.bool (tanksB tanks)) [] n [] :=
  con_of (l := [.int .i64 tanks]) (l' := [.int .i64 tanks]) (.cons (exact_af rfl) .nil) (exact_af rfl) fun w' _ => (areTanks_any tanks w').mono fun _ _ ⟨h1, h2⟩ => ⟨h1, h2 ▸ Below.refl _ _⟩
theorem con_Known {n : Nat} (hi : IslAt w w.heap.size i wa ma) (h1 : islB i = true) (h2 : tanksB tanks = true) :
    CJ Tryz.prog (worldLo w) 13 #[islR i wa wc ma mc, .int .i64 tanks] [] n (.tuple #[.slice (some ⟨n, 0, none⟩) i.nm 0, .int .i64 0]) [(n, .cells (knA i tanks) 56 (1, 1))] (n + 1) [] := by
  have hA : looseO (.cells (knA i tanks) 56 (1, 1)) := loose_knE _ _
  have h : StdJ Tryz.prog (worldLo w) 13 #[islR i wa wc ma mc, .int .i64 tanks] (heapO 0 []) 0 (.tuple #[.slice (some ⟨0, 0, none⟩) i.nm 0, .int .i64 0]) (heapO 0 [(false, .cells (knA i tanks) 56 (1, 1))]) 1 [] :=
    (GoE.refl (P := Tryz.prog) (B := worldLo w) (c0 := entryC Tryz.prog 13 17 [islR i wa wc ma mc, .int .i64 tanks]) (under_heapO [] (Nat.le_refl 0))).std goFns_ok mixed_ok (by kernel_rfl) (writable_nil _ _)
      (os := [(false, .cells (knA i tanks) 56 (1, 1))]) (kw_fine (worldLo w) i (rawS wa i.nw wc) (rawS ma i.nm mc) tanks (knA i tanks)) ⟨con_known0 hi h1 h2, h2 ▸ con_areTanks, h1 ▸ con_isIslet hi, trivial⟩
      (by kernel_rfl) (by kernel_rfl) (by kernel_rfl) (by kernel_rfl) (by kernel_rfl) (by kernel_rfl) (by kernel_rfl) (by kernel_rfl) ⟨.inr ⟨rfl, .inl hA⟩, trivial⟩ (fun j hj _ => by omega)
  have hloose : ∀ b ∈ ([] : List (Bool × Obj)) ++ [(false, Obj.cells (knA i tanks) 56 (1, 1))], looseO b.2 := by
    intro b hb
    simp only [List.nil_append, List.mem_cons, List.not_mem_nil, or_false] at hb
    rw [hb]; exact hA
  rcases wa with _ | ⟨b, o, _ | z⟩ <;> rcases ma with _ | ⟨b', o', _ | z'⟩
  all_goals exact (StdJ.rows (kept := []) (l := []) (n := n) h rfl (fun k hk => by simp at hk) rfl hloose (by kernel_rfl) (by kernel_rfl)).cast (by kernel_rfl) (by kernel_rfl) (by kernel_rfl) (by kernel_rfl) (by kernel_rfl)
end
end Go.Proofs.YtffdidleebognaaGreatDoor

namespace Go.Proofs.YtffdidleebognaaGreatDoor
open Go Go.CE Go.Proofs Go.RowKit Lens
def rkL (tanks : Int) (b0 g c K nm n : Nat) : List (Nat × Value) := [(1, .int .i64 tanks), (2, .pointer (some ⟨b0, 0, some 0⟩)), (5, .slice (some ⟨g, 0, some 0⟩) K c), (6, .slice (some ⟨0, 0, none⟩) nm 6), (7, .int .i64 n)]
def rkT : List It := [.code [1, 1, 1, 0, 1, 0, 0],  .inLoop [1, 1, 1, 0, 1, 0, 0],  .inBlock 0,  .code [1, 1, 1, 1]]
def rkI (tanks : Int) (b0 g c K nm n k : Nat) : List (Nat × Value) := rkL tanks b0 g c K nm n ++ [(8, .slice (some ⟨1, 0, none⟩) nm 0), (10, .slice (some ⟨2, 0, none⟩) nm 0), (12, .int .i64 k)]
def rkU : List It := [.code [1, 1, 1, 0, 1, 0, 0, 1, 0, 0, 1, 1, 1, 0, 0],  .inLoop [1, 1, 1, 0, 1, 0, 0, 1, 0, 0, 1, 1, 1, 0, 0],  .inBlock 2,  .inBlock 1,  .code [1, 1, 1, 0, 1, 0, 0, 1, 1],  .inLoop [1, 1, 1, 0, 1, 0, 0],  .inBlock 0,  .code [1, 1, 1, 1]]
def rkO (A E1 E2 : Array Value) : List (Bool × Obj) := [(false, .cells A 56 (0, 0)), (false, .cells E1 53 (1, 1)), (false, .cells E2 53 (1, 1))]
set_option maxRecDepth 100000 in
theorem wid_first (B : Lo) (lo hi a b : Int) : ended (srun Tryz.prog goFns B 10 0 (entryC Tryz.prog 43 22 [.agg #[.int .i64 lo, .int .i64 hi], .bool true, .int .i64 a, .int .i64 b]) [] 0
    [] 0 [] []) [] = some ⟨.ret (.agg #[.int .i64 a, .int .i64 b]), [], 2,
    []⟩ := by kernel_rfl
set_option maxRecDepth 100000 in
theorem wid_more (B : Lo) (lo hi a b x y : Int) : ended (srun Tryz.prog goFns B 11 0 (entryC Tryz.prog 43 22 [.agg #[.int .i64 lo, .int .i64 hi], .bool false, .int .i64 a, .int .i64 b]) [] 0
    [(6, Hint.val (Value.int IntKind.i64 x)),
(10, Hint.val (Value.int IntKind.i64 y))] 0 [] []) [] = some ⟨.ret (.agg #[.int .i64 x, .int .i64 y]), [], 2,
    [(if b > hi then b else hi) = y,
(if a < lo then a else lo) = x]⟩ := by kernel_rfl
set_option maxRecDepth 100000 in
theorem rk_start (B : Lo) (i : Isl) (tanks : Int) (b0 g c K mb mo ms : Nat) (A : Array Value) (isl : Value) (d : Nat → Value) : land (srun Tryz.prog goFns B 7 0 (⟨17, tput (tput (tput (mkT 122 [(1, .int .i64 tanks), (2, .pointer (some ⟨b0, 0, some 0⟩)), (4, .slice none 0 0)] d) (some 13) isl) (some 14) (.slice (some ⟨g, 0, some 0⟩) K c)) (some 5) (.slice (some ⟨g, 0, some 0⟩) K c), [It.code [1, 1]].map (it (bodyOf Tryz.prog 17)), [], .run, none⟩ : CF) (heapO 0 ([] : List (Bool × Obj))) (([] : List (Bool × Obj))).length
    [(1, Hint.raw (Value.slice (some { block := mb, off := mo, spot := some 0 }) (Isl.nm i) ms)),
(3, Hint.mk (Isl.nm i) A)] 0 [] []) ((rkL tanks b0 g c K i.nm 0).map (·.1)) ((kz [0] [(false, Obj.cells A 56 (0, 0))]).map (·.old)) = some ⟨17, 122, rkT.map (it (bodyOf Tryz.prog 17)), [], .run, none, (rkL tanks b0 g c K i.nm 0).map (fun p => rnV (rhoK (kz [0] [(false, Obj.cells A 56 (0, 0))])) 3 p.2), (kz [0] [(false, Obj.cells A 56 (0, 0))]).map (fun kept_ => some (wasK (rhoK (kz [0] [(false, Obj.cells A 56 (0, 0))])) kept_)), 1,
    [cMake Tryz.prog 32 (Value.int IntKind.i64 (↑(Isl.nm i) : Int)) (Value.int IntKind.i64 (↑(Isl.nm i) : Int)) =
  some (56, A, Isl.nm i, 6),
RawCell B b0 13 (Value.slice (some { block := mb, off := mo, spot := some 0 }) (Isl.nm i) ms)]⟩ := by kernel_rfl
set_option maxRecDepth 100000 in
theorem rk_runs (B : Lo) (i : Isl) (W M : Value) (tanks : Int) (b0 g c K rb rc n : Nat) (A R1 N1 R2 N2 E1 E2 : Array Value) (s1 k1 l1 s2 k2 l2 g0 g1 g2 g3 g4 g5 h0 h1 h2 h3 h4 h5 : Int) (d : Nat → Value) : land (srun Tryz.prog goFns B 15 0 (headC 17 122 (rkL tanks b0 g c K i.nm n) d (rkT.map (it (bodyOf Tryz.prog 17)))) (heapO 0 [(false, Obj.cells A 56 (0, 0))]) ([(false, Obj.cells A 56 (0, 0))]).length
    [(3, Hint.val (Value.bool true)),
(4, Hint.raw
  (Value.agg
    #[Value.int IntKind.i64 (Isl.cap i), Value.int IntKind.i64 (Isl.sl i), Value.int IntKind.i64 (Isl.sh i),
      Value.int IntKind.i64 (Isl.roof i), Value.int IntKind.i64 (Isl.sand i), Value.int IntKind.i64 (Isl.kl i),
      Value.int IntKind.i64 (Isl.kh i), Value.int IntKind.i64 (Isl.ll i), Value.int IntKind.i64 (Isl.lh i),
      Value.int IntKind.i64 (Isl.pump i), Value.int IntKind.i64 (Isl.keep i), Value.int IntKind.i64 (Isl.size i), W, M,
      Value.int IntKind.i64 (Isl.most i), Value.int IntKind.i64 (Isl.row i)])),
(6, Hint.raw
  (Value.agg
    #[Value.int IntKind.i64 (Isl.cap i), Value.int IntKind.i64 (Isl.sl i), Value.int IntKind.i64 (Isl.sh i),
      Value.int IntKind.i64 (Isl.roof i), Value.int IntKind.i64 (Isl.sand i), Value.int IntKind.i64 (Isl.kl i),
      Value.int IntKind.i64 (Isl.kh i), Value.int IntKind.i64 (Isl.ll i), Value.int IntKind.i64 (Isl.lh i),
      Value.int IntKind.i64 (Isl.pump i), Value.int IntKind.i64 (Isl.keep i), Value.int IntKind.i64 (Isl.size i), W, M,
      Value.int IntKind.i64 (Isl.most i), Value.int IntKind.i64 (Isl.row i)])),
(9, Hint.idx n),
(10, Hint.raw (Value.slice (some { block := rb, off := 0, spot := some 0 }) (Isl.nm i) rc)),
(11, Hint.call []
  (Value.agg
    #[Value.int IntKind.i64 s1, Value.int IntKind.i64 k1, Value.int IntKind.i64 l1,
      Value.slice (some { block := rb, off := 0, spot := some 0 }) (Isl.nm i) rc,
      Value.slice (some { block := 1, off := 0 }) (Isl.nm i) 1,
      Value.slice (some { block := 2, off := 0 }) (Isl.nm i) 1])
  [(1, Obj.cells R1 3), (2, Obj.cells N1 3)] 3 []),
(12, Hint.call [1, 2]
  (Value.tuple
    #[Value.slice (some { block := 3, off := 0 }) (Isl.nm i) 0,
      Value.agg
        #[Value.int IntKind.i64 g0, Value.int IntKind.i64 g1, Value.int IntKind.i64 g2, Value.int IntKind.i64 g3,
          Value.int IntKind.i64 g4, Value.int IntKind.i64 g5]])
  [(3, Obj.cells E1 53 (1, 1))] 4 []),
(19, Hint.raw
  (Value.agg
    #[Value.int IntKind.i64 (Isl.cap i), Value.int IntKind.i64 (Isl.sl i), Value.int IntKind.i64 (Isl.sh i),
      Value.int IntKind.i64 (Isl.roof i), Value.int IntKind.i64 (Isl.sand i), Value.int IntKind.i64 (Isl.kl i),
      Value.int IntKind.i64 (Isl.kh i), Value.int IntKind.i64 (Isl.ll i), Value.int IntKind.i64 (Isl.lh i),
      Value.int IntKind.i64 (Isl.pump i), Value.int IntKind.i64 (Isl.keep i), Value.int IntKind.i64 (Isl.size i), W, M,
      Value.int IntKind.i64 (Isl.most i), Value.int IntKind.i64 (Isl.row i)])),
(21, Hint.raw
  (Value.agg
    #[Value.int IntKind.i64 (Isl.cap i), Value.int IntKind.i64 (Isl.sl i), Value.int IntKind.i64 (Isl.sh i),
      Value.int IntKind.i64 (Isl.roof i), Value.int IntKind.i64 (Isl.sand i), Value.int IntKind.i64 (Isl.kl i),
      Value.int IntKind.i64 (Isl.kh i), Value.int IntKind.i64 (Isl.ll i), Value.int IntKind.i64 (Isl.lh i),
      Value.int IntKind.i64 (Isl.pump i), Value.int IntKind.i64 (Isl.keep i), Value.int IntKind.i64 (Isl.size i), W, M,
      Value.int IntKind.i64 (Isl.most i), Value.int IntKind.i64 (Isl.row i)])),
(24, Hint.idx n),
(25, Hint.raw (Value.slice (some { block := rb, off := 0, spot := some 0 }) (Isl.nm i) rc)),
(26, Hint.call []
  (Value.agg
    #[Value.int IntKind.i64 s2, Value.int IntKind.i64 k2, Value.int IntKind.i64 l2,
      Value.slice (some { block := rb, off := 0, spot := some 0 }) (Isl.nm i) rc,
      Value.slice (some { block := 5, off := 0 }) (Isl.nm i) 1,
      Value.slice (some { block := 6, off := 0 }) (Isl.nm i) 1])
  [(5, Obj.cells R2 3), (6, Obj.cells N2 3)] 7 []),
(27, Hint.call [5, 6]
  (Value.tuple
    #[Value.slice (some { block := 7, off := 0 }) (Isl.nm i) 0,
      Value.agg
        #[Value.int IntKind.i64 h0, Value.int IntKind.i64 h1, Value.int IntKind.i64 h2, Value.int IntKind.i64 h3,
          Value.int IntKind.i64 h4, Value.int IntKind.i64 h5]])
  [(7, Obj.cells E2 53 (1, 1))] 8 [])] 0 [] []) ((rkI tanks b0 g c K i.nm n 0).map (·.1)) ((kz [0, 3, 7] (rkO A E1 E2)).map (·.old)) = some ⟨17, 122, rkU.map (it (bodyOf Tryz.prog 17)), [], .run, none, (rkI tanks b0 g c K i.nm n 0).map (fun p => rnV (rhoK (kz [0, 3, 7] (rkO A E1 E2))) 3 p.2), (kz [0, 3, 7] (rkO A E1 E2)).map (fun kept_ => some (wasK (rhoK (kz [0, 3, 7] (rkO A E1 E2))) kept_)), 9,
    [CJ Tryz.prog B 22
  #[Value.agg
      #[Value.int IntKind.i64 (Isl.cap i), Value.int IntKind.i64 (Isl.sl i), Value.int IntKind.i64 (Isl.sh i),
        Value.int IntKind.i64 (Isl.roof i), Value.int IntKind.i64 (Isl.sand i), Value.int IntKind.i64 (Isl.kl i),
        Value.int IntKind.i64 (Isl.kh i), Value.int IntKind.i64 (Isl.ll i), Value.int IntKind.i64 (Isl.lh i),
        Value.int IntKind.i64 (Isl.pump i), Value.int IntKind.i64 (Isl.keep i), Value.int IntKind.i64 (Isl.size i), W,
        M, Value.int IntKind.i64 (Isl.most i), Value.int IntKind.i64 (Isl.row i)],
    Value.int IntKind.i64 tanks,
    Value.agg
      #[Value.int IntKind.i64 s2, Value.int IntKind.i64 k2, Value.int IntKind.i64 l2,
        Value.slice (some { block := rb, off := 0, spot := some 0 }) (Isl.nm i) rc,
        Value.slice (some { block := 5, off := 0 }) (Isl.nm i) 1,
        Value.slice (some { block := 6, off := 0 }) (Isl.nm i) 1]]
  [(5, some (Obj.cells R2 3)), (6, some (Obj.cells N2 3))] 7
  (Value.tuple
    #[Value.slice (some { block := 7, off := 0 }) (Isl.nm i) 0,
      Value.agg
        #[Value.int IntKind.i64 h0, Value.int IntKind.i64 h1, Value.int IntKind.i64 h2, Value.int IntKind.i64 h3,
          Value.int IntKind.i64 h4, Value.int IntKind.i64 h5]])
  [(7, Obj.cells E2 53 (1, 1))] 8 [],
CJ Tryz.prog B 29
  #[Value.agg
      #[Value.int IntKind.i64 (Isl.cap i), Value.int IntKind.i64 (Isl.sl i), Value.int IntKind.i64 (Isl.sh i),
        Value.int IntKind.i64 (Isl.roof i), Value.int IntKind.i64 (Isl.sand i), Value.int IntKind.i64 (Isl.kl i),
        Value.int IntKind.i64 (Isl.kh i), Value.int IntKind.i64 (Isl.ll i), Value.int IntKind.i64 (Isl.lh i),
        Value.int IntKind.i64 (Isl.pump i), Value.int IntKind.i64 (Isl.keep i), Value.int IntKind.i64 (Isl.size i), W,
        M, Value.int IntKind.i64 (Isl.most i), Value.int IntKind.i64 (Isl.row i)],
    Value.slice (some { block := rb, off := 0, spot := some 0 }) (Isl.nm i) rc, Value.bool true]
  [] 5
  (Value.agg
    #[Value.int IntKind.i64 s2, Value.int IntKind.i64 k2, Value.int IntKind.i64 l2,
      Value.slice (some { block := rb, off := 0, spot := some 0 }) (Isl.nm i) rc,
      Value.slice (some { block := 5, off := 0 }) (Isl.nm i) 1,
      Value.slice (some { block := 6, off := 0 }) (Isl.nm i) 1])
  [(5, Obj.cells R2 3), (6, Obj.cells N2 3)] 7 [],
RawCell B g (0 + n * 1) (Value.slice (some { block := rb, off := 0, spot := some 0 }) (Isl.nm i) rc),
(↑n : Int) = (↑n : Int) ∧ n < K,
∀ (j : Nat) (u : Value),
  #[Value.int IntKind.i64 (Isl.cap i), Value.int IntKind.i64 (Isl.sl i), Value.int IntKind.i64 (Isl.sh i),
          Value.int IntKind.i64 (Isl.roof i), Value.int IntKind.i64 (Isl.sand i), Value.int IntKind.i64 (Isl.kl i),
          Value.int IntKind.i64 (Isl.kh i), Value.int IntKind.i64 (Isl.ll i), Value.int IntKind.i64 (Isl.lh i),
          Value.int IntKind.i64 (Isl.pump i), Value.int IntKind.i64 (Isl.keep i), Value.int IntKind.i64 (Isl.size i), W,
          M, Value.int IntKind.i64 (Isl.most i), Value.int IntKind.i64 (Isl.row i)][j]? =
      some u →
    RawCell B b0 (0 + j) u,
∀ (j : Nat) (u : Value),
  #[Value.int IntKind.i64 (Isl.cap i), Value.int IntKind.i64 (Isl.sl i), Value.int IntKind.i64 (Isl.sh i),
          Value.int IntKind.i64 (Isl.roof i), Value.int IntKind.i64 (Isl.sand i), Value.int IntKind.i64 (Isl.kl i),
          Value.int IntKind.i64 (Isl.kh i), Value.int IntKind.i64 (Isl.ll i), Value.int IntKind.i64 (Isl.lh i),
          Value.int IntKind.i64 (Isl.pump i), Value.int IntKind.i64 (Isl.keep i), Value.int IntKind.i64 (Isl.size i), W,
          M, Value.int IntKind.i64 (Isl.most i), Value.int IntKind.i64 (Isl.row i)][j]? =
      some u →
    RawCell B b0 (0 + j) u,
CJ Tryz.prog B 22
  #[Value.agg
      #[Value.int IntKind.i64 (Isl.cap i), Value.int IntKind.i64 (Isl.sl i), Value.int IntKind.i64 (Isl.sh i),
        Value.int IntKind.i64 (Isl.roof i), Value.int IntKind.i64 (Isl.sand i), Value.int IntKind.i64 (Isl.kl i),
        Value.int IntKind.i64 (Isl.kh i), Value.int IntKind.i64 (Isl.ll i), Value.int IntKind.i64 (Isl.lh i),
        Value.int IntKind.i64 (Isl.pump i), Value.int IntKind.i64 (Isl.keep i), Value.int IntKind.i64 (Isl.size i), W,
        M, Value.int IntKind.i64 (Isl.most i), Value.int IntKind.i64 (Isl.row i)],
    Value.int IntKind.i64 tanks,
    Value.agg
      #[Value.int IntKind.i64 s1, Value.int IntKind.i64 k1, Value.int IntKind.i64 l1,
        Value.slice (some { block := rb, off := 0, spot := some 0 }) (Isl.nm i) rc,
        Value.slice (some { block := 1, off := 0 }) (Isl.nm i) 1,
        Value.slice (some { block := 2, off := 0 }) (Isl.nm i) 1]]
  [(1, some (Obj.cells R1 3)), (2, some (Obj.cells N1 3))] 3
  (Value.tuple
    #[Value.slice (some { block := 3, off := 0 }) (Isl.nm i) 0,
      Value.agg
        #[Value.int IntKind.i64 g0, Value.int IntKind.i64 g1, Value.int IntKind.i64 g2, Value.int IntKind.i64 g3,
          Value.int IntKind.i64 g4, Value.int IntKind.i64 g5]])
  [(3, Obj.cells E1 53 (1, 1))] 4 [],
CJ Tryz.prog B 29
  #[Value.agg
      #[Value.int IntKind.i64 (Isl.cap i), Value.int IntKind.i64 (Isl.sl i), Value.int IntKind.i64 (Isl.sh i),
        Value.int IntKind.i64 (Isl.roof i), Value.int IntKind.i64 (Isl.sand i), Value.int IntKind.i64 (Isl.kl i),
        Value.int IntKind.i64 (Isl.kh i), Value.int IntKind.i64 (Isl.ll i), Value.int IntKind.i64 (Isl.lh i),
        Value.int IntKind.i64 (Isl.pump i), Value.int IntKind.i64 (Isl.keep i), Value.int IntKind.i64 (Isl.size i), W,
        M, Value.int IntKind.i64 (Isl.most i), Value.int IntKind.i64 (Isl.row i)],
    Value.slice (some { block := rb, off := 0, spot := some 0 }) (Isl.nm i) rc, Value.bool false]
  [] 1
  (Value.agg
    #[Value.int IntKind.i64 s1, Value.int IntKind.i64 k1, Value.int IntKind.i64 l1,
      Value.slice (some { block := rb, off := 0, spot := some 0 }) (Isl.nm i) rc,
      Value.slice (some { block := 1, off := 0 }) (Isl.nm i) 1,
      Value.slice (some { block := 2, off := 0 }) (Isl.nm i) 1])
  [(1, Obj.cells R1 3), (2, Obj.cells N1 3)] 3 [],
RawCell B g (0 + n * 1) (Value.slice (some { block := rb, off := 0, spot := some 0 }) (Isl.nm i) rc),
(↑n : Int) = (↑n : Int) ∧ n < K,
∀ (j : Nat) (u : Value),
  #[Value.int IntKind.i64 (Isl.cap i), Value.int IntKind.i64 (Isl.sl i), Value.int IntKind.i64 (Isl.sh i),
          Value.int IntKind.i64 (Isl.roof i), Value.int IntKind.i64 (Isl.sand i), Value.int IntKind.i64 (Isl.kl i),
          Value.int IntKind.i64 (Isl.kh i), Value.int IntKind.i64 (Isl.ll i), Value.int IntKind.i64 (Isl.lh i),
          Value.int IntKind.i64 (Isl.pump i), Value.int IntKind.i64 (Isl.keep i), Value.int IntKind.i64 (Isl.size i), W,
          M, Value.int IntKind.i64 (Isl.most i), Value.int IntKind.i64 (Isl.row i)][j]? =
      some u →
    RawCell B b0 (0 + j) u,
∀ (j : Nat) (u : Value),
  #[Value.int IntKind.i64 (Isl.cap i), Value.int IntKind.i64 (Isl.sl i), Value.int IntKind.i64 (Isl.sh i),
          Value.int IntKind.i64 (Isl.roof i), Value.int IntKind.i64 (Isl.sand i), Value.int IntKind.i64 (Isl.kl i),
          Value.int IntKind.i64 (Isl.kh i), Value.int IntKind.i64 (Isl.ll i), Value.int IntKind.i64 (Isl.lh i),
          Value.int IntKind.i64 (Isl.pump i), Value.int IntKind.i64 (Isl.keep i), Value.int IntKind.i64 (Isl.size i), W,
          M, Value.int IntKind.i64 (Isl.most i), Value.int IntKind.i64 (Isl.row i)][j]? =
      some u →
    RawCell B b0 (0 + j) u,
ltq (↑n : Int) (↑K : Int) = true]⟩ := by kernel_rfl
set_option maxRecDepth 100000 in
theorem rk_in0 (B : Lo) (i : Isl) (tanks : Int) (b0 g c K _n k : Nat) (A A1 A2 A3 E1 E2 : Array Value) (p0 p1 p2 p3 p4 p5 a1 a2 a3 c1 c2 c3 x0 x1 x2 x3 x4 x5 : Int) (d : Nat → Value) : land (srun Tryz.prog goFns B 15 0 (headC 17 122 (rkI tanks b0 g c K i.nm 0 k) d (rkU.map (it (bodyOf Tryz.prog 17)))) (heapO 0 (rkO A E1 E2)) ((rkO A E1 E2)).length
    [(3, Hint.val (Value.bool true)),
(8, Hint.idx k),
(10, Hint.ld (Value.agg #[Value.int IntKind.i64 p0, Value.int IntKind.i64 p1])),
(15, Hint.idx k),
(17, Hint.ld (Value.int IntKind.i64 a1)),
(20, Hint.idx k),
(22, Hint.ld (Value.int IntKind.i64 c1)),
(23, Hint.call [] (Value.agg #[Value.int IntKind.i64 x0, Value.int IntKind.i64 x1]) [] 3 []),
(24, Hint.idx k),
(26, Hint.st A1),
(31, Hint.idx k),
(33, Hint.ld (Value.agg #[Value.int IntKind.i64 p2, Value.int IntKind.i64 p3])),
(38, Hint.idx k),
(40, Hint.ld (Value.int IntKind.i64 a2)),
(43, Hint.idx k),
(45, Hint.ld (Value.int IntKind.i64 c2)),
(46, Hint.call [] (Value.agg #[Value.int IntKind.i64 x2, Value.int IntKind.i64 x3]) [] 3 []),
(47, Hint.idx k),
(49, Hint.st A2),
(54, Hint.idx k),
(56, Hint.ld (Value.agg #[Value.int IntKind.i64 p4, Value.int IntKind.i64 p5])),
(61, Hint.idx k),
(63, Hint.ld (Value.int IntKind.i64 c3)),
(66, Hint.idx k),
(68, Hint.ld (Value.int IntKind.i64 a3)),
(69, Hint.call [] (Value.agg #[Value.int IntKind.i64 x4, Value.int IntKind.i64 x5]) [] 3 []),
(70, Hint.idx k),
(72, Hint.st A3),
(74, Hint.val (Value.int IntKind.i64 ((↑k : Int) + 1)))] 0 [] []) ((rkI tanks b0 g c K i.nm 0 (k + 1)).map (·.1)) ((kz [0, 1, 2] (rkO A3 E1 E2)).map (·.old)) = some ⟨17, 122, rkU.map (it (bodyOf Tryz.prog 17)), [], .run, none, (rkI tanks b0 g c K i.nm 0 (k + 1)).map (fun p => rnV (rhoK (kz [0, 1, 2] (rkO A3 E1 E2))) 3 p.2), (kz [0, 1, 2] (rkO A3 E1 E2)).map (fun kept_ => some (wasK (rhoK (kz [0, 1, 2] (rkO A3 E1 E2))) kept_)), 3,
    [wq ((↑k : Int) + 1) = (↑k : Int) + 1,
0 + k * 6 + 4 + TypeInfo.size Tryz.t23 ≤ Array.size A2 ∧
  splice A2 (0 + k * 6 + 4) #[Value.int IntKind.i64 x4, Value.int IntKind.i64 x5] = A3,
(↑k : Int) = (↑k : Int) ∧ k < Isl.nm i,
CJ Tryz.prog B 43
  #[Value.agg #[Value.int IntKind.i64 p4, Value.int IntKind.i64 p5], Value.bool true, Value.int IntKind.i64 c3,
    Value.int IntKind.i64 a3]
  [] 3 (Value.agg #[Value.int IntKind.i64 x4, Value.int IntKind.i64 x5]) [] 3 [],
E1[0 + k * 3 + 2]? = some (Value.int IntKind.i64 a3),
(↑k : Int) = (↑k : Int) ∧ k < Isl.nm i,
E2[0 + k * 3 + 2]? = some (Value.int IntKind.i64 c3),
(↑k : Int) = (↑k : Int) ∧ k < Isl.nm i,
0 + k * 6 + 4 + TypeInfo.size Tryz.t23 ≤ Array.size A2 ∧
  Array.extract A2 (0 + k * 6 + 4) (0 + k * 6 + 4 + TypeInfo.size Tryz.t23) =
    #[Value.int IntKind.i64 p4, Value.int IntKind.i64 p5],
(↑k : Int) = (↑k : Int) ∧ k < Isl.nm i,
0 + k * 6 + 2 + TypeInfo.size Tryz.t23 ≤ Array.size A1 ∧
  splice A1 (0 + k * 6 + 2) #[Value.int IntKind.i64 x2, Value.int IntKind.i64 x3] = A2,
(↑k : Int) = (↑k : Int) ∧ k < Isl.nm i,
CJ Tryz.prog B 43
  #[Value.agg #[Value.int IntKind.i64 p2, Value.int IntKind.i64 p3], Value.bool true, Value.int IntKind.i64 a2,
    Value.int IntKind.i64 c2]
  [] 3 (Value.agg #[Value.int IntKind.i64 x2, Value.int IntKind.i64 x3]) [] 3 [],
E2[0 + k * 3 + 1]? = some (Value.int IntKind.i64 c2),
(↑k : Int) = (↑k : Int) ∧ k < Isl.nm i,
E1[0 + k * 3 + 1]? = some (Value.int IntKind.i64 a2),
(↑k : Int) = (↑k : Int) ∧ k < Isl.nm i,
0 + k * 6 + 2 + TypeInfo.size Tryz.t23 ≤ Array.size A1 ∧
  Array.extract A1 (0 + k * 6 + 2) (0 + k * 6 + 2 + TypeInfo.size Tryz.t23) =
    #[Value.int IntKind.i64 p2, Value.int IntKind.i64 p3],
(↑k : Int) = (↑k : Int) ∧ k < Isl.nm i,
0 + k * 6 + 0 + TypeInfo.size Tryz.t23 ≤ Array.size A ∧
  splice A (0 + k * 6 + 0) #[Value.int IntKind.i64 x0, Value.int IntKind.i64 x1] = A1,
(↑k : Int) = (↑k : Int) ∧ k < Isl.nm i,
CJ Tryz.prog B 43
  #[Value.agg #[Value.int IntKind.i64 p0, Value.int IntKind.i64 p1], Value.bool true, Value.int IntKind.i64 a1,
    Value.int IntKind.i64 c1]
  [] 3 (Value.agg #[Value.int IntKind.i64 x0, Value.int IntKind.i64 x1]) [] 3 [],
E2[0 + k * 3 + 0]? = some (Value.int IntKind.i64 c1),
(↑k : Int) = (↑k : Int) ∧ k < Isl.nm i,
E1[0 + k * 3 + 0]? = some (Value.int IntKind.i64 a1),
(↑k : Int) = (↑k : Int) ∧ k < Isl.nm i,
0 + k * 6 + 0 + TypeInfo.size Tryz.t23 ≤ Array.size A ∧
  Array.extract A (0 + k * 6 + 0) (0 + k * 6 + 0 + TypeInfo.size Tryz.t23) =
    #[Value.int IntKind.i64 p0, Value.int IntKind.i64 p1],
(↑k : Int) = (↑k : Int) ∧ k < Isl.nm i,
ltq (↑k : Int) (↑(Isl.nm i) : Int) = true]⟩ := by kernel_rfl
set_option maxRecDepth 100000 in
theorem rk_in (B : Lo) (i : Isl) (tanks : Int) (b0 g c K n k : Nat) (A A1 A2 A3 E1 E2 : Array Value) (p0 p1 p2 p3 p4 p5 a1 a2 a3 c1 c2 c3 x0 x1 x2 x3 x4 x5 : Int) (d : Nat → Value) : land (srun Tryz.prog goFns B 15 0 (headC 17 122 (rkI tanks b0 g c K i.nm (n + 1) k) d (rkU.map (it (bodyOf Tryz.prog 17)))) (heapO 0 (rkO A E1 E2)) ((rkO A E1 E2)).length
    [(3, Hint.val (Value.bool true)),
(8, Hint.idx k),
(10, Hint.ld (Value.agg #[Value.int IntKind.i64 p0, Value.int IntKind.i64 p1])),
(15, Hint.idx k),
(17, Hint.ld (Value.int IntKind.i64 a1)),
(20, Hint.idx k),
(22, Hint.ld (Value.int IntKind.i64 c1)),
(23, Hint.call [] (Value.agg #[Value.int IntKind.i64 x0, Value.int IntKind.i64 x1]) [] 3 []),
(24, Hint.idx k),
(26, Hint.st A1),
(31, Hint.idx k),
(33, Hint.ld (Value.agg #[Value.int IntKind.i64 p2, Value.int IntKind.i64 p3])),
(38, Hint.idx k),
(40, Hint.ld (Value.int IntKind.i64 a2)),
(43, Hint.idx k),
(45, Hint.ld (Value.int IntKind.i64 c2)),
(46, Hint.call [] (Value.agg #[Value.int IntKind.i64 x2, Value.int IntKind.i64 x3]) [] 3 []),
(47, Hint.idx k),
(49, Hint.st A2),
(54, Hint.idx k),
(56, Hint.ld (Value.agg #[Value.int IntKind.i64 p4, Value.int IntKind.i64 p5])),
(61, Hint.idx k),
(63, Hint.ld (Value.int IntKind.i64 c3)),
(66, Hint.idx k),
(68, Hint.ld (Value.int IntKind.i64 a3)),
(69, Hint.call [] (Value.agg #[Value.int IntKind.i64 x4, Value.int IntKind.i64 x5]) [] 3 []),
(70, Hint.idx k),
(72, Hint.st A3),
(74, Hint.val (Value.int IntKind.i64 ((↑k : Int) + 1)))] 0 [] []) ((rkI tanks b0 g c K i.nm (n + 1) (k + 1)).map (·.1)) ((kz [0, 1, 2] (rkO A3 E1 E2)).map (·.old)) = some ⟨17, 122, rkU.map (it (bodyOf Tryz.prog 17)), [], .run, none, (rkI tanks b0 g c K i.nm (n + 1) (k + 1)).map (fun p => rnV (rhoK (kz [0, 1, 2] (rkO A3 E1 E2))) 3 p.2), (kz [0, 1, 2] (rkO A3 E1 E2)).map (fun kept_ => some (wasK (rhoK (kz [0, 1, 2] (rkO A3 E1 E2))) kept_)), 3,
    [wq ((↑k : Int) + 1) = (↑k : Int) + 1,
0 + k * 6 + 4 + TypeInfo.size Tryz.t23 ≤ Array.size A2 ∧
  splice A2 (0 + k * 6 + 4) #[Value.int IntKind.i64 x4, Value.int IntKind.i64 x5] = A3,
(↑k : Int) = (↑k : Int) ∧ k < Isl.nm i,
CJ Tryz.prog B 43
  #[Value.agg #[Value.int IntKind.i64 p4, Value.int IntKind.i64 p5], Value.bool false, Value.int IntKind.i64 c3,
    Value.int IntKind.i64 a3]
  [] 3 (Value.agg #[Value.int IntKind.i64 x4, Value.int IntKind.i64 x5]) [] 3 [],
E1[0 + k * 3 + 2]? = some (Value.int IntKind.i64 a3),
(↑k : Int) = (↑k : Int) ∧ k < Isl.nm i,
E2[0 + k * 3 + 2]? = some (Value.int IntKind.i64 c3),
(↑k : Int) = (↑k : Int) ∧ k < Isl.nm i,
0 + k * 6 + 4 + TypeInfo.size Tryz.t23 ≤ Array.size A2 ∧
  Array.extract A2 (0 + k * 6 + 4) (0 + k * 6 + 4 + TypeInfo.size Tryz.t23) =
    #[Value.int IntKind.i64 p4, Value.int IntKind.i64 p5],
(↑k : Int) = (↑k : Int) ∧ k < Isl.nm i,
0 + k * 6 + 2 + TypeInfo.size Tryz.t23 ≤ Array.size A1 ∧
  splice A1 (0 + k * 6 + 2) #[Value.int IntKind.i64 x2, Value.int IntKind.i64 x3] = A2,
(↑k : Int) = (↑k : Int) ∧ k < Isl.nm i,
CJ Tryz.prog B 43
  #[Value.agg #[Value.int IntKind.i64 p2, Value.int IntKind.i64 p3], Value.bool false, Value.int IntKind.i64 a2,
    Value.int IntKind.i64 c2]
  [] 3 (Value.agg #[Value.int IntKind.i64 x2, Value.int IntKind.i64 x3]) [] 3 [],
E2[0 + k * 3 + 1]? = some (Value.int IntKind.i64 c2),
(↑k : Int) = (↑k : Int) ∧ k < Isl.nm i,
E1[0 + k * 3 + 1]? = some (Value.int IntKind.i64 a2),
(↑k : Int) = (↑k : Int) ∧ k < Isl.nm i,
0 + k * 6 + 2 + TypeInfo.size Tryz.t23 ≤ Array.size A1 ∧
  Array.extract A1 (0 + k * 6 + 2) (0 + k * 6 + 2 + TypeInfo.size Tryz.t23) =
    #[Value.int IntKind.i64 p2, Value.int IntKind.i64 p3],
(↑k : Int) = (↑k : Int) ∧ k < Isl.nm i,
0 + k * 6 + 0 + TypeInfo.size Tryz.t23 ≤ Array.size A ∧
  splice A (0 + k * 6 + 0) #[Value.int IntKind.i64 x0, Value.int IntKind.i64 x1] = A1,
(↑k : Int) = (↑k : Int) ∧ k < Isl.nm i,
CJ Tryz.prog B 43
  #[Value.agg #[Value.int IntKind.i64 p0, Value.int IntKind.i64 p1], Value.bool false, Value.int IntKind.i64 a1,
    Value.int IntKind.i64 c1]
  [] 3 (Value.agg #[Value.int IntKind.i64 x0, Value.int IntKind.i64 x1]) [] 3 [],
E2[0 + k * 3 + 0]? = some (Value.int IntKind.i64 c1),
(↑k : Int) = (↑k : Int) ∧ k < Isl.nm i,
E1[0 + k * 3 + 0]? = some (Value.int IntKind.i64 a1),
(↑k : Int) = (↑k : Int) ∧ k < Isl.nm i,
0 + k * 6 + 0 + TypeInfo.size Tryz.t23 ≤ Array.size A ∧
  Array.extract A (0 + k * 6 + 0) (0 + k * 6 + 0 + TypeInfo.size Tryz.t23) =
    #[Value.int IntKind.i64 p0, Value.int IntKind.i64 p1],
(↑k : Int) = (↑k : Int) ∧ k < Isl.nm i,
ltq (↑k : Int) (↑(Isl.nm i) : Int) = true]⟩ := by kernel_rfl
set_option maxRecDepth 100000 in
theorem rk_next (B : Lo) (i : Isl) (tanks : Int) (b0 g c K n k : Nat) (A E1 E2 : Array Value) (d : Nat → Value) : land (srun Tryz.prog goFns B 8 0 (headC 17 122 (rkI tanks b0 g c K i.nm n k) d (rkU.map (it (bodyOf Tryz.prog 17)))) (heapO 0 (rkO A E1 E2)) ((rkO A E1 E2)).length
    [(3, Hint.val (Value.bool false)),
(5, Hint.val (Value.int IntKind.i64 ((↑n : Int) + 1)))] 0 [] []) ((rkL tanks b0 g c K i.nm (n + 1)).map (·.1)) ((kz [0] [(false, Obj.cells A 56 (0, 0))]).map (·.old)) = some ⟨17, 122, rkT.map (it (bodyOf Tryz.prog 17)), [], .run, none, (rkL tanks b0 g c K i.nm (n + 1)).map (fun p => rnV (rhoK (kz [0] [(false, Obj.cells A 56 (0, 0))])) 3 p.2), (kz [0] [(false, Obj.cells A 56 (0, 0))]).map (fun kept_ => some (wasK (rhoK (kz [0] [(false, Obj.cells A 56 (0, 0))])) kept_)), 3,
    [wq ((↑n : Int) + 1) = (↑n : Int) + 1,
ltq (↑k : Int) (↑(Isl.nm i) : Int) = false]⟩ := by kernel_rfl
set_option maxRecDepth 100000 in
theorem rk_end (B : Lo) (i : Isl) (tanks : Int) (b0 g c K n : Nat) (A : Array Value) (d : Nat → Value) : ended (srun Tryz.prog goFns B 9 0 (headC 17 122 (rkL tanks b0 g c K i.nm n) d (rkT.map (it (bodyOf Tryz.prog 17)))) (heapO 0 [(false, Obj.cells A 56 (0, 0))]) ([(false, Obj.cells A 56 (0, 0))]).length
    [(3, Hint.val (Value.bool false))] 0 [] []) [0] = some ⟨.ret (.slice (some ⟨0, 0, none⟩) i.nm 6), [some (.cells A 56 (0, 0))], 1,
    [ltq (↑n : Int) (↑K : Int) = false]⟩ := by kernel_rfl
end Go.Proofs.YtffdidleebognaaGreatDoor

namespace Go.CE
open Go Go.RowKit
theorem sub_extract {e : Nat → List Value} {z n m o s : Nat} (h : ∀ k, (e k).length = z) (hm : m < n) (ho : o + s ≤ z) : m * z + o + s ≤ (rowA e n).size ∧ (rowA e n).extract (m * z + o) (m * z + o + s) = (e m).toArray.extract o (o + s) := by
  have hs := rowA_size h n
  have hle : m * z + z ≤ n * z := by
    rw [← Nat.succ_mul]; exact Nat.mul_le_mul_right _ hm
  refine ⟨by rw [hs]; omega, ?_⟩
  rw [← row_extract h hm, Array.extract_extract, Nat.min_eq_left (by omega), Nat.add_assoc]
theorem sub_splice {e : Nat → List Value} {z n m o : Nat} {x y : List Value} (h : ∀ k, (e k).length = z) (hy : y.length = z) (ho : o + x.length ≤ z) (hxy : splice (e m).toArray o x.toArray = y.toArray) (hm : m < n) :
    m * z + o + x.length ≤ (rowA e n).size ∧ splice (rowA e n) (m * z + o) x.toArray = rowA (fun j => if j = m then y else e j) n := by
  have hs := rowA_size h n
  have hle : m * z + z ≤ n * z := by
    rw [← Nat.succ_mul]; exact Nat.mul_le_mul_right _ hm
  have hsz : m * z + o + x.toArray.size ≤ (rowA e n).size := by rw [hs]; simp; omega
  refine ⟨by rw [hs]; omega, row_ext (z := z) (fun k => by split <;> simp [*]) (by rw [splice_size hsz, hs]) fun k hk j hj => ?_⟩
  rw [splice_get hsz]
  by_cases hkm : k = m
  · subst hkm
    rw [if_pos rfl]
    have h1 : (splice (e k).toArray o x.toArray)[j]? = y.toArray[j]? := by rw [hxy]
    rw [splice_get (by simp [h]; omega)] at h1
    simp only [List.size_toArray, List.getElem?_toArray] at h1 ⊢
    rw [← h1]
    by_cases hc : o ≤ j ∧ j < o + x.length
    · rw [if_pos (by omega), if_pos hc, show k * z + j - (k * z + o) = j - o by omega]
    · rw [if_neg (by omega), if_neg hc]
      exact rowA_get h hj n k hk
  · rw [if_neg, if_neg hkm]
    · exact rowA_get h hj n k hk
    · simp only [List.size_toArray]
      rintro ⟨q1, q2⟩
      rcases Nat.lt_or_ge k m with hlt | hge
      · have : k * z + z ≤ m * z := by rw [← Nat.succ_mul]; exact Nat.mul_le_mul_right _ hlt
        omega
      · have : m * z + z ≤ k * z := by rw [← Nat.succ_mul]; exact Nat.mul_le_mul_right _ (by omega)
        omega
end Go.CE
namespace Go.Proofs.YtffdidleebognaaGreatDoor
open Go Go.CE Go.Proofs Go.RowKit Lens
/-- Bounds of a month, as the reference keeps them: of the two extremes alone. -/
def rwd (f : Bool) (k : Kn) (a b : Seen) : Kn := bif f then ⟨a.tanks, b.tanks, a.lens, b.lens, b.lack, a.lack⟩ else ⟨min k.tl a.tanks, max k.th b.tanks, min k.ll a.lens, max k.lh b.lens, min k.kl b.lack, max k.kh a.lack⟩
def rpass (f : Bool) (kn : Nat → Kn) (a b : Nat → Seen) (m j : Nat) : Kn := if j < m then rwd f (kn j) (a j) (b j) else kn j
theorem rpass_zero (f : Bool) (kn : Nat → Kn) (a b : Nat → Seen) : rpass f kn a b 0 = kn := by funext j; simp [rpass]
def rk1 (f : Bool) (kn : Nat → Kn) (a b : Nat → Seen) (m j : Nat) : Kn := if j = m then { kn m with tl := (rwd f (kn m) (a m) (b m)).tl, th := (rwd f (kn m) (a m) (b m)).th } else rpass f kn a b m j
def rk2 (f : Bool) (kn : Nat → Kn) (a b : Nat → Seen) (m j : Nat) : Kn := if j = m then { rwd f (kn m) (a m) (b m) with kl := (kn m).kl, kh := (kn m).kh } else rpass f kn a b m j
section
variable {f : Bool} {kn : Nat → Kn} {a b : Nat → Seen} {m n : Nat}
theorem rk_get0 (hm : m < n) : 0 + m * 6 + 0 + 2 ≤ (rowA (knE (rpass f kn a b m)) n).size ∧ (rowA (knE (rpass f kn a b m)) n).extract (0 + m * 6 + 0) (0 + m * 6 + 0 + 2) = #[.int .i64 (kn m).tl, .int .i64 (kn m).th] := by
  have := sub_extract (e := knE (rpass f kn a b m)) (z := 6) (o := 0) (s := 2) (fun _ => rfl) hm (by omega)
  rw [Nat.zero_add]
  refine ⟨this.1, this.2.trans ?_⟩
  simp [knE, rpass]
theorem rk_get1 (hm : m < n) : 0 + m * 6 + 2 + 2 ≤ (rowA (knE (rk1 f kn a b m)) n).size ∧ (rowA (knE (rk1 f kn a b m)) n).extract (0 + m * 6 + 2) (0 + m * 6 + 2 + 2) = #[.int .i64 (kn m).ll, .int .i64 (kn m).lh] := by
  have := sub_extract (e := knE (rk1 f kn a b m)) (z := 6) (o := 2) (s := 2) (fun _ => rfl) hm (by omega)
  rw [Nat.zero_add]
  refine ⟨this.1, this.2.trans ?_⟩
  simp [knE, rk1]
theorem rk_get2 (hm : m < n) : 0 + m * 6 + 4 + 2 ≤ (rowA (knE (rk2 f kn a b m)) n).size ∧ (rowA (knE (rk2 f kn a b m)) n).extract (0 + m * 6 + 4) (0 + m * 6 + 4 + 2) = #[.int .i64 (kn m).kl, .int .i64 (kn m).kh] := by
  have := sub_extract (e := knE (rk2 f kn a b m)) (z := 6) (o := 4) (s := 2) (fun _ => rfl) hm (by omega)
  rw [Nat.zero_add]
  refine ⟨this.1, this.2.trans ?_⟩
  simp [knE, rk2]
theorem rk_put0 (hm : m < n) : 0 + m * 6 + 0 + 2 ≤ (rowA (knE (rpass f kn a b m)) n).size ∧ splice (rowA (knE (rpass f kn a b m)) n) (0 + m * 6 + 0) #[.int .i64 (rwd f (kn m) (a m) (b m)).tl, .int .i64 (rwd f (kn m) (a m) (b m)).th] = rowA (knE (rk1 f kn a b m)) n := by
  have := sub_splice (e := knE (rpass f kn a b m)) (z := 6) (o := 0) (x := [.int .i64 (rwd f (kn m) (a m) (b m)).tl, .int .i64 (rwd f (kn m) (a m) (b m)).th]) (y := knE (rk1 f kn a b m) m) (fun _ => rfl) rfl (by simp) (by simp [splice, knE, rk1, rpass]) hm
  rw [Nat.zero_add]
  refine ⟨this.1, this.2.trans (row_congr n fun k hk => ?_)⟩
  by_cases h : k = m
  · subst h; rw [if_pos rfl]
  · rw [if_neg h]; simp [knE, rk1, h]
theorem rk_put1 (hm : m < n) : 0 + m * 6 + 2 + 2 ≤ (rowA (knE (rk1 f kn a b m)) n).size ∧ splice (rowA (knE (rk1 f kn a b m)) n) (0 + m * 6 + 2) #[.int .i64 (rwd f (kn m) (a m) (b m)).ll, .int .i64 (rwd f (kn m) (a m) (b m)).lh] = rowA (knE (rk2 f kn a b m)) n := by
  have := sub_splice (e := knE (rk1 f kn a b m)) (z := 6) (o := 2) (x := [.int .i64 (rwd f (kn m) (a m) (b m)).ll, .int .i64 (rwd f (kn m) (a m) (b m)).lh]) (y := knE (rk2 f kn a b m) m) (fun _ => rfl) rfl (by simp) (by simp [splice, knE, rk1, rk2]) hm
  rw [Nat.zero_add]
  refine ⟨this.1, this.2.trans (row_congr n fun k hk => ?_)⟩
  by_cases h : k = m
  · subst h; rw [if_pos rfl]
  · rw [if_neg h]; simp [knE, rk1, rk2, h]
theorem rk_put2 (hm : m < n) : 0 + m * 6 + 4 + 2 ≤ (rowA (knE (rk2 f kn a b m)) n).size ∧ splice (rowA (knE (rk2 f kn a b m)) n) (0 + m * 6 + 4) #[.int .i64 (rwd f (kn m) (a m) (b m)).kl, .int .i64 (rwd f (kn m) (a m) (b m)).kh] = rowA (knE (rpass f kn a b (m + 1))) n := by
  have := sub_splice (e := knE (rk2 f kn a b m)) (z := 6) (o := 4) (x := [.int .i64 (rwd f (kn m) (a m) (b m)).kl, .int .i64 (rwd f (kn m) (a m) (b m)).kh]) (y := knE (rpass f kn a b (m + 1)) m) (fun _ => rfl) rfl (by simp) (by simp [splice, knE, rk2, rpass]) hm
  rw [Nat.zero_add]
  refine ⟨this.1, this.2.trans (row_congr n fun k hk => ?_)⟩
  by_cases h : k = m
  · subst h; rw [if_pos rfl]
  · rw [if_neg h]
    have : k < m + 1 ↔ k < m := by omega
    simp only [knE, rk2, h, if_false, rpass, this]
end
section
variable {i : Isl} {wa : Option Addr} {wc mc : Nat} {ma : Option Addr} {tanks : Int} {w : World} {n : Nat}
theorem exl_wid (lo hi a b : Int) (f : Bool) : ExL [.agg #[.int .i64 lo, .int .i64 hi], .bool f, .int .i64 a, .int .i64 b] [.agg #[.int .i64 lo, .int .i64 hi], .bool f, .int .i64 a, .int .i64 b] :=
  .cons (exact_agg (.cons (exact_af rfl) (.cons (exact_af rfl) .nil))) (.cons (exact_af rfl) (.cons (exact_af rfl) (.cons (exact_af rfl) .nil)))
theorem ex_span (a b : Int) : Exact (.agg #[.int .i64 a, .int .i64 b]) (.agg #[.int .i64 a, .int .i64 b]) := exact_agg (.cons (exact_af rfl) (.cons (exact_af rfl) .nil))
theorem con_wid0 {lo hi a b : Int} : CJ Tryz.prog (worldLo w) 43 #[.agg #[.int .i64 lo, .int .i64 hi], .bool true, .int .i64 a, .int .i64 b] [] n (.agg #[.int .i64 a, .int .i64 b]) [] n [] :=
  con_of (v' := .agg #[.int .i64 a, .int .i64 b]) (exl_wid lo hi a b true) (ex_span _ _) fun w' _ =>
    ((GoE.refl under_nil).calls goFns_ok mixed_ok (f := 43) (args := #[.agg #[.int .i64 lo, .int .i64 hi], .bool true, .int .i64 a, .int .i64 b]) (by kernel_rfl) (wid_first (worldLo w') lo hi a b) trivial (worldLo_has w') (VRl.vrs' (exl_wid lo hi a b true).vrl)).mono fun _ _ ⟨v', _, he, hv, hb, _⟩ => ⟨by rw [he, (ex_span _ _).2 _ _ hv], hb⟩
theorem con_wid1 {lo hi a b : Int} : CJ Tryz.prog (worldLo w) 43 #[.agg #[.int .i64 lo, .int .i64 hi], .bool false, .int .i64 a, .int .i64 b] [] n (.agg #[.int .i64 (min lo a), .int .i64 (max hi b)]) [] n [] :=
  con_of (v' := .agg #[.int .i64 (min lo a), .int .i64 (max hi b)]) (exl_wid lo hi a b false) (ex_span _ _) fun w' _ =>
    ((GoE.refl under_nil).calls goFns_ok mixed_ok (f := 43) (args := #[.agg #[.int .i64 lo, .int .i64 hi], .bool false, .int .i64 a, .int .i64 b]) (by kernel_rfl) (wid_more (worldLo w') lo hi a b (min lo a) (max hi b)) ⟨by split <;> omega, by split <;> omega, trivial⟩ (worldLo_has w') (VRl.vrs' (exl_wid lo hi a b false).vrl)).mono fun _ _ ⟨v', _, he, hv, hb, _⟩ => ⟨by rw [he, (ex_span _ _).2 _ _ hv], hb⟩
/-- The reference's Run at a drought that stands in memory that nobody writes, and rows of the run's own. -/
theorem con_runR {t : Tru} {rb rc r s : Nat} (hr : r < n) (hs : s < n) (m1 : t.nd ≤ maxLen) (m2 : t.nr ≤ maxLen) (m3 : t.nn ≤ maxLen) (hlt : rb < w.heap.size) (hrow : ∀ j, j < t.nd → w.cell? ⟨rb, j, none⟩ = some (.bool (t.dry j))) (hf : Fit i tanks t) (h1 : 1 ≤ i.nm) :
    CJ Tryz.prog (worldLo w) 22 #[islR i wa wc ma mc, .int .i64 tanks, .agg #[.int .i64 t.start, .int .i64 t.soak, .int .i64 t.leak, .slice (some ⟨rb, 0, some 0⟩) t.nd rc, .slice (some ⟨r, 0, none⟩) t.nr 1, .slice (some ⟨s, 0, none⟩) t.nn 1]]
      [(r, some (.cells (rowA (intE t.rains) t.nr) 3 (0, 0))), (s, some (.cells (rowA (intE t.needs) t.nn) 3 (0, 0)))] n
      (.tuple #[.slice (some ⟨n, 0, none⟩) i.nm 0, .agg #[.int .i64 (i.size * tanks + t.start), .int .i64 (runTo i tanks t i.nm).rain, .int .i64 (runTo i tanks t i.nm).used, .int .i64 (runTo i tanks t i.nm).leak, .int .i64 (runTo i tanks t i.nm).sea, .int .i64 ((runTo i tanks t i.nm).tanks + (runTo i tanks t i.nm).lens)]])
      [(n, .cells (rowA (seenE i tanks t) i.nm) 53 (1, 1))] (n + 1) [] := by
  refine cj_readrow seenE_af (fun p hp => ?_) fun μ w' args' hB hv hH => ?_
  · simp only [List.mem_cons, List.not_mem_nil, or_false] at hp
    rcases hp with rfl | rfl <;> assumption
  · obtain ⟨imr, r1, r2, r3⟩ := hH (r, some (.cells (rowA (intE t.rains) t.nr) 3 (0, 0))) (by simp) _ _ _ rfl
    obtain ⟨ims, s1, s2, s3⟩ := hH (s, some (.cells (rowA (intE t.needs) t.nn) 3 (0, 0))) (by simp) _ _ _ rfl
    have hl := vrl_args (l := [islR i wa wc ma mc, .int .i64 tanks, .agg #[.int .i64 t.start, .int .i64 t.soak, .int .i64 t.leak, .slice (some ⟨rb, 0, some 0⟩) t.nd rc, .slice (some ⟨r, 0, none⟩) t.nr 1, .slice (some ⟨s, 0, none⟩) t.nn 1]]) hv
    generalize hg : args'.toList = l at hl
    cases hl with
    | cons q1 hl => cases hl with
      | cons q2 hl => cases hl with
        | cons q3 hl =>
          cases hl
          have e1 := (exact_isl i wa wc ma mc).2 _ _ q1
          have e2 := (exact_af (v := .int .i64 tanks) rfl).2 _ _ q2
          obtain ⟨ys, rfl, hy⟩ := q3.agg_inv
          cases hy with
          | cons y1 hy => cases hy with
            | cons y2 hy => cases hy with
              | cons y3 hy => cases hy with
                | cons y4 hy => cases hy with
                  | cons y5 hy => cases hy with
                    | cons y6 hy =>
                      cases hy
                      have f1 := (exact_af (v := .int .i64 t.start) rfl).2 _ _ y1
                      have f2 := (exact_af (v := .int .i64 t.soak) rfl).2 _ _ y2
                      have f3 := (exact_af (v := .int .i64 t.leak) rfl).2 _ _ y3
                      have f4 := (exact_rawS (some ⟨rb, 0, none⟩) t.nd rc).2 _ _ y4
                      obtain ⟨cr, rfl, _, _⟩ := y5.slice_new r1
                      obtain ⟨cs, rfl, _, _⟩ := y6.slice_new s1
                      subst e1 e2 f1 f2 f3 f4
                      have e : args' = #[islV i wa wc ma mc, .int .i64 tanks, truV t (some ⟨rb, 0, none⟩) rc (some ⟨imr.blk, imr.off, none⟩) cr (some ⟨ims.blk, ims.off, none⟩) cs] := by rw [← Array.toList_inj, hg]; rfl
                      rw [e]
                      have hD : BoolsAt w' w'.heap.size (some ⟨rb, 0, none⟩) t.nd t.dry := fun _ => ⟨rb, 0, rfl, Nat.lt_of_lt_of_le hlt hB.le, fun k hk j hj => by
                        obtain rfl : j = 0 := by omega
                        rw [show 0 + k * 1 + 0 = k by omega, worldLo_cell hB hlt]
                        exact hrow k hk⟩
                      refine (rRun_any i wa wc ma mc tanks t _ rc _ cr _ cs w' ⟨m1, m2, m3, hD, atN_of_or r3 r2 (fun _ => rfl) intE_get, atN_of_or s3 s2 (fun _ => rfl) intE_get⟩ hf h1).mono fun e w'' ⟨⟨g, c, he, hg1, hc1, hc2, hs⟩, hb⟩ => ⟨⟨g, _, hg1, ?_, he, seens_cells hs, fun μ' hμ => ?_⟩, hb⟩
                      · obtain ⟨b, off, he, hlt, _⟩ := hs (by omega)
                        cases he
                        exact hlt
                      · have : VRl μ' [.slice (some ⟨n, 0, none⟩) i.nm 0, .agg #[.int .i64 (i.size * tanks + t.start), .int .i64 (runTo i tanks t i.nm).rain, .int .i64 (runTo i tanks t i.nm).used, .int .i64 (runTo i tanks t i.nm).leak, .int .i64 (runTo i tanks t i.nm).sea, .int .i64 ((runTo i tanks t i.nm).tanks + (runTo i tanks t i.nm).lens)]]
                            [.slice (some ⟨g, 0, none⟩) i.nm c, .agg #[.int .i64 (i.size * tanks + t.start), .int .i64 (runTo i tanks t i.nm).rain, .int .i64 (runTo i tanks t i.nm).used, .int .i64 (runTo i tanks t i.nm).leak, .int .i64 (runTo i tanks t i.nm).sea, .int .i64 ((runTo i tanks t i.nm).tanks + (runTo i tanks t i.nm).lens)]] :=
                          .cons (.slice ⟨_, hμ, rfl, rfl⟩ hc1 hc2 fun h => absurd rfl h) (.cons (vr_af (by kernel_rfl)) .nil)
                        exact .tuple this.vrs'.1 this.vrs'.2
end
end Go.Proofs.YtffdidleebognaaGreatDoor

namespace Go.Proofs.YtffdidleebognaaGreatDoor
open Go Go.CE Go.Proofs Go.RowKit Lens
def rkP (tanks : Int) (p : Value) : List (Nat × Value) := [(1, .int .i64 tanks), (2, p), (4, .slice none 0 0)]
def rkB : List It := [.code [1, 0], .code [1, 1]]
set_option maxRecDepth 100000 in
theorem rk_prefix (B : Lo) (i : Isl) (W M : Value) (tanks : Int) : land (srun Tryz.prog goFns B 3 0 (entryC Tryz.prog 17 122 [.agg (islC i W M), .int .i64 tanks]) (heapO 0 []) 0 [] 0 [] []) ((rkP tanks (.pointer (some ⟨0, 0, none⟩))).map (·.1)) ((kz [0] [(false, Obj.cells (islC i W M) 27 (0, 0))]).map (·.old)) =
    some ⟨17, 122, rkB.map (it (bodyOf Tryz.prog 17)), [], .run, none, (rkP tanks (.pointer (some ⟨0, 0, none⟩))).map (fun p => rnV (rhoK (kz [0] [(false, Obj.cells (islC i W M) 27 (0, 0))])) 3 p.2), (kz [0] [(false, Obj.cells (islC i W M) 27 (0, 0))]).map (fun kept_ => some (wasK (rhoK (kz [0] [(false, Obj.cells (islC i W M) 27 (0, 0))])) kept_)), 1, []⟩ := by kernel_rfl
noncomputable def rkOps : Array Oper := match nav (bodyOf Tryz.prog 17) [1, 0] with | .region _ ops _ => ops | _ => #[]
noncomputable def rkId : Nat := match nav (bodyOf Tryz.prog 17) [1, 0] with | .region id _ _ => id | _ => 0
noncomputable def rkO1 : Oper := match rkOps.toList with | _ :: o :: _ => o | _ => ⟨none, .panic (.const undef), 0, "", #[], .none⟩
noncomputable def rkPre : List Oper := rkOps.toList.take 1
noncomputable def rkPost : List Oper := rkOps.toList.drop 2
theorem rk_ops : rkOps.toList = rkPre ++ rkO1 :: rkPost := by kernel_rfl
theorem rk_todo : rkB.map (it (bodyOf Tryz.prog 17)) = .code (.region rkId rkOps false) :: [It.code [1, 1]].map (it (bodyOf Tryz.prog 17)) := by kernel_rfl
def getR : Option RR → RR
  | some r => r
  | none => ⟨[], ⟨0, .lf⟩, [], 0, [], 0, []⟩
def rkT0 (tanks : Int) (b0 : Nat) (d : Nat → Value) : Tm := mkT 122 (rkP tanks (.pointer (some ⟨b0, 0, some 0⟩))) d
theorem rk_pre (B : Lo) (i : Isl) (W M : Value) (tanks : Int) (b0 : Nat) (d : Nat → Value) : ∃ r, rrunH Tryz.prog goFns B rkOps rkPre (rkT0 tanks b0 d) [] 0 [(0, .raw (.agg (islC i W M)))] 0 [] = some r ∧ r.T = tput (rkT0 tanks b0 d) (some 13) (.agg (islC i W M)) ∧ r.n = 0 ∧ r.H = [] ∧
    r.L = [∀ (j : Nat) u, (islC i W M)[j]? = some u → RawCell B b0 (0 + j) u] :=
  ⟨getR (rrunH Tryz.prog goFns B rkOps rkPre (rkT0 tanks b0 d) [] 0 [(0, .raw (.agg (islC i W M)))] 0 []), by kernel_rfl, by kernel_rfl, by kernel_rfl, by kernel_rfl, by kernel_rfl⟩
def isDefer : Op → Bool
  | .defer _ => true
  | _ => false
theorem rk_nodefer : ∀ c, rkO1.op ≠ .defer c := fun c h => by
  have : isDefer rkO1.op = false := by kernel_rfl
  rw [h] at this
  cases this
theorem rk_dst (tanks : Int) (b0 : Nat) (d : Nat → Value) (v : Value) : dstOk (tput (rkT0 tanks b0 d) (some 13) v) rkO1.dst = true := by kernel_rfl
theorem rk_want (tanks : Int) (b0 : Nat) (d : Nat → Value) (v : Value) : Region.wanted rkO1 (yieldedC rkOps (tput (rkT0 tanks b0 d) (some 13) v)) = true := by kernel_rfl
theorem rk_cop (tanks : Int) (b0 : Nat) (d : Nat → Value) (cs : Array Value) : copR Tryz.prog goFns (evC (tput (rkT0 tanks b0 d) (some 13) (.agg cs))) rkO1 [] 0 = some ⟨.enter 42 #[.agg cs], [], 0, [], []⟩ := by kernel_rfl
theorem rk_post (B : Lo) (tanks : Int) (b0 g c K : Nat) (d : Nat → Value) (v : Value) : ∃ r, rrunH Tryz.prog goFns B rkOps rkPost (tput (tput (rkT0 tanks b0 d) (some 13) v) rkO1.dst (.slice (some ⟨g, 0, some 0⟩) K c)) [] 0 [] 0 [] = some r ∧
    r.T = tput (tput (tput (rkT0 tanks b0 d) (some 13) v) (some 14) (.slice (some ⟨g, 0, some 0⟩) K c)) (some 5) (.slice (some ⟨g, 0, some 0⟩) K c) ∧ r.n = 0 ∧ r.H = [] ∧ r.L = [] :=
  ⟨getR (rrunH Tryz.prog goFns B rkOps rkPost (tput (tput (rkT0 tanks b0 d) (some 13) v) rkO1.dst (.slice (some ⟨g, 0, some 0⟩) K c)) [] 0 [] 0 []), by kernel_rfl, by kernel_rfl, by kernel_rfl, by kernel_rfl, by kernel_rfl⟩
/-- The reference's bounds, after the first n droughts. -/
def rkTo (i : Isl) (tanks : Int) (l : List Nat) : Nat → (Nat → Kn)
  | 0 => fun _ => zeroKn
  | n + 1 => rpass (Nat.beq n 0) (rkTo i tanks l n) (endsOf i tanks false (bitsDry i.nm (l.getD n 0))) (endsOf i tanks true (bitsDry i.nm (l.getD n 0))) i.nm
section
variable {i : Isl} {wa : Option Addr} {wc mb mo mc : Nat} {ma : Option Addr} {tanks : Int} {w : World} {n : Nat}
theorem seen_at {t : Tru} {k m : Nat} (hk : k < m) : (rowA (seenE i tanks t) m)[0 + k * 3 + 0]? = some (.int .i64 (runTo i tanks t (k + 1)).tanks) ∧ (rowA (seenE i tanks t) m)[0 + k * 3 + 1]? = some (.int .i64 (runTo i tanks t (k + 1)).lens) ∧ (rowA (seenE i tanks t) m)[0 + k * 3 + 2]? = some (.int .i64 (runTo i tanks t (k + 1)).lack) := by
  have h : ∀ k, (seenE i tanks t k).length = 3 := fun _ => rfl
  rw [Nat.zero_add]
  exact ⟨rowA_get h (j := 0) (by omega) m k hk, rowA_get h (j := 1) (by omega) m k hk, rowA_get h (j := 2) (by omega) m k hk⟩
noncomputable abbrev rkC (tanks : Int) (b0 g c K : Nat) (isl : Value) (d : Nat → Value) : CF := ⟨17, tput (tput (tput (rkT0 tanks b0 d) (some 13) isl) (some 14) (.slice (some ⟨g, 0, some 0⟩) K c)) (some 5) (.slice (some ⟨g, 0, some 0⟩) K c), [It.code [1, 1]].map (it (bodyOf Tryz.prog 17)), [], .run, none⟩
set_option maxRecDepth 100000 in
/-- All rounds of the reference's Known. -/
theorem rk_all {w2 : World} {b0 g c : Nat} {rb rc : Nat → Nat} {isl : Value} {d0 : Nat → Value} {l : List Nat} (hi : IslAt w2 w2.heap.size i wa (some ⟨mb, mo, none⟩)) (hI : islB i = true) (ht : tanksB tanks = true) 
    (hIsl : ∀ (j : Nat) u, (islC i (rawS wa i.nw wc) (rawS (some ⟨mb, mo, none⟩) i.nm mc))[j]? = some u → RawCell (worldLo w2) b0 (0 + j) u) (hN : Nest w2 g l.length i.nm rb rc fun n => bitsDry i.nm (l.getD n 0)) (hl : l.length ≤ 1000) :
    ∀ n, n ≤ l.length → ∃ d : Nat → Value, (∀ t, Loose (d t)) ∧ GoE Tryz.prog (worldLo w2) (rkC tanks b0 g c l.length isl d0) [] 0
      (headC 17 122 (rkL tanks b0 g c l.length i.nm n) d (rkT.map (it (bodyOf Tryz.prog 17)))) (heapO 0 [(false, .cells (rowA (knE (rkTo i tanks l n)) i.nm) 56 (0, 0))]) 1 [] := by
  obtain ⟨hnm1, hnm8, hmost, hrow⟩ := isl_nm' hI
  have hml : i.nm ≤ maxLen := by unfold maxLen; omega
  have hfit : ∀ much d, Fit i tanks (endTru i much i.nm d) := fun much d => fit_end hI ht much _ d
  have ok1 : ∀ kn', OkAll 1 [(false, Obj.cells (rowA (knE kn') i.nm) 56 (0, 0))] := fun kn' => ⟨.inr ⟨rfl, loose_knE _ _⟩, trivial⟩
  have ok3 : ∀ kn' t t', OkAll 3 (rkO (rowA (knE kn') i.nm) (rowA (seenE i tanks t) i.nm) (rowA (seenE i tanks t') i.nm)) := fun kn' t t' => ⟨.inr ⟨rfl, loose_knE _ _⟩, .inr ⟨rfl, loose_seenE _ _ _ _⟩, .inr ⟨rfl, loose_seenE _ _ _ _⟩, trivial⟩
  have hmk : cMake Tryz.prog 32 (.int .i64 (i.nm : Int)) (.int .i64 (i.nm : Int)) = some (56, rowA (knE (fun _ => zeroKn)) i.nm, i.nm, 6) := by
    have e : rowA (knE (fun _ => zeroKn)) i.nm = rowA (fun _ => [.int .i64 0, .int .i64 0, .int .i64 0, .int .i64 0, .int .i64 0, .int .i64 0]) i.nm := row_congr _ fun k _ => by simp [knE, zeroKn]
    rw [e]
    exact cMake_row (P := Tryz.prog) (t := 32) (e := 56) (i := Go.Proofs.Tryz.t56) (zv := .agg #[.int .i64 0, .int .i64 0, .int .i64 0, .int .i64 0, .int .i64 0, .int .i64 0]) (by kernel_rfl) (by kernel_rfl) (by kernel_rfl) (by kernel_rfl) (by decide) (by kernel_rfl) (by show 48 * i.nm ≤ _; omega) (by omega)
  have hM : RawCell (worldLo w2) b0 13 (.slice (some ⟨mb, mo, some 0⟩) i.nm mc) := hIsl 13 _ rfl
  have hrb : ∀ n, n < l.length → RawCell (worldLo w2) g (0 + n * 1) (.slice (some ⟨rb n, 0, some 0⟩) i.nm (rc n)) := fun n hn => by
    rw [show 0 + n * 1 = n by omega]
    exact raw_of hN.lt (hN.at' n hn) fun _ => .rawSlice _ _ 0 _ _
  have hbit : ∀ n, n < l.length → ∀ k, k < i.nm → RawCell (worldLo w2) (rb n) (0 + k * 1) (.bool (bitsDry i.nm (l.getD n 0) k)) := fun n hn k hk => by
    rw [show 0 + k * 1 = k by omega]
    exact raw_of (hN.row n hn).1 ((hN.row n hn).2 k hk) fun _ => .bool _
  intro n
  induction n with
  | zero =>
    intro _
    exact (GoE.refl (P := Tryz.prog) (B := worldLo w2) (c0 := rkC tanks b0 g c l.length isl d0) under_nil).headO goFns_ok mixed_ok (rk_start (worldLo w2) i tanks b0 g c l.length mb mo mc (rowA (knE (fun _ => zeroKn)) i.nm) isl d0) ⟨hmk, hM, trivial⟩
      (by kernel_rfl) (by kernel_rfl) (by kernel_rfl) (by kernel_rfl) (by kernel_rfl) (by kernel_rfl) (ok1 _)
  | succ n ih =>
    intro hn
    have hlt : n < l.length := by omega
    obtain ⟨d, _, hg⟩ := ih (by omega)
    let dr := bitsDry i.nm (l.getD n 0)
    let ta := endTru i false i.nm dr
    let tb := endTru i true i.nm dr
    have hg1 := hg.headO goFns_ok mixed_ok
      (rk_runs (worldLo w2) i (rawS wa i.nw wc) (rawS (some ⟨mb, mo, none⟩) i.nm mc) tanks b0 g c l.length (rb n) (rc n) n (rowA (knE (rkTo i tanks l n)) i.nm) (rowA (intE ta.rains) i.nm) (rowA (intE ta.needs) i.nm) (rowA (intE tb.rains) i.nm) (rowA (intE tb.needs) i.nm) (rowA (seenE i tanks ta) i.nm) (rowA (seenE i tanks tb) i.nm) i.sl i.kl i.lh i.sh i.kh i.ll
        (i.size * tanks + ta.start) (runTo i tanks ta i.nm).rain (runTo i tanks ta i.nm).used (runTo i tanks ta i.nm).leak (runTo i tanks ta i.nm).sea ((runTo i tanks ta i.nm).tanks + (runTo i tanks ta i.nm).lens)
        (i.size * tanks + tb.start) (runTo i tanks tb i.nm).rain (runTo i tanks tb i.nm).used (runTo i tanks tb i.nm).leak (runTo i tanks tb i.nm).sea ((runTo i tanks tb i.nm).tanks + (runTo i tanks tb i.nm).lens) d)
      ⟨con_runR (w := w2) (i := i) (tanks := tanks) (wa := wa) (wc := wc) (ma := some ⟨mb, mo, none⟩) (mc := mc) (t := tb) (n := 7) (r := 5) (s := 6) (rb := rb n) (rc := rc n) (by omega) (by omega) hml hml hml (hN.row n hlt).1 (hN.row n hlt).2 (hfit _ _) hnm1,
        her_con (d := dr) hi hnm1 (Nat.le_refl _) hnm8 (hbit n hlt), hrb n hlt, ⟨rfl, hlt⟩, hIsl, hIsl,
        con_runR (w := w2) (i := i) (tanks := tanks) (wa := wa) (wc := wc) (ma := some ⟨mb, mo, none⟩) (mc := mc) (t := ta) (n := 3) (r := 1) (s := 2) (rb := rb n) (rc := rc n) (by omega) (by omega) hml hml hml (hN.row n hlt).1 (hN.row n hlt).2 (hfit _ _) hnm1,
        ler_con (d := dr) hi hnm1 (Nat.le_refl _) hnm8 (hbit n hlt), hrb n hlt, ⟨rfl, hlt⟩, hIsl, hIsl, ltq_t (by omega), trivial⟩
      (by kernel_rfl) (by kernel_rfl) (by kernel_rfl) (by kernel_rfl) (by kernel_rfl) (by kernel_rfl) (ok3 _ _ _)
    let ea := endsOf i tanks false dr
    let eb := endsOf i tanks true dr
    have months : ∀ m, m ≤ i.nm → ∃ d : Nat → Value, (∀ t, Loose (d t)) ∧ GoE Tryz.prog (worldLo w2) (rkC tanks b0 g c l.length isl d0) [] 0
        (headC 17 122 (rkI tanks b0 g c l.length i.nm n m) d (rkU.map (it (bodyOf Tryz.prog 17)))) (heapO 0 (rkO (rowA (knE (rpass (Nat.beq n 0) (rkTo i tanks l n) ea eb m)) i.nm) (rowA (seenE i tanks ta) i.nm) (rowA (seenE i tanks tb) i.nm))) 3 [] := by
      intro m
      induction m with
      | zero => intro _; rw [rpass_zero]; exact hg1
      | succ m ih =>
        intro hm
        obtain ⟨d, _, hg⟩ := ih (by omega)
        have hmn : m < i.nm := by omega
        obtain ⟨a1, a2, a3⟩ := seen_at (i := i) (tanks := tanks) (t := ta) hmn
        obtain ⟨c1, c2, c3⟩ := seen_at (i := i) (tanks := tanks) (t := tb) hmn
        let kn := rkTo i tanks l n
        cases n with
        | zero =>
          exact hg.headO goFns_ok mixed_ok (rk_in0 (worldLo w2) i tanks b0 g c l.length 0 m (rowA (knE (rpass true kn ea eb m)) i.nm) (rowA (knE (rk1 true kn ea eb m)) i.nm) (rowA (knE (rk2 true kn ea eb m)) i.nm) (rowA (knE (rpass true kn ea eb (m + 1))) i.nm) (rowA (seenE i tanks ta) i.nm) (rowA (seenE i tanks tb) i.nm)
              (kn m).tl (kn m).th (kn m).ll (kn m).lh (kn m).kl (kn m).kh (ea m).tanks (ea m).lens (ea m).lack (eb m).tanks (eb m).lens (eb m).lack (ea m).tanks (eb m).tanks (ea m).lens (eb m).lens (eb m).lack (ea m).lack d)
            ⟨wq_in (by omega) (by omega), rk_put2 hmn, ⟨rfl, hmn⟩, con_wid0, a3, ⟨rfl, hmn⟩, c3, ⟨rfl, hmn⟩, rk_get2 hmn, ⟨rfl, hmn⟩,
              rk_put1 hmn, ⟨rfl, hmn⟩, con_wid0, c2, ⟨rfl, hmn⟩, a2, ⟨rfl, hmn⟩, rk_get1 hmn, ⟨rfl, hmn⟩,
              rk_put0 hmn, ⟨rfl, hmn⟩, con_wid0, c1, ⟨rfl, hmn⟩, a1, ⟨rfl, hmn⟩, rk_get0 hmn, ⟨rfl, hmn⟩, ltq_t (by omega), trivial⟩
            (by kernel_rfl) (by kernel_rfl) (by kernel_rfl) (by kernel_rfl) (by kernel_rfl) (by kernel_rfl) (ok3 _ _ _)
        | succ n =>
          exact hg.headO goFns_ok mixed_ok (rk_in (worldLo w2) i tanks b0 g c l.length n m (rowA (knE (rpass false kn ea eb m)) i.nm) (rowA (knE (rk1 false kn ea eb m)) i.nm) (rowA (knE (rk2 false kn ea eb m)) i.nm) (rowA (knE (rpass false kn ea eb (m + 1))) i.nm) (rowA (seenE i tanks ta) i.nm) (rowA (seenE i tanks tb) i.nm)
              (kn m).tl (kn m).th (kn m).ll (kn m).lh (kn m).kl (kn m).kh (ea m).tanks (ea m).lens (ea m).lack (eb m).tanks (eb m).lens (eb m).lack (min (kn m).tl (ea m).tanks) (max (kn m).th (eb m).tanks) (min (kn m).ll (ea m).lens) (max (kn m).lh (eb m).lens) (min (kn m).kl (eb m).lack) (max (kn m).kh (ea m).lack) d)
            ⟨wq_in (by omega) (by omega), rk_put2 hmn, ⟨rfl, hmn⟩, con_wid1, a3, ⟨rfl, hmn⟩, c3, ⟨rfl, hmn⟩, rk_get2 hmn, ⟨rfl, hmn⟩,
              rk_put1 hmn, ⟨rfl, hmn⟩, con_wid1, c2, ⟨rfl, hmn⟩, a2, ⟨rfl, hmn⟩, rk_get1 hmn, ⟨rfl, hmn⟩,
              rk_put0 hmn, ⟨rfl, hmn⟩, con_wid1, c1, ⟨rfl, hmn⟩, a1, ⟨rfl, hmn⟩, rk_get0 hmn, ⟨rfl, hmn⟩, ltq_t (by omega), trivial⟩
            (by kernel_rfl) (by kernel_rfl) (by kernel_rfl) (by kernel_rfl) (by kernel_rfl) (by kernel_rfl) (ok3 _ _ _)
    obtain ⟨d2, _, hg2⟩ := months i.nm (Nat.le_refl _)
    exact hg2.headO goFns_ok mixed_ok (rk_next (worldLo w2) i tanks b0 g c l.length n i.nm (rowA (knE (rkTo i tanks l (n + 1))) i.nm) (rowA (seenE i tanks ta) i.nm) (rowA (seenE i tanks tb) i.nm) d2)
      ⟨wq_in (by omega) (by omega), ltq_f (by omega), trivial⟩ (by kernel_rfl) (by kernel_rfl) (by kernel_rfl) (by kernel_rfl) (by kernel_rfl) (by kernel_rfl) (ok1 _)
set_option maxRecDepth 100000 in
theorem rKnown_any (hi : IslAt w w.heap.size i wa ma) (hI : islB i = true) (ht : tanksB tanks = true) (h7 : i.nm ≤ 7) :
    Calls Tryz.prog 17 #[islV i wa wc ma mc, .int .i64 tanks] w fun e' w' => (∃ g c, e' = .returned (.slice (some ⟨g, 0, none⟩) i.nm c) ∧ w.heap.size ≤ g ∧ g < w'.heap.size ∧ i.nm ≤ c ∧ c ≤ maxLen ∧
      ∀ (j : Nat) v, (rowA (knE (rkTo i tanks (pas i (2 ^ i.nm)) (pas i (2 ^ i.nm)).length)) i.nm)[j]? = some v → w'.cell? ⟨g, j, none⟩ = some v) ∧ Below w.heap.size w w' := by
  obtain ⟨hnm1, hnm8, hmost, hrow⟩ := isl_nm' hI
  obtain ⟨mb, mo, rfl, _⟩ := monsGet hi.months (show 0 < i.nm by omega)
  have hp : 2 ^ i.nm ≤ 128 := Nat.pow_le_pow_right (by decide) h7
  have hlen : (pas i (2 ^ i.nm)).length ≤ 1000 := Nat.le_trans (Nat.le_trans (List.length_filter_le _ _) (by simp)) (show 2 ^ i.nm ≤ 1000 by omega)
  generalize hL : pas i (2 ^ i.nm) = l at hlen
  intro cs
  have hst : At Tryz.prog (Frame.enter Tryz.prog 17 #[islV i wa wc (some ⟨mb, mo, none⟩) mc, .int .i64 tanks] .normal) cs w (worldLo w) (entryC Tryz.prog 17 122 [islR i wa wc (some ⟨mb, mo, none⟩) mc, .int .i64 tanks]) [] 0 w :=
    At.start (args := #[islR i wa wc (some ⟨mb, mo, none⟩) mc, .int .i64 tanks]) (by kernel_rfl) (VRl.vrs' (.cons (vr_isl i wa wc (some ⟨mb, mo, none⟩) mc) (.cons (.int _ _) .nil)))
  obtain ⟨d, hd, hg0⟩ := (GoE.refl (P := Tryz.prog) (B := worldLo w) (c0 := entryC Tryz.prog 17 122 [islR i wa wc (some ⟨mb, mo, none⟩) mc, .int .i64 tanks]) under_nil).headO goFns_ok mixed_ok (live := rkP tanks (.pointer (some ⟨0, 0, none⟩)))
    (rk_prefix (worldLo w) i (rawS wa i.nw wc) (rawS (some ⟨mb, mo, none⟩) i.nm mc) tanks) trivial (by kernel_rfl) (by kernel_rfl) (by kernel_rfl) (by kernel_rfl) (by kernel_rfl) (by kernel_rfl) ⟨.inr ⟨rfl, loose_isl i wa wc (some ⟨mb, mo, none⟩) mc⟩, trivial⟩
  obtain ⟨w1, hat⟩ := hst.go hg0
  obtain ⟨μ, A, hok, hh, hmk⟩ := hat.rebase (by decide) hd (by kernel_rfl) (by kernel_rfl) (by kernel_rfl)
  obtain ⟨im0, him0, hor0⟩ := hok.rel 0 (.cells (islC i (rawS wa i.nw wc) (.slice (some ⟨mb, mo, some 0⟩) i.nm mc)) 27 (0, 0)) (by show 0 < 1; omega) rfl trivial
  have hl0 := (hok.low 0 _ im0 (by show 0 < 1; omega) (show hget (heapO 0 [(false, Obj.cells (islC i (rawS wa i.nw wc) (.slice (some ⟨mb, mo, some 0⟩) i.nm mc)) 27 (0, 0))]) 0 = some (.cells (islC i (rawS wa i.nw wc) (.slice (some ⟨mb, mo, some 0⟩) i.nm mc)) 27 (0, 0)) from rfl) trivial him0).1
  have o0 : im0.off = 0 := by
    rcases hor0 with ⟨_, _, h, _⟩ | ⟨h, _⟩
    · exact h
    · exact absurd rfl h
  have hP := hh (2, .pointer (some ⟨0, 0, none⟩)) (by simp [rkP])
  have hT := hh (1, .int .i64 tanks) (by simp [rkP])
  have h4 := hh (4, .slice none 0 0) (by simp [rkP])
  have eP : A.getD 2 undef = .pointer (some ⟨im0.blk, 0, none⟩) := by
    generalize A.getD 2 undef = v at hP
    cases hP with
    | ptr har =>
      obtain ⟨im, q1, _, rfl⟩ := har
      rw [him0] at q1; cases q1
      simp [o0]
  have hat1 := hmk (rkP tanks (.pointer (some ⟨im0.blk, 0, some 0⟩))) rfl fun p hp => by
    simp only [rkP, List.mem_cons, List.not_mem_nil, or_false] at hp
    rcases hp with rfl | rfl | rfl
    · rw [af_eq (v := .int .i64 tanks) rfl hT]; exact .int _ _
    · rw [eP]; exact .rawPtr _ _ 0
    · rw [af_eq (v := .slice none 0 0) rfl h4]; exact .nilSlice 0 0
  have hcell : ∀ (j : Nat) v, (islC i (rawS wa i.nw wc) (rawS (some ⟨mb, mo, none⟩) i.nm mc))[j]? = some v → ∃ μ v', w1.cell? ⟨im0.blk, j, none⟩ = some v' ∧ VR μ v v' := fun j v hv => by
    obtain ⟨v', hc, hv'⟩ := hor0.cell hv
    rw [o0, Nat.zero_add] at hc
    exact ⟨μ, v', hc, hv'⟩
  have hhas : (worldLo w).has w1 := ⟨hat.below.size, fun b hb => hat.below.block b hb⟩
  have hi1 := islAt_lo hi hhas
  obtain ⟨r, hr, hrT, hrn, hrH, hrL⟩ := rk_pre (worldLo w1) i (rawS wa i.nw wc) (rawS (some ⟨mb, mo, none⟩) i.nm mc) tanks im0.blk d
  have hat2 : At Tryz.prog (Frame.enter Tryz.prog 17 #[islV i wa wc (some ⟨mb, mo, none⟩) mc, .int .i64 tanks] .normal) cs w (worldLo w1) ⟨17, rkT0 tanks im0.blk d, .code (.region rkId rkOps false) :: [It.code [1, 1]].map (it (bodyOf Tryz.prog 17)), [], .run, none⟩ [] 0 w1 := by
    rw [← rk_todo]; exact hat1
  obtain ⟨v, w2, ⟨g, c, rb, rc, rfl, hN⟩, hblk, hsz, hnext⟩ := hat2.callX (Q := fun v w2 => ∃ g c rb rc, v = .slice (some ⟨g, 0, none⟩) l.length c ∧ Nest w2 g l.length i.nm rb rc fun n => bitsDry i.nm (l.getD n 0)) (g := 42) (args := #[islR i wa wc (some ⟨mb, mo, none⟩) mc]) (r := r) goFns_ok rk_ops (by kernel_rfl) hr
    (by rw [hrL]; exact ⟨isl_raw hl0 hcell, trivial⟩) hrn hrH (by rw [hrT]; exact rk_dst _ _ _ _) (by rw [hrT]; exact rk_want _ _ _ _) rk_nodefer (by rw [hrT]; exact rk_cop _ _ _ _) fun w' args' hB ha => by
      rw [(show ExL [islR i wa wc (some ⟨mb, mo, none⟩) mc] [islV i wa wc (some ⟨mb, mo, none⟩) mc] from .cons (exact_isl _ _ _ _ _) .nil).args ha]
      refine (rDroughts_any (wc := wc) (mc := mc) (islAt_lo hi1 hB) hI h7).mono fun e w'' ⟨⟨v, he, g, c, rb, rc, hv, _, _, _, _, hN⟩, hb⟩ => ⟨⟨v, he, g, c, rb, rc, ?_, ?_⟩, hb⟩
      · rw [hL] at hv; exact hv
      · rw [hL] at hN; exact hN
  have hhas2 : (worldLo w1).has w2 := ⟨hsz, hblk⟩
  have hi2 := islAt_lo hi1 hhas2
  obtain ⟨r2, hr2, hrT2, hrn2, hrH2, hrL2⟩ := rk_post (worldLo w2) tanks im0.blk g c l.length d (.agg (islC i (rawS wa i.nw wc) (rawS (some ⟨mb, mo, none⟩) i.nm mc)))
  obtain ⟨w3, hat3⟩ := hnext (.slice (some ⟨g, 0, some 0⟩) l.length c) [] 0 r2 (.rawSlice _ _ 0 _ _) (by rw [hrT]; exact hr2) (by rw [hrL2]; trivial)
  rw [hrT2, hrn2, hrH2] at hat3
  have hIsl := isl_raw (wc := wc) (mc := mc) (ma := some ⟨mb, mo, none⟩) (Nat.lt_of_lt_of_le hl0 hsz) fun j v hv => by
    obtain ⟨μ, v', h1, h2⟩ := hcell j v hv
    exact ⟨μ, v', (worldLo_cell hhas2 hl0).trans h1, h2⟩
  obtain ⟨d', _, hg⟩ := rk_all (tanks := tanks) (c := c) (isl := .agg (islC i (rawS wa i.nw wc) (rawS (some ⟨mb, mo, none⟩) i.nm mc))) (d0 := d) hi2 hI ht hIsl hN hlen l.length (Nat.le_refl _)
  obtain ⟨w4, hat4⟩ := hat3.go hg
  refine hat4.ends goFns_ok mixed_ok (under_heapO _ (by simp)) (rk_end (worldLo w2) i tanks im0.blk g c l.length l.length (rowA (knE (rkTo i tanks l l.length)) i.nm) d') ⟨ltq_f (Int.le_refl _), trivial⟩ fun v' μ' w' hv hb hB hnew => ⟨?_, hb⟩
  obtain ⟨g', cap, k1, k2, k3, k4⟩ := af_row (hnew 0 0 (rowA (knE (rkTo i tanks l l.length)) i.nm) 56 rfl rfl) (knE_af _ _)
  obtain ⟨c', rfl, hc1, hc2⟩ := hv.slice_new k3
  exact ⟨g', c', rfl, k1, k2, hc1, hc2, k4⟩
end
end Go.Proofs.YtffdidleebognaaGreatDoor

namespace Go.Proofs.YtffdidleebognaaGreatDoor
open Go Go.CE Go.Proofs Go.RowKit Lens
end Go.Proofs.YtffdidleebognaaGreatDoor

namespace Go.Proofs.YtffdidleebognaaGreatDoor
open Go Go.ChangeShapes Go.WideShapes Go.ChangeAt Go.RowKit Go.WideElems Lens
/-- What a law of an islet and a number must do. -/
def Walk2 (f : FuncId) : Prop := ∀ (i : Isl) (wa : Option Addr) (wc : Nat) (ma : Option Addr) (mc : Nat) (x : Int) (w : World),
  IslAt w w.heap.size i wa ma → CE.pow10Is w → Calls Tryz.prog f #[islV i wa wc ma mc, .int .i64 x] w fun e' w' => e' = .returned (.bool true) ∧ Below w.heap.size w w'
end Go.Proofs.YtffdidleebognaaGreatDoor

namespace Lens
theorem leak_mono {b b' l l' : Int} (h0 : 0 ≤ b) (hb : b ≤ b') (_hl0 : 0 ≤ l') (hl : l' ≤ l) (h1 : l ≤ 1000) : b - b * l / 1000 ≤ b' - b' * l' / 1000 := by
  have p1 : b' * l' ≤ b' * l := Int.mul_le_mul_of_nonneg_left hl (by omega)
  have p2 : (b' - b) * l ≤ (b' - b) * 1000 := Int.mul_le_mul_of_nonneg_left h1 (by omega)
  have p3 : (b' - b) * l = b' * l - b * l := Int.sub_mul _ _ _
  generalize b' * l' = x at *
  generalize b' * l = y at *
  generalize b * l = z at *
  omega
theorem min_mono {x x' f a a' : Int} (h : x ≤ x') (e : (if x < f then x else f) = a) (e' : (if x' < f then x' else f) = a') : a ≤ a' := by
  split at e <;> split at e' <;> omega
/-- What is left of tanks, and what is still wanted. -/
theorem take_mono {a a' n n' T T' : Int} (ha : a ≤ a') (hn : n' ≤ n) (e : (if n < a then n else a) = T) (e' : (if n' < a' then n' else a') = T') : a - T ≤ a' - T' ∧ n' - T' ≤ n - T := by
  split at e <;> split at e' <;> omega
theorem pump_mono {c c' r r' p k M M' U U' : Int} (hc : c ≤ c') (hr : r' ≤ r) (hr0 : 0 ≤ r') (hp : 0 ≤ p) (eM : (if k < c then c - k else 0) = M) (eM' : (if k < c' then c' - k else 0) = M')
    (e : (if M < (if p < r then p else r) then M else (if p < r then p else r)) = U) (e' : (if M' < (if p < r' then p else r') then M' else (if p < r' then p else r')) = U') : c - U ≤ c' - U' ∧ r' - U' ≤ r - U := by
  obtain ⟨q, hq⟩ : ∃ x, (if p < r then p else r) = x := ⟨_, rfl⟩
  obtain ⟨q', hq'⟩ : ∃ x, (if p < r' then p else r') = x := ⟨_, rfl⟩
  rw [hq] at e
  rw [hq'] at e'
  have h1 : q ≤ p ∧ q ≤ r ∧ (q = p ∨ q = r) := by split at hq <;> omega
  have h2 : q' ≤ p ∧ q' ≤ r' ∧ (q' = p ∨ q' = r') := by split at hq' <;> omega
  have h3 : 0 ≤ M ∧ c - k ≤ M ∧ (M = 0 ∨ M = c - k) := by split at eM <;> omega
  have h4 : 0 ≤ M' ∧ c' - k ≤ M' ∧ (M' = 0 ∨ M' = c' - k) := by split at eM' <;> omega
  have h5 : U ≤ M ∧ U ≤ q ∧ (U = M ∨ U = q) := by split at e <;> omega
  have h6 : U' ≤ M' ∧ U' ≤ q' ∧ (U' = M' ∨ U' = q') := by split at e' <;> omega
  clear hq hq' eM eM' e e'
  omega
/-- A state with less water than another one. -/
structure Less (s s' : St) : Prop where
  tanks : s.tanks ≤ s'.tanks
  lens : s.lens ≤ s'.lens
  lack : s'.lack ≤ s.lack
/-- A truth with less water than another one, in the first n months. -/
structure LessT (n : Nat) (t t' : Tru) : Prop where
  start : t.start ≤ t'.start
  soak : t.soak ≤ t'.soak
  leak : t'.leak ≤ t.leak
  rains : ∀ k, k < n → t.rains k ≤ t'.rains k
  needs : ∀ k, k < n → t'.needs k ≤ t.needs k
theorem step_mono {i : Isl} {tanks : Int} {t t' : Tru} (h : Fit i tanks t) (h' : Fit i tanks t') (hl : LessT i.nm t t') {k : Nat} (hk : k < i.nm) {s s' : St} (hs : StOk i (i.size * tanks) k s) (hs' : StOk i (i.size * tanks) k s') (ht : s.tanks ≤ s'.tanks) (hle : s.lens ≤ s'.lens) :
    Less (stepSt i (i.size * tanks) t k s) (stepSt i (i.size * tanks) t' k s') := by
  obtain ⟨r1, r2, a, b, g, T, M, U, p⟩ := parts h hk hs
  obtain ⟨r1', r2', a', b', g', T', M', U', p'⟩ := parts h' hk hs'
  have hr := hl.rains k hk
  have hn := hl.needs k hk
  have q0 := (h.rain k hk).1
  have q1 := (h'.rain k hk).1
  have x1 : r1 ≤ r1' := by
    rw [← p.e1, ← p'.e1]
    exact Int.ediv_le_ediv (by decide) (Int.mul_le_mul_of_nonneg_left hr h.roof0)
  have x2 : r2 ≤ r2' := by
    rw [← p.e2, ← p'.e2]
    exact Int.ediv_le_ediv (by decide) (Int.mul_le_mul (Int.mul_le_mul_of_nonneg_left hr h.sand0) hl.soak h.soak0 (Int.mul_nonneg h.sand0 q1))
  have ha : a ≤ a' := min_mono (by omega) p.ea p'.ea
  have hb : b ≤ b' := min_mono (by omega) p.eb p'.eb
  have hc : b - g ≤ b' - g' := by
    rw [← p.eg, ← p'.eg]
    exact leak_mono p.b0 hb h'.leak0 hl.leak h.leak1
  obtain ⟨y1, y2⟩ := take_mono ha hn p.eT p'.eT
  obtain ⟨z1, z2⟩ := pump_mono hc y2 (by have := p'.T1; omega) h.pump0 p.eM' p'.eM' p.eU p'.eU
  rw [p.out, p'.out]
  exact ⟨y1, z1, z2⟩
theorem run_mono {i : Isl} {tanks : Int} {t t' : Tru} (h : Fit i tanks t) (h' : Fit i tanks t') (hl : LessT i.nm t t') : ∀ k, k ≤ i.nm → Less (runTo i tanks t k) (runTo i tanks t' k)
  | 0, _ => ⟨Int.le_refl _, hl.start, Int.le_refl _⟩
  | k + 1, hk => by
    have ih := run_mono h h' hl k (by omega)
    exact step_mono h h' hl (by omega) (runTo_ok h (by omega)) (runTo_ok h' (by omega)) ih.tanks ih.lens
end Lens

namespace Go.Proofs.YtffdidleebognaaGreatDoor
open Lens
/-- An end lies within bounds. -/
structure Within (s : Seen) (k : Kn) : Prop where
  t0 : k.tl ≤ s.tanks
  t1 : s.tanks ≤ k.th
  l0 : k.ll ≤ s.lens
  l1 : s.lens ≤ k.lh
  k0 : k.kl ≤ s.lack
  k1 : s.lack ≤ k.kh
theorem widest_at {i : Isl} {tanks : Int} {d : Nat → Bool} {kn : Nat → Kn} {j : Nat} (hj : j < i.nm) : widest i tanks d kn j = wid (wid (kn j) (endsOf i tanks false d j)) (endsOf i tanks true d j) := by
  simp only [widest, pass, hj, if_true]
theorem drAll_congr {d d' : Nat → Bool} : ∀ k, (∀ j, j < k → d j = d' j) → drAll d k = drAll d' k
  | 0, _ => rfl
  | k + 1, h => by simp only [drAll, h k (by omega), drAll_congr k fun j hj => h j (by omega)]
theorem drRow_congr {d d' : Nat → Bool} : ∀ k, (∀ j, j < k → d j = d' j) → drRow d k = drRow d' k
  | 0, _ => rfl
  | k + 1, h => by simp only [drRow, h k (by omega), drRow_congr k fun j hj => h j (by omega)]
theorem drB_congr {most row : Int} {n : Nat} {d d' : Nat → Bool} (h : ∀ j, j < n → d j = d' j) (hd : drB most row n d = true) : drB most row n d' = true := by
  simp only [drB, allTo_iff] at hd ⊢
  intro k hk
  have := hd k hk
  simp only [drOk] at this ⊢
  rw [← h k hk, ← drAll_congr (k + 1) fun j hj => h j (by omega), ← drRow_congr (k + 1) fun j hj => h j (by omega)]
  exact this
theorem less_low {i : Isl} {t : Tru} {d : Nat → Bool} (ht : truB i t = true) (hd : ∀ j, j < i.nm → d j = t.dry j) : LessT i.nm (endTru i false i.nm d) t := by
  simp only [truB, Bool.and_eq_true, isInB_iff, allTo_iff] at ht
  obtain ⟨⟨⟨⟨⟨⟨⟨u1, u2⟩, u3⟩, _⟩, _⟩, _⟩, _⟩, u8⟩ := ht
  refine ⟨u1.1, u2.1, u3.2, fun k hk => ?_, fun k hk => ?_⟩
  · have := u8 k hk
    simp only [truOk, Bool.and_eq_true, isInB_iff] at this
    rw [← hd k hk] at this
    exact this.1.1
  · have := u8 k hk
    simp only [truOk, Bool.and_eq_true, isInB_iff] at this
    exact this.2.2
end Go.Proofs.YtffdidleebognaaGreatDoor

namespace Go.Proofs.YtffdidleebognaaGreatDoor
open Go Go.CE Go.Proofs Go.RowKit Lens
end Go.Proofs.YtffdidleebognaaGreatDoor

namespace Go.Proofs.YtffdidleebognaaGreatDoor
open Go Go.CE Go.Proofs Go.RowKit Lens
section
variable {i : Isl} {wa : Option Addr} {wc mb mo mc : Nat} {tanks : Int} {w : World} {d : Nat → Bool}
end
end Go.Proofs.YtffdidleebognaaGreatDoor

namespace Go.Proofs.YtffdidleebognaaGreatDoor
open Go Go.CE Go.Proofs Go.RowKit Lens
section
variable {i : Isl} {wa : Option Addr} {wc mb mo mc : Nat} {ma : Option Addr} {tanks : Int} {w : World}
end
end Go.Proofs.YtffdidleebognaaGreatDoor

namespace Go.Proofs.YtffdidleebognaaGreatDoor
open Go Go.CE Go.Proofs Go.RowKit Lens
section
variable {i : Isl} {wa : Option Addr} {wc mc : Nat} {ma : Option Addr} {tanks : Int} {w : World} {n : Nat}
theorem isl_nm (h1 : islB i = true) : 1 ≤ i.nm ∧ i.nm ≤ 8 ∧ 0 ≤ i.most ∧ 0 ≤ i.row := by
  simp only [islB, monthsB, Bool.and_eq_true, isInB_iff] at h1
  omega
theorem exl_it : ExL [islR i wa wc ma mc, .int .i64 tanks] [islV i wa wc ma mc, .int .i64 tanks] := .cons (exact_isl _ _ _ _ _) (.cons (exact_af rfl) .nil)
/-- The truth of a drought with as little water as can be, or as much, is one. -/
theorem end_tru {d : Nat → Bool} {much : Bool} (h1 : islB i = true) (hd : drB i.most i.row i.nm d = true) : truB i (endTru i much i.nm d) = true := by
  have h := h1
  simp only [islB, monthsB, Bool.and_eq_true, isInB_iff, isSpanB_iff, allTo_iff] at h
  obtain ⟨⟨⟨⟨⟨⟨⟨⟨⟨⟨⟨⟨i1, i2⟩, i3⟩, i4⟩, i5⟩, i6⟩, i7⟩, i8⟩, i9⟩, i10⟩, ⟨i11, i12⟩⟩, i13⟩, i14⟩ := h
  simp only [truB, Bool.and_eq_true, isInB_iff, allTo_iff, decide_eq_true_eq]
  refine ⟨⟨⟨⟨⟨⟨⟨?_, ?_⟩, ?_⟩, rfl⟩, rfl⟩, rfl⟩, hd⟩, fun k hk => ?_⟩
  · cases much <;> simp only [endTru, lohi] <;> simp <;> omega
  · cases much <;> simp only [endTru, lohi] <;> simp <;> omega
  · cases much <;> simp only [endTru, lohi] <;> simp <;> omega
  · have := i12 k hk
    simp only [monB, Bool.and_eq_true, isSpanB_iff, decide_eq_true_eq] at this
    obtain ⟨⟨⟨⟨m1, m2⟩, m3⟩, m4⟩, m5⟩ := this
    simp only [truOk, Bool.and_eq_true, isInB_iff]
    cases much <;> cases hy : d k <;> simp only [endTru, lohi, rlo, rhi, hy] <;> simp <;> omega
end
end Go.Proofs.YtffdidleebognaaGreatDoor

