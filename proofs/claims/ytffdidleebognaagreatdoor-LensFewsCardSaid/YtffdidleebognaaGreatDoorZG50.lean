/- The reference's Fault: its runs. -/
import Derived.Test.YtffdidleebognaaGreatDoorZG48
import Derived.Test.YtffdidleebognaaGreatDoorZG49
import Derived.Test.YtffdidleebognaaGreatDoorZG43
import Derived.Test.YtffdidleebognaaGreatDoorZG33
import Derived.Test.YtffdidleebognaaGreatDoorZG14
import Derived.Test.YtffdidleebognaaGreatDoorZG17
namespace Go.Proofs.YtffdidleebognaaGreatDoor
open Go Go.CE Go.Proofs Go.RowKit Lens
def rfL (tanks : Int) (b0 p g c K n : Nat) : List (Nat × Value) := [(1, .int .i64 tanks), (2, .pointer (some ⟨b0, 0, some 0⟩)), (4, .pointer (some ⟨p, 0, some 0⟩)), (5, .slice (some ⟨g, 0, some 0⟩) K c), (6, .int .i64 n)]
def rfB (tanks : Int) (b0 p g c K n k : Nat) (r v : Int) : List (Nat × Value) := rfL tanks b0 p g c K n ++ [(9, .int .i64 k), (10, .int .i64 r), (11, .int .i64 v)]
def rfT : List It := [.code [1, 1, 0, 1, 0, 0], .inLoop [1, 1, 0, 1, 0, 0], .inBlock 0, .code [1, 1, 1]]
def rfI (tanks : Int) (b0 p g c K nm n k : Nat) : List (Nat × Value) := rfL tanks b0 p g c K n ++ [(7, .slice (some ⟨0, 0, none⟩) nm 0), (9, .int .i64 k)]
def rfX : List It := [.code [1, 1, 0, 1, 0, 0, 1, 0, 0, 1, 1, 0, 0, 1, 0, 0, 1, 1, 0, 0], .code [1, 1, 0, 1, 0, 0, 1, 0, 0, 1, 1, 0, 0, 1, 0, 0, 1, 1, 0, 1], .inBlock 3, .code [1, 1, 0, 1, 0, 0, 1, 0, 0, 1, 1, 0, 0, 1, 1], .inLoop [1, 1, 0, 1, 0, 0, 1, 0, 0, 1, 1, 0, 0], .inBlock 2, .inBlock 1, .code [1, 1, 0, 1, 0, 0, 1, 1], .inLoop [1, 1, 0, 1, 0, 0], .inBlock 0, .code [1, 1, 1]]
def rfY : List It := [.code [1, 1, 1, 0], .code [1, 1, 0, 1, 0, 0, 1, 0, 0, 1, 1, 0, 0, 1, 0, 0, 1, 1, 0, 1]]
def rfU : List It := [.code [1, 1, 0, 1, 0, 0, 1, 0, 0, 1, 1, 0, 0], .inLoop [1, 1, 0, 1, 0, 0, 1, 0, 0, 1, 1, 0, 0], .inBlock 2, .inBlock 1, .code [1, 1, 0, 1, 0, 0, 1, 1], .inLoop [1, 1, 0, 1, 0, 0], .inBlock 0, .code [1, 1, 1]]
set_option maxRecDepth 100000 in
theorem rf_start (B : Lo) (tanks : Int) (b0 p g c K : Nat) (isl : Value) (d : Nat → Value) : land (srun Tryz.prog goFns B 5 0 (⟨27, tput (tput (tput (mkT 58 [(1, .int .i64 tanks), (2, .pointer (some ⟨b0, 0, some 0⟩)), (4, .pointer (some ⟨p, 0, some 0⟩))] d) (some 12) isl) (some 13) (.slice (some ⟨g, 0, some 0⟩) K c)) (some 5) (.slice (some ⟨g, 0, some 0⟩) K c), [It.code [1, 1]].map (it (bodyOf Tryz.prog 27)), [], .run, none⟩ : CF) (heapO 0 ([] : List (Bool × Obj))) (([] : List (Bool × Obj))).length
    [] 0 [] []) ((rfL tanks b0 p g c K 0).map (·.1)) ((kz [] ([] : List (Bool × Obj))).map (·.old)) = some ⟨27, 58, rfT.map (it (bodyOf Tryz.prog 27)), [], .run, none, (rfL tanks b0 p g c K 0).map (fun p => rnV (rhoK (kz [] ([] : List (Bool × Obj)))) 3 p.2), (kz [] ([] : List (Bool × Obj))).map (fun kept_ => some (wasK (rhoK (kz [] ([] : List (Bool × Obj)))) kept_)), 0,
    []⟩ := by kernel_rfl
set_option maxRecDepth 100000 in
theorem rf_run (B : Lo) (i : Isl) (W M : Value) (tanks : Int) (b0 p g c K rb rc n : Nat) (R1 N1 E1 : Array Value) (s1 k1 l1 g0 g1 g2 g3 g4 g5 : Int) (d : Nat → Value) : land (srun Tryz.prog goFns B 13 0 (headC 27 58 (rfL tanks b0 p g c K n) d (rfT.map (it (bodyOf Tryz.prog 27)))) (heapO 0 ([] : List (Bool × Obj))) (([] : List (Bool × Obj))).length
    [(3, Hint.val (Value.bool true)),
(4, Hint.raw
  (Value.agg
    #[Value.int IntKind.i64 (Isl.cap i), Value.int IntKind.i64 (Isl.sl i), Value.int IntKind.i64 (Isl.sh i),
      Value.int IntKind.i64 (Isl.roof i), Value.int IntKind.i64 (Isl.sand i), Value.int IntKind.i64 (Isl.kl i),
      Value.int IntKind.i64 (Isl.kh i), Value.int IntKind.i64 (Isl.ll i), Value.int IntKind.i64 (Isl.lh i),
      Value.int IntKind.i64 (Isl.pump i), Value.int IntKind.i64 (Isl.keep i), Value.int IntKind.i64 (Isl.size i), W, M,
      Value.int IntKind.i64 (Isl.most i), Value.int IntKind.i64 (Isl.row i)])),
(6, Hint.raw
  (Value.agg
    #[Value.int IntKind.i64 (Isl.cap i), Value.int IntKind.i64 (Isl.sl i), Value.int IntKind.i64 (Isl.sh i),
      Value.int IntKind.i64 (Isl.roof i), Value.int IntKind.i64 (Isl.sand i), Value.int IntKind.i64 (Isl.kl i),
      Value.int IntKind.i64 (Isl.kh i), Value.int IntKind.i64 (Isl.ll i), Value.int IntKind.i64 (Isl.lh i),
      Value.int IntKind.i64 (Isl.pump i), Value.int IntKind.i64 (Isl.keep i), Value.int IntKind.i64 (Isl.size i), W, M,
      Value.int IntKind.i64 (Isl.most i), Value.int IntKind.i64 (Isl.row i)])),
(9, Hint.idx n),
(10, Hint.raw (Value.slice (some { block := rb, off := 0, spot := some 0 }) (Isl.nm i) rc)),
(11, Hint.call []
  (Value.agg
    #[Value.int IntKind.i64 s1, Value.int IntKind.i64 k1, Value.int IntKind.i64 l1,
      Value.slice (some { block := rb, off := 0, spot := some 0 }) (Isl.nm i) rc,
      Value.slice (some { block := 0, off := 0 }) (Isl.nm i) 1,
      Value.slice (some { block := 1, off := 0 }) (Isl.nm i) 1])
  [(0, Obj.cells R1 3), (1, Obj.cells N1 3)] 2 []),
(12, Hint.call [0, 1]
  (Value.tuple
    #[Value.slice (some { block := 2, off := 0 }) (Isl.nm i) 0,
      Value.agg
        #[Value.int IntKind.i64 g0, Value.int IntKind.i64 g1, Value.int IntKind.i64 g2, Value.int IntKind.i64 g3,
          Value.int IntKind.i64 g4, Value.int IntKind.i64 g5]])
  [(2, Obj.cells E1 53 (1, 1))] 3 [])] 0 [] []) ((rfI tanks b0 p g c K i.nm n 0).map (·.1)) ((kz [2] [(false, Obj.cells E1 53 (1, 1))]).map (·.old)) = some ⟨27, 58, rfU.map (it (bodyOf Tryz.prog 27)), [], .run, none, (rfI tanks b0 p g c K i.nm n 0).map (fun p => rnV (rhoK (kz [2] [(false, Obj.cells E1 53 (1, 1))])) 3 p.2), (kz [2] [(false, Obj.cells E1 53 (1, 1))]).map (fun kept_ => some (wasK (rhoK (kz [2] [(false, Obj.cells E1 53 (1, 1))])) kept_)), 4,
    [CJ Tryz.prog B 22
  #[Value.agg
      #[Value.int IntKind.i64 (Isl.cap i), Value.int IntKind.i64 (Isl.sl i), Value.int IntKind.i64 (Isl.sh i),
        Value.int IntKind.i64 (Isl.roof i), Value.int IntKind.i64 (Isl.sand i), Value.int IntKind.i64 (Isl.kl i),
        Value.int IntKind.i64 (Isl.kh i), Value.int IntKind.i64 (Isl.ll i), Value.int IntKind.i64 (Isl.lh i),
        Value.int IntKind.i64 (Isl.pump i), Value.int IntKind.i64 (Isl.keep i), Value.int IntKind.i64 (Isl.size i), W,
        M, Value.int IntKind.i64 (Isl.most i), Value.int IntKind.i64 (Isl.row i)],
    Value.int IntKind.i64 tanks,
    Value.agg
      #[Value.int IntKind.i64 s1, Value.int IntKind.i64 k1, Value.int IntKind.i64 l1,
        Value.slice (some { block := rb, off := 0, spot := some 0 }) (Isl.nm i) rc,
        Value.slice (some { block := 0, off := 0 }) (Isl.nm i) 1,
        Value.slice (some { block := 1, off := 0 }) (Isl.nm i) 1]]
  [(0, some (Obj.cells R1 3)), (1, some (Obj.cells N1 3))] 2
  (Value.tuple
    #[Value.slice (some { block := 2, off := 0 }) (Isl.nm i) 0,
      Value.agg
        #[Value.int IntKind.i64 g0, Value.int IntKind.i64 g1, Value.int IntKind.i64 g2, Value.int IntKind.i64 g3,
          Value.int IntKind.i64 g4, Value.int IntKind.i64 g5]])
  [(2, Obj.cells E1 53 (1, 1))] 3 [],
CJ Tryz.prog B 29
  #[Value.agg
      #[Value.int IntKind.i64 (Isl.cap i), Value.int IntKind.i64 (Isl.sl i), Value.int IntKind.i64 (Isl.sh i),
        Value.int IntKind.i64 (Isl.roof i), Value.int IntKind.i64 (Isl.sand i), Value.int IntKind.i64 (Isl.kl i),
        Value.int IntKind.i64 (Isl.kh i), Value.int IntKind.i64 (Isl.ll i), Value.int IntKind.i64 (Isl.lh i),
        Value.int IntKind.i64 (Isl.pump i), Value.int IntKind.i64 (Isl.keep i), Value.int IntKind.i64 (Isl.size i), W,
        M, Value.int IntKind.i64 (Isl.most i), Value.int IntKind.i64 (Isl.row i)],
    Value.slice (some { block := rb, off := 0, spot := some 0 }) (Isl.nm i) rc, Value.bool false]
  [] 0
  (Value.agg
    #[Value.int IntKind.i64 s1, Value.int IntKind.i64 k1, Value.int IntKind.i64 l1,
      Value.slice (some { block := rb, off := 0, spot := some 0 }) (Isl.nm i) rc,
      Value.slice (some { block := 0, off := 0 }) (Isl.nm i) 1,
      Value.slice (some { block := 1, off := 0 }) (Isl.nm i) 1])
  [(0, Obj.cells R1 3), (1, Obj.cells N1 3)] 2 [],
RawCell B g (0 + n * 1) (Value.slice (some { block := rb, off := 0, spot := some 0 }) (Isl.nm i) rc),
(↑n : Int) = (↑n : Int) ∧ n < K,
∀ (j : Nat) (u : Value),
  #[Value.int IntKind.i64 (Isl.cap i), Value.int IntKind.i64 (Isl.sl i), Value.int IntKind.i64 (Isl.sh i),
          Value.int IntKind.i64 (Isl.roof i), Value.int IntKind.i64 (Isl.sand i), Value.int IntKind.i64 (Isl.kl i),
          Value.int IntKind.i64 (Isl.kh i), Value.int IntKind.i64 (Isl.ll i), Value.int IntKind.i64 (Isl.lh i),
          Value.int IntKind.i64 (Isl.pump i), Value.int IntKind.i64 (Isl.keep i), Value.int IntKind.i64 (Isl.size i), W,
          M, Value.int IntKind.i64 (Isl.most i), Value.int IntKind.i64 (Isl.row i)][j]? =
      some u →
    RawCell B b0 (0 + j) u,
∀ (j : Nat) (u : Value),
  #[Value.int IntKind.i64 (Isl.cap i), Value.int IntKind.i64 (Isl.sl i), Value.int IntKind.i64 (Isl.sh i),
          Value.int IntKind.i64 (Isl.roof i), Value.int IntKind.i64 (Isl.sand i), Value.int IntKind.i64 (Isl.kl i),
          Value.int IntKind.i64 (Isl.kh i), Value.int IntKind.i64 (Isl.ll i), Value.int IntKind.i64 (Isl.lh i),
          Value.int IntKind.i64 (Isl.pump i), Value.int IntKind.i64 (Isl.keep i), Value.int IntKind.i64 (Isl.size i), W,
          M, Value.int IntKind.i64 (Isl.most i), Value.int IntKind.i64 (Isl.row i)][j]? =
      some u →
    RawCell B b0 (0 + j) u,
ltq (↑n : Int) (↑K : Int) = true]⟩ := by kernel_rfl
set_option maxRecDepth 100000 in
theorem rf_in (B : Lo) (i : Isl) (W M : Value) (tanks : Int) (b0 p g c K n k : Nat) (E1 : Array Value) (s : Seen) (r v : Int) (d : Nat → Value) : land (srun Tryz.prog goFns B 16 0 (headC 27 58 (rfI tanks b0 p g c K i.nm n k) d (rfU.map (it (bodyOf Tryz.prog 27)))) (heapO 0 [(false, Obj.cells E1 53 (1, 1))]) ([(false, Obj.cells E1 53 (1, 1))]).length
    [(3, Hint.val (Value.bool true)),
(4, Hint.raw
  (Value.agg
    #[Value.int IntKind.i64 (Isl.cap i), Value.int IntKind.i64 (Isl.sl i), Value.int IntKind.i64 (Isl.sh i),
      Value.int IntKind.i64 (Isl.roof i), Value.int IntKind.i64 (Isl.sand i), Value.int IntKind.i64 (Isl.kl i),
      Value.int IntKind.i64 (Isl.kh i), Value.int IntKind.i64 (Isl.ll i), Value.int IntKind.i64 (Isl.lh i),
      Value.int IntKind.i64 (Isl.pump i), Value.int IntKind.i64 (Isl.keep i), Value.int IntKind.i64 (Isl.size i), W, M,
      Value.int IntKind.i64 (Isl.most i), Value.int IntKind.i64 (Isl.row i)])),
(7, Hint.idx k),
(8, Hint.ld
  (Value.agg
    #[Value.int IntKind.i64 (Seen.tanks s), Value.int IntKind.i64 (Seen.lens s), Value.int IntKind.i64 (Seen.lack s)])),
(9, Hint.call [] (Value.tuple #[Value.int IntKind.i64 r, Value.int IntKind.i64 v]) [] 1 []),
(16, Hint.val (Value.bool false)),
(18, Hint.val (Value.int IntKind.i64 ((↑k : Int) + 1)))] 0 [] []) ((rfI tanks b0 p g c K i.nm n (k + 1)).map (·.1)) ((kz [0] [(false, Obj.cells E1 53 (1, 1))]).map (·.old)) = some ⟨27, 58, rfU.map (it (bodyOf Tryz.prog 27)), [], .run, none, (rfI tanks b0 p g c K i.nm n (k + 1)).map (fun p => rnV (rhoK (kz [0] [(false, Obj.cells E1 53 (1, 1))])) 3 p.2), (kz [0] [(false, Obj.cells E1 53 (1, 1))]).map (fun kept_ => some (wasK (rhoK (kz [0] [(false, Obj.cells E1 53 (1, 1))])) kept_)), 1,
    [wq ((↑k : Int) + 1) = (↑k : Int) + 1,
(!eqq r 1) = false,
CJ Tryz.prog B 30
  #[Value.agg
      #[Value.int IntKind.i64 (Isl.cap i), Value.int IntKind.i64 (Isl.sl i), Value.int IntKind.i64 (Isl.sh i),
        Value.int IntKind.i64 (Isl.roof i), Value.int IntKind.i64 (Isl.sand i), Value.int IntKind.i64 (Isl.kl i),
        Value.int IntKind.i64 (Isl.kh i), Value.int IntKind.i64 (Isl.ll i), Value.int IntKind.i64 (Isl.lh i),
        Value.int IntKind.i64 (Isl.pump i), Value.int IntKind.i64 (Isl.keep i), Value.int IntKind.i64 (Isl.size i), W,
        M, Value.int IntKind.i64 (Isl.most i), Value.int IntKind.i64 (Isl.row i)],
    Value.agg
      #[Value.int IntKind.i64 (Seen.tanks s), Value.int IntKind.i64 (Seen.lens s), Value.int IntKind.i64 (Seen.lack s)]]
  [] 1 (Value.tuple #[Value.int IntKind.i64 r, Value.int IntKind.i64 v]) [] 1 [],
0 + k * 3 + TypeInfo.size Tryz.t53 ≤ Array.size E1 ∧
  Array.extract E1 (0 + k * 3) (0 + k * 3 + TypeInfo.size Tryz.t53) =
    #[Value.int IntKind.i64 (Seen.tanks s), Value.int IntKind.i64 (Seen.lens s), Value.int IntKind.i64 (Seen.lack s)],
(↑k : Int) = (↑k : Int) ∧ k < Isl.nm i,
∀ (j : Nat) (u : Value),
  #[Value.int IntKind.i64 (Isl.cap i), Value.int IntKind.i64 (Isl.sl i), Value.int IntKind.i64 (Isl.sh i),
          Value.int IntKind.i64 (Isl.roof i), Value.int IntKind.i64 (Isl.sand i), Value.int IntKind.i64 (Isl.kl i),
          Value.int IntKind.i64 (Isl.kh i), Value.int IntKind.i64 (Isl.ll i), Value.int IntKind.i64 (Isl.lh i),
          Value.int IntKind.i64 (Isl.pump i), Value.int IntKind.i64 (Isl.keep i), Value.int IntKind.i64 (Isl.size i), W,
          M, Value.int IntKind.i64 (Isl.most i), Value.int IntKind.i64 (Isl.row i)][j]? =
      some u →
    RawCell B b0 (0 + j) u,
ltq (↑k : Int) (↑(Isl.nm i) : Int) = true]⟩ := by kernel_rfl
set_option maxRecDepth 100000 in
theorem rf_next (B : Lo) (nm : Nat) (tanks : Int) (b0 p g c K n k : Nat) (E1 : Array Value) (d : Nat → Value) : land (srun Tryz.prog goFns B 8 0 (headC 27 58 (rfI tanks b0 p g c K nm n k) d (rfU.map (it (bodyOf Tryz.prog 27)))) (heapO 0 [(false, Obj.cells E1 53 (1, 1))]) ([(false, Obj.cells E1 53 (1, 1))]).length
    [(3, Hint.val (Value.bool false)),
(5, Hint.val (Value.int IntKind.i64 ((↑n : Int) + 1)))] 0 [] []) ((rfL tanks b0 p g c K (n + 1)).map (·.1)) ((kz [] ([] : List (Bool × Obj))).map (·.old)) = some ⟨27, 58, rfT.map (it (bodyOf Tryz.prog 27)), [], .run, none, (rfL tanks b0 p g c K (n + 1)).map (fun p => rnV (rhoK (kz [] ([] : List (Bool × Obj)))) 3 p.2), (kz [] ([] : List (Bool × Obj))).map (fun kept_ => some (wasK (rhoK (kz [] ([] : List (Bool × Obj)))) kept_)), 1,
    [wq ((↑n : Int) + 1) = (↑n : Int) + 1,
ltq (↑k : Int) (↑nm : Int) = false]⟩ := by kernel_rfl
set_option maxRecDepth 100000 in
theorem rf_bad (B : Lo) (i : Isl) (W M : Value) (tanks : Int) (b0 p g c K n k : Nat) (E1 : Array Value) (s : Seen) (r v : Int) (d : Nat → Value) : land (srun Tryz.prog goFns B 13 0 (headC 27 58 (rfI tanks b0 p g c K i.nm n k) d (rfU.map (it (bodyOf Tryz.prog 27)))) (heapO 0 [(false, Obj.cells E1 53 (1, 1))]) ([(false, Obj.cells E1 53 (1, 1))]).length
    [(3, Hint.val (Value.bool true)),
(4, Hint.raw
  (Value.agg
    #[Value.int IntKind.i64 (Isl.cap i), Value.int IntKind.i64 (Isl.sl i), Value.int IntKind.i64 (Isl.sh i),
      Value.int IntKind.i64 (Isl.roof i), Value.int IntKind.i64 (Isl.sand i), Value.int IntKind.i64 (Isl.kl i),
      Value.int IntKind.i64 (Isl.kh i), Value.int IntKind.i64 (Isl.ll i), Value.int IntKind.i64 (Isl.lh i),
      Value.int IntKind.i64 (Isl.pump i), Value.int IntKind.i64 (Isl.keep i), Value.int IntKind.i64 (Isl.size i), W, M,
      Value.int IntKind.i64 (Isl.most i), Value.int IntKind.i64 (Isl.row i)])),
(7, Hint.idx k),
(8, Hint.ld
  (Value.agg
    #[Value.int IntKind.i64 (Seen.tanks s), Value.int IntKind.i64 (Seen.lens s), Value.int IntKind.i64 (Seen.lack s)])),
(9, Hint.call [] (Value.tuple #[Value.int IntKind.i64 r, Value.int IntKind.i64 v]) [] 1 []),
(16, Hint.val (Value.bool true)),
(19, Hint.idx n)] 0 [] []) ((rfB tanks b0 p g c K n k r v).map (·.1)) ((kz [] ([] : List (Bool × Obj))).map (·.old)) = some ⟨27, 58, rfX.map (it (bodyOf Tryz.prog 27)), [], .run, none, (rfB tanks b0 p g c K n k r v).map (fun p => rnV (rhoK (kz [] ([] : List (Bool × Obj)))) 3 p.2), (kz [] ([] : List (Bool × Obj))).map (fun kept_ => some (wasK (rhoK (kz [] ([] : List (Bool × Obj)))) kept_)), 1,
    [(!eqq r 1) = true,
CJ Tryz.prog B 30
  #[Value.agg
      #[Value.int IntKind.i64 (Isl.cap i), Value.int IntKind.i64 (Isl.sl i), Value.int IntKind.i64 (Isl.sh i),
        Value.int IntKind.i64 (Isl.roof i), Value.int IntKind.i64 (Isl.sand i), Value.int IntKind.i64 (Isl.kl i),
        Value.int IntKind.i64 (Isl.kh i), Value.int IntKind.i64 (Isl.ll i), Value.int IntKind.i64 (Isl.lh i),
        Value.int IntKind.i64 (Isl.pump i), Value.int IntKind.i64 (Isl.keep i), Value.int IntKind.i64 (Isl.size i), W,
        M, Value.int IntKind.i64 (Isl.most i), Value.int IntKind.i64 (Isl.row i)],
    Value.agg
      #[Value.int IntKind.i64 (Seen.tanks s), Value.int IntKind.i64 (Seen.lens s), Value.int IntKind.i64 (Seen.lack s)]]
  [] 1 (Value.tuple #[Value.int IntKind.i64 r, Value.int IntKind.i64 v]) [] 1 [],
0 + k * 3 + TypeInfo.size Tryz.t53 ≤ Array.size E1 ∧
  Array.extract E1 (0 + k * 3) (0 + k * 3 + TypeInfo.size Tryz.t53) =
    #[Value.int IntKind.i64 (Seen.tanks s), Value.int IntKind.i64 (Seen.lens s), Value.int IntKind.i64 (Seen.lack s)],
(↑k : Int) = (↑k : Int) ∧ k < Isl.nm i,
∀ (j : Nat) (u : Value),
  #[Value.int IntKind.i64 (Isl.cap i), Value.int IntKind.i64 (Isl.sl i), Value.int IntKind.i64 (Isl.sh i),
          Value.int IntKind.i64 (Isl.roof i), Value.int IntKind.i64 (Isl.sand i), Value.int IntKind.i64 (Isl.kl i),
          Value.int IntKind.i64 (Isl.kh i), Value.int IntKind.i64 (Isl.ll i), Value.int IntKind.i64 (Isl.lh i),
          Value.int IntKind.i64 (Isl.pump i), Value.int IntKind.i64 (Isl.keep i), Value.int IntKind.i64 (Isl.size i), W,
          M, Value.int IntKind.i64 (Isl.most i), Value.int IntKind.i64 (Isl.row i)][j]? =
      some u →
    RawCell B b0 (0 + j) u,
ltq (↑k : Int) (↑(Isl.nm i) : Int) = true]⟩ := by kernel_rfl
set_option maxRecDepth 100000 in
theorem rf_none (B : Lo) (tanks : Int) (b0 p g c K n : Nat) (d : Nat → Value) : land (srun Tryz.prog goFns B 6 0 (headC 27 58 (rfL tanks b0 p g c K n) d (rfT.map (it (bodyOf Tryz.prog 27)))) (heapO 0 ([] : List (Bool × Obj))) (([] : List (Bool × Obj))).length
    [(3, Hint.val (Value.bool false))] 0 [] []) ((rfL tanks b0 p g c K n).map (·.1)) ((kz [] ([] : List (Bool × Obj))).map (·.old)) = some ⟨27, 58, rfY.map (it (bodyOf Tryz.prog 27)), [], .run, none, (rfL tanks b0 p g c K n).map (fun p => rnV (rhoK (kz [] ([] : List (Bool × Obj)))) 3 p.2), (kz [] ([] : List (Bool × Obj))).map (fun kept_ => some (wasK (rhoK (kz [] ([] : List (Bool × Obj)))) kept_)), 0,
    [ltq (↑n : Int) (↑K : Int) = false]⟩ := by kernel_rfl
end Go.Proofs.YtffdidleebognaaGreatDoor

namespace Go.Proofs.YtffdidleebognaaGreatDoor
open Go Go.CE Go.Proofs Go.RowKit Lens
def getR : Option RR → RR
  | some r => r
  | none => ⟨[], ⟨0, .lf⟩, [], 0, [], 0, []⟩
def isDefer : Op → Bool
  | .defer _ => true
  | _ => false
section
variable {i : Isl} {wa : Option Addr} {wc mb mo mc : Nat} {ma : Option Addr} {tanks : Int} {w : World} {n : Nat}
end
end Go.Proofs.YtffdidleebognaaGreatDoor

namespace Go.Proofs.YtffdidleebognaaGreatDoor
open Go Go.CE Go.Proofs Go.RowKit Lens
def rfP (tanks : Int) (a p : Value) : List (Nat × Value) := [(1, .int .i64 tanks), (2, a), (4, p)]
def fz0 : Array Value := #[.slice none 0 0, .int .i64 0, .int .i64 0, .int .i64 0]
def rfO (i : Isl) (W M : Value) : List (Bool × Obj) := [(false, .cells (islC i W M) 27 (0, 0)), (false, .cells fz0 59 (0, 0))]
def rfB0 : List It := [.code [1, 0], .code [1, 1]]
set_option maxRecDepth 100000 in
theorem rf_prefix (B : Lo) (i : Isl) (W M : Value) (tanks : Int) : land (srun Tryz.prog goFns B 3 0 (entryC Tryz.prog 27 58 [.agg (islC i W M), .int .i64 tanks]) (heapO 0 []) 0 [] 0 [] []) ((rfP tanks (.pointer (some ⟨0, 0, none⟩)) (.pointer (some ⟨1, 0, none⟩))).map (·.1)) ((kz [0, 1] (rfO i W M)).map (·.old)) =
    some ⟨27, 58, rfB0.map (it (bodyOf Tryz.prog 27)), [], .run, none, (rfP tanks (.pointer (some ⟨0, 0, none⟩)) (.pointer (some ⟨1, 0, none⟩))).map (fun p => rnV (rhoK (kz [0, 1] (rfO i W M))) 3 p.2), (kz [0, 1] (rfO i W M)).map (fun kept_ => some (wasK (rhoK (kz [0, 1] (rfO i W M))) kept_)), 2, []⟩ := by kernel_rfl
noncomputable def opsAt (c : Code) : Array Oper := match c with | .region _ ops _ => ops | _ => #[]
noncomputable def idAt (c : Code) : Nat := match c with | .region id _ _ => id | _ => 0
noncomputable def opAt (l : List Oper) : Oper := match l with | o :: _ => o | _ => ⟨none, .panic (.const undef), 0, "", #[], .none⟩
/-! The call of Droughts. -/
noncomputable def rfOps : Array Oper := opsAt (nav (bodyOf Tryz.prog 27) [1, 0])
noncomputable def rfId : Nat := idAt (nav (bodyOf Tryz.prog 27) [1, 0])
noncomputable def rfO1 : Oper := opAt (rfOps.toList.drop 1)
noncomputable def rfPre : List Oper := rfOps.toList.take 1
noncomputable def rfPost : List Oper := rfOps.toList.drop 2
theorem rf_ops : rfOps.toList = rfPre ++ rfO1 :: rfPost := by kernel_rfl
theorem rf_todo : rfB0.map (it (bodyOf Tryz.prog 27)) = .code (.region rfId rfOps false) :: [It.code [1, 1]].map (it (bodyOf Tryz.prog 27)) := by kernel_rfl
def rfT0 (tanks : Int) (b0 p : Nat) (d : Nat → Value) : Tm := mkT 58 (rfP tanks (.pointer (some ⟨b0, 0, some 0⟩)) (.pointer (some ⟨p, 0, some 0⟩))) d
theorem rf_pre (B : Lo) (i : Isl) (W M : Value) (tanks : Int) (b0 p : Nat) (d : Nat → Value) : ∃ r, rrunH Tryz.prog goFns B rfOps rfPre (rfT0 tanks b0 p d) [] 0 [(0, .raw (.agg (islC i W M)))] 0 [] = some r ∧ r.T = tput (rfT0 tanks b0 p d) (some 12) (.agg (islC i W M)) ∧ r.n = 0 ∧ r.H = [] ∧
    r.L = [∀ (j : Nat) u, (islC i W M)[j]? = some u → RawCell B b0 (0 + j) u] :=
  ⟨getR (rrunH Tryz.prog goFns B rfOps rfPre (rfT0 tanks b0 p d) [] 0 [(0, .raw (.agg (islC i W M)))] 0 []), by kernel_rfl, by kernel_rfl, by kernel_rfl, by kernel_rfl, by kernel_rfl⟩
theorem nodefer {o : Oper} (h : isDefer o.op = false) : ∀ c, o.op ≠ .defer c := fun c e => by
  rw [e] at h
  cases h
theorem rf_dst (tanks : Int) (b0 p : Nat) (d : Nat → Value) (v : Value) : dstOk (tput (rfT0 tanks b0 p d) (some 12) v) rfO1.dst = true := by kernel_rfl
theorem rf_want (tanks : Int) (b0 p : Nat) (d : Nat → Value) (v : Value) : Region.wanted rfO1 (yieldedC rfOps (tput (rfT0 tanks b0 p d) (some 12) v)) = true := by kernel_rfl
theorem rf_cop (tanks : Int) (b0 p : Nat) (d : Nat → Value) (cs : Array Value) : copR Tryz.prog goFns (evC (tput (rfT0 tanks b0 p d) (some 12) (.agg cs))) rfO1 [] 0 = some ⟨.enter 42 #[.agg cs], [], 0, [], []⟩ := by kernel_rfl
theorem rf_post (B : Lo) (tanks : Int) (b0 p g c K : Nat) (d : Nat → Value) (v : Value) : ∃ r, rrunH Tryz.prog goFns B rfOps rfPost (tput (tput (rfT0 tanks b0 p d) (some 12) v) rfO1.dst (.slice (some ⟨g, 0, some 0⟩) K c)) [] 0 [] 0 [] = some r ∧
    r.T = tput (tput (tput (rfT0 tanks b0 p d) (some 12) v) (some 13) (.slice (some ⟨g, 0, some 0⟩) K c)) (some 5) (.slice (some ⟨g, 0, some 0⟩) K c) ∧ r.n = 0 ∧ r.H = [] ∧ r.L = [] :=
  ⟨getR (rrunH Tryz.prog goFns B rfOps rfPost (tput (tput (rfT0 tanks b0 p d) (some 12) v) rfO1.dst (.slice (some ⟨g, 0, some 0⟩) K c)) [] 0 [] 0 []), by kernel_rfl, by kernel_rfl, by kernel_rfl, by kernel_rfl, by kernel_rfl⟩
/-! The store of what was found. -/
def rfPath : List Nat := [1, 1, 0, 1, 0, 0, 1, 0, 0, 1, 1, 0, 0, 1, 0, 0, 1, 1, 0, 0]
noncomputable def sbOps : Array Oper := opsAt (nav (bodyOf Tryz.prog 27) rfPath)
noncomputable def sbId : Nat := idAt (nav (bodyOf Tryz.prog 27) rfPath)
noncomputable def sbPre : List Oper := sbOps.toList.take 8
noncomputable def sbO : Oper := opAt (sbOps.toList.drop 8)
theorem sb_ops : sbOps.toList = sbPre ++ [sbO] := by kernel_rfl
theorem sb_todo : rfX.map (it (bodyOf Tryz.prog 27)) = .code (.region sbId sbOps false) :: (rfX.drop 1).map (it (bodyOf Tryz.prog 27)) := by kernel_rfl
def sbT0 (tanks : Int) (b0 p g c K n k : Nat) (r v : Int) (d : Nat → Value) : Tm := mkT 58 (rfB tanks b0 p g c K n k r v) d
noncomputable def sbR (B : Lo) (tanks : Int) (b0 p g c K n k : Nat) (r v : Int) (rb nm rc : Nat) (d : Nat → Value) : Option RR := rrunH Tryz.prog goFns B sbOps sbPre (sbT0 tanks b0 p g c K n k r v d) [] 0 [(2, .idx n), (3, .raw (.slice (some ⟨rb, 0, some 0⟩) nm rc))] 0 []
theorem sb_pre (B : Lo) (tanks : Int) (b0 p g c K n k : Nat) (r v : Int) (rb nm rc : Nat) (d : Nat → Value) : ∃ q, sbR B tanks b0 p g c K n k r v rb nm rc d = some q ∧ q.T = (getR (sbR B tanks b0 p g c K n k r v rb nm rc d)).T ∧ q.n = 0 ∧ q.H = [] ∧
    q.L = [RawCell B g (0 + n * 1) (.slice (some ⟨rb, 0, some 0⟩) nm rc), (n : Int) = (n : Int) ∧ n < K] :=
  ⟨getR (sbR B tanks b0 p g c K n k r v rb nm rc d), by kernel_rfl, rfl, by kernel_rfl, by kernel_rfl, by kernel_rfl⟩
def fzB (rb nm rc k : Nat) (r v : Int) : Array Value := #[.slice (some ⟨rb, 0, some 0⟩) nm rc, .int .i64 k, .int .i64 r, .int .i64 v]
theorem sb_cop (B : Lo) (tanks : Int) (b0 p g c K n k : Nat) (r v : Int) (rb nm rc : Nat) (d : Nat → Value) : copR Tryz.prog goFns (evC (tput (getR (sbR B tanks b0 p g c K n k r v rb nm rc d)).T (some 4) (.pointer (some ⟨0, 0, none⟩)))) sbO [(0, .cells fz0 59 (0, 0))] 1 =
    some ⟨.val undef, [(0, .cells (fzB rb nm rc k r v) 59 (0, 0))], 1, [0], [0]⟩ := by kernel_rfl
theorem sb_dst : sbO.dst = none := by kernel_rfl
theorem sb_want (B : Lo) (tanks : Int) (b0 p g c K n k : Nat) (r v : Int) (rb nm rc : Nat) (d : Nat → Value) : Region.wanted sbO (yieldedC sbOps (getR (sbR B tanks b0 p g c K n k r v rb nm rc d)).T) = true := by kernel_rfl
theorem sb_slot (B : Lo) (tanks : Int) (b0 p g c K n k : Nat) (r v : Int) (rb nm rc : Nat) (d : Nat → Value) : tget (getR (sbR B tanks b0 p g c K n k r v rb nm rc d)).T 4 = .pointer (some ⟨p, 0, some 0⟩) := by kernel_rfl
set_option maxRecDepth 100000 in
theorem sb_end (B B' : Lo) (tanks : Int) (b0 p g c K n k : Nat) (r v : Int) (rb nm rc : Nat) (d : Nat → Value) : endedB (srun Tryz.prog goFns B 3 1 ⟨27, tput (getR (sbR B' tanks b0 p g c K n k r v rb nm rc d)).T (some 4) (.pointer (some ⟨0, 0, none⟩)), (rfX.drop 1).map (it (bodyOf Tryz.prog 27)), [], .run, none⟩ [(0, .cells (fzB rb nm rc k r v) 59 (0, 0))] 1 [] 0 [] []) [] =
    some (⟨.ret (.agg (fzB rb nm rc k r v)), [], 1, []⟩, []) := by kernel_rfl
/-! The store of no fault. -/
noncomputable def snOps : Array Oper := opsAt (nav (bodyOf Tryz.prog 27) [1, 1, 1, 0])
noncomputable def snId : Nat := idAt (nav (bodyOf Tryz.prog 27) [1, 1, 1, 0])
noncomputable def snPre : List Oper := snOps.toList.take 1
noncomputable def snO : Oper := opAt (snOps.toList.drop 1)
theorem sn_ops : snOps.toList = snPre ++ [snO] := by kernel_rfl
theorem sn_todo : rfY.map (it (bodyOf Tryz.prog 27)) = .code (.region snId snOps false) :: (rfY.drop 1).map (it (bodyOf Tryz.prog 27)) := by kernel_rfl
noncomputable def snR (B : Lo) (tanks : Int) (b0 p g c K n : Nat) (d : Nat → Value) : Option RR := rrunH Tryz.prog goFns B snOps snPre (mkT 58 (rfL tanks b0 p g c K n) d) [] 0 [] 0 []
theorem sn_pre (B : Lo) (tanks : Int) (b0 p g c K n : Nat) (d : Nat → Value) : ∃ q, snR B tanks b0 p g c K n d = some q ∧ q.T = (getR (snR B tanks b0 p g c K n d)).T ∧ q.n = 0 ∧ q.H = [] ∧ q.L = [] :=
  ⟨getR (snR B tanks b0 p g c K n d), by kernel_rfl, rfl, by kernel_rfl, by kernel_rfl, by kernel_rfl⟩
theorem sn_cop (B : Lo) (tanks : Int) (b0 p g c K n : Nat) (d : Nat → Value) : copR Tryz.prog goFns (evC (tput (getR (snR B tanks b0 p g c K n d)).T (some 4) (.pointer (some ⟨0, 0, none⟩)))) snO [(0, .cells fz0 59 (0, 0))] 1 =
    some ⟨.val undef, [(0, .cells #[.slice none 0 0, .int .i64 0, .int .i64 1, .int .i64 0] 59 (0, 0))], 1, [0], [0]⟩ := by kernel_rfl
theorem sn_dst : snO.dst = none := by kernel_rfl
theorem sn_want (B : Lo) (tanks : Int) (b0 p g c K n : Nat) (d : Nat → Value) : Region.wanted snO (yieldedC snOps (getR (snR B tanks b0 p g c K n d)).T) = true := by kernel_rfl
theorem sn_slot (B : Lo) (tanks : Int) (b0 p g c K n : Nat) (d : Nat → Value) : tget (getR (snR B tanks b0 p g c K n d)).T 4 = .pointer (some ⟨p, 0, some 0⟩) := by kernel_rfl
set_option maxRecDepth 100000 in
theorem sn_end (B B' : Lo) (tanks : Int) (b0 p g c K n : Nat) (d : Nat → Value) : endedB (srun Tryz.prog goFns B 3 1 ⟨27, tput (getR (snR B' tanks b0 p g c K n d)).T (some 4) (.pointer (some ⟨0, 0, none⟩)), (rfY.drop 1).map (it (bodyOf Tryz.prog 27)), [], .run, none⟩ [(0, .cells #[.slice none 0 0, .int .i64 0, .int .i64 1, .int .i64 0] 59 (0, 0))] 1 [] 0 [] []) [] =
    some (⟨.ret (.agg #[.slice none 0 0, .int .i64 0, .int .i64 1, .int .i64 0]), [], 1, []⟩, []) := by kernel_rfl
end Go.Proofs.YtffdidleebognaaGreatDoor

namespace Go.Proofs.YtffdidleebognaaGreatDoor
open Go Go.CE Go.Proofs Go.RowKit Lens
/-- The first fault among the first n droughts of a list: its place there, and its month. -/
def rfTo (i : Isl) (tanks : Int) (l : List Nat) : Nat → Option (Nat × Nat)
  | 0 => none
  | n + 1 => match rfTo i tanks l n with
    | some x => some x
    | none => (badTo i tanks (bitsDry i.nm (l.getD n 0)) i.nm).map fun m => (n, m)
theorem rfTo_app {i : Isl} {tanks : Int} {l : List Nat} {x : Nat} : ∀ n, n ≤ l.length → rfTo i tanks (l ++ [x]) n = rfTo i tanks l n
  | 0, _ => rfl
  | n + 1, h => by
    have e : (l ++ [x]).getD n 0 = l.getD n 0 := by
      simp only [List.getD_eq_getElem?_getD, List.getElem?_append_left (show n < l.length by omega)]
    have h0 := rfTo_app (i := i) (tanks := tanks) (l := l) (x := x) n (by omega)
    simp only [rfTo, h0, e]
theorem rfTo_lt {i : Isl} {tanks : Int} {l : List Nat} : ∀ {k n m : Nat}, rfTo i tanks l k = some (n, m) → n < k ∧ rfTo i tanks l n = none ∧ badTo i tanks (bitsDry i.nm (l.getD n 0)) i.nm = some m
  | 0, _, _, h => by cases h
  | k + 1, n, m, h => by
    simp only [rfTo] at h
    split at h
    · rename_i x hx
      cases h
      have := rfTo_lt hx
      exact ⟨by omega, this.2⟩
    · rename_i hx
      cases hb : badTo i tanks (bitsDry i.nm (l.getD k 0)) i.nm with
      | none => rw [hb] at h; cases h
      | some q =>
        rw [hb] at h
        simp only [Option.map_some, Option.some.injEq, Prod.mk.injEq] at h
        obtain ⟨rfl, rfl⟩ := h
        exact ⟨by omega, hx, hb⟩
theorem rf_eq {i : Isl} {tanks : Int} : ∀ n, ftTo i tanks n = (rfTo i tanks (pas i n) (pas i n).length).map fun x => ((pas i n).getD x.1 0, x.2)
  | 0 => rfl
  | n + 1 => by
    have ih := rf_eq (i := i) (tanks := tanks) n
    have hu : ftTo i tanks (n + 1) = match ftTo i tanks n with
      | some x => some x
      | none => if drB i.most i.row i.nm (bitsDry i.nm n) then (badTo i tanks (bitsDry i.nm n) i.nm).map fun m => (n, m) else none := rfl
    rw [hu, pas_succ]
    cases hz : drB i.most i.row i.nm (bitsDry i.nm n) with
    | false =>
      simp only [Bool.false_eq_true, if_false]
      rw [ih]
      cases rfTo i tanks (pas i n) (pas i n).length <;> rfl
    | true =>
      simp only [if_true]
      rw [List.length_append, List.length_singleton]
      have e4 : (pas i n ++ [n]).getD (pas i n).length 0 = n := by simp [List.getD_eq_getElem?_getD]
      have hv : rfTo i tanks (pas i n ++ [n]) ((pas i n).length + 1) = match rfTo i tanks (pas i n) (pas i n).length with
        | some x => some x
        | none => (badTo i tanks (bitsDry i.nm n) i.nm).map fun m => ((pas i n).length, m) := by
        simp only [rfTo, rfTo_app _ (Nat.le_refl _), e4]
      rw [hv, ih]
      cases h : rfTo i tanks (pas i n) (pas i n).length with
      | some x =>
        obtain ⟨a, b⟩ := x
        have := (rfTo_lt h).1
        simp only [Option.map_some, List.getD_eq_getElem?_getD, List.getElem?_append_left this]
      | none =>
        simp only [Option.map_none]
        cases badTo i tanks (bitsDry i.nm n) i.nm with
        | none => rfl
        | some m => simp only [Option.map_some, e4]
section
variable {i : Isl} {wa : Option Addr} {wc mb mo mc : Nat} {ma : Option Addr} {tanks : Int} {w : World} {n : Nat}
noncomputable abbrev rfC (tanks : Int) (b0 p g c K : Nat) (isl : Value) (d : Nat → Value) : CF := ⟨27, tput (tput (tput (rfT0 tanks b0 p d) (some 12) isl) (some 13) (.slice (some ⟨g, 0, some 0⟩) K c)) (some 5) (.slice (some ⟨g, 0, some 0⟩) K c), [It.code [1, 1]].map (it (bodyOf Tryz.prog 27)), [], .run, none⟩
set_option maxRecDepth 100000 in
theorem rf_all {w2 : World} {b0 p g c : Nat} {rb rc : Nat → Nat} {isl : Value} {d0 : Nat → Value} {l : List Nat} (hi : IslAt w2 w2.heap.size i wa (some ⟨mb, mo, none⟩)) (hI : islB i = true) (ht : tanksB tanks = true)
    (hIsl : ∀ (j : Nat) u, (islC i (rawS wa i.nw wc) (rawS (some ⟨mb, mo, none⟩) i.nm mc))[j]? = some u → RawCell (worldLo w2) b0 (0 + j) u) (hN : Nest w2 g l.length i.nm rb rc fun n => bitsDry i.nm (l.getD n 0)) (hl : l.length ≤ 1000) :
    ∀ n, n ≤ l.length → rfTo i tanks l n = none → (∃ d : Nat → Value, (∀ t, Loose (d t)) ∧ GoE Tryz.prog (worldLo w2) (rfC tanks b0 p g c l.length isl d0) [] 0
      (headC 27 58 (rfL tanks b0 p g c l.length n) d (rfT.map (it (bodyOf Tryz.prog 27)))) (heapO 0 []) 0 []) ∧
      ∀ m, n < l.length → badTo i tanks (bitsDry i.nm (l.getD n 0)) i.nm = some m → ∃ d : Nat → Value, (∀ t, Loose (d t)) ∧ GoE Tryz.prog (worldLo w2) (rfC tanks b0 p g c l.length isl d0) [] 0
      (headC 27 58 (rfB tanks b0 p g c l.length n m (wrongRule i (endsOf i tanks false (bitsDry i.nm (l.getD n 0)) m)) (wrongWell i (endsOf i tanks false (bitsDry i.nm (l.getD n 0)) m))) d (rfX.map (it (bodyOf Tryz.prog 27)))) (heapO 0 []) 0 [] := by
  obtain ⟨hnm1, hnm8, hmost, hrow⟩ := isl_nm' hI
  have hml : i.nm ≤ maxLen := by unfold maxLen; omega
  have hfit : ∀ much d, Fit i tanks (endTru i much i.nm d) := fun much d => fit_end hI ht much _ d
  have ok1 : ∀ t, OkAll 1 [(false, Obj.cells (rowA (seenE i tanks t) i.nm) 53 (1, 1))] := fun t => ⟨.inr ⟨rfl, loose_seenE _ _ _ _⟩, trivial⟩
  have hrb : ∀ n, n < l.length → RawCell (worldLo w2) g (0 + n * 1) (.slice (some ⟨rb n, 0, some 0⟩) i.nm (rc n)) := fun n hn => by
    rw [show 0 + n * 1 = n by omega]
    exact raw_of hN.lt (hN.at' n hn) fun _ => .rawSlice _ _ 0 _ _
  have hbit : ∀ n, n < l.length → ∀ k, k < i.nm → RawCell (worldLo w2) (rb n) (0 + k * 1) (.bool (bitsDry i.nm (l.getD n 0) k)) := fun n hn k hk => by
    rw [show 0 + k * 1 = k by omega]
    exact raw_of (hN.row n hn).1 ((hN.row n hn).2 k hk) fun _ => .bool _
  have inner : ∀ n, n < l.length → (∃ d : Nat → Value, (∀ t, Loose (d t)) ∧ GoE Tryz.prog (worldLo w2) (rfC tanks b0 p g c l.length isl d0) [] 0
      (headC 27 58 (rfL tanks b0 p g c l.length n) d (rfT.map (it (bodyOf Tryz.prog 27)))) (heapO 0 []) 0 []) →
      ∀ k, k ≤ i.nm → badTo i tanks (bitsDry i.nm (l.getD n 0)) k = none → ∃ d : Nat → Value, (∀ t, Loose (d t)) ∧ GoE Tryz.prog (worldLo w2) (rfC tanks b0 p g c l.length isl d0) [] 0
        (headC 27 58 (rfI tanks b0 p g c l.length i.nm n k) d (rfU.map (it (bodyOf Tryz.prog 27)))) (heapO 0 [(false, Obj.cells (rowA (seenE i tanks (endTru i false i.nm (bitsDry i.nm (l.getD n 0)))) i.nm) 53 (1, 1))]) 1 [] := by
    intro n hlt ⟨d, _, hg⟩ k
    let dr := bitsDry i.nm (l.getD n 0)
    let ta := endTru i false i.nm dr
    induction k with
    | zero =>
      intro _ _
      exact hg.headO goFns_ok mixed_ok
        (rf_run (worldLo w2) i (rawS wa i.nw wc) (rawS (some ⟨mb, mo, none⟩) i.nm mc) tanks b0 p g c l.length (rb n) (rc n) n (rowA (intE ta.rains) i.nm) (rowA (intE ta.needs) i.nm) (rowA (seenE i tanks ta) i.nm) i.sl i.kl i.lh
          (i.size * tanks + ta.start) (runTo i tanks ta i.nm).rain (runTo i tanks ta i.nm).used (runTo i tanks ta i.nm).leak (runTo i tanks ta i.nm).sea ((runTo i tanks ta i.nm).tanks + (runTo i tanks ta i.nm).lens) d)
        ⟨con_runR (w := w2) (i := i) (tanks := tanks) (wa := wa) (wc := wc) (ma := some ⟨mb, mo, none⟩) (mc := mc) (t := ta) (n := 2) (r := 0) (s := 1) (rb := rb n) (rc := rc n) (by omega) (by omega) hml hml hml (hN.row n hlt).1 (hN.row n hlt).2 (hfit _ _) hnm1,
          ler_con (d := dr) hi hnm1 (Nat.le_refl _) hnm8 (hbit n hlt), hrb n hlt, ⟨rfl, hlt⟩, hIsl, hIsl, ltq_t (by omega), trivial⟩
        (by kernel_rfl) (by kernel_rfl) (by kernel_rfl) (by kernel_rfl) (by kernel_rfl) (by kernel_rfl) (ok1 _)
    | succ k ih =>
      intro hk hb
      obtain ⟨hr, hb'⟩ := badTo_none hb k (by omega)
      obtain ⟨d, _, hg⟩ := ih (by omega) hb'
      have hkn : k < i.nm := by omega
      exact hg.headO goFns_ok mixed_ok
        (rf_in (worldLo w2) i (rawS wa i.nw wc) (rawS (some ⟨mb, mo, none⟩) i.nm mc) tanks b0 p g c l.length n k (rowA (seenE i tanks ta) i.nm) (endsOf i tanks false dr k) (wrongRule i (endsOf i tanks false dr k)) (wrongWell i (endsOf i tanks false dr k)) d)
        ⟨wq_in (by omega) (by omega), by rw [eqq_t hr]; rfl, con_rWrong hi _, seen_get hkn, ⟨rfl, hkn⟩, hIsl, ltq_t (by omega), trivial⟩
        (by kernel_rfl) (by kernel_rfl) (by kernel_rfl) (by kernel_rfl) (by kernel_rfl) (by kernel_rfl) (ok1 _)
  have heads : ∀ n, n ≤ l.length → rfTo i tanks l n = none → ∃ d : Nat → Value, (∀ t, Loose (d t)) ∧ GoE Tryz.prog (worldLo w2) (rfC tanks b0 p g c l.length isl d0) [] 0
      (headC 27 58 (rfL tanks b0 p g c l.length n) d (rfT.map (it (bodyOf Tryz.prog 27)))) (heapO 0 []) 0 [] := by
    intro n
    induction n with
    | zero =>
      intro _ _
      exact (GoE.refl (P := Tryz.prog) (B := worldLo w2) (c0 := rfC tanks b0 p g c l.length isl d0) under_nil).headO goFns_ok mixed_ok (rf_start (worldLo w2) tanks b0 p g c l.length isl d0) trivial
        (by kernel_rfl) (by kernel_rfl) (by kernel_rfl) (by kernel_rfl) (by kernel_rfl) (by kernel_rfl) trivial
    | succ n ih =>
      intro hn hnone
      have hsp : rfTo i tanks l n = none ∧ badTo i tanks (bitsDry i.nm (l.getD n 0)) i.nm = none := by
        simp only [rfTo] at hnone
        split at hnone
        · cases hnone
        · rename_i hx
          refine ⟨hx, ?_⟩
          cases hb : badTo i tanks (bitsDry i.nm (l.getD n 0)) i.nm with
          | none => rfl
          | some m => rw [hb] at hnone; cases hnone
      obtain ⟨d, _, hg⟩ := inner n (by omega) (ih (by omega) hsp.1) i.nm (Nat.le_refl _) hsp.2
      exact hg.headO goFns_ok mixed_ok (rf_next (worldLo w2) i.nm tanks b0 p g c l.length n i.nm (rowA (seenE i tanks (endTru i false i.nm (bitsDry i.nm (l.getD n 0)))) i.nm) d) ⟨wq_in (by omega) (by omega), ltq_f (by omega), trivial⟩
        (by kernel_rfl) (by kernel_rfl) (by kernel_rfl) (by kernel_rfl) (by kernel_rfl) (by kernel_rfl) trivial
  refine fun n hn hnone => ⟨heads n hn hnone, fun m hlt hbad => ?_⟩
  obtain ⟨hmn, hr, hb'⟩ := badTo_some hbad
  obtain ⟨d, _, hg⟩ := inner n hlt (heads n hn hnone) m (by omega) hb'
  exact hg.headO goFns_ok mixed_ok
    (rf_bad (worldLo w2) i (rawS wa i.nw wc) (rawS (some ⟨mb, mo, none⟩) i.nm mc) tanks b0 p g c l.length n m (rowA (seenE i tanks (endTru i false i.nm (bitsDry i.nm (l.getD n 0)))) i.nm) (endsOf i tanks false (bitsDry i.nm (l.getD n 0)) m) (wrongRule i (endsOf i tanks false (bitsDry i.nm (l.getD n 0)) m)) (wrongWell i (endsOf i tanks false (bitsDry i.nm (l.getD n 0)) m)) d)
    ⟨by rw [eqq_f hr]; rfl, con_rWrong hi _, seen_get hmn, ⟨rfl, hmn⟩, hIsl, ltq_t (by omega), trivial⟩
    (by kernel_rfl) (by kernel_rfl) (by kernel_rfl) (by kernel_rfl) (by kernel_rfl) (by kernel_rfl) trivial
theorem fz0_af : ∀ v ∈ fz0, af v = true := fun v hv => by
  simp only [fz0, List.mem_toArray, List.mem_cons, List.not_mem_nil, or_false] at hv
  rcases hv with rfl | rfl | rfl | rfl <;> rfl
theorem ex_flt (rb nm rc : Nat) (k r v : Int) : Exact (.agg #[.slice (some ⟨rb, 0, some 0⟩) nm rc, .int .i64 k, .int .i64 r, .int .i64 v]) (.agg #[.slice (some ⟨rb, 0, none⟩) nm rc, .int .i64 k, .int .i64 r, .int .i64 v]) :=
  exact_agg (.cons (exact_rawS (some ⟨rb, 0, none⟩) nm rc) (.cons (exact_af rfl) (.cons (exact_af rfl) (.cons (exact_af rfl) .nil))))
theorem ex_flt0 : Exact (.agg #[.slice none 0 0, .int .i64 0, .int .i64 1, .int .i64 0]) (.agg #[.slice none 0 0, .int .i64 0, .int .i64 1, .int .i64 0]) :=
  exact_agg (.cons (exact_af rfl) (.cons (exact_af rfl) (.cons (exact_af rfl) (.cons (exact_af rfl) .nil))))
set_option maxRecDepth 100000 in
theorem rFault_any (hi : IslAt w w.heap.size i wa ma) (hI : islB i = true) (ht : tanksB tanks = true) (h7 : i.nm ≤ 7) :
    Calls Tryz.prog 27 #[islV i wa wc ma mc, .int .i64 tanks] w fun e' w' => ((ftTo i tanks (2 ^ i.nm) = none → e' = .returned (.agg #[.slice none 0 0, .int .i64 0, .int .i64 1, .int .i64 0])) ∧
      ∀ b m, ftTo i tanks (2 ^ i.nm) = some (b, m) → ∃ g c, e' = .returned (.agg #[.slice (some ⟨g, 0, none⟩) i.nm c, .int .i64 m, .int .i64 (wrongRule i (endsOf i tanks false (bitsDry i.nm b) m)), .int .i64 (wrongWell i (endsOf i tanks false (bitsDry i.nm b) m))]) ∧
        w.heap.size ≤ g ∧ g < w'.heap.size ∧ i.nm ≤ c ∧ c ≤ maxLen ∧ ∀ j, j < i.nm → w'.cell? ⟨g, j, none⟩ = some (.bool (bitsDry i.nm b j))) ∧ Below w.heap.size w w' := by
  obtain ⟨hnm1, hnm8, hmost, hrow⟩ := isl_nm' hI
  obtain ⟨mb, mo, rfl, _⟩ := monsGet hi.months (show 0 < i.nm by omega)
  have hp2 : 2 ^ i.nm ≤ 128 := Nat.pow_le_pow_right (by decide) h7
  have hlen : (pas i (2 ^ i.nm)).length ≤ 1000 := Nat.le_trans (Nat.le_trans (List.length_filter_le _ _) (by simp)) (show 2 ^ i.nm ≤ 1000 by omega)
  rw [rf_eq (2 ^ i.nm)]
  generalize hL : pas i (2 ^ i.nm) = l at hlen ⊢
  intro cs
  have hst : At Tryz.prog (Frame.enter Tryz.prog 27 #[islV i wa wc (some ⟨mb, mo, none⟩) mc, .int .i64 tanks] .normal) cs w (worldLo w) (entryC Tryz.prog 27 58 [islR i wa wc (some ⟨mb, mo, none⟩) mc, .int .i64 tanks]) [] 0 w :=
    At.start (args := #[islR i wa wc (some ⟨mb, mo, none⟩) mc, .int .i64 tanks]) (by kernel_rfl) (VRl.vrs' (.cons (vr_isl i wa wc (some ⟨mb, mo, none⟩) mc) (.cons (.int _ _) .nil)))
  obtain ⟨d, hd, hg0⟩ := (GoE.refl (P := Tryz.prog) (B := worldLo w) (c0 := entryC Tryz.prog 27 58 [islR i wa wc (some ⟨mb, mo, none⟩) mc, .int .i64 tanks]) under_nil).headO goFns_ok mixed_ok (live := rfP tanks (.pointer (some ⟨0, 0, none⟩)) (.pointer (some ⟨1, 0, none⟩)))
    (rf_prefix (worldLo w) i (rawS wa i.nw wc) (rawS (some ⟨mb, mo, none⟩) i.nm mc) tanks) trivial (by kernel_rfl) (by kernel_rfl) (by kernel_rfl) (by kernel_rfl) (by kernel_rfl) (by kernel_rfl) ⟨.inr ⟨rfl, loose_isl i wa wc (some ⟨mb, mo, none⟩) mc⟩, .inr ⟨rfl, fun v hv => loose_af (fz0_af v hv)⟩, trivial⟩
  obtain ⟨w1, hat⟩ := hst.go hg0
  obtain ⟨μ, A, hok, hh, hmk⟩ := hat.rebase (by decide) hd (by kernel_rfl) (by kernel_rfl) (by kernel_rfl)
  obtain ⟨im0, him0, hor0⟩ := hok.rel 0 (.cells (islC i (rawS wa i.nw wc) (.slice (some ⟨mb, mo, some 0⟩) i.nm mc)) 27 (0, 0)) (by show 0 < 2; omega) rfl trivial
  obtain ⟨im1, him1, hor1⟩ := hok.rel 1 (.cells fz0 59 (0, 0)) (by show 1 < 2; omega) rfl trivial
  have hl0 := (hok.low 0 (.cells (islC i (rawS wa i.nw wc) (.slice (some ⟨mb, mo, some 0⟩) i.nm mc)) 27 (0, 0)) im0 (by show 0 < 2; omega) rfl trivial him0).1
  have hl1 := hok.low 1 (.cells fz0 59 (0, 0)) im1 (by show 1 < 2; omega) rfl trivial him1
  have o0 : im0.off = 0 := by
    rcases hor0 with ⟨_, _, h, _⟩ | ⟨h, _⟩
    · exact h
    · exact absurd rfl h
  obtain ⟨hrw1, o1, arr, harr1, hasz, _, hacs⟩ : im1.rw = true ∧ im1.off = 0 ∧ ∃ arr, w1.heap[im1.blk]? = some (.cells arr 59 (0, 0)) ∧ fz0.size ≤ arr.size ∧ arr.size = im1.cap ∧ ∀ (i : Nat) v, fz0[i]? = some v → ∃ v', arr[i]? = some v' ∧ VR μ v v' := by
    rcases hor1 with ⟨_, h1, h2, h3⟩ | ⟨h, _⟩
    · exact ⟨h1, h2, h3⟩
    · exact absurd rfl h
  have hac : ∀ (i : Nat) v, fz0[i]? = some v → ∃ v', arr[i]? = some v' ∧ ∀ μ, VR μ v v' := fun j v hv => by
    obtain ⟨v', h1, h2⟩ := hacs j v hv
    have ha := fz0_af v (Array.mem_of_getElem? hv)
    rw [af_eq ha h2] at h1
    exact ⟨v, h1, fun _ => vr_af ha⟩
  have hpge : w.heap.size ≤ im1.blk := hl1.2.1 hrw1
  have hP := hh (2, .pointer (some ⟨0, 0, none⟩)) (by simp [rfP])
  have hQ := hh (4, .pointer (some ⟨1, 0, none⟩)) (by simp [rfP])
  have hT := hh (1, .int .i64 tanks) (by simp [rfP])
  have ptr : ∀ {k : Nat} {im : Img} {v : Value}, μ k = some im → im.off = 0 → VR μ (.pointer (some ⟨k, 0, none⟩)) v → v = .pointer (some ⟨im.blk, 0, none⟩) := fun hk ho h => by
    cases h with
    | ptr har =>
      obtain ⟨im', q1, _, rfl⟩ := har
      rw [hk] at q1; cases q1
      simp [ho]
  have eP := ptr him0 o0 hP
  have eQ := ptr him1 o1 hQ
  have hat1 := hmk (rfP tanks (.pointer (some ⟨im0.blk, 0, some 0⟩)) (.pointer (some ⟨im1.blk, 0, some 0⟩))) rfl fun p hp => by
    simp only [rfP, List.mem_cons, List.not_mem_nil, or_false] at hp
    rcases hp with rfl | rfl | rfl
    · rw [af_eq (v := .int .i64 tanks) rfl hT]; exact .int _ _
    · rw [eP]; exact .rawPtr _ _ 0
    · rw [eQ]; exact .rawPtr _ _ 0
  have hcell : ∀ (j : Nat) v, (islC i (rawS wa i.nw wc) (rawS (some ⟨mb, mo, none⟩) i.nm mc))[j]? = some v → ∃ μ v', w1.cell? ⟨im0.blk, j, none⟩ = some v' ∧ VR μ v v' := fun j v hv => by
    obtain ⟨v', hc, hv'⟩ := hor0.cell hv
    rw [o0, Nat.zero_add] at hc
    exact ⟨μ, v', hc, hv'⟩
  have hhas : (worldLo w).has w1 := ⟨hat.below.size, fun b hb => hat.below.block b hb⟩
  have hi1 := islAt_lo hi hhas
  obtain ⟨r, hr, hrT, hrn, hrH, hrL⟩ := rf_pre (worldLo w1) i (rawS wa i.nw wc) (rawS (some ⟨mb, mo, none⟩) i.nm mc) tanks im0.blk im1.blk d
  have hat2 : At Tryz.prog (Frame.enter Tryz.prog 27 #[islV i wa wc (some ⟨mb, mo, none⟩) mc, .int .i64 tanks] .normal) cs w (worldLo w1) ⟨27, rfT0 tanks im0.blk im1.blk d, .code (.region rfId rfOps false) :: [It.code [1, 1]].map (it (bodyOf Tryz.prog 27)), [], .run, none⟩ [] 0 w1 := by
    rw [← rf_todo]; exact hat1
  obtain ⟨v, w2, ⟨g, c, rb, rc, rfl, hge, hN⟩, hblk, hsz, hnext⟩ := hat2.callX (Q := fun v w2 => ∃ g c rb rc, v = .slice (some ⟨g, 0, none⟩) l.length c ∧ (∀ n, n < l.length → w1.heap.size ≤ rb n) ∧ Nest w2 g l.length i.nm rb rc fun n => bitsDry i.nm (l.getD n 0)) (g := 42) (args := #[islR i wa wc (some ⟨mb, mo, none⟩) mc]) (r := r) goFns_ok rf_ops (by kernel_rfl) hr
    (by rw [hrL]; exact ⟨isl_raw hl0 hcell, trivial⟩) hrn hrH (by rw [hrT]; exact rf_dst _ _ _ _ _) (by rw [hrT]; exact rf_want _ _ _ _ _) (nodefer (by kernel_rfl)) (by rw [hrT]; exact rf_cop _ _ _ _ _) fun w' args' hB ha => by
      rw [(show ExL [islR i wa wc (some ⟨mb, mo, none⟩) mc] [islV i wa wc (some ⟨mb, mo, none⟩) mc] from .cons (exact_isl _ _ _ _ _) .nil).args ha]
      refine (rDroughts_any (wc := wc) (mc := mc) (islAt_lo hi1 hB) hI h7).mono fun e w'' ⟨⟨v, he, g, c, rb, rc, hv, _, _, _, hge, hN⟩, hb⟩ => ⟨⟨v, he, g, c, rb, rc, ?_, ?_, ?_⟩, hb⟩
      · rw [hL] at hv; exact hv
      · rw [hL] at hge; exact fun n hn => Nat.le_trans hB.le (hge n hn)
      · rw [hL] at hN; exact hN
  have hhas2 : (worldLo w1).has w2 := ⟨hsz, hblk⟩
  have hi2 := islAt_lo hi1 hhas2
  obtain ⟨r2, hr2, hrT2, hrn2, hrH2, hrL2⟩ := rf_post (worldLo w2) tanks im0.blk im1.blk g c l.length d (.agg (islC i (rawS wa i.nw wc) (rawS (some ⟨mb, mo, none⟩) i.nm mc)))
  obtain ⟨w3, hat3⟩ := hnext (.slice (some ⟨g, 0, some 0⟩) l.length c) [] 0 r2 (.rawSlice _ _ 0 _ _) (by rw [hrT]; exact hr2) (by rw [hrL2]; trivial)
  rw [hrT2, hrn2, hrH2] at hat3
  have hIsl := isl_raw (wc := wc) (mc := mc) (ma := some ⟨mb, mo, none⟩) (Nat.lt_of_lt_of_le hl0 hsz) fun j v hv => by
    obtain ⟨μ, v', h1, h2⟩ := hcell j v hv
    exact ⟨μ, v', (worldLo_cell hhas2 hl0).trans h1, h2⟩
  have all := rf_all (tanks := tanks) (p := im1.blk) (c := c) (isl := .agg (islC i (rawS wa i.nw wc) (rawS (some ⟨mb, mo, none⟩) i.nm mc))) (d0 := d) hi2 hI ht hIsl hN hlen
  have hp2' : w2.heap[im1.blk]? = some (.cells arr 59 (0, 0)) := (hblk _ hl1.1).trans harr1
  have hplt2 : im1.blk < w2.heap.size := Nat.lt_of_lt_of_le hl1.1 hsz
  cases hft : rfTo i tanks l l.length with
  | none =>
    obtain ⟨⟨d', _, hg⟩, _⟩ := all l.length (Nat.le_refl _) hft
    obtain ⟨d4, _, hg4⟩ := hg.headO goFns_ok mixed_ok (rf_none (worldLo w2) tanks im0.blk im1.blk g c l.length l.length d') ⟨ltq_f (Int.le_refl _), trivial⟩ (by kernel_rfl) (by kernel_rfl) (by kernel_rfl) (by kernel_rfl) (by kernel_rfl) (by kernel_rfl) trivial
    obtain ⟨w4, hat4⟩ := hat3.go hg4
    have hp4 : w4.heap[im1.blk]? = some (.cells arr 59 (0, 0)) := (hat4.has.inv _ hplt2).trans hp2'
    obtain ⟨q, hq, hqT, hqn, hqH, hqL⟩ := sn_pre (worldLo w2) tanks im0.blk im1.blk g c l.length l.length d4
    have hat5 : At Tryz.prog (Frame.enter Tryz.prog 27 #[islV i wa wc (some ⟨mb, mo, none⟩) mc, .int .i64 tanks] .normal) cs w (worldLo w2) ⟨27, mkT 58 (rfL tanks im0.blk im1.blk g c l.length l.length) d4, .code (.region snId snOps false) :: (rfY.drop 1).map (it (bodyOf Tryz.prog 27)), [], .run, none⟩ [] 0 w4 := by
      rw [← sn_todo]; exact hat4
    obtain ⟨w5, hfr5, hsz5, hat6⟩ := hat5.storeOwn (p := im1.blk) (s := 4) goFns_ok sn_ops (by kernel_rfl) hq (by rw [hqL]; trivial) hqn hqH sn_dst (by rw [hqT]; exact sn_want _ _ _ _ _ _ _ _ _) (nodefer (by kernel_rfl)) hpge hp4 hasz hac (by decide) (by rw [hqT]; exact sn_slot _ _ _ _ _ _ _ _ _) (by rw [hqT]; exact sn_cop _ _ _ _ _ _ _ _ _)
    rw [hqT] at hat6
    refine hat6.endsW goFns_ok mixed_ok (under_heapO [(false, Obj.cells #[.slice none 0 0, .int .i64 0, .int .i64 1, .int .i64 0] 59 (0, 0))] (Nat.le_refl 1)) (sn_end (worldLo w) (worldLo w2) tanks im0.blk im1.blk g c l.length l.length d4) trivial fun v' μ' w' hv hb hB hsame _ => ⟨⟨fun _ => by rw [ex_flt0.2 _ _ hv], fun b m h => by cases h⟩, hb⟩
  | some x =>
    obtain ⟨n, m⟩ := x
    obtain ⟨hlt, hnone, hbad⟩ := rfTo_lt hft
    obtain ⟨d4, _, hg4⟩ := (all n (by omega) hnone).2 m hlt hbad
    obtain ⟨w4, hat4⟩ := hat3.go hg4
    have hp4 : w4.heap[im1.blk]? = some (.cells arr 59 (0, 0)) := (hat4.has.inv _ hplt2).trans hp2'
    have hN4 := hN.lo hat4.has
    have hrb : RawCell (worldLo w2) g (0 + n * 1) (.slice (some ⟨rb n, 0, some 0⟩) i.nm (rc n)) := by
      rw [show 0 + n * 1 = n by omega]
      exact raw_of hN.lt (hN.at' n hlt) fun _ => .rawSlice _ _ 0 _ _
    generalize hr0 : wrongRule i (endsOf i tanks false (bitsDry i.nm (l.getD n 0)) m) = rr at hat4
    generalize hv0 : wrongWell i (endsOf i tanks false (bitsDry i.nm (l.getD n 0)) m) = vv at hat4
    obtain ⟨q, hq, hqT, hqn, hqH, hqL⟩ := sb_pre (worldLo w2) tanks im0.blk im1.blk g c l.length n m rr vv (rb n) i.nm (rc n) d4
    have hat5 : At Tryz.prog (Frame.enter Tryz.prog 27 #[islV i wa wc (some ⟨mb, mo, none⟩) mc, .int .i64 tanks] .normal) cs w (worldLo w2) ⟨27, sbT0 tanks im0.blk im1.blk g c l.length n m rr vv d4, .code (.region sbId sbOps false) :: (rfX.drop 1).map (it (bodyOf Tryz.prog 27)), [], .run, none⟩ [] 0 w4 := by
      rw [← sb_todo]; exact hat4
    obtain ⟨w5, hfr5, hsz5, hat6⟩ := hat5.storeOwn (p := im1.blk) (s := 4) goFns_ok sb_ops (by kernel_rfl) hq (by rw [hqL]; exact ⟨hrb, ⟨rfl, hlt⟩, trivial⟩) hqn hqH sb_dst (by rw [hqT]; exact sb_want _ _ _ _ _ _ _ _ _ _ _ _ _ _ _) (nodefer (by kernel_rfl)) hpge hp4 hasz hac (by decide) (by rw [hqT]; exact sb_slot _ _ _ _ _ _ _ _ _ _ _ _ _ _ _) (by rw [hqT]; exact sb_cop _ _ _ _ _ _ _ _ _ _ _ _ _ _ _)
    rw [hqT] at hat6
    refine hat6.endsW goFns_ok mixed_ok (under_heapO [(false, Obj.cells (fzB (rb n) i.nm (rc n) m rr vv) 59 (0, 0))] (Nat.le_refl 1)) (sb_end (worldLo w) (worldLo w2) tanks im0.blk im1.blk g c l.length n m rr vv (rb n) i.nm (rc n) d4) trivial fun v' μ' w' hv hb hB hsame _ => ⟨⟨fun h => (by cases h), fun b m' h => ?_⟩, hb⟩
    simp only [Option.map_some, Option.some.injEq, Prod.mk.injEq] at h
    obtain ⟨rfl, rfl⟩ := h
    have hlt4 := (hN4.row n hlt).1
    have hne : rb n ≠ im1.blk := by have := hge n hlt; have := hl1.1; omega
    have hgeW : w.heap.size ≤ rb n := by have := hge n hlt; have := hat.below.size; omega
    refine ⟨rb n, rc n, by rw [(ex_flt _ _ _ _ _ _).2 _ _ hv, hr0, hv0], hgeW, ?_, (hN.cap n hlt).1, (hN.cap n hlt).2, fun j hj => ?_⟩
    · have h1 : w'.heap[rb n]? = w4.heap[rb n]? := (hsame _ (by omega)).trans (hfr5 _ hlt4 hne)
      have h2 : w4.heap[rb n]? = some w4.heap[rb n] := by simp [hlt4]
      rw [h2] at h1
      exact (Array.getElem?_eq_some_iff.1 h1).1
    · have h1 : w'.heap[rb n]? = w4.heap[rb n]? := (hsame _ (by omega)).trans (hfr5 _ hlt4 hne)
      rw [← (hN4.row n hlt).2 j hj]
      simp only [World.cell?, h1]
end
end Go.Proofs.YtffdidleebognaaGreatDoor

namespace Go.Proofs.YtffdidleebognaaGreatDoor
open Go Go.CE Go.Proofs Go.RowKit Lens
end Go.Proofs.YtffdidleebognaaGreatDoor

namespace Go.Proofs.YtffdidleebognaaGreatDoor
open Go Go.ChangeShapes Go.WideShapes Go.ChangeAt Go.RowKit Go.WideElems Lens
/-- What a law of an islet must do. -/
def Walk1 (f : FuncId) : Prop := ∀ (i : Isl) (wa : Option Addr) (wc : Nat) (ma : Option Addr) (mc : Nat) (w : World),
  IslAt w w.heap.size i wa ma → CE.pow10Is w → Calls Tryz.prog f #[islV i wa wc ma mc] w fun e' w' => e' = .returned (.bool true) ∧ Below w.heap.size w w'
end Go.Proofs.YtffdidleebognaaGreatDoor

namespace Lens
theorem leak_mono {b b' l l' : Int} (h0 : 0 ≤ b) (hb : b ≤ b') (_hl0 : 0 ≤ l') (hl : l' ≤ l) (h1 : l ≤ 1000) : b - b * l / 1000 ≤ b' - b' * l' / 1000 := by
  have p1 : b' * l' ≤ b' * l := Int.mul_le_mul_of_nonneg_left hl (by omega)
  have p2 : (b' - b) * l ≤ (b' - b) * 1000 := Int.mul_le_mul_of_nonneg_left h1 (by omega)
  have p3 : (b' - b) * l = b' * l - b * l := Int.sub_mul _ _ _
  generalize b' * l' = x at *
  generalize b' * l = y at *
  generalize b * l = z at *
  omega
theorem min_mono {x x' f a a' : Int} (h : x ≤ x') (e : (if x < f then x else f) = a) (e' : (if x' < f then x' else f) = a') : a ≤ a' := by
  split at e <;> split at e' <;> omega
/-- What is left of tanks, and what is still wanted. -/
theorem take_mono {a a' n n' T T' : Int} (ha : a ≤ a') (hn : n' ≤ n) (e : (if n < a then n else a) = T) (e' : (if n' < a' then n' else a') = T') : a - T ≤ a' - T' ∧ n' - T' ≤ n - T := by
  split at e <;> split at e' <;> omega
theorem pump_mono {c c' r r' p k M M' U U' : Int} (hc : c ≤ c') (hr : r' ≤ r) (hr0 : 0 ≤ r') (hp : 0 ≤ p) (eM : (if k < c then c - k else 0) = M) (eM' : (if k < c' then c' - k else 0) = M')
    (e : (if M < (if p < r then p else r) then M else (if p < r then p else r)) = U) (e' : (if M' < (if p < r' then p else r') then M' else (if p < r' then p else r')) = U') : c - U ≤ c' - U' ∧ r' - U' ≤ r - U := by
  obtain ⟨q, hq⟩ : ∃ x, (if p < r then p else r) = x := ⟨_, rfl⟩
  obtain ⟨q', hq'⟩ : ∃ x, (if p < r' then p else r') = x := ⟨_, rfl⟩
  rw [hq] at e
  rw [hq'] at e'
  have h1 : q ≤ p ∧ q ≤ r ∧ (q = p ∨ q = r) := by split at hq <;> omega
  have h2 : q' ≤ p ∧ q' ≤ r' ∧ (q' = p ∨ q' = r') := by split at hq' <;> omega
  have h3 : 0 ≤ M ∧ c - k ≤ M ∧ (M = 0 ∨ M = c - k) := by split at eM <;> omega
  have h4 : 0 ≤ M' ∧ c' - k ≤ M' ∧ (M' = 0 ∨ M' = c' - k) := by split at eM' <;> omega
  have h5 : U ≤ M ∧ U ≤ q ∧ (U = M ∨ U = q) := by split at e <;> omega
  have h6 : U' ≤ M' ∧ U' ≤ q' ∧ (U' = M' ∨ U' = q') := by split at e' <;> omega
  clear hq hq' eM eM' e e'
  omega
/-- A state with less water than another one. -/
structure Less (s s' : St) : Prop where
  tanks : s.tanks ≤ s'.tanks
  lens : s.lens ≤ s'.lens
  lack : s'.lack ≤ s.lack
/-- A truth with less water than another one, in the first n months. -/
structure LessT (n : Nat) (t t' : Tru) : Prop where
  start : t.start ≤ t'.start
  soak : t.soak ≤ t'.soak
  leak : t'.leak ≤ t.leak
  rains : ∀ k, k < n → t.rains k ≤ t'.rains k
  needs : ∀ k, k < n → t'.needs k ≤ t.needs k
end Lens

namespace Go.Proofs.YtffdidleebognaaGreatDoor
open Lens
/-- An end lies within bounds. -/
structure Within (s : Seen) (k : Kn) : Prop where
  t0 : k.tl ≤ s.tanks
  t1 : s.tanks ≤ k.th
  l0 : k.ll ≤ s.lens
  l1 : s.lens ≤ k.lh
  k0 : k.kl ≤ s.lack
  k1 : s.lack ≤ k.kh
end Go.Proofs.YtffdidleebognaaGreatDoor

namespace Go.Proofs.YtffdidleebognaaGreatDoor
open Go Go.CE Go.Proofs Go.RowKit Lens
def ffQ (b nm : Nat) (m r w : Int) : Array Value := #[.slice (some ⟨b, 0, none⟩) nm 0, .int .i64 m, .int .i64 r, .int .i64 w]
section
variable {i : Isl} {wa : Option Addr} {wc mc : Nat} {ma : Option Addr} {tanks : Int} {w : World} {n : Nat}
theorem isl_nm (h1 : islB i = true) : 1 ≤ i.nm ∧ i.nm ≤ 8 ∧ 0 ≤ i.most ∧ 0 ≤ i.row := by
  simp only [islB, monthsB, Bool.and_eq_true, isInB_iff] at h1
  omega
theorem exl_it : ExL [islR i wa wc ma mc, .int .i64 tanks] [islV i wa wc ma mc, .int .i64 tanks] := .cons (exact_isl _ _ _ _ _) (.cons (exact_af rfl) .nil)
theorem con_firstFine (hi : IslAt w w.heap.size i wa ma) (h1 : islB i = true) (h2 : tanksB tanks = true) (hn : ftTo i tanks (2 ^ i.nm) = none) :
    CJ Tryz.prog (worldLo w) 47 #[islR i wa wc ma mc, .int .i64 tanks] [] n (.agg ffN) [] n [] :=
  con_of (v' := .agg ffN) exl_it (exact_af (by kernel_rfl)) fun _ hw => firstFault_fine (islAt_lo hi hw) (isl_nm h1).1 (fun d => fit_end h1 h2 false _ d) hn
theorem con_firstBad {b m : Nat} (hi : IslAt w w.heap.size i wa ma) (h1 : islB i = true) (h2 : tanksB tanks = true) (hn : ftTo i tanks (2 ^ i.nm) = some (b, m)) :
    CJ Tryz.prog (worldLo w) 47 #[islR i wa wc ma mc, .int .i64 tanks] [] n (.agg (ffQ n i.nm m (wrongRule i (endsOf i tanks false (bitsDry i.nm b) m)) (wrongWell i (endsOf i tanks false (bitsDry i.nm b) m)))) [(n, .cells (rowA (boolE (bitsDry i.nm b)) i.nm) 4 (1, 1))] (n + 1) [] :=
  cj_row (boolE_af _ _) fun μ w' args' hB ha => by
    rw [exl_it.args ha]
    refine (firstFault_bad (islAt_lo hi hB) (isl_nm h1).1 (fun d => fit_end h1 h2 false _ d) hn).mono fun e w'' ⟨⟨g, c, he, k1, k2, k3, k4, k5⟩, hb⟩ => ⟨⟨g, _, k1, k2, he, k5, fun μ' hμ => ?_⟩, hb⟩
    exact vr_aggl (.cons (.slice ⟨_, hμ, rfl, rfl⟩ k3 k4 fun h => absurd rfl h) (.cons (.int _ _) (.cons (.int _ _) (.cons (.int _ _) .nil))))
end
end Go.Proofs.YtffdidleebognaaGreatDoor

namespace Go.Proofs.YtffdidleebognaaGreatDoor
open Go Go.CE Go.Proofs Go.RowKit Lens
end Go.Proofs.YtffdidleebognaaGreatDoor

namespace Go.Proofs.YtffdidleebognaaGreatDoor
open Go Go.CE Go.Proofs Go.RowKit Lens
/-! ### The reference's bounds are the program's -/
/-! ### Contracts -/
section
variable {i : Isl} {wa : Option Addr} {wc mc : Nat} {ma : Option Addr} {tanks : Int} {w : World} {n : Nat}
theorem con_rIslet (hi : IslAt w w.heap.size i wa ma) : CJ Tryz.prog (worldLo w) 14 #[islR i wa wc ma mc] [] n (.bool (islB i)) [] n [] :=
  con_of (.cons (exact_isl _ _ _ _ _) .nil) (exact_af rfl) fun w' hw => rIslet_any i wa wc ma mc w' (islAt_lo hi hw)
theorem b_ret {f : FuncId} {len fuel n' : Nat} {sc : Script} {L : List Prop} {l l' : List Value} {v v0 : Value} (hx : ExL l l') (hv : Exact v v0)
    (hc : enterC Tryz.prog f l.toArray = some (entryC Tryz.prog f len l)) (e : ended (srun Tryz.prog goFns (worldLo w) fuel 0 (entryC Tryz.prog f len l) [] 0 sc 0 [] []) [] = some ⟨.ret v, [], n', L⟩) (hL : AllP L) :
    Calls Tryz.prog f l'.toArray w fun e' w' => e' = .returned v0 ∧ Below w.heap.size w w' :=
  ((GoE.refl under_nil).calls goFns_ok mixed_ok hc e hL (worldLo_has w) (VRl.vrs' hx.vrl)).mono fun _ _ ⟨v', _, he, hv', hb, _⟩ => ⟨by rw [he, hv.2 _ _ hv'], hb⟩
theorem exl_i : ExL [islR i wa wc ma mc] [islV i wa wc ma mc] := .cons (exact_isl _ _ _ _ _) .nil
end
end Go.Proofs.YtffdidleebognaaGreatDoor

namespace Go.Proofs.YtffdidleebognaaGreatDoor
open Go Go.CE Go.Proofs Go.RowKit Lens
end Go.Proofs.YtffdidleebognaaGreatDoor

namespace Go.Proofs.YtffdidleebognaaGreatDoor
open Go Go.CE Go.Proofs Go.RowKit Lens
section
variable {i : Isl} {wa : Option Addr} {wc mc : Nat} {ma : Option Addr} {tanks : Int} {w : World} {n : Nat}
theorem ex_ffN : Exact (.agg ffN) (.agg ffN) := exact_agg (.cons (exact_af rfl) (.cons (exact_af rfl) (.cons (exact_af rfl) (.cons (exact_af rfl) .nil))))
theorem con_rFaultFine (hi : IslAt w w.heap.size i wa ma) (h1 : islB i = true) (h2 : tanksB tanks = true) (h7 : i.nm ≤ 7) (hft : ftTo i tanks (2 ^ i.nm) = none) :
    CJ Tryz.prog (worldLo w) 27 #[islR i wa wc ma mc, .int .i64 tanks] [] n (.agg ffN) [] n [] :=
  con_of (v' := .agg ffN) exl_it ex_ffN fun _ hB => (rFault_any (islAt_lo hi hB) h1 h2 h7).mono fun _ _ ⟨⟨he, _⟩, hb⟩ => ⟨he hft, hb⟩
theorem con_rFaultBad (hi : IslAt w w.heap.size i wa ma) (h1 : islB i = true) (h2 : tanksB tanks = true) (h7 : i.nm ≤ 7) {b m : Nat} (hft : ftTo i tanks (2 ^ i.nm) = some (b, m)) :
    CJ Tryz.prog (worldLo w) 27 #[islR i wa wc ma mc, .int .i64 tanks] [] n (.agg (ffQ n i.nm m (wrongRule i (endsOf i tanks false (bitsDry i.nm b) m)) (wrongWell i (endsOf i tanks false (bitsDry i.nm b) m)))) [(n, .cells (rowA (boolE (bitsDry i.nm b)) i.nm) 4 (1, 1))] (n + 1) [] :=
  cj_row (boolE_af _ _) fun μ w' args' hB ha => by
    rw [exl_it.args ha]
    refine (rFault_any (islAt_lo hi hB) h1 h2 h7).mono fun e _ ⟨⟨_, he⟩, hb⟩ => ⟨?_, hb⟩
    obtain ⟨g, c, he, k1, k2, k3, k4, k5⟩ := he b m hft
    refine ⟨g, _, k1, k2, he, fun j v hv => ?_, fun μ' hμ => ?_⟩
    · have hj : j < i.nm := by
        have := (Array.getElem?_eq_some_iff.1 hv).1
        rwa [rowA_size (e := boolE (bitsDry i.nm b)) (z := 1) (fun _ => rfl), Nat.mul_one] at this
      have e : (rowA (boolE (bitsDry i.nm b)) i.nm)[j * 1 + 0]? = some (.bool (bitsDry i.nm b j)) := rowA_get (e := boolE (bitsDry i.nm b)) (z := 1) (fun _ => rfl) (by omega) i.nm j hj
      rw [Nat.mul_one, Nat.add_zero, hv] at e
      cases e
      exact k5 j hj
    · exact vr_aggl (.cons (.slice ⟨_, hμ, rfl, rfl⟩ k3 k4 fun h => absurd rfl h) (.cons (.int _ _) (.cons (.int _ _) (.cons (.int _ _) .nil))))
end
end Go.Proofs.YtffdidleebognaaGreatDoor

namespace Go.Proofs.YtffdidleebognaaGreatDoor
open Lens
theorem firstLow_none {i : Isl} {s : Seen} : ∀ n, firstLow i s n = none ↔ ∀ k, k < n → i.wells k ≤ s.lens
  | 0 => by simp [firstLow]
  | n + 1 => by
    have ih := firstLow_none (i := i) (s := s) n
    simp only [firstLow]
    constructor
    · intro h k hk
      split at h
      · cases h
      · rename_i h0
        split at h
        · cases h
        · rename_i h1
          rcases Nat.lt_or_ge k n with hlt | hge
          · exact ih.1 h0 k hlt
          · have : k = n := by omega
            subst this
            omega
    · intro h
      rw [ih.2 fun k hk => h k (by omega)]
      have := h n (by omega)
      simp only [show ¬ s.lens < i.wells n by omega, if_false]
theorem wrongRule_iff {i : Isl} {s : Seen} : wrongRule i s = 1 ↔ s.lack ≤ 0 ∧ ∀ k, k < i.nw → i.wells k ≤ s.lens := by
  rw [← firstLow_none]
  unfold wrongRule
  constructor
  · intro h
    split at h
    · omega
    · refine ⟨by omega, ?_⟩
      generalize firstLow i s i.nw = x at *
      cases x with
      | none => rfl
      | some k => simp at h
  · rintro ⟨h1, h2⟩
    rw [if_neg (by omega), h2]
theorem wrong_mono {i : Isl} {s s' : Seen} (h : wrongRule i s = 1) (h1 : s.lens ≤ s'.lens) (h2 : s'.lack ≤ s.lack) : wrongRule i s' = 1 := by
  rw [wrongRule_iff] at h ⊢
  exact ⟨by omega, fun k hk => Int.le_trans (h.2 k hk) h1⟩
end Go.Proofs.YtffdidleebognaaGreatDoor

namespace Go.Proofs.YtffdidleebognaaGreatDoor
open Lens
theorem min_mono2 {x x' f f' a a' : Int} (h : x ≤ x') (hf : f ≤ f') (e : (if x < f then x else f) = a) (e' : (if x' < f' then x' else f') = a') : a ≤ a' := by
  split at e <;> split at e' <;> omega
theorem step_mono2 {i : Isl} {tanks tanks' : Int} {t t' : Tru} (h : Fit i tanks t) (h' : Fit i tanks' t') (hT : i.size * tanks ≤ i.size * tanks') (hl : LessT i.nm t t') {k : Nat} (hk : k < i.nm) {s s' : St} (hs : StOk i (i.size * tanks) k s) (hs' : StOk i (i.size * tanks') k s') (ht : s.tanks ≤ s'.tanks) (hle : s.lens ≤ s'.lens) :
    Less (stepSt i (i.size * tanks) t k s) (stepSt i (i.size * tanks') t' k s') := by
  obtain ⟨r1, r2, a, b, g, T, M, U, p⟩ := parts h hk hs
  obtain ⟨r1', r2', a', b', g', T', M', U', p'⟩ := parts h' hk hs'
  have hr := hl.rains k hk
  have hn := hl.needs k hk
  have q0 := (h.rain k hk).1
  have q1 := (h'.rain k hk).1
  have x1 : r1 ≤ r1' := by
    rw [← p.e1, ← p'.e1]
    exact Int.ediv_le_ediv (by decide) (Int.mul_le_mul_of_nonneg_left hr h.roof0)
  have x2 : r2 ≤ r2' := by
    rw [← p.e2, ← p'.e2]
    exact Int.ediv_le_ediv (by decide) (Int.mul_le_mul (Int.mul_le_mul_of_nonneg_left hr h.sand0) hl.soak h.soak0 (Int.mul_nonneg h.sand0 q1))
  have ha : a ≤ a' := min_mono2 (by omega) hT p.ea p'.ea
  have hb : b ≤ b' := min_mono (by omega) p.eb p'.eb
  have hc : b - g ≤ b' - g' := by
    rw [← p.eg, ← p'.eg]
    exact leak_mono p.b0 hb h'.leak0 hl.leak h.leak1
  obtain ⟨y1, y2⟩ := take_mono ha hn p.eT p'.eT
  obtain ⟨z1, z2⟩ := pump_mono hc y2 (by have := p'.T1; omega) h.pump0 p.eM' p'.eM' p.eU p'.eU
  rw [p.out, p'.out]
  exact ⟨y1, z1, z2⟩
theorem run_mono2 {i : Isl} {tanks tanks' : Int} {t t' : Tru} (h : Fit i tanks t) (h' : Fit i tanks' t') (hT : i.size * tanks ≤ i.size * tanks') (hl : LessT i.nm t t') : ∀ k, k ≤ i.nm → Less (runTo i tanks t k) (runTo i tanks' t' k)
  | 0, _ => ⟨hT, hl.start, Int.le_refl _⟩
  | k + 1, hk => by
    have ih := run_mono2 h h' hT hl k (by omega)
    exact step_mono2 h h' hT hl (by omega) (runTo_ok h (by omega)) (runTo_ok h' (by omega)) ih.tanks ih.lens
theorem lessT_refl (n : Nat) (t : Tru) : LessT n t t := ⟨Int.le_refl _, Int.le_refl _, Int.le_refl _, fun _ _ => Int.le_refl _, fun _ _ => Int.le_refl _⟩
/-- Nothing can go wrong with a number of tanks. -/
def fine (i : Isl) (tanks : Int) : Bool := (ftTo i tanks (2 ^ i.nm)).isNone
theorem fine_iff {i : Isl} {tanks : Int} : fine i tanks = true ↔ ftTo i tanks (2 ^ i.nm) = none := by simp [fine]
theorem badTo_of {i : Isl} {tanks : Int} {d : Nat → Bool} : ∀ m, (∀ k, k < m → wrongRule i (endsOf i tanks false d k) = 1) → badTo i tanks d m = none
  | 0, _ => rfl
  | m + 1, h => by simp only [badTo, badTo_of m fun k hk => h k (by omega), h m (by omega), if_true]
theorem ftTo_of {i : Isl} {tanks : Int} : ∀ n, (∀ b, b < n → drB i.most i.row i.nm (bitsDry i.nm b) = true → badTo i tanks (bitsDry i.nm b) i.nm = none) → ftTo i tanks n = none
  | 0, _ => rfl
  | n + 1, h => by
    simp only [ftTo, ftTo_of n fun b hb => h b (by omega)]
    split
    · rename_i hd
      rw [h n (by omega) hd]; rfl
    · rfl
theorem fine_mono {i : Isl} {t t' : Int} (h1 : islB i = true) (h2 : tanksB t = true) (h3 : tanksB t' = true) (hle : t ≤ t') (h : fine i t = true) : fine i t' = true := by
  rw [fine_iff] at h ⊢
  refine ftTo_of _ fun b hb hd => badTo_of _ fun k hk => ?_
  have hb0 := (ftTo_none h b hb).2 hd
  have hw := (badTo_none hb0 k hk).1
  have hs : 0 ≤ i.size := by
    have h := h1
    simp only [islB, Bool.and_eq_true, isInB_iff] at h
    obtain ⟨⟨⟨⟨⟨_, h9⟩, _⟩, _⟩, _⟩, _⟩ := h
    omega
  have m := run_mono2 (fit_end h1 h2 false i.nm (bitsDry i.nm b)) (fit_end h1 h3 false i.nm (bitsDry i.nm b)) (Int.mul_le_mul_of_nonneg_left hle hs) (lessT_refl _ _) (k + 1) (by omega)
  exact wrong_mono hw m.lens m.lack
/-- The fewest tanks, as fewest finds them: 40 if there are none, too. -/
structure Few (i : Isl) (n : Int) : Prop where
  n0 : 0 ≤ n
  n1 : n ≤ 40
  low : ∀ t, 0 ≤ t → t < n → fine i t = false
  high : ∀ t, n ≤ t → t < 40 → fine i t = true
theorem tanksB_iff {t : Int} : tanksB t = true ↔ 0 ≤ t ∧ t ≤ 40 := by simp [tanksB, isInB_iff]
theorem few_ex {i : Isl} (h1 : islB i = true) : ∃ n, Few i n := by
  have : ∀ k : Nat, k ≤ 40 → (∀ t : Int, 0 ≤ t → t < k → fine i t = false) ∨ ∃ n, Few i n := by
    intro k
    induction k with
    | zero => intro _; exact .inl fun t h0 h1 => by omega
    | succ k ih =>
      intro hk
      rcases ih (by omega) with hlow | hex
      · cases hf : fine i (k : Int) with
        | true => exact .inr ⟨k, by omega, by omega, hlow, fun t ht0 ht1 => fine_mono h1 (tanksB_iff.2 (by omega)) (tanksB_iff.2 (by omega)) ht0 hf⟩
        | false =>
          refine .inl fun t h0 h1 => ?_
          rcases (show t < k ∨ t = k by omega) with h | rfl
          · exact hlow t h0 h
          · exact hf
      · exact .inr hex
  rcases this 40 (by omega) with h | h
  · exact ⟨40, by omega, by omega, fun t a b => h t a (by omega), fun t a b => by omega⟩
  · exact h
end Go.Proofs.YtffdidleebognaaGreatDoor

namespace Go.Proofs.YtffdidleebognaaGreatDoor
open Go Go.CE Go.Proofs Go.RowKit Lens
def foO (i : Isl) (W M : Value) (es : Array MapEntry) (clk : Nat) : List (Bool × Obj) :=
  [(false, .cells (islC i W M) 27 (0, 0)), (false, .map es clk), (true, .cells #[.map (some 1)] 104 (0, 0))]
def foL (lo hi : Int) : List (Nat × Value) := [(1, .pointer (some ⟨0, 0, none⟩)), (4, .pointer (some ⟨2, 0, none⟩)), (5, .func (.func 68) #[] #[.pointer (some ⟨2, 0, none⟩), .pointer (some ⟨0, 0, none⟩)]), (6, .int .i64 lo), (7, .int .i64 hi)]
def foT : List It := [.code [1, 1, 1, 1, 0, 0, 0], .inLoop [1, 1, 1, 1, 0, 0, 0], .inBlock 0, .code [1, 1, 1, 1, 1]]
set_option maxRecDepth 100000 in
theorem fs_has (B : Lo) (i : Isl) (W M : Value) (es : Array MapEntry) (clk : Nat) (tanks : Int) (y : Bool) : endedB (srun Tryz.prog goFns B 13 3 (entryC Tryz.prog 68 24 [.int .i64 tanks, .pointer (some ⟨2, 0, none⟩), .pointer (some ⟨0, 0, none⟩)]) (heapO 0 (foO i W M es clk)) 3
    [(3, Hint.look (Value.tuple #[Value.bool y, Value.bool true]))] 0 [] []) ((kz [0, 1, 2] (foO i W M es clk)).map (·.old)) = some (⟨.ret (rnV (rhoK (kz [0, 1, 2] (foO i W M es clk))) 3 (.bool y)), (kz [0, 1, 2] (foO i W M es clk)).map (fun kept_ => some (wasK (rhoK (kz [0, 1, 2] (foO i W M es clk))) kept_)), 3,
    [MapGet Tryz.prog 104 es true
  (tget { len := 16000, tr := Tri.set 14 (Tri.set 14 Tri.lf 9 (Value.int IntKind.i64 tanks)) 8 (Value.map (some 1)) } 9)
  (Value.tuple #[Value.bool y, Value.bool true])]⟩, []) := by kernel_rfl
set_option maxRecDepth 100000 in
theorem fs_fine (B : Lo) (i : Isl) (W M : Value) (es es' : Array MapEntry) (clk clk' : Nat) (tanks : Int) : endedB (srun Tryz.prog goFns B 15 3 (entryC Tryz.prog 68 24 [.int .i64 tanks, .pointer (some ⟨2, 0, none⟩), .pointer (some ⟨0, 0, none⟩)]) (heapO 0 (foO i W M es clk)) 3
    [(3, Hint.look (Value.tuple #[Value.bool false, Value.bool false])),
(13, Hint.call [] (Value.agg ffN) [] 3 []),
(20, Hint.upd es' clk')] 0 [] []) ((kz [0, 1, 2] (foO i W M es' clk')).map (·.old)) = some (⟨.ret (rnV (rhoK (kz [0, 1, 2] (foO i W M es' clk'))) 3 (.bool true)), (kz [0, 1, 2] (foO i W M es' clk')).map (fun kept_ => some (wasK (rhoK (kz [0, 1, 2] (foO i W M es' clk'))) kept_)), 3,
    [MapPut Tryz.prog 104 es clk
  (tget
    { len := 16000,
      tr :=
        Tri.set 14 (Tri.set 14 (Tri.set 14 Tri.lf 22 (Value.bool true)) 21 (Value.int IntKind.i64 tanks)) 20
          (Value.map (some 1)) }
    21)
  (tget
    { len := 16000,
      tr :=
        Tri.set 14 (Tri.set 14 (Tri.set 14 Tri.lf 22 (Value.bool true)) 21 (Value.int IntKind.i64 tanks)) 20
          (Value.map (some 1)) }
    22)
  es' clk',
CJ Tryz.prog B 47
  #[Value.agg
      #[Value.int IntKind.i64 (Isl.cap i), Value.int IntKind.i64 (Isl.sl i), Value.int IntKind.i64 (Isl.sh i),
        Value.int IntKind.i64 (Isl.roof i), Value.int IntKind.i64 (Isl.sand i), Value.int IntKind.i64 (Isl.kl i),
        Value.int IntKind.i64 (Isl.kh i), Value.int IntKind.i64 (Isl.ll i), Value.int IntKind.i64 (Isl.lh i),
        Value.int IntKind.i64 (Isl.pump i), Value.int IntKind.i64 (Isl.keep i), Value.int IntKind.i64 (Isl.size i), W,
        M, Value.int IntKind.i64 (Isl.most i), Value.int IntKind.i64 (Isl.row i)],
    Value.int IntKind.i64 tanks]
  [] 3 (Value.agg ffN) [] 3 [],
MapGet Tryz.prog 104 es true
  (tget { len := 16000, tr := Tri.set 14 (Tri.set 14 Tri.lf 9 (Value.int IntKind.i64 tanks)) 8 (Value.map (some 1)) } 9)
  (Value.tuple #[Value.bool false, Value.bool false])]⟩, [1]) := by kernel_rfl
set_option maxRecDepth 100000 in
theorem fs_bad (B : Lo) (i : Isl) (W M : Value) (es es' : Array MapEntry) (clk clk' : Nat) (tanks m r v : Int) (D : Array Value) : endedB (srun Tryz.prog goFns B 15 3 (entryC Tryz.prog 68 24 [.int .i64 tanks, .pointer (some ⟨2, 0, none⟩), .pointer (some ⟨0, 0, none⟩)]) (heapO 0 (foO i W M es clk)) 3
    [(3, Hint.look (Value.tuple #[Value.bool false, Value.bool false])),
(13, Hint.call [] (Value.agg (ffQ 3 (Isl.nm i) m r v)) [(3, Obj.cells D 4 (1, 1))] 4 []),
(15, Hint.val (Value.bool false)),
(20, Hint.upd es' clk')] 0 [] []) ((kz [0, 1, 2] (foO i W M es' clk')).map (·.old)) = some (⟨.ret (rnV (rhoK (kz [0, 1, 2] (foO i W M es' clk'))) 3 (.bool false)), (kz [0, 1, 2] (foO i W M es' clk')).map (fun kept_ => some (wasK (rhoK (kz [0, 1, 2] (foO i W M es' clk'))) kept_)), 4,
    [MapPut Tryz.prog 104 es clk
  (tget
    { len := 16000,
      tr :=
        Tri.set 14 (Tri.set 14 (Tri.set 14 Tri.lf 22 (Value.bool false)) 21 (Value.int IntKind.i64 tanks)) 20
          (Value.map (some 1)) }
    21)
  (tget
    { len := 16000,
      tr :=
        Tri.set 14 (Tri.set 14 (Tri.set 14 Tri.lf 22 (Value.bool false)) 21 (Value.int IntKind.i64 tanks)) 20
          (Value.map (some 1)) }
    22)
  es' clk',
eqq r 1 = false,
CJ Tryz.prog B 47
  #[Value.agg
      #[Value.int IntKind.i64 (Isl.cap i), Value.int IntKind.i64 (Isl.sl i), Value.int IntKind.i64 (Isl.sh i),
        Value.int IntKind.i64 (Isl.roof i), Value.int IntKind.i64 (Isl.sand i), Value.int IntKind.i64 (Isl.kl i),
        Value.int IntKind.i64 (Isl.kh i), Value.int IntKind.i64 (Isl.ll i), Value.int IntKind.i64 (Isl.lh i),
        Value.int IntKind.i64 (Isl.pump i), Value.int IntKind.i64 (Isl.keep i), Value.int IntKind.i64 (Isl.size i), W,
        M, Value.int IntKind.i64 (Isl.most i), Value.int IntKind.i64 (Isl.row i)],
    Value.int IntKind.i64 tanks]
  [] 3 (Value.agg (ffQ 3 (Isl.nm i) m r v)) [(3, Obj.cells D 4 (1, 1))] 4 [],
MapGet Tryz.prog 104 es true
  (tget { len := 16000, tr := Tri.set 14 (Tri.set 14 Tri.lf 9 (Value.int IntKind.i64 tanks)) 8 (Value.map (some 1)) } 9)
  (Value.tuple #[Value.bool false, Value.bool false])]⟩, [1]) := by kernel_rfl
set_option maxRecDepth 100000 in
theorem fo_entry (B : Lo) (i : Isl) (W M : Value) : landB (srun Tryz.prog goFns B 11 0 (entryC Tryz.prog 49 28 [.agg (islC i W M)]) (heapO 0 []) 0
    [] 0 [] []) ((foL 0 40).map (·.1)) ((kz [0, 1, 2] (foO i W M #[] 0)).map (·.old)) = some (⟨49, 28, foT.map (it (bodyOf Tryz.prog 49)), [], .run, none, (foL 0 40).map (fun p => rnV (rhoK (kz [0, 1, 2] (foO i W M #[] 0))) 3 p.2), (kz [0, 1, 2] (foO i W M #[] 0)).map (fun kept_ => some (wasK (rhoK (kz [0, 1, 2] (foO i W M #[] 0))) kept_)), 3,
    []⟩, []) := by kernel_rfl
set_option maxRecDepth 100000 in
theorem fo_yes (B : Lo) (i : Isl) (W M : Value) (es es' : Array MapEntry) (clk clk' : Nat) (lo hi mid : Int) (d : Nat → Value) : landB (srun Tryz.prog goFns B 14 0 (headC 49 28 (foL lo hi) d (foT.map (it (bodyOf Tryz.prog 49)))) (heapO 0 (foO i W M es clk)) ((foO i W M es clk)).length
    [(2, Hint.val (Value.bool true)),
(5, Hint.val (Value.int IntKind.i64 (lo + hi))),
(6, Hint.val (Value.int IntKind.i64 mid)),
(10, Hint.call [0, 1, 2] (Value.bool true) [(1, Obj.map es' clk')] 3 [1])] 0 [] []) ((foL lo mid).map (·.1)) ((kz [0, 1, 2] (foO i W M es' clk')).map (·.old)) = some (⟨49, 28, foT.map (it (bodyOf Tryz.prog 49)), [], .run, none, (foL lo mid).map (fun p => rnV (rhoK (kz [0, 1, 2] (foO i W M es' clk'))) 3 p.2), (kz [0, 1, 2] (foO i W M es' clk')).map (fun kept_ => some (wasK (rhoK (kz [0, 1, 2] (foO i W M es' clk'))) kept_)), 3,
    [CJ Tryz.prog B 68
  #[Value.int IntKind.i64 mid, Value.pointer (some { block := 2, off := 0 }),
    Value.pointer (some { block := 0, off := 0 })]
  [(0,
      some
        (Obj.cells
          #[Value.int IntKind.i64 (Isl.cap i), Value.int IntKind.i64 (Isl.sl i), Value.int IntKind.i64 (Isl.sh i),
            Value.int IntKind.i64 (Isl.roof i), Value.int IntKind.i64 (Isl.sand i), Value.int IntKind.i64 (Isl.kl i),
            Value.int IntKind.i64 (Isl.kh i), Value.int IntKind.i64 (Isl.ll i), Value.int IntKind.i64 (Isl.lh i),
            Value.int IntKind.i64 (Isl.pump i), Value.int IntKind.i64 (Isl.keep i), Value.int IntKind.i64 (Isl.size i),
            W, M, Value.int IntKind.i64 (Isl.most i), Value.int IntKind.i64 (Isl.row i)]
          27)),
    (1, some (Obj.map es clk)), (2, some (Obj.cells #[Value.map (some 1)] 104))]
  3 (Value.bool true) [(1, Obj.map es' clk')] 3 [1],
IntKind.wrap IntKind.i64 (Int.tdiv (lo + hi) 2) = mid,
wq (lo + hi) = lo + hi,
ltq lo hi = true]⟩, []) := by kernel_rfl
set_option maxRecDepth 100000 in
theorem fo_no (B : Lo) (i : Isl) (W M : Value) (es es' : Array MapEntry) (clk clk' : Nat) (lo hi mid : Int) (d : Nat → Value) : landB (srun Tryz.prog goFns B 14 0 (headC 49 28 (foL lo hi) d (foT.map (it (bodyOf Tryz.prog 49)))) (heapO 0 (foO i W M es clk)) ((foO i W M es clk)).length
    [(2, Hint.val (Value.bool true)),
(5, Hint.val (Value.int IntKind.i64 (lo + hi))),
(6, Hint.val (Value.int IntKind.i64 mid)),
(10, Hint.call [0, 1, 2] (Value.bool false) [(1, Obj.map es' clk')] 3 [1]),
(12, Hint.val (Value.int IntKind.i64 (mid + 1)))] 0 [] []) ((foL (mid + 1) hi).map (·.1)) ((kz [0, 1, 2] (foO i W M es' clk')).map (·.old)) = some (⟨49, 28, foT.map (it (bodyOf Tryz.prog 49)), [], .run, none, (foL (mid + 1) hi).map (fun p => rnV (rhoK (kz [0, 1, 2] (foO i W M es' clk'))) 3 p.2), (kz [0, 1, 2] (foO i W M es' clk')).map (fun kept_ => some (wasK (rhoK (kz [0, 1, 2] (foO i W M es' clk'))) kept_)), 3,
    [wq (mid + 1) = mid + 1,
CJ Tryz.prog B 68
  #[Value.int IntKind.i64 mid, Value.pointer (some { block := 2, off := 0 }),
    Value.pointer (some { block := 0, off := 0 })]
  [(0,
      some
        (Obj.cells
          #[Value.int IntKind.i64 (Isl.cap i), Value.int IntKind.i64 (Isl.sl i), Value.int IntKind.i64 (Isl.sh i),
            Value.int IntKind.i64 (Isl.roof i), Value.int IntKind.i64 (Isl.sand i), Value.int IntKind.i64 (Isl.kl i),
            Value.int IntKind.i64 (Isl.kh i), Value.int IntKind.i64 (Isl.ll i), Value.int IntKind.i64 (Isl.lh i),
            Value.int IntKind.i64 (Isl.pump i), Value.int IntKind.i64 (Isl.keep i), Value.int IntKind.i64 (Isl.size i),
            W, M, Value.int IntKind.i64 (Isl.most i), Value.int IntKind.i64 (Isl.row i)]
          27)),
    (1, some (Obj.map es clk)), (2, some (Obj.cells #[Value.map (some 1)] 104))]
  3 (Value.bool false) [(1, Obj.map es' clk')] 3 [1],
IntKind.wrap IntKind.i64 (Int.tdiv (lo + hi) 2) = mid,
wq (lo + hi) = lo + hi,
ltq lo hi = true]⟩, []) := by kernel_rfl
set_option maxRecDepth 100000 in
theorem fo_end (B : Lo) (i : Isl) (W M : Value) (es es' : Array MapEntry) (clk clk' : Nat) (lo hi : Int) (y : Bool) (d : Nat → Value) : ended (srun Tryz.prog goFns B 9 0 (headC 49 28 (foL lo hi) d (foT.map (it (bodyOf Tryz.prog 49)))) (heapO 0 (foO i W M es clk)) ((foO i W M es clk)).length
    [(2, Hint.val (Value.bool false)),
(6, Hint.call [0, 1, 2] (Value.bool y) [(1, Obj.map es' clk')] 3 [1])] 0 [] []) [] = some ⟨.ret (.tuple #[.int .i64 lo, .bool y]), [], 3,
    [CJ Tryz.prog B 68
  #[Value.int IntKind.i64 lo, Value.pointer (some { block := 2, off := 0 }),
    Value.pointer (some { block := 0, off := 0 })]
  [(0,
      some
        (Obj.cells
          #[Value.int IntKind.i64 (Isl.cap i), Value.int IntKind.i64 (Isl.sl i), Value.int IntKind.i64 (Isl.sh i),
            Value.int IntKind.i64 (Isl.roof i), Value.int IntKind.i64 (Isl.sand i), Value.int IntKind.i64 (Isl.kl i),
            Value.int IntKind.i64 (Isl.kh i), Value.int IntKind.i64 (Isl.ll i), Value.int IntKind.i64 (Isl.lh i),
            Value.int IntKind.i64 (Isl.pump i), Value.int IntKind.i64 (Isl.keep i), Value.int IntKind.i64 (Isl.size i),
            W, M, Value.int IntKind.i64 (Isl.most i), Value.int IntKind.i64 (Isl.row i)]
          27)),
    (1, some (Obj.map es clk)), (2, some (Obj.cells #[Value.map (some 1)] 104))]
  3 (Value.bool y) [(1, Obj.map es' clk')] 3 [1],
ltq lo hi = false]⟩ := by kernel_rfl
/-! ### A map of numbers to what is told of them -/
def ents (f : Int → Bool) : List Int → Array MapEntry
  | [] => #[]
  | t :: l => (ents f l).push ⟨.int .i64 t, .bool (f t), l.length⟩
theorem ents_loose {f : Int → Bool} : ∀ (l : List Int) (j : Nat) e, (ents f l)[j]? = some e → Loose e.val
  | [], j, e, h => by simp [ents] at h
  | t :: l, j, e, h => by
    simp only [ents, Array.getElem?_push] at h
    split at h
    · cases h; exact loose_bool _
    · exact ents_loose l j e h
theorem findNow_append {d : TypeDesc} {k : Value} : ∀ (a b : List MapEntry) (i : Nat), Instr.findNow d k (a ++ b) i = match Instr.findNow d k a i with | some none => Instr.findNow d k b (i + a.length) | r => r
  | [], b, i => by simp [Instr.findNow]
  | e :: a, b, i => by
    simp only [List.cons_append, Instr.findNow]
    cases hs : Instr.sameNow d k e.key with
    | none => rfl
    | some x =>
      cases x with
      | true => rfl
      | false =>
        simp only
        rw [findNow_append a b (i + 1), List.length_cons, show i + (a.length + 1) = i + 1 + a.length by omega]
theorem findNow_ents {f : Int → Bool} {t : Int} : ∀ (l : List Int), (t ∈ l → ∃ j, Instr.findNow (.int .i64) (.int .i64 t) (ents f l).toList 0 = some (some (j, .bool (f t)))) ∧ (t ∉ l → Instr.findNow (.int .i64) (.int .i64 t) (ents f l).toList 0 = some none)
  | [] => ⟨fun h => by simp at h, fun _ => by simp [ents, Instr.findNow]⟩
  | s :: l => by
    have ih := findNow_ents (f := f) (t := t) l
    have e : (ents f (s :: l)).toList = (ents f l).toList ++ [⟨.int .i64 s, .bool (f s), l.length⟩] := by simp [ents]
    rw [e, findNow_append]
    by_cases hl : t ∈ l
    · obtain ⟨j, hj⟩ := ih.1 hl
      rw [hj]
      exact ⟨fun _ => ⟨j, rfl⟩, fun h => absurd (List.mem_cons_of_mem _ hl) h⟩
    · rw [ih.2 hl]
      simp only [Instr.findNow, Instr.sameNow, if_true]
      by_cases hs : t = s
      · subst hs
        simp
      · have hb : (t == s) = false := by simpa using hs
        simp [hb, hs, hl]
section
variable {f : Int → Bool} {t : Int} {l : List Int} {b : Bool}
theorem check_int : pureRun Tryz.prog (Instr.checkKey b 10000 3 (.int .i64 t)) = some () := by kernel_rfl
theorem findKey_ents {r : Option (Nat × Value)} (h : Instr.findNow (.int .i64) (.int .i64 t) (ents f l).toList 0 = some r) : pureRun Tryz.prog (Instr.findKey 3 (.int .i64 t) (ents f l).toList) = some r := by
  have hu : pureRun Tryz.prog (underlying 3) = some (.int .i64) := by kernel_rfl
  unfold Instr.findKey
  rw [pureRun_bind, hu]
  simp only [h]
  exact pureRun_pure _
theorem und_map : und Tryz.prog 104 = some (.map 3 4) := by kernel_rfl
theorem get_has (h : t ∈ l) : MapGet Tryz.prog 104 (ents f l) true (.int .i64 t) (.tuple #[.bool (f t), .bool true]) := by
  intro H r clk hg
  obtain ⟨j, hj⟩ := (findNow_ents (f := f) l).1 h
  simp only [cLookup, und_map, hg, show af (.int .i64 t) = true from rfl, cond_true, check_int, findKey_ents hj]
theorem get_no (h : t ∉ l) : MapGet Tryz.prog 104 (ents f l) true (.int .i64 t) (.tuple #[.bool false, .bool false]) := by
  intro H r clk hg
  have hj := (findNow_ents (f := f) l).2 h
  have hz : zeroOf Tryz.prog 4 = some (.bool false) := by kernel_rfl
  simp only [cLookup, und_map, hg, show af (.int .i64 t) = true from rfl, cond_true, check_int, findKey_ents hj, hz, show af (.bool false) = true from rfl]
theorem put_no (h : t ∉ l) : MapPut Tryz.prog 104 (ents f l) l.length (.int .i64 t) (.bool (f t)) (ents f (t :: l)) (t :: l).length := by
  intro H r hg
  have hj := (findNow_ents (f := f) l).2 h
  simp only [cMapUpdate, und_map, hg, show af (.int .i64 t) = true from rfl, cond_true, check_int, findKey_ents hj]
  rfl
end
section
variable {i : Isl} {wa : Option Addr} {wc mc : Nat} {ma : Option Addr} {tanks : Int} {w : World} {l : List Int}
abbrev foS (i : Isl) (wa : Option Addr) (wc : Nat) (ma : Option Addr) (mc : Nat) (l : List Int) : List (Bool × Obj) := foO i (rawS wa i.nw wc) (rawS ma i.nm mc) (ents (fine i) l) l.length
theorem fo_ok {a n : Nat} (h : okO n (.cells #[.map (some 1)] 104 (0, 0)) = true) : OkB a n (foS i wa wc ma mc l) :=
  ⟨.inr ⟨rfl, .inl (loose_isl i wa wc ma mc)⟩, .inr ⟨rfl, .inr fun j e he => ents_loose l j e he⟩, .inl ⟨rfl, h⟩, trivial⟩
theorem fo_fix {n : Nat} (h : 3 ≤ n) : ∀ b ∈ foS i wa wc ma mc l, FixO n b.2 := fun b hb => by
  simp only [foS, foO, List.mem_cons, List.not_mem_nil, or_false] at hb
  rcases hb with rfl | rfl | rfl
  · exact fix_loose (loose_isl i wa wc ma mc)
  · exact fun j e he => ents_loose l j e he
  · intro v hv
    simp only [List.mem_toArray, List.mem_cons, List.not_mem_nil, or_false] at hv
    rw [hv]; exact .inr (okV_mono h 3 _ (by kernel_rfl))
theorem fo_writable : Writable (heapO 0 (foS i wa wc ma mc l)) 3 [1] := fun j _ hj => by
  simp only [List.mem_cons, List.not_mem_nil, or_false] at hj
  subst hj
  exact .inr (.inr ⟨_, _, rfl⟩)
theorem fo_same {l' : List Int} : ∀ j, j < 3 → j ∉ [1] → hget (heapO 0 (foS i wa wc ma mc l')) j = hget (heapO 0 (foS i wa wc ma mc l)) j := fun j hj hn => by
  have : j = 0 ∨ j = 1 ∨ j = 2 := by omega
  rcases this with rfl | rfl | rfl
  · rfl
  · exact absurd (by decide) hn
  · rfl
abbrev fsA (tanks : Int) : Array Value := #[.int .i64 tanks, .pointer (some ⟨2, 0, none⟩), .pointer (some ⟨0, 0, none⟩)]
/-- What a call of suffice leaves in the map. -/
def asks (t : Int) (l : List Int) : List Int := if t ∈ l then l else t :: l
set_option maxRecDepth 100000 in
theorem fs_std (hi : IslAt w w.heap.size i wa ma) (h1 : islB i = true) (h2 : tanksB tanks = true) :
    StdJ Tryz.prog (worldLo w) 68 (fsA tanks) (heapO 0 (foS i wa wc ma mc l)) 3 (.bool (fine i tanks)) (heapO 0 (foS i wa wc ma mc (asks tanks l))) 3 [1] := by
  have hg := (GoE.refl (P := Tryz.prog) (B := worldLo w) (c0 := entryC Tryz.prog 68 24 [.int .i64 tanks, .pointer (some ⟨2, 0, none⟩), .pointer (some ⟨0, 0, none⟩)]) (under_heapO (foS i wa wc ma mc l) (Nat.le_refl 3))).widen (Wf := [1]) (fun _ _ h => by simp at h) fo_writable
  by_cases hm : tanks ∈ l
  · have e : asks tanks l = l := if_pos hm
    rw [e]
    exact hg.std goFns_ok mixed_ok (by kernel_rfl) fo_writable (os := foS i wa wc ma mc l)
      (fs_has (worldLo w) i (rawS wa i.nw wc) (rawS ma i.nm mc) (ents (fine i) l) l.length tanks (fine i tanks)) ⟨get_has hm, trivial⟩
      (by kernel_rfl) (by kernel_rfl) (by kernel_rfl) (by kernel_rfl) (by kernel_rfl) (by kernel_rfl) (by kernel_rfl) (by kernel_rfl) (fo_ok (by kernel_rfl)) (fun _ _ _ => rfl)
  · have e : asks tanks l = tanks :: l := if_neg hm
    rw [e]
    have hput := put_no (f := fine i) hm
    cases hft : ftTo i tanks (2 ^ i.nm) with
    | none =>
      have hf : fine i tanks = true := fine_iff.2 hft
      rw [hf] at hput ⊢
      exact hg.std goFns_ok mixed_ok (by kernel_rfl) fo_writable (os := foS i wa wc ma mc (tanks :: l))
        (fs_fine (worldLo w) i (rawS wa i.nw wc) (rawS ma i.nm mc) (ents (fine i) l) (ents (fine i) (tanks :: l)) l.length (tanks :: l).length tanks) ⟨hput, con_firstFine hi h1 h2 hft, get_no hm, trivial⟩
        (by kernel_rfl) (by kernel_rfl) (by kernel_rfl) (by kernel_rfl) (by kernel_rfl) (by kernel_rfl) (by kernel_rfl) (by kernel_rfl) (fo_ok (by kernel_rfl)) fo_same
    | some x =>
      obtain ⟨b, m⟩ := x
      have hf : fine i tanks = false := by simp [fine, hft]
      rw [hf] at hput ⊢
      obtain ⟨_, _, _, hb⟩ := ftTo_some hft
      obtain ⟨_, hr, _⟩ := badTo_some hb
      exact hg.std goFns_ok mixed_ok (by kernel_rfl) fo_writable (os := foS i wa wc ma mc (tanks :: l))
        (fs_bad (worldLo w) i (rawS wa i.nw wc) (rawS ma i.nm mc) (ents (fine i) l) (ents (fine i) (tanks :: l)) l.length (tanks :: l).length tanks m (wrongRule i (endsOf i tanks false (bitsDry i.nm b) m)) (wrongWell i (endsOf i tanks false (bitsDry i.nm b) m)) (rowA (boolE (bitsDry i.nm b)) i.nm))
        ⟨hput, eqq_f hr, con_firstBad hi h1 h2 hft, get_no hm, trivial⟩
        (by kernel_rfl) (by kernel_rfl) (by kernel_rfl) (by kernel_rfl) (by kernel_rfl) (by kernel_rfl) (by kernel_rfl) (by kernel_rfl) (fo_ok (by kernel_rfl)) fo_same
theorem fs_con (hi : IslAt w w.heap.size i wa ma) (h1 : islB i = true) (h2 : tanksB tanks = true) :
    CJ Tryz.prog (worldLo w) 68 (fsA tanks) [(0, some (.cells (islC i (rawS wa i.nw wc) (rawS ma i.nm mc)) 27 (0, 0))), (1, some (.map (ents (fine i) l) l.length)), (2, some (.cells #[.map (some 1)] 104 (0, 0)))] 3 (.bool (fine i tanks)) [(1, .map (ents (fine i) (asks tanks l)) (asks tanks l).length)] 3 [1] :=
  StdJ.all (os := foS i wa wc ma mc l) (os' := foS i wa wc ma mc (asks tanks l)) (fs_std hi h1 h2) (by kernel_rfl) (by kernel_rfl) (fo_fix (Nat.le_refl 3)) (fo_fix (Nat.le_refl 3)) rfl (by kernel_rfl) (by kernel_rfl) rfl (by kernel_rfl) (by kernel_rfl)
/-- fewest: the fewest tanks, or 40, and whether they suffice. -/
theorem fewest_any {n : Int} (hi : IslAt w w.heap.size i wa ma) (h1 : islB i = true) (hn : Few i n) :
    Calls Tryz.prog 49 #[islV i wa wc ma mc] w fun e' w' => e' = .returned (.tuple #[.int .i64 n, .bool (fine i n)]) ∧ Below w.heap.size w w' := by
  let c0 := entryC Tryz.prog 49 28 [islR i wa wc ma mc]
  let at' : Int → Int → List Int → Prop := fun lo hi' l => ∃ d : Nat → Value, (∀ t, Loose (d t)) ∧ GoE Tryz.prog (worldLo w) c0 (heapO 0 []) 0
    (headC 49 28 (foL lo hi') d (foT.map (it (bodyOf Tryz.prog 49)))) (heapO 0 (foS i wa wc ma mc l)) 3 []
  have ok : ∀ l, OkB 0 3 (foS i wa wc ma mc l) := fun l => fo_ok (by kernel_rfl)
  have s0 : at' 0 40 [] := (GoE.refl (P := Tryz.prog) (B := worldLo w) (c0 := c0) (under_heapO [] (Nat.le_refl 0))).headB goFns_ok mixed_ok (writable_nil _ _)
    (fo_entry (worldLo w) i (rawS wa i.nw wc) (rawS ma i.nm mc)) trivial
    (by kernel_rfl) (by kernel_rfl) (by kernel_rfl) (by kernel_rfl) (by kernel_rfl) (by kernel_rfl) (by kernel_rfl) (by kernel_rfl) (by kernel_rfl) (by kernel_rfl) (ok []) (fun j hj _ => by omega)
  have run : ∀ (k : Nat) (lo hi' : Int) (l : List Int), hi' - lo ≤ k → 0 ≤ lo → lo ≤ hi' → hi' ≤ 40 → lo ≤ n → n ≤ hi' → at' lo hi' l → ∃ l', at' n n l' := by
    intro k
    induction k with
    | zero =>
      intro lo hi' l h a b c d e hat
      have e1 : lo = n := by omega
      have e2 : hi' = n := by omega
      rw [e1, e2] at hat
      exact ⟨l, hat⟩
    | succ k ih =>
      intro lo hi' l h a b c d e hat
      by_cases hlt : lo < hi'
      · obtain ⟨d', _, hg⟩ := hat
        have hmid : IntKind.wrap IntKind.i64 (Int.tdiv (lo + hi') 2) = (lo + hi') / 2 := quo_in (by omega) (by decide) rfl (by omega)
        have hq : tanksB ((lo + hi') / 2) = true := tanksB_iff.2 (by omega)
        cases hf : fine i ((lo + hi') / 2) with
        | true =>
          refine ih lo ((lo + hi') / 2) (asks ((lo + hi') / 2) l) (by omega) (by omega) (by omega) (by omega) (by omega) ?_ ?_
          · refine Int.not_lt.1 fun hc => ?_
            have := hn.low _ (by omega) hc
            rw [hf] at this; cases this
          · exact hg.headB goFns_ok mixed_ok (writable_nil _ _)
              (fo_yes (worldLo w) i (rawS wa i.nw wc) (rawS ma i.nm mc) (ents (fine i) l) (ents (fine i) (asks ((lo + hi') / 2) l)) l.length (asks ((lo + hi') / 2) l).length lo hi' ((lo + hi') / 2) d')
              ⟨hf ▸ fs_con hi h1 hq, hmid, wq_in (by omega) (by omega), ltq_t hlt, trivial⟩
              (by kernel_rfl) (by kernel_rfl) (by kernel_rfl) (by kernel_rfl) (by kernel_rfl) (by kernel_rfl) (by kernel_rfl) (by kernel_rfl) (by kernel_rfl) (by kernel_rfl) (ok _) (fun j hj _ => by omega)
        | false =>
          refine ih ((lo + hi') / 2 + 1) hi' (asks ((lo + hi') / 2) l) (by omega) (by omega) (by omega) (by omega) ?_ e ?_
          · refine Int.not_lt.1 fun hc => ?_
            have := hn.high ((lo + hi') / 2) (by omega) (by omega)
            rw [hf] at this; cases this
          · exact hg.headB goFns_ok mixed_ok (writable_nil _ _)
              (fo_no (worldLo w) i (rawS wa i.nw wc) (rawS ma i.nm mc) (ents (fine i) l) (ents (fine i) (asks ((lo + hi') / 2) l)) l.length (asks ((lo + hi') / 2) l).length lo hi' ((lo + hi') / 2) d')
              ⟨wq_in (by omega) (by omega), hf ▸ fs_con hi h1 hq, hmid, wq_in (by omega) (by omega), ltq_t hlt, trivial⟩
              (by kernel_rfl) (by kernel_rfl) (by kernel_rfl) (by kernel_rfl) (by kernel_rfl) (by kernel_rfl) (by kernel_rfl) (by kernel_rfl) (by kernel_rfl) (by kernel_rfl) (ok _) (fun j hj _ => by omega)
      · have e1 : lo = n := by omega
        have e2 : hi' = n := by omega
        rw [e1, e2] at hat
        exact ⟨l, hat⟩
  have n0 := hn.n0
  have n1 := hn.n1
  obtain ⟨l, d, _, hg⟩ := run 40 0 40 [] (by omega) (by omega) (by omega) (by omega) n0 n1 s0
  exact (hg.calls goFns_ok mixed_ok (f := 49) (args := #[islR i wa wc ma mc]) (args' := #[islV i wa wc ma mc]) (by kernel_rfl)
    (fo_end (worldLo w) i (rawS wa i.nw wc) (rawS ma i.nm mc) (ents (fine i) l) (ents (fine i) (asks n l)) l.length (asks n l).length n n (fine i n) d) ⟨fs_con hi h1 (tanksB_iff.2 ⟨n0, n1⟩), ltq_f (Int.le_refl _), trivial⟩ (worldLo_has w)
    (VRl.vrs' (.cons (vr_isl i wa wc ma mc) .nil))).mono fun _ _ ⟨v', _, he, hv, hb, _⟩ => ⟨by rw [he, af_eq (by kernel_rfl) hv], hb⟩
end
end Go.Proofs.YtffdidleebognaaGreatDoor

namespace Go.Proofs.YtffdidleebognaaGreatDoor
open Go Go.CE Go.Proofs Go.RowKit Lens
set_option maxRecDepth 100000 in
theorem fx_no (B : Lo) (i : Isl) (W M : Value) : ended (srun Tryz.prog goFns B 10 0 (entryC Tryz.prog 31 17 [.agg (islC i W M)]) [] 0
    [(4, Hint.call [] (Value.bool false) [] 1 [])] 0 [] []) [] = some ⟨.ret (.tuple #[.int .i64 0, .int .i64 2]), [], 1,
    [CJ Tryz.prog B 36
  #[Value.agg
      #[Value.int IntKind.i64 (Isl.cap i), Value.int IntKind.i64 (Isl.sl i), Value.int IntKind.i64 (Isl.sh i),
        Value.int IntKind.i64 (Isl.roof i), Value.int IntKind.i64 (Isl.sand i), Value.int IntKind.i64 (Isl.kl i),
        Value.int IntKind.i64 (Isl.kh i), Value.int IntKind.i64 (Isl.ll i), Value.int IntKind.i64 (Isl.lh i),
        Value.int IntKind.i64 (Isl.pump i), Value.int IntKind.i64 (Isl.keep i), Value.int IntKind.i64 (Isl.size i), W,
        M, Value.int IntKind.i64 (Isl.most i), Value.int IntKind.i64 (Isl.row i)]]
  [] 1 (Value.bool false) [] 1 []]⟩ := by kernel_rfl
set_option maxRecDepth 100000 in
theorem fx_none (B : Lo) (i : Isl) (W M : Value) (n : Int) : ended (srun Tryz.prog goFns B 17 0 (entryC Tryz.prog 31 17 [.agg (islC i W M)]) [] 0
    [(4, Hint.call [] (Value.bool true) [] 1 []),
(7, Hint.call [] (Value.tuple #[Value.int IntKind.i64 n, Value.bool false]) [] 1 [])] 0 [] []) [] = some ⟨.ret (.tuple #[.int .i64 0, .int .i64 5]), [], 1,
    [CJ Tryz.prog B 49
  #[Value.agg
      #[Value.int IntKind.i64 (Isl.cap i), Value.int IntKind.i64 (Isl.sl i), Value.int IntKind.i64 (Isl.sh i),
        Value.int IntKind.i64 (Isl.roof i), Value.int IntKind.i64 (Isl.sand i), Value.int IntKind.i64 (Isl.kl i),
        Value.int IntKind.i64 (Isl.kh i), Value.int IntKind.i64 (Isl.ll i), Value.int IntKind.i64 (Isl.lh i),
        Value.int IntKind.i64 (Isl.pump i), Value.int IntKind.i64 (Isl.keep i), Value.int IntKind.i64 (Isl.size i), W,
        M, Value.int IntKind.i64 (Isl.most i), Value.int IntKind.i64 (Isl.row i)]]
  [] 1 (Value.tuple #[Value.int IntKind.i64 n, Value.bool false]) [] 1 [],
CJ Tryz.prog B 36
  #[Value.agg
      #[Value.int IntKind.i64 (Isl.cap i), Value.int IntKind.i64 (Isl.sl i), Value.int IntKind.i64 (Isl.sh i),
        Value.int IntKind.i64 (Isl.roof i), Value.int IntKind.i64 (Isl.sand i), Value.int IntKind.i64 (Isl.kl i),
        Value.int IntKind.i64 (Isl.kh i), Value.int IntKind.i64 (Isl.ll i), Value.int IntKind.i64 (Isl.lh i),
        Value.int IntKind.i64 (Isl.pump i), Value.int IntKind.i64 (Isl.keep i), Value.int IntKind.i64 (Isl.size i), W,
        M, Value.int IntKind.i64 (Isl.most i), Value.int IntKind.i64 (Isl.row i)]]
  [] 1 (Value.bool true) [] 1 []]⟩ := by kernel_rfl
set_option maxRecDepth 100000 in
theorem fx_fine (B : Lo) (i : Isl) (W M : Value) (n : Int) : ended (srun Tryz.prog goFns B 18 0 (entryC Tryz.prog 31 17 [.agg (islC i W M)]) [] 0
    [(4, Hint.call [] (Value.bool true) [] 1 []),
(7, Hint.call [] (Value.tuple #[Value.int IntKind.i64 n, Value.bool true]) [] 1 [])] 0 [] []) [] = some ⟨.ret (.tuple #[.int .i64 n, .int .i64 0]), [], 1,
    [CJ Tryz.prog B 49
  #[Value.agg
      #[Value.int IntKind.i64 (Isl.cap i), Value.int IntKind.i64 (Isl.sl i), Value.int IntKind.i64 (Isl.sh i),
        Value.int IntKind.i64 (Isl.roof i), Value.int IntKind.i64 (Isl.sand i), Value.int IntKind.i64 (Isl.kl i),
        Value.int IntKind.i64 (Isl.kh i), Value.int IntKind.i64 (Isl.ll i), Value.int IntKind.i64 (Isl.lh i),
        Value.int IntKind.i64 (Isl.pump i), Value.int IntKind.i64 (Isl.keep i), Value.int IntKind.i64 (Isl.size i), W,
        M, Value.int IntKind.i64 (Isl.most i), Value.int IntKind.i64 (Isl.row i)]]
  [] 1 (Value.tuple #[Value.int IntKind.i64 n, Value.bool true]) [] 1 [],
CJ Tryz.prog B 36
  #[Value.agg
      #[Value.int IntKind.i64 (Isl.cap i), Value.int IntKind.i64 (Isl.sl i), Value.int IntKind.i64 (Isl.sh i),
        Value.int IntKind.i64 (Isl.roof i), Value.int IntKind.i64 (Isl.sand i), Value.int IntKind.i64 (Isl.kl i),
        Value.int IntKind.i64 (Isl.kh i), Value.int IntKind.i64 (Isl.ll i), Value.int IntKind.i64 (Isl.lh i),
        Value.int IntKind.i64 (Isl.pump i), Value.int IntKind.i64 (Isl.keep i), Value.int IntKind.i64 (Isl.size i), W,
        M, Value.int IntKind.i64 (Isl.most i), Value.int IntKind.i64 (Isl.row i)]]
  [] 1 (Value.bool true) [] 1 []]⟩ := by kernel_rfl
section
variable {i : Isl} {wa : Option Addr} {wc mc : Nat} {ma : Option Addr} {w : World} {n : Int} {q : Nat}
theorem con_fewest (hi : IslAt w w.heap.size i wa ma) (h1 : islB i = true) (hn : Few i n) : CJ Tryz.prog (worldLo w) 49 #[islR i wa wc ma mc] [] q (.tuple #[.int .i64 n, .bool (fine i n)]) [] q [] :=
  con_of (.cons (exact_isl _ _ _ _ _) .nil) (exact_af (by kernel_rfl)) fun _ hw => fewest_any (islAt_lo hi hw) h1 hn
theorem fx_ret {a b : Int} {fuel n' : _} {sc : Script} {L : List Prop} (e : ended (srun Tryz.prog goFns (worldLo w) fuel 0 (entryC Tryz.prog 31 17 [islR i wa wc ma mc]) [] 0 sc 0 [] []) [] = some ⟨.ret (.tuple #[.int .i64 a, .int .i64 b]), [], n', L⟩) (hL : AllP L) :
    Calls Tryz.prog 31 #[islV i wa wc ma mc] w fun e' w' => e' = .returned (.tuple #[.int .i64 a, .int .i64 b]) ∧ Below w.heap.size w w' :=
  ((GoE.refl under_nil).calls goFns_ok mixed_ok (f := 31) (args := #[islR i wa wc ma mc]) (args' := #[islV i wa wc ma mc]) (by kernel_rfl) e hL (worldLo_has w) (VRl.vrs' (.cons (vr_isl i wa wc ma mc) .nil))).mono fun _ _ ⟨v', _, he, hv, hb, _⟩ => ⟨by rw [he, af_eq (by kernel_rfl) hv], hb⟩
theorem Fewest_fine (hi : IslAt w w.heap.size i wa ma) (h1 : islB i = true) (hn : Few i n) (hf : fine i n = true) : Calls Tryz.prog 31 #[islV i wa wc ma mc] w fun e' w' => e' = .returned (.tuple #[.int .i64 n, .int .i64 0]) ∧ Below w.heap.size w w' :=
  fx_ret (fx_fine (worldLo w) i (rawS wa i.nw wc) (rawS ma i.nm mc) n) ⟨hf ▸ con_fewest hi h1 hn, h1 ▸ con_isIslet hi, trivial⟩
theorem Fewest_none (hi : IslAt w w.heap.size i wa ma) (h1 : islB i = true) (hn : Few i n) (hf : fine i n = false) : Calls Tryz.prog 31 #[islV i wa wc ma mc] w fun e' w' => e' = .returned (.tuple #[.int .i64 0, .int .i64 5]) ∧ Below w.heap.size w w' :=
  fx_ret (fx_none (worldLo w) i (rawS wa i.nw wc) (rawS ma i.nm mc) n) ⟨hf ▸ con_fewest hi h1 hn, h1 ▸ con_isIslet hi, trivial⟩
theorem Fewest_no (hi : IslAt w w.heap.size i wa ma) (h1 : islB i = false) : Calls Tryz.prog 31 #[islV i wa wc ma mc] w fun e' w' => e' = .returned (.tuple #[.int .i64 0, .int .i64 2]) ∧ Below w.heap.size w w' :=
  fx_ret (fx_no (worldLo w) i (rawS wa i.nw wc) (rawS ma i.nm mc)) ⟨h1 ▸ con_isIslet hi, trivial⟩
theorem con_FewestFine (hi : IslAt w w.heap.size i wa ma) (h1 : islB i = true) (hn : Few i n) (hf : fine i n = true) : CJ Tryz.prog (worldLo w) 31 #[islR i wa wc ma mc] [] q (.tuple #[.int .i64 n, .int .i64 0]) [] q [] :=
  con_of (.cons (exact_isl _ _ _ _ _) .nil) (exact_af (by kernel_rfl)) fun _ hw => Fewest_fine (islAt_lo hi hw) h1 hn hf
theorem con_FewestNone (hi : IslAt w w.heap.size i wa ma) (h1 : islB i = true) (hn : Few i n) (hf : fine i n = false) : CJ Tryz.prog (worldLo w) 31 #[islR i wa wc ma mc] [] q (.tuple #[.int .i64 0, .int .i64 5]) [] q [] :=
  con_of (.cons (exact_isl _ _ _ _ _) .nil) (exact_af (by kernel_rfl)) fun _ hw => Fewest_none (islAt_lo hi hw) h1 hn hf
theorem con_FewestNo (hi : IslAt w w.heap.size i wa ma) (h1 : islB i = false) : CJ Tryz.prog (worldLo w) 31 #[islR i wa wc ma mc] [] q (.tuple #[.int .i64 0, .int .i64 2]) [] q [] :=
  con_of (.cons (exact_isl _ _ _ _ _) .nil) (exact_af (by kernel_rfl)) fun _ hw => Fewest_no (islAt_lo hi hw) h1
end
end Go.Proofs.YtffdidleebognaaGreatDoor

namespace Go.Proofs.YtffdidleebognaaGreatDoor
open Go Go.CE Go.Proofs Go.RowKit Lens
def rwL (k : Nat) : List (Nat × Value) := [(1, .pointer (some ⟨0, 0, none⟩)), (3, .int .i64 k)]
def rwT : List It := [.code [1, 0, 1, 0, 0], .inLoop [1, 0, 1, 0, 0], .inBlock 0, .code [1, 1]]
set_option maxRecDepth 100000 in
theorem rw_entry (B : Lo) (i : Isl) (W M : Value) : land (srun Tryz.prog goFns B 7 0 (entryC Tryz.prog 32 14 [.agg (islC i W M)]) [] 0
    [] 0 [] []) ((rwL 0).map (·.1)) ((kz [0] [(false, Obj.cells (islC i W M) 27 (0, 0))]).map (·.old)) = some ⟨32, 14, rwT.map (it (bodyOf Tryz.prog 32)), [], .run, none, (rwL 0).map (fun p => rnV (rhoK (kz [0] [(false, Obj.cells (islC i W M) 27 (0, 0))])) 3 p.2), (kz [0] [(false, Obj.cells (islC i W M) 27 (0, 0))]).map (fun kept_ => some (wasK (rhoK (kz [0] [(false, Obj.cells (islC i W M) 27 (0, 0))])) kept_)), 1,
    []⟩ := by kernel_rfl
set_option maxRecDepth 100000 in
theorem rw_bad (B : Lo) (i : Isl) (W M : Value) (k : Nat) (m r v : Int) (D : Array Value) (d : Nat → Value) : land (srun Tryz.prog goFns B 14 0 (headC 32 14 (rwL k) d (rwT.map (it (bodyOf Tryz.prog 32)))) (heapO 0 [(false, Obj.cells (islC i W M) 27 (0, 0))]) ([(false, Obj.cells (islC i W M) 27 (0, 0))]).length
    [(1, Hint.val (Value.bool true)),
(4, Hint.call [] (Value.agg (ffQ 1 (Isl.nm i) m r v)) [(1, Obj.cells D 4 (1, 1))] 2 []),
(6, Hint.val (Value.bool false)),
(8, Hint.val (Value.int IntKind.i64 ((↑k : Int) + 1)))] 0 [] []) ((rwL (k + 1)).map (·.1)) ((kz [0] [(false, Obj.cells (islC i W M) 27 (0, 0))]).map (·.old)) = some ⟨32, 14, rwT.map (it (bodyOf Tryz.prog 32)), [], .run, none, (rwL (k + 1)).map (fun p => rnV (rhoK (kz [0] [(false, Obj.cells (islC i W M) 27 (0, 0))])) 3 p.2), (kz [0] [(false, Obj.cells (islC i W M) 27 (0, 0))]).map (fun kept_ => some (wasK (rhoK (kz [0] [(false, Obj.cells (islC i W M) 27 (0, 0))])) kept_)), 2,
    [wq ((↑k : Int) + 1) = (↑k : Int) + 1,
eqq r 1 = false,
CJ Tryz.prog B 27
  #[Value.agg
      #[Value.int IntKind.i64 (Isl.cap i), Value.int IntKind.i64 (Isl.sl i), Value.int IntKind.i64 (Isl.sh i),
        Value.int IntKind.i64 (Isl.roof i), Value.int IntKind.i64 (Isl.sand i), Value.int IntKind.i64 (Isl.kl i),
        Value.int IntKind.i64 (Isl.kh i), Value.int IntKind.i64 (Isl.ll i), Value.int IntKind.i64 (Isl.lh i),
        Value.int IntKind.i64 (Isl.pump i), Value.int IntKind.i64 (Isl.keep i), Value.int IntKind.i64 (Isl.size i), W,
        M, Value.int IntKind.i64 (Isl.most i), Value.int IntKind.i64 (Isl.row i)],
    Value.int IntKind.i64 (↑k : Int)]
  [] 1 (Value.agg (ffQ 1 (Isl.nm i) m r v)) [(1, Obj.cells D 4 (1, 1))] 2 [],
(!ltq 40 (↑k : Int)) = true]⟩ := by kernel_rfl
set_option maxRecDepth 100000 in
theorem rw_fine (B : Lo) (i : Isl) (W M : Value) (k : Nat) (d : Nat → Value) : ended (srun Tryz.prog goFns B 14 0 (headC 32 14 (rwL k) d (rwT.map (it (bodyOf Tryz.prog 32)))) (heapO 0 [(false, Obj.cells (islC i W M) 27 (0, 0))]) ([(false, Obj.cells (islC i W M) 27 (0, 0))]).length
    [(1, Hint.val (Value.bool true)),
(4, Hint.call [] (Value.agg ffN) [] 1 [])] 0 [] []) [] = some ⟨.ret (.int .i64 k), [], 1,
    [CJ Tryz.prog B 27
  #[Value.agg
      #[Value.int IntKind.i64 (Isl.cap i), Value.int IntKind.i64 (Isl.sl i), Value.int IntKind.i64 (Isl.sh i),
        Value.int IntKind.i64 (Isl.roof i), Value.int IntKind.i64 (Isl.sand i), Value.int IntKind.i64 (Isl.kl i),
        Value.int IntKind.i64 (Isl.kh i), Value.int IntKind.i64 (Isl.ll i), Value.int IntKind.i64 (Isl.lh i),
        Value.int IntKind.i64 (Isl.pump i), Value.int IntKind.i64 (Isl.keep i), Value.int IntKind.i64 (Isl.size i), W,
        M, Value.int IntKind.i64 (Isl.most i), Value.int IntKind.i64 (Isl.row i)],
    Value.int IntKind.i64 (↑k : Int)]
  [] 1 (Value.agg ffN) [] 1 [],
(!ltq 40 (↑k : Int)) = true]⟩ := by kernel_rfl
set_option maxRecDepth 100000 in
theorem rw_end (B : Lo) (i : Isl) (W M : Value) (k : Nat) (d : Nat → Value) : ended (srun Tryz.prog goFns B 9 0 (headC 32 14 (rwL k) d (rwT.map (it (bodyOf Tryz.prog 32)))) (heapO 0 [(false, Obj.cells (islC i W M) 27 (0, 0))]) ([(false, Obj.cells (islC i W M) 27 (0, 0))]).length
    [(1, Hint.val (Value.bool false))] 0 [] []) [] = some ⟨.ret (.int .i64 (-1)), [], 1,
    [(!ltq 40 (↑k : Int)) = false]⟩ := by kernel_rfl
set_option maxRecDepth 100000 in
theorem few5_short (B : Lo) (i : Isl) (W M : Value) : ended (srun Tryz.prog goFns B 6 0 (entryC Tryz.prog 10 19 [.agg (islC i W M), .int .i64 5]) [] 0
    [(3, Hint.call [] (Value.bool false) [] 1 [])] 0 [] []) [] = some ⟨.ret (.bool false), [], 1,
    [CJ Tryz.prog B 18
  #[Value.agg
      #[Value.int IntKind.i64 (Isl.cap i), Value.int IntKind.i64 (Isl.sl i), Value.int IntKind.i64 (Isl.sh i),
        Value.int IntKind.i64 (Isl.roof i), Value.int IntKind.i64 (Isl.sand i), Value.int IntKind.i64 (Isl.kl i),
        Value.int IntKind.i64 (Isl.kh i), Value.int IntKind.i64 (Isl.ll i), Value.int IntKind.i64 (Isl.lh i),
        Value.int IntKind.i64 (Isl.pump i), Value.int IntKind.i64 (Isl.keep i), Value.int IntKind.i64 (Isl.size i), W,
        M, Value.int IntKind.i64 (Isl.most i), Value.int IntKind.i64 (Isl.row i)]]
  [] 1 (Value.bool false) [] 1 []]⟩ := by kernel_rfl
set_option maxRecDepth 100000 in
theorem few5_ref (B : Lo) (i : Isl) (W M : Value) : ended (srun Tryz.prog goFns B 6 0 (entryC Tryz.prog 10 19 [.agg (islC i W M), .int .i64 5]) [] 0
    [(3, Hint.call [] (Value.bool true) [] 1 []),
(6, Hint.call [] (Value.bool false) [] 1 [])] 0 [] []) [] = some ⟨.ret (.bool true), [], 1,
    [CJ Tryz.prog B 14
  #[Value.agg
      #[Value.int IntKind.i64 (Isl.cap i), Value.int IntKind.i64 (Isl.sl i), Value.int IntKind.i64 (Isl.sh i),
        Value.int IntKind.i64 (Isl.roof i), Value.int IntKind.i64 (Isl.sand i), Value.int IntKind.i64 (Isl.kl i),
        Value.int IntKind.i64 (Isl.kh i), Value.int IntKind.i64 (Isl.ll i), Value.int IntKind.i64 (Isl.lh i),
        Value.int IntKind.i64 (Isl.pump i), Value.int IntKind.i64 (Isl.keep i), Value.int IntKind.i64 (Isl.size i), W,
        M, Value.int IntKind.i64 (Isl.most i), Value.int IntKind.i64 (Isl.row i)]]
  [] 1 (Value.bool false) [] 1 [],
CJ Tryz.prog B 18
  #[Value.agg
      #[Value.int IntKind.i64 (Isl.cap i), Value.int IntKind.i64 (Isl.sl i), Value.int IntKind.i64 (Isl.sh i),
        Value.int IntKind.i64 (Isl.roof i), Value.int IntKind.i64 (Isl.sand i), Value.int IntKind.i64 (Isl.kl i),
        Value.int IntKind.i64 (Isl.kh i), Value.int IntKind.i64 (Isl.ll i), Value.int IntKind.i64 (Isl.lh i),
        Value.int IntKind.i64 (Isl.pump i), Value.int IntKind.i64 (Isl.keep i), Value.int IntKind.i64 (Isl.size i), W,
        M, Value.int IntKind.i64 (Isl.most i), Value.int IntKind.i64 (Isl.row i)]]
  [] 1 (Value.bool true) [] 1 []]⟩ := by kernel_rfl
set_option maxRecDepth 100000 in
theorem few5_num (B : Lo) (i : Isl) (W : Value) (A : Option Addr) (ms : Nat) (y : Bool) : ended (srun Tryz.prog goFns B 6 0 (entryC Tryz.prog 10 19 [.agg (islC i W (.slice A i.nm ms)), .int .i64 5]) [] 0
    [(3, Hint.call [] (Value.bool true) [] 1 []),
(6, Hint.call [] (Value.bool true) [] 1 []),
(11, Hint.len (Isl.nm i)),
(13, Hint.val (Value.bool y))] 0 [] []) [] = some ⟨.ret (.bool y), [], 1,
    [(!ltq 5 (↑(Isl.nm i) : Int)) = y,
SliceLen (tget { len := 16000, tr := Tri.set 14 Tri.lf 13 (Value.slice A (Isl.nm i) ms) } 13) (Isl.nm i),
CJ Tryz.prog B 14
  #[Value.agg
      #[Value.int IntKind.i64 (Isl.cap i), Value.int IntKind.i64 (Isl.sl i), Value.int IntKind.i64 (Isl.sh i),
        Value.int IntKind.i64 (Isl.roof i), Value.int IntKind.i64 (Isl.sand i), Value.int IntKind.i64 (Isl.kl i),
        Value.int IntKind.i64 (Isl.kh i), Value.int IntKind.i64 (Isl.ll i), Value.int IntKind.i64 (Isl.lh i),
        Value.int IntKind.i64 (Isl.pump i), Value.int IntKind.i64 (Isl.keep i), Value.int IntKind.i64 (Isl.size i), W,
        Value.slice A (Isl.nm i) ms, Value.int IntKind.i64 (Isl.most i), Value.int IntKind.i64 (Isl.row i)]]
  [] 1 (Value.bool true) [] 1 [],
CJ Tryz.prog B 18
  #[Value.agg
      #[Value.int IntKind.i64 (Isl.cap i), Value.int IntKind.i64 (Isl.sl i), Value.int IntKind.i64 (Isl.sh i),
        Value.int IntKind.i64 (Isl.roof i), Value.int IntKind.i64 (Isl.sand i), Value.int IntKind.i64 (Isl.kl i),
        Value.int IntKind.i64 (Isl.kh i), Value.int IntKind.i64 (Isl.ll i), Value.int IntKind.i64 (Isl.lh i),
        Value.int IntKind.i64 (Isl.pump i), Value.int IntKind.i64 (Isl.keep i), Value.int IntKind.i64 (Isl.size i), W,
        Value.slice A (Isl.nm i) ms, Value.int IntKind.i64 (Isl.most i), Value.int IntKind.i64 (Isl.row i)]]
  [] 1 (Value.bool true) [] 1 []]⟩ := by kernel_rfl
set_option maxRecDepth 100000 in
theorem lg_few (B : Lo) (i : Isl) (W M : Value) : ended (srun Tryz.prog goFns B 10 0 (entryC Tryz.prog 9 50 [.agg (islC i W M)]) [] 0
    [(3, Hint.call [] (Value.bool false) [] 1 []),
(5, Hint.call [] (Value.bool true) [] 1 [])] 0 [] []) [] = some ⟨.ret (.bool true), [], 1,
    [CJ Tryz.prog B 11 #[] [] 1 (Value.bool true) [] 1 [],
CJ Tryz.prog B 10
  #[Value.agg
      #[Value.int IntKind.i64 (Isl.cap i), Value.int IntKind.i64 (Isl.sl i), Value.int IntKind.i64 (Isl.sh i),
        Value.int IntKind.i64 (Isl.roof i), Value.int IntKind.i64 (Isl.sand i), Value.int IntKind.i64 (Isl.kl i),
        Value.int IntKind.i64 (Isl.kh i), Value.int IntKind.i64 (Isl.ll i), Value.int IntKind.i64 (Isl.lh i),
        Value.int IntKind.i64 (Isl.pump i), Value.int IntKind.i64 (Isl.keep i), Value.int IntKind.i64 (Isl.size i), W,
        M, Value.int IntKind.i64 (Isl.most i), Value.int IntKind.i64 (Isl.row i)],
    Value.int IntKind.i64 5]
  [] 1 (Value.bool false) [] 1 []]⟩ := by kernel_rfl
set_option maxRecDepth 100000 in
theorem lg_bad (B : Lo) (i : Isl) (W M : Value) : ended (srun Tryz.prog goFns B 17 0 (entryC Tryz.prog 9 50 [.agg (islC i W M)]) [] 0
    [(3, Hint.call [] (Value.bool true) [] 1 []),
(6, Hint.call [] (Value.tuple #[Value.int IntKind.i64 0, Value.int IntKind.i64 2]) [] 1 []),
(13, Hint.call [] (Value.bool false) [] 1 []),
(22, Hint.call [] (Value.bool true) [] 1 [])] 0 [] []) [] = some ⟨.ret (.bool true), [], 1,
    [CJ Tryz.prog B 11 #[] [] 1 (Value.bool true) [] 1 [],
CJ Tryz.prog B 14
  #[Value.agg
      #[Value.int IntKind.i64 (Isl.cap i), Value.int IntKind.i64 (Isl.sl i), Value.int IntKind.i64 (Isl.sh i),
        Value.int IntKind.i64 (Isl.roof i), Value.int IntKind.i64 (Isl.sand i), Value.int IntKind.i64 (Isl.kl i),
        Value.int IntKind.i64 (Isl.kh i), Value.int IntKind.i64 (Isl.ll i), Value.int IntKind.i64 (Isl.lh i),
        Value.int IntKind.i64 (Isl.pump i), Value.int IntKind.i64 (Isl.keep i), Value.int IntKind.i64 (Isl.size i), W,
        M, Value.int IntKind.i64 (Isl.most i), Value.int IntKind.i64 (Isl.row i)]]
  [] 1 (Value.bool false) [] 1 [],
CJ Tryz.prog B 31
  #[Value.agg
      #[Value.int IntKind.i64 (Isl.cap i), Value.int IntKind.i64 (Isl.sl i), Value.int IntKind.i64 (Isl.sh i),
        Value.int IntKind.i64 (Isl.roof i), Value.int IntKind.i64 (Isl.sand i), Value.int IntKind.i64 (Isl.kl i),
        Value.int IntKind.i64 (Isl.kh i), Value.int IntKind.i64 (Isl.ll i), Value.int IntKind.i64 (Isl.lh i),
        Value.int IntKind.i64 (Isl.pump i), Value.int IntKind.i64 (Isl.keep i), Value.int IntKind.i64 (Isl.size i), W,
        M, Value.int IntKind.i64 (Isl.most i), Value.int IntKind.i64 (Isl.row i)]]
  [] 1 (Value.tuple #[Value.int IntKind.i64 0, Value.int IntKind.i64 2]) [] 1 [],
CJ Tryz.prog B 10
  #[Value.agg
      #[Value.int IntKind.i64 (Isl.cap i), Value.int IntKind.i64 (Isl.sl i), Value.int IntKind.i64 (Isl.sh i),
        Value.int IntKind.i64 (Isl.roof i), Value.int IntKind.i64 (Isl.sand i), Value.int IntKind.i64 (Isl.kl i),
        Value.int IntKind.i64 (Isl.kh i), Value.int IntKind.i64 (Isl.ll i), Value.int IntKind.i64 (Isl.lh i),
        Value.int IntKind.i64 (Isl.pump i), Value.int IntKind.i64 (Isl.keep i), Value.int IntKind.i64 (Isl.size i), W,
        M, Value.int IntKind.i64 (Isl.most i), Value.int IntKind.i64 (Isl.row i)],
    Value.int IntKind.i64 5]
  [] 1 (Value.bool true) [] 1 []]⟩ := by kernel_rfl
set_option maxRecDepth 100000 in
theorem lg_none (B : Lo) (i : Isl) (W M : Value) : ended (srun Tryz.prog goFns B 24 0 (entryC Tryz.prog 9 50 [.agg (islC i W M)]) [] 0
    [(3, Hint.call [] (Value.bool true) [] 1 []),
(6, Hint.call [] (Value.tuple #[Value.int IntKind.i64 0, Value.int IntKind.i64 5]) [] 1 []),
(13, Hint.call [] (Value.bool true) [] 1 []),
(16, Hint.call [] (Value.int IntKind.i64 (-1)) [] 1 []),
(27, Hint.call [] (Value.bool true) [] 1 [])] 0 [] []) [] = some ⟨.ret (.bool true), [], 1,
    [CJ Tryz.prog B 11 #[] [] 1 (Value.bool true) [] 1 [],
CJ Tryz.prog B 32
  #[Value.agg
      #[Value.int IntKind.i64 (Isl.cap i), Value.int IntKind.i64 (Isl.sl i), Value.int IntKind.i64 (Isl.sh i),
        Value.int IntKind.i64 (Isl.roof i), Value.int IntKind.i64 (Isl.sand i), Value.int IntKind.i64 (Isl.kl i),
        Value.int IntKind.i64 (Isl.kh i), Value.int IntKind.i64 (Isl.ll i), Value.int IntKind.i64 (Isl.lh i),
        Value.int IntKind.i64 (Isl.pump i), Value.int IntKind.i64 (Isl.keep i), Value.int IntKind.i64 (Isl.size i), W,
        M, Value.int IntKind.i64 (Isl.most i), Value.int IntKind.i64 (Isl.row i)]]
  [] 1 (Value.int IntKind.i64 (-1)) [] 1 [],
CJ Tryz.prog B 14
  #[Value.agg
      #[Value.int IntKind.i64 (Isl.cap i), Value.int IntKind.i64 (Isl.sl i), Value.int IntKind.i64 (Isl.sh i),
        Value.int IntKind.i64 (Isl.roof i), Value.int IntKind.i64 (Isl.sand i), Value.int IntKind.i64 (Isl.kl i),
        Value.int IntKind.i64 (Isl.kh i), Value.int IntKind.i64 (Isl.ll i), Value.int IntKind.i64 (Isl.lh i),
        Value.int IntKind.i64 (Isl.pump i), Value.int IntKind.i64 (Isl.keep i), Value.int IntKind.i64 (Isl.size i), W,
        M, Value.int IntKind.i64 (Isl.most i), Value.int IntKind.i64 (Isl.row i)]]
  [] 1 (Value.bool true) [] 1 [],
CJ Tryz.prog B 31
  #[Value.agg
      #[Value.int IntKind.i64 (Isl.cap i), Value.int IntKind.i64 (Isl.sl i), Value.int IntKind.i64 (Isl.sh i),
        Value.int IntKind.i64 (Isl.roof i), Value.int IntKind.i64 (Isl.sand i), Value.int IntKind.i64 (Isl.kl i),
        Value.int IntKind.i64 (Isl.kh i), Value.int IntKind.i64 (Isl.ll i), Value.int IntKind.i64 (Isl.lh i),
        Value.int IntKind.i64 (Isl.pump i), Value.int IntKind.i64 (Isl.keep i), Value.int IntKind.i64 (Isl.size i), W,
        M, Value.int IntKind.i64 (Isl.most i), Value.int IntKind.i64 (Isl.row i)]]
  [] 1 (Value.tuple #[Value.int IntKind.i64 0, Value.int IntKind.i64 5]) [] 1 [],
CJ Tryz.prog B 10
  #[Value.agg
      #[Value.int IntKind.i64 (Isl.cap i), Value.int IntKind.i64 (Isl.sl i), Value.int IntKind.i64 (Isl.sh i),
        Value.int IntKind.i64 (Isl.roof i), Value.int IntKind.i64 (Isl.sand i), Value.int IntKind.i64 (Isl.kl i),
        Value.int IntKind.i64 (Isl.kh i), Value.int IntKind.i64 (Isl.ll i), Value.int IntKind.i64 (Isl.lh i),
        Value.int IntKind.i64 (Isl.pump i), Value.int IntKind.i64 (Isl.keep i), Value.int IntKind.i64 (Isl.size i), W,
        M, Value.int IntKind.i64 (Isl.most i), Value.int IntKind.i64 (Isl.row i)],
    Value.int IntKind.i64 5]
  [] 1 (Value.bool true) [] 1 []]⟩ := by kernel_rfl
set_option maxRecDepth 100000 in
theorem lg_fine (B : Lo) (i : Isl) (W M : Value) (n : Int) : ended (srun Tryz.prog goFns B 25 0 (entryC Tryz.prog 9 50 [.agg (islC i W M)]) [] 0
    [(3, Hint.call [] (Value.bool true) [] 1 []),
(6, Hint.call [] (Value.tuple #[Value.int IntKind.i64 n, Value.int IntKind.i64 0]) [] 1 []),
(13, Hint.call [] (Value.bool true) [] 1 []),
(16, Hint.call [] (Value.int IntKind.i64 n) [] 1 []),
(19, Hint.val (Value.bool false)),
(25, Hint.val (Value.bool true)),
(28, Hint.call [] (Value.bool true) [] 1 [])] 0 [] []) [] = some ⟨.ret (.bool true), [], 1,
    [CJ Tryz.prog B 11 #[] [] 1 (Value.bool true) [] 1 [],
eqq n n = true,
ltq n 0 = false,
CJ Tryz.prog B 32
  #[Value.agg
      #[Value.int IntKind.i64 (Isl.cap i), Value.int IntKind.i64 (Isl.sl i), Value.int IntKind.i64 (Isl.sh i),
        Value.int IntKind.i64 (Isl.roof i), Value.int IntKind.i64 (Isl.sand i), Value.int IntKind.i64 (Isl.kl i),
        Value.int IntKind.i64 (Isl.kh i), Value.int IntKind.i64 (Isl.ll i), Value.int IntKind.i64 (Isl.lh i),
        Value.int IntKind.i64 (Isl.pump i), Value.int IntKind.i64 (Isl.keep i), Value.int IntKind.i64 (Isl.size i), W,
        M, Value.int IntKind.i64 (Isl.most i), Value.int IntKind.i64 (Isl.row i)]]
  [] 1 (Value.int IntKind.i64 n) [] 1 [],
CJ Tryz.prog B 14
  #[Value.agg
      #[Value.int IntKind.i64 (Isl.cap i), Value.int IntKind.i64 (Isl.sl i), Value.int IntKind.i64 (Isl.sh i),
        Value.int IntKind.i64 (Isl.roof i), Value.int IntKind.i64 (Isl.sand i), Value.int IntKind.i64 (Isl.kl i),
        Value.int IntKind.i64 (Isl.kh i), Value.int IntKind.i64 (Isl.ll i), Value.int IntKind.i64 (Isl.lh i),
        Value.int IntKind.i64 (Isl.pump i), Value.int IntKind.i64 (Isl.keep i), Value.int IntKind.i64 (Isl.size i), W,
        M, Value.int IntKind.i64 (Isl.most i), Value.int IntKind.i64 (Isl.row i)]]
  [] 1 (Value.bool true) [] 1 [],
CJ Tryz.prog B 31
  #[Value.agg
      #[Value.int IntKind.i64 (Isl.cap i), Value.int IntKind.i64 (Isl.sl i), Value.int IntKind.i64 (Isl.sh i),
        Value.int IntKind.i64 (Isl.roof i), Value.int IntKind.i64 (Isl.sand i), Value.int IntKind.i64 (Isl.kl i),
        Value.int IntKind.i64 (Isl.kh i), Value.int IntKind.i64 (Isl.ll i), Value.int IntKind.i64 (Isl.lh i),
        Value.int IntKind.i64 (Isl.pump i), Value.int IntKind.i64 (Isl.keep i), Value.int IntKind.i64 (Isl.size i), W,
        M, Value.int IntKind.i64 (Isl.most i), Value.int IntKind.i64 (Isl.row i)]]
  [] 1 (Value.tuple #[Value.int IntKind.i64 n, Value.int IntKind.i64 0]) [] 1 [],
CJ Tryz.prog B 10
  #[Value.agg
      #[Value.int IntKind.i64 (Isl.cap i), Value.int IntKind.i64 (Isl.sl i), Value.int IntKind.i64 (Isl.sh i),
        Value.int IntKind.i64 (Isl.roof i), Value.int IntKind.i64 (Isl.sand i), Value.int IntKind.i64 (Isl.kl i),
        Value.int IntKind.i64 (Isl.kh i), Value.int IntKind.i64 (Isl.ll i), Value.int IntKind.i64 (Isl.lh i),
        Value.int IntKind.i64 (Isl.pump i), Value.int IntKind.i64 (Isl.keep i), Value.int IntKind.i64 (Isl.size i), W,
        M, Value.int IntKind.i64 (Isl.most i), Value.int IntKind.i64 (Isl.row i)],
    Value.int IntKind.i64 5]
  [] 1 (Value.bool true) [] 1 []]⟩ := by kernel_rfl
end Go.Proofs.YtffdidleebognaaGreatDoor

