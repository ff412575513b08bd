/- The reference's Fault: its runs. -/
import Derived.Test.YtffdidleebognaaGreatDoorZF48
import Derived.Test.YtffdidleebognaaGreatDoorZF49
import Derived.Test.YtffdidleebognaaGreatDoorZF43
import Derived.Test.YtffdidleebognaaGreatDoorZF33
import Derived.Test.YtffdidleebognaaGreatDoorZF14
import Derived.Test.YtffdidleebognaaGreatDoorZF17
namespace Go.Proofs.YtffdidleebognaaGreatDoor
open Go Go.CE Go.Proofs Go.RowKit Lens
def rfL (tanks : Int) (b0 p g c K n : Nat) : List (Nat × Value) := [(1, .int .i64 tanks), (2, .pointer (some ⟨b0, 0, some 0⟩)), (4, .pointer (some ⟨p, 0, some 0⟩)), (5, .slice (some ⟨g, 0, some 0⟩) K c), (6, .int .i64 n)]
def rfB (tanks : Int) (b0 p g c K n k : Nat) (r v : Int) : List (Nat × Value) := rfL tanks b0 p g c K n ++ [(9, .int .i64 k), (10, .int .i64 r), (11, .int .i64 v)]
def rfT : List It := [.code [1, 1, 0, 1, 0, 0], .inLoop [1, 1, 0, 1, 0, 0], .inBlock 0, .code [1, 1, 1]]
def rfI (tanks : Int) (b0 p g c K nm n k : Nat) : List (Nat × Value) := rfL tanks b0 p g c K n ++ [(7, .slice (some ⟨0, 0, none⟩) nm 0), (9, .int .i64 k)]
def rfX : List It := [.code [1, 1, 0, 1, 0, 0, 1, 0, 0, 1, 1, 0, 0, 1, 0, 0, 1, 1, 0, 0], .code [1, 1, 0, 1, 0, 0, 1, 0, 0, 1, 1, 0, 0, 1, 0, 0, 1, 1, 0, 1], .inBlock 3, .code [1, 1, 0, 1, 0, 0, 1, 0, 0, 1, 1, 0, 0, 1, 1], .inLoop [1, 1, 0, 1, 0, 0, 1, 0, 0, 1, 1, 0, 0], .inBlock 2, .inBlock 1, .code [1, 1, 0, 1, 0, 0, 1, 1], .inLoop [1, 1, 0, 1, 0, 0], .inBlock 0, .code [1, 1, 1]]
def rfY : List It := [.code [1, 1, 1, 0], .code [1, 1, 0, 1, 0, 0, 1, 0, 0, 1, 1, 0, 0, 1, 0, 0, 1, 1, 0, 1]]
def rfU : List It := [.code [1, 1, 0, 1, 0, 0, 1, 0, 0, 1, 1, 0, 0], .inLoop [1, 1, 0, 1, 0, 0, 1, 0, 0, 1, 1, 0, 0], .inBlock 2, .inBlock 1, .code [1, 1, 0, 1, 0, 0, 1, 1], .inLoop [1, 1, 0, 1, 0, 0], .inBlock 0, .code [1, 1, 1]]
set_option maxRecDepth 100000 in
theorem rf_start (B : Lo) (tanks : Int) (b0 p g c K : Nat) (isl : Value) (d : Nat → Value) : land (srun Tryz.prog goFns B 5 0 (⟨27, tput (tput (tput (mkT 58 [(1, .int .i64 tanks), (2, .pointer (some ⟨b0, 0, some 0⟩)), (4, .pointer (some ⟨p, 0, some 0⟩))] d) (some 12) isl) (some 13) (.slice (some ⟨g, 0, some 0⟩) K c)) (some 5) (.slice (some ⟨g, 0, some 0⟩) K c), [It.code [1, 1]].map (it (bodyOf Tryz.prog 27)), [], .run, none⟩ : CF) (heapO 0 ([] : List (Bool × Obj))) (([] : List (Bool × Obj))).length
    [] 0 [] []) ((rfL tanks b0 p g c K 0).map (·.1)) ((kz [] ([] : List (Bool × Obj))).map (·.old)) = some ⟨27, 58, rfT.map (it (bodyOf Tryz.prog 27)), [], .run, none, (rfL tanks b0 p g c K 0).map (fun p => rnV (rhoK (kz [] ([] : List (Bool × Obj)))) 3 p.2), (kz [] ([] : List (Bool × Obj))).map (fun kept_ => some (wasK (rhoK (kz [] ([] : List (Bool × Obj)))) kept_)), 0,
    []⟩ := by kernel_rfl
set_option maxRecDepth 100000 in
theorem rf_run (B : Lo) (i : Isl) (W M : Value) (tanks : Int) (b0 p g c K rb rc n : Nat) (R1 N1 E1 : Array Value) (s1 k1 l1 g0 g1 g2 g3 g4 g5 : Int) (d : Nat → Value) : land (srun Tryz.prog goFns B 13 0 (headC 27 58 (rfL tanks b0 p g c K n) d (rfT.map (it (bodyOf Tryz.prog 27)))) (heapO 0 ([] : List (Bool × Obj))) (([] : List (Bool × Obj))).length
    [(3, Hint.val (Value.bool true)),
(4, Hint.raw
  (Value.agg
    #[Value.int IntKind.i64 (Isl.cap i), Value.int IntKind.i64 (Isl.sl i), Value.int IntKind.i64 (Isl.sh i),
      Value.int IntKind.i64 (Isl.roof i), Value.int IntKind.i64 (Isl.sand i), Value.int IntKind.i64 (Isl.kl i),
      Value.int IntKind.i64 (Isl.kh i), Value.int IntKind.i64 (Isl.ll i), Value.int IntKind.i64 (Isl.lh i),
      Value.int IntKind.i64 (Isl.pump i), Value.int IntKind.i64 (Isl.keep i), Value.int IntKind.i64 (Isl.size i), W, M,
      Value.int IntKind.i64 (Isl.most i), Value.int IntKind.i64 (Isl.row i)])),
(6, Hint.raw
  (Value.agg
    #[Value.int IntKind.i64 (Isl.cap i), Value.int IntKind.i64 (Isl.sl i), Value.int IntKind.i64 (Isl.sh i),
      Value.int IntKind.i64 (Isl.roof i), Value.int IntKind.i64 (Isl.sand i), Value.int IntKind.i64 (Isl.kl i),
      Value.int IntKind.i64 (Isl.kh i), Value.int IntKind.i64 (Isl.ll i), Value.int IntKind.i64 (Isl.lh i),
      Value.int IntKind.i64 (Isl.pump i), Value.int IntKind.i64 (Isl.keep i), Value.int IntKind.i64 (Isl.size i), W, M,
      Value.int IntKind.i64 (Isl.most i), Value.int IntKind.i64 (Isl.row i)])),
(9, Hint.idx n),
(10, Hint.raw (Value.slice (some { block := rb, off := 0, spot := some 0 }) (Isl.nm i) rc)),
(11, Hint.call []
  (Value.agg
    #[Value.int IntKind.i64 s1, Value.int IntKind.i64 k1, Value.int IntKind.i64 l1,
      Value.slice (some { block := rb, off := 0, spot := some 0 }) (Isl.nm i) rc,
      Value.slice (some { block := 0, off := 0 }) (Isl.nm i) 1,
      Value.slice (some { block := 1, off := 0 }) (Isl.nm i) 1])
  [(0, Obj.cells R1 3), (1, Obj.cells N1 3)] 2 []),
(12, Hint.call [0, 1]
  (Value.tuple
    #[Value.slice (some { block := 2, off := 0 }) (Isl.nm i) 0,
      Value.agg
        #[Value.int IntKind.i64 g0, Value.int IntKind.i64 g1, Value.int IntKind.i64 g2, Value.int IntKind.i64 g3,
          Value.int IntKind.i64 g4, Value.int IntKind.i64 g5]])
  [(2, Obj.cells E1 53 (1, 1))] 3 [])] 0 [] []) ((rfI tanks b0 p g c K i.nm n 0).map (·.1)) ((kz [2] [(false, Obj.cells E1 53 (1, 1))]).map (·.old)) = some ⟨27, 58, rfU.map (it (bodyOf Tryz.prog 27)), [], .run, none, (rfI tanks b0 p g c K i.nm n 0).map (fun p => rnV (rhoK (kz [2] [(false, Obj.cells E1 53 (1, 1))])) 3 p.2), (kz [2] [(false, Obj.cells E1 53 (1, 1))]).map (fun kept_ => some (wasK (rhoK (kz [2] [(false, Obj.cells E1 53 (1, 1))])) kept_)), 4,
    [CJ Tryz.prog B 22
  #[Value.agg
      #[Value.int IntKind.i64 (Isl.cap i), Value.int IntKind.i64 (Isl.sl i), Value.int IntKind.i64 (Isl.sh i),
        Value.int IntKind.i64 (Isl.roof i), Value.int IntKind.i64 (Isl.sand i), Value.int IntKind.i64 (Isl.kl i),
        Value.int IntKind.i64 (Isl.kh i), Value.int IntKind.i64 (Isl.ll i), Value.int IntKind.i64 (Isl.lh i),
        Value.int IntKind.i64 (Isl.pump i), Value.int IntKind.i64 (Isl.keep i), Value.int IntKind.i64 (Isl.size i), W,
        M, Value.int IntKind.i64 (Isl.most i), Value.int IntKind.i64 (Isl.row i)],
    Value.int IntKind.i64 tanks,
    Value.agg
      #[Value.int IntKind.i64 s1, Value.int IntKind.i64 k1, Value.int IntKind.i64 l1,
        Value.slice (some { block := rb, off := 0, spot := some 0 }) (Isl.nm i) rc,
        Value.slice (some { block := 0, off := 0 }) (Isl.nm i) 1,
        Value.slice (some { block := 1, off := 0 }) (Isl.nm i) 1]]
  [(0, some (Obj.cells R1 3)), (1, some (Obj.cells N1 3))] 2
  (Value.tuple
    #[Value.slice (some { block := 2, off := 0 }) (Isl.nm i) 0,
      Value.agg
        #[Value.int IntKind.i64 g0, Value.int IntKind.i64 g1, Value.int IntKind.i64 g2, Value.int IntKind.i64 g3,
          Value.int IntKind.i64 g4, Value.int IntKind.i64 g5]])
  [(2, Obj.cells E1 53 (1, 1))] 3 [],
CJ Tryz.prog B 29
  #[Value.agg
      #[Value.int IntKind.i64 (Isl.cap i), Value.int IntKind.i64 (Isl.sl i), Value.int IntKind.i64 (Isl.sh i),
        Value.int IntKind.i64 (Isl.roof i), Value.int IntKind.i64 (Isl.sand i), Value.int IntKind.i64 (Isl.kl i),
        Value.int IntKind.i64 (Isl.kh i), Value.int IntKind.i64 (Isl.ll i), Value.int IntKind.i64 (Isl.lh i),
        Value.int IntKind.i64 (Isl.pump i), Value.int IntKind.i64 (Isl.keep i), Value.int IntKind.i64 (Isl.size i), W,
        M, Value.int IntKind.i64 (Isl.most i), Value.int IntKind.i64 (Isl.row i)],
    Value.slice (some { block := rb, off := 0, spot := some 0 }) (Isl.nm i) rc, Value.bool false]
  [] 0
  (Value.agg
    #[Value.int IntKind.i64 s1, Value.int IntKind.i64 k1, Value.int IntKind.i64 l1,
      Value.slice (some { block := rb, off := 0, spot := some 0 }) (Isl.nm i) rc,
      Value.slice (some { block := 0, off := 0 }) (Isl.nm i) 1,
      Value.slice (some { block := 1, off := 0 }) (Isl.nm i) 1])
  [(0, Obj.cells R1 3), (1, Obj.cells N1 3)] 2 [],
RawCell B g (0 + n * 1) (Value.slice (some { block := rb, off := 0, spot := some 0 }) (Isl.nm i) rc),
(↑n : Int) = (↑n : Int) ∧ n < K,
∀ (j : Nat) (u : Value),
  #[Value.int IntKind.i64 (Isl.cap i), Value.int IntKind.i64 (Isl.sl i), Value.int IntKind.i64 (Isl.sh i),
          Value.int IntKind.i64 (Isl.roof i), Value.int IntKind.i64 (Isl.sand i), Value.int IntKind.i64 (Isl.kl i),
          Value.int IntKind.i64 (Isl.kh i), Value.int IntKind.i64 (Isl.ll i), Value.int IntKind.i64 (Isl.lh i),
          Value.int IntKind.i64 (Isl.pump i), Value.int IntKind.i64 (Isl.keep i), Value.int IntKind.i64 (Isl.size i), W,
          M, Value.int IntKind.i64 (Isl.most i), Value.int IntKind.i64 (Isl.row i)][j]? =
      some u →
    RawCell B b0 (0 + j) u,
∀ (j : Nat) (u : Value),
  #[Value.int IntKind.i64 (Isl.cap i), Value.int IntKind.i64 (Isl.sl i), Value.int IntKind.i64 (Isl.sh i),
          Value.int IntKind.i64 (Isl.roof i), Value.int IntKind.i64 (Isl.sand i), Value.int IntKind.i64 (Isl.kl i),
          Value.int IntKind.i64 (Isl.kh i), Value.int IntKind.i64 (Isl.ll i), Value.int IntKind.i64 (Isl.lh i),
          Value.int IntKind.i64 (Isl.pump i), Value.int IntKind.i64 (Isl.keep i), Value.int IntKind.i64 (Isl.size i), W,
          M, Value.int IntKind.i64 (Isl.most i), Value.int IntKind.i64 (Isl.row i)][j]? =
      some u →
    RawCell B b0 (0 + j) u,
ltq (↑n : Int) (↑K : Int) = true]⟩ := by kernel_rfl
set_option maxRecDepth 100000 in
theorem rf_in (B : Lo) (i : Isl) (W M : Value) (tanks : Int) (b0 p g c K n k : Nat) (E1 : Array Value) (s : Seen) (r v : Int) (d : Nat → Value) : land (srun Tryz.prog goFns B 16 0 (headC 27 58 (rfI tanks b0 p g c K i.nm n k) d (rfU.map (it (bodyOf Tryz.prog 27)))) (heapO 0 [(false, Obj.cells E1 53 (1, 1))]) ([(false, Obj.cells E1 53 (1, 1))]).length
    [(3, Hint.val (Value.bool true)),
(4, Hint.raw
  (Value.agg
    #[Value.int IntKind.i64 (Isl.cap i), Value.int IntKind.i64 (Isl.sl i), Value.int IntKind.i64 (Isl.sh i),
      Value.int IntKind.i64 (Isl.roof i), Value.int IntKind.i64 (Isl.sand i), Value.int IntKind.i64 (Isl.kl i),
      Value.int IntKind.i64 (Isl.kh i), Value.int IntKind.i64 (Isl.ll i), Value.int IntKind.i64 (Isl.lh i),
      Value.int IntKind.i64 (Isl.pump i), Value.int IntKind.i64 (Isl.keep i), Value.int IntKind.i64 (Isl.size i), W, M,
      Value.int IntKind.i64 (Isl.most i), Value.int IntKind.i64 (Isl.row i)])),
(7, Hint.idx k),
(8, Hint.ld
  (Value.agg
    #[Value.int IntKind.i64 (Seen.tanks s), Value.int IntKind.i64 (Seen.lens s), Value.int IntKind.i64 (Seen.lack s)])),
(9, Hint.call [] (Value.tuple #[Value.int IntKind.i64 r, Value.int IntKind.i64 v]) [] 1 []),
(16, Hint.val (Value.bool false)),
(18, Hint.val (Value.int IntKind.i64 ((↑k : Int) + 1)))] 0 [] []) ((rfI tanks b0 p g c K i.nm n (k + 1)).map (·.1)) ((kz [0] [(false, Obj.cells E1 53 (1, 1))]).map (·.old)) = some ⟨27, 58, rfU.map (it (bodyOf Tryz.prog 27)), [], .run, none, (rfI tanks b0 p g c K i.nm n (k + 1)).map (fun p => rnV (rhoK (kz [0] [(false, Obj.cells E1 53 (1, 1))])) 3 p.2), (kz [0] [(false, Obj.cells E1 53 (1, 1))]).map (fun kept_ => some (wasK (rhoK (kz [0] [(false, Obj.cells E1 53 (1, 1))])) kept_)), 1,
    [wq ((↑k : Int) + 1) = (↑k : Int) + 1,
(!eqq r 1) = false,
CJ Tryz.prog B 30
  #[Value.agg
      #[Value.int IntKind.i64 (Isl.cap i), Value.int IntKind.i64 (Isl.sl i), Value.int IntKind.i64 (Isl.sh i),
        Value.int IntKind.i64 (Isl.roof i), Value.int IntKind.i64 (Isl.sand i), Value.int IntKind.i64 (Isl.kl i),
        Value.int IntKind.i64 (Isl.kh i), Value.int IntKind.i64 (Isl.ll i), Value.int IntKind.i64 (Isl.lh i),
        Value.int IntKind.i64 (Isl.pump i), Value.int IntKind.i64 (Isl.keep i), Value.int IntKind.i64 (Isl.size i), W,
        M, Value.int IntKind.i64 (Isl.most i), Value.int IntKind.i64 (Isl.row i)],
    Value.agg
      #[Value.int IntKind.i64 (Seen.tanks s), Value.int IntKind.i64 (Seen.lens s), Value.int IntKind.i64 (Seen.lack s)]]
  [] 1 (Value.tuple #[Value.int IntKind.i64 r, Value.int IntKind.i64 v]) [] 1 [],
0 + k * 3 + TypeInfo.size Tryz.t53 ≤ Array.size E1 ∧
  Array.extract E1 (0 + k * 3) (0 + k * 3 + TypeInfo.size Tryz.t53) =
    #[Value.int IntKind.i64 (Seen.tanks s), Value.int IntKind.i64 (Seen.lens s), Value.int IntKind.i64 (Seen.lack s)],
(↑k : Int) = (↑k : Int) ∧ k < Isl.nm i,
∀ (j : Nat) (u : Value),
  #[Value.int IntKind.i64 (Isl.cap i), Value.int IntKind.i64 (Isl.sl i), Value.int IntKind.i64 (Isl.sh i),
          Value.int IntKind.i64 (Isl.roof i), Value.int IntKind.i64 (Isl.sand i), Value.int IntKind.i64 (Isl.kl i),
          Value.int IntKind.i64 (Isl.kh i), Value.int IntKind.i64 (Isl.ll i), Value.int IntKind.i64 (Isl.lh i),
          Value.int IntKind.i64 (Isl.pump i), Value.int IntKind.i64 (Isl.keep i), Value.int IntKind.i64 (Isl.size i), W,
          M, Value.int IntKind.i64 (Isl.most i), Value.int IntKind.i64 (Isl.row i)][j]? =
      some u →
    RawCell B b0 (0 + j) u,
ltq (↑k : Int) (↑(Isl.nm i) : Int) = true]⟩ := by kernel_rfl
set_option maxRecDepth 100000 in
theorem rf_next (B : Lo) (nm : Nat) (tanks : Int) (b0 p g c K n k : Nat) (E1 : Array Value) (d : Nat → Value) : land (srun Tryz.prog goFns B 8 0 (headC 27 58 (rfI tanks b0 p g c K nm n k) d (rfU.map (it (bodyOf Tryz.prog 27)))) (heapO 0 [(false, Obj.cells E1 53 (1, 1))]) ([(false, Obj.cells E1 53 (1, 1))]).length
    [(3, Hint.val (Value.bool false)),
(5, Hint.val (Value.int IntKind.i64 ((↑n : Int) + 1)))] 0 [] []) ((rfL tanks b0 p g c K (n + 1)).map (·.1)) ((kz [] ([] : List (Bool × Obj))).map (·.old)) = some ⟨27, 58, rfT.map (it (bodyOf Tryz.prog 27)), [], .run, none, (rfL tanks b0 p g c K (n + 1)).map (fun p => rnV (rhoK (kz [] ([] : List (Bool × Obj)))) 3 p.2), (kz [] ([] : List (Bool × Obj))).map (fun kept_ => some (wasK (rhoK (kz [] ([] : List (Bool × Obj)))) kept_)), 1,
    [wq ((↑n : Int) + 1) = (↑n : Int) + 1,
ltq (↑k : Int) (↑nm : Int) = false]⟩ := by kernel_rfl
set_option maxRecDepth 100000 in
theorem rf_bad (B : Lo) (i : Isl) (W M : Value) (tanks : Int) (b0 p g c K n k : Nat) (E1 : Array Value) (s : Seen) (r v : Int) (d : Nat → Value) : land (srun Tryz.prog goFns B 13 0 (headC 27 58 (rfI tanks b0 p g c K i.nm n k) d (rfU.map (it (bodyOf Tryz.prog 27)))) (heapO 0 [(false, Obj.cells E1 53 (1, 1))]) ([(false, Obj.cells E1 53 (1, 1))]).length
    [(3, Hint.val (Value.bool true)),
(4, Hint.raw
  (Value.agg
    #[Value.int IntKind.i64 (Isl.cap i), Value.int IntKind.i64 (Isl.sl i), Value.int IntKind.i64 (Isl.sh i),
      Value.int IntKind.i64 (Isl.roof i), Value.int IntKind.i64 (Isl.sand i), Value.int IntKind.i64 (Isl.kl i),
      Value.int IntKind.i64 (Isl.kh i), Value.int IntKind.i64 (Isl.ll i), Value.int IntKind.i64 (Isl.lh i),
      Value.int IntKind.i64 (Isl.pump i), Value.int IntKind.i64 (Isl.keep i), Value.int IntKind.i64 (Isl.size i), W, M,
      Value.int IntKind.i64 (Isl.most i), Value.int IntKind.i64 (Isl.row i)])),
(7, Hint.idx k),
(8, Hint.ld
  (Value.agg
    #[Value.int IntKind.i64 (Seen.tanks s), Value.int IntKind.i64 (Seen.lens s), Value.int IntKind.i64 (Seen.lack s)])),
(9, Hint.call [] (Value.tuple #[Value.int IntKind.i64 r, Value.int IntKind.i64 v]) [] 1 []),
(16, Hint.val (Value.bool true)),
(19, Hint.idx n)] 0 [] []) ((rfB tanks b0 p g c K n k r v).map (·.1)) ((kz [] ([] : List (Bool × Obj))).map (·.old)) = some ⟨27, 58, rfX.map (it (bodyOf Tryz.prog 27)), [], .run, none, (rfB tanks b0 p g c K n k r v).map (fun p => rnV (rhoK (kz [] ([] : List (Bool × Obj)))) 3 p.2), (kz [] ([] : List (Bool × Obj))).map (fun kept_ => some (wasK (rhoK (kz [] ([] : List (Bool × Obj)))) kept_)), 1,
    [(!eqq r 1) = true,
CJ Tryz.prog B 30
  #[Value.agg
      #[Value.int IntKind.i64 (Isl.cap i), Value.int IntKind.i64 (Isl.sl i), Value.int IntKind.i64 (Isl.sh i),
        Value.int IntKind.i64 (Isl.roof i), Value.int IntKind.i64 (Isl.sand i), Value.int IntKind.i64 (Isl.kl i),
        Value.int IntKind.i64 (Isl.kh i), Value.int IntKind.i64 (Isl.ll i), Value.int IntKind.i64 (Isl.lh i),
        Value.int IntKind.i64 (Isl.pump i), Value.int IntKind.i64 (Isl.keep i), Value.int IntKind.i64 (Isl.size i), W,
        M, Value.int IntKind.i64 (Isl.most i), Value.int IntKind.i64 (Isl.row i)],
    Value.agg
      #[Value.int IntKind.i64 (Seen.tanks s), Value.int IntKind.i64 (Seen.lens s), Value.int IntKind.i64 (Seen.lack s)]]
  [] 1 (Value.tuple #[Value.int IntKind.i64 r, Value.int IntKind.i64 v]) [] 1 [],
0 + k * 3 + TypeInfo.size Tryz.t53 ≤ Array.size E1 ∧
  Array.extract E1 (0 + k * 3) (0 + k * 3 + TypeInfo.size Tryz.t53) =
    #[Value.int IntKind.i64 (Seen.tanks s), Value.int IntKind.i64 (Seen.lens s), Value.int IntKind.i64 (Seen.lack s)],
(↑k : Int) = (↑k : Int) ∧ k < Isl.nm i,
∀ (j : Nat) (u : Value),
  #[Value.int IntKind.i64 (Isl.cap i), Value.int IntKind.i64 (Isl.sl i), Value.int IntKind.i64 (Isl.sh i),
          Value.int IntKind.i64 (Isl.roof i), Value.int IntKind.i64 (Isl.sand i), Value.int IntKind.i64 (Isl.kl i),
          Value.int IntKind.i64 (Isl.kh i), Value.int IntKind.i64 (Isl.ll i), Value.int IntKind.i64 (Isl.lh i),
          Value.int IntKind.i64 (Isl.pump i), Value.int IntKind.i64 (Isl.keep i), Value.int IntKind.i64 (Isl.size i), W,
          M, Value.int IntKind.i64 (Isl.most i), Value.int IntKind.i64 (Isl.row i)][j]? =
      some u →
    RawCell B b0 (0 + j) u,
ltq (↑k : Int) (↑(Isl.nm i) : Int) = true]⟩ := by kernel_rfl
set_option maxRecDepth 100000 in
theorem rf_none (B : Lo) (tanks : Int) (b0 p g c K n : Nat) (d : Nat → Value) : land (srun Tryz.prog goFns B 6 0 (headC 27 58 (rfL tanks b0 p g c K n) d (rfT.map (it (bodyOf Tryz.prog 27)))) (heapO 0 ([] : List (Bool × Obj))) (([] : List (Bool × Obj))).length
    [(3, Hint.val (Value.bool false))] 0 [] []) ((rfL tanks b0 p g c K n).map (·.1)) ((kz [] ([] : List (Bool × Obj))).map (·.old)) = some ⟨27, 58, rfY.map (it (bodyOf Tryz.prog 27)), [], .run, none, (rfL tanks b0 p g c K n).map (fun p => rnV (rhoK (kz [] ([] : List (Bool × Obj)))) 3 p.2), (kz [] ([] : List (Bool × Obj))).map (fun kept_ => some (wasK (rhoK (kz [] ([] : List (Bool × Obj)))) kept_)), 0,
    [ltq (↑n : Int) (↑K : Int) = false]⟩ := by kernel_rfl
end Go.Proofs.YtffdidleebognaaGreatDoor

namespace Go.Proofs.YtffdidleebognaaGreatDoor
open Go Go.CE Go.Proofs Go.RowKit Lens
def getR : Option RR → RR
  | some r => r
  | none => ⟨[], ⟨0, .lf⟩, [], 0, [], 0, []⟩
def isDefer : Op → Bool
  | .defer _ => true
  | _ => false
section
variable {i : Isl} {wa : Option Addr} {wc mb mo mc : Nat} {ma : Option Addr} {tanks : Int} {w : World} {n : Nat}
end
end Go.Proofs.YtffdidleebognaaGreatDoor

namespace Go.Proofs.YtffdidleebognaaGreatDoor
open Go Go.CE Go.Proofs Go.RowKit Lens
def rfP (tanks : Int) (a p : Value) : List (Nat × Value) := [(1, .int .i64 tanks), (2, a), (4, p)]
def fz0 : Array Value := #[.slice none 0 0, .int .i64 0, .int .i64 0, .int .i64 0]
def rfO (i : Isl) (W M : Value) : List (Bool × Obj) := [(false, .cells (islC i W M) 27 (0, 0)), (false, .cells fz0 59 (0, 0))]
def rfB0 : List It := [.code [1, 0], .code [1, 1]]
set_option maxRecDepth 100000 in
theorem rf_prefix (B : Lo) (i : Isl) (W M : Value) (tanks : Int) : land (srun Tryz.prog goFns B 3 0 (entryC Tryz.prog 27 58 [.agg (islC i W M), .int .i64 tanks]) (heapO 0 []) 0 [] 0 [] []) ((rfP tanks (.pointer (some ⟨0, 0, none⟩)) (.pointer (some ⟨1, 0, none⟩))).map (·.1)) ((kz [0, 1] (rfO i W M)).map (·.old)) =
    some ⟨27, 58, rfB0.map (it (bodyOf Tryz.prog 27)), [], .run, none, (rfP tanks (.pointer (some ⟨0, 0, none⟩)) (.pointer (some ⟨1, 0, none⟩))).map (fun p => rnV (rhoK (kz [0, 1] (rfO i W M))) 3 p.2), (kz [0, 1] (rfO i W M)).map (fun kept_ => some (wasK (rhoK (kz [0, 1] (rfO i W M))) kept_)), 2, []⟩ := by kernel_rfl
noncomputable def opsAt (c : Code) : Array Oper := match c with | .region _ ops _ => ops | _ => #[]
noncomputable def idAt (c : Code) : Nat := match c with | .region id _ _ => id | _ => 0
noncomputable def opAt (l : List Oper) : Oper := match l with | o :: _ => o | _ => ⟨none, .panic (.const undef), 0, "", #[], .none⟩
/-! The call of Droughts. -/
noncomputable def rfOps : Array Oper := opsAt (nav (bodyOf Tryz.prog 27) [1, 0])
noncomputable def rfId : Nat := idAt (nav (bodyOf Tryz.prog 27) [1, 0])
noncomputable def rfO1 : Oper := opAt (rfOps.toList.drop 1)
noncomputable def rfPre : List Oper := rfOps.toList.take 1
noncomputable def rfPost : List Oper := rfOps.toList.drop 2
theorem rf_ops : rfOps.toList = rfPre ++ rfO1 :: rfPost := by kernel_rfl
theorem rf_todo : rfB0.map (it (bodyOf Tryz.prog 27)) = .code (.region rfId rfOps false) :: [It.code [1, 1]].map (it (bodyOf Tryz.prog 27)) := by kernel_rfl
def rfT0 (tanks : Int) (b0 p : Nat) (d : Nat → Value) : Tm := mkT 58 (rfP tanks (.pointer (some ⟨b0, 0, some 0⟩)) (.pointer (some ⟨p, 0, some 0⟩))) d
theorem rf_pre (B : Lo) (i : Isl) (W M : Value) (tanks : Int) (b0 p : Nat) (d : Nat → Value) : ∃ r, rrunH Tryz.prog goFns B rfOps rfPre (rfT0 tanks b0 p d) [] 0 [(0, .raw (.agg (islC i W M)))] 0 [] = some r ∧ r.T = tput (rfT0 tanks b0 p d) (some 12) (.agg (islC i W M)) ∧ r.n = 0 ∧ r.H = [] ∧
    r.L = [∀ (j : Nat) u, (islC i W M)[j]? = some u → RawCell B b0 (0 + j) u] :=
  ⟨getR (rrunH Tryz.prog goFns B rfOps rfPre (rfT0 tanks b0 p d) [] 0 [(0, .raw (.agg (islC i W M)))] 0 []), by kernel_rfl, by kernel_rfl, by kernel_rfl, by kernel_rfl, by kernel_rfl⟩
theorem nodefer {o : Oper} (h : isDefer o.op = false) : ∀ c, o.op ≠ .defer c := fun c e => by
  rw [e] at h
  cases h
theorem rf_dst (tanks : Int) (b0 p : Nat) (d : Nat → Value) (v : Value) : dstOk (tput (rfT0 tanks b0 p d) (some 12) v) rfO1.dst = true := by kernel_rfl
theorem rf_want (tanks : Int) (b0 p : Nat) (d : Nat → Value) (v : Value) : Region.wanted rfO1 (yieldedC rfOps (tput (rfT0 tanks b0 p d) (some 12) v)) = true := by kernel_rfl
theorem rf_cop (tanks : Int) (b0 p : Nat) (d : Nat → Value) (cs : Array Value) : copR Tryz.prog goFns (evC (tput (rfT0 tanks b0 p d) (some 12) (.agg cs))) rfO1 [] 0 = some ⟨.enter 42 #[.agg cs], [], 0, [], []⟩ := by kernel_rfl
theorem rf_post (B : Lo) (tanks : Int) (b0 p g c K : Nat) (d : Nat → Value) (v : Value) : ∃ r, rrunH Tryz.prog goFns B rfOps rfPost (tput (tput (rfT0 tanks b0 p d) (some 12) v) rfO1.dst (.slice (some ⟨g, 0, some 0⟩) K c)) [] 0 [] 0 [] = some r ∧
    r.T = tput (tput (tput (rfT0 tanks b0 p d) (some 12) v) (some 13) (.slice (some ⟨g, 0, some 0⟩) K c)) (some 5) (.slice (some ⟨g, 0, some 0⟩) K c) ∧ r.n = 0 ∧ r.H = [] ∧ r.L = [] :=
  ⟨getR (rrunH Tryz.prog goFns B rfOps rfPost (tput (tput (rfT0 tanks b0 p d) (some 12) v) rfO1.dst (.slice (some ⟨g, 0, some 0⟩) K c)) [] 0 [] 0 []), by kernel_rfl, by kernel_rfl, by kernel_rfl, by kernel_rfl, by kernel_rfl⟩
/-! The store of what was found. -/
def rfPath : List Nat := [1, 1, 0, 1, 0, 0, 1, 0, 0, 1, 1, 0, 0, 1, 0, 0, 1, 1, 0, 0]
noncomputable def sbOps : Array Oper := opsAt (nav (bodyOf Tryz.prog 27) rfPath)
noncomputable def sbId : Nat := idAt (nav (bodyOf Tryz.prog 27) rfPath)
noncomputable def sbPre : List Oper := sbOps.toList.take 8
noncomputable def sbO : Oper := opAt (sbOps.toList.drop 8)
theorem sb_ops : sbOps.toList = sbPre ++ [sbO] := by kernel_rfl
theorem sb_todo : rfX.map (it (bodyOf Tryz.prog 27)) = .code (.region sbId sbOps false) :: (rfX.drop 1).map (it (bodyOf Tryz.prog 27)) := by kernel_rfl
def sbT0 (tanks : Int) (b0 p g c K n k : Nat) (r v : Int) (d : Nat → Value) : Tm := mkT 58 (rfB tanks b0 p g c K n k r v) d
noncomputable def sbR (B : Lo) (tanks : Int) (b0 p g c K n k : Nat) (r v : Int) (rb nm rc : Nat) (d : Nat → Value) : Option RR := rrunH Tryz.prog goFns B sbOps sbPre (sbT0 tanks b0 p g c K n k r v d) [] 0 [(2, .idx n), (3, .raw (.slice (some ⟨rb, 0, some 0⟩) nm rc))] 0 []
theorem sb_pre (B : Lo) (tanks : Int) (b0 p g c K n k : Nat) (r v : Int) (rb nm rc : Nat) (d : Nat → Value) : ∃ q, sbR B tanks b0 p g c K n k r v rb nm rc d = some q ∧ q.T = (getR (sbR B tanks b0 p g c K n k r v rb nm rc d)).T ∧ q.n = 0 ∧ q.H = [] ∧
    q.L = [RawCell B g (0 + n * 1) (.slice (some ⟨rb, 0, some 0⟩) nm rc), (n : Int) = (n : Int) ∧ n < K] :=
  ⟨getR (sbR B tanks b0 p g c K n k r v rb nm rc d), by kernel_rfl, rfl, by kernel_rfl, by kernel_rfl, by kernel_rfl⟩
def fzB (rb nm rc k : Nat) (r v : Int) : Array Value := #[.slice (some ⟨rb, 0, some 0⟩) nm rc, .int .i64 k, .int .i64 r, .int .i64 v]
theorem sb_cop (B : Lo) (tanks : Int) (b0 p g c K n k : Nat) (r v : Int) (rb nm rc : Nat) (d : Nat → Value) : copR Tryz.prog goFns (evC (tput (getR (sbR B tanks b0 p g c K n k r v rb nm rc d)).T (some 4) (.pointer (some ⟨0, 0, none⟩)))) sbO [(0, .cells fz0 59 (0, 0))] 1 =
    some ⟨.val undef, [(0, .cells (fzB rb nm rc k r v) 59 (0, 0))], 1, [0], [0]⟩ := by kernel_rfl
theorem sb_dst : sbO.dst = none := by kernel_rfl
theorem sb_want (B : Lo) (tanks : Int) (b0 p g c K n k : Nat) (r v : Int) (rb nm rc : Nat) (d : Nat → Value) : Region.wanted sbO (yieldedC sbOps (getR (sbR B tanks b0 p g c K n k r v rb nm rc d)).T) = true := by kernel_rfl
theorem sb_slot (B : Lo) (tanks : Int) (b0 p g c K n k : Nat) (r v : Int) (rb nm rc : Nat) (d : Nat → Value) : tget (getR (sbR B tanks b0 p g c K n k r v rb nm rc d)).T 4 = .pointer (some ⟨p, 0, some 0⟩) := by kernel_rfl
set_option maxRecDepth 100000 in
theorem sb_end (B B' : Lo) (tanks : Int) (b0 p g c K n k : Nat) (r v : Int) (rb nm rc : Nat) (d : Nat → Value) : endedB (srun Tryz.prog goFns B 3 1 ⟨27, tput (getR (sbR B' tanks b0 p g c K n k r v rb nm rc d)).T (some 4) (.pointer (some ⟨0, 0, none⟩)), (rfX.drop 1).map (it (bodyOf Tryz.prog 27)), [], .run, none⟩ [(0, .cells (fzB rb nm rc k r v) 59 (0, 0))] 1 [] 0 [] []) [] =
    some (⟨.ret (.agg (fzB rb nm rc k r v)), [], 1, []⟩, []) := by kernel_rfl
/-! The store of no fault. -/
noncomputable def snOps : Array Oper := opsAt (nav (bodyOf Tryz.prog 27) [1, 1, 1, 0])
noncomputable def snId : Nat := idAt (nav (bodyOf Tryz.prog 27) [1, 1, 1, 0])
noncomputable def snPre : List Oper := snOps.toList.take 1
noncomputable def snO : Oper := opAt (snOps.toList.drop 1)
theorem sn_ops : snOps.toList = snPre ++ [snO] := by kernel_rfl
theorem sn_todo : rfY.map (it (bodyOf Tryz.prog 27)) = .code (.region snId snOps false) :: (rfY.drop 1).map (it (bodyOf Tryz.prog 27)) := by kernel_rfl
noncomputable def snR (B : Lo) (tanks : Int) (b0 p g c K n : Nat) (d : Nat → Value) : Option RR := rrunH Tryz.prog goFns B snOps snPre (mkT 58 (rfL tanks b0 p g c K n) d) [] 0 [] 0 []
theorem sn_pre (B : Lo) (tanks : Int) (b0 p g c K n : Nat) (d : Nat → Value) : ∃ q, snR B tanks b0 p g c K n d = some q ∧ q.T = (getR (snR B tanks b0 p g c K n d)).T ∧ q.n = 0 ∧ q.H = [] ∧ q.L = [] :=
  ⟨getR (snR B tanks b0 p g c K n d), by kernel_rfl, rfl, by kernel_rfl, by kernel_rfl, by kernel_rfl⟩
theorem sn_cop (B : Lo) (tanks : Int) (b0 p g c K n : Nat) (d : Nat → Value) : copR Tryz.prog goFns (evC (tput (getR (snR B tanks b0 p g c K n d)).T (some 4) (.pointer (some ⟨0, 0, none⟩)))) snO [(0, .cells fz0 59 (0, 0))] 1 =
    some ⟨.val undef, [(0, .cells #[.slice none 0 0, .int .i64 0, .int .i64 1, .int .i64 0] 59 (0, 0))], 1, [0], [0]⟩ := by kernel_rfl
theorem sn_dst : snO.dst = none := by kernel_rfl
theorem sn_want (B : Lo) (tanks : Int) (b0 p g c K n : Nat) (d : Nat → Value) : Region.wanted snO (yieldedC snOps (getR (snR B tanks b0 p g c K n d)).T) = true := by kernel_rfl
theorem sn_slot (B : Lo) (tanks : Int) (b0 p g c K n : Nat) (d : Nat → Value) : tget (getR (snR B tanks b0 p g c K n d)).T 4 = .pointer (some ⟨p, 0, some 0⟩) := by kernel_rfl
set_option maxRecDepth 100000 in
theorem sn_end (B B' : Lo) (tanks : Int) (b0 p g c K n : Nat) (d : Nat → Value) : endedB (srun Tryz.prog goFns B 3 1 ⟨27, tput (getR (snR B' tanks b0 p g c K n d)).T (some 4) (.pointer (some ⟨0, 0, none⟩)), (rfY.drop 1).map (it (bodyOf Tryz.prog 27)), [], .run, none⟩ [(0, .cells #[.slice none 0 0, .int .i64 0, .int .i64 1, .int .i64 0] 59 (0, 0))] 1 [] 0 [] []) [] =
    some (⟨.ret (.agg #[.slice none 0 0, .int .i64 0, .int .i64 1, .int .i64 0]), [], 1, []⟩, []) := by kernel_rfl
end Go.Proofs.YtffdidleebognaaGreatDoor

namespace Go.Proofs.YtffdidleebognaaGreatDoor
open Go Go.CE Go.Proofs Go.RowKit Lens
/-- The first fault among the first n droughts of a list: its place there, and its month. -/
def rfTo (i : Isl) (tanks : Int) (l : List Nat) : Nat → Option (Nat × Nat)
  | 0 => none
  | n + 1 => match rfTo i tanks l n with
    | some x => some x
    | none => (badTo i tanks (bitsDry i.nm (l.getD n 0)) i.nm).map fun m => (n, m)
theorem rfTo_app {i : Isl} {tanks : Int} {l : List Nat} {x : Nat} : ∀ n, n ≤ l.length → rfTo i tanks (l ++ [x]) n = rfTo i tanks l n
  | 0, _ => rfl
  | n + 1, h => by
    have e : (l ++ [x]).getD n 0 = l.getD n 0 := by
      simp only [List.getD_eq_getElem?_getD, List.getElem?_append_left (show n < l.length by omega)]
    have h0 := rfTo_app (i := i) (tanks := tanks) (l := l) (x := x) n (by omega)
    simp only [rfTo, h0, e]
theorem rfTo_lt {i : Isl} {tanks : Int} {l : List Nat} : ∀ {k n m : Nat}, rfTo i tanks l k = some (n, m) → n < k ∧ rfTo i tanks l n = none ∧ badTo i tanks (bitsDry i.nm (l.getD n 0)) i.nm = some m
  | 0, _, _, h => by cases h
  | k + 1, n, m, h => by
    simp only [rfTo] at h
    split at h
    · rename_i x hx
      cases h
      have := rfTo_lt hx
      exact ⟨by omega, this.2⟩
    · rename_i hx
      cases hb : badTo i tanks (bitsDry i.nm (l.getD k 0)) i.nm with
      | none => rw [hb] at h; cases h
      | some q =>
        rw [hb] at h
        simp only [Option.map_some, Option.some.injEq, Prod.mk.injEq] at h
        obtain ⟨rfl, rfl⟩ := h
        exact ⟨by omega, hx, hb⟩
theorem rf_eq {i : Isl} {tanks : Int} : ∀ n, ftTo i tanks n = (rfTo i tanks (pas i n) (pas i n).length).map fun x => ((pas i n).getD x.1 0, x.2)
  | 0 => rfl
  | n + 1 => by
    have ih := rf_eq (i := i) (tanks := tanks) n
    have hu : ftTo i tanks (n + 1) = match ftTo i tanks n with
      | some x => some x
      | none => if drB i.most i.row i.nm (bitsDry i.nm n) then (badTo i tanks (bitsDry i.nm n) i.nm).map fun m => (n, m) else none := rfl
    rw [hu, pas_succ]
    cases hz : drB i.most i.row i.nm (bitsDry i.nm n) with
    | false =>
      simp only [Bool.false_eq_true, if_false]
      rw [ih]
      cases rfTo i tanks (pas i n) (pas i n).length <;> rfl
    | true =>
      simp only [if_true]
      rw [List.length_append, List.length_singleton]
      have e4 : (pas i n ++ [n]).getD (pas i n).length 0 = n := by simp [List.getD_eq_getElem?_getD]
      have hv : rfTo i tanks (pas i n ++ [n]) ((pas i n).length + 1) = match rfTo i tanks (pas i n) (pas i n).length with
        | some x => some x
        | none => (badTo i tanks (bitsDry i.nm n) i.nm).map fun m => ((pas i n).length, m) := by
        simp only [rfTo, rfTo_app _ (Nat.le_refl _), e4]
      rw [hv, ih]
      cases h : rfTo i tanks (pas i n) (pas i n).length with
      | some x =>
        obtain ⟨a, b⟩ := x
        have := (rfTo_lt h).1
        simp only [Option.map_some, List.getD_eq_getElem?_getD, List.getElem?_append_left this]
      | none =>
        simp only [Option.map_none]
        cases badTo i tanks (bitsDry i.nm n) i.nm with
        | none => rfl
        | some m => simp only [Option.map_some, e4]
section
variable {i : Isl} {wa : Option Addr} {wc mb mo mc : Nat} {ma : Option Addr} {tanks : Int} {w : World} {n : Nat}
noncomputable abbrev rfC (tanks : Int) (b0 p g c K : Nat) (isl : Value) (d : Nat → Value) : CF := ⟨27, tput (tput (tput (rfT0 tanks b0 p d) (some 12) isl) (some 13) (.slice (some ⟨g, 0, some 0⟩) K c)) (some 5) (.slice (some ⟨g, 0, some 0⟩) K c), [It.code [1, 1]].map (it (bodyOf Tryz.prog 27)), [], .run, none⟩
set_option maxRecDepth 100000 in
theorem rf_all {w2 : World} {b0 p g c : Nat} {rb rc : Nat → Nat} {isl : Value} {d0 : Nat → Value} {l : List Nat} (hi : IslAt w2 w2.heap.size i wa (some ⟨mb, mo, none⟩)) (hI : islB i = true) (ht : tanksB tanks = true)
    (hIsl : ∀ (j : Nat) u, (islC i (rawS wa i.nw wc) (rawS (some ⟨mb, mo, none⟩) i.nm mc))[j]? = some u → RawCell (worldLo w2) b0 (0 + j) u) (hN : Nest w2 g l.length i.nm rb rc fun n => bitsDry i.nm (l.getD n 0)) (hl : l.length ≤ 1000) :
    ∀ n, n ≤ l.length → rfTo i tanks l n = none → (∃ d : Nat → Value, (∀ t, Loose (d t)) ∧ GoE Tryz.prog (worldLo w2) (rfC tanks b0 p g c l.length isl d0) [] 0
      (headC 27 58 (rfL tanks b0 p g c l.length n) d (rfT.map (it (bodyOf Tryz.prog 27)))) (heapO 0 []) 0 []) ∧
      ∀ m, n < l.length → badTo i tanks (bitsDry i.nm (l.getD n 0)) i.nm = some m → ∃ d : Nat → Value, (∀ t, Loose (d t)) ∧ GoE Tryz.prog (worldLo w2) (rfC tanks b0 p g c l.length isl d0) [] 0
      (headC 27 58 (rfB tanks b0 p g c l.length n m (wrongRule i (endsOf i tanks false (bitsDry i.nm (l.getD n 0)) m)) (wrongWell i (endsOf i tanks false (bitsDry i.nm (l.getD n 0)) m))) d (rfX.map (it (bodyOf Tryz.prog 27)))) (heapO 0 []) 0 [] := by
  obtain ⟨hnm1, hnm8, hmost, hrow⟩ := isl_nm' hI
  have hml : i.nm ≤ maxLen := by unfold maxLen; omega
  have hfit : ∀ much d, Fit i tanks (endTru i much i.nm d) := fun much d => fit_end hI ht much _ d
  have ok1 : ∀ t, OkAll 1 [(false, Obj.cells (rowA (seenE i tanks t) i.nm) 53 (1, 1))] := fun t => ⟨.inr ⟨rfl, loose_seenE _ _ _ _⟩, trivial⟩
  have hrb : ∀ n, n < l.length → RawCell (worldLo w2) g (0 + n * 1) (.slice (some ⟨rb n, 0, some 0⟩) i.nm (rc n)) := fun n hn => by
    rw [show 0 + n * 1 = n by omega]
    exact raw_of hN.lt (hN.at' n hn) fun _ => .rawSlice _ _ 0 _ _
  have hbit : ∀ n, n < l.length → ∀ k, k < i.nm → RawCell (worldLo w2) (rb n) (0 + k * 1) (.bool (bitsDry i.nm (l.getD n 0) k)) := fun n hn k hk => by
    rw [show 0 + k * 1 = k by omega]
    exact raw_of (hN.row n hn).1 ((hN.row n hn).2 k hk) fun _ => .bool _
  have inner : ∀ n, n < l.length → (∃ d : Nat → Value, (∀ t, Loose (d t)) ∧ GoE Tryz.prog (worldLo w2) (rfC tanks b0 p g c l.length isl d0) [] 0
      (headC 27 58 (rfL tanks b0 p g c l.length n) d (rfT.map (it (bodyOf Tryz.prog 27)))) (heapO 0 []) 0 []) →
      ∀ k, k ≤ i.nm → badTo i tanks (bitsDry i.nm (l.getD n 0)) k = none → ∃ d : Nat → Value, (∀ t, Loose (d t)) ∧ GoE Tryz.prog (worldLo w2) (rfC tanks b0 p g c l.length isl d0) [] 0
        (headC 27 58 (rfI tanks b0 p g c l.length i.nm n k) d (rfU.map (it (bodyOf Tryz.prog 27)))) (heapO 0 [(false, Obj.cells (rowA (seenE i tanks (endTru i false i.nm (bitsDry i.nm (l.getD n 0)))) i.nm) 53 (1, 1))]) 1 [] := by
    intro n hlt ⟨d, _, hg⟩ k
    let dr := bitsDry i.nm (l.getD n 0)
    let ta := endTru i false i.nm dr
    induction k with
    | zero =>
      intro _ _
      exact hg.headO goFns_ok mixed_ok
        (rf_run (worldLo w2) i (rawS wa i.nw wc) (rawS (some ⟨mb, mo, none⟩) i.nm mc) tanks b0 p g c l.length (rb n) (rc n) n (rowA (intE ta.rains) i.nm) (rowA (intE ta.needs) i.nm) (rowA (seenE i tanks ta) i.nm) i.sl i.kl i.lh
          (i.size * tanks + ta.start) (runTo i tanks ta i.nm).rain (runTo i tanks ta i.nm).used (runTo i tanks ta i.nm).leak (runTo i tanks ta i.nm).sea ((runTo i tanks ta i.nm).tanks + (runTo i tanks ta i.nm).lens) d)
        ⟨con_runR (w := w2) (i := i) (tanks := tanks) (wa := wa) (wc := wc) (ma := some ⟨mb, mo, none⟩) (mc := mc) (t := ta) (n := 2) (r := 0) (s := 1) (rb := rb n) (rc := rc n) (by omega) (by omega) hml hml hml (hN.row n hlt).1 (hN.row n hlt).2 (hfit _ _) hnm1,
          ler_con (d := dr) hi hnm1 (Nat.le_refl _) hnm8 (hbit n hlt), hrb n hlt, ⟨rfl, hlt⟩, hIsl, hIsl, ltq_t (by omega), trivial⟩
        (by kernel_rfl) (by kernel_rfl) (by kernel_rfl) (by kernel_rfl) (by kernel_rfl) (by kernel_rfl) (ok1 _)
    | succ k ih =>
      intro hk hb
      obtain ⟨hr, hb'⟩ := badTo_none hb k (by omega)
      obtain ⟨d, _, hg⟩ := ih (by omega) hb'
      have hkn : k < i.nm := by omega
      exact hg.headO goFns_ok mixed_ok
        (rf_in (worldLo w2) i (rawS wa i.nw wc) (rawS (some ⟨mb, mo, none⟩) i.nm mc) tanks b0 p g c l.length n k (rowA (seenE i tanks ta) i.nm) (endsOf i tanks false dr k) (wrongRule i (endsOf i tanks false dr k)) (wrongWell i (endsOf i tanks false dr k)) d)
        ⟨wq_in (by omega) (by omega), by rw [eqq_t hr]; rfl, con_rWrong hi _, seen_get hkn, ⟨rfl, hkn⟩, hIsl, ltq_t (by omega), trivial⟩
        (by kernel_rfl) (by kernel_rfl) (by kernel_rfl) (by kernel_rfl) (by kernel_rfl) (by kernel_rfl) (ok1 _)
  have heads : ∀ n, n ≤ l.length → rfTo i tanks l n = none → ∃ d : Nat → Value, (∀ t, Loose (d t)) ∧ GoE Tryz.prog (worldLo w2) (rfC tanks b0 p g c l.length isl d0) [] 0
      (headC 27 58 (rfL tanks b0 p g c l.length n) d (rfT.map (it (bodyOf Tryz.prog 27)))) (heapO 0 []) 0 [] := by
    intro n
    induction n with
    | zero =>
      intro _ _
      exact (GoE.refl (P := Tryz.prog) (B := worldLo w2) (c0 := rfC tanks b0 p g c l.length isl d0) under_nil).headO goFns_ok mixed_ok (rf_start (worldLo w2) tanks b0 p g c l.length isl d0) trivial
        (by kernel_rfl) (by kernel_rfl) (by kernel_rfl) (by kernel_rfl) (by kernel_rfl) (by kernel_rfl) trivial
    | succ n ih =>
      intro hn hnone
      have hsp : rfTo i tanks l n = none ∧ badTo i tanks (bitsDry i.nm (l.getD n 0)) i.nm = none := by
        simp only [rfTo] at hnone
        split at hnone
        · cases hnone
        · rename_i hx
          refine ⟨hx, ?_⟩
          cases hb : badTo i tanks (bitsDry i.nm (l.getD n 0)) i.nm with
          | none => rfl
          | some m => rw [hb] at hnone; cases hnone
      obtain ⟨d, _, hg⟩ := inner n (by omega) (ih (by omega) hsp.1) i.nm (Nat.le_refl _) hsp.2
      exact hg.headO goFns_ok mixed_ok (rf_next (worldLo w2) i.nm tanks b0 p g c l.length n i.nm (rowA (seenE i tanks (endTru i false i.nm (bitsDry i.nm (l.getD n 0)))) i.nm) d) ⟨wq_in (by omega) (by omega), ltq_f (by omega), trivial⟩
        (by kernel_rfl) (by kernel_rfl) (by kernel_rfl) (by kernel_rfl) (by kernel_rfl) (by kernel_rfl) trivial
  refine fun n hn hnone => ⟨heads n hn hnone, fun m hlt hbad => ?_⟩
  obtain ⟨hmn, hr, hb'⟩ := badTo_some hbad
  obtain ⟨d, _, hg⟩ := inner n hlt (heads n hn hnone) m (by omega) hb'
  exact hg.headO goFns_ok mixed_ok
    (rf_bad (worldLo w2) i (rawS wa i.nw wc) (rawS (some ⟨mb, mo, none⟩) i.nm mc) tanks b0 p g c l.length n m (rowA (seenE i tanks (endTru i false i.nm (bitsDry i.nm (l.getD n 0)))) i.nm) (endsOf i tanks false (bitsDry i.nm (l.getD n 0)) m) (wrongRule i (endsOf i tanks false (bitsDry i.nm (l.getD n 0)) m)) (wrongWell i (endsOf i tanks false (bitsDry i.nm (l.getD n 0)) m)) d)
    ⟨by rw [eqq_f hr]; rfl, con_rWrong hi _, seen_get hmn, ⟨rfl, hmn⟩, hIsl, ltq_t (by omega), trivial⟩
    (by kernel_rfl) (by kernel_rfl) (by kernel_rfl) (by kernel_rfl) (by kernel_rfl) (by kernel_rfl) trivial
theorem fz0_af : ∀ v ∈ fz0, af v = true := fun v hv => by
  simp only [fz0, List.mem_toArray, List.mem_cons, List.not_mem_nil, or_false] at hv
  rcases hv with rfl | rfl | rfl | rfl <;> rfl
theorem ex_flt (rb nm rc : Nat) (k r v : Int) : Exact (.agg #[.slice (some ⟨rb, 0, some 0⟩) nm rc, .int .i64 k, .int .i64 r, .int .i64 v]) (.agg #[.slice (some ⟨rb, 0, none⟩) nm rc, .int .i64 k, .int .i64 r, .int .i64 v]) :=
  exact_agg (.cons (exact_rawS (some ⟨rb, 0, none⟩) nm rc) (.cons (exact_af rfl) (.cons (exact_af rfl) (.cons (exact_af rfl) .nil))))
theorem ex_flt0 : Exact (.agg #[.slice none 0 0, .int .i64 0, .int .i64 1, .int .i64 0]) (.agg #[.slice none 0 0, .int .i64 0, .int .i64 1, .int .i64 0]) :=
  exact_agg (.cons (exact_af rfl) (.cons (exact_af rfl) (.cons (exact_af rfl) (.cons (exact_af rfl) .nil))))
set_option maxRecDepth 100000 in
theorem rFault_any (hi : IslAt w w.heap.size i wa ma) (hI : islB i = true) (ht : tanksB tanks = true) (h7 : i.nm ≤ 7) :
    Calls Tryz.prog 27 #[islV i wa wc ma mc, .int .i64 tanks] w fun e' w' => ((ftTo i tanks (2 ^ i.nm) = none → e' = .returned (.agg #[.slice none 0 0, .int .i64 0, .int .i64 1, .int .i64 0])) ∧
      ∀ b m, ftTo i tanks (2 ^ i.nm) = some (b, m) → ∃ g c, e' = .returned (.agg #[.slice (some ⟨g, 0, none⟩) i.nm c, .int .i64 m, .int .i64 (wrongRule i (endsOf i tanks false (bitsDry i.nm b) m)), .int .i64 (wrongWell i (endsOf i tanks false (bitsDry i.nm b) m))]) ∧
        w.heap.size ≤ g ∧ g < w'.heap.size ∧ i.nm ≤ c ∧ c ≤ maxLen ∧ ∀ j, j < i.nm → w'.cell? ⟨g, j, none⟩ = some (.bool (bitsDry i.nm b j))) ∧ Below w.heap.size w w' := by
  obtain ⟨hnm1, hnm8, hmost, hrow⟩ := isl_nm' hI
  obtain ⟨mb, mo, rfl, _⟩ := monsGet hi.months (show 0 < i.nm by omega)
  have hp2 : 2 ^ i.nm ≤ 128 := Nat.pow_le_pow_right (by decide) h7
  have hlen : (pas i (2 ^ i.nm)).length ≤ 1000 := Nat.le_trans (Nat.le_trans (List.length_filter_le _ _) (by simp)) (show 2 ^ i.nm ≤ 1000 by omega)
  rw [rf_eq (2 ^ i.nm)]
  generalize hL : pas i (2 ^ i.nm) = l at hlen ⊢
  intro cs
  have hst : At Tryz.prog (Frame.enter Tryz.prog 27 #[islV i wa wc (some ⟨mb, mo, none⟩) mc, .int .i64 tanks] .normal) cs w (worldLo w) (entryC Tryz.prog 27 58 [islR i wa wc (some ⟨mb, mo, none⟩) mc, .int .i64 tanks]) [] 0 w :=
    At.start (args := #[islR i wa wc (some ⟨mb, mo, none⟩) mc, .int .i64 tanks]) (by kernel_rfl) (VRl.vrs' (.cons (vr_isl i wa wc (some ⟨mb, mo, none⟩) mc) (.cons (.int _ _) .nil)))
  obtain ⟨d, hd, hg0⟩ := (GoE.refl (P := Tryz.prog) (B := worldLo w) (c0 := entryC Tryz.prog 27 58 [islR i wa wc (some ⟨mb, mo, none⟩) mc, .int .i64 tanks]) under_nil).headO goFns_ok mixed_ok (live := rfP tanks (.pointer (some ⟨0, 0, none⟩)) (.pointer (some ⟨1, 0, none⟩)))
    (rf_prefix (worldLo w) i (rawS wa i.nw wc) (rawS (some ⟨mb, mo, none⟩) i.nm mc) tanks) trivial (by kernel_rfl) (by kernel_rfl) (by kernel_rfl) (by kernel_rfl) (by kernel_rfl) (by kernel_rfl) ⟨.inr ⟨rfl, loose_isl i wa wc (some ⟨mb, mo, none⟩) mc⟩, .inr ⟨rfl, fun v hv => loose_af (fz0_af v hv)⟩, trivial⟩
  obtain ⟨w1, hat⟩ := hst.go hg0
  obtain ⟨μ, A, hok, hh, hmk⟩ := hat.rebase (by decide) hd (by kernel_rfl) (by kernel_rfl) (by kernel_rfl)
  obtain ⟨im0, him0, hor0⟩ := hok.rel 0 (.cells (islC i (rawS wa i.nw wc) (.slice (some ⟨mb, mo, some 0⟩) i.nm mc)) 27 (0, 0)) (by show 0 < 2; omega) rfl trivial
  obtain ⟨im1, him1, hor1⟩ := hok.rel 1 (.cells fz0 59 (0, 0)) (by show 1 < 2; omega) rfl trivial
  have hl0 := (hok.low 0 (.cells (islC i (rawS wa i.nw wc) (.slice (some ⟨mb, mo, some 0⟩) i.nm mc)) 27 (0, 0)) im0 (by show 0 < 2; omega) rfl trivial him0).1
  have hl1 := hok.low 1 (.cells fz0 59 (0, 0)) im1 (by show 1 < 2; omega) rfl trivial him1
  have o0 : im0.off = 0 := by
    rcases hor0 with ⟨_, _, h, _⟩ | ⟨h, _⟩
    · exact h
    · exact absurd rfl h
  obtain ⟨hrw1, o1, arr, harr1, hasz, _, hacs⟩ : im1.rw = true ∧ im1.off = 0 ∧ ∃ arr, w1.heap[im1.blk]? = some (.cells arr 59 (0, 0)) ∧ fz0.size ≤ arr.size ∧ arr.size = im1.cap ∧ ∀ (i : Nat) v, fz0[i]? = some v → ∃ v', arr[i]? = some v' ∧ VR μ v v' := by
    rcases hor1 with ⟨_, h1, h2, h3⟩ | ⟨h, _⟩
    · exact ⟨h1, h2, h3⟩
    · exact absurd rfl h
  have hac : ∀ (i : Nat) v, fz0[i]? = some v → ∃ v', arr[i]? = some v' ∧ ∀ μ, VR μ v v' := fun j v hv => by
    obtain ⟨v', h1, h2⟩ := hacs j v hv
    have ha := fz0_af v (Array.mem_of_getElem? hv)
    rw [af_eq ha h2] at h1
    exact ⟨v, h1, fun _ => vr_af ha⟩
  have hpge : w.heap.size ≤ im1.blk := hl1.2.1 hrw1
  have hP := hh (2, .pointer (some ⟨0, 0, none⟩)) (by simp [rfP])
  have hQ := hh (4, .pointer (some ⟨1, 0, none⟩)) (by simp [rfP])
  have hT := hh (1, .int .i64 tanks) (by simp [rfP])
  have ptr : ∀ {k : Nat} {im : Img} {v : Value}, μ k = some im → im.off = 0 → VR μ (.pointer (some ⟨k, 0, none⟩)) v → v = .pointer (some ⟨im.blk, 0, none⟩) := fun hk ho h => by
    cases h with
    | ptr har =>
      obtain ⟨im', q1, _, rfl⟩ := har
      rw [hk] at q1; cases q1
      simp [ho]
  have eP := ptr him0 o0 hP
  have eQ := ptr him1 o1 hQ
  have hat1 := hmk (rfP tanks (.pointer (some ⟨im0.blk, 0, some 0⟩)) (.pointer (some ⟨im1.blk, 0, some 0⟩))) rfl fun p hp => by
    simp only [rfP, List.mem_cons, List.not_mem_nil, or_false] at hp
    rcases hp with rfl | rfl | rfl
    · rw [af_eq (v := .int .i64 tanks) rfl hT]; exact .int _ _
    · rw [eP]; exact .rawPtr _ _ 0
    · rw [eQ]; exact .rawPtr _ _ 0
  have hcell : ∀ (j : Nat) v, (islC i (rawS wa i.nw wc) (rawS (some ⟨mb, mo, none⟩) i.nm mc))[j]? = some v → ∃ μ v', w1.cell? ⟨im0.blk, j, none⟩ = some v' ∧ VR μ v v' := fun j v hv => by
    obtain ⟨v', hc, hv'⟩ := hor0.cell hv
    rw [o0, Nat.zero_add] at hc
    exact ⟨μ, v', hc, hv'⟩
  have hhas : (worldLo w).has w1 := ⟨hat.below.size, fun b hb => hat.below.block b hb⟩
  have hi1 := islAt_lo hi hhas
  obtain ⟨r, hr, hrT, hrn, hrH, hrL⟩ := rf_pre (worldLo w1) i (rawS wa i.nw wc) (rawS (some ⟨mb, mo, none⟩) i.nm mc) tanks im0.blk im1.blk d
  have hat2 : At Tryz.prog (Frame.enter Tryz.prog 27 #[islV i wa wc (some ⟨mb, mo, none⟩) mc, .int .i64 tanks] .normal) cs w (worldLo w1) ⟨27, rfT0 tanks im0.blk im1.blk d, .code (.region rfId rfOps false) :: [It.code [1, 1]].map (it (bodyOf Tryz.prog 27)), [], .run, none⟩ [] 0 w1 := by
    rw [← rf_todo]; exact hat1
  obtain ⟨v, w2, ⟨g, c, rb, rc, rfl, hge, hN⟩, hblk, hsz, hnext⟩ := hat2.callX (Q := fun v w2 => ∃ g c rb rc, v = .slice (some ⟨g, 0, none⟩) l.length c ∧ (∀ n, n < l.length → w1.heap.size ≤ rb n) ∧ Nest w2 g l.length i.nm rb rc fun n => bitsDry i.nm (l.getD n 0)) (g := 42) (args := #[islR i wa wc (some ⟨mb, mo, none⟩) mc]) (r := r) goFns_ok rf_ops (by kernel_rfl) hr
    (by rw [hrL]; exact ⟨isl_raw hl0 hcell, trivial⟩) hrn hrH (by rw [hrT]; exact rf_dst _ _ _ _ _) (by rw [hrT]; exact rf_want _ _ _ _ _) (nodefer (by kernel_rfl)) (by rw [hrT]; exact rf_cop _ _ _ _ _) fun w' args' hB ha => by
      rw [(show ExL [islR i wa wc (some ⟨mb, mo, none⟩) mc] [islV i wa wc (some ⟨mb, mo, none⟩) mc] from .cons (exact_isl _ _ _ _ _) .nil).args ha]
      refine (rDroughts_any (wc := wc) (mc := mc) (islAt_lo hi1 hB) hI h7).mono fun e w'' ⟨⟨v, he, g, c, rb, rc, hv, _, _, _, hge, hN⟩, hb⟩ => ⟨⟨v, he, g, c, rb, rc, ?_, ?_, ?_⟩, hb⟩
      · rw [hL] at hv; exact hv
      · rw [hL] at hge; exact fun n hn => Nat.le_trans hB.le (hge n hn)
      · rw [hL] at hN; exact hN
  have hhas2 : (worldLo w1).has w2 := ⟨hsz, hblk⟩
  have hi2 := islAt_lo hi1 hhas2
  obtain ⟨r2, hr2, hrT2, hrn2, hrH2, hrL2⟩ := rf_post (worldLo w2) tanks im0.blk im1.blk g c l.length d (.agg (islC i (rawS wa i.nw wc) (rawS (some ⟨mb, mo, none⟩) i.nm mc)))
  obtain ⟨w3, hat3⟩ := hnext (.slice (some ⟨g, 0, some 0⟩) l.length c) [] 0 r2 (.rawSlice _ _ 0 _ _) (by rw [hrT]; exact hr2) (by rw [hrL2]; trivial)
  rw [hrT2, hrn2, hrH2] at hat3
  have hIsl := isl_raw (wc := wc) (mc := mc) (ma := some ⟨mb, mo, none⟩) (Nat.lt_of_lt_of_le hl0 hsz) fun j v hv => by
    obtain ⟨μ, v', h1, h2⟩ := hcell j v hv
    exact ⟨μ, v', (worldLo_cell hhas2 hl0).trans h1, h2⟩
  have all := rf_all (tanks := tanks) (p := im1.blk) (c := c) (isl := .agg (islC i (rawS wa i.nw wc) (rawS (some ⟨mb, mo, none⟩) i.nm mc))) (d0 := d) hi2 hI ht hIsl hN hlen
  have hp2' : w2.heap[im1.blk]? = some (.cells arr 59 (0, 0)) := (hblk _ hl1.1).trans harr1
  have hplt2 : im1.blk < w2.heap.size := Nat.lt_of_lt_of_le hl1.1 hsz
  cases hft : rfTo i tanks l l.length with
  | none =>
    obtain ⟨⟨d', _, hg⟩, _⟩ := all l.length (Nat.le_refl _) hft
    obtain ⟨d4, _, hg4⟩ := hg.headO goFns_ok mixed_ok (rf_none (worldLo w2) tanks im0.blk im1.blk g c l.length l.length d') ⟨ltq_f (Int.le_refl _), trivial⟩ (by kernel_rfl) (by kernel_rfl) (by kernel_rfl) (by kernel_rfl) (by kernel_rfl) (by kernel_rfl) trivial
    obtain ⟨w4, hat4⟩ := hat3.go hg4
    have hp4 : w4.heap[im1.blk]? = some (.cells arr 59 (0, 0)) := (hat4.has.inv _ hplt2).trans hp2'
    obtain ⟨q, hq, hqT, hqn, hqH, hqL⟩ := sn_pre (worldLo w2) tanks im0.blk im1.blk g c l.length l.length d4
    have hat5 : At Tryz.prog (Frame.enter Tryz.prog 27 #[islV i wa wc (some ⟨mb, mo, none⟩) mc, .int .i64 tanks] .normal) cs w (worldLo w2) ⟨27, mkT 58 (rfL tanks im0.blk im1.blk g c l.length l.length) d4, .code (.region snId snOps false) :: (rfY.drop 1).map (it (bodyOf Tryz.prog 27)), [], .run, none⟩ [] 0 w4 := by
      rw [← sn_todo]; exact hat4
    obtain ⟨w5, hfr5, hsz5, hat6⟩ := hat5.storeOwn (p := im1.blk) (s := 4) goFns_ok sn_ops (by kernel_rfl) hq (by rw [hqL]; trivial) hqn hqH sn_dst (by rw [hqT]; exact sn_want _ _ _ _ _ _ _ _ _) (nodefer (by kernel_rfl)) hpge hp4 hasz hac (by decide) (by rw [hqT]; exact sn_slot _ _ _ _ _ _ _ _ _) (by rw [hqT]; exact sn_cop _ _ _ _ _ _ _ _ _)
    rw [hqT] at hat6
    refine hat6.endsW goFns_ok mixed_ok (under_heapO [(false, Obj.cells #[.slice none 0 0, .int .i64 0, .int .i64 1, .int .i64 0] 59 (0, 0))] (Nat.le_refl 1)) (sn_end (worldLo w) (worldLo w2) tanks im0.blk im1.blk g c l.length l.length d4) trivial fun v' μ' w' hv hb hB hsame _ => ⟨⟨fun _ => by rw [ex_flt0.2 _ _ hv], fun b m h => by cases h⟩, hb⟩
  | some x =>
    obtain ⟨n, m⟩ := x
    obtain ⟨hlt, hnone, hbad⟩ := rfTo_lt hft
    obtain ⟨d4, _, hg4⟩ := (all n (by omega) hnone).2 m hlt hbad
    obtain ⟨w4, hat4⟩ := hat3.go hg4
    have hp4 : w4.heap[im1.blk]? = some (.cells arr 59 (0, 0)) := (hat4.has.inv _ hplt2).trans hp2'
    have hN4 := hN.lo hat4.has
    have hrb : RawCell (worldLo w2) g (0 + n * 1) (.slice (some ⟨rb n, 0, some 0⟩) i.nm (rc n)) := by
      rw [show 0 + n * 1 = n by omega]
      exact raw_of hN.lt (hN.at' n hlt) fun _ => .rawSlice _ _ 0 _ _
    generalize hr0 : wrongRule i (endsOf i tanks false (bitsDry i.nm (l.getD n 0)) m) = rr at hat4
    generalize hv0 : wrongWell i (endsOf i tanks false (bitsDry i.nm (l.getD n 0)) m) = vv at hat4
    obtain ⟨q, hq, hqT, hqn, hqH, hqL⟩ := sb_pre (worldLo w2) tanks im0.blk im1.blk g c l.length n m rr vv (rb n) i.nm (rc n) d4
    have hat5 : At Tryz.prog (Frame.enter Tryz.prog 27 #[islV i wa wc (some ⟨mb, mo, none⟩) mc, .int .i64 tanks] .normal) cs w (worldLo w2) ⟨27, sbT0 tanks im0.blk im1.blk g c l.length n m rr vv d4, .code (.region sbId sbOps false) :: (rfX.drop 1).map (it (bodyOf Tryz.prog 27)), [], .run, none⟩ [] 0 w4 := by
      rw [← sb_todo]; exact hat4
    obtain ⟨w5, hfr5, hsz5, hat6⟩ := hat5.storeOwn (p := im1.blk) (s := 4) goFns_ok sb_ops (by kernel_rfl) hq (by rw [hqL]; exact ⟨hrb, ⟨rfl, hlt⟩, trivial⟩) hqn hqH sb_dst (by rw [hqT]; exact sb_want _ _ _ _ _ _ _ _ _ _ _ _ _ _ _) (nodefer (by kernel_rfl)) hpge hp4 hasz hac (by decide) (by rw [hqT]; exact sb_slot _ _ _ _ _ _ _ _ _ _ _ _ _ _ _) (by rw [hqT]; exact sb_cop _ _ _ _ _ _ _ _ _ _ _ _ _ _ _)
    rw [hqT] at hat6
    refine hat6.endsW goFns_ok mixed_ok (under_heapO [(false, Obj.cells (fzB (rb n) i.nm (rc n) m rr vv) 59 (0, 0))] (Nat.le_refl 1)) (sb_end (worldLo w) (worldLo w2) tanks im0.blk im1.blk g c l.length n m rr vv (rb n) i.nm (rc n) d4) trivial fun v' μ' w' hv hb hB hsame _ => ⟨⟨fun h => (by cases h), fun b m' h => ?_⟩, hb⟩
    simp only [Option.map_some, Option.some.injEq, Prod.mk.injEq] at h
    obtain ⟨rfl, rfl⟩ := h
    have hlt4 := (hN4.row n hlt).1
    have hne : rb n ≠ im1.blk := by have := hge n hlt; have := hl1.1; omega
    have hgeW : w.heap.size ≤ rb n := by have := hge n hlt; have := hat.below.size; omega
    refine ⟨rb n, rc n, by rw [(ex_flt _ _ _ _ _ _).2 _ _ hv, hr0, hv0], hgeW, ?_, (hN.cap n hlt).1, (hN.cap n hlt).2, fun j hj => ?_⟩
    · have h1 : w'.heap[rb n]? = w4.heap[rb n]? := (hsame _ (by omega)).trans (hfr5 _ hlt4 hne)
      have h2 : w4.heap[rb n]? = some w4.heap[rb n] := by simp [hlt4]
      rw [h2] at h1
      exact (Array.getElem?_eq_some_iff.1 h1).1
    · have h1 : w'.heap[rb n]? = w4.heap[rb n]? := (hsame _ (by omega)).trans (hfr5 _ hlt4 hne)
      rw [← (hN4.row n hlt).2 j hj]
      simp only [World.cell?, h1]
end
end Go.Proofs.YtffdidleebognaaGreatDoor

namespace Go.Proofs.YtffdidleebognaaGreatDoor
open Go Go.CE Go.Proofs Go.RowKit Lens
end Go.Proofs.YtffdidleebognaaGreatDoor

namespace Go.Proofs.YtffdidleebognaaGreatDoor
open Go Go.ChangeShapes Go.WideShapes Go.ChangeAt Go.RowKit Go.WideElems Lens
/-- What a law of an islet and a number must do. -/
def Walk2 (f : FuncId) : Prop := ∀ (i : Isl) (wa : Option Addr) (wc : Nat) (ma : Option Addr) (mc : Nat) (x : Int) (w : World),
  IslAt w w.heap.size i wa ma → CE.pow10Is w → Calls Tryz.prog f #[islV i wa wc ma mc, .int .i64 x] w fun e' w' => e' = .returned (.bool true) ∧ Below w.heap.size w w'
end Go.Proofs.YtffdidleebognaaGreatDoor

namespace Lens
/-- A state with less water than another one. -/
structure Less (s s' : St) : Prop where
  tanks : s.tanks ≤ s'.tanks
  lens : s.lens ≤ s'.lens
  lack : s'.lack ≤ s.lack
/-- A truth with less water than another one, in the first n months. -/
structure LessT (n : Nat) (t t' : Tru) : Prop where
  start : t.start ≤ t'.start
  soak : t.soak ≤ t'.soak
  leak : t'.leak ≤ t.leak
  rains : ∀ k, k < n → t.rains k ≤ t'.rains k
  needs : ∀ k, k < n → t'.needs k ≤ t.needs k
end Lens

namespace Go.Proofs.YtffdidleebognaaGreatDoor
open Lens
/-- An end lies within bounds. -/
structure Within (s : Seen) (k : Kn) : Prop where
  t0 : k.tl ≤ s.tanks
  t1 : s.tanks ≤ k.th
  l0 : k.ll ≤ s.lens
  l1 : s.lens ≤ k.lh
  k0 : k.kl ≤ s.lack
  k1 : s.lack ≤ k.kh
end Go.Proofs.YtffdidleebognaaGreatDoor

namespace Go.Proofs.YtffdidleebognaaGreatDoor
open Go Go.CE Go.Proofs Go.RowKit Lens
def ffQ (b nm : Nat) (m r w : Int) : Array Value := #[.slice (some ⟨b, 0, none⟩) nm 0, .int .i64 m, .int .i64 r, .int .i64 w]
def ff0 : Array Value := #[.slice none 0 0, .int .i64 0, .int .i64 0, .int .i64 0]
set_option maxRecDepth 100000 in
theorem fw_no1 (B : Lo) (i : Isl) (W M : Value) (tanks : Int) : ended (srun Tryz.prog goFns B 10 0 (entryC Tryz.prog 25 18 [.agg (islC i W M), .int .i64 tanks]) [] 0
    [(4, Hint.call [] (Value.bool false) [] 2 [])] 0 [] []) [] = some ⟨.ret (.tuple #[.agg ff0, .int .i64 2]), [], 2,
    [CJ Tryz.prog B 36
  #[Value.agg
      #[Value.int IntKind.i64 (Isl.cap i), Value.int IntKind.i64 (Isl.sl i), Value.int IntKind.i64 (Isl.sh i),
        Value.int IntKind.i64 (Isl.roof i), Value.int IntKind.i64 (Isl.sand i), Value.int IntKind.i64 (Isl.kl i),
        Value.int IntKind.i64 (Isl.kh i), Value.int IntKind.i64 (Isl.ll i), Value.int IntKind.i64 (Isl.lh i),
        Value.int IntKind.i64 (Isl.pump i), Value.int IntKind.i64 (Isl.keep i), Value.int IntKind.i64 (Isl.size i), W,
        M, Value.int IntKind.i64 (Isl.most i), Value.int IntKind.i64 (Isl.row i)]]
  [] 2 (Value.bool false) [] 2 []]⟩ := by kernel_rfl
set_option maxRecDepth 100000 in
theorem fw_no2 (B : Lo) (i : Isl) (W M : Value) (tanks : Int) : ended (srun Tryz.prog goFns B 10 0 (entryC Tryz.prog 25 18 [.agg (islC i W M), .int .i64 tanks]) [] 0
    [(4, Hint.call [] (Value.bool true) [] 2 []),
(8, Hint.call [] (Value.bool false) [] 2 [])] 0 [] []) [] = some ⟨.ret (.tuple #[.agg ff0, .int .i64 2]), [], 2,
    [CJ Tryz.prog B 37 #[Value.int IntKind.i64 tanks] [] 2 (Value.bool false) [] 2 [],
CJ Tryz.prog B 36
  #[Value.agg
      #[Value.int IntKind.i64 (Isl.cap i), Value.int IntKind.i64 (Isl.sl i), Value.int IntKind.i64 (Isl.sh i),
        Value.int IntKind.i64 (Isl.roof i), Value.int IntKind.i64 (Isl.sand i), Value.int IntKind.i64 (Isl.kl i),
        Value.int IntKind.i64 (Isl.kh i), Value.int IntKind.i64 (Isl.ll i), Value.int IntKind.i64 (Isl.lh i),
        Value.int IntKind.i64 (Isl.pump i), Value.int IntKind.i64 (Isl.keep i), Value.int IntKind.i64 (Isl.size i), W,
        M, Value.int IntKind.i64 (Isl.most i), Value.int IntKind.i64 (Isl.row i)]]
  [] 2 (Value.bool true) [] 2 []]⟩ := by kernel_rfl
set_option maxRecDepth 100000 in
theorem fw_fine (B : Lo) (i : Isl) (W M : Value) (tanks : Int) : ended (srun Tryz.prog goFns B 11 0 (entryC Tryz.prog 25 18 [.agg (islC i W M), .int .i64 tanks]) [] 0
    [(4, Hint.call [] (Value.bool true) [] 2 []),
(8, Hint.call [] (Value.bool true) [] 2 []),
(13, Hint.call [] (Value.agg ffN) [] 2 [])] 0 [] []) [] = some ⟨.ret (.tuple #[.agg ffN, .int .i64 0]), [], 2,
    [CJ Tryz.prog B 47
  #[Value.agg
      #[Value.int IntKind.i64 (Isl.cap i), Value.int IntKind.i64 (Isl.sl i), Value.int IntKind.i64 (Isl.sh i),
        Value.int IntKind.i64 (Isl.roof i), Value.int IntKind.i64 (Isl.sand i), Value.int IntKind.i64 (Isl.kl i),
        Value.int IntKind.i64 (Isl.kh i), Value.int IntKind.i64 (Isl.ll i), Value.int IntKind.i64 (Isl.lh i),
        Value.int IntKind.i64 (Isl.pump i), Value.int IntKind.i64 (Isl.keep i), Value.int IntKind.i64 (Isl.size i), W,
        M, Value.int IntKind.i64 (Isl.most i), Value.int IntKind.i64 (Isl.row i)],
    Value.int IntKind.i64 tanks]
  [] 2 (Value.agg ffN) [] 2 [],
CJ Tryz.prog B 37 #[Value.int IntKind.i64 tanks] [] 2 (Value.bool true) [] 2 [],
CJ Tryz.prog B 36
  #[Value.agg
      #[Value.int IntKind.i64 (Isl.cap i), Value.int IntKind.i64 (Isl.sl i), Value.int IntKind.i64 (Isl.sh i),
        Value.int IntKind.i64 (Isl.roof i), Value.int IntKind.i64 (Isl.sand i), Value.int IntKind.i64 (Isl.kl i),
        Value.int IntKind.i64 (Isl.kh i), Value.int IntKind.i64 (Isl.ll i), Value.int IntKind.i64 (Isl.lh i),
        Value.int IntKind.i64 (Isl.pump i), Value.int IntKind.i64 (Isl.keep i), Value.int IntKind.i64 (Isl.size i), W,
        M, Value.int IntKind.i64 (Isl.most i), Value.int IntKind.i64 (Isl.row i)]]
  [] 2 (Value.bool true) [] 2 []]⟩ := by kernel_rfl
set_option maxRecDepth 100000 in
theorem fw_bad (B : Lo) (i : Isl) (W M : Value) (tanks m r v : Int) (D : Array Value) : endedB (srun Tryz.prog goFns B 11 0 (entryC Tryz.prog 25 18 [.agg (islC i W M), .int .i64 tanks]) (heapO 0 []) 0
    [(4, Hint.call [] (Value.bool true) [] 2 []),
(8, Hint.call [] (Value.bool true) [] 2 []),
(13, Hint.call [] (Value.agg (ffQ 2 (Isl.nm i) m r v)) [(2, Obj.cells D 4 (1, 1))] 3 [])] 0 [] []) ((kz [2] [(false, .cells D 4 (1, 1))]).map (·.old)) = some (⟨.ret (rnV (rhoK (kz [2] [(false, .cells D 4 (1, 1))])) 3 (.tuple #[.agg (ffQ 0 i.nm m r v), .int .i64 0])), (kz [2] [(false, .cells D 4 (1, 1))]).map (fun kept_ => some (wasK (rhoK (kz [2] [(false, .cells D 4 (1, 1))])) kept_)), 3,
    [CJ Tryz.prog B 47
  #[Value.agg
      #[Value.int IntKind.i64 (Isl.cap i), Value.int IntKind.i64 (Isl.sl i), Value.int IntKind.i64 (Isl.sh i),
        Value.int IntKind.i64 (Isl.roof i), Value.int IntKind.i64 (Isl.sand i), Value.int IntKind.i64 (Isl.kl i),
        Value.int IntKind.i64 (Isl.kh i), Value.int IntKind.i64 (Isl.ll i), Value.int IntKind.i64 (Isl.lh i),
        Value.int IntKind.i64 (Isl.pump i), Value.int IntKind.i64 (Isl.keep i), Value.int IntKind.i64 (Isl.size i), W,
        M, Value.int IntKind.i64 (Isl.most i), Value.int IntKind.i64 (Isl.row i)],
    Value.int IntKind.i64 tanks]
  [] 2 (Value.agg (ffQ 2 (Isl.nm i) m r v)) [(2, Obj.cells D 4 (1, 1))] 3 [],
CJ Tryz.prog B 37 #[Value.int IntKind.i64 tanks] [] 2 (Value.bool true) [] 2 [],
CJ Tryz.prog B 36
  #[Value.agg
      #[Value.int IntKind.i64 (Isl.cap i), Value.int IntKind.i64 (Isl.sl i), Value.int IntKind.i64 (Isl.sh i),
        Value.int IntKind.i64 (Isl.roof i), Value.int IntKind.i64 (Isl.sand i), Value.int IntKind.i64 (Isl.kl i),
        Value.int IntKind.i64 (Isl.kh i), Value.int IntKind.i64 (Isl.ll i), Value.int IntKind.i64 (Isl.lh i),
        Value.int IntKind.i64 (Isl.pump i), Value.int IntKind.i64 (Isl.keep i), Value.int IntKind.i64 (Isl.size i), W,
        M, Value.int IntKind.i64 (Isl.most i), Value.int IntKind.i64 (Isl.row i)]]
  [] 2 (Value.bool true) [] 2 []]⟩, []) := by kernel_rfl
section
variable {i : Isl} {wa : Option Addr} {wc mc : Nat} {ma : Option Addr} {tanks : Int} {w : World} {n : Nat}
theorem isl_nm (h1 : islB i = true) : 1 ≤ i.nm ∧ i.nm ≤ 8 ∧ 0 ≤ i.most ∧ 0 ≤ i.row := by
  simp only [islB, monthsB, Bool.and_eq_true, isInB_iff] at h1
  omega
theorem exl_it : ExL [islR i wa wc ma mc, .int .i64 tanks] [islV i wa wc ma mc, .int .i64 tanks] := .cons (exact_isl _ _ _ _ _) (.cons (exact_af rfl) .nil)
theorem ex_fault (a b c e : Int) : Exact (.tuple #[.agg #[.slice none 0 0, .int .i64 a, .int .i64 b, .int .i64 c], .int .i64 e]) (.tuple #[.agg #[.slice none 0 0, .int .i64 a, .int .i64 b, .int .i64 c], .int .i64 e]) :=
  exact_tuple (.cons (exact_agg (.cons (exact_af rfl) (.cons (exact_af rfl) (.cons (exact_af rfl) (.cons (exact_af rfl) .nil))))) (.cons (exact_af rfl) .nil))
theorem con_firstFine (hi : IslAt w w.heap.size i wa ma) (h1 : islB i = true) (h2 : tanksB tanks = true) (hn : ftTo i tanks (2 ^ i.nm) = none) :
    CJ Tryz.prog (worldLo w) 47 #[islR i wa wc ma mc, .int .i64 tanks] [] n (.agg ffN) [] n [] :=
  con_of (v' := .agg ffN) exl_it (exact_af (by kernel_rfl)) fun _ hw => firstFault_fine (islAt_lo hi hw) (isl_nm h1).1 (fun d => fit_end h1 h2 false _ d) hn
theorem con_firstBad {b m : Nat} (hi : IslAt w w.heap.size i wa ma) (h1 : islB i = true) (h2 : tanksB tanks = true) (hn : ftTo i tanks (2 ^ i.nm) = some (b, m)) :
    CJ Tryz.prog (worldLo w) 47 #[islR i wa wc ma mc, .int .i64 tanks] [] n (.agg (ffQ n i.nm m (wrongRule i (endsOf i tanks false (bitsDry i.nm b) m)) (wrongWell i (endsOf i tanks false (bitsDry i.nm b) m)))) [(n, .cells (rowA (boolE (bitsDry i.nm b)) i.nm) 4 (1, 1))] (n + 1) [] :=
  cj_row (boolE_af _ _) fun μ w' args' hB ha => by
    rw [exl_it.args ha]
    refine (firstFault_bad (islAt_lo hi hB) (isl_nm h1).1 (fun d => fit_end h1 h2 false _ d) hn).mono fun e w'' ⟨⟨g, c, he, k1, k2, k3, k4, k5⟩, hb⟩ => ⟨⟨g, _, k1, k2, he, k5, fun μ' hμ => ?_⟩, hb⟩
    exact vr_aggl (.cons (.slice ⟨_, hμ, rfl, rfl⟩ k3 k4 fun h => absurd rfl h) (.cons (.int _ _) (.cons (.int _ _) (.cons (.int _ _) .nil))))
theorem Fault_no (hi : IslAt w w.heap.size i wa ma) (h : (islB i && tanksB tanks) = false) : Calls Tryz.prog 25 #[islV i wa wc ma mc, .int .i64 tanks] w fun e' w' => e' = .returned (.tuple #[.agg ff0, .int .i64 2]) ∧ Below w.heap.size w w' := by
  have fin : ∀ {fuel n' : _} {sc : Script} {L : List Prop}, ended (srun Tryz.prog goFns (worldLo w) fuel 0 (entryC Tryz.prog 25 18 [islR i wa wc ma mc, .int .i64 tanks]) [] 0 sc 0 [] []) [] = some ⟨.ret (.tuple #[.agg ff0, .int .i64 2]), [], n', L⟩ → AllP L →
      Calls Tryz.prog 25 #[islV i wa wc ma mc, .int .i64 tanks] w fun e' w' => e' = .returned (.tuple #[.agg ff0, .int .i64 2]) ∧ Below w.heap.size w w' := fun e hL =>
    ((GoE.refl under_nil).calls goFns_ok mixed_ok (f := 25) (args := #[islR i wa wc ma mc, .int .i64 tanks]) (by kernel_rfl) e hL (worldLo_has w) (VRl.vrs' exl_it.vrl)).mono fun _ _ ⟨v', _, he, hv, hb, _⟩ => ⟨by rw [he, (ex_fault _ _ _ _).2 _ _ hv]; rfl, hb⟩
  cases h1 : islB i with
  | false => exact fin (fw_no1 (worldLo w) i (rawS wa i.nw wc) (rawS ma i.nm mc) tanks) ⟨h1 ▸ con_isIslet hi, trivial⟩
  | true =>
    rw [h1, Bool.true_and] at h
    exact fin (fw_no2 (worldLo w) i (rawS wa i.nw wc) (rawS ma i.nm mc) tanks) ⟨h ▸ con_areTanks, h1 ▸ con_isIslet hi, trivial⟩
theorem Fault_fine (hi : IslAt w w.heap.size i wa ma) (h1 : islB i = true) (h2 : tanksB tanks = true) (hn : ftTo i tanks (2 ^ i.nm) = none) : Calls Tryz.prog 25 #[islV i wa wc ma mc, .int .i64 tanks] w fun e' w' => e' = .returned (.tuple #[.agg ffN, .int .i64 0]) ∧ Below w.heap.size w w' :=
  ((GoE.refl under_nil).calls goFns_ok mixed_ok (f := 25) (args := #[islR i wa wc ma mc, .int .i64 tanks]) (by kernel_rfl) (fw_fine (worldLo w) i (rawS wa i.nw wc) (rawS ma i.nm mc) tanks) ⟨con_firstFine hi h1 h2 hn, h2 ▸ con_areTanks, h1 ▸ con_isIslet hi, trivial⟩ (worldLo_has w) (VRl.vrs' exl_it.vrl)).mono fun _ _ ⟨v', _, he, hv, hb, _⟩ => ⟨by rw [he, (ex_fault _ _ _ _).2 _ _ hv]; rfl, hb⟩
theorem con_FaultNo (hi : IslAt w w.heap.size i wa ma) (h : (islB i && tanksB tanks) = false) : CJ Tryz.prog (worldLo w) 25 #[islR i wa wc ma mc, .int .i64 tanks] [] n (.tuple #[.agg ff0, .int .i64 2]) [] n [] :=
  con_of (v' := .tuple #[.agg ff0, .int .i64 2]) exl_it (ex_fault _ _ _ _) fun _ hw => Fault_no (islAt_lo hi hw) h
theorem con_FaultFine (hi : IslAt w w.heap.size i wa ma) (h1 : islB i = true) (h2 : tanksB tanks = true) (hn : ftTo i tanks (2 ^ i.nm) = none) : CJ Tryz.prog (worldLo w) 25 #[islR i wa wc ma mc, .int .i64 tanks] [] n (.tuple #[.agg ffN, .int .i64 0]) [] n [] :=
  con_of (v' := .tuple #[.agg ffN, .int .i64 0]) exl_it (ex_fault _ _ _ _) fun _ hw => Fault_fine (islAt_lo hi hw) h1 h2 hn
theorem con_FaultBad {b m : Nat} (hi : IslAt w w.heap.size i wa ma) (h1 : islB i = true) (h2 : tanksB tanks = true) (hn : ftTo i tanks (2 ^ i.nm) = some (b, m)) :
    CJ Tryz.prog (worldLo w) 25 #[islR i wa wc ma mc, .int .i64 tanks] [] n (.tuple #[.agg (ffQ n i.nm m (wrongRule i (endsOf i tanks false (bitsDry i.nm b) m)) (wrongWell i (endsOf i tanks false (bitsDry i.nm b) m))), .int .i64 0]) [(n, .cells (rowA (boolE (bitsDry i.nm b)) i.nm) 4 (1, 1))] (n + 1) [] := by
  have hA : looseO (.cells (rowA (boolE (bitsDry i.nm b)) i.nm) 4 (1, 1)) := loose_boolE _ _
  have h : StdJ Tryz.prog (worldLo w) 25 #[islR i wa wc ma mc, .int .i64 tanks] (heapO 0 []) 0 (.tuple #[.agg (ffQ 0 i.nm m (wrongRule i (endsOf i tanks false (bitsDry i.nm b) m)) (wrongWell i (endsOf i tanks false (bitsDry i.nm b) m))), .int .i64 0]) (heapO 0 [(false, .cells (rowA (boolE (bitsDry i.nm b)) i.nm) 4 (1, 1))]) 1 [] :=
    (GoE.refl (P := Tryz.prog) (B := worldLo w) (c0 := entryC Tryz.prog 25 18 [islR i wa wc ma mc, .int .i64 tanks]) (under_heapO [] (Nat.le_refl 0))).std goFns_ok mixed_ok (by kernel_rfl) (writable_nil _ _)
      (os := [(false, .cells (rowA (boolE (bitsDry i.nm b)) i.nm) 4 (1, 1))]) (fw_bad (worldLo w) i (rawS wa i.nw wc) (rawS ma i.nm mc) tanks m (wrongRule i (endsOf i tanks false (bitsDry i.nm b) m)) (wrongWell i (endsOf i tanks false (bitsDry i.nm b) m)) (rowA (boolE (bitsDry i.nm b)) i.nm)) ⟨con_firstBad hi h1 h2 hn, h2 ▸ con_areTanks, h1 ▸ con_isIslet hi, trivial⟩
      (by kernel_rfl) (by kernel_rfl) (by kernel_rfl) (by kernel_rfl) (by kernel_rfl) (by kernel_rfl) (by kernel_rfl) (by kernel_rfl) ⟨.inr ⟨rfl, .inl hA⟩, trivial⟩ (fun j hj _ => by omega)
  have hloose : ∀ x ∈ ([] : List (Bool × Obj)) ++ [(false, Obj.cells (rowA (boolE (bitsDry i.nm b)) i.nm) 4 (1, 1))], looseO x.2 := by
    intro x hx
    simp only [List.nil_append, List.mem_cons, List.not_mem_nil, or_false] at hx
    rw [hx]; exact hA
  rcases wa with _ | ⟨x, o, _ | z⟩ <;> rcases ma with _ | ⟨x', o', _ | z'⟩
  all_goals exact (StdJ.rows (kept := []) (l := []) (n := n) h rfl (fun k hk => by simp at hk) rfl hloose (by kernel_rfl) (by kernel_rfl)).cast (by kernel_rfl) (by kernel_rfl) (by kernel_rfl) (by kernel_rfl) (by kernel_rfl)
end
end Go.Proofs.YtffdidleebognaaGreatDoor

namespace Go.Proofs.YtffdidleebognaaGreatDoor
open Go Go.CE Go.Proofs Go.RowKit Lens
set_option maxRecDepth 100000 in
theorem few_short (B : Lo) (i : Isl) (W M : Value) : ended (srun Tryz.prog goFns B 6 0 (entryC Tryz.prog 10 19 [.agg (islC i W M), .int .i64 7]) [] 0
    [(3, Hint.call [] (Value.bool false) [] 1 [])] 0 [] []) [] = some ⟨.ret (.bool false), [], 1,
    [CJ Tryz.prog B 18
  #[Value.agg
      #[Value.int IntKind.i64 (Isl.cap i), Value.int IntKind.i64 (Isl.sl i), Value.int IntKind.i64 (Isl.sh i),
        Value.int IntKind.i64 (Isl.roof i), Value.int IntKind.i64 (Isl.sand i), Value.int IntKind.i64 (Isl.kl i),
        Value.int IntKind.i64 (Isl.kh i), Value.int IntKind.i64 (Isl.ll i), Value.int IntKind.i64 (Isl.lh i),
        Value.int IntKind.i64 (Isl.pump i), Value.int IntKind.i64 (Isl.keep i), Value.int IntKind.i64 (Isl.size i), W,
        M, Value.int IntKind.i64 (Isl.most i), Value.int IntKind.i64 (Isl.row i)]]
  [] 1 (Value.bool false) [] 1 []]⟩ := by kernel_rfl
set_option maxRecDepth 100000 in
theorem few_ref (B : Lo) (i : Isl) (W M : Value) : ended (srun Tryz.prog goFns B 6 0 (entryC Tryz.prog 10 19 [.agg (islC i W M), .int .i64 7]) [] 0
    [(3, Hint.call [] (Value.bool true) [] 1 []),
(6, Hint.call [] (Value.bool false) [] 1 [])] 0 [] []) [] = some ⟨.ret (.bool true), [], 1,
    [CJ Tryz.prog B 14
  #[Value.agg
      #[Value.int IntKind.i64 (Isl.cap i), Value.int IntKind.i64 (Isl.sl i), Value.int IntKind.i64 (Isl.sh i),
        Value.int IntKind.i64 (Isl.roof i), Value.int IntKind.i64 (Isl.sand i), Value.int IntKind.i64 (Isl.kl i),
        Value.int IntKind.i64 (Isl.kh i), Value.int IntKind.i64 (Isl.ll i), Value.int IntKind.i64 (Isl.lh i),
        Value.int IntKind.i64 (Isl.pump i), Value.int IntKind.i64 (Isl.keep i), Value.int IntKind.i64 (Isl.size i), W,
        M, Value.int IntKind.i64 (Isl.most i), Value.int IntKind.i64 (Isl.row i)]]
  [] 1 (Value.bool false) [] 1 [],
CJ Tryz.prog B 18
  #[Value.agg
      #[Value.int IntKind.i64 (Isl.cap i), Value.int IntKind.i64 (Isl.sl i), Value.int IntKind.i64 (Isl.sh i),
        Value.int IntKind.i64 (Isl.roof i), Value.int IntKind.i64 (Isl.sand i), Value.int IntKind.i64 (Isl.kl i),
        Value.int IntKind.i64 (Isl.kh i), Value.int IntKind.i64 (Isl.ll i), Value.int IntKind.i64 (Isl.lh i),
        Value.int IntKind.i64 (Isl.pump i), Value.int IntKind.i64 (Isl.keep i), Value.int IntKind.i64 (Isl.size i), W,
        M, Value.int IntKind.i64 (Isl.most i), Value.int IntKind.i64 (Isl.row i)]]
  [] 1 (Value.bool true) [] 1 []]⟩ := by kernel_rfl
set_option maxRecDepth 100000 in
theorem few_num (B : Lo) (i : Isl) (W : Value) (A : Option Addr) (ms : Nat) (y : Bool) : ended (srun Tryz.prog goFns B 6 0 (entryC Tryz.prog 10 19 [.agg (islC i W (.slice A i.nm ms)), .int .i64 7]) [] 0
    [(3, Hint.call [] (Value.bool true) [] 1 []),
(6, Hint.call [] (Value.bool true) [] 1 []),
(11, Hint.len (Isl.nm i)),
(13, Hint.val (Value.bool y))] 0 [] []) [] = some ⟨.ret (.bool y), [], 1,
    [(!ltq 7 (↑(Isl.nm i) : Int)) = y,
SliceLen (tget { len := 16000, tr := Tri.set 14 Tri.lf 13 (Value.slice A (Isl.nm i) ms) } 13) (Isl.nm i),
CJ Tryz.prog B 14
  #[Value.agg
      #[Value.int IntKind.i64 (Isl.cap i), Value.int IntKind.i64 (Isl.sl i), Value.int IntKind.i64 (Isl.sh i),
        Value.int IntKind.i64 (Isl.roof i), Value.int IntKind.i64 (Isl.sand i), Value.int IntKind.i64 (Isl.kl i),
        Value.int IntKind.i64 (Isl.kh i), Value.int IntKind.i64 (Isl.ll i), Value.int IntKind.i64 (Isl.lh i),
        Value.int IntKind.i64 (Isl.pump i), Value.int IntKind.i64 (Isl.keep i), Value.int IntKind.i64 (Isl.size i), W,
        Value.slice A (Isl.nm i) ms, Value.int IntKind.i64 (Isl.most i), Value.int IntKind.i64 (Isl.row i)]]
  [] 1 (Value.bool true) [] 1 [],
CJ Tryz.prog B 18
  #[Value.agg
      #[Value.int IntKind.i64 (Isl.cap i), Value.int IntKind.i64 (Isl.sl i), Value.int IntKind.i64 (Isl.sh i),
        Value.int IntKind.i64 (Isl.roof i), Value.int IntKind.i64 (Isl.sand i), Value.int IntKind.i64 (Isl.kl i),
        Value.int IntKind.i64 (Isl.kh i), Value.int IntKind.i64 (Isl.ll i), Value.int IntKind.i64 (Isl.lh i),
        Value.int IntKind.i64 (Isl.pump i), Value.int IntKind.i64 (Isl.keep i), Value.int IntKind.i64 (Isl.size i), W,
        Value.slice A (Isl.nm i) ms, Value.int IntKind.i64 (Isl.most i), Value.int IntKind.i64 (Isl.row i)]]
  [] 1 (Value.bool true) [] 1 []]⟩ := by kernel_rfl
end Go.Proofs.YtffdidleebognaaGreatDoor

namespace Go.Proofs.YtffdidleebognaaGreatDoor
open Go Go.CE Go.Proofs Go.RowKit Lens
/-! ### The reference's bounds are the program's -/
/-! ### Contracts -/
section
variable {i : Isl} {wa : Option Addr} {wc mc : Nat} {ma : Option Addr} {tanks : Int} {w : World} {n : Nat}
theorem con_rIslet (hi : IslAt w w.heap.size i wa ma) : CJ Tryz.prog (worldLo w) 14 #[islR i wa wc ma mc] [] n (.bool (islB i)) [] n [] :=
  con_of (.cons (exact_isl _ _ _ _ _) .nil) (exact_af rfl) fun w' hw => rIslet_any i wa wc ma mc w' (islAt_lo hi hw)
theorem b_ret {f : FuncId} {len fuel n' : Nat} {sc : Script} {L : List Prop} {l l' : List Value} {v v0 : Value} (hx : ExL l l') (hv : Exact v v0)
    (hc : enterC Tryz.prog f l.toArray = some (entryC Tryz.prog f len l)) (e : ended (srun Tryz.prog goFns (worldLo w) fuel 0 (entryC Tryz.prog f len l) [] 0 sc 0 [] []) [] = some ⟨.ret v, [], n', L⟩) (hL : AllP L) :
    Calls Tryz.prog f l'.toArray w fun e' w' => e' = .returned v0 ∧ Below w.heap.size w w' :=
  ((GoE.refl under_nil).calls goFns_ok mixed_ok hc e hL (worldLo_has w) (VRl.vrs' hx.vrl)).mono fun _ _ ⟨v', _, he, hv', hb, _⟩ => ⟨by rw [he, hv.2 _ _ hv'], hb⟩
def fewB (i : Isl) : Bool := shortB i && (!islB i || decide (i.nm ≤ 7))
theorem con_few (hi : IslAt w w.heap.size i wa ma) : CJ Tryz.prog (worldLo w) 10 #[islR i wa wc ma mc, .int .i64 7] [] n (.bool (fewB i)) [] n [] :=
  con_of exl_it (exact_af rfl) fun w' hB => by
    have hi' := islAt_lo hi hB
    unfold fewB
    cases hs : shortB i with
    | false => exact b_ret exl_it (exact_af rfl) (by kernel_rfl) (few_short (worldLo w') i _ _) ⟨hs ▸ con_short, trivial⟩
    | true =>
      cases h1 : islB i with
      | false => exact b_ret exl_it (exact_af rfl) (by kernel_rfl) (few_ref (worldLo w') i _ _) ⟨h1 ▸ con_rIslet hi', hs ▸ con_short, trivial⟩
      | true =>
        refine b_ret exl_it (exact_af rfl) (by kernel_rfl) (few_num (worldLo w') i (rawS wa i.nw wc) (rawO ma) mc (decide (i.nm ≤ 7))) ⟨?_, sliceLen_rawS ma i.nm mc, h1 ▸ con_rIslet hi', hs ▸ con_short, trivial⟩
        by_cases h : i.nm ≤ 7
        · rw [ltq_f (by omega)]; simp [h]
        · rw [ltq_t (by omega)]; simp [h]
end
end Go.Proofs.YtffdidleebognaaGreatDoor

namespace Go.Proofs.YtffdidleebognaaGreatDoor
open Go Go.CE Go.Proofs Go.RowKit Lens
def smL (ab ao bb bo n ca cb k : Nat) : List (Nat × Value) := [(0, .slice (some ⟨ab, ao, some 0⟩) n ca), (1, .slice (some ⟨bb, bo, some 0⟩) n cb), (5, .int .i64 k)]
def smT : List It := [.code [1, 1, 0, 1, 0, 0], .inLoop [1, 1, 0, 1, 0, 0], .inBlock 0, .code [1, 1, 1]]
set_option maxRecDepth 100000 in
theorem sm_entry (B : Lo) (ab ao bb bo n ca cb : Nat) : land (srun Tryz.prog goFns B 12 0 (entryC Tryz.prog 48 26 [.slice (some ⟨ab, ao, some 0⟩) n ca, .slice (some ⟨bb, bo, some 0⟩) n cb]) [] 0
    [(5, Hint.val (Value.bool false))] 0 [] []) ((smL ab ao bb bo n ca cb 0).map (·.1)) ((kz [] ([] : List (Bool × Obj))).map (·.old)) = some ⟨48, 26, smT.map (it (bodyOf Tryz.prog 48)), [], .run, none, (smL ab ao bb bo n ca cb 0).map (fun p => rnV (rhoK (kz [] ([] : List (Bool × Obj)))) 3 p.2), (kz [] ([] : List (Bool × Obj))).map (fun kept_ => some (wasK (rhoK (kz [] ([] : List (Bool × Obj)))) kept_)), 0,
    [(!eqq (↑n : Int) (↑n : Int)) = false]⟩ := by kernel_rfl
set_option maxRecDepth 100000 in
theorem sm_round (B : Lo) (ab ao bb bo n ca cb k : Nat) (y : Bool) (d : Nat → Value) : land (srun Tryz.prog goFns B 14 0 (headC 48 26 (smL ab ao bb bo n ca cb k) d (smT.map (it (bodyOf Tryz.prog 48)))) (heapO 0 ([] : List (Bool × Obj))) (([] : List (Bool × Obj))).length
    [(3, Hint.val (Value.bool true)),
(6, Hint.idx k),
(7, Hint.raw (Value.bool y)),
(10, Hint.idx k),
(11, Hint.raw (Value.bool y)),
(12, Hint.val (Value.bool false)),
(14, Hint.val (Value.int IntKind.i64 ((↑k : Int) + 1)))] 0 [] []) ((smL ab ao bb bo n ca cb (k + 1)).map (·.1)) ((kz [] ([] : List (Bool × Obj))).map (·.old)) = some ⟨48, 26, smT.map (it (bodyOf Tryz.prog 48)), [], .run, none, (smL ab ao bb bo n ca cb (k + 1)).map (fun p => rnV (rhoK (kz [] ([] : List (Bool × Obj)))) 3 p.2), (kz [] ([] : List (Bool × Obj))).map (fun kept_ => some (wasK (rhoK (kz [] ([] : List (Bool × Obj)))) kept_)), 0,
    [wq ((↑k : Int) + 1) = (↑k : Int) + 1,
(!y == y) = false,
RawCell B bb (bo + k * 1) (Value.bool y),
(↑k : Int) = (↑k : Int) ∧ k < n,
RawCell B ab (ao + k * 1) (Value.bool y),
(↑k : Int) = (↑k : Int) ∧ k < n,
ltq (↑k : Int) (↑n : Int) = true]⟩ := by kernel_rfl
set_option maxRecDepth 100000 in
theorem sm_end (B : Lo) (ab ao bb bo n ca cb k : Nat) (d : Nat → Value) : ended (srun Tryz.prog goFns B 9 0 (headC 48 26 (smL ab ao bb bo n ca cb k) d (smT.map (it (bodyOf Tryz.prog 48)))) (heapO 0 ([] : List (Bool × Obj))) (([] : List (Bool × Obj))).length
    [(3, Hint.val (Value.bool false))] 0 [] []) [] = some ⟨.ret (.bool true), [], 0,
    [ltq (↑k : Int) (↑n : Int) = false]⟩ := by kernel_rfl
set_option maxRecDepth 100000 in
theorem sm_nil (B : Lo) : ended (srun Tryz.prog goFns B 21 0 (entryC Tryz.prog 48 26 [.slice none 0 0, .slice none 0 0]) [] 0
    [] 0 [] []) [] = some ⟨.ret (.bool true), [], 0,
    []⟩ := by kernel_rfl
set_option maxRecDepth 100000 in
theorem sf_raw (B : Lo) (ab ao bb bo n ca cb : Nat) (m r v : Int) : ended (srun Tryz.prog goFns B 6 0 (entryC Tryz.prog 26 31 [.agg #[.slice (some ⟨ab, ao, some 0⟩) n ca, .int .i64 m, .int .i64 r, .int .i64 v], .agg #[.slice (some ⟨bb, bo, some 0⟩) n cb, .int .i64 m, .int .i64 r, .int .i64 v]]) [] 0
    [(7, Hint.call [] (Value.bool true) [] 2 []),
(13, Hint.val (Value.bool true)),
(20, Hint.val (Value.bool true)),
(27, Hint.val (Value.bool true))] 0 [] []) [] = some ⟨.ret (.bool true), [], 2,
    [eqq v v = true,
eqq r r = true,
eqq m m = true,
CJ Tryz.prog B 48
  #[Value.slice (some { block := ab, off := ao, spot := some 0 }) n ca,
    Value.slice (some { block := bb, off := bo, spot := some 0 }) n cb]
  [] 2 (Value.bool true) [] 2 []]⟩ := by kernel_rfl
set_option maxRecDepth 100000 in
theorem sf_none (B : Lo) : ended (srun Tryz.prog goFns B 6 0 (entryC Tryz.prog 26 31 [.agg ff0, .agg ff0]) [] 0
    [(7, Hint.call [] (Value.bool true) [] 2 [])] 0 [] []) [] = some ⟨.ret (.bool true), [], 2,
    [CJ Tryz.prog B 48 #[Value.slice none 0 0, Value.slice none 0 0] [] 2 (Value.bool true) [] 2 []]⟩ := by kernel_rfl
set_option maxRecDepth 100000 in
theorem sf_fine (B : Lo) : ended (srun Tryz.prog goFns B 6 0 (entryC Tryz.prog 26 31 [.agg ffN, .agg ffN]) [] 0
    [(7, Hint.call [] (Value.bool true) [] 2 [])] 0 [] []) [] = some ⟨.ret (.bool true), [], 2,
    [CJ Tryz.prog B 48 #[Value.slice none 0 0, Value.slice none 0 0] [] 2 (Value.bool true) [] 2 []]⟩ := by kernel_rfl
set_option maxRecDepth 100000 in
theorem lf_few (B : Lo) (i : Isl) (W M : Value) (tanks : Int) : ended (srun Tryz.prog goFns B 10 0 (entryC Tryz.prog 7 43 [.agg (islC i W M), .int .i64 tanks]) [] 0
    [(3, Hint.call [] (Value.bool false) [] 1 []),
(5, Hint.call [] (Value.bool true) [] 1 [])] 0 [] []) [] = some ⟨.ret (.bool true), [], 1,
    [CJ Tryz.prog B 11 #[] [] 1 (Value.bool true) [] 1 [],
CJ Tryz.prog B 10
  #[Value.agg
      #[Value.int IntKind.i64 (Isl.cap i), Value.int IntKind.i64 (Isl.sl i), Value.int IntKind.i64 (Isl.sh i),
        Value.int IntKind.i64 (Isl.roof i), Value.int IntKind.i64 (Isl.sand i), Value.int IntKind.i64 (Isl.kl i),
        Value.int IntKind.i64 (Isl.kh i), Value.int IntKind.i64 (Isl.ll i), Value.int IntKind.i64 (Isl.lh i),
        Value.int IntKind.i64 (Isl.pump i), Value.int IntKind.i64 (Isl.keep i), Value.int IntKind.i64 (Isl.size i), W,
        M, Value.int IntKind.i64 (Isl.most i), Value.int IntKind.i64 (Isl.row i)],
    Value.int IntKind.i64 7]
  [] 1 (Value.bool false) [] 1 []]⟩ := by kernel_rfl
set_option maxRecDepth 100000 in
theorem lf_no (B : Lo) (i : Isl) (W M : Value) (tanks : Int) : ended (srun Tryz.prog goFns B 17 0 (entryC Tryz.prog 7 43 [.agg (islC i W M), .int .i64 tanks]) [] 0
    [(3, Hint.call [] (Value.bool true) [] 1 []),
(7, Hint.call [] (Value.tuple #[Value.agg ff0, Value.int IntKind.i64 2]) [] 1 []),
(16, Hint.call [] (Value.bool false) [] 2 []),
(23, Hint.call [] (Value.bool true) [] 2 []),
(26, Hint.call [] (Value.bool true) [] 2 [])] 0 [] []) [] = some ⟨.ret (.bool true), [], 2,
    [CJ Tryz.prog B 11 #[] [] 2 (Value.bool true) [] 2 [],
CJ Tryz.prog B 26
  #[Value.agg #[Value.slice none 0 0, Value.int IntKind.i64 0, Value.int IntKind.i64 0, Value.int IntKind.i64 0],
    Value.agg #[Value.slice none 0 0, Value.int IntKind.i64 0, Value.int IntKind.i64 0, Value.int IntKind.i64 0]]
  [] 2 (Value.bool true) [] 2 [],
CJ Tryz.prog B 15
  #[Value.agg
      #[Value.int IntKind.i64 (Isl.cap i), Value.int IntKind.i64 (Isl.sl i), Value.int IntKind.i64 (Isl.sh i),
        Value.int IntKind.i64 (Isl.roof i), Value.int IntKind.i64 (Isl.sand i), Value.int IntKind.i64 (Isl.kl i),
        Value.int IntKind.i64 (Isl.kh i), Value.int IntKind.i64 (Isl.ll i), Value.int IntKind.i64 (Isl.lh i),
        Value.int IntKind.i64 (Isl.pump i), Value.int IntKind.i64 (Isl.keep i), Value.int IntKind.i64 (Isl.size i), W,
        M, Value.int IntKind.i64 (Isl.most i), Value.int IntKind.i64 (Isl.row i)],
    Value.int IntKind.i64 tanks]
  [] 2 (Value.bool false) [] 2 [],
CJ Tryz.prog B 25
  #[Value.agg
      #[Value.int IntKind.i64 (Isl.cap i), Value.int IntKind.i64 (Isl.sl i), Value.int IntKind.i64 (Isl.sh i),
        Value.int IntKind.i64 (Isl.roof i), Value.int IntKind.i64 (Isl.sand i), Value.int IntKind.i64 (Isl.kl i),
        Value.int IntKind.i64 (Isl.kh i), Value.int IntKind.i64 (Isl.ll i), Value.int IntKind.i64 (Isl.lh i),
        Value.int IntKind.i64 (Isl.pump i), Value.int IntKind.i64 (Isl.keep i), Value.int IntKind.i64 (Isl.size i), W,
        M, Value.int IntKind.i64 (Isl.most i), Value.int IntKind.i64 (Isl.row i)],
    Value.int IntKind.i64 tanks]
  [] 1 (Value.tuple #[Value.agg ff0, Value.int IntKind.i64 2]) [] 1 [],
CJ Tryz.prog B 10
  #[Value.agg
      #[Value.int IntKind.i64 (Isl.cap i), Value.int IntKind.i64 (Isl.sl i), Value.int IntKind.i64 (Isl.sh i),
        Value.int IntKind.i64 (Isl.roof i), Value.int IntKind.i64 (Isl.sand i), Value.int IntKind.i64 (Isl.kl i),
        Value.int IntKind.i64 (Isl.kh i), Value.int IntKind.i64 (Isl.ll i), Value.int IntKind.i64 (Isl.lh i),
        Value.int IntKind.i64 (Isl.pump i), Value.int IntKind.i64 (Isl.keep i), Value.int IntKind.i64 (Isl.size i), W,
        M, Value.int IntKind.i64 (Isl.most i), Value.int IntKind.i64 (Isl.row i)],
    Value.int IntKind.i64 7]
  [] 1 (Value.bool true) [] 1 []]⟩ := by kernel_rfl
set_option maxRecDepth 100000 in
theorem lf_fine (B : Lo) (i : Isl) (W M : Value) (tanks : Int) : ended (srun Tryz.prog goFns B 18 0 (entryC Tryz.prog 7 43 [.agg (islC i W M), .int .i64 tanks]) [] 0
    [(3, Hint.call [] (Value.bool true) [] 1 []),
(7, Hint.call [] (Value.tuple #[Value.agg ffN, Value.int IntKind.i64 0]) [] 1 []),
(16, Hint.call [] (Value.bool true) [] 2 []),
(24, Hint.call [] (Value.agg ffN) [] 2 []),
(25, Hint.call [] (Value.bool true) [] 2 []),
(28, Hint.call [] (Value.bool true) [] 2 [])] 0 [] []) [] = some ⟨.ret (.bool true), [], 2,
    [CJ Tryz.prog B 11 #[] [] 2 (Value.bool true) [] 2 [],
CJ Tryz.prog B 26
  #[Value.agg #[Value.slice none 0 0, Value.int IntKind.i64 0, Value.int IntKind.i64 1, Value.int IntKind.i64 0],
    Value.agg #[Value.slice none 0 0, Value.int IntKind.i64 0, Value.int IntKind.i64 1, Value.int IntKind.i64 0]]
  [] 2 (Value.bool true) [] 2 [],
CJ Tryz.prog B 27
  #[Value.agg
      #[Value.int IntKind.i64 (Isl.cap i), Value.int IntKind.i64 (Isl.sl i), Value.int IntKind.i64 (Isl.sh i),
        Value.int IntKind.i64 (Isl.roof i), Value.int IntKind.i64 (Isl.sand i), Value.int IntKind.i64 (Isl.kl i),
        Value.int IntKind.i64 (Isl.kh i), Value.int IntKind.i64 (Isl.ll i), Value.int IntKind.i64 (Isl.lh i),
        Value.int IntKind.i64 (Isl.pump i), Value.int IntKind.i64 (Isl.keep i), Value.int IntKind.i64 (Isl.size i), W,
        M, Value.int IntKind.i64 (Isl.most i), Value.int IntKind.i64 (Isl.row i)],
    Value.int IntKind.i64 tanks]
  [] 2 (Value.agg ffN) [] 2 [],
CJ Tryz.prog B 15
  #[Value.agg
      #[Value.int IntKind.i64 (Isl.cap i), Value.int IntKind.i64 (Isl.sl i), Value.int IntKind.i64 (Isl.sh i),
        Value.int IntKind.i64 (Isl.roof i), Value.int IntKind.i64 (Isl.sand i), Value.int IntKind.i64 (Isl.kl i),
        Value.int IntKind.i64 (Isl.kh i), Value.int IntKind.i64 (Isl.ll i), Value.int IntKind.i64 (Isl.lh i),
        Value.int IntKind.i64 (Isl.pump i), Value.int IntKind.i64 (Isl.keep i), Value.int IntKind.i64 (Isl.size i), W,
        M, Value.int IntKind.i64 (Isl.most i), Value.int IntKind.i64 (Isl.row i)],
    Value.int IntKind.i64 tanks]
  [] 2 (Value.bool true) [] 2 [],
CJ Tryz.prog B 25
  #[Value.agg
      #[Value.int IntKind.i64 (Isl.cap i), Value.int IntKind.i64 (Isl.sl i), Value.int IntKind.i64 (Isl.sh i),
        Value.int IntKind.i64 (Isl.roof i), Value.int IntKind.i64 (Isl.sand i), Value.int IntKind.i64 (Isl.kl i),
        Value.int IntKind.i64 (Isl.kh i), Value.int IntKind.i64 (Isl.ll i), Value.int IntKind.i64 (Isl.lh i),
        Value.int IntKind.i64 (Isl.pump i), Value.int IntKind.i64 (Isl.keep i), Value.int IntKind.i64 (Isl.size i), W,
        M, Value.int IntKind.i64 (Isl.most i), Value.int IntKind.i64 (Isl.row i)],
    Value.int IntKind.i64 tanks]
  [] 1 (Value.tuple #[Value.agg ffN, Value.int IntKind.i64 0]) [] 1 [],
CJ Tryz.prog B 10
  #[Value.agg
      #[Value.int IntKind.i64 (Isl.cap i), Value.int IntKind.i64 (Isl.sl i), Value.int IntKind.i64 (Isl.sh i),
        Value.int IntKind.i64 (Isl.roof i), Value.int IntKind.i64 (Isl.sand i), Value.int IntKind.i64 (Isl.kl i),
        Value.int IntKind.i64 (Isl.kh i), Value.int IntKind.i64 (Isl.ll i), Value.int IntKind.i64 (Isl.lh i),
        Value.int IntKind.i64 (Isl.pump i), Value.int IntKind.i64 (Isl.keep i), Value.int IntKind.i64 (Isl.size i), W,
        M, Value.int IntKind.i64 (Isl.most i), Value.int IntKind.i64 (Isl.row i)],
    Value.int IntKind.i64 7]
  [] 1 (Value.bool true) [] 1 []]⟩ := by kernel_rfl
set_option maxRecDepth 100000 in
theorem lf_bad (B : Lo) (i : Isl) (W M : Value) (tanks m r v : Int) (D : Array Value) : ended (srun Tryz.prog goFns B 18 0 (entryC Tryz.prog 7 43 [.agg (islC i W M), .int .i64 tanks]) [] 0
    [(3, Hint.call [] (Value.bool true) [] 1 []),
(7, Hint.call [] (Value.tuple #[Value.agg (ffQ 1 (Isl.nm i) m r v), Value.int IntKind.i64 0])
  [(1, Obj.cells D 4 (1, 1))] 2 []),
(16, Hint.call [] (Value.bool true) [] 3 []),
(24, Hint.call [] (Value.agg (ffQ 3 (Isl.nm i) m r v)) [(3, Obj.cells D 4 (1, 1))] 4 []),
(25, Hint.call [1, 3] (Value.bool true) [] 4 []),
(28, Hint.call [] (Value.bool true) [] 4 [])] 0 [] []) [] = some ⟨.ret (.bool true), [], 4,
    [CJ Tryz.prog B 11 #[] [] 4 (Value.bool true) [] 4 [],
CJ Tryz.prog B 26
  #[Value.agg
      #[Value.slice (some { block := 1, off := 0 }) (Isl.nm i) 0, Value.int IntKind.i64 m, Value.int IntKind.i64 r,
        Value.int IntKind.i64 v],
    Value.agg
      #[Value.slice (some { block := 3, off := 0 }) (Isl.nm i) 0, Value.int IntKind.i64 m, Value.int IntKind.i64 r,
        Value.int IntKind.i64 v]]
  [(1, some (Obj.cells D 4 (1, 1))), (3, some (Obj.cells D 4 (1, 1)))] 4 (Value.bool true) [] 4 [],
CJ Tryz.prog B 27
  #[Value.agg
      #[Value.int IntKind.i64 (Isl.cap i), Value.int IntKind.i64 (Isl.sl i), Value.int IntKind.i64 (Isl.sh i),
        Value.int IntKind.i64 (Isl.roof i), Value.int IntKind.i64 (Isl.sand i), Value.int IntKind.i64 (Isl.kl i),
        Value.int IntKind.i64 (Isl.kh i), Value.int IntKind.i64 (Isl.ll i), Value.int IntKind.i64 (Isl.lh i),
        Value.int IntKind.i64 (Isl.pump i), Value.int IntKind.i64 (Isl.keep i), Value.int IntKind.i64 (Isl.size i), W,
        M, Value.int IntKind.i64 (Isl.most i), Value.int IntKind.i64 (Isl.row i)],
    Value.int IntKind.i64 tanks]
  [] 3 (Value.agg (ffQ 3 (Isl.nm i) m r v)) [(3, Obj.cells D 4 (1, 1))] 4 [],
CJ Tryz.prog B 15
  #[Value.agg
      #[Value.int IntKind.i64 (Isl.cap i), Value.int IntKind.i64 (Isl.sl i), Value.int IntKind.i64 (Isl.sh i),
        Value.int IntKind.i64 (Isl.roof i), Value.int IntKind.i64 (Isl.sand i), Value.int IntKind.i64 (Isl.kl i),
        Value.int IntKind.i64 (Isl.kh i), Value.int IntKind.i64 (Isl.ll i), Value.int IntKind.i64 (Isl.lh i),
        Value.int IntKind.i64 (Isl.pump i), Value.int IntKind.i64 (Isl.keep i), Value.int IntKind.i64 (Isl.size i), W,
        M, Value.int IntKind.i64 (Isl.most i), Value.int IntKind.i64 (Isl.row i)],
    Value.int IntKind.i64 tanks]
  [] 3 (Value.bool true) [] 3 [],
CJ Tryz.prog B 25
  #[Value.agg
      #[Value.int IntKind.i64 (Isl.cap i), Value.int IntKind.i64 (Isl.sl i), Value.int IntKind.i64 (Isl.sh i),
        Value.int IntKind.i64 (Isl.roof i), Value.int IntKind.i64 (Isl.sand i), Value.int IntKind.i64 (Isl.kl i),
        Value.int IntKind.i64 (Isl.kh i), Value.int IntKind.i64 (Isl.ll i), Value.int IntKind.i64 (Isl.lh i),
        Value.int IntKind.i64 (Isl.pump i), Value.int IntKind.i64 (Isl.keep i), Value.int IntKind.i64 (Isl.size i), W,
        M, Value.int IntKind.i64 (Isl.most i), Value.int IntKind.i64 (Isl.row i)],
    Value.int IntKind.i64 tanks]
  [] 1 (Value.tuple #[Value.agg (ffQ 1 (Isl.nm i) m r v), Value.int IntKind.i64 0]) [(1, Obj.cells D 4 (1, 1))] 2 [],
CJ Tryz.prog B 10
  #[Value.agg
      #[Value.int IntKind.i64 (Isl.cap i), Value.int IntKind.i64 (Isl.sl i), Value.int IntKind.i64 (Isl.sh i),
        Value.int IntKind.i64 (Isl.roof i), Value.int IntKind.i64 (Isl.sand i), Value.int IntKind.i64 (Isl.kl i),
        Value.int IntKind.i64 (Isl.kh i), Value.int IntKind.i64 (Isl.ll i), Value.int IntKind.i64 (Isl.lh i),
        Value.int IntKind.i64 (Isl.pump i), Value.int IntKind.i64 (Isl.keep i), Value.int IntKind.i64 (Isl.size i), W,
        M, Value.int IntKind.i64 (Isl.most i), Value.int IntKind.i64 (Isl.row i)],
    Value.int IntKind.i64 7]
  [] 1 (Value.bool true) [] 1 []]⟩ := by kernel_rfl
end Go.Proofs.YtffdidleebognaaGreatDoor

namespace Go.Proofs.YtffdidleebognaaGreatDoor
open Go Go.CE Go.Proofs Go.RowKit Lens
set_option maxRecDepth 100000 in
theorem rSame_true {ab ao bb bo m ca cb : Nat} {f : Nat → Bool} {w : World} (hm : m ≤ maxLen) (ha : ∀ k, k < m → w.cell? ⟨ab, ao + k * 1, none⟩ = some (.bool (f k))) (hab : ab < w.heap.size)
    (hb : ∀ k, k < m → w.cell? ⟨bb, bo + k * 1, none⟩ = some (.bool (f k))) (hbb : bb < w.heap.size) :
    Calls Tryz.prog 48 #[.slice (some ⟨ab, ao, none⟩) m ca, .slice (some ⟨bb, bo, none⟩) m cb] w fun e w' => e = .returned (.bool true) ∧ Below w.heap.size w w' := by
  unfold maxLen at hm
  have hx : ExL [.slice (some ⟨ab, ao, some 0⟩) m ca, .slice (some ⟨bb, bo, some 0⟩) m cb] [.slice (some ⟨ab, ao, none⟩) m ca, .slice (some ⟨bb, bo, none⟩) m cb] := .cons (exact_rawS (some ⟨ab, ao, none⟩) m ca) (.cons (exact_rawS (some ⟨bb, bo, none⟩) m cb) .nil)
  have cA : ∀ k, k < m → RawCell (worldLo w) ab (ao + k * 1) (.bool (f k)) := fun k hk => raw_of hab (ha k hk) fun _ => .bool _
  have cB : ∀ k, k < m → RawCell (worldLo w) bb (bo + k * 1) (.bool (f k)) := fun k hk => raw_of hbb (hb k hk) fun _ => .bool _
  have all : ∀ k, k ≤ m → ∃ d : Nat → Value, (∀ t, Loose (d t)) ∧ GoE Tryz.prog (worldLo w) (entryC Tryz.prog 48 26 [.slice (some ⟨ab, ao, some 0⟩) m ca, .slice (some ⟨bb, bo, some 0⟩) m cb]) [] 0
      (headC 48 26 (smL ab ao bb bo m ca cb k) d (smT.map (it (bodyOf Tryz.prog 48)))) (heapO 0 []) 0 [] := by
    intro k
    induction k with
    | zero =>
      intro _
      exact (GoE.refl under_nil).headO goFns_ok mixed_ok (sm_entry (worldLo w) ab ao bb bo m ca cb) ⟨by simp [eqq_eq], trivial⟩ (by kernel_rfl) (by kernel_rfl) (by kernel_rfl) (by kernel_rfl) (by kernel_rfl) (by kernel_rfl) trivial
    | succ k ih =>
      intro hk
      obtain ⟨d, _, hg⟩ := ih (by omega)
      exact hg.headO goFns_ok mixed_ok (sm_round (worldLo w) ab ao bb bo m ca cb k (f k) d) ⟨wq_in (by omega) (by omega), by cases f k <;> rfl, cB k hk, ⟨rfl, hk⟩, cA k hk, ⟨rfl, hk⟩, ltq_t (by omega), trivial⟩
        (by kernel_rfl) (by kernel_rfl) (by kernel_rfl) (by kernel_rfl) (by kernel_rfl) (by kernel_rfl) trivial
  obtain ⟨d, _, hg⟩ := all m (Nat.le_refl _)
  exact (hg.calls goFns_ok mixed_ok (f := 48) (args := #[.slice (some ⟨ab, ao, some 0⟩) m ca, .slice (some ⟨bb, bo, some 0⟩) m cb]) (by kernel_rfl) (sm_end (worldLo w) ab ao bb bo m ca cb m d) ⟨ltq_f (Int.le_refl _), trivial⟩ (worldLo_has w) (VRl.vrs' hx.vrl)).mono
    fun _ _ ⟨v', _, he, hv, hb, _⟩ => ⟨by rw [he, af_eq (v := .bool true) rfl hv], hb⟩
section
variable {i : Isl} {wa : Option Addr} {wc mc : Nat} {ma : Option Addr} {tanks : Int} {w : World} {n : Nat}
theorem con_sameNil : CJ Tryz.prog (worldLo w) 48 #[.slice none 0 0, .slice none 0 0] [] n (.bool true) [] n [] :=
  con_of (l := [.slice none 0 0, .slice none 0 0]) (l' := [.slice none 0 0, .slice none 0 0]) (.cons (exact_af rfl) (.cons (exact_af rfl) .nil)) (exact_af rfl) fun w' _ =>
    b_ret (.cons (exact_af rfl) (.cons (exact_af rfl) .nil)) (exact_af rfl) (by kernel_rfl) (sm_nil (worldLo w')) trivial
theorem ex_ff0 : Exact (.agg ff0) (.agg ff0) := exact_agg (.cons (exact_af rfl) (.cons (exact_af rfl) (.cons (exact_af rfl) (.cons (exact_af rfl) .nil))))
theorem ex_ffN : Exact (.agg ffN) (.agg ffN) := exact_agg (.cons (exact_af rfl) (.cons (exact_af rfl) (.cons (exact_af rfl) (.cons (exact_af rfl) .nil))))
theorem con_sameFault0 : CJ Tryz.prog (worldLo w) 26 #[.agg ff0, .agg ff0] [] n (.bool true) [] n [] :=
  con_of (l := [.agg ff0, .agg ff0]) (l' := [.agg ff0, .agg ff0]) (.cons ex_ff0 (.cons ex_ff0 .nil)) (exact_af rfl) fun w' _ =>
    b_ret (.cons ex_ff0 (.cons ex_ff0 .nil)) (exact_af rfl) (by kernel_rfl) (sf_none (worldLo w')) ⟨con_sameNil, trivial⟩
theorem con_sameFaultN : CJ Tryz.prog (worldLo w) 26 #[.agg ffN, .agg ffN] [] n (.bool true) [] n [] :=
  con_of (l := [.agg ffN, .agg ffN]) (l' := [.agg ffN, .agg ffN]) (.cons ex_ffN (.cons ex_ffN .nil)) (exact_af rfl) fun w' _ =>
    b_ret (.cons ex_ffN (.cons ex_ffN .nil)) (exact_af rfl) (by kernel_rfl) (sf_fine (worldLo w')) ⟨con_sameNil, trivial⟩
theorem ex_fq (b o nm c : Nat) (k r v : Int) : Exact (.agg #[.slice (some ⟨b, o, some 0⟩) nm c, .int .i64 k, .int .i64 r, .int .i64 v]) (.agg #[.slice (some ⟨b, o, none⟩) nm c, .int .i64 k, .int .i64 r, .int .i64 v]) :=
  exact_agg (.cons (exact_rawS (some ⟨b, o, none⟩) nm c) (.cons (exact_af rfl) (.cons (exact_af rfl) (.cons (exact_af rfl) .nil))))
theorem rSameFault_true {ab ao bb bo m ca cb : Nat} {f : Nat → Bool} {x r v : Int} (hm : m ≤ maxLen) (ha : ∀ k, k < m → w.cell? ⟨ab, ao + k * 1, none⟩ = some (.bool (f k))) (hab : ab < w.heap.size)
    (hb : ∀ k, k < m → w.cell? ⟨bb, bo + k * 1, none⟩ = some (.bool (f k))) (hbb : bb < w.heap.size) :
    Calls Tryz.prog 26 #[.agg #[.slice (some ⟨ab, ao, none⟩) m ca, .int .i64 x, .int .i64 r, .int .i64 v], .agg #[.slice (some ⟨bb, bo, none⟩) m cb, .int .i64 x, .int .i64 r, .int .i64 v]] w fun e w' => e = .returned (.bool true) ∧ Below w.heap.size w w' := by
  have hs : CJ Tryz.prog (worldLo w) 48 #[.slice (some ⟨ab, ao, some 0⟩) m ca, .slice (some ⟨bb, bo, some 0⟩) m cb] [] 2 (.bool true) [] 2 [] :=
    con_of (l := [.slice (some ⟨ab, ao, some 0⟩) m ca, .slice (some ⟨bb, bo, some 0⟩) m cb]) (l' := [.slice (some ⟨ab, ao, none⟩) m ca, .slice (some ⟨bb, bo, none⟩) m cb]) (.cons (exact_rawS (some ⟨ab, ao, none⟩) m ca) (.cons (exact_rawS (some ⟨bb, bo, none⟩) m cb) .nil)) (exact_af rfl) fun w' hw =>
      rSame_true hm (fun k hk => (worldLo_cell hw hab).trans (ha k hk)) (Nat.lt_of_lt_of_le hab hw.le) (fun k hk => (worldLo_cell hw hbb).trans (hb k hk)) (Nat.lt_of_lt_of_le hbb hw.le)
  exact b_ret (l := [.agg #[.slice (some ⟨ab, ao, some 0⟩) m ca, .int .i64 x, .int .i64 r, .int .i64 v], .agg #[.slice (some ⟨bb, bo, some 0⟩) m cb, .int .i64 x, .int .i64 r, .int .i64 v]])
    (l' := [.agg #[.slice (some ⟨ab, ao, none⟩) m ca, .int .i64 x, .int .i64 r, .int .i64 v], .agg #[.slice (some ⟨bb, bo, none⟩) m cb, .int .i64 x, .int .i64 r, .int .i64 v]]) (.cons (ex_fq _ _ _ _ _ _ _) (.cons (ex_fq _ _ _ _ _ _ _) .nil)) (exact_af rfl) (by kernel_rfl) (sf_raw (worldLo w) ab ao bb bo m ca cb x r v)
    ⟨eqq_t rfl, eqq_t rfl, eqq_t rfl, hs, trivial⟩
theorem bool_cells {μ : Mu} {im : Img} {f : Nat → Bool} {m : Nat} {t : TypeId} {fz : Nat × Nat} (h : OR μ w im (.cells (rowA (boolE f) m) t fz)) : ∀ k, k < m → w.cell? ⟨im.blk, im.off + k * 1, none⟩ = some (.bool (f k)) := fun k hk => by
  have e : (rowA (boolE f) m)[k * 1 + 0]? = some (.bool (f k)) := rowA_get (e := boolE f) (z := 1) (fun _ => rfl) (by omega) m k hk
  obtain ⟨v', h1, h2⟩ := h.cell e
  rw [Nat.add_zero] at h1
  rw [h1, af_eq (v := .bool (f k)) rfl h2]
theorem con_sameFaultQ {a b m : Nat} {f : Nat → Bool} {x r v : Int} (hm : m ≤ maxLen) (ha : a < n) (hb : b < n) :
    CJ Tryz.prog (worldLo w) 26 #[.agg (ffQ a m x r v), .agg (ffQ b m x r v)] [(a, some (.cells (rowA (boolE f) m) 4 (1, 1))), (b, some (.cells (rowA (boolE f) m) 4 (1, 1)))] n (.bool true) [] n [] := by
  refine cj_read rfl (fun p hp => ?_) fun μ w' args' hB hv hH => ?_
  · simp only [List.mem_cons, List.not_mem_nil, or_false] at hp
    rcases hp with rfl | rfl
    · exact ha
    · exact hb
  · obtain ⟨ima, h1, h2, h3⟩ := hH (a, some (.cells (rowA (boolE f) m) 4 (1, 1))) (by simp) _ _ _ rfl
    obtain ⟨imb, k1, k2, k3⟩ := hH (b, some (.cells (rowA (boolE f) m) 4 (1, 1))) (by simp) _ _ _ rfl
    have hl := vrl_args (l := [.agg (ffQ a m x r v), .agg (ffQ b m x r v)]) hv
    have one : ∀ {a : Nat} {im : Img} {y : Value}, μ a = some im → VR μ (.agg #[.slice (some ⟨a, 0, none⟩) m 0, .int .i64 x, .int .i64 r, .int .i64 v]) y → ∃ c, y = .agg #[.slice (some ⟨im.blk, im.off, none⟩) m c, .int .i64 x, .int .i64 r, .int .i64 v] := fun hk h => by
      obtain ⟨ys, rfl, hy⟩ := h.agg_inv
      cases hy with
      | cons y1 hy => cases hy with
        | cons y2 hy => cases hy with
          | cons y3 hy => cases hy with
            | cons y4 hy =>
              cases hy
              obtain ⟨c, rfl, _, _⟩ := y1.slice_new hk
              have f2 := (exact_af (v := .int .i64 x) rfl).2 _ _ y2
              have f3 := (exact_af (v := .int .i64 r) rfl).2 _ _ y3
              have f4 := (exact_af (v := .int .i64 v) rfl).2 _ _ y4
              subst f2 f3 f4
              exact ⟨c, rfl⟩
    generalize hg : args'.toList = l at hl
    cases hl with
    | cons q1 hl => cases hl with
      | cons q2 hl =>
        cases hl
        obtain ⟨ca, rfl⟩ := one h1 q1
        obtain ⟨cb, rfl⟩ := one k1 q2
        have e : args' = #[.agg #[.slice (some ⟨ima.blk, ima.off, none⟩) m ca, .int .i64 x, .int .i64 r, .int .i64 v], .agg #[.slice (some ⟨imb.blk, imb.off, none⟩) m cb, .int .i64 x, .int .i64 r, .int .i64 v]] := by rw [← Array.toList_inj, hg]
        rw [e]
        exact rSameFault_true hm (bool_cells h3) h2 (bool_cells k3) k2
theorem con_rFaultFine (hi : IslAt w w.heap.size i wa ma) (h1 : islB i = true) (h2 : tanksB tanks = true) (h7 : i.nm ≤ 7) (hft : ftTo i tanks (2 ^ i.nm) = none) :
    CJ Tryz.prog (worldLo w) 27 #[islR i wa wc ma mc, .int .i64 tanks] [] n (.agg ffN) [] n [] :=
  con_of (v' := .agg ffN) exl_it ex_ffN fun _ hB => (rFault_any (islAt_lo hi hB) h1 h2 h7).mono fun _ _ ⟨⟨he, _⟩, hb⟩ => ⟨he hft, hb⟩
theorem con_rFaultBad (hi : IslAt w w.heap.size i wa ma) (h1 : islB i = true) (h2 : tanksB tanks = true) (h7 : i.nm ≤ 7) {b m : Nat} (hft : ftTo i tanks (2 ^ i.nm) = some (b, m)) :
    CJ Tryz.prog (worldLo w) 27 #[islR i wa wc ma mc, .int .i64 tanks] [] n (.agg (ffQ n i.nm m (wrongRule i (endsOf i tanks false (bitsDry i.nm b) m)) (wrongWell i (endsOf i tanks false (bitsDry i.nm b) m)))) [(n, .cells (rowA (boolE (bitsDry i.nm b)) i.nm) 4 (1, 1))] (n + 1) [] :=
  cj_row (boolE_af _ _) fun μ w' args' hB ha => by
    rw [exl_it.args ha]
    refine (rFault_any (islAt_lo hi hB) h1 h2 h7).mono fun e _ ⟨⟨_, he⟩, hb⟩ => ⟨?_, hb⟩
    obtain ⟨g, c, he, k1, k2, k3, k4, k5⟩ := he b m hft
    refine ⟨g, _, k1, k2, he, fun j v hv => ?_, fun μ' hμ => ?_⟩
    · have hj : j < i.nm := by
        have := (Array.getElem?_eq_some_iff.1 hv).1
        rwa [rowA_size (e := boolE (bitsDry i.nm b)) (z := 1) (fun _ => rfl), Nat.mul_one] at this
      have e : (rowA (boolE (bitsDry i.nm b)) i.nm)[j * 1 + 0]? = some (.bool (bitsDry i.nm b j)) := rowA_get (e := boolE (bitsDry i.nm b)) (z := 1) (fun _ => rfl) (by omega) i.nm j hj
      rw [Nat.mul_one, Nat.add_zero, hv] at e
      cases e
      exact k5 j hj
    · exact vr_aggl (.cons (.slice ⟨_, hμ, rfl, rfl⟩ k3 k4 fun h => absurd rfl h) (.cons (.int _ _) (.cons (.int _ _) (.cons (.int _ _) .nil))))
end
set_option maxRecDepth 100000 in
theorem faults_walk : Walk2 7 := by
  intro i wa wc ma mc x w hi hp
  cases hs : fewB i with
  | false => exact b_ret exl_it (exact_af rfl) (by kernel_rfl) (lf_few (worldLo w) i _ _ x) ⟨con_known hp, hs ▸ con_few hi, trivial⟩
  | true =>
    cases ha : (islB i && tanksB x) with
    | false => exact b_ret exl_it (exact_af rfl) (by kernel_rfl) (lf_no (worldLo w) i _ _ x) ⟨con_known hp, con_sameFault0, ha ▸ con_asked hi, con_FaultNo hi ha, hs ▸ con_few hi, trivial⟩
    | true =>
      have ha' := ha
      simp only [Bool.and_eq_true] at ha'
      obtain ⟨h1, h2⟩ := ha'
      have h7 : i.nm ≤ 7 := by
        simp only [fewB, h1, Bool.not_true, Bool.false_or, Bool.and_eq_true, decide_eq_true_eq] at hs
        exact hs.2
      have hml : i.nm ≤ maxLen := by unfold maxLen; omega
      cases hft : ftTo i x (2 ^ i.nm) with
      | none => exact b_ret exl_it (exact_af rfl) (by kernel_rfl) (lf_fine (worldLo w) i _ _ x) ⟨con_known hp, con_sameFaultN, con_rFaultFine hi h1 h2 h7 hft, ha ▸ con_asked hi, con_FaultFine hi h1 h2 hft, hs ▸ con_few hi, trivial⟩
      | some y =>
        obtain ⟨b, m⟩ := y
        exact b_ret exl_it (exact_af rfl) (by kernel_rfl) (lf_bad (worldLo w) i _ _ x m (wrongRule i (endsOf i x false (bitsDry i.nm b) m)) (wrongWell i (endsOf i x false (bitsDry i.nm b) m)) (rowA (boolE (bitsDry i.nm b)) i.nm))
          ⟨con_known hp, con_sameFaultQ hml (by omega) (by omega), con_rFaultBad hi h1 h2 h7 hft, ha ▸ con_asked hi, con_FaultBad hi h1 h2 hft, hs ▸ con_few hi, trivial⟩
end Go.Proofs.YtffdidleebognaaGreatDoor
