/- LensSafe: the law's runs. -/
import Derived.Test.YtffdidleebognaaGreatDoorZS49
namespace Go.Proofs.YtffdidleebognaaGreatDoor
open Go Go.CE Go.Proofs Go.RowKit Lens
def lsL3 (nm k : Nat) (bef : Bool) : List (Nat × Value) := [(3, .pointer (some ⟨0, 0, none⟩)), (9, .slice (some ⟨1, 0, none⟩) nm 0), (12, .bool bef), (22, .int .i64 k)]
def lsO3 (i : Isl) (W M : Value) (E : Array Value) : List (Bool × Obj) := [(false, .cells (islC i W M) 27 (0, 0)), (false, .cells E 53 (1, 1))]
def lsT3 : List It := [.code [1, 1, 1, 1, 1, 1, 1, 0, 1, 0, 0],  .inLoop [1, 1, 1, 1, 1, 1, 1, 0, 1, 0, 0],  .inBlock 4,  .code [1, 1, 1, 1, 1, 1, 1, 1]]
def lsO1 (i : Isl) (W M : Value) (t : Tru) (TD TR TN : Value) (m : Nat) (r v : Int) (D E E' : Array Value) : List (Bool × Obj) :=
  [(false, .cells (islC i W M) 27 (0, 0)), (false, .cells (truC t TD TR TN) 40 (0, 0)), (false, .cells D 4 (1, 1)), (true, .cells (ffQ 2 i.nm m r v) 59 (0, 0)), (false, .cells E 53 (1, 1)), (false, .cells E' 53 (1, 1))]
def lsL1 (nm k : Nat) : List (Nat × Value) := [(3, .pointer (some ⟨0, 0, none⟩)), (5, .pointer (some ⟨1, 0, none⟩)), (7, .pointer (some ⟨3, 0, none⟩)), (9, .slice (some ⟨4, 0, none⟩) nm 0), (12, .bool false), (13, .slice (some ⟨5, 0, none⟩) nm 0), (16, .int .i64 k)]
def lsT1 : List It := [.code [1, 1, 1, 1, 1, 1, 0, 1, 0, 1, 1, 1, 0, 1, 0, 0],  .inLoop [1, 1, 1, 1, 1, 1, 0, 1, 0, 1, 1, 1, 0, 1, 0, 0],  .inBlock 0,  .code [1, 1, 1, 1, 1, 1, 0, 1, 0, 1, 1, 1, 1],  .code [1, 1, 1, 1, 1, 1, 1]]
def lsL2 (nm : Nat) (k : Int) (bef : Bool) : List (Nat × Value) := [(3, .pointer (some ⟨0, 0, none⟩)), (5, .pointer (some ⟨1, 0, none⟩)), (7, .pointer (some ⟨3, 0, none⟩)), (9, .slice (some ⟨4, 0, none⟩) nm 0), (12, .bool bef), (21, .int .i64 k)]
def lsO2 (i : Isl) (W M : Value) (t : Tru) (TD TR TN : Value) (m : Nat) (r v : Int) (D E : Array Value) : List (Bool × Obj) :=
  [(false, .cells (islC i W M) 27 (0, 0)), (false, .cells (truC t TD TR TN) 40 (0, 0)), (false, .cells D 4 (1, 1)), (true, .cells (ffQ 2 i.nm m r v) 59 (0, 0)), (false, .cells E 53 (1, 1))]
def lsT2 : List It := [.code [1, 1, 1, 1, 1, 1, 0, 1, 0, 1, 1, 1, 1, 1, 1, 0, 0],  .inLoop [1, 1, 1, 1, 1, 1, 0, 1, 0, 1, 1, 1, 1, 1, 1, 0, 0],  .inBlock 2,  .code [1, 1, 1, 1, 1, 1, 1]]
set_option maxRecDepth 100000 in
theorem ls_short (B : Lo) (i : Isl) (t : Tru) (tanks : Int) (W M D R N : Value) : ended (srun Tryz.prog goFns B 10 0 (entryC Tryz.prog 8 206 [.agg (islC i W M), .int .i64 tanks, .agg (truC t D R N)]) [] 0
    [(4, Hint.call [] (Value.bool false) [] 2 []),
(23, Hint.call [] (Value.bool true) [] 2 [])] 0 [] []) [] = some ⟨.ret (.bool true), [], 2,
    [CJ Tryz.prog B 11 #[] [] 2 (Value.bool true) [] 2 [],
CJ Tryz.prog B 18
  #[Value.agg
      #[Value.int IntKind.i64 (Isl.cap i), Value.int IntKind.i64 (Isl.sl i), Value.int IntKind.i64 (Isl.sh i),
        Value.int IntKind.i64 (Isl.roof i), Value.int IntKind.i64 (Isl.sand i), Value.int IntKind.i64 (Isl.kl i),
        Value.int IntKind.i64 (Isl.kh i), Value.int IntKind.i64 (Isl.ll i), Value.int IntKind.i64 (Isl.lh i),
        Value.int IntKind.i64 (Isl.pump i), Value.int IntKind.i64 (Isl.keep i), Value.int IntKind.i64 (Isl.size i), W,
        M, Value.int IntKind.i64 (Isl.most i), Value.int IntKind.i64 (Isl.row i)]]
  [] 2 (Value.bool false) [] 2 []]⟩ := by kernel_rfl
set_option maxRecDepth 100000 in
theorem ls_sized (B : Lo) (i : Isl) (t : Tru) (tanks : Int) (W M D R N : Value) : ended (srun Tryz.prog goFns B 10 0 (entryC Tryz.prog 8 206 [.agg (islC i W M), .int .i64 tanks, .agg (truC t D R N)]) [] 0
    [(4, Hint.call [] (Value.bool true) [] 2 []),
(8, Hint.call [] (Value.bool false) [] 2 []),
(23, Hint.call [] (Value.bool true) [] 2 [])] 0 [] []) [] = some ⟨.ret (.bool true), [], 2,
    [CJ Tryz.prog B 11 #[] [] 2 (Value.bool true) [] 2 [],
CJ Tryz.prog B 19
  #[Value.agg
      #[Value.int IntKind.i64 (Tru.start t), Value.int IntKind.i64 (Tru.soak t), Value.int IntKind.i64 (Tru.leak t), D,
        R, N]]
  [] 2 (Value.bool false) [] 2 [],
CJ Tryz.prog B 18
  #[Value.agg
      #[Value.int IntKind.i64 (Isl.cap i), Value.int IntKind.i64 (Isl.sl i), Value.int IntKind.i64 (Isl.sh i),
        Value.int IntKind.i64 (Isl.roof i), Value.int IntKind.i64 (Isl.sand i), Value.int IntKind.i64 (Isl.kl i),
        Value.int IntKind.i64 (Isl.kh i), Value.int IntKind.i64 (Isl.ll i), Value.int IntKind.i64 (Isl.lh i),
        Value.int IntKind.i64 (Isl.pump i), Value.int IntKind.i64 (Isl.keep i), Value.int IntKind.i64 (Isl.size i), W,
        M, Value.int IntKind.i64 (Isl.most i), Value.int IntKind.i64 (Isl.row i)]]
  [] 2 (Value.bool true) [] 2 []]⟩ := by kernel_rfl
set_option maxRecDepth 100000 in
theorem ls_asked (B : Lo) (i : Isl) (t : Tru) (tanks : Int) (W M D R N : Value) : ended (srun Tryz.prog goFns B 10 0 (entryC Tryz.prog 8 206 [.agg (islC i W M), .int .i64 tanks, .agg (truC t D R N)]) [] 0
    [(4, Hint.call [] (Value.bool true) [] 2 []),
(8, Hint.call [] (Value.bool true) [] 2 []),
(14, Hint.call [] (Value.bool false) [] 2 []),
(23, Hint.call [] (Value.bool true) [] 2 [])] 0 [] []) [] = some ⟨.ret (.bool true), [], 2,
    [CJ Tryz.prog B 11 #[] [] 2 (Value.bool true) [] 2 [],
CJ Tryz.prog B 15
  #[Value.agg
      #[Value.int IntKind.i64 (Isl.cap i), Value.int IntKind.i64 (Isl.sl i), Value.int IntKind.i64 (Isl.sh i),
        Value.int IntKind.i64 (Isl.roof i), Value.int IntKind.i64 (Isl.sand i), Value.int IntKind.i64 (Isl.kl i),
        Value.int IntKind.i64 (Isl.kh i), Value.int IntKind.i64 (Isl.ll i), Value.int IntKind.i64 (Isl.lh i),
        Value.int IntKind.i64 (Isl.pump i), Value.int IntKind.i64 (Isl.keep i), Value.int IntKind.i64 (Isl.size i), W,
        M, Value.int IntKind.i64 (Isl.most i), Value.int IntKind.i64 (Isl.row i)],
    Value.int IntKind.i64 tanks]
  [] 2 (Value.bool false) [] 2 [],
CJ Tryz.prog B 19
  #[Value.agg
      #[Value.int IntKind.i64 (Tru.start t), Value.int IntKind.i64 (Tru.soak t), Value.int IntKind.i64 (Tru.leak t), D,
        R, N]]
  [] 2 (Value.bool true) [] 2 [],
CJ Tryz.prog B 18
  #[Value.agg
      #[Value.int IntKind.i64 (Isl.cap i), Value.int IntKind.i64 (Isl.sl i), Value.int IntKind.i64 (Isl.sh i),
        Value.int IntKind.i64 (Isl.roof i), Value.int IntKind.i64 (Isl.sand i), Value.int IntKind.i64 (Isl.kl i),
        Value.int IntKind.i64 (Isl.kh i), Value.int IntKind.i64 (Isl.ll i), Value.int IntKind.i64 (Isl.lh i),
        Value.int IntKind.i64 (Isl.pump i), Value.int IntKind.i64 (Isl.keep i), Value.int IntKind.i64 (Isl.size i), W,
        M, Value.int IntKind.i64 (Isl.most i), Value.int IntKind.i64 (Isl.row i)]]
  [] 2 (Value.bool true) [] 2 []]⟩ := by kernel_rfl
set_option maxRecDepth 100000 in
theorem ls_truth (B : Lo) (i : Isl) (t : Tru) (tanks : Int) (W M D R N : Value) : ended (srun Tryz.prog goFns B 10 0 (entryC Tryz.prog 8 206 [.agg (islC i W M), .int .i64 tanks, .agg (truC t D R N)]) [] 0
    [(4, Hint.call [] (Value.bool true) [] 2 []),
(8, Hint.call [] (Value.bool true) [] 2 []),
(14, Hint.call [] (Value.bool true) [] 2 []),
(20, Hint.call [] (Value.bool false) [] 2 []),
(23, Hint.call [] (Value.bool true) [] 2 [])] 0 [] []) [] = some ⟨.ret (.bool true), [], 2,
    [CJ Tryz.prog B 11 #[] [] 2 (Value.bool true) [] 2 [],
CJ Tryz.prog B 21
  #[Value.agg
      #[Value.int IntKind.i64 (Isl.cap i), Value.int IntKind.i64 (Isl.sl i), Value.int IntKind.i64 (Isl.sh i),
        Value.int IntKind.i64 (Isl.roof i), Value.int IntKind.i64 (Isl.sand i), Value.int IntKind.i64 (Isl.kl i),
        Value.int IntKind.i64 (Isl.kh i), Value.int IntKind.i64 (Isl.ll i), Value.int IntKind.i64 (Isl.lh i),
        Value.int IntKind.i64 (Isl.pump i), Value.int IntKind.i64 (Isl.keep i), Value.int IntKind.i64 (Isl.size i), W,
        M, Value.int IntKind.i64 (Isl.most i), Value.int IntKind.i64 (Isl.row i)],
    Value.agg
      #[Value.int IntKind.i64 (Tru.start t), Value.int IntKind.i64 (Tru.soak t), Value.int IntKind.i64 (Tru.leak t), D,
        R, N]]
  [] 2 (Value.bool false) [] 2 [],
CJ Tryz.prog B 15
  #[Value.agg
      #[Value.int IntKind.i64 (Isl.cap i), Value.int IntKind.i64 (Isl.sl i), Value.int IntKind.i64 (Isl.sh i),
        Value.int IntKind.i64 (Isl.roof i), Value.int IntKind.i64 (Isl.sand i), Value.int IntKind.i64 (Isl.kl i),
        Value.int IntKind.i64 (Isl.kh i), Value.int IntKind.i64 (Isl.ll i), Value.int IntKind.i64 (Isl.lh i),
        Value.int IntKind.i64 (Isl.pump i), Value.int IntKind.i64 (Isl.keep i), Value.int IntKind.i64 (Isl.size i), W,
        M, Value.int IntKind.i64 (Isl.most i), Value.int IntKind.i64 (Isl.row i)],
    Value.int IntKind.i64 tanks]
  [] 2 (Value.bool true) [] 2 [],
CJ Tryz.prog B 19
  #[Value.agg
      #[Value.int IntKind.i64 (Tru.start t), Value.int IntKind.i64 (Tru.soak t), Value.int IntKind.i64 (Tru.leak t), D,
        R, N]]
  [] 2 (Value.bool true) [] 2 [],
CJ Tryz.prog B 18
  #[Value.agg
      #[Value.int IntKind.i64 (Isl.cap i), Value.int IntKind.i64 (Isl.sl i), Value.int IntKind.i64 (Isl.sh i),
        Value.int IntKind.i64 (Isl.roof i), Value.int IntKind.i64 (Isl.sand i), Value.int IntKind.i64 (Isl.kl i),
        Value.int IntKind.i64 (Isl.kh i), Value.int IntKind.i64 (Isl.ll i), Value.int IntKind.i64 (Isl.lh i),
        Value.int IntKind.i64 (Isl.pump i), Value.int IntKind.i64 (Isl.keep i), Value.int IntKind.i64 (Isl.size i), W,
        M, Value.int IntKind.i64 (Isl.most i), Value.int IntKind.i64 (Isl.row i)]]
  [] 2 (Value.bool true) [] 2 []]⟩ := by kernel_rfl
set_option maxRecDepth 100000 in
theorem ls_fine (B : Lo) (i : Isl) (t : Tru) (tanks : Int) (W TD TR TN : Value) (mb mo mc : Nat) (E : Array Value) (g0 g1 g2 g3 g4 g5 : Int) : land (srun Tryz.prog goFns B 28 0 (entryC Tryz.prog 8 206 [.agg (islC i W (.slice (some ⟨mb, mo, some 0⟩) i.nm mc)), .int .i64 tanks, .agg (truC t TD TR TN)]) [] 0
    [(4, Hint.call [] (Value.bool true) [] 2 []),
(8, Hint.call [] (Value.bool true) [] 2 []),
(14, Hint.call [] (Value.bool true) [] 2 []),
(20, Hint.call [] (Value.bool true) [] 2 []),
(25, Hint.call [] (Value.tuple #[Value.agg ffN, Value.int IntKind.i64 0]) [] 2 []),
(35, Hint.call []
  (Value.tuple
    #[Value.slice (some { block := 3, off := 0 }) (Isl.nm i) 0,
      Value.agg
        #[Value.int IntKind.i64 g0, Value.int IntKind.i64 g1, Value.int IntKind.i64 g2, Value.int IntKind.i64 g3,
          Value.int IntKind.i64 g4, Value.int IntKind.i64 g5],
      Value.int IntKind.i64 0])
  [(3, Obj.cells E 53 (1, 1))] 4 []),
(56, Hint.val (Value.bool false))] 0 [] []) ((lsL3 i.nm 0 true).map (·.1)) ((kz [0, 3] (lsO3 i W (.slice (some ⟨mb, mo, some 0⟩) i.nm mc) E)).map (·.old)) = some ⟨8, 206, lsT3.map (it (bodyOf Tryz.prog 8)), [], .run, none, (lsL3 i.nm 0 true).map (fun p => rnV (rhoK (kz [0, 3] (lsO3 i W (.slice (some ⟨mb, mo, some 0⟩) i.nm mc) E))) 3 p.2), (kz [0, 3] (lsO3 i W (.slice (some ⟨mb, mo, some 0⟩) i.nm mc) E)).map (fun kept_ => some (wasK (rhoK (kz [0, 3] (lsO3 i W (.slice (some ⟨mb, mo, some 0⟩) i.nm mc) E))) kept_)), 5,
    [(!eqq (↑(Isl.nm i) : Int) (↑(Isl.nm i) : Int)) = false,
CJ Tryz.prog B 20
  #[Value.agg
      #[Value.int IntKind.i64 (Isl.cap i), Value.int IntKind.i64 (Isl.sl i), Value.int IntKind.i64 (Isl.sh i),
        Value.int IntKind.i64 (Isl.roof i), Value.int IntKind.i64 (Isl.sand i), Value.int IntKind.i64 (Isl.kl i),
        Value.int IntKind.i64 (Isl.kh i), Value.int IntKind.i64 (Isl.ll i), Value.int IntKind.i64 (Isl.lh i),
        Value.int IntKind.i64 (Isl.pump i), Value.int IntKind.i64 (Isl.keep i), Value.int IntKind.i64 (Isl.size i), W,
        Value.slice (some { block := mb, off := mo, spot := some 0 }) (Isl.nm i) mc, Value.int IntKind.i64 (Isl.most i),
        Value.int IntKind.i64 (Isl.row i)],
    Value.int IntKind.i64 tanks,
    Value.agg
      #[Value.int IntKind.i64 (Tru.start t), Value.int IntKind.i64 (Tru.soak t), Value.int IntKind.i64 (Tru.leak t), TD,
        TR, TN]]
  [] 3
  (Value.tuple
    #[Value.slice (some { block := 3, off := 0 }) (Isl.nm i) 0,
      Value.agg
        #[Value.int IntKind.i64 g0, Value.int IntKind.i64 g1, Value.int IntKind.i64 g2, Value.int IntKind.i64 g3,
          Value.int IntKind.i64 g4, Value.int IntKind.i64 g5],
      Value.int IntKind.i64 0])
  [(3, Obj.cells E 53 (1, 1))] 4 [],
CJ Tryz.prog B 25
  #[Value.agg
      #[Value.int IntKind.i64 (Isl.cap i), Value.int IntKind.i64 (Isl.sl i), Value.int IntKind.i64 (Isl.sh i),
        Value.int IntKind.i64 (Isl.roof i), Value.int IntKind.i64 (Isl.sand i), Value.int IntKind.i64 (Isl.kl i),
        Value.int IntKind.i64 (Isl.kh i), Value.int IntKind.i64 (Isl.ll i), Value.int IntKind.i64 (Isl.lh i),
        Value.int IntKind.i64 (Isl.pump i), Value.int IntKind.i64 (Isl.keep i), Value.int IntKind.i64 (Isl.size i), W,
        Value.slice (some { block := mb, off := mo, spot := some 0 }) (Isl.nm i) mc, Value.int IntKind.i64 (Isl.most i),
        Value.int IntKind.i64 (Isl.row i)],
    Value.int IntKind.i64 tanks]
  [] 2 (Value.tuple #[Value.agg ffN, Value.int IntKind.i64 0]) [] 2 [],
CJ Tryz.prog B 21
  #[Value.agg
      #[Value.int IntKind.i64 (Isl.cap i), Value.int IntKind.i64 (Isl.sl i), Value.int IntKind.i64 (Isl.sh i),
        Value.int IntKind.i64 (Isl.roof i), Value.int IntKind.i64 (Isl.sand i), Value.int IntKind.i64 (Isl.kl i),
        Value.int IntKind.i64 (Isl.kh i), Value.int IntKind.i64 (Isl.ll i), Value.int IntKind.i64 (Isl.lh i),
        Value.int IntKind.i64 (Isl.pump i), Value.int IntKind.i64 (Isl.keep i), Value.int IntKind.i64 (Isl.size i), W,
        Value.slice (some { block := mb, off := mo, spot := some 0 }) (Isl.nm i) mc, Value.int IntKind.i64 (Isl.most i),
        Value.int IntKind.i64 (Isl.row i)],
    Value.agg
      #[Value.int IntKind.i64 (Tru.start t), Value.int IntKind.i64 (Tru.soak t), Value.int IntKind.i64 (Tru.leak t), TD,
        TR, TN]]
  [] 2 (Value.bool true) [] 2 [],
CJ Tryz.prog B 15
  #[Value.agg
      #[Value.int IntKind.i64 (Isl.cap i), Value.int IntKind.i64 (Isl.sl i), Value.int IntKind.i64 (Isl.sh i),
        Value.int IntKind.i64 (Isl.roof i), Value.int IntKind.i64 (Isl.sand i), Value.int IntKind.i64 (Isl.kl i),
        Value.int IntKind.i64 (Isl.kh i), Value.int IntKind.i64 (Isl.ll i), Value.int IntKind.i64 (Isl.lh i),
        Value.int IntKind.i64 (Isl.pump i), Value.int IntKind.i64 (Isl.keep i), Value.int IntKind.i64 (Isl.size i), W,
        Value.slice (some { block := mb, off := mo, spot := some 0 }) (Isl.nm i) mc, Value.int IntKind.i64 (Isl.most i),
        Value.int IntKind.i64 (Isl.row i)],
    Value.int IntKind.i64 tanks]
  [] 2 (Value.bool true) [] 2 [],
CJ Tryz.prog B 19
  #[Value.agg
      #[Value.int IntKind.i64 (Tru.start t), Value.int IntKind.i64 (Tru.soak t), Value.int IntKind.i64 (Tru.leak t), TD,
        TR, TN]]
  [] 2 (Value.bool true) [] 2 [],
CJ Tryz.prog B 18
  #[Value.agg
      #[Value.int IntKind.i64 (Isl.cap i), Value.int IntKind.i64 (Isl.sl i), Value.int IntKind.i64 (Isl.sh i),
        Value.int IntKind.i64 (Isl.roof i), Value.int IntKind.i64 (Isl.sand i), Value.int IntKind.i64 (Isl.kl i),
        Value.int IntKind.i64 (Isl.kh i), Value.int IntKind.i64 (Isl.ll i), Value.int IntKind.i64 (Isl.lh i),
        Value.int IntKind.i64 (Isl.pump i), Value.int IntKind.i64 (Isl.keep i), Value.int IntKind.i64 (Isl.size i), W,
        Value.slice (some { block := mb, off := mo, spot := some 0 }) (Isl.nm i) mc, Value.int IntKind.i64 (Isl.most i),
        Value.int IntKind.i64 (Isl.row i)]]
  [] 2 (Value.bool true) [] 2 []]⟩ := by kernel_rfl
set_option maxRecDepth 100000 in
theorem ls_bad (B : Lo) (i : Isl) (t : Tru) (tanks : Int) (W TD TR TN : Value) (mb mo mc m : Nat) (D E E' R1 N1 : Array Value) (r v g0 g1 g2 g3 g4 g5 h0 h1 h2 h3 h4 h5 s1 k1 l1 : Int) : land (srun Tryz.prog goFns B 39 0 (entryC Tryz.prog 8 206 [.agg (islC i W (.slice (some ⟨mb, mo, some 0⟩) i.nm mc)), .int .i64 tanks, .agg (truC t TD TR TN)]) [] 0
    [(4, Hint.call [] (Value.bool true) [] 2 []),
(8, Hint.call [] (Value.bool true) [] 2 []),
(14, Hint.call [] (Value.bool true) [] 2 []),
(20, Hint.call [] (Value.bool true) [] 2 []),
(25, Hint.call [] (Value.tuple #[Value.agg (ffQ 2 (Isl.nm i) (↑m : Int) r v), Value.int IntKind.i64 0])
  [(2, Obj.cells D 4 (1, 1))] 3 []),
(35, Hint.call []
  (Value.tuple
    #[Value.slice (some { block := 4, off := 0 }) (Isl.nm i) 0,
      Value.agg
        #[Value.int IntKind.i64 g0, Value.int IntKind.i64 g1, Value.int IntKind.i64 g2, Value.int IntKind.i64 g3,
          Value.int IntKind.i64 g4, Value.int IntKind.i64 g5],
      Value.int IntKind.i64 0])
  [(4, Obj.cells E 53 (1, 1))] 5 []),
(56, Hint.val (Value.bool false)),
(60, Hint.val (Value.bool false)),
(64, Hint.val (Value.bool true)),
(68, Hint.call [2] (Value.bool true) [] 6 []),
(81, Hint.val (Value.bool false)),
(86, Hint.val (Value.bool false)),
(93, Hint.call [2]
  (Value.agg
    #[Value.int IntKind.i64 s1, Value.int IntKind.i64 k1, Value.int IntKind.i64 l1,
      Value.slice (some { block := 2, off := 0 }) (Isl.nm i) 0,
      Value.slice (some { block := 6, off := 0 }) (Isl.nm i) 1,
      Value.slice (some { block := 7, off := 0 }) (Isl.nm i) 1])
  [(6, Obj.cells R1 3), (7, Obj.cells N1 3)] 8 []),
(94, Hint.call [2, 6, 7]
  (Value.tuple
    #[Value.slice (some { block := 8, off := 0 }) (Isl.nm i) 0,
      Value.agg
        #[Value.int IntKind.i64 h0, Value.int IntKind.i64 h1, Value.int IntKind.i64 h2, Value.int IntKind.i64 h3,
          Value.int IntKind.i64 h4, Value.int IntKind.i64 h5],
      Value.int IntKind.i64 0])
  [(8, Obj.cells E' 53 (1, 1))] 9 []),
(111, Hint.val (Value.bool false))] 0 [] []) ((lsL1 i.nm 0).map (·.1)) ((kz [0, 1, 2, 3, 4, 8] (lsO1 i W (.slice (some ⟨mb, mo, some 0⟩) i.nm mc) t TD TR TN m r v D E E')).map (·.old)) = some ⟨8, 206, lsT1.map (it (bodyOf Tryz.prog 8)), [], .run, none, (lsL1 i.nm 0).map (fun p => rnV (rhoK (kz [0, 1, 2, 3, 4, 8] (lsO1 i W (.slice (some ⟨mb, mo, some 0⟩) i.nm mc) t TD TR TN m r v D E E'))) 3 p.2), (kz [0, 1, 2, 3, 4, 8] (lsO1 i W (.slice (some ⟨mb, mo, some 0⟩) i.nm mc) t TD TR TN m r v D E E')).map (fun kept_ => some (wasK (rhoK (kz [0, 1, 2, 3, 4, 8] (lsO1 i W (.slice (some ⟨mb, mo, some 0⟩) i.nm mc) t TD TR TN m r v D E E'))) kept_)), 10,
    [(!eqq (↑(Isl.nm i) : Int) (↑(Isl.nm i) : Int)) = false,
CJ Tryz.prog B 20
  #[Value.agg
      #[Value.int IntKind.i64 (Isl.cap i), Value.int IntKind.i64 (Isl.sl i), Value.int IntKind.i64 (Isl.sh i),
        Value.int IntKind.i64 (Isl.roof i), Value.int IntKind.i64 (Isl.sand i), Value.int IntKind.i64 (Isl.kl i),
        Value.int IntKind.i64 (Isl.kh i), Value.int IntKind.i64 (Isl.ll i), Value.int IntKind.i64 (Isl.lh i),
        Value.int IntKind.i64 (Isl.pump i), Value.int IntKind.i64 (Isl.keep i), Value.int IntKind.i64 (Isl.size i), W,
        Value.slice (some { block := mb, off := mo, spot := some 0 }) (Isl.nm i) mc, Value.int IntKind.i64 (Isl.most i),
        Value.int IntKind.i64 (Isl.row i)],
    Value.int IntKind.i64 tanks,
    Value.agg
      #[Value.int IntKind.i64 s1, Value.int IntKind.i64 k1, Value.int IntKind.i64 l1,
        Value.slice (some { block := 2, off := 0 }) (Isl.nm i) 0,
        Value.slice (some { block := 6, off := 0 }) (Isl.nm i) 1,
        Value.slice (some { block := 7, off := 0 }) (Isl.nm i) 1]]
  [(2, some (Obj.cells D 4 (1, 1))), (6, some (Obj.cells R1 3)), (7, some (Obj.cells N1 3))] 8
  (Value.tuple
    #[Value.slice (some { block := 8, off := 0 }) (Isl.nm i) 0,
      Value.agg
        #[Value.int IntKind.i64 h0, Value.int IntKind.i64 h1, Value.int IntKind.i64 h2, Value.int IntKind.i64 h3,
          Value.int IntKind.i64 h4, Value.int IntKind.i64 h5],
      Value.int IntKind.i64 0])
  [(8, Obj.cells E' 53 (1, 1))] 9 [],
CJ Tryz.prog B 29
  #[Value.agg
      #[Value.int IntKind.i64 (Isl.cap i), Value.int IntKind.i64 (Isl.sl i), Value.int IntKind.i64 (Isl.sh i),
        Value.int IntKind.i64 (Isl.roof i), Value.int IntKind.i64 (Isl.sand i), Value.int IntKind.i64 (Isl.kl i),
        Value.int IntKind.i64 (Isl.kh i), Value.int IntKind.i64 (Isl.ll i), Value.int IntKind.i64 (Isl.lh i),
        Value.int IntKind.i64 (Isl.pump i), Value.int IntKind.i64 (Isl.keep i), Value.int IntKind.i64 (Isl.size i), W,
        Value.slice (some { block := mb, off := mo, spot := some 0 }) (Isl.nm i) mc, Value.int IntKind.i64 (Isl.most i),
        Value.int IntKind.i64 (Isl.row i)],
    Value.slice (some { block := 2, off := 0 }) (Isl.nm i) 0, Value.bool false]
  [(2, some (Obj.cells D 4 (1, 1)))] 6
  (Value.agg
    #[Value.int IntKind.i64 s1, Value.int IntKind.i64 k1, Value.int IntKind.i64 l1,
      Value.slice (some { block := 2, off := 0 }) (Isl.nm i) 0,
      Value.slice (some { block := 6, off := 0 }) (Isl.nm i) 1,
      Value.slice (some { block := 7, off := 0 }) (Isl.nm i) 1])
  [(6, Obj.cells R1 3), (7, Obj.cells N1 3)] 8 [],
ltq v 0 = false,
(!ltq (↑m : Int) (↑(Isl.nm i) : Int)) = false,
CJ Tryz.prog B 28
  #[Value.agg
      #[Value.int IntKind.i64 (Isl.cap i), Value.int IntKind.i64 (Isl.sl i), Value.int IntKind.i64 (Isl.sh i),
        Value.int IntKind.i64 (Isl.roof i), Value.int IntKind.i64 (Isl.sand i), Value.int IntKind.i64 (Isl.kl i),
        Value.int IntKind.i64 (Isl.kh i), Value.int IntKind.i64 (Isl.ll i), Value.int IntKind.i64 (Isl.lh i),
        Value.int IntKind.i64 (Isl.pump i), Value.int IntKind.i64 (Isl.keep i), Value.int IntKind.i64 (Isl.size i), W,
        Value.slice (some { block := mb, off := mo, spot := some 0 }) (Isl.nm i) mc, Value.int IntKind.i64 (Isl.most i),
        Value.int IntKind.i64 (Isl.row i)],
    Value.slice (some { block := 2, off := 0 }) (Isl.nm i) 0]
  [(2, some (Obj.cells D 4 (1, 1)))] 6 (Value.bool true) [] 6 [],
(!eqq r 1) = true,
eqq r 1 = false,
(!eqq (↑(Isl.nm i) : Int) (↑(Isl.nm i) : Int)) = false,
CJ Tryz.prog B 20
  #[Value.agg
      #[Value.int IntKind.i64 (Isl.cap i), Value.int IntKind.i64 (Isl.sl i), Value.int IntKind.i64 (Isl.sh i),
        Value.int IntKind.i64 (Isl.roof i), Value.int IntKind.i64 (Isl.sand i), Value.int IntKind.i64 (Isl.kl i),
        Value.int IntKind.i64 (Isl.kh i), Value.int IntKind.i64 (Isl.ll i), Value.int IntKind.i64 (Isl.lh i),
        Value.int IntKind.i64 (Isl.pump i), Value.int IntKind.i64 (Isl.keep i), Value.int IntKind.i64 (Isl.size i), W,
        Value.slice (some { block := mb, off := mo, spot := some 0 }) (Isl.nm i) mc, Value.int IntKind.i64 (Isl.most i),
        Value.int IntKind.i64 (Isl.row i)],
    Value.int IntKind.i64 tanks,
    Value.agg
      #[Value.int IntKind.i64 (Tru.start t), Value.int IntKind.i64 (Tru.soak t), Value.int IntKind.i64 (Tru.leak t), TD,
        TR, TN]]
  [] 4
  (Value.tuple
    #[Value.slice (some { block := 4, off := 0 }) (Isl.nm i) 0,
      Value.agg
        #[Value.int IntKind.i64 g0, Value.int IntKind.i64 g1, Value.int IntKind.i64 g2, Value.int IntKind.i64 g3,
          Value.int IntKind.i64 g4, Value.int IntKind.i64 g5],
      Value.int IntKind.i64 0])
  [(4, Obj.cells E 53 (1, 1))] 5 [],
CJ Tryz.prog B 25
  #[Value.agg
      #[Value.int IntKind.i64 (Isl.cap i), Value.int IntKind.i64 (Isl.sl i), Value.int IntKind.i64 (Isl.sh i),
        Value.int IntKind.i64 (Isl.roof i), Value.int IntKind.i64 (Isl.sand i), Value.int IntKind.i64 (Isl.kl i),
        Value.int IntKind.i64 (Isl.kh i), Value.int IntKind.i64 (Isl.ll i), Value.int IntKind.i64 (Isl.lh i),
        Value.int IntKind.i64 (Isl.pump i), Value.int IntKind.i64 (Isl.keep i), Value.int IntKind.i64 (Isl.size i), W,
        Value.slice (some { block := mb, off := mo, spot := some 0 }) (Isl.nm i) mc, Value.int IntKind.i64 (Isl.most i),
        Value.int IntKind.i64 (Isl.row i)],
    Value.int IntKind.i64 tanks]
  [] 2 (Value.tuple #[Value.agg (ffQ 2 (Isl.nm i) (↑m : Int) r v), Value.int IntKind.i64 0]) [(2, Obj.cells D 4 (1, 1))]
  3 [],
CJ Tryz.prog B 21
  #[Value.agg
      #[Value.int IntKind.i64 (Isl.cap i), Value.int IntKind.i64 (Isl.sl i), Value.int IntKind.i64 (Isl.sh i),
        Value.int IntKind.i64 (Isl.roof i), Value.int IntKind.i64 (Isl.sand i), Value.int IntKind.i64 (Isl.kl i),
        Value.int IntKind.i64 (Isl.kh i), Value.int IntKind.i64 (Isl.ll i), Value.int IntKind.i64 (Isl.lh i),
        Value.int IntKind.i64 (Isl.pump i), Value.int IntKind.i64 (Isl.keep i), Value.int IntKind.i64 (Isl.size i), W,
        Value.slice (some { block := mb, off := mo, spot := some 0 }) (Isl.nm i) mc, Value.int IntKind.i64 (Isl.most i),
        Value.int IntKind.i64 (Isl.row i)],
    Value.agg
      #[Value.int IntKind.i64 (Tru.start t), Value.int IntKind.i64 (Tru.soak t), Value.int IntKind.i64 (Tru.leak t), TD,
        TR, TN]]
  [] 2 (Value.bool true) [] 2 [],
CJ Tryz.prog B 15
  #[Value.agg
      #[Value.int IntKind.i64 (Isl.cap i), Value.int IntKind.i64 (Isl.sl i), Value.int IntKind.i64 (Isl.sh i),
        Value.int IntKind.i64 (Isl.roof i), Value.int IntKind.i64 (Isl.sand i), Value.int IntKind.i64 (Isl.kl i),
        Value.int IntKind.i64 (Isl.kh i), Value.int IntKind.i64 (Isl.ll i), Value.int IntKind.i64 (Isl.lh i),
        Value.int IntKind.i64 (Isl.pump i), Value.int IntKind.i64 (Isl.keep i), Value.int IntKind.i64 (Isl.size i), W,
        Value.slice (some { block := mb, off := mo, spot := some 0 }) (Isl.nm i) mc, Value.int IntKind.i64 (Isl.most i),
        Value.int IntKind.i64 (Isl.row i)],
    Value.int IntKind.i64 tanks]
  [] 2 (Value.bool true) [] 2 [],
CJ Tryz.prog B 19
  #[Value.agg
      #[Value.int IntKind.i64 (Tru.start t), Value.int IntKind.i64 (Tru.soak t), Value.int IntKind.i64 (Tru.leak t), TD,
        TR, TN]]
  [] 2 (Value.bool true) [] 2 [],
CJ Tryz.prog B 18
  #[Value.agg
      #[Value.int IntKind.i64 (Isl.cap i), Value.int IntKind.i64 (Isl.sl i), Value.int IntKind.i64 (Isl.sh i),
        Value.int IntKind.i64 (Isl.roof i), Value.int IntKind.i64 (Isl.sand i), Value.int IntKind.i64 (Isl.kl i),
        Value.int IntKind.i64 (Isl.kh i), Value.int IntKind.i64 (Isl.ll i), Value.int IntKind.i64 (Isl.lh i),
        Value.int IntKind.i64 (Isl.pump i), Value.int IntKind.i64 (Isl.keep i), Value.int IntKind.i64 (Isl.size i), W,
        Value.slice (some { block := mb, off := mo, spot := some 0 }) (Isl.nm i) mc, Value.int IntKind.i64 (Isl.most i),
        Value.int IntKind.i64 (Isl.row i)]]
  [] 2 (Value.bool true) [] 2 []]⟩ := by kernel_rfl
set_option maxRecDepth 100000 in
theorem ls_r1 (B : Lo) (i : Isl) (t : Tru) (W TD TR TN : Value) (mb mo mc m k : Nat) (D E E' : Array Value) (r v e0 e1 e2 : Int) (d : Nat → Value) : land (srun Tryz.prog goFns B 16 0 (headC 8 206 (lsL1 i.nm k) d (lsT1.map (it (bodyOf Tryz.prog 8)))) (heapO 0 (lsO1 i W (.slice (some ⟨mb, mo, some 0⟩) i.nm mc) t TD TR TN m r v D E E')) ((lsO1 i W (.slice (some ⟨mb, mo, some 0⟩) i.nm mc) t TD TR TN m r v D E E')).length
    [(3, Hint.val (Value.bool true)),
(7, Hint.idx k),
(8, Hint.ld (Value.agg #[Value.int IntKind.i64 e0, Value.int IntKind.i64 e1, Value.int IntKind.i64 e2])),
(9, Hint.call [] (Value.tuple #[Value.int IntKind.i64 1, Value.int IntKind.i64 0]) [] 6 []),
(18, Hint.val (Value.int IntKind.i64 ((↑k : Int) + 1)))] 0 [] []) ((lsL1 i.nm (k + 1)).map (·.1)) ((kz [0, 1, 2, 3, 4, 5] (lsO1 i W (.slice (some ⟨mb, mo, some 0⟩) i.nm mc) t TD TR TN m r v D E E')).map (·.old)) = some ⟨8, 206, lsT1.map (it (bodyOf Tryz.prog 8)), [], .run, none, (lsL1 i.nm (k + 1)).map (fun p => rnV (rhoK (kz [0, 1, 2, 3, 4, 5] (lsO1 i W (.slice (some ⟨mb, mo, some 0⟩) i.nm mc) t TD TR TN m r v D E E'))) 3 p.2), (kz [0, 1, 2, 3, 4, 5] (lsO1 i W (.slice (some ⟨mb, mo, some 0⟩) i.nm mc) t TD TR TN m r v D E E')).map (fun kept_ => some (wasK (rhoK (kz [0, 1, 2, 3, 4, 5] (lsO1 i W (.slice (some ⟨mb, mo, some 0⟩) i.nm mc) t TD TR TN m r v D E E'))) kept_)), 6,
    [wq ((↑k : Int) + 1) = (↑k : Int) + 1,
CJ Tryz.prog B 30
  #[Value.agg
      #[Value.int IntKind.i64 (Isl.cap i), Value.int IntKind.i64 (Isl.sl i), Value.int IntKind.i64 (Isl.sh i),
        Value.int IntKind.i64 (Isl.roof i), Value.int IntKind.i64 (Isl.sand i), Value.int IntKind.i64 (Isl.kl i),
        Value.int IntKind.i64 (Isl.kh i), Value.int IntKind.i64 (Isl.ll i), Value.int IntKind.i64 (Isl.lh i),
        Value.int IntKind.i64 (Isl.pump i), Value.int IntKind.i64 (Isl.keep i), Value.int IntKind.i64 (Isl.size i), W,
        Value.slice (some { block := mb, off := mo, spot := some 0 }) (Isl.nm i) mc, Value.int IntKind.i64 (Isl.most i),
        Value.int IntKind.i64 (Isl.row i)],
    Value.agg #[Value.int IntKind.i64 e0, Value.int IntKind.i64 e1, Value.int IntKind.i64 e2]]
  [] 6 (Value.tuple #[Value.int IntKind.i64 1, Value.int IntKind.i64 0]) [] 6 [],
0 + k * 3 + TypeInfo.size Tryz.t53 ≤ Array.size E' ∧
  Array.extract E' (0 + k * 3) (0 + k * 3 + TypeInfo.size Tryz.t53) =
    #[Value.int IntKind.i64 e0, Value.int IntKind.i64 e1, Value.int IntKind.i64 e2],
(↑k : Int) = (↑k : Int) ∧ k < Isl.nm i,
ltq (↑k : Int) (↑m : Int) = true]⟩ := by kernel_rfl
set_option maxRecDepth 100000 in
theorem ls_e1 (B : Lo) (i : Isl) (t : Tru) (W TR TN : Value) (db do_ dc mb mo mc m k : Nat) (D E E' : Array Value) (r v e0 e1 e2 : Int) (d : Nat → Value) : land (srun Tryz.prog goFns B 16 0 (headC 8 206 (lsL1 i.nm k) d (lsT1.map (it (bodyOf Tryz.prog 8)))) (heapO 0 (lsO1 i W (.slice (some ⟨mb, mo, some 0⟩) i.nm mc) t (.slice (some ⟨db, do_, some 0⟩) t.nd dc) TR TN m r v D E E')) ((lsO1 i W (.slice (some ⟨mb, mo, some 0⟩) i.nm mc) t (.slice (some ⟨db, do_, some 0⟩) t.nd dc) TR TN m r v D E E')).length
    [(3, Hint.val (Value.bool false)),
(8, Hint.idx m),
(9, Hint.ld (Value.agg #[Value.int IntKind.i64 e0, Value.int IntKind.i64 e1, Value.int IntKind.i64 e2])),
(10, Hint.call [] (Value.tuple #[Value.int IntKind.i64 r, Value.int IntKind.i64 v]) [] 6 []),
(19, Hint.val (Value.bool false)),
(24, Hint.val (Value.bool false)),
(29, Hint.val (Value.int IntKind.i64 ((↑(Tru.nd t) : Int) - 1)))] 0 [] []) ((lsL2 i.nm ((t.nd : Int) - 1) false).map (·.1)) ((kz [0, 1, 2, 3, 4] (lsO2 i W (.slice (some ⟨mb, mo, some 0⟩) i.nm mc) t (.slice (some ⟨db, do_, some 0⟩) t.nd dc) TR TN m r v D E)).map (·.old)) = some ⟨8, 206, lsT2.map (it (bodyOf Tryz.prog 8)), [], .run, none, (lsL2 i.nm ((t.nd : Int) - 1) false).map (fun p => rnV (rhoK (kz [0, 1, 2, 3, 4] (lsO2 i W (.slice (some ⟨mb, mo, some 0⟩) i.nm mc) t (.slice (some ⟨db, do_, some 0⟩) t.nd dc) TR TN m r v D E))) 3 p.2), (kz [0, 1, 2, 3, 4] (lsO2 i W (.slice (some ⟨mb, mo, some 0⟩) i.nm mc) t (.slice (some ⟨db, do_, some 0⟩) t.nd dc) TR TN m r v D E)).map (fun kept_ => some (wasK (rhoK (kz [0, 1, 2, 3, 4] (lsO2 i W (.slice (some ⟨mb, mo, some 0⟩) i.nm mc) t (.slice (some ⟨db, do_, some 0⟩) t.nd dc) TR TN m r v D E))) kept_)), 6,
    [wq ((↑(Tru.nd t) : Int) - 1) = (↑(Tru.nd t) : Int) - 1,
(!eqq v v) = false,
(!eqq r r) = false,
CJ Tryz.prog B 30
  #[Value.agg
      #[Value.int IntKind.i64 (Isl.cap i), Value.int IntKind.i64 (Isl.sl i), Value.int IntKind.i64 (Isl.sh i),
        Value.int IntKind.i64 (Isl.roof i), Value.int IntKind.i64 (Isl.sand i), Value.int IntKind.i64 (Isl.kl i),
        Value.int IntKind.i64 (Isl.kh i), Value.int IntKind.i64 (Isl.ll i), Value.int IntKind.i64 (Isl.lh i),
        Value.int IntKind.i64 (Isl.pump i), Value.int IntKind.i64 (Isl.keep i), Value.int IntKind.i64 (Isl.size i), W,
        Value.slice (some { block := mb, off := mo, spot := some 0 }) (Isl.nm i) mc, Value.int IntKind.i64 (Isl.most i),
        Value.int IntKind.i64 (Isl.row i)],
    Value.agg #[Value.int IntKind.i64 e0, Value.int IntKind.i64 e1, Value.int IntKind.i64 e2]]
  [] 6 (Value.tuple #[Value.int IntKind.i64 r, Value.int IntKind.i64 v]) [] 6 [],
0 + m * 3 + TypeInfo.size Tryz.t53 ≤ Array.size E' ∧
  Array.extract E' (0 + m * 3) (0 + m * 3 + TypeInfo.size Tryz.t53) =
    #[Value.int IntKind.i64 e0, Value.int IntKind.i64 e1, Value.int IntKind.i64 e2],
(↑m : Int) = (↑m : Int) ∧ m < Isl.nm i,
ltq (↑k : Int) (↑m : Int) = false]⟩ := by kernel_rfl
set_option maxRecDepth 100000 in
theorem ls_r2 (B : Lo) (i : Isl) (t : Tru) (W TR TN : Value) (db do_ dc mb mo mc m j : Nat) (D E : Array Value) (r v x : Int) (y z bef : Bool) (d : Nat → Value) : land (srun Tryz.prog goFns B 14 0 (headC 8 206 (lsL2 i.nm x bef) d (lsT2.map (it (bodyOf Tryz.prog 8)))) (heapO 0 (lsO2 i W (.slice (some ⟨mb, mo, some 0⟩) i.nm mc) t (.slice (some ⟨db, do_, some 0⟩) t.nd dc) TR TN m r v D E)) ((lsO2 i W (.slice (some ⟨mb, mo, some 0⟩) i.nm mc) t (.slice (some ⟨db, do_, some 0⟩) t.nd dc) TR TN m r v D E)).length
    [(1, Hint.val (Value.bool true)),
(5, Hint.idx j),
(6, Hint.raw (Value.bool y)),
(10, Hint.idx j),
(11, Hint.ld (Value.bool z)),
(12, Hint.val (Value.bool false)),
(14, Hint.val (Value.int IntKind.i64 (x - 1)))] 0 [] []) ((lsL2 i.nm (x - 1) bef).map (·.1)) ((kz [0, 1, 2, 3, 4] (lsO2 i W (.slice (some ⟨mb, mo, some 0⟩) i.nm mc) t (.slice (some ⟨db, do_, some 0⟩) t.nd dc) TR TN m r v D E)).map (·.old)) = some ⟨8, 206, lsT2.map (it (bodyOf Tryz.prog 8)), [], .run, none, (lsL2 i.nm (x - 1) bef).map (fun p => rnV (rhoK (kz [0, 1, 2, 3, 4] (lsO2 i W (.slice (some ⟨mb, mo, some 0⟩) i.nm mc) t (.slice (some ⟨db, do_, some 0⟩) t.nd dc) TR TN m r v D E))) 3 p.2), (kz [0, 1, 2, 3, 4] (lsO2 i W (.slice (some ⟨mb, mo, some 0⟩) i.nm mc) t (.slice (some ⟨db, do_, some 0⟩) t.nd dc) TR TN m r v D E)).map (fun kept_ => some (wasK (rhoK (kz [0, 1, 2, 3, 4] (lsO2 i W (.slice (some ⟨mb, mo, some 0⟩) i.nm mc) t (.slice (some ⟨db, do_, some 0⟩) t.nd dc) TR TN m r v D E))) kept_)), 5,
    [wq (x - 1) = x - 1,
(!y == z) = false,
D[0 + j * 1]? = some (Value.bool z),
x = (↑j : Int) ∧ j < Isl.nm i,
RawCell B db (do_ + j * 1) (Value.bool y),
x = (↑j : Int) ∧ j < Tru.nd t,
(!ltq x 0) = true]⟩ := by kernel_rfl
set_option maxRecDepth 100000 in
theorem ls_d2 (B : Lo) (i : Isl) (t : Tru) (W TR TN : Value) (db do_ dc mb mo mc m j : Nat) (D E : Array Value) (r v x : Int) (y z bef : Bool) (d : Nat → Value) : land (srun Tryz.prog goFns B 14 0 (headC 8 206 (lsL2 i.nm x bef) d (lsT2.map (it (bodyOf Tryz.prog 8)))) (heapO 0 (lsO2 i W (.slice (some ⟨mb, mo, some 0⟩) i.nm mc) t (.slice (some ⟨db, do_, some 0⟩) t.nd dc) TR TN m r v D E)) ((lsO2 i W (.slice (some ⟨mb, mo, some 0⟩) i.nm mc) t (.slice (some ⟨db, do_, some 0⟩) t.nd dc) TR TN m r v D E)).length
    [(1, Hint.val (Value.bool true)),
(5, Hint.idx j),
(6, Hint.raw (Value.bool y)),
(10, Hint.idx j),
(11, Hint.ld (Value.bool z)),
(12, Hint.val (Value.bool true)),
(16, Hint.idx j),
(17, Hint.ld (Value.bool z)),
(20, Hint.val (Value.int IntKind.i64 (x - 1)))] 0 [] []) ((lsL2 i.nm (x - 1) z).map (·.1)) ((kz [0, 1, 2, 3, 4] (lsO2 i W (.slice (some ⟨mb, mo, some 0⟩) i.nm mc) t (.slice (some ⟨db, do_, some 0⟩) t.nd dc) TR TN m r v D E)).map (·.old)) = some ⟨8, 206, lsT2.map (it (bodyOf Tryz.prog 8)), [], .run, none, (lsL2 i.nm (x - 1) z).map (fun p => rnV (rhoK (kz [0, 1, 2, 3, 4] (lsO2 i W (.slice (some ⟨mb, mo, some 0⟩) i.nm mc) t (.slice (some ⟨db, do_, some 0⟩) t.nd dc) TR TN m r v D E))) 3 p.2), (kz [0, 1, 2, 3, 4] (lsO2 i W (.slice (some ⟨mb, mo, some 0⟩) i.nm mc) t (.slice (some ⟨db, do_, some 0⟩) t.nd dc) TR TN m r v D E)).map (fun kept_ => some (wasK (rhoK (kz [0, 1, 2, 3, 4] (lsO2 i W (.slice (some ⟨mb, mo, some 0⟩) i.nm mc) t (.slice (some ⟨db, do_, some 0⟩) t.nd dc) TR TN m r v D E))) kept_)), 5,
    [wq (x - 1) = x - 1,
D[0 + j * 1]? = some (Value.bool z),
x = (↑j : Int) ∧ j < Isl.nm i,
(!y == z) = true,
D[0 + j * 1]? = some (Value.bool z),
x = (↑j : Int) ∧ j < Isl.nm i,
RawCell B db (do_ + j * 1) (Value.bool y),
x = (↑j : Int) ∧ j < Tru.nd t,
(!ltq x 0) = true]⟩ := by kernel_rfl
set_option maxRecDepth 100000 in
theorem ls_e2 (B : Lo) (i : Isl) (t : Tru) (W TD TR TN : Value) (mb mo mc m : Nat) (D E : Array Value) (r v x : Int) (bef : Bool) (d : Nat → Value) : land (srun Tryz.prog goFns B 10 0 (headC 8 206 (lsL2 i.nm x bef) d (lsT2.map (it (bodyOf Tryz.prog 8)))) (heapO 0 (lsO2 i W (.slice (some ⟨mb, mo, some 0⟩) i.nm mc) t TD TR TN m r v D E)) ((lsO2 i W (.slice (some ⟨mb, mo, some 0⟩) i.nm mc) t TD TR TN m r v D E)).length
    [(1, Hint.val (Value.bool false))] 0 [] []) ((lsL3 i.nm 0 bef).map (·.1)) ((kz [0, 4] (lsO3 i W (.slice (some ⟨mb, mo, some 0⟩) i.nm mc) E)).map (·.old)) = some ⟨8, 206, lsT3.map (it (bodyOf Tryz.prog 8)), [], .run, none, (lsL3 i.nm 0 bef).map (fun p => rnV (rhoK (kz [0, 4] (lsO3 i W (.slice (some ⟨mb, mo, some 0⟩) i.nm mc) E))) 3 p.2), (kz [0, 4] (lsO3 i W (.slice (some ⟨mb, mo, some 0⟩) i.nm mc) E)).map (fun kept_ => some (wasK (rhoK (kz [0, 4] (lsO3 i W (.slice (some ⟨mb, mo, some 0⟩) i.nm mc) E))) kept_)), 5,
    [(!ltq x 0) = false]⟩ := by kernel_rfl
set_option maxRecDepth 100000 in
theorem ls_r3 (B : Lo) (i : Isl) (W M : Value) (k : Nat) (E : Array Value) (e0 e1 e2 r v : Int) (d : Nat → Value) : land (srun Tryz.prog goFns B 16 0 (headC 8 206 (lsL3 i.nm k false) d (lsT3.map (it (bodyOf Tryz.prog 8)))) (heapO 0 (lsO3 i W M E)) ((lsO3 i W M E)).length
    [(3, Hint.val (Value.bool true)),
(7, Hint.idx k),
(8, Hint.ld (Value.agg #[Value.int IntKind.i64 e0, Value.int IntKind.i64 e1, Value.int IntKind.i64 e2])),
(9, Hint.call [] (Value.tuple #[Value.int IntKind.i64 r, Value.int IntKind.i64 v]) [] 2 []),
(21, Hint.val (Value.int IntKind.i64 ((↑k : Int) + 1)))] 0 [] []) ((lsL3 i.nm (k + 1) false).map (·.1)) ((kz [0, 1] (lsO3 i W M E)).map (·.old)) = some ⟨8, 206, lsT3.map (it (bodyOf Tryz.prog 8)), [], .run, none, (lsL3 i.nm (k + 1) false).map (fun p => rnV (rhoK (kz [0, 1] (lsO3 i W M E))) 3 p.2), (kz [0, 1] (lsO3 i W M E)).map (fun kept_ => some (wasK (rhoK (kz [0, 1] (lsO3 i W M E))) kept_)), 2,
    [wq ((↑k : Int) + 1) = (↑k : Int) + 1,
CJ Tryz.prog B 30
  #[Value.agg
      #[Value.int IntKind.i64 (Isl.cap i), Value.int IntKind.i64 (Isl.sl i), Value.int IntKind.i64 (Isl.sh i),
        Value.int IntKind.i64 (Isl.roof i), Value.int IntKind.i64 (Isl.sand i), Value.int IntKind.i64 (Isl.kl i),
        Value.int IntKind.i64 (Isl.kh i), Value.int IntKind.i64 (Isl.ll i), Value.int IntKind.i64 (Isl.lh i),
        Value.int IntKind.i64 (Isl.pump i), Value.int IntKind.i64 (Isl.keep i), Value.int IntKind.i64 (Isl.size i), W,
        M, Value.int IntKind.i64 (Isl.most i), Value.int IntKind.i64 (Isl.row i)],
    Value.agg #[Value.int IntKind.i64 e0, Value.int IntKind.i64 e1, Value.int IntKind.i64 e2]]
  [] 2 (Value.tuple #[Value.int IntKind.i64 r, Value.int IntKind.i64 v]) [] 2 [],
0 + k * 3 + TypeInfo.size Tryz.t53 ≤ Array.size E ∧
  Array.extract E (0 + k * 3) (0 + k * 3 + TypeInfo.size Tryz.t53) =
    #[Value.int IntKind.i64 e0, Value.int IntKind.i64 e1, Value.int IntKind.i64 e2],
(↑k : Int) = (↑k : Int) ∧ k < Isl.nm i,
ltq (↑k : Int) (↑(Isl.nm i) : Int) = true]⟩ := by kernel_rfl
set_option maxRecDepth 100000 in
theorem ls_f3 (B : Lo) (i : Isl) (W M : Value) (k : Nat) (E : Array Value) (e0 e1 e2 : Int) (d : Nat → Value) : land (srun Tryz.prog goFns B 16 0 (headC 8 206 (lsL3 i.nm k true) d (lsT3.map (it (bodyOf Tryz.prog 8)))) (heapO 0 (lsO3 i W M E)) ((lsO3 i W M E)).length
    [(3, Hint.val (Value.bool true)),
(7, Hint.idx k),
(8, Hint.ld (Value.agg #[Value.int IntKind.i64 e0, Value.int IntKind.i64 e1, Value.int IntKind.i64 e2])),
(9, Hint.call [] (Value.tuple #[Value.int IntKind.i64 1, Value.int IntKind.i64 0]) [] 2 []),
(21, Hint.val (Value.int IntKind.i64 ((↑k : Int) + 1)))] 0 [] []) ((lsL3 i.nm (k + 1) true).map (·.1)) ((kz [0, 1] (lsO3 i W M E)).map (·.old)) = some ⟨8, 206, lsT3.map (it (bodyOf Tryz.prog 8)), [], .run, none, (lsL3 i.nm (k + 1) true).map (fun p => rnV (rhoK (kz [0, 1] (lsO3 i W M E))) 3 p.2), (kz [0, 1] (lsO3 i W M E)).map (fun kept_ => some (wasK (rhoK (kz [0, 1] (lsO3 i W M E))) kept_)), 2,
    [wq ((↑k : Int) + 1) = (↑k : Int) + 1,
CJ Tryz.prog B 30
  #[Value.agg
      #[Value.int IntKind.i64 (Isl.cap i), Value.int IntKind.i64 (Isl.sl i), Value.int IntKind.i64 (Isl.sh i),
        Value.int IntKind.i64 (Isl.roof i), Value.int IntKind.i64 (Isl.sand i), Value.int IntKind.i64 (Isl.kl i),
        Value.int IntKind.i64 (Isl.kh i), Value.int IntKind.i64 (Isl.ll i), Value.int IntKind.i64 (Isl.lh i),
        Value.int IntKind.i64 (Isl.pump i), Value.int IntKind.i64 (Isl.keep i), Value.int IntKind.i64 (Isl.size i), W,
        M, Value.int IntKind.i64 (Isl.most i), Value.int IntKind.i64 (Isl.row i)],
    Value.agg #[Value.int IntKind.i64 e0, Value.int IntKind.i64 e1, Value.int IntKind.i64 e2]]
  [] 2 (Value.tuple #[Value.int IntKind.i64 1, Value.int IntKind.i64 0]) [] 2 [],
0 + k * 3 + TypeInfo.size Tryz.t53 ≤ Array.size E ∧
  Array.extract E (0 + k * 3) (0 + k * 3 + TypeInfo.size Tryz.t53) =
    #[Value.int IntKind.i64 e0, Value.int IntKind.i64 e1, Value.int IntKind.i64 e2],
(↑k : Int) = (↑k : Int) ∧ k < Isl.nm i,
ltq (↑k : Int) (↑(Isl.nm i) : Int) = true]⟩ := by kernel_rfl
set_option maxRecDepth 100000 in
theorem ls_e3 (B : Lo) (i : Isl) (W M : Value) (k : Nat) (E : Array Value) (bef : Bool) (d : Nat → Value) : ended (srun Tryz.prog goFns B 9 0 (headC 8 206 (lsL3 i.nm k bef) d (lsT3.map (it (bodyOf Tryz.prog 8)))) (heapO 0 (lsO3 i W M E)) ((lsO3 i W M E)).length
    [(3, Hint.val (Value.bool false)),
(4, Hint.call [] (Value.bool true) [] 2 [])] 0 [] []) [] = some ⟨.ret (.bool true), [], 2,
    [CJ Tryz.prog B 11 #[] [] 2 (Value.bool true) [] 2 [],
ltq (↑k : Int) (↑(Isl.nm i) : Int) = false]⟩ := by kernel_rfl
/-- What is told of a drought's place before another one, from the last of n months back, after c of them. -/
def befAt (x d : Nat → Bool) (n : Nat) : Nat → Bool
  | 0 => false
  | c + 1 => if x (n - 1 - c) = d (n - 1 - c) then befAt x d n c else d (n - 1 - c)
theorem befAt_true {x d : Nat → Bool} {n : Nat} : ∀ c, c ≤ n → befAt x d n c = true → ∃ k, n - c ≤ k ∧ k < n ∧ (∀ j, n - c ≤ j → j < k → x j = d j) ∧ x k = false ∧ d k = true
  | 0, _, h => by cases h
  | c + 1, hc, h => by
    simp only [befAt] at h
    split at h
    · rename_i he
      obtain ⟨k, h1, h2, h3, h4⟩ := befAt_true c (by omega) h
      refine ⟨k, by omega, h2, fun j hj hk => ?_, h4⟩
      rcases (show j = n - 1 - c ∨ n - c ≤ j by omega) with rfl | hj'
      · exact he
      · exact h3 j hj' hk
    · rename_i hne
      refine ⟨n - 1 - c, by omega, by omega, fun j h1 h2 => by omega, ?_, h⟩
      rw [h] at hne
      simpa using hne
theorem lt_testBit {x y i : Nat} (hx : x.testBit i = false) (hy : y.testBit i = true) (h : ∀ j, i < j → x.testBit j = y.testBit j) : x < y := by
  have e : x / 2 ^ (i + 1) = y / 2 ^ (i + 1) := Nat.eq_of_testBit_eq fun k => by
    rw [Nat.testBit_div_two_pow, Nat.testBit_div_two_pow]
    exact h _ (by omega)
  have hx' : x / 2 ^ i % 2 = 0 := by
    have := hx
    rw [Nat.testBit_eq_decide_div_mod_eq] at this
    have h2 : x / 2 ^ i % 2 < 2 := Nat.mod_lt _ (by decide)
    simp at this; omega
  have hy' : y / 2 ^ i % 2 = 1 := by
    have := hy
    rw [Nat.testBit_eq_decide_div_mod_eq] at this
    simpa using this
  rw [Nat.pow_succ, ← Nat.div_div_eq_div_mul, ← Nat.div_div_eq_div_mul] at e
  have hlt : x / 2 ^ i < y / 2 ^ i := by omega
  exact Nat.lt_of_not_le fun hle => absurd (Nat.div_le_div_right (c := 2 ^ i) hle) (by omega)
theorem bits_lt {n b b' : Nat} {x : Nat → Bool} (hb' : b' < 2 ^ n) (hb : b < 2 ^ n) (hx : ∀ j, j < n → bitsDry n b' j = x j) (h : befAt x (bitsDry n b) n n = true) : b' < b := by
  obtain ⟨k, _, h2, h3, h4, h5⟩ := befAt_true n (Nat.le_refl _) h
  refine lt_testBit (i := n - 1 - k) ?_ h5 fun j hj => ?_
  · rw [← hx k h2] at h4; exact h4
  · rcases Nat.lt_or_ge j n with hlt | hge
    · have e : j = n - 1 - (n - 1 - j) := by omega
      have := h3 (n - 1 - j) (by omega) (by omega)
      rw [← hx _ (by omega)] at this
      rw [e]
      exact this
    · rw [Nat.testBit_lt_two_pow (Nat.lt_of_lt_of_le hb' (Nat.pow_le_pow_right (by decide) hge)), Nat.testBit_lt_two_pow (Nat.lt_of_lt_of_le hb (Nat.pow_le_pow_right (by decide) hge))]
/-- In a drought in which nothing is wrong where water is scarcest, nothing is wrong, whatever is true. -/
theorem never_wrong {i : Isl} {tanks : Int} {t : Tru} (h1 : islB i = true) (h2 : tanksB tanks = true) (h3 : truB i t = true) {b' : Nat} (hx : ∀ j, j < i.nm → bitsDry i.nm b' j = t.dry j) (hb : badTo i tanks (bitsDry i.nm b') i.nm = none) {k : Nat} (hk : k < i.nm) :
    wrongRule i (seenOf (runTo i tanks t (k + 1))) = 1 := by
  have h := (badTo_none hb k hk).1
  have m := run_mono (fit_end h1 h2 false i.nm (bitsDry i.nm b')) (fit_of h1 h2 h3) (less_low h3 hx) (k + 1) (by omega)
  exact wrong_mono h m.lens m.lack
theorem tru_dr {i : Isl} {t : Tru} (h3 : truB i t = true) {b' : Nat} (hx : ∀ j, j < i.nm → bitsDry i.nm b' j = t.dry j) : drB i.most i.row i.nm (bitsDry i.nm b') = true := by
  have h := h3
  simp only [truB, Bool.and_eq_true, decide_eq_true_eq] at h
  obtain ⟨⟨⟨⟨⟨_, e⟩, _⟩, _⟩, hdr⟩, _⟩ := h
  rw [e] at hdr
  exact drB_congr (fun j hj => (hx j hj).symm) hdr
theorem fine_never {i : Isl} {tanks : Int} {t : Tru} (h1 : islB i = true) (h2 : tanksB tanks = true) (h3 : truB i t = true) (hn : ftTo i tanks (2 ^ i.nm) = none) {k : Nat} (hk : k < i.nm) : wrongRule i (seenOf (runTo i tanks t (k + 1))) = 1 := by
  obtain ⟨b', hb', hx⟩ := bits_of t.dry i.nm
  exact never_wrong h1 h2 h3 hx ((ftTo_none hn b' hb').2 (tru_dr h3 hx)) hk
theorem before_never {i : Isl} {tanks : Int} {t : Tru} {b m : Nat} (h1 : islB i = true) (h2 : tanksB tanks = true) (h3 : truB i t = true) (hn : ftTo i tanks (2 ^ i.nm) = some (b, m)) (hbef : befAt t.dry (bitsDry i.nm b) i.nm i.nm = true) {k : Nat} (hk : k < i.nm) : wrongRule i (seenOf (runTo i tanks t (k + 1))) = 1 := by
  obtain ⟨b', hb', hx⟩ := bits_of t.dry i.nm
  obtain ⟨hb, h0, _, _⟩ := ftTo_some hn
  have hlt := bits_lt hb' hb hx hbef
  exact never_wrong h1 h2 h3 hx ((ftTo_none h0 b' hlt).2 (tru_dr h3 hx)) hk
set_option maxRecDepth 100000 in
theorem safe_walk : Walk3 8 := by
  intro i wa wc ma mc tanks t da dc ra rc na nc w hi ht hp
  have hB := worldLo_has w
  cases hs : shortB i with
  | false => exact lt_ret (by kernel_rfl) (GoE.refl under_nil) (ls_short (worldLo w) i t tanks _ _ _ _ _) ⟨con_known hp, hs ▸ con_short, trivial⟩ hB
  | true =>
    cases hz : sizedB t with
    | false => exact lt_ret (by kernel_rfl) (GoE.refl under_nil) (ls_sized (worldLo w) i t tanks _ _ _ _ _) ⟨con_known hp, hz ▸ con_sized, hs ▸ con_short, trivial⟩ hB
    | true =>
      cases ha : (islB i && tanksB tanks) with
      | false => exact lt_ret (by kernel_rfl) (GoE.refl under_nil) (ls_asked (worldLo w) i t tanks _ _ _ _ _) ⟨con_known hp, ha ▸ con_asked hi, hz ▸ con_sized, hs ▸ con_short, trivial⟩ hB
      | true =>
        have ha' := ha
        simp only [Bool.and_eq_true] at ha'
        obtain ⟨hnm1, hnm8, hmost, hrow⟩ := isl_nm ha'.1
        have hml : i.nm ≤ maxLen := by unfold maxLen; omega
        cases htr : truB i t with
        | false => exact lt_ret (by kernel_rfl) (GoE.refl under_nil) (ls_truth (worldLo w) i t tanks _ _ _ _ _) ⟨con_known hp, htr ▸ con_truth hi ht hmost hrow, ha ▸ con_asked hi, hz ▸ con_sized, hs ▸ con_short, trivial⟩ hB
        | true =>
          obtain ⟨mb, mo, rfl, _⟩ := monsGet hi.months (show 0 < i.nm by omega)
          let c0 := entryC Tryz.prog 8 206 [islR i wa wc (some ⟨mb, mo, none⟩) mc, .int .i64 tanks, truR t da dc ra rc na nc]
          have seen : ∀ (u : Tru) k, k < i.nm → 0 + k * 3 + 3 ≤ (rowA (seenE i tanks u) i.nm).size ∧ (rowA (seenE i tanks u) i.nm).extract (0 + k * 3) (0 + k * 3 + 3) = #[.int .i64 (runTo i tanks u (k + 1)).tanks, .int .i64 (runTo i tanks u (k + 1)).lens, .int .i64 (runTo i tanks u (k + 1)).lack] := fun u k hk => seen_get hk
          have ok3 : OkAll 2 (lsO3 i (rawS wa i.nw wc) (rawS (some ⟨mb, mo, none⟩) i.nm mc) (rowA (seenE i tanks t) i.nm)) := ⟨.inr ⟨rfl, loose_isl _ _ _ _ _⟩, .inr ⟨rfl, loose_seenE _ _ _ _⟩, trivial⟩
          let at3 : Bool → Nat → Prop := fun bef k => ∃ d : Nat → Value, (∀ t, Loose (d t)) ∧ GoE Tryz.prog (worldLo w) c0 [] 0
              (headC 8 206 (lsL3 i.nm k bef) d (lsT3.map (it (bodyOf Tryz.prog 8)))) (heapO 0 (lsO3 i (rawS wa i.nw wc) (rawS (some ⟨mb, mo, none⟩) i.nm mc) (rowA (seenE i tanks t) i.nm))) 2 []
          -- the last loop
          have last : ∀ bef, at3 bef 0 → (bef = true → ∀ k, k < i.nm → wrongRule i (seenOf (runTo i tanks t (k + 1))) = 1) →
              Calls Tryz.prog 8 #[islV i wa wc (some ⟨mb, mo, none⟩) mc, .int .i64 tanks, truV t da dc ra rc na nc] w fun e' w' => e' = .returned (.bool true) ∧ Below w.heap.size w w' := by
            intro bef h0 hbef
            have all : ∀ k, k ≤ i.nm → at3 bef k := by
              intro k
              induction k with
              | zero => intro _; exact h0
              | succ k ih =>
                intro hk
                obtain ⟨d, _, hg⟩ := ih (by omega)
                have hlt : k < i.nm := by omega
                cases bef with
                | false =>
                  exact hg.headO goFns_ok mixed_ok (ls_r3 (worldLo w) i (rawS wa i.nw wc) (rawS (some ⟨mb, mo, none⟩) i.nm mc) k (rowA (seenE i tanks t) i.nm) (runTo i tanks t (k + 1)).tanks (runTo i tanks t (k + 1)).lens (runTo i tanks t (k + 1)).lack (wrongRule i (seenOf (runTo i tanks t (k + 1)))) (wrongWell i (seenOf (runTo i tanks t (k + 1)))) d)
                    ⟨wq_in (by omega) (by omega), con_rWrong hi (seenOf (runTo i tanks t (k + 1))), seen t k hlt, ⟨rfl, hlt⟩, ltq_t (by omega), trivial⟩
                    (by kernel_rfl) (by kernel_rfl) (by kernel_rfl) (by kernel_rfl) (by kernel_rfl) (by kernel_rfl) ok3
                | true =>
                  have hw := con_rWrong (w := w) (i := i) (wa := wa) (wc := wc) (ma := some ⟨mb, mo, none⟩) (mc := mc) (n := 2) hi (seenOf (runTo i tanks t (k + 1)))
                  rw [hbef rfl k hlt, wrongRule_one (hbef rfl k hlt)] at hw
                  exact hg.headO goFns_ok mixed_ok (ls_f3 (worldLo w) i (rawS wa i.nw wc) (rawS (some ⟨mb, mo, none⟩) i.nm mc) k (rowA (seenE i tanks t) i.nm) (runTo i tanks t (k + 1)).tanks (runTo i tanks t (k + 1)).lens (runTo i tanks t (k + 1)).lack d)
                    ⟨wq_in (by omega) (by omega), hw, seen t k hlt, ⟨rfl, hlt⟩, ltq_t (by omega), trivial⟩
                    (by kernel_rfl) (by kernel_rfl) (by kernel_rfl) (by kernel_rfl) (by kernel_rfl) (by kernel_rfl) ok3
            obtain ⟨d, _, hg⟩ := all i.nm (Nat.le_refl _)
            exact lt_ret (by kernel_rfl) hg (ls_e3 (worldLo w) i (rawS wa i.nw wc) (rawS (some ⟨mb, mo, none⟩) i.nm mc) i.nm (rowA (seenE i tanks t) i.nm) bef d) ⟨con_known hp, ltq_f (by omega), trivial⟩ hB
          cases hft : ftTo i tanks (2 ^ i.nm) with
          | none =>
            refine last true ?_ fun _ k hk => fine_never ha'.1 ha'.2 htr hft hk
            exact (GoE.refl under_nil).headO goFns_ok mixed_ok
              (ls_fine (worldLo w) i t tanks (rawS wa i.nw wc) (rawS da t.nd dc) (rawS ra t.nr rc) (rawS na t.nn nc) mb mo mc (rowA (seenE i tanks t) i.nm) (i.size * tanks + t.start) (runTo i tanks t i.nm).rain (runTo i tanks t i.nm).used (runTo i tanks t i.nm).leak (runTo i tanks t i.nm).sea ((runTo i tanks t i.nm).tanks + (runTo i tanks t i.nm).lens))
              ⟨by simp [eqq_eq], con_play hi ht ha'.1 ha'.2 htr, con_FaultFine hi ha'.1 ha'.2 hft, htr ▸ con_truth hi ht hmost hrow, ha ▸ con_asked hi, hz ▸ con_sized, hs ▸ con_short (w := w) (i := i) (wa := wa) (wc := wc) (ma := some ⟨mb, mo, none⟩) (mc := mc) (n := 2), trivial⟩
              (by kernel_rfl) (by kernel_rfl) (by kernel_rfl) (by kernel_rfl) (by kernel_rfl) (by kernel_rfl) ok3
          | some x =>
            obtain ⟨b, m⟩ := x
            obtain ⟨hb, h0, hd, hbad⟩ := ftTo_some hft
            obtain ⟨hm, hr, hbm⟩ := badTo_some hbad
            have htb := htr
            simp only [truB, Bool.and_eq_true, decide_eq_true_eq] at htb
            have hnd : t.nd = i.nm := htb.1.1.1.1.2
            obtain ⟨db, do_, hda, _, _⟩ := ht.dry (show 0 < t.nd by omega)
            subst hda
            generalize hR : wrongRule i (endsOf i tanks false (bitsDry i.nm b) m) = r at hr
            generalize hV : wrongWell i (endsOf i tanks false (bitsDry i.nm b) m) = v
            have hv0 : 0 ≤ v := by
              rw [← hV]
              unfold wrongWell
              split
              · omega
              · split <;> omega
            let u := endTru i false i.nm (bitsDry i.nm b)
            have hu : truB i u = true := end_tru ha'.1 hd
            have ok1 : OkAll 6 (lsO1 i (rawS wa i.nw wc) (rawS (some ⟨mb, mo, none⟩) i.nm mc) t (rawS (some ⟨db, do_, none⟩) t.nd dc) (rawS ra t.nr rc) (rawS na t.nn nc) m r v (rowA (boolE (bitsDry i.nm b)) i.nm) (rowA (seenE i tanks t) i.nm) (rowA (seenE i tanks u) i.nm)) :=
              ⟨.inr ⟨rfl, loose_isl _ _ _ _ _⟩, .inr ⟨rfl, loose_tru _ _ _ _ _ _ _⟩, .inr ⟨rfl, loose_boolE _ _⟩, .inl ⟨rfl, by kernel_rfl⟩, .inr ⟨rfl, loose_seenE _ _ _ _⟩, .inr ⟨rfl, loose_seenE _ _ _ _⟩, trivial⟩
            have ok2 : OkAll 5 (lsO2 i (rawS wa i.nw wc) (rawS (some ⟨mb, mo, none⟩) i.nm mc) t (rawS (some ⟨db, do_, none⟩) t.nd dc) (rawS ra t.nr rc) (rawS na t.nn nc) m r v (rowA (boolE (bitsDry i.nm b)) i.nm) (rowA (seenE i tanks t) i.nm)) :=
              ⟨.inr ⟨rfl, loose_isl _ _ _ _ _⟩, .inr ⟨rfl, loose_tru _ _ _ _ _ _ _⟩, .inr ⟨rfl, loose_boolE _ _⟩, .inl ⟨rfl, by kernel_rfl⟩, .inr ⟨rfl, loose_seenE _ _ _ _⟩, trivial⟩
            have hrd : (drB i.most i.row i.nm (bitsDry i.nm b) && decide (i.nm = i.nm)) = true := by simp [hd]
            have hFault := con_FaultBad (w := w) (i := i) (wa := wa) (wc := wc) (ma := some ⟨mb, mo, none⟩) (mc := mc) (tanks := tanks) (n := 2) hi ha'.1 ha'.2 hft
            rw [hR, hV] at hFault
            have l1 : ∀ k, k ≤ m → ∃ d : Nat → Value, (∀ t, Loose (d t)) ∧ GoE Tryz.prog (worldLo w) c0 [] 0
                (headC 8 206 (lsL1 i.nm k) d (lsT1.map (it (bodyOf Tryz.prog 8)))) (heapO 0 (lsO1 i (rawS wa i.nw wc) (rawS (some ⟨mb, mo, none⟩) i.nm mc) t (rawS (some ⟨db, do_, none⟩) t.nd dc) (rawS ra t.nr rc) (rawS na t.nn nc) m r v (rowA (boolE (bitsDry i.nm b)) i.nm) (rowA (seenE i tanks t) i.nm) (rowA (seenE i tanks u) i.nm))) 6 [] := by
              intro k
              induction k with
              | zero =>
                intro _
                exact (GoE.refl under_nil).headO goFns_ok mixed_ok
                  (ls_bad (worldLo w) i t tanks (rawS wa i.nw wc) (rawS (some ⟨db, do_, none⟩) t.nd dc) (rawS ra t.nr rc) (rawS na t.nn nc) mb mo mc m (rowA (boolE (bitsDry i.nm b)) i.nm) (rowA (seenE i tanks t) i.nm) (rowA (seenE i tanks u) i.nm) (rowA (intE u.rains) i.nm) (rowA (intE u.needs) i.nm) r v
                    (i.size * tanks + t.start) (runTo i tanks t i.nm).rain (runTo i tanks t i.nm).used (runTo i tanks t i.nm).leak (runTo i tanks t i.nm).sea ((runTo i tanks t i.nm).tanks + (runTo i tanks t i.nm).lens)
                    (i.size * tanks + u.start) (runTo i tanks u i.nm).rain (runTo i tanks u i.nm).used (runTo i tanks u i.nm).leak (runTo i tanks u i.nm).sea ((runTo i tanks u i.nm).tanks + (runTo i tanks u i.nm).lens) i.sl i.kl i.lh)
                  ⟨by simp [eqq_eq], con_playO (t := u) (fk := 1) (fr := 0) (fs := 0) (z := 0) hi (by omega) (by omega) (by omega) ha'.1 ha'.2 hu, len_con (z := 0) (fz := 1) hi hnm1 (Nat.le_refl _) hnm8 (by omega), ltq_f hv0, nltq_f (by omega), hrd ▸ con_rDrought (fz := 1) (z := 0) (w := w) (i := i) (wa := wa) (wc := wc) (ma := some ⟨mb, mo, none⟩) (mc := mc) (n := 6) (k := 2) (nd := i.nm) (d := bitsDry i.nm b) (by omega) hml hmost hrow,
                    by rw [eqq_f hr]; rfl, eqq_f hr, by simp [eqq_eq], con_play hi ht ha'.1 ha'.2 htr, hFault, htr ▸ con_truth hi ht hmost hrow, ha ▸ con_asked hi, hz ▸ con_sized, hs ▸ con_short (w := w) (i := i) (wa := wa) (wc := wc) (ma := some ⟨mb, mo, none⟩) (mc := mc) (n := 2), trivial⟩
                  (by kernel_rfl) (by kernel_rfl) (by kernel_rfl) (by kernel_rfl) (by kernel_rfl) (by kernel_rfl) ok1
              | succ k ih =>
                intro hk
                obtain ⟨d, _, hg⟩ := ih (by omega)
                have hlt : k < i.nm := by omega
                have h1 := (badTo_none hbm k (by omega)).1
                have hw := con_rWrong (w := w) (i := i) (wa := wa) (wc := wc) (ma := some ⟨mb, mo, none⟩) (mc := mc) (n := 6) hi (endsOf i tanks false (bitsDry i.nm b) k)
                rw [h1, wrongRule_one h1] at hw
                exact hg.headO goFns_ok mixed_ok (ls_r1 (worldLo w) i t (rawS wa i.nw wc) (rawS (some ⟨db, do_, none⟩) t.nd dc) (rawS ra t.nr rc) (rawS na t.nn nc) mb mo mc m k (rowA (boolE (bitsDry i.nm b)) i.nm) (rowA (seenE i tanks t) i.nm) (rowA (seenE i tanks u) i.nm) r v (runTo i tanks u (k + 1)).tanks (runTo i tanks u (k + 1)).lens (runTo i tanks u (k + 1)).lack d)
                  ⟨wq_in (by omega) (by omega), hw, seen u k hlt, ⟨rfl, hlt⟩, ltq_t (by omega), trivial⟩
                  (by kernel_rfl) (by kernel_rfl) (by kernel_rfl) (by kernel_rfl) (by kernel_rfl) (by kernel_rfl) ok1
            obtain ⟨d1, _, g1⟩ := l1 m (Nat.le_refl _)
            have hwm := con_rWrong (w := w) (i := i) (wa := wa) (wc := wc) (ma := some ⟨mb, mo, none⟩) (mc := mc) (n := 6) hi (endsOf i tanks false (bitsDry i.nm b) m)
            rw [hR, hV] at hwm
            have hD : ∀ j, j < i.nm → (rowA (boolE (bitsDry i.nm b)) i.nm)[0 + j * 1]? = some (.bool (bitsDry i.nm b j)) := fun j hj => by
              have := rowA_get (e := boolE (bitsDry i.nm b)) (z := 1) (fun _ => rfl) (show 0 < 1 by omega) i.nm j hj
              rw [Nat.zero_add]
              simpa [boolE] using this
            have l2 : ∀ c, c ≤ i.nm → ∃ d : Nat → Value, (∀ t, Loose (d t)) ∧ GoE Tryz.prog (worldLo w) c0 [] 0
                (headC 8 206 (lsL2 i.nm ((t.nd : Int) - 1 - c) (befAt t.dry (bitsDry i.nm b) i.nm c)) d (lsT2.map (it (bodyOf Tryz.prog 8)))) (heapO 0 (lsO2 i (rawS wa i.nw wc) (rawS (some ⟨mb, mo, none⟩) i.nm mc) t (rawS (some ⟨db, do_, none⟩) t.nd dc) (rawS ra t.nr rc) (rawS na t.nn nc) m r v (rowA (boolE (bitsDry i.nm b)) i.nm) (rowA (seenE i tanks t) i.nm))) 5 [] := by
              intro c
              induction c with
              | zero =>
                intro _
                have e : (t.nd : Int) - 1 - ((0 : Nat) : Int) = (t.nd : Int) - 1 := by omega
                rw [e]
                exact g1.headO goFns_ok mixed_ok (ls_e1 (worldLo w) i t (rawS wa i.nw wc) (rawS ra t.nr rc) (rawS na t.nn nc) db do_ dc mb mo mc m m (rowA (boolE (bitsDry i.nm b)) i.nm) (rowA (seenE i tanks t) i.nm) (rowA (seenE i tanks u) i.nm) r v (runTo i tanks u (m + 1)).tanks (runTo i tanks u (m + 1)).lens (runTo i tanks u (m + 1)).lack d1)
                  ⟨wq_in (by omega) (by omega), by rw [eqq_t rfl]; rfl, by rw [eqq_t rfl]; rfl, hwm, seen u m hm, ⟨rfl, hm⟩, ltq_f (by omega), trivial⟩
                  (by kernel_rfl) (by kernel_rfl) (by kernel_rfl) (by kernel_rfl) (by kernel_rfl) (by kernel_rfl) ok2
              | succ c ih =>
                intro hc
                obtain ⟨d, _, hg⟩ := ih (by omega)
                have e : (t.nd : Int) - 1 - ((c + 1 : Nat) : Int) = (t.nd : Int) - 1 - c - 1 := by omega
                have hj : (t.nd : Int) - 1 - c = ((i.nm - 1 - c : Nat) : Int) := by omega
                have hraw := boolsRaw ht.dry (k := i.nm - 1 - c) (by omega)
                rw [e]
                by_cases hxd : t.dry (i.nm - 1 - c) = bitsDry i.nm b (i.nm - 1 - c)
                · have hbe : befAt t.dry (bitsDry i.nm b) i.nm (c + 1) = befAt t.dry (bitsDry i.nm b) i.nm c := by simp only [befAt, hxd, if_true]
                  rw [hbe]
                  exact hg.headO goFns_ok mixed_ok (ls_r2 (worldLo w) i t (rawS wa i.nw wc) (rawS ra t.nr rc) (rawS na t.nn nc) db do_ dc mb mo mc m (i.nm - 1 - c) (rowA (boolE (bitsDry i.nm b)) i.nm) (rowA (seenE i tanks t) i.nm) r v ((t.nd : Int) - 1 - c) (t.dry (i.nm - 1 - c)) (bitsDry i.nm b (i.nm - 1 - c)) (befAt t.dry (bitsDry i.nm b) i.nm c) d)
                    ⟨wq_in (by omega) (by omega), by rw [hxd]; simp, hD _ (by omega), ⟨hj, by omega⟩, hraw, ⟨hj, by omega⟩, nltq_t (by omega), trivial⟩
                    (by kernel_rfl) (by kernel_rfl) (by kernel_rfl) (by kernel_rfl) (by kernel_rfl) (by kernel_rfl) ok2
                · have hbe : befAt t.dry (bitsDry i.nm b) i.nm (c + 1) = bitsDry i.nm b (i.nm - 1 - c) := by simp only [befAt, hxd, if_false]
                  rw [hbe]
                  exact hg.headO goFns_ok mixed_ok (ls_d2 (worldLo w) i t (rawS wa i.nw wc) (rawS ra t.nr rc) (rawS na t.nn nc) db do_ dc mb mo mc m (i.nm - 1 - c) (rowA (boolE (bitsDry i.nm b)) i.nm) (rowA (seenE i tanks t) i.nm) r v ((t.nd : Int) - 1 - c) (t.dry (i.nm - 1 - c)) (bitsDry i.nm b (i.nm - 1 - c)) (befAt t.dry (bitsDry i.nm b) i.nm c) d)
                    ⟨wq_in (by omega) (by omega), hD _ (by omega), ⟨hj, by omega⟩, by simpa using hxd, hD _ (by omega), ⟨hj, by omega⟩, hraw, ⟨hj, by omega⟩, nltq_t (by omega), trivial⟩
                    (by kernel_rfl) (by kernel_rfl) (by kernel_rfl) (by kernel_rfl) (by kernel_rfl) (by kernel_rfl) ok2
            obtain ⟨d2, _, g2⟩ := l2 i.nm (Nat.le_refl _)
            refine last (befAt t.dry (bitsDry i.nm b) i.nm i.nm) ?_ fun hbef k hk => before_never ha'.1 ha'.2 htr hft hbef hk
            exact g2.headO goFns_ok mixed_ok (ls_e2 (worldLo w) i t (rawS wa i.nw wc) (rawS (some ⟨db, do_, none⟩) t.nd dc) (rawS ra t.nr rc) (rawS na t.nn nc) mb mo mc m (rowA (boolE (bitsDry i.nm b)) i.nm) (rowA (seenE i tanks t) i.nm) r v ((t.nd : Int) - 1 - i.nm) (befAt t.dry (bitsDry i.nm b) i.nm i.nm) d2)
              ⟨nltq_f (by omega), trivial⟩
              (by kernel_rfl) (by kernel_rfl) (by kernel_rfl) (by kernel_rfl) (by kernel_rfl) (by kernel_rfl) ok3
end Go.Proofs.YtffdidleebognaaGreatDoor

