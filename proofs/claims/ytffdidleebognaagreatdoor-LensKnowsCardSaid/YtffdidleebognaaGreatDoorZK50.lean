/- LensKnows: the runs of the law and of what it calls. -/
import Derived.Test.YtffdidleebognaaGreatDoorZK49
namespace Go.Proofs.YtffdidleebognaaGreatDoor
open Go Go.CE Go.Proofs Go.RowKit Lens
def skL (ab ao bb bo n ca cb k : Nat) : List (Nat × Value) := [(0, .slice (some ⟨ab, ao, some 0⟩) n ca), (1, .slice (some ⟨bb, bo, some 0⟩) n cb), (5, .int .i64 k)]
def skT : List It := [.code [1, 1, 0, 1, 0, 0], .inLoop [1, 1, 0, 1, 0, 0], .inBlock 0, .code [1, 1, 1]]
def kn6 (f : Kn) : Array Value := #[.int .i64 f.tl, .int .i64 f.th, .int .i64 f.ll, .int .i64 f.lh, .int .i64 f.kl, .int .i64 f.kh]
set_option maxRecDepth 100000 in
theorem sk_entry (B : Lo) (ab ao bb bo n ca cb : Nat) : land (srun Tryz.prog goFns B 12 0 (entryC Tryz.prog 16 26 [.slice (some ⟨ab, ao, some 0⟩) n ca, .slice (some ⟨bb, bo, some 0⟩) n cb]) [] 0
    [(5, Hint.val (Value.bool false))] 0 [] []) ((skL ab ao bb bo n ca cb 0).map (·.1)) ((kz [] ([] : List (Bool × Obj))).map (·.old)) = some ⟨16, 26, skT.map (it (bodyOf Tryz.prog 16)), [], .run, none, (skL ab ao bb bo n ca cb 0).map (fun p => rnV (rhoK (kz [] ([] : List (Bool × Obj)))) 3 p.2), (kz [] ([] : List (Bool × Obj))).map (fun kept_ => some (wasK (rhoK (kz [] ([] : List (Bool × Obj)))) kept_)), 0,
    [(!eqq (↑n : Int) (↑n : Int)) = false]⟩ := by kernel_rfl
set_option maxRecDepth 100000 in
theorem sk_round (B : Lo) (ab ao bb bo n ca cb k : Nat) (f : Kn) (d : Nat → Value) : land (srun Tryz.prog goFns B 14 0 (headC 16 26 (skL ab ao bb bo n ca cb k) d (skT.map (it (bodyOf Tryz.prog 16)))) (heapO 0 ([] : List (Bool × Obj))) (([] : List (Bool × Obj))).length
    [(3, Hint.val (Value.bool true)),
(6, Hint.idx k),
(7, Hint.raw
  (Value.agg
    #[Value.int IntKind.i64 (Kn.tl f), Value.int IntKind.i64 (Kn.th f), Value.int IntKind.i64 (Kn.ll f),
      Value.int IntKind.i64 (Kn.lh f), Value.int IntKind.i64 (Kn.kl f), Value.int IntKind.i64 (Kn.kh f)])),
(10, Hint.idx k),
(11, Hint.raw
  (Value.agg
    #[Value.int IntKind.i64 (Kn.tl f), Value.int IntKind.i64 (Kn.th f), Value.int IntKind.i64 (Kn.ll f),
      Value.int IntKind.i64 (Kn.lh f), Value.int IntKind.i64 (Kn.kl f), Value.int IntKind.i64 (Kn.kh f)])),
(12, Hint.eq false),
(14, Hint.val (Value.int IntKind.i64 ((↑k : Int) + 1)))] 0 [] []) ((skL ab ao bb bo n ca cb (k + 1)).map (·.1)) ((kz [] ([] : List (Bool × Obj))).map (·.old)) = some ⟨16, 26, skT.map (it (bodyOf Tryz.prog 16)), [], .run, none, (skL ab ao bb bo n ca cb (k + 1)).map (fun p => rnV (rhoK (kz [] ([] : List (Bool × Obj)))) 3 p.2), (kz [] ([] : List (Bool × Obj))).map (fun kept_ => some (wasK (rhoK (kz [] ([] : List (Bool × Obj)))) kept_)), 0,
    [wq ((↑k : Int) + 1) = (↑k : Int) + 1,
(!(eqq (Kn.tl f) (Kn.tl f) && (eqq (Kn.th f) (Kn.th f) && true) &&
      (eqq (Kn.ll f) (Kn.ll f) && (eqq (Kn.lh f) (Kn.lh f) && true) &&
        (eqq (Kn.kl f) (Kn.kl f) && (eqq (Kn.kh f) (Kn.kh f) && true) && true)))) =
  false,
∀ (j : Nat) (u : Value),
  #[Value.int IntKind.i64 (Kn.tl f), Value.int IntKind.i64 (Kn.th f), Value.int IntKind.i64 (Kn.ll f),
          Value.int IntKind.i64 (Kn.lh f), Value.int IntKind.i64 (Kn.kl f), Value.int IntKind.i64 (Kn.kh f)][j]? =
      some u →
    RawCell B bb (bo + k * 6 + j) u,
(↑k : Int) = (↑k : Int) ∧ k < n,
∀ (j : Nat) (u : Value),
  #[Value.int IntKind.i64 (Kn.tl f), Value.int IntKind.i64 (Kn.th f), Value.int IntKind.i64 (Kn.ll f),
          Value.int IntKind.i64 (Kn.lh f), Value.int IntKind.i64 (Kn.kl f), Value.int IntKind.i64 (Kn.kh f)][j]? =
      some u →
    RawCell B ab (ao + k * 6 + j) u,
(↑k : Int) = (↑k : Int) ∧ k < n,
ltq (↑k : Int) (↑n : Int) = true]⟩ := by kernel_rfl
set_option maxRecDepth 100000 in
theorem sk_end (B : Lo) (ab ao bb bo n ca cb k : Nat) (d : Nat → Value) : ended (srun Tryz.prog goFns B 9 0 (headC 16 26 (skL ab ao bb bo n ca cb k) d (skT.map (it (bodyOf Tryz.prog 16)))) (heapO 0 ([] : List (Bool × Obj))) (([] : List (Bool × Obj))).length
    [(3, Hint.val (Value.bool false))] 0 [] []) [] = some ⟨.ret (.bool true), [], 0,
    [ltq (↑k : Int) (↑n : Int) = false]⟩ := by kernel_rfl
set_option maxRecDepth 100000 in
theorem few_short (B : Lo) (i : Isl) (W M : Value) : ended (srun Tryz.prog goFns B 6 0 (entryC Tryz.prog 10 19 [.agg (islC i W M), .int .i64 7]) [] 0
    [(3, Hint.call [] (Value.bool false) [] 1 [])] 0 [] []) [] = some ⟨.ret (.bool false), [], 1,
    [CJ Tryz.prog B 18
  #[Value.agg
      #[Value.int IntKind.i64 (Isl.cap i), Value.int IntKind.i64 (Isl.sl i), Value.int IntKind.i64 (Isl.sh i),
        Value.int IntKind.i64 (Isl.roof i), Value.int IntKind.i64 (Isl.sand i), Value.int IntKind.i64 (Isl.kl i),
        Value.int IntKind.i64 (Isl.kh i), Value.int IntKind.i64 (Isl.ll i), Value.int IntKind.i64 (Isl.lh i),
        Value.int IntKind.i64 (Isl.pump i), Value.int IntKind.i64 (Isl.keep i), Value.int IntKind.i64 (Isl.size i), W,
        M, Value.int IntKind.i64 (Isl.most i), Value.int IntKind.i64 (Isl.row i)]]
  [] 1 (Value.bool false) [] 1 []]⟩ := by kernel_rfl
set_option maxRecDepth 100000 in
theorem few_ref (B : Lo) (i : Isl) (W M : Value) : ended (srun Tryz.prog goFns B 6 0 (entryC Tryz.prog 10 19 [.agg (islC i W M), .int .i64 7]) [] 0
    [(3, Hint.call [] (Value.bool true) [] 1 []),
(6, Hint.call [] (Value.bool false) [] 1 [])] 0 [] []) [] = some ⟨.ret (.bool true), [], 1,
    [CJ Tryz.prog B 14
  #[Value.agg
      #[Value.int IntKind.i64 (Isl.cap i), Value.int IntKind.i64 (Isl.sl i), Value.int IntKind.i64 (Isl.sh i),
        Value.int IntKind.i64 (Isl.roof i), Value.int IntKind.i64 (Isl.sand i), Value.int IntKind.i64 (Isl.kl i),
        Value.int IntKind.i64 (Isl.kh i), Value.int IntKind.i64 (Isl.ll i), Value.int IntKind.i64 (Isl.lh i),
        Value.int IntKind.i64 (Isl.pump i), Value.int IntKind.i64 (Isl.keep i), Value.int IntKind.i64 (Isl.size i), W,
        M, Value.int IntKind.i64 (Isl.most i), Value.int IntKind.i64 (Isl.row i)]]
  [] 1 (Value.bool false) [] 1 [],
CJ Tryz.prog B 18
  #[Value.agg
      #[Value.int IntKind.i64 (Isl.cap i), Value.int IntKind.i64 (Isl.sl i), Value.int IntKind.i64 (Isl.sh i),
        Value.int IntKind.i64 (Isl.roof i), Value.int IntKind.i64 (Isl.sand i), Value.int IntKind.i64 (Isl.kl i),
        Value.int IntKind.i64 (Isl.kh i), Value.int IntKind.i64 (Isl.ll i), Value.int IntKind.i64 (Isl.lh i),
        Value.int IntKind.i64 (Isl.pump i), Value.int IntKind.i64 (Isl.keep i), Value.int IntKind.i64 (Isl.size i), W,
        M, Value.int IntKind.i64 (Isl.most i), Value.int IntKind.i64 (Isl.row i)]]
  [] 1 (Value.bool true) [] 1 []]⟩ := by kernel_rfl
set_option maxRecDepth 100000 in
theorem few_num (B : Lo) (i : Isl) (W : Value) (A : Option Addr) (ms : Nat) (y : Bool) : ended (srun Tryz.prog goFns B 6 0 (entryC Tryz.prog 10 19 [.agg (islC i W (.slice A i.nm ms)), .int .i64 7]) [] 0
    [(3, Hint.call [] (Value.bool true) [] 1 []),
(6, Hint.call [] (Value.bool true) [] 1 []),
(11, Hint.len (Isl.nm i)),
(13, Hint.val (Value.bool y))] 0 [] []) [] = some ⟨.ret (.bool y), [], 1,
    [(!ltq 7 (↑(Isl.nm i) : Int)) = y,
SliceLen (tget { len := 16000, tr := Tri.set 14 Tri.lf 13 (Value.slice A (Isl.nm i) ms) } 13) (Isl.nm i),
CJ Tryz.prog B 14
  #[Value.agg
      #[Value.int IntKind.i64 (Isl.cap i), Value.int IntKind.i64 (Isl.sl i), Value.int IntKind.i64 (Isl.sh i),
        Value.int IntKind.i64 (Isl.roof i), Value.int IntKind.i64 (Isl.sand i), Value.int IntKind.i64 (Isl.kl i),
        Value.int IntKind.i64 (Isl.kh i), Value.int IntKind.i64 (Isl.ll i), Value.int IntKind.i64 (Isl.lh i),
        Value.int IntKind.i64 (Isl.pump i), Value.int IntKind.i64 (Isl.keep i), Value.int IntKind.i64 (Isl.size i), W,
        Value.slice A (Isl.nm i) ms, Value.int IntKind.i64 (Isl.most i), Value.int IntKind.i64 (Isl.row i)]]
  [] 1 (Value.bool true) [] 1 [],
CJ Tryz.prog B 18
  #[Value.agg
      #[Value.int IntKind.i64 (Isl.cap i), Value.int IntKind.i64 (Isl.sl i), Value.int IntKind.i64 (Isl.sh i),
        Value.int IntKind.i64 (Isl.roof i), Value.int IntKind.i64 (Isl.sand i), Value.int IntKind.i64 (Isl.kl i),
        Value.int IntKind.i64 (Isl.kh i), Value.int IntKind.i64 (Isl.ll i), Value.int IntKind.i64 (Isl.lh i),
        Value.int IntKind.i64 (Isl.pump i), Value.int IntKind.i64 (Isl.keep i), Value.int IntKind.i64 (Isl.size i), W,
        Value.slice A (Isl.nm i) ms, Value.int IntKind.i64 (Isl.most i), Value.int IntKind.i64 (Isl.row i)]]
  [] 1 (Value.bool true) [] 1 []]⟩ := by kernel_rfl
set_option maxRecDepth 100000 in
theorem chk_no (B : Lo) (i : Isl) (W M : Value) : ended (srun Tryz.prog goFns B 10 0 (entryC Tryz.prog 12 6 [.agg (islC i W M)]) [] 0
    [(3, Hint.call [] (Value.bool false) [] 1 [])] 0 [] []) [] = some ⟨.ret (.int .i64 2), [], 1,
    [CJ Tryz.prog B 36
  #[Value.agg
      #[Value.int IntKind.i64 (Isl.cap i), Value.int IntKind.i64 (Isl.sl i), Value.int IntKind.i64 (Isl.sh i),
        Value.int IntKind.i64 (Isl.roof i), Value.int IntKind.i64 (Isl.sand i), Value.int IntKind.i64 (Isl.kl i),
        Value.int IntKind.i64 (Isl.kh i), Value.int IntKind.i64 (Isl.ll i), Value.int IntKind.i64 (Isl.lh i),
        Value.int IntKind.i64 (Isl.pump i), Value.int IntKind.i64 (Isl.keep i), Value.int IntKind.i64 (Isl.size i), W,
        M, Value.int IntKind.i64 (Isl.most i), Value.int IntKind.i64 (Isl.row i)]]
  [] 1 (Value.bool false) [] 1 []]⟩ := by kernel_rfl
set_option maxRecDepth 100000 in
theorem chk_ok (B : Lo) (i : Isl) (W M : Value) : ended (srun Tryz.prog goFns B 11 0 (entryC Tryz.prog 12 6 [.agg (islC i W M)]) [] 0
    [(3, Hint.call [] (Value.bool true) [] 1 [])] 0 [] []) [] = some ⟨.ret (.int .i64 0), [], 1,
    [CJ Tryz.prog B 36
  #[Value.agg
      #[Value.int IntKind.i64 (Isl.cap i), Value.int IntKind.i64 (Isl.sl i), Value.int IntKind.i64 (Isl.sh i),
        Value.int IntKind.i64 (Isl.roof i), Value.int IntKind.i64 (Isl.sand i), Value.int IntKind.i64 (Isl.kl i),
        Value.int IntKind.i64 (Isl.kh i), Value.int IntKind.i64 (Isl.ll i), Value.int IntKind.i64 (Isl.lh i),
        Value.int IntKind.i64 (Isl.pump i), Value.int IntKind.i64 (Isl.keep i), Value.int IntKind.i64 (Isl.size i), W,
        M, Value.int IntKind.i64 (Isl.most i), Value.int IntKind.i64 (Isl.row i)]]
  [] 1 (Value.bool true) [] 1 []]⟩ := by kernel_rfl
set_option maxRecDepth 100000 in
theorem kw_no1 (B : Lo) (i : Isl) (W M : Value) (tanks : Int) : ended (srun Tryz.prog goFns B 10 0 (entryC Tryz.prog 13 17 [.agg (islC i W M), .int .i64 tanks]) [] 0
    [(4, Hint.call [] (Value.bool false) [] 1 [])] 0 [] []) [] = some ⟨.ret (.tuple #[.slice none 0 0, .int .i64 2]), [], 1,
    [CJ Tryz.prog B 36
  #[Value.agg
      #[Value.int IntKind.i64 (Isl.cap i), Value.int IntKind.i64 (Isl.sl i), Value.int IntKind.i64 (Isl.sh i),
        Value.int IntKind.i64 (Isl.roof i), Value.int IntKind.i64 (Isl.sand i), Value.int IntKind.i64 (Isl.kl i),
        Value.int IntKind.i64 (Isl.kh i), Value.int IntKind.i64 (Isl.ll i), Value.int IntKind.i64 (Isl.lh i),
        Value.int IntKind.i64 (Isl.pump i), Value.int IntKind.i64 (Isl.keep i), Value.int IntKind.i64 (Isl.size i), W,
        M, Value.int IntKind.i64 (Isl.most i), Value.int IntKind.i64 (Isl.row i)]]
  [] 1 (Value.bool false) [] 1 []]⟩ := by kernel_rfl
set_option maxRecDepth 100000 in
theorem kw_no2 (B : Lo) (i : Isl) (W M : Value) (tanks : Int) : ended (srun Tryz.prog goFns B 10 0 (entryC Tryz.prog 13 17 [.agg (islC i W M), .int .i64 tanks]) [] 0
    [(4, Hint.call [] (Value.bool true) [] 1 []),
(8, Hint.call [] (Value.bool false) [] 1 [])] 0 [] []) [] = some ⟨.ret (.tuple #[.slice none 0 0, .int .i64 2]), [], 1,
    [CJ Tryz.prog B 37 #[Value.int IntKind.i64 tanks] [] 1 (Value.bool false) [] 1 [],
CJ Tryz.prog B 36
  #[Value.agg
      #[Value.int IntKind.i64 (Isl.cap i), Value.int IntKind.i64 (Isl.sl i), Value.int IntKind.i64 (Isl.sh i),
        Value.int IntKind.i64 (Isl.roof i), Value.int IntKind.i64 (Isl.sand i), Value.int IntKind.i64 (Isl.kl i),
        Value.int IntKind.i64 (Isl.kh i), Value.int IntKind.i64 (Isl.ll i), Value.int IntKind.i64 (Isl.lh i),
        Value.int IntKind.i64 (Isl.pump i), Value.int IntKind.i64 (Isl.keep i), Value.int IntKind.i64 (Isl.size i), W,
        M, Value.int IntKind.i64 (Isl.most i), Value.int IntKind.i64 (Isl.row i)]]
  [] 1 (Value.bool true) [] 1 []]⟩ := by kernel_rfl
set_option maxRecDepth 100000 in
theorem lk_few (B : Lo) (i : Isl) (W M : Value) (tanks : Int) : ended (srun Tryz.prog goFns B 10 0 (entryC Tryz.prog 3 62 [.agg (islC i W M), .int .i64 tanks]) [] 0
    [(3, Hint.call [] (Value.bool false) [] 1 []),
(5, Hint.call [] (Value.bool true) [] 1 [])] 0 [] []) [] = some ⟨.ret (.bool true), [], 1,
    [CJ Tryz.prog B 11 #[] [] 1 (Value.bool true) [] 1 [],
CJ Tryz.prog B 10
  #[Value.agg
      #[Value.int IntKind.i64 (Isl.cap i), Value.int IntKind.i64 (Isl.sl i), Value.int IntKind.i64 (Isl.sh i),
        Value.int IntKind.i64 (Isl.roof i), Value.int IntKind.i64 (Isl.sand i), Value.int IntKind.i64 (Isl.kl i),
        Value.int IntKind.i64 (Isl.kh i), Value.int IntKind.i64 (Isl.ll i), Value.int IntKind.i64 (Isl.lh i),
        Value.int IntKind.i64 (Isl.pump i), Value.int IntKind.i64 (Isl.keep i), Value.int IntKind.i64 (Isl.size i), W,
        M, Value.int IntKind.i64 (Isl.most i), Value.int IntKind.i64 (Isl.row i)],
    Value.int IntKind.i64 7]
  [] 1 (Value.bool false) [] 1 []]⟩ := by kernel_rfl
set_option maxRecDepth 100000 in
theorem lk_bad (B : Lo) (i : Isl) (W M : Value) (tanks : Int) : ended (srun Tryz.prog goFns B 26 0 (entryC Tryz.prog 3 62 [.agg (islC i W M), .int .i64 tanks]) [] 0
    [(3, Hint.call [] (Value.bool true) [] 1 []),
(6, Hint.call [] (Value.int IntKind.i64 2) [] 1 []),
(10, Hint.call [] (Value.tuple #[Value.slice none 0 0, Value.int IntKind.i64 2]) [] 1 []),
(17, Hint.call [] (Value.bool false) [] 1 []),
(34, Hint.call [] (Value.bool false) [] 1 []),
(44, Hint.call [] (Value.bool true) [] 1 [])] 0 [] []) [] = some ⟨.ret (.bool true), [], 1,
    [CJ Tryz.prog B 11 #[] [] 1 (Value.bool true) [] 1 [],
CJ Tryz.prog B 15
  #[Value.agg
      #[Value.int IntKind.i64 (Isl.cap i), Value.int IntKind.i64 (Isl.sl i), Value.int IntKind.i64 (Isl.sh i),
        Value.int IntKind.i64 (Isl.roof i), Value.int IntKind.i64 (Isl.sand i), Value.int IntKind.i64 (Isl.kl i),
        Value.int IntKind.i64 (Isl.kh i), Value.int IntKind.i64 (Isl.ll i), Value.int IntKind.i64 (Isl.lh i),
        Value.int IntKind.i64 (Isl.pump i), Value.int IntKind.i64 (Isl.keep i), Value.int IntKind.i64 (Isl.size i), W,
        M, Value.int IntKind.i64 (Isl.most i), Value.int IntKind.i64 (Isl.row i)],
    Value.int IntKind.i64 tanks]
  [] 1 (Value.bool false) [] 1 [],
CJ Tryz.prog B 14
  #[Value.agg
      #[Value.int IntKind.i64 (Isl.cap i), Value.int IntKind.i64 (Isl.sl i), Value.int IntKind.i64 (Isl.sh i),
        Value.int IntKind.i64 (Isl.roof i), Value.int IntKind.i64 (Isl.sand i), Value.int IntKind.i64 (Isl.kl i),
        Value.int IntKind.i64 (Isl.kh i), Value.int IntKind.i64 (Isl.ll i), Value.int IntKind.i64 (Isl.lh i),
        Value.int IntKind.i64 (Isl.pump i), Value.int IntKind.i64 (Isl.keep i), Value.int IntKind.i64 (Isl.size i), W,
        M, Value.int IntKind.i64 (Isl.most i), Value.int IntKind.i64 (Isl.row i)]]
  [] 1 (Value.bool false) [] 1 [],
CJ Tryz.prog B 13
  #[Value.agg
      #[Value.int IntKind.i64 (Isl.cap i), Value.int IntKind.i64 (Isl.sl i), Value.int IntKind.i64 (Isl.sh i),
        Value.int IntKind.i64 (Isl.roof i), Value.int IntKind.i64 (Isl.sand i), Value.int IntKind.i64 (Isl.kl i),
        Value.int IntKind.i64 (Isl.kh i), Value.int IntKind.i64 (Isl.ll i), Value.int IntKind.i64 (Isl.lh i),
        Value.int IntKind.i64 (Isl.pump i), Value.int IntKind.i64 (Isl.keep i), Value.int IntKind.i64 (Isl.size i), W,
        M, Value.int IntKind.i64 (Isl.most i), Value.int IntKind.i64 (Isl.row i)],
    Value.int IntKind.i64 tanks]
  [] 1 (Value.tuple #[Value.slice none 0 0, Value.int IntKind.i64 2]) [] 1 [],
CJ Tryz.prog B 12
  #[Value.agg
      #[Value.int IntKind.i64 (Isl.cap i), Value.int IntKind.i64 (Isl.sl i), Value.int IntKind.i64 (Isl.sh i),
        Value.int IntKind.i64 (Isl.roof i), Value.int IntKind.i64 (Isl.sand i), Value.int IntKind.i64 (Isl.kl i),
        Value.int IntKind.i64 (Isl.kh i), Value.int IntKind.i64 (Isl.ll i), Value.int IntKind.i64 (Isl.lh i),
        Value.int IntKind.i64 (Isl.pump i), Value.int IntKind.i64 (Isl.keep i), Value.int IntKind.i64 (Isl.size i), W,
        M, Value.int IntKind.i64 (Isl.most i), Value.int IntKind.i64 (Isl.row i)]]
  [] 1 (Value.int IntKind.i64 2) [] 1 [],
CJ Tryz.prog B 10
  #[Value.agg
      #[Value.int IntKind.i64 (Isl.cap i), Value.int IntKind.i64 (Isl.sl i), Value.int IntKind.i64 (Isl.sh i),
        Value.int IntKind.i64 (Isl.roof i), Value.int IntKind.i64 (Isl.sand i), Value.int IntKind.i64 (Isl.kl i),
        Value.int IntKind.i64 (Isl.kh i), Value.int IntKind.i64 (Isl.ll i), Value.int IntKind.i64 (Isl.lh i),
        Value.int IntKind.i64 (Isl.pump i), Value.int IntKind.i64 (Isl.keep i), Value.int IntKind.i64 (Isl.size i), W,
        M, Value.int IntKind.i64 (Isl.most i), Value.int IntKind.i64 (Isl.row i)],
    Value.int IntKind.i64 7]
  [] 1 (Value.bool true) [] 1 []]⟩ := by kernel_rfl
set_option maxRecDepth 100000 in
theorem lk_tanks (B : Lo) (i : Isl) (W M : Value) (tanks : Int) : ended (srun Tryz.prog goFns B 26 0 (entryC Tryz.prog 3 62 [.agg (islC i W M), .int .i64 tanks]) [] 0
    [(3, Hint.call [] (Value.bool true) [] 1 []),
(6, Hint.call [] (Value.int IntKind.i64 0) [] 1 []),
(10, Hint.call [] (Value.tuple #[Value.slice none 0 0, Value.int IntKind.i64 2]) [] 1 []),
(17, Hint.call [] (Value.bool true) [] 1 []),
(34, Hint.call [] (Value.bool false) [] 1 []),
(44, Hint.call [] (Value.bool true) [] 1 [])] 0 [] []) [] = some ⟨.ret (.bool true), [], 1,
    [CJ Tryz.prog B 11 #[] [] 1 (Value.bool true) [] 1 [],
CJ Tryz.prog B 15
  #[Value.agg
      #[Value.int IntKind.i64 (Isl.cap i), Value.int IntKind.i64 (Isl.sl i), Value.int IntKind.i64 (Isl.sh i),
        Value.int IntKind.i64 (Isl.roof i), Value.int IntKind.i64 (Isl.sand i), Value.int IntKind.i64 (Isl.kl i),
        Value.int IntKind.i64 (Isl.kh i), Value.int IntKind.i64 (Isl.ll i), Value.int IntKind.i64 (Isl.lh i),
        Value.int IntKind.i64 (Isl.pump i), Value.int IntKind.i64 (Isl.keep i), Value.int IntKind.i64 (Isl.size i), W,
        M, Value.int IntKind.i64 (Isl.most i), Value.int IntKind.i64 (Isl.row i)],
    Value.int IntKind.i64 tanks]
  [] 1 (Value.bool false) [] 1 [],
CJ Tryz.prog B 14
  #[Value.agg
      #[Value.int IntKind.i64 (Isl.cap i), Value.int IntKind.i64 (Isl.sl i), Value.int IntKind.i64 (Isl.sh i),
        Value.int IntKind.i64 (Isl.roof i), Value.int IntKind.i64 (Isl.sand i), Value.int IntKind.i64 (Isl.kl i),
        Value.int IntKind.i64 (Isl.kh i), Value.int IntKind.i64 (Isl.ll i), Value.int IntKind.i64 (Isl.lh i),
        Value.int IntKind.i64 (Isl.pump i), Value.int IntKind.i64 (Isl.keep i), Value.int IntKind.i64 (Isl.size i), W,
        M, Value.int IntKind.i64 (Isl.most i), Value.int IntKind.i64 (Isl.row i)]]
  [] 1 (Value.bool true) [] 1 [],
CJ Tryz.prog B 13
  #[Value.agg
      #[Value.int IntKind.i64 (Isl.cap i), Value.int IntKind.i64 (Isl.sl i), Value.int IntKind.i64 (Isl.sh i),
        Value.int IntKind.i64 (Isl.roof i), Value.int IntKind.i64 (Isl.sand i), Value.int IntKind.i64 (Isl.kl i),
        Value.int IntKind.i64 (Isl.kh i), Value.int IntKind.i64 (Isl.ll i), Value.int IntKind.i64 (Isl.lh i),
        Value.int IntKind.i64 (Isl.pump i), Value.int IntKind.i64 (Isl.keep i), Value.int IntKind.i64 (Isl.size i), W,
        M, Value.int IntKind.i64 (Isl.most i), Value.int IntKind.i64 (Isl.row i)],
    Value.int IntKind.i64 tanks]
  [] 1 (Value.tuple #[Value.slice none 0 0, Value.int IntKind.i64 2]) [] 1 [],
CJ Tryz.prog B 12
  #[Value.agg
      #[Value.int IntKind.i64 (Isl.cap i), Value.int IntKind.i64 (Isl.sl i), Value.int IntKind.i64 (Isl.sh i),
        Value.int IntKind.i64 (Isl.roof i), Value.int IntKind.i64 (Isl.sand i), Value.int IntKind.i64 (Isl.kl i),
        Value.int IntKind.i64 (Isl.kh i), Value.int IntKind.i64 (Isl.ll i), Value.int IntKind.i64 (Isl.lh i),
        Value.int IntKind.i64 (Isl.pump i), Value.int IntKind.i64 (Isl.keep i), Value.int IntKind.i64 (Isl.size i), W,
        M, Value.int IntKind.i64 (Isl.most i), Value.int IntKind.i64 (Isl.row i)]]
  [] 1 (Value.int IntKind.i64 0) [] 1 [],
CJ Tryz.prog B 10
  #[Value.agg
      #[Value.int IntKind.i64 (Isl.cap i), Value.int IntKind.i64 (Isl.sl i), Value.int IntKind.i64 (Isl.sh i),
        Value.int IntKind.i64 (Isl.roof i), Value.int IntKind.i64 (Isl.sand i), Value.int IntKind.i64 (Isl.kl i),
        Value.int IntKind.i64 (Isl.kh i), Value.int IntKind.i64 (Isl.ll i), Value.int IntKind.i64 (Isl.lh i),
        Value.int IntKind.i64 (Isl.pump i), Value.int IntKind.i64 (Isl.keep i), Value.int IntKind.i64 (Isl.size i), W,
        M, Value.int IntKind.i64 (Isl.most i), Value.int IntKind.i64 (Isl.row i)],
    Value.int IntKind.i64 7]
  [] 1 (Value.bool true) [] 1 []]⟩ := by kernel_rfl
set_option maxRecDepth 100000 in
theorem lk_fine (B : Lo) (i : Isl) (W M : Value) (tanks : Int) (K R : Array Value) : ended (srun Tryz.prog goFns B 27 0 (entryC Tryz.prog 3 62 [.agg (islC i W M), .int .i64 tanks]) [] 0
    [(3, Hint.call [] (Value.bool true) [] 1 []),
(6, Hint.call [] (Value.int IntKind.i64 0) [] 1 []),
(10, Hint.call [] (Value.tuple #[Value.slice (some { block := 1, off := 0 }) (Isl.nm i) 0, Value.int IntKind.i64 0])
  [(1, Obj.cells K 56 (1, 1))] 2 []),
(17, Hint.call [] (Value.bool true) [] 2 []),
(34, Hint.call [] (Value.bool true) [] 2 []),
(42, Hint.call [] (Value.slice (some { block := 2, off := 0 }) (Isl.nm i) 0) [(2, Obj.cells R 56 (1, 1))] 3 []),
(43, Hint.call [1, 2] (Value.bool true) [] 3 []),
(46, Hint.call [] (Value.bool true) [] 3 [])] 0 [] []) [] = some ⟨.ret (.bool true), [], 3,
    [CJ Tryz.prog B 11 #[] [] 3 (Value.bool true) [] 3 [],
CJ Tryz.prog B 16
  #[Value.slice (some { block := 1, off := 0 }) (Isl.nm i) 0, Value.slice (some { block := 2, off := 0 }) (Isl.nm i) 0]
  [(1, some (Obj.cells K 56 (1, 1))), (2, some (Obj.cells R 56 (1, 1)))] 3 (Value.bool true) [] 3 [],
CJ Tryz.prog B 17
  #[Value.agg
      #[Value.int IntKind.i64 (Isl.cap i), Value.int IntKind.i64 (Isl.sl i), Value.int IntKind.i64 (Isl.sh i),
        Value.int IntKind.i64 (Isl.roof i), Value.int IntKind.i64 (Isl.sand i), Value.int IntKind.i64 (Isl.kl i),
        Value.int IntKind.i64 (Isl.kh i), Value.int IntKind.i64 (Isl.ll i), Value.int IntKind.i64 (Isl.lh i),
        Value.int IntKind.i64 (Isl.pump i), Value.int IntKind.i64 (Isl.keep i), Value.int IntKind.i64 (Isl.size i), W,
        M, Value.int IntKind.i64 (Isl.most i), Value.int IntKind.i64 (Isl.row i)],
    Value.int IntKind.i64 tanks]
  [] 2 (Value.slice (some { block := 2, off := 0 }) (Isl.nm i) 0) [(2, Obj.cells R 56 (1, 1))] 3 [],
CJ Tryz.prog B 15
  #[Value.agg
      #[Value.int IntKind.i64 (Isl.cap i), Value.int IntKind.i64 (Isl.sl i), Value.int IntKind.i64 (Isl.sh i),
        Value.int IntKind.i64 (Isl.roof i), Value.int IntKind.i64 (Isl.sand i), Value.int IntKind.i64 (Isl.kl i),
        Value.int IntKind.i64 (Isl.kh i), Value.int IntKind.i64 (Isl.ll i), Value.int IntKind.i64 (Isl.lh i),
        Value.int IntKind.i64 (Isl.pump i), Value.int IntKind.i64 (Isl.keep i), Value.int IntKind.i64 (Isl.size i), W,
        M, Value.int IntKind.i64 (Isl.most i), Value.int IntKind.i64 (Isl.row i)],
    Value.int IntKind.i64 tanks]
  [] 2 (Value.bool true) [] 2 [],
CJ Tryz.prog B 14
  #[Value.agg
      #[Value.int IntKind.i64 (Isl.cap i), Value.int IntKind.i64 (Isl.sl i), Value.int IntKind.i64 (Isl.sh i),
        Value.int IntKind.i64 (Isl.roof i), Value.int IntKind.i64 (Isl.sand i), Value.int IntKind.i64 (Isl.kl i),
        Value.int IntKind.i64 (Isl.kh i), Value.int IntKind.i64 (Isl.ll i), Value.int IntKind.i64 (Isl.lh i),
        Value.int IntKind.i64 (Isl.pump i), Value.int IntKind.i64 (Isl.keep i), Value.int IntKind.i64 (Isl.size i), W,
        M, Value.int IntKind.i64 (Isl.most i), Value.int IntKind.i64 (Isl.row i)]]
  [] 2 (Value.bool true) [] 2 [],
CJ Tryz.prog B 13
  #[Value.agg
      #[Value.int IntKind.i64 (Isl.cap i), Value.int IntKind.i64 (Isl.sl i), Value.int IntKind.i64 (Isl.sh i),
        Value.int IntKind.i64 (Isl.roof i), Value.int IntKind.i64 (Isl.sand i), Value.int IntKind.i64 (Isl.kl i),
        Value.int IntKind.i64 (Isl.kh i), Value.int IntKind.i64 (Isl.ll i), Value.int IntKind.i64 (Isl.lh i),
        Value.int IntKind.i64 (Isl.pump i), Value.int IntKind.i64 (Isl.keep i), Value.int IntKind.i64 (Isl.size i), W,
        M, Value.int IntKind.i64 (Isl.most i), Value.int IntKind.i64 (Isl.row i)],
    Value.int IntKind.i64 tanks]
  [] 1 (Value.tuple #[Value.slice (some { block := 1, off := 0 }) (Isl.nm i) 0, Value.int IntKind.i64 0])
  [(1, Obj.cells K 56 (1, 1))] 2 [],
CJ Tryz.prog B 12
  #[Value.agg
      #[Value.int IntKind.i64 (Isl.cap i), Value.int IntKind.i64 (Isl.sl i), Value.int IntKind.i64 (Isl.sh i),
        Value.int IntKind.i64 (Isl.roof i), Value.int IntKind.i64 (Isl.sand i), Value.int IntKind.i64 (Isl.kl i),
        Value.int IntKind.i64 (Isl.kh i), Value.int IntKind.i64 (Isl.ll i), Value.int IntKind.i64 (Isl.lh i),
        Value.int IntKind.i64 (Isl.pump i), Value.int IntKind.i64 (Isl.keep i), Value.int IntKind.i64 (Isl.size i), W,
        M, Value.int IntKind.i64 (Isl.most i), Value.int IntKind.i64 (Isl.row i)]]
  [] 1 (Value.int IntKind.i64 0) [] 1 [],
CJ Tryz.prog B 10
  #[Value.agg
      #[Value.int IntKind.i64 (Isl.cap i), Value.int IntKind.i64 (Isl.sl i), Value.int IntKind.i64 (Isl.sh i),
        Value.int IntKind.i64 (Isl.roof i), Value.int IntKind.i64 (Isl.sand i), Value.int IntKind.i64 (Isl.kl i),
        Value.int IntKind.i64 (Isl.kh i), Value.int IntKind.i64 (Isl.ll i), Value.int IntKind.i64 (Isl.lh i),
        Value.int IntKind.i64 (Isl.pump i), Value.int IntKind.i64 (Isl.keep i), Value.int IntKind.i64 (Isl.size i), W,
        M, Value.int IntKind.i64 (Isl.most i), Value.int IntKind.i64 (Isl.row i)],
    Value.int IntKind.i64 7]
  [] 1 (Value.bool true) [] 1 []]⟩ := by kernel_rfl
end Go.Proofs.YtffdidleebognaaGreatDoor

namespace Go.Proofs.YtffdidleebognaaGreatDoor
open Go Go.CE Go.Proofs Go.RowKit Lens
/-! ### The reference's bounds are the program's -/
theorem rkTo_app {i : Isl} {tanks : Int} {l : List Nat} {x : Nat} : ∀ n, n ≤ l.length → rkTo i tanks (l ++ [x]) n = rkTo i tanks l n
  | 0, _ => rfl
  | n + 1, h => by
    have e : (l ++ [x]).getD n 0 = l.getD n 0 := by
      simp only [List.getD_eq_getElem?_getD, List.getElem?_append_left (show n < l.length by omega)]
    have h0 := rkTo_app (i := i) (tanks := tanks) (l := l) (x := x) n (by omega)
    simp only [rkTo, h0, e]
theorem kn_ext {a b : Kn} (h1 : a.tl = b.tl) (h2 : a.th = b.th) (h3 : a.ll = b.ll) (h4 : a.lh = b.lh) (h5 : a.kl = b.kl) (h6 : a.kh = b.kh) : a = b := by
  cases a; cases b; simp_all
theorem rwd_wid {k : Kn} {a b : Seen} (h1 : a.tanks ≤ b.tanks) (h2 : a.lens ≤ b.lens) (h3 : b.lack ≤ a.lack) : wid (wid k a) b = rwd false k a b := by
  refine kn_ext ?_ ?_ ?_ ?_ ?_ ?_ <;> simp only [wid, rwd, cond_false] <;> omega
theorem rwd_first {k : Kn} {a b : Seen} (h1 : a.tanks ≤ b.tanks) (h2 : a.lens ≤ b.lens) (h3 : b.lack ≤ a.lack) (a1 : 0 ≤ a.tanks) (a2 : 0 ≤ a.lens) (a3 : 0 ≤ b.lack) (b1 : b.tanks ≤ 1000000000000) (b2 : b.lens ≤ 1000000000000) (b3 : a.lack ≤ 1000000000000) : wid (wid noKn a) b = rwd true k a b := by
  refine kn_ext ?_ ?_ ?_ ?_ ?_ ?_ <;> simp only [wid, rwd, noKn, cond_true] <;> omega
theorem ends_less {i : Isl} {tanks : Int} {d : Nat → Bool} (h1 : islB i = true) (h2 : tanksB tanks = true) (hd : drB i.most i.row i.nm d = true) {j : Nat} (hj : j < i.nm) :
    (endsOf i tanks false d j).tanks ≤ (endsOf i tanks true d j).tanks ∧ (endsOf i tanks false d j).lens ≤ (endsOf i tanks true d j).lens ∧ (endsOf i tanks true d j).lack ≤ (endsOf i tanks false d j).lack ∧
      0 ≤ (endsOf i tanks false d j).tanks ∧ 0 ≤ (endsOf i tanks false d j).lens ∧ 0 ≤ (endsOf i tanks true d j).lack ∧ (endsOf i tanks true d j).tanks ≤ 1000000000000 ∧ (endsOf i tanks true d j).lens ≤ 1000000000000 ∧ (endsOf i tanks false d j).lack ≤ 1000000000000 := by
  have hf := fit_end h1 h2 false i.nm d
  have hf' := fit_end h1 h2 true i.nm d
  obtain ⟨m1, m2, m3⟩ := run_mono hf hf' (less_low (end_tru (much := true) h1 hd) (d := d) fun _ _ => rfl) (j + 1) (by omega)
  have s := runTo_ok hf (k := j + 1) (by omega)
  have s' := runTo_ok hf' (k := j + 1) (by omega)
  obtain ⟨f0, f1⟩ := full_le hf
  have c1 := hf.cap1
  have := s.t0; have := s.l0; have := s'.k0; have := s'.t1; have := s'.l1; have := s.k1
  refine ⟨m1, m2, m3, s.t0, s.l0, s'.k0, ?_, ?_, ?_⟩
  · show (runTo i tanks (endTru i true i.nm d) (j + 1)).tanks ≤ _
    omega
  · show (runTo i tanks (endTru i true i.nm d) (j + 1)).lens ≤ _
    omega
  · show (runTo i tanks (endTru i false i.nm d) (j + 1)).lack ≤ _
    omega
theorem rk_eq {i : Isl} {tanks : Int} (h1 : islB i = true) (h2 : tanksB tanks = true) {j : Nat} (hj : j < i.nm) : ∀ n, 1 ≤ (pas i (n + 1)).length ∧ rkTo i tanks (pas i (n + 1)) (pas i (n + 1)).length j = upTo i tanks (fun _ => noKn) (n + 1) j
  | 0 => by
    obtain ⟨_, _, hmost, hrow⟩ := isl_nm' h1
    have hz := dry_none hmost hrow
    have e1 : pas i (0 + 1) = [0] := by rw [pas_succ, if_pos hz]; rfl
    obtain ⟨m1, m2, m3, q1, q2, q3, q4, q5, q6⟩ := ends_less (tanks := tanks) h1 h2 hz hj
    rw [e1]
    refine ⟨Nat.le_refl _, ?_⟩
    have e2 : upTo i tanks (fun _ => noKn) (0 + 1) j = wid (wid noKn (endsOf i tanks false (bitsDry i.nm 0) j)) (endsOf i tanks true (bitsDry i.nm 0) j) := by
      show (if drB i.most i.row i.nm (bitsDry i.nm 0) = true then widest i tanks (bitsDry i.nm 0) (fun _ => noKn) else fun _ => noKn) j = _
      rw [if_pos hz, widest_at hj]
    rw [e2, rwd_first (k := zeroKn) m1 m2 m3 q1 q2 q3 q4 q5 q6]
    show rpass true _ _ _ i.nm j = _
    simp only [rpass, hj, if_true, rkTo]
    rfl
  | n + 1 => by
    obtain ⟨p1, p2⟩ := rk_eq h1 h2 hj n
    cases hz : drB i.most i.row i.nm (bitsDry i.nm (n + 1)) with
    | false =>
      have e1 : pas i (n + 1 + 1) = pas i (n + 1) := by rw [pas_succ, hz]; rfl
      rw [e1]
      refine ⟨p1, p2.trans ?_⟩
      show _ = (if drB i.most i.row i.nm (bitsDry i.nm (n + 1)) = true then widest i tanks (bitsDry i.nm (n + 1)) (upTo i tanks (fun _ => noKn) (n + 1)) else upTo i tanks (fun _ => noKn) (n + 1)) j
      rw [hz]; rfl
    | true =>
      have e1 : pas i (n + 1 + 1) = pas i (n + 1) ++ [n + 1] := by rw [pas_succ, hz]; rfl
      obtain ⟨m1, m2, m3, _⟩ := ends_less (tanks := tanks) h1 h2 hz hj
      have e2 : upTo i tanks (fun _ => noKn) (n + 1 + 1) j = wid (wid (upTo i tanks (fun _ => noKn) (n + 1) j) (endsOf i tanks false (bitsDry i.nm (n + 1)) j)) (endsOf i tanks true (bitsDry i.nm (n + 1)) j) := by
        show (if drB i.most i.row i.nm (bitsDry i.nm (n + 1)) = true then widest i tanks (bitsDry i.nm (n + 1)) (upTo i tanks (fun _ => noKn) (n + 1)) else upTo i tanks (fun _ => noKn) (n + 1)) j = _
        rw [if_pos hz, widest_at hj]
      rw [e1, List.length_append, List.length_singleton]
      refine ⟨by omega, ?_⟩
      rw [e2, rwd_wid m1 m2 m3, ← p2]
      have e3 : Nat.beq (pas i (n + 1)).length 0 = false := by
        cases h : (pas i (n + 1)).length with
        | zero => omega
        | succ k => rfl
      have e4 : (pas i (n + 1) ++ [n + 1]).getD (pas i (n + 1)).length 0 = n + 1 := by simp [List.getD_eq_getElem?_getD]
      simp only [rkTo, rpass, hj, if_true, e3, e4, rkTo_app _ (Nat.le_refl _)]
theorem rk_row {i : Isl} {tanks : Int} (h1 : islB i = true) (h2 : tanksB tanks = true) : rowA (knE (rkTo i tanks (pas i (2 ^ i.nm)) (pas i (2 ^ i.nm)).length)) i.nm = knA i tanks := by
  obtain ⟨m, hm⟩ : ∃ m, 2 ^ i.nm = m + 1 := ⟨2 ^ i.nm - 1, by have := Nat.two_pow_pos i.nm; omega⟩
  refine row_congr _ fun j hj => ?_
  have := (rk_eq h1 h2 hj m).2
  rw [← hm] at this
  simp only [knE, this]
/-! ### Contracts -/
theorem kn6_af (f : Kn) {j : Nat} {v : Value} (h : (kn6 f)[j]? = some v) : af v = true := by
  have := Array.mem_of_getElem? h
  simp only [kn6, List.mem_toArray, List.mem_cons, List.not_mem_nil, or_false] at this
  rcases this with rfl | rfl | rfl | rfl | rfl | rfl <;> rfl
theorem kn_cells {μ : Mu} {w : World} {im : Img} {f : Nat → Kn} {m : Nat} {t : TypeId} {fz : Nat × Nat} (h : OR μ w im (.cells (rowA (knE f) m) t fz)) : ∀ k, k < m → ∀ (j : Nat) v, (kn6 (f k))[j]? = some v → w.cell? ⟨im.blk, im.off + k * 6 + j, none⟩ = some v := fun k hk j v hv => by
  have hj : j < 6 := (Array.getElem?_eq_some_iff.1 hv).1
  have e : (rowA (knE f) m)[k * 6 + j]? = some v := (rowA_get (e := knE f) (fun _ => rfl) hj m k hk).trans (by simpa [kn6, knE] using hv)
  obtain ⟨v', h1, h2⟩ := h.cell e
  rw [Nat.add_assoc, h1, af_eq (kn6_af _ hv) h2]
set_option maxRecDepth 100000 in
theorem rSameKnown_true {ab ao bb bo m ca cb : Nat} {f : Nat → Kn} {w : World} (hm : m ≤ maxLen) (ha : ∀ k, k < m → ∀ (j : Nat) v, (kn6 (f k))[j]? = some v → w.cell? ⟨ab, ao + k * 6 + j, none⟩ = some v) (hab : ab < w.heap.size)
    (hb : ∀ k, k < m → ∀ (j : Nat) v, (kn6 (f k))[j]? = some v → w.cell? ⟨bb, bo + k * 6 + j, none⟩ = some v) (hbb : bb < w.heap.size) :
    Calls Tryz.prog 16 #[.slice (some ⟨ab, ao, none⟩) m ca, .slice (some ⟨bb, bo, none⟩) m cb] w fun e w' => e = .returned (.bool true) ∧ Below w.heap.size w w' := by
  unfold maxLen at hm
  have hx : ExL [.slice (some ⟨ab, ao, some 0⟩) m ca, .slice (some ⟨bb, bo, some 0⟩) m cb] [.slice (some ⟨ab, ao, none⟩) m ca, .slice (some ⟨bb, bo, none⟩) m cb] := .cons (exact_rawS (some ⟨ab, ao, none⟩) m ca) (.cons (exact_rawS (some ⟨bb, bo, none⟩) m cb) .nil)
  have cA : ∀ k, k < m → ∀ (j : Nat) u, (kn6 (f k))[j]? = some u → RawCell (worldLo w) ab (ao + k * 6 + j) u := fun k hk j u hu => raw_of hab (ha k hk j u hu) fun _ => vr_af (kn6_af _ hu)
  have cB : ∀ k, k < m → ∀ (j : Nat) u, (kn6 (f k))[j]? = some u → RawCell (worldLo w) bb (bo + k * 6 + j) u := fun k hk j u hu => raw_of hbb (hb k hk j u hu) fun _ => vr_af (kn6_af _ hu)
  have all : ∀ k, k ≤ m → ∃ d : Nat → Value, (∀ t, Loose (d t)) ∧ GoE Tryz.prog (worldLo w) (entryC Tryz.prog 16 26 [.slice (some ⟨ab, ao, some 0⟩) m ca, .slice (some ⟨bb, bo, some 0⟩) m cb]) [] 0
      (headC 16 26 (skL ab ao bb bo m ca cb k) d (skT.map (it (bodyOf Tryz.prog 16)))) (heapO 0 []) 0 [] := by
    intro k
    induction k with
    | zero =>
      intro _
      exact (GoE.refl under_nil).headO goFns_ok mixed_ok (sk_entry (worldLo w) ab ao bb bo m ca cb) ⟨by simp [eqq_eq], trivial⟩ (by kernel_rfl) (by kernel_rfl) (by kernel_rfl) (by kernel_rfl) (by kernel_rfl) (by kernel_rfl) trivial
    | succ k ih =>
      intro hk
      obtain ⟨d, _, hg⟩ := ih (by omega)
      exact hg.headO goFns_ok mixed_ok (sk_round (worldLo w) ab ao bb bo m ca cb k (f k) d) ⟨wq_in (by omega) (by omega), by simp [eqq_eq], cB k hk, ⟨rfl, hk⟩, cA k hk, ⟨rfl, hk⟩, ltq_t (by omega), trivial⟩
        (by kernel_rfl) (by kernel_rfl) (by kernel_rfl) (by kernel_rfl) (by kernel_rfl) (by kernel_rfl) trivial
  obtain ⟨d, _, hg⟩ := all m (Nat.le_refl _)
  exact (hg.calls goFns_ok mixed_ok (f := 16) (args := #[.slice (some ⟨ab, ao, some 0⟩) m ca, .slice (some ⟨bb, bo, some 0⟩) m cb]) (by kernel_rfl) (sk_end (worldLo w) ab ao bb bo m ca cb m d) ⟨ltq_f (Int.le_refl _), trivial⟩ (worldLo_has w) (VRl.vrs' hx.vrl)).mono
    fun _ _ ⟨v', _, he, hv, hb, _⟩ => ⟨by rw [he, af_eq (v := .bool true) rfl hv], hb⟩
section
variable {i : Isl} {wa : Option Addr} {wc mc : Nat} {ma : Option Addr} {tanks : Int} {w : World} {n : Nat}
theorem con_sameKnown {a b m : Nat} {f : Nat → Kn} (hm : m ≤ maxLen) (ha : a < n) (hb : b < n) :
    CJ Tryz.prog (worldLo w) 16 #[.slice (some ⟨a, 0, none⟩) m 0, .slice (some ⟨b, 0, none⟩) m 0] [(a, some (.cells (rowA (knE f) m) 56 (1, 1))), (b, some (.cells (rowA (knE f) m) 56 (1, 1)))] n (.bool true) [] n [] := by
  refine cj_read rfl (fun p hp => ?_) fun μ w' args' hB hv hH => ?_
  · simp only [List.mem_cons, List.not_mem_nil, or_false] at hp
    rcases hp with rfl | rfl
    · exact ha
    · exact hb
  · obtain ⟨ima, h1, h2, h3⟩ := hH (a, some (.cells (rowA (knE f) m) 56 (1, 1))) (by simp) _ _ _ rfl
    obtain ⟨imb, k1, k2, k3⟩ := hH (b, some (.cells (rowA (knE f) m) 56 (1, 1))) (by simp) _ _ _ rfl
    have hl := vrl_args (l := [.slice (some ⟨a, 0, none⟩) m 0, .slice (some ⟨b, 0, none⟩) m 0]) hv
    generalize hg : args'.toList = l at hl
    cases hl with
    | cons q1 hl => cases hl with
      | cons q2 hl =>
        cases hl
        obtain ⟨ca, rfl, _, _⟩ := q1.slice_new h1
        obtain ⟨cb, rfl, _, _⟩ := q2.slice_new k1
        have e : args' = #[.slice (some ⟨ima.blk, ima.off, none⟩) m ca, .slice (some ⟨imb.blk, imb.off, none⟩) m cb] := by rw [← Array.toList_inj, hg]
        rw [e]
        exact rSameKnown_true hm (kn_cells h3) h2 (kn_cells k3) k2
theorem con_rIslet (hi : IslAt w w.heap.size i wa ma) : CJ Tryz.prog (worldLo w) 14 #[islR i wa wc ma mc] [] n (.bool (islB i)) [] n [] :=
  con_of (.cons (exact_isl _ _ _ _ _) .nil) (exact_af rfl) fun w' hw => rIslet_any i wa wc ma mc w' (islAt_lo hi hw)
theorem b_ret {f : FuncId} {len fuel n' : Nat} {sc : Script} {L : List Prop} {l l' : List Value} {v v0 : Value} (hx : ExL l l') (hv : Exact v v0)
    (hc : enterC Tryz.prog f l.toArray = some (entryC Tryz.prog f len l)) (e : ended (srun Tryz.prog goFns (worldLo w) fuel 0 (entryC Tryz.prog f len l) [] 0 sc 0 [] []) [] = some ⟨.ret v, [], n', L⟩) (hL : AllP L) :
    Calls Tryz.prog f l'.toArray w fun e' w' => e' = .returned v0 ∧ Below w.heap.size w w' :=
  ((GoE.refl under_nil).calls goFns_ok mixed_ok hc e hL (worldLo_has w) (VRl.vrs' hx.vrl)).mono fun _ _ ⟨v', _, he, hv', hb, _⟩ => ⟨by rw [he, hv.2 _ _ hv'], hb⟩
theorem exl_i : ExL [islR i wa wc ma mc] [islV i wa wc ma mc] := .cons (exact_isl _ _ _ _ _) .nil
def fewB (i : Isl) : Bool := shortB i && (!islB i || decide (i.nm ≤ 7))
theorem con_few (hi : IslAt w w.heap.size i wa ma) : CJ Tryz.prog (worldLo w) 10 #[islR i wa wc ma mc, .int .i64 7] [] n (.bool (fewB i)) [] n [] :=
  con_of exl_it (exact_af rfl) fun w' hB => by
    have hi' := islAt_lo hi hB
    unfold fewB
    cases hs : shortB i with
    | false => exact b_ret exl_it (exact_af rfl) (by kernel_rfl) (few_short (worldLo w') i _ _) ⟨hs ▸ con_short, trivial⟩
    | true =>
      cases h1 : islB i with
      | false => exact b_ret exl_it (exact_af rfl) (by kernel_rfl) (few_ref (worldLo w') i _ _) ⟨h1 ▸ con_rIslet hi', hs ▸ con_short, trivial⟩
      | true =>
        refine b_ret exl_it (exact_af rfl) (by kernel_rfl) (few_num (worldLo w') i (rawS wa i.nw wc) (rawO ma) mc (decide (i.nm ≤ 7))) ⟨?_, sliceLen_rawS ma i.nm mc, h1 ▸ con_rIslet hi', hs ▸ con_short, trivial⟩
        by_cases h : i.nm ≤ 7
        · rw [ltq_f (by omega)]; simp [h]
        · rw [ltq_t (by omega)]; simp [h]
theorem con_Check (hi : IslAt w w.heap.size i wa ma) : CJ Tryz.prog (worldLo w) 12 #[islR i wa wc ma mc] [] n (.int .i64 (if islB i = true then 0 else 2)) [] n [] :=
  con_of exl_i (exact_af rfl) fun w' hB => by
    have hi' := islAt_lo hi hB
    cases h1 : islB i with
    | false => exact b_ret exl_i (exact_af rfl) (by kernel_rfl) (chk_no (worldLo w') i _ _) ⟨h1 ▸ con_isIslet hi', trivial⟩
    | true => exact b_ret exl_i (exact_af rfl) (by kernel_rfl) (chk_ok (worldLo w') i _ _) ⟨h1 ▸ con_isIslet hi', trivial⟩
theorem ex_kno : Exact (.tuple #[.slice none 0 0, .int .i64 2]) (.tuple #[.slice none 0 0, .int .i64 2]) := exact_tuple (.cons (exact_af rfl) (.cons (exact_af rfl) .nil))
theorem con_KnownNo (hi : IslAt w w.heap.size i wa ma) (h : (islB i && tanksB tanks) = false) : CJ Tryz.prog (worldLo w) 13 #[islR i wa wc ma mc, .int .i64 tanks] [] n (.tuple #[.slice none 0 0, .int .i64 2]) [] n [] :=
  con_of (v' := .tuple #[.slice none 0 0, .int .i64 2]) exl_it ex_kno fun w' hB => by
    have hi' := islAt_lo hi hB
    cases h1 : islB i with
    | false => exact b_ret exl_it ex_kno (by kernel_rfl) (kw_no1 (worldLo w') i _ _ tanks) ⟨h1 ▸ con_isIslet hi', trivial⟩
    | true =>
      rw [h1, Bool.true_and] at h
      exact b_ret exl_it ex_kno (by kernel_rfl) (kw_no2 (worldLo w') i _ _ tanks) ⟨h ▸ con_areTanks, h1 ▸ con_isIslet hi', trivial⟩
theorem con_rKnown (hi : IslAt w w.heap.size i wa ma) (h1 : islB i = true) (h2 : tanksB tanks = true) (h7 : i.nm ≤ 7) :
    CJ Tryz.prog (worldLo w) 17 #[islR i wa wc ma mc, .int .i64 tanks] [] n (.slice (some ⟨n, 0, none⟩) i.nm 0) [(n, .cells (knA i tanks) 56 (1, 1))] (n + 1) [] :=
  cj_row (knE_af _ _) fun μ w' args' hB ha => by
    rw [exl_it.args ha]
    refine (rKnown_any (islAt_lo hi hB) h1 h2 h7).mono fun e w'' ⟨⟨g, c, he, k1, k2, k3, k4, k5⟩, hb⟩ => ⟨⟨g, _, k1, k2, he, ?_, fun μ' hμ => .slice ⟨_, hμ, rfl, rfl⟩ k3 k4 fun h => absurd rfl h⟩, hb⟩
    rw [rk_row h1 h2] at k5
    exact k5
end
set_option maxRecDepth 100000 in
theorem knows_walk : Walk2 3 := by
  intro i wa wc ma mc x w hi hp
  cases hs : fewB i with
  | false => exact b_ret exl_it (exact_af rfl) (by kernel_rfl) (lk_few (worldLo w) i _ _ x) ⟨con_known hp, hs ▸ con_few hi, trivial⟩
  | true =>
    cases ha : (islB i && tanksB x) with
    | false =>
      cases h1 : islB i with
      | false => exact b_ret exl_it (exact_af rfl) (by kernel_rfl) (lk_bad (worldLo w) i _ _ x) ⟨con_known hp, ha ▸ con_asked hi, h1 ▸ con_rIslet hi, con_KnownNo hi ha, (show (2 : Int) = if islB i = true then 0 else 2 by rw [h1]; rfl) ▸ con_Check hi, hs ▸ con_few hi, trivial⟩
      | true => exact b_ret exl_it (exact_af rfl) (by kernel_rfl) (lk_tanks (worldLo w) i _ _ x) ⟨con_known hp, ha ▸ con_asked hi, h1 ▸ con_rIslet hi, con_KnownNo hi ha, (show (0 : Int) = if islB i = true then 0 else 2 by rw [h1]; rfl) ▸ con_Check hi, hs ▸ con_few hi, trivial⟩
    | true =>
      have ha' := ha
      simp only [Bool.and_eq_true] at ha'
      obtain ⟨h1, h2⟩ := ha'
      have h7 : i.nm ≤ 7 := by
        simp only [fewB, h1, Bool.not_true, Bool.false_or, Bool.and_eq_true, decide_eq_true_eq] at hs
        exact hs.2
      have hml : i.nm ≤ maxLen := by unfold maxLen; omega
      exact b_ret exl_it (exact_af rfl) (by kernel_rfl) (lk_fine (worldLo w) i _ _ x (knA i x) (knA i x))
        ⟨con_known hp, con_sameKnown (f := upTo i x (fun _ => noKn) (2 ^ i.nm)) hml (by omega) (by omega), con_rKnown hi h1 h2 h7, ha ▸ con_asked hi, h1 ▸ con_rIslet hi, con_Known hi h1 h2,
          (show (0 : Int) = if islB i = true then 0 else 2 by rw [h1]; rfl) ▸ con_Check hi, hs ▸ con_few hi, trivial⟩
end Go.Proofs.YtffdidleebognaaGreatDoor
