/- LensPlays: the law's runs. -/
import Derived.Test.YtfaboddhhepdiaaDoorSeCon
namespace Go.Proofs.YtfaboddhhepdiaaDoor
open Go Go.CE Go.Proofs Go.RowKit Lens
def ledV (l0 l1 l2 l3 l4 l5 : Int) : Value := .agg #[.int .i64 l0, .int .i64 l1, .int .i64 l2, .int .i64 l3, .int .i64 l4, .int .i64 l5]
set_option maxRecDepth 100000 in
theorem lplays_short (B : Lo) (i : Isl) (t : Tru) (tanks : Int) (W M D R N : Value) : ended (srun Tryd.prog goFns B 10 0 (entryC Tryd.prog 4 76 [.agg (islC i W M), .int .i64 tanks, .agg (truC t D R N)]) [] 0
    [(4, Hint.call [] (Value.bool false) [] 2 []),
(11, Hint.call [] (Value.bool true) [] 2 [])] 0 [] []) [] = some ⟨.ret (.bool true), [], 2,
    [CJ Tryd.prog B 14 #[] [] 2 (Value.bool true) [] 2 [],
CJ Tryd.prog B 21
  #[Value.agg
      #[Value.int IntKind.i64 (Isl.cap i), Value.int IntKind.i64 (Isl.sl i), Value.int IntKind.i64 (Isl.sh i),
        Value.int IntKind.i64 (Isl.roof i), Value.int IntKind.i64 (Isl.sand i), Value.int IntKind.i64 (Isl.kl i),
        Value.int IntKind.i64 (Isl.kh i), Value.int IntKind.i64 (Isl.ll i), Value.int IntKind.i64 (Isl.lh i),
        Value.int IntKind.i64 (Isl.pump i), Value.int IntKind.i64 (Isl.keep i), Value.int IntKind.i64 (Isl.size i), W,
        M, Value.int IntKind.i64 (Isl.most i), Value.int IntKind.i64 (Isl.row i)]]
  [] 2 (Value.bool false) [] 2 []]⟩ := by kernel_rfl
set_option maxRecDepth 100000 in
theorem lplays_sized (B : Lo) (i : Isl) (t : Tru) (tanks : Int) (W M D R N : Value) : ended (srun Tryd.prog goFns B 10 0 (entryC Tryd.prog 4 76 [.agg (islC i W M), .int .i64 tanks, .agg (truC t D R N)]) [] 0
    [(4, Hint.call [] (Value.bool true) [] 2 []),
(8, Hint.call [] (Value.bool false) [] 2 []),
(11, Hint.call [] (Value.bool true) [] 2 [])] 0 [] []) [] = some ⟨.ret (.bool true), [], 2,
    [CJ Tryd.prog B 14 #[] [] 2 (Value.bool true) [] 2 [],
CJ Tryd.prog B 22
  #[Value.agg
      #[Value.int IntKind.i64 (Tru.start t), Value.int IntKind.i64 (Tru.soak t), Value.int IntKind.i64 (Tru.leak t), D,
        R, N]]
  [] 2 (Value.bool false) [] 2 [],
CJ Tryd.prog B 21
  #[Value.agg
      #[Value.int IntKind.i64 (Isl.cap i), Value.int IntKind.i64 (Isl.sl i), Value.int IntKind.i64 (Isl.sh i),
        Value.int IntKind.i64 (Isl.roof i), Value.int IntKind.i64 (Isl.sand i), Value.int IntKind.i64 (Isl.kl i),
        Value.int IntKind.i64 (Isl.kh i), Value.int IntKind.i64 (Isl.ll i), Value.int IntKind.i64 (Isl.lh i),
        Value.int IntKind.i64 (Isl.pump i), Value.int IntKind.i64 (Isl.keep i), Value.int IntKind.i64 (Isl.size i), W,
        M, Value.int IntKind.i64 (Isl.most i), Value.int IntKind.i64 (Isl.row i)]]
  [] 2 (Value.bool true) [] 2 []]⟩ := by kernel_rfl
set_option maxRecDepth 100000 in
theorem lplays_asked (B : Lo) (i : Isl) (t : Tru) (tanks : Int) (W M D R N : Value) : ended (srun Tryd.prog goFns B 17 0 (entryC Tryd.prog 4 76 [.agg (islC i W M), .int .i64 tanks, .agg (truC t D R N)]) [] 0
    [(4, Hint.call [] (Value.bool true) [] 2 []),
(8, Hint.call [] (Value.bool true) [] 2 []),
(14, Hint.call [] (Value.tuple #[Value.slice none 0 0, ledV 0 0 0 0 0 0, Value.int IntKind.i64 2]) [] 2 []),
(25, Hint.call [] (Value.bool false) [] 3 []),
(46, Hint.call [] (Value.bool true) [] 3 [])] 0 [] []) [] = some ⟨.ret (.bool true), [], 3,
    [CJ Tryd.prog B 14 #[] [] 3 (Value.bool true) [] 3 [],
CJ Tryd.prog B 18
  #[Value.agg
      #[Value.int IntKind.i64 (Isl.cap i), Value.int IntKind.i64 (Isl.sl i), Value.int IntKind.i64 (Isl.sh i),
        Value.int IntKind.i64 (Isl.roof i), Value.int IntKind.i64 (Isl.sand i), Value.int IntKind.i64 (Isl.kl i),
        Value.int IntKind.i64 (Isl.kh i), Value.int IntKind.i64 (Isl.ll i), Value.int IntKind.i64 (Isl.lh i),
        Value.int IntKind.i64 (Isl.pump i), Value.int IntKind.i64 (Isl.keep i), Value.int IntKind.i64 (Isl.size i), W,
        M, Value.int IntKind.i64 (Isl.most i), Value.int IntKind.i64 (Isl.row i)],
    Value.int IntKind.i64 tanks]
  [] 3 (Value.bool false) [] 3 [],
CJ Tryd.prog B 23
  #[Value.agg
      #[Value.int IntKind.i64 (Isl.cap i), Value.int IntKind.i64 (Isl.sl i), Value.int IntKind.i64 (Isl.sh i),
        Value.int IntKind.i64 (Isl.roof i), Value.int IntKind.i64 (Isl.sand i), Value.int IntKind.i64 (Isl.kl i),
        Value.int IntKind.i64 (Isl.kh i), Value.int IntKind.i64 (Isl.ll i), Value.int IntKind.i64 (Isl.lh i),
        Value.int IntKind.i64 (Isl.pump i), Value.int IntKind.i64 (Isl.keep i), Value.int IntKind.i64 (Isl.size i), W,
        M, Value.int IntKind.i64 (Isl.most i), Value.int IntKind.i64 (Isl.row i)],
    Value.int IntKind.i64 tanks,
    Value.agg
      #[Value.int IntKind.i64 (Tru.start t), Value.int IntKind.i64 (Tru.soak t), Value.int IntKind.i64 (Tru.leak t), D,
        R, N]]
  [] 2 (Value.tuple #[Value.slice none 0 0, ledV 0 0 0 0 0 0, Value.int IntKind.i64 2]) [] 2 [],
CJ Tryd.prog B 22
  #[Value.agg
      #[Value.int IntKind.i64 (Tru.start t), Value.int IntKind.i64 (Tru.soak t), Value.int IntKind.i64 (Tru.leak t), D,
        R, N]]
  [] 2 (Value.bool true) [] 2 [],
CJ Tryd.prog B 21
  #[Value.agg
      #[Value.int IntKind.i64 (Isl.cap i), Value.int IntKind.i64 (Isl.sl i), Value.int IntKind.i64 (Isl.sh i),
        Value.int IntKind.i64 (Isl.roof i), Value.int IntKind.i64 (Isl.sand i), Value.int IntKind.i64 (Isl.kl i),
        Value.int IntKind.i64 (Isl.kh i), Value.int IntKind.i64 (Isl.ll i), Value.int IntKind.i64 (Isl.lh i),
        Value.int IntKind.i64 (Isl.pump i), Value.int IntKind.i64 (Isl.keep i), Value.int IntKind.i64 (Isl.size i), W,
        M, Value.int IntKind.i64 (Isl.most i), Value.int IntKind.i64 (Isl.row i)]]
  [] 2 (Value.bool true) [] 2 []]⟩ := by kernel_rfl
set_option maxRecDepth 100000 in
theorem lplays_truth (B : Lo) (i : Isl) (t : Tru) (tanks : Int) (W M D R N : Value) : ended (srun Tryd.prog goFns B 17 0 (entryC Tryd.prog 4 76 [.agg (islC i W M), .int .i64 tanks, .agg (truC t D R N)]) [] 0
    [(4, Hint.call [] (Value.bool true) [] 2 []),
(8, Hint.call [] (Value.bool true) [] 2 []),
(14, Hint.call [] (Value.tuple #[Value.slice none 0 0, ledV 0 0 0 0 0 0, Value.int IntKind.i64 2]) [] 2 []),
(25, Hint.call [] (Value.bool true) [] 3 []),
(30, Hint.call [] (Value.bool false) [] 3 []),
(46, Hint.call [] (Value.bool true) [] 3 [])] 0 [] []) [] = some ⟨.ret (.bool true), [], 3,
    [CJ Tryd.prog B 14 #[] [] 3 (Value.bool true) [] 3 [],
CJ Tryd.prog B 24
  #[Value.agg
      #[Value.int IntKind.i64 (Isl.cap i), Value.int IntKind.i64 (Isl.sl i), Value.int IntKind.i64 (Isl.sh i),
        Value.int IntKind.i64 (Isl.roof i), Value.int IntKind.i64 (Isl.sand i), Value.int IntKind.i64 (Isl.kl i),
        Value.int IntKind.i64 (Isl.kh i), Value.int IntKind.i64 (Isl.ll i), Value.int IntKind.i64 (Isl.lh i),
        Value.int IntKind.i64 (Isl.pump i), Value.int IntKind.i64 (Isl.keep i), Value.int IntKind.i64 (Isl.size i), W,
        M, Value.int IntKind.i64 (Isl.most i), Value.int IntKind.i64 (Isl.row i)],
    Value.agg
      #[Value.int IntKind.i64 (Tru.start t), Value.int IntKind.i64 (Tru.soak t), Value.int IntKind.i64 (Tru.leak t), D,
        R, N]]
  [] 3 (Value.bool false) [] 3 [],
CJ Tryd.prog B 18
  #[Value.agg
      #[Value.int IntKind.i64 (Isl.cap i), Value.int IntKind.i64 (Isl.sl i), Value.int IntKind.i64 (Isl.sh i),
        Value.int IntKind.i64 (Isl.roof i), Value.int IntKind.i64 (Isl.sand i), Value.int IntKind.i64 (Isl.kl i),
        Value.int IntKind.i64 (Isl.kh i), Value.int IntKind.i64 (Isl.ll i), Value.int IntKind.i64 (Isl.lh i),
        Value.int IntKind.i64 (Isl.pump i), Value.int IntKind.i64 (Isl.keep i), Value.int IntKind.i64 (Isl.size i), W,
        M, Value.int IntKind.i64 (Isl.most i), Value.int IntKind.i64 (Isl.row i)],
    Value.int IntKind.i64 tanks]
  [] 3 (Value.bool true) [] 3 [],
CJ Tryd.prog B 23
  #[Value.agg
      #[Value.int IntKind.i64 (Isl.cap i), Value.int IntKind.i64 (Isl.sl i), Value.int IntKind.i64 (Isl.sh i),
        Value.int IntKind.i64 (Isl.roof i), Value.int IntKind.i64 (Isl.sand i), Value.int IntKind.i64 (Isl.kl i),
        Value.int IntKind.i64 (Isl.kh i), Value.int IntKind.i64 (Isl.ll i), Value.int IntKind.i64 (Isl.lh i),
        Value.int IntKind.i64 (Isl.pump i), Value.int IntKind.i64 (Isl.keep i), Value.int IntKind.i64 (Isl.size i), W,
        M, Value.int IntKind.i64 (Isl.most i), Value.int IntKind.i64 (Isl.row i)],
    Value.int IntKind.i64 tanks,
    Value.agg
      #[Value.int IntKind.i64 (Tru.start t), Value.int IntKind.i64 (Tru.soak t), Value.int IntKind.i64 (Tru.leak t), D,
        R, N]]
  [] 2 (Value.tuple #[Value.slice none 0 0, ledV 0 0 0 0 0 0, Value.int IntKind.i64 2]) [] 2 [],
CJ Tryd.prog B 22
  #[Value.agg
      #[Value.int IntKind.i64 (Tru.start t), Value.int IntKind.i64 (Tru.soak t), Value.int IntKind.i64 (Tru.leak t), D,
        R, N]]
  [] 2 (Value.bool true) [] 2 [],
CJ Tryd.prog B 21
  #[Value.agg
      #[Value.int IntKind.i64 (Isl.cap i), Value.int IntKind.i64 (Isl.sl i), Value.int IntKind.i64 (Isl.sh i),
        Value.int IntKind.i64 (Isl.roof i), Value.int IntKind.i64 (Isl.sand i), Value.int IntKind.i64 (Isl.kl i),
        Value.int IntKind.i64 (Isl.kh i), Value.int IntKind.i64 (Isl.ll i), Value.int IntKind.i64 (Isl.lh i),
        Value.int IntKind.i64 (Isl.pump i), Value.int IntKind.i64 (Isl.keep i), Value.int IntKind.i64 (Isl.size i), W,
        M, Value.int IntKind.i64 (Isl.most i), Value.int IntKind.i64 (Isl.row i)]]
  [] 2 (Value.bool true) [] 2 []]⟩ := by kernel_rfl
set_option maxRecDepth 100000 in
theorem lplays_fine (B : Lo) (i : Isl) (t : Tru) (tanks : Int) (W M D R N : Value) (l0 l1 l2 l3 l4 l5 : Int) (n : Nat) (A : Array Value) : ended (srun Tryd.prog goFns B 20 0 (entryC Tryd.prog 4 76 [.agg (islC i W M), .int .i64 tanks, .agg (truC t D R N)]) [] 0
    [(4, Hint.call [] (Value.bool true) [] 2 []),
(8, Hint.call [] (Value.bool true) [] 2 []),
(14, Hint.call []
  (Value.tuple #[Value.slice (some { block := 2, off := 0 }) n 0, ledV l0 l1 l2 l3 l4 l5, Value.int IntKind.i64 0])
  [(2, Obj.cells A 53 (1, 1))] 3 []),
(25, Hint.call [] (Value.bool true) [] 4 []),
(30, Hint.call [] (Value.bool true) [] 4 []),
(36, Hint.call [] (Value.tuple #[Value.slice (some { block := 4, off := 0 }) n 0, ledV l0 l1 l2 l3 l4 l5])
  [(4, Obj.cells A 53 (1, 1))] 5 []),
(48, Hint.call [2, 4] (Value.bool true) [] 6 []),
(53, Hint.eq true),
(56, Hint.call [] (Value.bool true) [] 6 [])] 0 [] []) [] = some ⟨.ret (.bool true), [], 6,
    [CJ Tryd.prog B 14 #[] [] 6 (Value.bool true) [] 6 [],
(eqq l0 l0 && (eqq l1 l1 && (eqq l2 l2 && (eqq l3 l3 && (eqq l4 l4 && (eqq l5 l5 && true)))))) = true,
CJ Tryd.prog B 26 #[Value.slice (some { block := 2, off := 0 }) n 0, Value.slice (some { block := 4, off := 0 }) n 0]
  [(2, some (Obj.cells A 53 (1, 1))), (4, some (Obj.cells A 53 (1, 1)))] 6 (Value.bool true) [] 6 [],
CJ Tryd.prog B 25
  #[Value.agg
      #[Value.int IntKind.i64 (Isl.cap i), Value.int IntKind.i64 (Isl.sl i), Value.int IntKind.i64 (Isl.sh i),
        Value.int IntKind.i64 (Isl.roof i), Value.int IntKind.i64 (Isl.sand i), Value.int IntKind.i64 (Isl.kl i),
        Value.int IntKind.i64 (Isl.kh i), Value.int IntKind.i64 (Isl.ll i), Value.int IntKind.i64 (Isl.lh i),
        Value.int IntKind.i64 (Isl.pump i), Value.int IntKind.i64 (Isl.keep i), Value.int IntKind.i64 (Isl.size i), W,
        M, Value.int IntKind.i64 (Isl.most i), Value.int IntKind.i64 (Isl.row i)],
    Value.int IntKind.i64 tanks,
    Value.agg
      #[Value.int IntKind.i64 (Tru.start t), Value.int IntKind.i64 (Tru.soak t), Value.int IntKind.i64 (Tru.leak t), D,
        R, N]]
  [] 4 (Value.tuple #[Value.slice (some { block := 4, off := 0 }) n 0, ledV l0 l1 l2 l3 l4 l5])
  [(4, Obj.cells A 53 (1, 1))] 5 [],
CJ Tryd.prog B 24
  #[Value.agg
      #[Value.int IntKind.i64 (Isl.cap i), Value.int IntKind.i64 (Isl.sl i), Value.int IntKind.i64 (Isl.sh i),
        Value.int IntKind.i64 (Isl.roof i), Value.int IntKind.i64 (Isl.sand i), Value.int IntKind.i64 (Isl.kl i),
        Value.int IntKind.i64 (Isl.kh i), Value.int IntKind.i64 (Isl.ll i), Value.int IntKind.i64 (Isl.lh i),
        Value.int IntKind.i64 (Isl.pump i), Value.int IntKind.i64 (Isl.keep i), Value.int IntKind.i64 (Isl.size i), W,
        M, Value.int IntKind.i64 (Isl.most i), Value.int IntKind.i64 (Isl.row i)],
    Value.agg
      #[Value.int IntKind.i64 (Tru.start t), Value.int IntKind.i64 (Tru.soak t), Value.int IntKind.i64 (Tru.leak t), D,
        R, N]]
  [] 4 (Value.bool true) [] 4 [],
CJ Tryd.prog B 18
  #[Value.agg
      #[Value.int IntKind.i64 (Isl.cap i), Value.int IntKind.i64 (Isl.sl i), Value.int IntKind.i64 (Isl.sh i),
        Value.int IntKind.i64 (Isl.roof i), Value.int IntKind.i64 (Isl.sand i), Value.int IntKind.i64 (Isl.kl i),
        Value.int IntKind.i64 (Isl.kh i), Value.int IntKind.i64 (Isl.ll i), Value.int IntKind.i64 (Isl.lh i),
        Value.int IntKind.i64 (Isl.pump i), Value.int IntKind.i64 (Isl.keep i), Value.int IntKind.i64 (Isl.size i), W,
        M, Value.int IntKind.i64 (Isl.most i), Value.int IntKind.i64 (Isl.row i)],
    Value.int IntKind.i64 tanks]
  [] 4 (Value.bool true) [] 4 [],
CJ Tryd.prog B 23
  #[Value.agg
      #[Value.int IntKind.i64 (Isl.cap i), Value.int IntKind.i64 (Isl.sl i), Value.int IntKind.i64 (Isl.sh i),
        Value.int IntKind.i64 (Isl.roof i), Value.int IntKind.i64 (Isl.sand i), Value.int IntKind.i64 (Isl.kl i),
        Value.int IntKind.i64 (Isl.kh i), Value.int IntKind.i64 (Isl.ll i), Value.int IntKind.i64 (Isl.lh i),
        Value.int IntKind.i64 (Isl.pump i), Value.int IntKind.i64 (Isl.keep i), Value.int IntKind.i64 (Isl.size i), W,
        M, Value.int IntKind.i64 (Isl.most i), Value.int IntKind.i64 (Isl.row i)],
    Value.int IntKind.i64 tanks,
    Value.agg
      #[Value.int IntKind.i64 (Tru.start t), Value.int IntKind.i64 (Tru.soak t), Value.int IntKind.i64 (Tru.leak t), D,
        R, N]]
  [] 2 (Value.tuple #[Value.slice (some { block := 2, off := 0 }) n 0, ledV l0 l1 l2 l3 l4 l5, Value.int IntKind.i64 0])
  [(2, Obj.cells A 53 (1, 1))] 3 [],
CJ Tryd.prog B 22
  #[Value.agg
      #[Value.int IntKind.i64 (Tru.start t), Value.int IntKind.i64 (Tru.soak t), Value.int IntKind.i64 (Tru.leak t), D,
        R, N]]
  [] 2 (Value.bool true) [] 2 [],
CJ Tryd.prog B 21
  #[Value.agg
      #[Value.int IntKind.i64 (Isl.cap i), Value.int IntKind.i64 (Isl.sl i), Value.int IntKind.i64 (Isl.sh i),
        Value.int IntKind.i64 (Isl.roof i), Value.int IntKind.i64 (Isl.sand i), Value.int IntKind.i64 (Isl.kl i),
        Value.int IntKind.i64 (Isl.kh i), Value.int IntKind.i64 (Isl.ll i), Value.int IntKind.i64 (Isl.lh i),
        Value.int IntKind.i64 (Isl.pump i), Value.int IntKind.i64 (Isl.keep i), Value.int IntKind.i64 (Isl.size i), W,
        M, Value.int IntKind.i64 (Isl.most i), Value.int IntKind.i64 (Isl.row i)]]
  [] 2 (Value.bool true) [] 2 []]⟩ := by kernel_rfl
theorem law_ret {B : Lo} {f : FuncId} {len : Nat} {w : World} {i : Isl} {wa : Option Addr} {wc : Nat} {ma : Option Addr} {mc : Nat} {tanks : Int} {t : Tru} {da : Option Addr} {dc : Nat} {ra : Option Addr} {rc : Nat} {na : Option Addr} {nc : Nat} {fuel n' : Nat} {sc : Script} {L : List Prop}
    (hc : enterC Tryd.prog f #[islR i wa wc ma mc, .int .i64 tanks, truR t da dc ra rc na nc] = some (entryC Tryd.prog f len [islR i wa wc ma mc, .int .i64 tanks, truR t da dc ra rc na nc]))
    (e : ended (srun Tryd.prog goFns B fuel 0 (entryC Tryd.prog f len [islR i wa wc ma mc, .int .i64 tanks, truR t da dc ra rc na nc]) [] 0 sc 0 [] []) [] = some ⟨.ret (.bool true), [], n', L⟩) (hL : AllP L) (hB : B.has w) :
    Calls Tryd.prog f #[islV i wa wc ma mc, .int .i64 tanks, truV t da dc ra rc na nc] w fun e' w' => e' = .returned (.bool true) ∧ Below w.heap.size w w' :=
  ((GoE.refl under_nil).calls goFns_ok mixed_ok hc e hL hB (VRl.vrs' ex_it.vrl)).mono fun _ _ ⟨v', _, he, hv, hb, _⟩ => ⟨by rw [he, af_eq (v := .bool true) rfl hv], hb⟩
theorem plays_walk : Walk3 4 := by
  intro i wa wc ma mc tanks t da dc ra rc na nc w hi ht hp
  have hB := worldLo_has w
  cases hs : shortB i with
  | false => exact law_ret (by kernel_rfl) (lplays_short (worldLo w) i t tanks _ _ _ _ _) ⟨con_known hp, hs ▸ con_short, trivial⟩ hB
  | true =>
    cases hz : sizedB t with
    | false => exact law_ret (by kernel_rfl) (lplays_sized (worldLo w) i t tanks _ _ _ _ _) ⟨con_known hp, hz ▸ con_sized, hs ▸ con_short, trivial⟩ hB
    | true =>
      cases ha : (islB i && tanksB tanks) with
      | false => exact law_ret (by kernel_rfl) (lplays_asked (worldLo w) i t tanks _ _ _ _ _) ⟨con_known hp, ha ▸ con_asked hi, con_playNo hi ht (by rw [ha]; rfl), hz ▸ con_sized, hs ▸ con_short, trivial⟩ hB
      | true =>
        have hmr : 0 ≤ i.most ∧ 0 ≤ i.row ∧ 1 ≤ i.nm := by
          have := ha
          simp only [islB, monthsB, Bool.and_eq_true, isInB_iff] at this
          exact ⟨this.1.1.2.1, this.1.2.1, by omega⟩
        cases htr : truB i t with
        | false => exact law_ret (by kernel_rfl) (lplays_truth (worldLo w) i t tanks _ _ _ _ _) ⟨con_known hp, htr ▸ con_truth hi ht hmr.1 hmr.2.1, ha ▸ con_asked hi, con_playNo hi ht (by rw [ha, htr]; rfl), hz ▸ con_sized, hs ▸ con_short, trivial⟩ hB
        | true =>
          have ha' := ha
          simp only [Bool.and_eq_true] at ha'
          exact law_ret (by kernel_rfl) (lplays_fine (worldLo w) i t tanks _ _ _ _ _ _ _ _ _ _ _ i.nm (rowA (seenE i tanks t) i.nm))
            ⟨con_known hp, by simp [eqq_eq], con_sameSeen hi.nm (by omega) (by omega), con_run ht (fit_of ha'.1 ha'.2 htr) hmr.2.2, htr ▸ con_truth hi ht hmr.1 hmr.2.1, ha ▸ con_asked hi, con_play hi ht ha'.1 ha'.2 htr, hz ▸ con_sized, hs ▸ con_short, trivial⟩ hB
end Go.Proofs.YtfaboddhhepdiaaDoor

