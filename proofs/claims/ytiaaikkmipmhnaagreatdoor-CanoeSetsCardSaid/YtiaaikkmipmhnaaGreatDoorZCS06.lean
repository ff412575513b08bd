/- CE: the canonical machine a third time: by recursors alone where much time goes. -/
import Derived.Test.YtiaaikkmipmhnaaGreatDoorZCS05
set_option linter.all false
namespace Go.CE
open Go Go.RowKit

noncomputable def triGet (t : Tri) : Nat → Value := Tri.rec (fun _ => undef) (fun _ v _ gl gr k => Nat.rec v (fun j _ => Bool.rec (gr (Nat.div j 2)) (gl (Nat.div j 2)) (Nat.beq (Nat.mod j 2) 0)) k) t
theorem triGet_eq : ∀ (t : Tri) (k : Nat), triGet t k = t.get k
  | .lf, k => by cases k <;> rfl
  | .nd l v r, 0 => rfl
  | .nd l v r, k + 1 => by
    show (Bool.rec (triGet r (k / 2)) (triGet l (k / 2)) (Nat.beq (k % 2) 0) : Value) = bif Nat.beq (k % 2) 0 then l.get (k / 2) else r.get (k / 2)
    rw [triGet_eq l, triGet_eq r]
    cases Nat.beq (k % 2) 0 <;> rfl
noncomputable def triSet (f : Nat) : Tri → Nat → Value → Tri := Nat.rec (fun t _ _ => t) (fun _ ih t i x => Tri.rec
  (Nat.rec (.nd .lf x .lf) (fun j _ => Bool.rec (.nd .lf undef (ih .lf (Nat.div j 2) x)) (.nd (ih .lf (Nat.div j 2) x) undef .lf) (Nat.beq (Nat.mod j 2) 0)) i)
  (fun l v r _ _ => Nat.rec (.nd l x r) (fun j _ => Bool.rec (.nd l v (ih r (Nat.div j 2) x)) (.nd (ih l (Nat.div j 2) x) v r) (Nat.beq (Nat.mod j 2) 0)) i) t) f
theorem triSet_eq : ∀ (f : Nat) (t : Tri) (i : Nat) (x : Value), triSet f t i x = Tri.set f t i x
  | 0, _, _, _ => rfl
  | f + 1, .lf, 0, x => rfl
  | f + 1, .nd l v r, 0, x => rfl
  | f + 1, .lf, k + 1, x => by
    show (Bool.rec (Tri.nd .lf undef (triSet f .lf (k / 2) x)) (Tri.nd (triSet f .lf (k / 2) x) undef .lf) (Nat.beq (k % 2) 0) : Tri) = bif Nat.beq (k % 2) 0 then .nd (Tri.set f .lf (k / 2) x) undef .lf else .nd .lf undef (Tri.set f .lf (k / 2) x)
    rw [triSet_eq f]
    cases Nat.beq (k % 2) 0 <;> rfl
  | f + 1, .nd l v r, k + 1, x => by
    show (Bool.rec (Tri.nd l v (triSet f r (k / 2) x)) (Tri.nd (triSet f l (k / 2) x) v r) (Nat.beq (k % 2) 0) : Tri) = bif Nat.beq (k % 2) 0 then .nd (Tri.set f l (k / 2) x) v r else .nd l v (Tri.set f r (k / 2) x)
    rw [triSet_eq f, triSet_eq f]
    cases Nat.beq (k % 2) 0 <;> rfl
noncomputable def evF (tr : Tri) (x : Operand) : Option Value := Operand.rec (fun t => some (triGet tr t)) (fun v => Bool.rec none (some v) (af v)) (fun _ => none) (fun f => some (.func (.func f) #[] #[])) x
theorem evF_eq (len : Nat) (tr : Tri) : evF tr = evC ⟨len, tr⟩ := by
  funext x
  cases x with
  | tmp t => show some (triGet tr t) = some (tr.get t); rw [triGet_eq]
  | const v => show (Bool.rec none (some v) (af v) : Option Value) = bif af v then some v else none; cases af v <;> rfl
  | global g => rfl
  | func f => rfl
noncomputable def putF (tr : Tri) (d : Option Tmp) (v : Value) : Tri := Option.rec tr (fun d => triSet 14 tr d v) d
theorem putF_eq (len : Nat) (tr : Tri) (d : Option Tmp) (v : Value) : (⟨len, putF tr d v⟩ : Tm) = tput ⟨len, tr⟩ d v := by
  cases d with
  | none => rfl
  | some d => show (⟨len, triSet 14 tr d v⟩ : Tm) = ⟨len, tr.set 14 d v⟩; rw [triSet_eq]
noncomputable def nthR {α : Type} (l : List α) : Nat → Option α := List.rec (fun _ => none) (fun x _ ih k => Nat.rec (some x) (fun j _ => ih j) k) l
theorem nthR_eq {α : Type} : ∀ (l : List α) (k : Nat), nthR l k = l[k]?
  | [], k => by cases k <;> rfl
  | x :: l, 0 => rfl
  | x :: l, k + 1 => by show nthR l k = _; rw [nthR_eq l k]; rfl
noncomputable def cPartF (P : Program) (t : TypeId) (cs : Array Value) (off : Nat) : Option Value :=
  Option.rec none (fun g => Bool.rec (nthR cs.toList off) (Option.rec none (fun s => Bool.rec none (some (.agg (cs.extract off (off + s)))) (Nat.ble (off + s) cs.size)) (szOf P t)) g) (aggT P t)
theorem cPartF_eq (P : Program) (t : TypeId) (cs : Array Value) (off : Nat) : cPartF P t cs off = cPart P t cs off := by
  unfold cPartF cPart
  cases aggT P t with
  | none => rfl
  | some g =>
    cases g with
    | false => show nthR cs.toList off = _; rw [nthR_eq, Array.getElem?_toList]
    | true =>
      cases szOf P t with
      | none => rfl
      | some s => simp only; cases Nat.ble (off + s) cs.size <;> rfl
noncomputable def cLoadF (P : Program) (t : TypeId) (H : Heap) (p : Value) : Option (Value × Nat) := match p with
  | .pointer (some ⟨b, off, none⟩) => match hget H b with
    | some (.cells cs _ _) => match cPartF P t cs off with
      | some v => some (v, b)
      | none => none
    | _ => none
  | _ => none
theorem cLoadF_eq (P : Program) (t : TypeId) (H : Heap) (p : Value) : cLoadF P t H p = cLoad P t H p := by
  unfold cLoadF cLoad
  simp only [cPartF_eq]
  rfl
noncomputable def allF (p : Value → Bool) (l : List Value) : Bool := List.rec true (fun x _ ih => Bool.rec false ih (p x)) l
theorem allF_eq (p : Value → Bool) : ∀ (l : List Value), allF p l = l.all p
  | [] => rfl
  | x :: l => by
    show (Bool.rec false (allF p l) (p x) : Bool) = _
    rw [allF_eq p l, List.all_cons]
    cases p x <;> rfl
noncomputable def onesF (cs : Array Value) : Bool := allF (·.oneCell') cs.toList
theorem onesF_eq (cs : Array Value) : onesF cs = ones cs := by
  unfold onesF ones
  rw [allF_eq, Array.all_toList]
noncomputable def saF (v : Value) : Bool := match v with
  | .agg xs => allF simple xs.toList
  | v => simple v
theorem saF_eq (v : Value) : saF v = sa v := by
  cases v <;> first | rfl | (show allF simple _ = _; rw [allF_eq, Array.all_toList]; rfl)
noncomputable def afF (v : Value) : Bool := match v with
  | .agg xs => allF simple xs.toList
  | .tuple xs => allF saF xs.toList
  | .iface _ v => saF v
  | v => simple v
theorem afF_eq (v : Value) : afF v = af v := by
  cases v with
  | iface t v => exact saF_eq v
  | tuple xs => show allF saF _ = _; rw [show saF = sa from funext saF_eq, allF_eq, Array.all_toList]; rfl
  | _ => first | rfl | (show allF simple _ = _; rw [allF_eq, Array.all_toList]; rfl)
noncomputable def cStoreF (P : Program) (t : TypeId) (H : Heap) (v p : Value) : Option (Heap × Nat) := match p with
  | .pointer (some ⟨b, off, none⟩) => match hget H b with
    | some (.cells cs te (0, 0)) => match szOf P t with
      | some s => bif Nat.beq v.cells.size s && onesF v.cells && Nat.ble (off + s) cs.size then some (hset H b (.cells (splice cs off v.cells) te (0, 0)), b) else none
      | none => none
    | _ => none
  | _ => none
theorem cStoreF_eq (P : Program) (t : TypeId) (H : Heap) (v p : Value) : cStoreF P t H v p = cStore P t H v p := by
  unfold cStoreF cStore
  simp only [onesF_eq]
  rfl
noncomputable def cFieldF (P : Program) (t : TypeId) (f : Nat) (x : Value) : Option Value := match x with
  | .agg cs => match und P t with
    | some (.struct fields) => match fields[f]? with
      | some fd => cPartF P fd.type cs fd.offset
      | none => none
    | _ => none
  | _ => none
theorem cFieldF_eq (P : Program) (t : TypeId) (f : Nat) (x : Value) : cFieldF P t f x = cField P t f x := by
  unfold cFieldF cField
  simp only [cPartF_eq]
  rfl
noncomputable def yieldF (ops : Array Oper) (tr : Tri) (j : Nat) : Option Bool := match nth ops.toList j with
  | some o => match o.dst with
    | some t => boolOf (triGet tr t)
    | none => none
  | none => none
theorem yieldF_eq (len : Nat) (ops : Array Oper) (tr : Tri) (j : Nat) : yieldF ops tr j = yieldedC ops ⟨len, tr⟩ j := by
  unfold yieldF yieldedC
  simp only [triGet_eq, tget]
  rfl
noncomputable def wantF (ops : Array Oper) (tr : Tri) (g : Option (Nat × Bool)) : Bool := Option.rec true (fun jw => Prod.rec (fun j w => Option.rec false (fun b => Bool.rec (Bool.rec true false w) (Bool.rec false true w) b) (yieldF ops tr j)) jw) g
theorem wantF_eq (len : Nat) (ops : Array Oper) (tr : Tri) (o : Oper) : wantF ops tr o.guard = Region.wanted o (yieldedC ops ⟨len, tr⟩) := by
  unfold wantF Region.wanted
  cases o.guard with
  | none => rfl
  | some jw =>
    obtain ⟨j, w⟩ := jw
    simp only [yieldF_eq len]
    cases yieldedC ops ⟨len, tr⟩ j with
    | none => rfl
    | some b => cases b <;> cases w <;> rfl
abbrev Ans := Option (List Rec × RF)
abbrev KV := Value → Heap → Nat → List Nat → List Nat → Ans
abbrev Arm := Program → (FuncId → Bool) → Orc → (CF → Heap → Nat → Option Rs) → Nat → Tri → Oper → Heap → Nat → KV → KV → Ans
def fin (k kp : KV) (s : Option Rs) : Ans := match s with
  | some ⟨out, H, n, R, W⟩ => match out with
    | .ret v => k v H n R W
    | .pan v => kp v H n R W
  | none => none
noncomputable def pv (k : KV) (H : Heap) (n : Nat) (x : Option Value) : Ans := Option.rec none (fun v => k v H n [] []) x
theorem fin_qV (k kp : KV) (H : Heap) (n : Nat) (x : Option Value) : fin k kp (qV x H n) = pv k H n x := by cases x <;> rfl
noncomputable def aMove (x : Operand) : Arm := fun _ _ _ _ _ tr _ H n k _ => pv k H n (evF tr x)
noncomputable def aPick (c a b : Operand) : Arm := fun _ _ _ _ _ tr _ H n k _ => Option.rec none (fun v => Option.rec none (fun t => Bool.rec (pv k H n (evF tr b)) (pv k H n (evF tr a)) t) (boolOf v)) (evF tr c)
noncomputable def aLoad (t : TypeId) (a : Operand) : Arm := fun P _ _ _ _ tr _ H n k _ => Option.rec none (fun p => Option.rec none (fun vb => Prod.rec (fun v b => Bool.rec none (k v H n [b] []) (Nat.blt b n)) vb) (cLoadF P t H p)) (evF tr a)
noncomputable def aStore (t : TypeId) (a x : Operand) : Arm := fun P _ _ _ _ tr _ H n k _ => Option.rec none (fun p => Option.rec none (fun v => Option.rec none (fun hb => Prod.rec (fun H' b => Bool.rec none (k undef H' n [b] [b]) (Nat.blt b n)) hb) (cStoreF P t H v p)) (evF tr x)) (evF tr a)
noncomputable def aFieldAddr (s : TypeId) (x : Operand) (f : Nat) : Arm := fun P _ _ _ _ tr _ H n k _ => Option.rec none (fun p => pv k H n (cFieldAddr P s f p)) (evF tr x)
noncomputable def aField (s : TypeId) (x : Operand) (f : Nat) : Arm := fun P _ _ _ _ tr _ H n k _ => Option.rec none (fun p => pv k H n (cFieldF P s f p)) (evF tr x)
noncomputable def aIndexAddr (t : TypeId) (x i : Operand) : Arm := fun P _ _ _ _ tr _ H n k _ => Option.rec none (fun p => Option.rec none (fun j => pv k H n (cIndexAddr P t p j)) (evF tr i)) (evF tr x)
noncomputable def aExtract (x : Operand) (i : Nat) : Arm := fun _ _ _ _ _ tr _ H n k _ => Option.rec none (fun p => pv k H n (cExtract i p)) (evF tr x)
noncomputable def aBin (op : BinOp) (_ : TypeId) (x y : Operand) (_ : TypeId) : Arm := fun P _ _ _ _ tr o H n k _ => Option.rec none (fun a => Option.rec none (fun b => Option.rec (pv k H n (cPure P (evF tr) o)) (fun v => k v H n [] []) (cBin op a b)) (evF tr y)) (evF tr x)
noncomputable def dropF (v : Value) (r : CR) (k : KV) (H' : Heap) (n' : Nat) (R W : List Nat) : Ans := List.rec (Bool.rec (k v H' n' (r.R ++ R) (r.W ++ [])) (k v r.H n' (r.R ++ R) (r.W ++ [])) (afF v)) (fun _ _ _ => k v H' n' (r.R ++ R) (r.W ++ W)) W
noncomputable def backF (r : CR) (k kp : KV) (s : Option Rs) : Ans := Option.rec none (fun s => Rs.rec (fun out H' n' R W => OO.rec (fun v => dropF v r k H' n' R W) (fun v => kp v H' n' (r.R ++ R) (r.W ++ W)) out) s) s
theorem backF_eq (r : CR) (k kp : KV) (s : Option Rs) : backF r k kp s = fin k kp (match s with | some s => qDrop r s | none => none) := by
  cases s with
  | none => rfl
  | some s =>
    obtain ⟨out, H', n', R, W⟩ := s
    cases out with
    | pan v =>
      cases W with
      | nil => rfl
      | cons a b => rfl
    | ret v =>
      show dropF v r k H' n' R W = _
      unfold dropF
      cases W with
      | nil =>
        rw [afF_eq]
        simp only [qDrop, dropNew]
        cases af v <;> rfl
      | cons a b => rfl
noncomputable def enterF (P : Program) (orc : Orc) (rec : CF → Heap → Nat → Option Rs) (g : FuncId) (args : Array Value) (r : CR) (k kp : KV) : Ans := Option.rec (Option.rec none (fun c => backF r k kp (rec c r.H r.n)) (enterC P g args)) (fun _ => fin k kp (qEnter P orc rec g args r)) (orc g args r.H r.n)
theorem enterF_eq (P : Program) (orc : Orc) (rec : CF → Heap → Nat → Option Rs) (g : FuncId) (args : Array Value) (r : CR) (k kp : KV) : enterF P orc rec g args r k kp = fin k kp (qEnter P orc rec g args r) := by
  unfold enterF
  cases ho : orc g args r.H r.n with
  | some x => rfl
  | none =>
    unfold qEnter
    rw [ho]
    show (Option.rec none (fun c => backF r k kp (rec c r.H r.n)) (enterC P g args) : Ans) = fin k kp (qRec P rec g args r)
    unfold qRec
    cases enterC P g args with
    | none => rfl
    | some c =>
      show backF r k kp (rec c r.H r.n) = _
      rw [backF_eq]
      rfl
noncomputable def callF (P : Program) (orc : Orc) (rec : CF → Heap → Nat → Option Rs) (n : Nat) (x : Option CR) (k kp : KV) : Ans := Option.rec none (fun r => CN.rec (fun _ => fin k kp (qR P orc rec n (some r))) (fun g args => Bool.rec none (enterF P orc rec g args r k kp) (r.R.all (fun i => Nat.blt i n))) (fun _ _ _ _ _ => fin k kp (qR P orc rec n (some r))) r.nx) x
theorem callF_eq (P : Program) (orc : Orc) (rec : CF → Heap → Nat → Option Rs) (n : Nat) (x : Option CR) (k kp : KV) : callF P orc rec n x k kp = fin k kp (qR P orc rec n x) := by
  cases x with
  | none => rfl
  | some r =>
    obtain ⟨nx, H', n', R, W⟩ := r
    cases nx with
    | val v => rfl
    | round l fn tm a b => rfl
    | enter g args =>
      show (Bool.rec none (enterF P orc rec g args ⟨.enter g args, H', n', R, W⟩ k kp) (R.all (fun i => Nat.blt i n)) : Ans) = _
      rw [enterF_eq]
      simp only [qR]
      cases R.all (fun i => Nat.blt i n) <;> rfl
noncomputable def aCall (c : Call) : Arm := fun P F orc rec _ tr o H n k kp => callF P orc rec n (qCallee P F (evF tr) o c H n) k kp
def aGen : Arm := fun P F orc rec len tr o H n k kp => fin k kp (opQ P F orc rec ⟨len, tr⟩ o H n)
noncomputable def opF (op : Op) : Arm := Op.rec aMove aMove aPick (fun _ => aGen) (fun _ _ => aGen) (fun _ _ => aGen) (fun _ _ _ => aGen) (fun _ _ _ _ => aGen) aLoad aStore (fun _ => aGen) (fun _ => aGen) (fun _ => aGen) aBin (fun _ _ _ => aGen) (fun _ _ _ => aGen) (fun _ _ => aGen) (fun _ _ => aGen)
  (fun _ _ _ => aGen) (fun _ _ => aGen) (fun _ _ => aGen) (fun _ _ _ => aGen) (fun _ _ _ _ _ => aGen) aFieldAddr aField aIndexAddr (fun _ _ _ => aGen) (fun _ _ _ _ => aGen) (fun _ _ _ _ => aGen) (fun _ _ _ => aGen) (fun _ _ _ _ => aGen) (fun _ _ => aGen) (fun _ _ => aGen) (fun _ => aGen) (fun _ _ _ _ => aGen)
  aExtract aCall (fun _ => aGen) (fun _ => aGen) (fun _ => aGen) (fun _ _ => aGen) (fun _ _ _ => aGen) (fun _ _ => aGen) op
theorem opF_eq (P : Program) (F : FuncId → Bool) (orc : Orc) (rec : CF → Heap → Nat → Option Rs) (len : Nat) (tr : Tri) (o : Oper) (H : Heap) (n : Nat) (k kp : KV) : opF o.op P F orc rec len tr o H n k kp = fin k kp (opQ P F orc rec ⟨len, tr⟩ o H n) := by
  have e := evF_eq len tr
  cases hp : o.op with
  | move x => show pv k H n (evF tr x) = _; rw [e]; unfold opQ; simp only [hp]; exact (fin_qV k kp H n _).symm
  | assign x => show pv k H n (evF tr x) = _; rw [e]; unfold opQ; simp only [hp]; exact (fin_qV k kp H n _).symm
  | pick c a b =>
    show (Option.rec none (fun v => Option.rec none (fun t => Bool.rec (pv k H n (evF tr b)) (pv k H n (evF tr a)) t) (boolOf v)) (evF tr c) : Ans) = _
    rw [e]; unfold opQ; simp only [hp]
    cases evC ⟨len, tr⟩ c with
    | none => rfl
    | some v =>
      cases v with
      | bool t => cases t <;> exact (fin_qV k kp H n _).symm
      | _ => rfl
  | load t a =>
    show (Option.rec none (fun p => Option.rec none (fun vb => Prod.rec (fun v b => Bool.rec none (k v H n [b] []) (Nat.blt b n)) vb) (cLoadF P t H p)) (evF tr a) : Ans) = _
    simp only [cLoadF_eq]; rw [e]; unfold opQ; simp only [hp]
    cases evC ⟨len, tr⟩ a with
    | none => rfl
    | some p =>
      simp only [qLoad]
      cases cLoad P t H p with
      | none => rfl
      | some vb =>
        obtain ⟨v, b⟩ := vb
        cases hb : Nat.blt b n <;> simp [qR, fin, qNext, hb]
  | store t a x =>
    show (Option.rec none (fun p => Option.rec none (fun v => Option.rec none (fun hb => Prod.rec (fun H' b => Bool.rec none (k undef H' n [b] [b]) (Nat.blt b n)) hb) (cStoreF P t H v p)) (evF tr x)) (evF tr a) : Ans) = _
    simp only [cStoreF_eq]; rw [e]; unfold opQ; simp only [hp]
    cases evC ⟨len, tr⟩ a with
    | none => rfl
    | some p =>
      cases evC ⟨len, tr⟩ x with
      | none => rfl
      | some v =>
        simp only [qStore]
        cases cStore P t H v p with
        | none => rfl
        | some vb =>
          obtain ⟨H', b⟩ := vb
          cases hb : Nat.blt b n <;> simp [qR, fin, qNext, hb]
  | fieldAddr s x f =>
    show (Option.rec none (fun p => pv k H n (cFieldAddr P s f p)) (evF tr x) : Ans) = _
    rw [e]; unfold opQ; simp only [hp]
    cases evC ⟨len, tr⟩ x with
    | none => rfl
    | some p => simp only [qFieldAddr, qR_pure]; exact (fin_qV k kp H n _).symm
  | field s x f =>
    show (Option.rec none (fun p => pv k H n (cFieldF P s f p)) (evF tr x) : Ans) = _
    simp only [cFieldF_eq]; rw [e]; unfold opQ; simp only [hp]
    cases evC ⟨len, tr⟩ x with
    | none => rfl
    | some p => simp only [qField, qR_pure]; exact (fin_qV k kp H n _).symm
  | indexAddr t x i =>
    show (Option.rec none (fun p => Option.rec none (fun j => pv k H n (cIndexAddr P t p j)) (evF tr i)) (evF tr x) : Ans) = _
    rw [e]; unfold opQ; simp only [hp]
    cases evC ⟨len, tr⟩ x with
    | none => rfl
    | some p =>
      cases evC ⟨len, tr⟩ i with
      | none => rfl
      | some j => simp only [qIndexAddr, qR_pure]; exact (fin_qV k kp H n _).symm
  | extract x i =>
    show (Option.rec none (fun p => pv k H n (cExtract i p)) (evF tr x) : Ans) = _
    rw [e]; unfold opQ; simp only [hp]
    cases evC ⟨len, tr⟩ x with
    | none => rfl
    | some p => simp only [qExtract, qR_pure]; exact (fin_qV k kp H n _).symm
  | binOp op t x y t' =>
    show (Option.rec none (fun a => Option.rec none (fun b => Option.rec (pv k H n (cPure P (evF tr) o)) (fun v => k v H n [] []) (cBin op a b)) (evF tr y)) (evF tr x) : Ans) = _
    rw [e]; unfold opQ; simp only [hp]
    cases evC ⟨len, tr⟩ x with
    | none => rfl
    | some a =>
      cases evC ⟨len, tr⟩ y with
      | none => rfl
      | some b =>
        simp only [qBin]
        cases cBin op a b with
        | none => simp only [qR_pure]; exact (fin_qV k kp H n _).symm
        | some v => rfl
  | call c => show callF P orc rec n (qCallee P F (evF tr) o c H n) k kp = _; rw [callF_eq, e]; unfold opQ; simp only [hp]
  | _ => rfl
noncomputable def consR (r : Rec) (x : Ans) : Ans := Option.rec none (fun p => Prod.rec (fun rs f => some (r :: rs, f)) p) x
noncomputable def rrunF (P : Program) (F : FuncId → Bool) (orc : Orc) (rec : CF → Heap → Nat → Option Rs) (len : Nat) (ops : Array Oper) (l : List Oper) : Tri → Heap → Nat → Ans :=
  List.rec (fun tr H n => some ([], .ok ⟨len, tr⟩ H n)) (fun o _ ih tr H n => Bool.rec
    (consR ⟨o, false, undef, ⟨len, tr⟩, H, H, n, n, [], []⟩ (ih (putF tr o.dst undef) H n))
    (opF o.op P F orc rec len tr o H n (fun v H' n' R W => consR ⟨o, true, v, ⟨len, tr⟩, H, H', n, n', R, W⟩ (ih (putF tr o.dst v) H' n')) (fun v H' n' R W => some ([], .pan ⟨len, tr⟩ v H' n' R W)))
    (wantF ops tr o.guard)) l
def dstAll (len : Nat) (l : List Oper) : Bool := l.all fun o => dstOk ⟨len, .lf⟩ o.dst
theorem rrunF_eq (P : Program) (F : FuncId → Bool) (orc : Orc) (rec : CF → Heap → Nat → Option Rs) (len : Nat) (ops : Array Oper) : ∀ (l : List Oper) (tr : Tri) (H : Heap) (n : Nat), dstAll len l = true → rrunF P F orc rec len ops l tr H n = rrunQ P F orc rec ops l ⟨len, tr⟩ H n
  | [], _, _, _, _ => rfl
  | o :: l, tr, H, n, hd => by
    simp only [dstAll, List.all_cons, Bool.and_eq_true] at hd
    have hd1 : dstOk ⟨len, tr⟩ o.dst = true := by
      have := hd.1
      cases hq : o.dst with
      | none => rfl
      | some x => rw [hq] at this; exact this
    have ih := rrunF_eq P F orc rec len ops l
    show (Bool.rec (consR ⟨o, false, undef, ⟨len, tr⟩, H, H, n, n, [], []⟩ (rrunF P F orc rec len ops l (putF tr o.dst undef) H n))
      (opF o.op P F orc rec len tr o H n (fun v H' n' R W => consR ⟨o, true, v, ⟨len, tr⟩, H, H', n, n', R, W⟩ (rrunF P F orc rec len ops l (putF tr o.dst v) H' n')) (fun v H' n' R W => some ([], .pan ⟨len, tr⟩ v H' n' R W)))
      (wantF ops tr o.guard) : Ans) = _
    rw [wantF_eq len]
    simp only [rrunQ, hd1, cond_true]
    cases Region.wanted o (yieldedC ops ⟨len, tr⟩) with
    | false =>
      simp only [cond_false]
      rw [ih _ _ _ hd.2, putF_eq]
      cases rrunQ P F orc rec ops l (tput ⟨len, tr⟩ o.dst undef) H n <;> rfl
    | true =>
      simp only [cond_true, opF_eq]
      cases opQ P F orc rec ⟨len, tr⟩ o H n with
      | none => rfl
      | some s =>
        obtain ⟨out, H', n', R, W⟩ := s
        cases out with
        | pan v => rfl
        | ret v =>
          simp only [fin]
          rw [ih _ _ _ hd.2, putF_eq]
          cases rrunQ P F orc rec ops l (tput ⟨len, tr⟩ o.dst v) H' n' <;> rfl
def statFrom (ops : Array Oper) (o : Oper) (k : Nat) : List Oper → List (List Nat) → Bool
  | x :: l, b :: bs => (b.contains k || o.apart ops x) && statFrom ops o k l bs
  | [], _ => true
  | _ :: _, [] => false
def stat (ops : Array Oper) : Nat → List Oper → List (List Nat) → Bool
  | k, o :: l, _ :: bs => statFrom ops o k l bs && stat ops (k + 1) l bs
  | _, [], _ => true
  | _, _ :: _, [] => false
noncomputable def elemF (i : Nat) (l : List Nat) : Bool := List.rec false (fun j _ ih => Bool.rec ih true (Nat.beq i j)) l
theorem elemF_eq (i : Nat) : ∀ (l : List Nat), elemF i l = l.contains i
  | [] => rfl
  | j :: l => by
    show (Bool.rec (elemF i l) true (Nat.beq i j) : Bool) = _
    rw [elemF_eq i l, List.contains_cons]
    by_cases e : i = j
    · subst e
      rw [Nat.beq_refl]
      simp
    · rw [beq_no e]
      simp [e]
noncomputable def meetsF (W R : List Nat) : Bool := List.rec false (fun i _ ih => Bool.rec ih true (elemF i R)) W
theorem meetsF_eq (R : List Nat) : ∀ (W : List Nat), meetsF W R = W.any fun i => R.contains i
  | [] => rfl
  | i :: W => by
    show (Bool.rec (meetsF W R) true (elemF i R) : Bool) = _
    rw [meetsF_eq R W, elemF_eq, List.any_cons]
    cases R.contains i <;> rfl
noncomputable def bearsF (lo hi : Nat) (R : List Nat) : Bool := List.rec false (fun i _ ih => Bool.rec ih (Bool.rec ih true (Nat.blt i hi)) (Nat.ble lo i)) R
theorem bearsF_eq (lo hi : Nat) : ∀ (R : List Nat), bearsF lo hi R = R.any fun i => Nat.ble lo i && Nat.blt i hi
  | [] => rfl
  | i :: R => by
    show (Bool.rec (bearsF lo hi R) (Bool.rec (bearsF lo hi R) true (Nat.blt i hi)) (Nat.ble lo i) : Bool) = _
    rw [bearsF_eq lo hi R, List.any_cons]
    cases Nat.ble lo i <;> cases Nat.blt i hi <;> rfl
noncomputable def clear (r x : Rec) : Bool := Bool.rec (Bool.rec (Bool.rec true false (bearsF r.n r.n' x.R)) false (meetsF x.W r.R)) false (meetsF r.W x.R)
theorem clear_tied {ops : Array Oper} {r x : Rec} (h : clear r x = true) (ha : r.o.apart ops x.o = true) : tied ops r x = false := by
  unfold clear at h
  rw [bearsF_eq, meetsF_eq, meetsF_eq] at h
  unfold tied meets bears
  rw [ha]
  revert h
  cases r.W.any fun i => x.R.contains i <;> cases x.W.any fun i => r.R.contains i <;> cases x.R.any fun i => Nat.ble r.n i && Nat.blt i r.n' <;> simp
noncomputable def dynFrom (r : Rec) (k : Nat) (l : List Rec) : List (List Nat) → Bool := List.rec (fun _ => true) (fun x _ ih bs => List.rec false (fun b bs' _ => Bool.rec (Bool.rec false (ih bs') (elemF k b)) (ih bs') (clear r x)) bs) l
noncomputable def dyn (l : List Rec) : Nat → List (List Nat) → Bool := List.rec (fun _ _ => true) (fun r l ih k bs => List.rec false (fun _ bs' _ => Bool.rec false (ih (k + 1) bs') (dynFrom r k l bs')) bs) l
theorem stat_from {ops : Array Oper} {r : Rec} (k : Nat) : ∀ (l : List Rec) (bs : List (List Nat)), dynFrom r k l bs = true → statFrom ops r.o k (l.map (·.o)) bs = true → indepFrom ops r k l bs = true
  | [], _, _, _ => by simp [indepFrom]
  | x :: l, [], _, h => by simp [statFrom] at h
  | x :: l, b :: bs, hd, h => by
    simp only [List.map_cons, statFrom, Bool.and_eq_true, Bool.or_eq_true] at h
    simp only [indepFrom, Bool.and_eq_true, Bool.or_eq_true, Bool.not_eq_true']
    have hd : (Bool.rec (Bool.rec false (dynFrom r k l bs) (elemF k b)) (dynFrom r k l bs) (clear r x) : Bool) = true := hd
    cases hc : clear r x with
    | true =>
      rw [hc] at hd
      exact ⟨h.1.imp id fun ha => clear_tied hc ha, stat_from k l bs hd h.2⟩
    | false =>
      rw [hc] at hd
      have hd : (Bool.rec false (dynFrom r k l bs) (elemF k b) : Bool) = true := hd
      cases he : elemF k b with
      | false => rw [he] at hd; cases hd
      | true =>
        rw [he] at hd
        rw [elemF_eq] at he
        exact ⟨.inl he, stat_from k l bs hd h.2⟩
theorem stat_indep {ops : Array Oper} : ∀ (l : List Rec) (bs : List (List Nat)) (k : Nat), dyn l k bs = true → stat ops k (l.map (·.o)) bs = true → indep ops k l bs = true
  | [], _, _, _, _ => by simp [indep]
  | x :: l, [], _, _, h => by simp [stat] at h
  | x :: l, b :: bs, k, hd, h => by
    simp only [List.map_cons, stat, Bool.and_eq_true] at h
    simp only [indep, Bool.and_eq_true]
    have hd : (Bool.rec false (dyn l (k + 1) bs) (dynFrom x k l bs) : Bool) = true := hd
    cases hc : dynFrom x k l bs with
    | false => rw [hc] at hd; cases hd
    | true =>
      rw [hc] at hd
      exact ⟨stat_from k l bs hc h.1, stat_indep l bs (k + 1) hd h.2⟩
theorem rrunQ_ops {P : Program} {F : FuncId → Bool} {orc : Orc} {rec : CF → Heap → Nat → Option Rs} {ops : Array Oper} : ∀ (l : List Oper) (T : Tm) (H : Heap) (n : Nat) (recs : List Rec) (T' : Tm) (H' : Heap) (n' : Nat), rrunQ P F orc rec ops l T H n = some (recs, .ok T' H' n') → recs.map (·.o) = l
  | [], T, H, n, recs, T', H', n', h => by
    simp only [rrunQ, Option.some.injEq, Prod.mk.injEq] at h
    rw [← h.1]; rfl
  | o :: l, T, H, n, recs, T', H', n', h => by
    simp only [rrunQ] at h
    have h := bif_some' h
    cases hw : Region.wanted o (yieldedC ops T) with
    | true =>
      rw [hw] at h
      simp only [cond_true] at h
      split at h
      · split at h
        · split at h
          · rename_i rs f hr
            simp only [Option.some.injEq, Prod.mk.injEq] at h
            obtain ⟨rfl, rfl⟩ := h
            simp [rrunQ_ops l _ _ _ _ _ _ _ hr]
          · cases h
        · simp only [Option.some.injEq, Prod.mk.injEq] at h
          cases h.2
      · cases h
    | false =>
      rw [hw] at h
      simp only [cond_false] at h
      split at h
      · rename_i rs f hr
        simp only [Option.some.injEq, Prod.mk.injEq] at h
        obtain ⟨rfl, rfl⟩ := h
        simp [rrunQ_ops l _ _ _ _ _ _ _ hr]
      · cases h
def statAll (ops : Array Oper) : Bool := edgesOk 0 ops.toList && stat ops 0 ops.toList (befs ops.toList [])
noncomputable def chk (ops : Array Oper) (recs : List Rec) (draw : Bool) : Bool := Bool.rec true (Bool.rec (edgesOk 0 ops.toList && indep ops 0 recs (befs ops.toList [])) (Bool.rec (edgesOk 0 ops.toList && indep ops 0 recs (befs ops.toList [])) true (dyn recs 0 (befs ops.toList []))) (statAll ops)) draw
theorem chk_eq {ops : Array Oper} {recs : List Rec} {draw : Bool} (h : recs.map (·.o) = ops.toList) : chk ops recs draw = (!draw || (edgesOk 0 ops.toList && indep ops 0 recs (befs ops.toList []))) := by
  unfold chk
  cases draw with
  | false => rfl
  | true =>
    simp only [Bool.not_true, Bool.false_or]
    cases hs : statAll ops with
    | false => rfl
    | true =>
      cases hc : dyn recs 0 (befs ops.toList []) with
      | false => rfl
      | true =>
        unfold statAll at hs
        simp only [Bool.and_eq_true] at hs
        rw [hs.1, stat_indep recs _ 0 hc (by rw [h]; exact hs.2)]
        rfl
noncomputable def addlF (b : Nat) (l : List Nat) : List Nat → List Nat := List.rec (fun acc => acc) (fun x _ ih acc => Bool.rec (ih acc) (Bool.rec (ih (x :: acc)) (ih acc) (elemF x acc)) (Nat.blt x b)) l
theorem addlF_eq (b : Nat) : ∀ (l acc : List Nat), addlF b l acc = addl b l acc
  | [], _ => rfl
  | x :: l, acc => by
    show (Bool.rec (addlF b l acc) (Bool.rec (addlF b l (x :: acc)) (addlF b l acc) (elemF x acc)) (Nat.blt x b) : List Nat) = _
    rw [addlF_eq b l, addlF_eq b l, elemF_eq, addl]
    cases Nat.blt x b <;> cases acc.contains x <;> rfl
theorem addl_app (b : Nat) : ∀ (l m acc : List Nat), addl b (l ++ m) acc = addl b m (addl b l acc)
  | [], _, _ => rfl
  | x :: l, m, acc => by simp only [List.cons_append, addl]; exact addl_app b l m _
noncomputable def addR (b : Nat) (recs : List Rec) : List Nat → List Nat := List.rec (fun acc => acc) (fun r _ ih acc => ih (addlF b r.R acc)) recs
theorem addR_eq (b : Nat) : ∀ (recs : List Rec) (acc : List Nat), addR b recs acc = addl b (allR recs) acc
  | [], _ => rfl
  | r :: l, acc => by
    show addR b l (addlF b r.R acc) = _
    rw [addR_eq b l, addlF_eq, show allR (r :: l) = r.R ++ allR l from List.flatMap_cons, addl_app]
noncomputable def addW (b : Nat) (recs : List Rec) : List Nat → List Nat := List.rec (fun acc => acc) (fun r _ ih acc => ih (addlF b r.W acc)) recs
theorem addW_eq (b : Nat) : ∀ (recs : List Rec) (acc : List Nat), addW b recs acc = addl b (allW recs) acc
  | [], _ => rfl
  | r :: l, acc => by
    show addW b l (addlF b r.W acc) = _
    rw [addW_eq b l, addlF_eq, show allW (r :: l) = r.W ++ allW l from List.flatMap_cons, addl_app]
noncomputable def rrunG (P : Program) (F : FuncId → Bool) (orc : Orc) (rec : CF → Heap → Nat → Option Rs) (len : Nat) (tr : Tri) (ops : Array Oper) (H : Heap) (n : Nat) : Ans :=
  Bool.rec (rrunQ P F orc rec ops ops.toList ⟨len, tr⟩ H n) (rrunF P F orc rec len ops ops.toList tr H n) (dstAll len ops.toList)
theorem rrunG_eq (P : Program) (F : FuncId → Bool) (orc : Orc) (rec : CF → Heap → Nat → Option Rs) (len : Nat) (tr : Tri) (ops : Array Oper) (H : Heap) (n : Nat) : rrunG P F orc rec len tr ops H n = rrunQ P F orc rec ops ops.toList ⟨len, tr⟩ H n := by
  unfold rrunG
  cases hd : dstAll len ops.toList with
  | false => rfl
  | true => exact rrunF_eq P F orc rec len ops _ _ _ _ hd
abbrev Run := Nat → FuncId → Nat → Tri → List Item → List Nat → Option Nat → Heap → Nat → List Nat → List Nat → Option Rs
noncomputable def recF (P : Program) (F : FuncId → Bool) (orc : Orc) (fuel : Nat) (ih : Run) (c1 : CF) (H1 : Heap) (n1 : Nat) : Option Rs :=
  CF.rec (fun fn T todo ds mode ro => CM.rec (Tm.rec (fun len tr => ih n1 fn len tr todo ds ro H1 n1 [] []) T) (frunQ P F orc fuel n1 ⟨fn, T, todo, ds, .ret, ro⟩ H1 n1 [] []) (fun v => frunQ P F orc fuel n1 ⟨fn, T, todo, ds, .pan v, ro⟩ H1 n1 [] []) mode) c1
noncomputable def goF (P : Program) (F : FuncId → Bool) (orc : Orc) (fuel : Nat) (ih : Run) (b : Nat) (c1 : CF) (H1 : Heap) (n1 : Nat) (R W : List Nat) : Option Rs :=
  CF.rec (fun fn T todo ds mode ro => CM.rec (Tm.rec (fun len tr => ih b fn len tr todo ds ro H1 n1 R W) T) (frunQ P F orc fuel b ⟨fn, T, todo, ds, .ret, ro⟩ H1 n1 R W) (fun v => frunQ P F orc fuel b ⟨fn, T, todo, ds, .pan v, ro⟩ H1 n1 R W) mode) c1
noncomputable def resume (P : Program) (F : FuncId → Bool) (orc : Orc) (fuel : Nat) (ih : Run) (b : Nat) (R W : List Nat) (x : Option FS) : Option Rs :=
  Option.rec none (fun fs => FS.rec (fun c' H' n' R' W' => goF P F orc fuel ih b c' H' n' (addl b R' R) (addl b W' W)) (fun out H' n' R' W' => some ⟨out, H', n', addl b R' R, addl b W' W⟩) fs) x
abbrev ItA := Program → (FuncId → Bool) → Orc → Nat → Run → Nat → FuncId → Nat → Tri → List Item → List Nat → Option Nat → Heap → Nat → List Nat → List Nat → Option Rs
noncomputable def iSlow (it : Item) : ItA := fun P F orc fuel ih b fn len tr k ds ro H n R W => resume P F orc fuel ih b R W (fstepQ P F orc (recF P F orc fuel ih) ⟨fn, ⟨len, tr⟩, it :: k, ds, .run, ro⟩ H n)
def iSkip : ItA := fun _ _ _ _ ih b fn len tr k ds ro H n R W => ih b fn len tr k ds ro H n R W
def iSeq (x y : Code) : ItA := fun _ _ _ _ ih b fn len tr k ds ro H n R W => ih b fn len tr (.code x :: .code y :: k) ds ro H n R W
noncomputable def iCond (q : Operand) (x y : Code) : ItA := fun _ _ _ _ ih b fn len tr k ds ro H n R W => Option.rec none (fun v => Option.rec none (fun t => Bool.rec (ih b fn len tr (.code y :: k) ds ro H n R W) (ih b fn len tr (.code x :: k) ds ro H n R W) t) (boolOf v)) (evF tr q)
def iBlock (id : Nat) (x : Code) : ItA := fun _ _ _ _ ih b fn len tr k ds ro H n R W => ih b fn len tr (.code x :: .inBlock id :: k) ds ro H n R W
def iLoop (x : Code) : ItA := fun _ _ _ _ ih b fn len tr k ds ro H n R W => ih b fn len tr (.code x :: .inLoop x :: k) ds ro H n R W
def iScope (x : Code) : ItA := fun _ _ _ _ ih b fn len tr k ds ro H n R W => ih b fn len tr (.code x :: .inScope x :: k) ds ro H n R W
noncomputable def iRegion (id : Nat) (ops : Array Oper) (draw : Bool) : ItA := fun P F orc fuel ih b fn len tr k ds ro H n R W =>
  Option.rec none (fun p => Prod.rec (fun recs f => RF.rec (fun T' H' n' => Bool.rec none (Tm.rec (fun len' tr' => ih b fn len' tr' k ds ro H' n' (addR b recs R) (addW b recs W)) T') (chk ops recs draw))
    (fun T' v H' n' R1 W1 => resume P F orc fuel ih b R W (qReg ⟨fn, ⟨len, tr⟩, .code (.region id ops draw) :: k, ds, .run, ro⟩ ops draw k (some (recs, .pan T' v H' n' R1 W1)))) f) p) (rrunG P F orc (recF P F orc fuel ih) len tr ops H n)
noncomputable def codeF (cd : Code) : ItA := Code.rec iSkip iRegion (fun x y _ _ => iSeq x y) (fun q x y _ _ => iCond q x y) (fun id x _ => iBlock id x) (fun x _ => iLoop x) (fun f ps x y _ _ => iSlow (.code (.rangeFunc f ps x y))) (fun id => iSlow (.code (.exit id))) (fun x _ => iScope x) (fun _ => iSkip) (fun l => iSlow (.code (.goto l))) (iSlow (.code .ret)) (fun w => iSlow (.code (.refuse w))) cd
noncomputable def itemF (it : Item) : ItA := Item.rec codeF (fun _ => iSkip) iLoop (fun _ => iSkip) (fun a b => iSlow (.inRegion a b)) (fun l => iSlow (.inRangeFunc l)) (fun l => iSlow (.endRangeFunc l)) (iSlow .beginRound) (fun a b c d => iSlow (.call a b c d)) (fun a b => iSlow (.extern a b)) it
noncomputable def frunF (P : Program) (F : FuncId → Bool) (orc : Orc) (fuel : Nat) : Run := Nat.rec (fun _ _ _ _ _ _ _ _ _ _ _ => none) (fun fuel ih b fn len tr todo ds ro H n R W =>
  List.rec (resume P F orc fuel ih b R W (leaveC ⟨fn, ⟨len, tr⟩, [], ds, .run, ro⟩ H n none)) (fun it k _ => itemF it P F orc fuel ih b fn len tr k ds ro H n R W) todo) fuel
theorem frunF_eq (P : Program) (F : FuncId → Bool) (orc : Orc) : ∀ (fuel b : Nat) (fn : FuncId) (len : Nat) (tr : Tri) (todo : List Item) (ds : List Nat) (ro : Option Nat) (H : Heap) (n : Nat) (R W : List Nat), frunF P F orc fuel b fn len tr todo ds ro H n R W = frunQ P F orc fuel b ⟨fn, ⟨len, tr⟩, todo, ds, .run, ro⟩ H n R W
  | 0, _, _, _, _, _, _, _, _, _, _, _ => rfl
  | fuel + 1, b, fn, len, tr, todo, ds, ro, H, n, R, W => by
    have hih : ∀ (b : Nat) (fn : FuncId) (len : Nat) (tr : Tri) (todo : List Item) (ds : List Nat) (ro : Option Nat) (H : Heap) (n : Nat) (R W : List Nat), frunF P F orc fuel b fn len tr todo ds ro H n R W = frunQ P F orc fuel b ⟨fn, ⟨len, tr⟩, todo, ds, .run, ro⟩ H n R W := frunF_eq P F orc fuel
    have hrec : recF P F orc fuel (frunF P F orc fuel) = fun c1 H1 n1 => frunQ P F orc fuel n1 c1 H1 n1 [] [] := by
      funext c1 H1 n1
      obtain ⟨fn, ⟨len, tr⟩, todo, ds, mode, ro⟩ := c1
      cases mode with
      | run => exact hih _ _ _ _ _ _ _ _ _ _ _
      | ret => rfl
      | pan v => rfl
    have hres : ∀ (R W : List Nat) (x : Option FS), resume P F orc fuel (frunF P F orc fuel) b R W x = match x with
        | some (.go c' H' n' R' W') => frunQ P F orc fuel b c' H' n' (addl b R' R) (addl b W' W)
        | some (.done out H' n' R' W') => some ⟨out, H', n', addl b R' R, addl b W' W⟩
        | none => none := by
      intro R W x
      cases x with
      | none => rfl
      | some fs =>
        cases fs with
        | done out H' n' R' W' => rfl
        | go c' H' n' R' W' =>
          obtain ⟨fn, ⟨len, tr⟩, todo, ds, mode, ro⟩ := c'
          cases mode with
          | run => exact hih _ _ _ _ _ _ _ _ _ _ _
          | ret => rfl
          | pan v => rfl
    have hslow : ∀ (it : Item) (k : List Item), iSlow it P F orc fuel (frunF P F orc fuel) b fn len tr k ds ro H n R W = frunQ P F orc (fuel + 1) b ⟨fn, ⟨len, tr⟩, it :: k, ds, .run, ro⟩ H n R W := by
      intro it k
      unfold iSlow
      rw [hres, hrec]
      rfl
    cases todo with
    | nil => exact hres R W _
    | cons it k =>
      show itemF it P F orc fuel (frunF P F orc fuel) b fn len tr k ds ro H n R W = _
      cases it with
      | code cd =>
        cases cd with
        | skip => exact hih _ _ _ _ _ _ _ _ _ _ _
        | label l => exact hih _ _ _ _ _ _ _ _ _ _ _
        | seq x y => exact hih _ _ _ _ _ _ _ _ _ _ _
        | block id x => exact hih _ _ _ _ _ _ _ _ _ _ _
        | loop x => exact hih _ _ _ _ _ _ _ _ _ _ _
        | scope x => exact hih _ _ _ _ _ _ _ _ _ _ _
        | cond q x y =>
          show (Option.rec none (fun v => Option.rec none (fun t => Bool.rec (frunF P F orc fuel b fn len tr (.code y :: k) ds ro H n R W) (frunF P F orc fuel b fn len tr (.code x :: k) ds ro H n R W) t) (boolOf v)) (evF tr q) : Option Rs) = _
          rw [evF_eq len tr, hih, hih]
          simp only [frunQ, fstepQ, qItem, qCode]
          cases evC ⟨len, tr⟩ q with
          | none => rfl
          | some v =>
            cases v with
            | bool t => cases t <;> rfl
            | _ => rfl
        | region id ops draw =>
          show iRegion id ops draw P F orc fuel (frunF P F orc fuel) b fn len tr k ds ro H n R W = _
          unfold iRegion
          rw [rrunG_eq, hrec]
          simp only [frunQ, fstepQ, qItem, qCode, addR_eq, addW_eq]
          cases hrr : rrunQ P F orc (fun c1 H1 n1 => frunQ P F orc fuel n1 c1 H1 n1 [] []) ops ops.toList ⟨len, tr⟩ H n with
          | none => rfl
          | some p =>
            obtain ⟨recs, f⟩ := p
            cases f with
            | pan v H' n' R1 W1 => exact hres R W _
            | ok T' H' n' =>
              have hck := chk_eq (draw := draw) (rrunQ_ops _ _ _ _ _ _ _ _ hrr)
              obtain ⟨len', tr'⟩ := T'
              simp only [qReg]
              rw [hck]
              cases !draw || (edgesOk 0 ops.toList && indep ops 0 recs (befs ops.toList [])) with
              | false => rfl
              | true => exact hih _ _ _ _ _ _ _ _ _ _ _
        | rangeFunc f ps x y => exact hslow _ k
        | exit id => exact hslow _ k
        | goto id => exact hslow _ k
        | ret => exact hslow _ k
        | refuse w => exact hslow (.code (.refuse w)) k
      | inBlock id => exact hih _ _ _ _ _ _ _ _ _ _ _
      | inScope x => exact hih _ _ _ _ _ _ _ _ _ _ _
      | inLoop x => exact hih _ _ _ _ _ _ _ _ _ _ _
      | inRegion a b => exact hslow _ k
      | inRangeFunc l => exact hslow _ k
      | endRangeFunc l => exact hslow _ k
      | beginRound => exact hslow _ k
      | call a b c d => exact hslow _ k
      | extern a b => exact hslow _ k
end Go.CE
