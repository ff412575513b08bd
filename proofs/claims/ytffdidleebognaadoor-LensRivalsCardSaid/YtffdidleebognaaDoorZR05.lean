/- CE 5: the canonical machine as the kernel reckons it; closed calls, and calls reckoned before. Nothing of any program stands here. -/
import Derived.Test.YtffdidleebognaaDoorZR04
/- CE: the canonical machine a third time: by recursors alone where much time goes. -/
namespace Go.CE
open Go Go.RowKit

noncomputable def triGet (t : Tri) : Nat → Value := Tri.rec (fun _ => undef) (fun _ v _ gl gr k => Nat.rec v (fun j _ => Bool.rec (gr (Nat.div j 2)) (gl (Nat.div j 2)) (Nat.beq (Nat.mod j 2) 0)) k) t
theorem triGet_eq : ∀ (t : Tri) (k : Nat), triGet t k = t.get k
  | .lf, k => by cases k <;> rfl
  | .nd l v r, 0 => rfl
  | .nd l v r, k + 1 => by
    show (Bool.rec (triGet r (k / 2)) (triGet l (k / 2)) (Nat.beq (k % 2) 0) : Value) = bif Nat.beq (k % 2) 0 then l.get (k / 2) else r.get (k / 2)
    rw [triGet_eq l, triGet_eq r]
    cases Nat.beq (k % 2) 0 <;> rfl
noncomputable def triSet (f : Nat) : Tri → Nat → Value → Tri := Nat.rec (fun t _ _ => t) (fun _ ih t i x => Tri.rec
  (Nat.rec (.nd .lf x .lf) (fun j _ => Bool.rec (.nd .lf undef (ih .lf (Nat.div j 2) x)) (.nd (ih .lf (Nat.div j 2) x) undef .lf) (Nat.beq (Nat.mod j 2) 0)) i)
  (fun l v r _ _ => Nat.rec (.nd l x r) (fun j _ => Bool.rec (.nd l v (ih r (Nat.div j 2) x)) (.nd (ih l (Nat.div j 2) x) v r) (Nat.beq (Nat.mod j 2) 0)) i) t) f
theorem triSet_eq : ∀ (f : Nat) (t : Tri) (i : Nat) (x : Value), triSet f t i x = Tri.set f t i x
  | 0, _, _, _ => rfl
  | f + 1, .lf, 0, x => rfl
  | f + 1, .nd l v r, 0, x => rfl
  | f + 1, .lf, k + 1, x => by
    show (Bool.rec (Tri.nd .lf undef (triSet f .lf (k / 2) x)) (Tri.nd (triSet f .lf (k / 2) x) undef .lf) (Nat.beq (k % 2) 0) : Tri) = bif Nat.beq (k % 2) 0 then .nd (Tri.set f .lf (k / 2) x) undef .lf else .nd .lf undef (Tri.set f .lf (k / 2) x)
    rw [triSet_eq f]
    cases Nat.beq (k % 2) 0 <;> rfl
  | f + 1, .nd l v r, k + 1, x => by
    show (Bool.rec (Tri.nd l v (triSet f r (k / 2) x)) (Tri.nd (triSet f l (k / 2) x) v r) (Nat.beq (k % 2) 0) : Tri) = bif Nat.beq (k % 2) 0 then .nd (Tri.set f l (k / 2) x) v r else .nd l v (Tri.set f r (k / 2) x)
    rw [triSet_eq f, triSet_eq f]
    cases Nat.beq (k % 2) 0 <;> rfl
noncomputable def evF (tr : Tri) (x : Operand) : Option Value := Operand.rec (fun t => some (triGet tr t)) (fun v => Bool.rec none (some v) (af v)) (fun _ => none) (fun f => some (.func (.func f) #[] #[])) x
theorem evF_eq (len : Nat) (tr : Tri) : evF tr = evC ⟨len, tr⟩ := by
  funext x
  cases x with
  | tmp t => show some (triGet tr t) = some (tr.get t); rw [triGet_eq]
  | const v => show (Bool.rec none (some v) (af v) : Option Value) = bif af v then some v else none; cases af v <;> rfl
  | global g => rfl
  | func f => rfl
noncomputable def putF (tr : Tri) (d : Option Tmp) (v : Value) : Tri := Option.rec tr (fun d => triSet 14 tr d v) d
theorem putF_eq (len : Nat) (tr : Tri) (d : Option Tmp) (v : Value) : (⟨len, putF tr d v⟩ : Tm) = tput ⟨len, tr⟩ d v := by
  cases d with
  | none => rfl
  | some d => show (⟨len, triSet 14 tr d v⟩ : Tm) = ⟨len, tr.set 14 d v⟩; rw [triSet_eq]
noncomputable def nthR {α : Type} (l : List α) : Nat → Option α := List.rec (fun _ => none) (fun x _ ih k => Nat.rec (some x) (fun j _ => ih j) k) l
theorem nthR_eq {α : Type} : ∀ (l : List α) (k : Nat), nthR l k = l[k]?
  | [], k => by cases k <;> rfl
  | x :: l, 0 => rfl
  | x :: l, k + 1 => by show nthR l k = _; rw [nthR_eq l k]; rfl
noncomputable def cPartF (P : Program) (t : TypeId) (cs : Array Value) (off : Nat) : Option Value :=
  Option.rec none (fun g => Bool.rec (nthR cs.toList off) (Option.rec none (fun s => Bool.rec none (some (.agg (cs.extract off (off + s)))) (Nat.ble (off + s) cs.size)) (szOf P t)) g) (aggT P t)
theorem cPartF_eq (P : Program) (t : TypeId) (cs : Array Value) (off : Nat) : cPartF P t cs off = cPart P t cs off := by
  unfold cPartF cPart
  cases aggT P t with
  | none => rfl
  | some g =>
    cases g with
    | false => show nthR cs.toList off = _; rw [nthR_eq, Array.getElem?_toList]
    | true =>
      cases szOf P t with
      | none => rfl
      | some s => simp only; cases Nat.ble (off + s) cs.size <;> rfl
noncomputable def cLoadF (P : Program) (t : TypeId) (H : Heap) (p : Value) : Option (Value × Nat) := match p with
  | .pointer (some ⟨b, off, none⟩) => match hget H b with
    | some (.cells cs _ _) => match cPartF P t cs off with
      | some v => some (v, b)
      | none => none
    | _ => none
  | _ => none
theorem cLoadF_eq (P : Program) (t : TypeId) (H : Heap) (p : Value) : cLoadF P t H p = cLoad P t H p := by
  unfold cLoadF cLoad
  simp only [cPartF_eq]
  rfl
noncomputable def allF (p : Value → Bool) (l : List Value) : Bool := List.rec true (fun x _ ih => Bool.rec false ih (p x)) l
theorem allF_eq (p : Value → Bool) : ∀ (l : List Value), allF p l = l.all p
  | [] => rfl
  | x :: l => by
    show (Bool.rec false (allF p l) (p x) : Bool) = _
    rw [allF_eq p l, List.all_cons]
    cases p x <;> rfl
noncomputable def onesF (cs : Array Value) : Bool := allF (·.oneCell') cs.toList
theorem onesF_eq (cs : Array Value) : onesF cs = ones cs := by
  unfold onesF ones
  rw [allF_eq, Array.all_toList]
noncomputable def afF (v : Value) : Bool := match v with
  | .agg xs | .tuple xs => allF simple xs.toList
  | .iface _ v => simple v
  | v => simple v
theorem afF_eq (v : Value) : afF v = af v := by
  cases v <;> first | rfl | (show allF simple _ = _; rw [allF_eq, Array.all_toList]; rfl)
noncomputable def cStoreF (P : Program) (t : TypeId) (H : Heap) (v p : Value) : Option (Heap × Nat) := match p with
  | .pointer (some ⟨b, off, none⟩) => match hget H b with
    | some (.cells cs te (0, 0)) => match szOf P t with
      | some s => bif Nat.beq v.cells.size s && onesF v.cells && Nat.ble (off + s) cs.size then some (hset H b (.cells (splice cs off v.cells) te (0, 0)), b) else none
      | none => none
    | _ => none
  | _ => none
theorem cStoreF_eq (P : Program) (t : TypeId) (H : Heap) (v p : Value) : cStoreF P t H v p = cStore P t H v p := by
  unfold cStoreF cStore
  simp only [onesF_eq]
  rfl
noncomputable def cFieldF (P : Program) (t : TypeId) (f : Nat) (x : Value) : Option Value := match x with
  | .agg cs => match und P t with
    | some (.struct fields) => match fields[f]? with
      | some fd => cPartF P fd.type cs fd.offset
      | none => none
    | _ => none
  | _ => none
theorem cFieldF_eq (P : Program) (t : TypeId) (f : Nat) (x : Value) : cFieldF P t f x = cField P t f x := by
  unfold cFieldF cField
  simp only [cPartF_eq]
  rfl
noncomputable def yieldF (ops : Array Oper) (tr : Tri) (j : Nat) : Option Bool := match nth ops.toList j with
  | some o => match o.dst with
    | some t => boolOf (triGet tr t)
    | none => none
  | none => none
theorem yieldF_eq (len : Nat) (ops : Array Oper) (tr : Tri) (j : Nat) : yieldF ops tr j = yieldedC ops ⟨len, tr⟩ j := by
  unfold yieldF yieldedC
  simp only [triGet_eq, tget]
  rfl
noncomputable def wantF (ops : Array Oper) (tr : Tri) (g : Option (Nat × Bool)) : Bool := Option.rec true (fun jw => Prod.rec (fun j w => Option.rec false (fun b => Bool.rec (Bool.rec true false w) (Bool.rec false true w) b) (yieldF ops tr j)) jw) g
theorem wantF_eq (len : Nat) (ops : Array Oper) (tr : Tri) (o : Oper) : wantF ops tr o.guard = Region.wanted o (yieldedC ops ⟨len, tr⟩) := by
  unfold wantF Region.wanted
  cases o.guard with
  | none => rfl
  | some jw =>
    obtain ⟨j, w⟩ := jw
    simp only [yieldF_eq len]
    cases yieldedC ops ⟨len, tr⟩ j with
    | none => rfl
    | some b => cases b <;> cases w <;> rfl
abbrev Ans := Option (List Rec × RF)
abbrev KV := Value → Heap → Nat → List Nat → List Nat → Ans
abbrev Arm := Program → (FuncId → Bool) → Orc → (CF → Heap → Nat → Option Rs) → Nat → Tri → Oper → Heap → Nat → KV → KV → Ans
def fin (k kp : KV) (s : Option Rs) : Ans := match s with
  | some ⟨out, H, n, R, W⟩ => match out with
    | .ret v => k v H n R W
    | .pan v => kp v H n R W
  | none => none
noncomputable def pv (k : KV) (H : Heap) (n : Nat) (x : Option Value) : Ans := Option.rec none (fun v => k v H n [] []) x
theorem fin_qV (k kp : KV) (H : Heap) (n : Nat) (x : Option Value) : fin k kp (qV x H n) = pv k H n x := by cases x <;> rfl
noncomputable def aMove (x : Operand) : Arm := fun _ _ _ _ _ tr _ H n k _ => pv k H n (evF tr x)
noncomputable def aPick (c a b : Operand) : Arm := fun _ _ _ _ _ tr _ H n k _ => Option.rec none (fun v => Option.rec none (fun t => Bool.rec (pv k H n (evF tr b)) (pv k H n (evF tr a)) t) (boolOf v)) (evF tr c)
noncomputable def aLoad (t : TypeId) (a : Operand) : Arm := fun P _ _ _ _ tr _ H n k _ => Option.rec none (fun p => Option.rec none (fun vb => Prod.rec (fun v b => Bool.rec none (k v H n [b] []) (Nat.blt b n)) vb) (cLoadF P t H p)) (evF tr a)
noncomputable def aStore (t : TypeId) (a x : Operand) : Arm := fun P _ _ _ _ tr _ H n k _ => Option.rec none (fun p => Option.rec none (fun v => Option.rec none (fun hb => Prod.rec (fun H' b => Bool.rec none (k undef H' n [b] [b]) (Nat.blt b n)) hb) (cStoreF P t H v p)) (evF tr x)) (evF tr a)
noncomputable def aFieldAddr (s : TypeId) (x : Operand) (f : Nat) : Arm := fun P _ _ _ _ tr _ H n k _ => Option.rec none (fun p => pv k H n (cFieldAddr P s f p)) (evF tr x)
noncomputable def aField (s : TypeId) (x : Operand) (f : Nat) : Arm := fun P _ _ _ _ tr _ H n k _ => Option.rec none (fun p => pv k H n (cFieldF P s f p)) (evF tr x)
noncomputable def aIndexAddr (t : TypeId) (x i : Operand) : Arm := fun P _ _ _ _ tr _ H n k _ => Option.rec none (fun p => Option.rec none (fun j => pv k H n (cIndexAddr P t p j)) (evF tr i)) (evF tr x)
noncomputable def aExtract (x : Operand) (i : Nat) : Arm := fun _ _ _ _ _ tr _ H n k _ => Option.rec none (fun p => pv k H n (cExtract i p)) (evF tr x)
noncomputable def aBin (op : BinOp) (_ : TypeId) (x y : Operand) (_ : TypeId) : Arm := fun P _ _ _ _ tr o H n k _ => Option.rec none (fun a => Option.rec none (fun b => Option.rec (pv k H n (cPure P (evF tr) o)) (fun v => k v H n [] []) (cBin op a b)) (evF tr y)) (evF tr x)
noncomputable def dropF (v : Value) (r : CR) (k : KV) (H' : Heap) (n' : Nat) (R W : List Nat) : Ans := List.rec (Bool.rec (k v H' n' (r.R ++ R) (r.W ++ [])) (k v r.H n' (r.R ++ R) (r.W ++ [])) (afF v)) (fun _ _ _ => k v H' n' (r.R ++ R) (r.W ++ W)) W
noncomputable def backF (r : CR) (k kp : KV) (s : Option Rs) : Ans := Option.rec none (fun s => Rs.rec (fun out H' n' R W => OO.rec (fun v => dropF v r k H' n' R W) (fun v => kp v H' n' (r.R ++ R) (r.W ++ W)) out) s) s
theorem backF_eq (r : CR) (k kp : KV) (s : Option Rs) : backF r k kp s = fin k kp (match s with | some s => qDrop r s | none => none) := by
  cases s with
  | none => rfl
  | some s =>
    obtain ⟨out, H', n', R, W⟩ := s
    cases out with
    | pan v =>
      cases W with
      | nil => rfl
      | cons a b => rfl
    | ret v =>
      show dropF v r k H' n' R W = _
      unfold dropF
      cases W with
      | nil =>
        rw [afF_eq]
        simp only [qDrop, dropNew]
        cases af v <;> rfl
      | cons a b => rfl
noncomputable def enterF (P : Program) (orc : Orc) (rec : CF → Heap → Nat → Option Rs) (g : FuncId) (args : Array Value) (r : CR) (k kp : KV) : Ans := Option.rec (Option.rec none (fun c => backF r k kp (rec c r.H r.n)) (enterC P g args)) (fun _ => fin k kp (qEnter P orc rec g args r)) (orc g args r.H r.n)
theorem enterF_eq (P : Program) (orc : Orc) (rec : CF → Heap → Nat → Option Rs) (g : FuncId) (args : Array Value) (r : CR) (k kp : KV) : enterF P orc rec g args r k kp = fin k kp (qEnter P orc rec g args r) := by
  unfold enterF
  cases ho : orc g args r.H r.n with
  | some x => rfl
  | none =>
    unfold qEnter
    rw [ho]
    show (Option.rec none (fun c => backF r k kp (rec c r.H r.n)) (enterC P g args) : Ans) = fin k kp (qRec P rec g args r)
    unfold qRec
    cases enterC P g args with
    | none => rfl
    | some c =>
      show backF r k kp (rec c r.H r.n) = _
      rw [backF_eq]
      rfl
noncomputable def callF (P : Program) (orc : Orc) (rec : CF → Heap → Nat → Option Rs) (n : Nat) (x : Option CR) (k kp : KV) : Ans := Option.rec none (fun r => CN.rec (fun _ => fin k kp (qR P orc rec n (some r))) (fun g args => Bool.rec none (enterF P orc rec g args r k kp) (r.R.all (fun i => Nat.blt i n))) (fun _ _ _ _ _ => fin k kp (qR P orc rec n (some r))) r.nx) x
theorem callF_eq (P : Program) (orc : Orc) (rec : CF → Heap → Nat → Option Rs) (n : Nat) (x : Option CR) (k kp : KV) : callF P orc rec n x k kp = fin k kp (qR P orc rec n x) := by
  cases x with
  | none => rfl
  | some r =>
    obtain ⟨nx, H', n', R, W⟩ := r
    cases nx with
    | val v => rfl
    | round l fn tm a b => rfl
    | enter g args =>
      show (Bool.rec none (enterF P orc rec g args ⟨.enter g args, H', n', R, W⟩ k kp) (R.all (fun i => Nat.blt i n)) : Ans) = _
      rw [enterF_eq]
      simp only [qR]
      cases R.all (fun i => Nat.blt i n) <;> rfl
noncomputable def aCall (c : Call) : Arm := fun P F orc rec _ tr o H n k kp => callF P orc rec n (qCallee P F (evF tr) o c H n) k kp
def aGen : Arm := fun P F orc rec len tr o H n k kp => fin k kp (opQ P F orc rec ⟨len, tr⟩ o H n)
noncomputable def opF (op : Op) : Arm := Op.rec aMove aMove aPick (fun _ => aGen) (fun _ _ => aGen) (fun _ _ => aGen) (fun _ _ _ => aGen) (fun _ _ _ _ => aGen) aLoad aStore (fun _ => aGen) (fun _ => aGen) (fun _ => aGen) aBin (fun _ _ _ => aGen) (fun _ _ _ => aGen) (fun _ _ => aGen) (fun _ _ => aGen)
  (fun _ _ _ => aGen) (fun _ _ => aGen) (fun _ _ => aGen) (fun _ _ _ => aGen) (fun _ _ _ _ _ => aGen) aFieldAddr aField aIndexAddr (fun _ _ _ => aGen) (fun _ _ _ _ => aGen) (fun _ _ _ _ => aGen) (fun _ _ _ => aGen) (fun _ _ _ _ => aGen) (fun _ _ => aGen) (fun _ _ => aGen) (fun _ => aGen) (fun _ _ _ _ => aGen)
  aExtract aCall (fun _ => aGen) (fun _ => aGen) (fun _ => aGen) (fun _ _ => aGen) (fun _ _ _ => aGen) (fun _ _ => aGen) op
theorem opF_eq (P : Program) (F : FuncId → Bool) (orc : Orc) (rec : CF → Heap → Nat → Option Rs) (len : Nat) (tr : Tri) (o : Oper) (H : Heap) (n : Nat) (k kp : KV) : opF o.op P F orc rec len tr o H n k kp = fin k kp (opQ P F orc rec ⟨len, tr⟩ o H n) := by
  have e := evF_eq len tr
  cases hp : o.op with
  | move x => show pv k H n (evF tr x) = _; rw [e]; unfold opQ; simp only [hp]; exact (fin_qV k kp H n _).symm
  | assign x => show pv k H n (evF tr x) = _; rw [e]; unfold opQ; simp only [hp]; exact (fin_qV k kp H n _).symm
  | pick c a b =>
    show (Option.rec none (fun v => Option.rec none (fun t => Bool.rec (pv k H n (evF tr b)) (pv k H n (evF tr a)) t) (boolOf v)) (evF tr c) : Ans) = _
    rw [e]; unfold opQ; simp only [hp]
    cases evC ⟨len, tr⟩ c with
    | none => rfl
    | some v =>
      cases v with
      | bool t => cases t <;> exact (fin_qV k kp H n _).symm
      | _ => rfl
  | load t a =>
    show (Option.rec none (fun p => Option.rec none (fun vb => Prod.rec (fun v b => Bool.rec none (k v H n [b] []) (Nat.blt b n)) vb) (cLoadF P t H p)) (evF tr a) : Ans) = _
    simp only [cLoadF_eq]; rw [e]; unfold opQ; simp only [hp]
    cases evC ⟨len, tr⟩ a with
    | none => rfl
    | some p =>
      simp only [qLoad]
      cases cLoad P t H p with
      | none => rfl
      | some vb =>
        obtain ⟨v, b⟩ := vb
        cases hb : Nat.blt b n <;> simp [qR, fin, qNext, hb]
  | store t a x =>
    show (Option.rec none (fun p => Option.rec none (fun v => Option.rec none (fun hb => Prod.rec (fun H' b => Bool.rec none (k undef H' n [b] [b]) (Nat.blt b n)) hb) (cStoreF P t H v p)) (evF tr x)) (evF tr a) : Ans) = _
    simp only [cStoreF_eq]; rw [e]; unfold opQ; simp only [hp]
    cases evC ⟨len, tr⟩ a with
    | none => rfl
    | some p =>
      cases evC ⟨len, tr⟩ x with
      | none => rfl
      | some v =>
        simp only [qStore]
        cases cStore P t H v p with
        | none => rfl
        | some vb =>
          obtain ⟨H', b⟩ := vb
          cases hb : Nat.blt b n <;> simp [qR, fin, qNext, hb]
  | fieldAddr s x f =>
    show (Option.rec none (fun p => pv k H n (cFieldAddr P s f p)) (evF tr x) : Ans) = _
    rw [e]; unfold opQ; simp only [hp]
    cases evC ⟨len, tr⟩ x with
    | none => rfl
    | some p => simp only [qFieldAddr, qR_pure]; exact (fin_qV k kp H n _).symm
  | field s x f =>
    show (Option.rec none (fun p => pv k H n (cFieldF P s f p)) (evF tr x) : Ans) = _
    simp only [cFieldF_eq]; rw [e]; unfold opQ; simp only [hp]
    cases evC ⟨len, tr⟩ x with
    | none => rfl
    | some p => simp only [qField, qR_pure]; exact (fin_qV k kp H n _).symm
  | indexAddr t x i =>
    show (Option.rec none (fun p => Option.rec none (fun j => pv k H n (cIndexAddr P t p j)) (evF tr i)) (evF tr x) : Ans) = _
    rw [e]; unfold opQ; simp only [hp]
    cases evC ⟨len, tr⟩ x with
    | none => rfl
    | some p =>
      cases evC ⟨len, tr⟩ i with
      | none => rfl
      | some j => simp only [qIndexAddr, qR_pure]; exact (fin_qV k kp H n _).symm
  | extract x i =>
    show (Option.rec none (fun p => pv k H n (cExtract i p)) (evF tr x) : Ans) = _
    rw [e]; unfold opQ; simp only [hp]
    cases evC ⟨len, tr⟩ x with
    | none => rfl
    | some p => simp only [qExtract, qR_pure]; exact (fin_qV k kp H n _).symm
  | binOp op t x y t' =>
    show (Option.rec none (fun a => Option.rec none (fun b => Option.rec (pv k H n (cPure P (evF tr) o)) (fun v => k v H n [] []) (cBin op a b)) (evF tr y)) (evF tr x) : Ans) = _
    rw [e]; unfold opQ; simp only [hp]
    cases evC ⟨len, tr⟩ x with
    | none => rfl
    | some a =>
      cases evC ⟨len, tr⟩ y with
      | none => rfl
      | some b =>
        simp only [qBin]
        cases cBin op a b with
        | none => simp only [qR_pure]; exact (fin_qV k kp H n _).symm
        | some v => rfl
  | call c => show callF P orc rec n (qCallee P F (evF tr) o c H n) k kp = _; rw [callF_eq, e]; unfold opQ; simp only [hp]
  | _ => rfl
noncomputable def consR (r : Rec) (x : Ans) : Ans := Option.rec none (fun p => Prod.rec (fun rs f => some (r :: rs, f)) p) x
noncomputable def rrunF (P : Program) (F : FuncId → Bool) (orc : Orc) (rec : CF → Heap → Nat → Option Rs) (len : Nat) (ops : Array Oper) (l : List Oper) : Tri → Heap → Nat → Ans :=
  List.rec (fun tr H n => some ([], .ok ⟨len, tr⟩ H n)) (fun o _ ih tr H n => Bool.rec
    (consR ⟨o, false, undef, ⟨len, tr⟩, H, H, n, n, [], []⟩ (ih (putF tr o.dst undef) H n))
    (opF o.op P F orc rec len tr o H n (fun v H' n' R W => consR ⟨o, true, v, ⟨len, tr⟩, H, H', n, n', R, W⟩ (ih (putF tr o.dst v) H' n')) (fun v H' n' R W => some ([], .pan ⟨len, tr⟩ v H' n' R W)))
    (wantF ops tr o.guard)) l
def dstAll (len : Nat) (l : List Oper) : Bool := l.all fun o => dstOk ⟨len, .lf⟩ o.dst
theorem rrunF_eq (P : Program) (F : FuncId → Bool) (orc : Orc) (rec : CF → Heap → Nat → Option Rs) (len : Nat) (ops : Array Oper) : ∀ (l : List Oper) (tr : Tri) (H : Heap) (n : Nat), dstAll len l = true → rrunF P F orc rec len ops l tr H n = rrunQ P F orc rec ops l ⟨len, tr⟩ H n
  | [], _, _, _, _ => rfl
  | o :: l, tr, H, n, hd => by
    simp only [dstAll, List.all_cons, Bool.and_eq_true] at hd
    have hd1 : dstOk ⟨len, tr⟩ o.dst = true := by
      have := hd.1
      cases hq : o.dst with
      | none => rfl
      | some x => rw [hq] at this; exact this
    have ih := rrunF_eq P F orc rec len ops l
    show (Bool.rec (consR ⟨o, false, undef, ⟨len, tr⟩, H, H, n, n, [], []⟩ (rrunF P F orc rec len ops l (putF tr o.dst undef) H n))
      (opF o.op P F orc rec len tr o H n (fun v H' n' R W => consR ⟨o, true, v, ⟨len, tr⟩, H, H', n, n', R, W⟩ (rrunF P F orc rec len ops l (putF tr o.dst v) H' n')) (fun v H' n' R W => some ([], .pan ⟨len, tr⟩ v H' n' R W)))
      (wantF ops tr o.guard) : Ans) = _
    rw [wantF_eq len]
    simp only [rrunQ, hd1, cond_true]
    cases Region.wanted o (yieldedC ops ⟨len, tr⟩) with
    | false =>
      simp only [cond_false]
      rw [ih _ _ _ hd.2, putF_eq]
      cases rrunQ P F orc rec ops l (tput ⟨len, tr⟩ o.dst undef) H n <;> rfl
    | true =>
      simp only [cond_true, opF_eq]
      cases opQ P F orc rec ⟨len, tr⟩ o H n with
      | none => rfl
      | some s =>
        obtain ⟨out, H', n', R, W⟩ := s
        cases out with
        | pan v => rfl
        | ret v =>
          simp only [fin]
          rw [ih _ _ _ hd.2, putF_eq]
          cases rrunQ P F orc rec ops l (tput ⟨len, tr⟩ o.dst v) H' n' <;> rfl
/-! ### Drawn regions -/
def statFrom (ops : Array Oper) (o : Oper) (k : Nat) : List Oper → List (List Nat) → Bool
  | x :: l, b :: bs => (b.contains k || o.apart ops x) && statFrom ops o k l bs
  | [], _ => true
  | _ :: _, [] => false
def stat (ops : Array Oper) : Nat → List Oper → List (List Nat) → Bool
  | k, o :: l, _ :: bs => statFrom ops o k l bs && stat ops (k + 1) l bs
  | _, [], _ => true
  | _, _ :: _, [] => false
noncomputable def elemF (i : Nat) (l : List Nat) : Bool := List.rec false (fun j _ ih => Bool.rec ih true (Nat.beq i j)) l
theorem elemF_eq (i : Nat) : ∀ (l : List Nat), elemF i l = l.contains i
  | [] => rfl
  | j :: l => by
    show (Bool.rec (elemF i l) true (Nat.beq i j) : Bool) = _
    rw [elemF_eq i l, List.contains_cons]
    by_cases e : i = j
    · subst e
      rw [Nat.beq_refl]
      simp
    · rw [beq_no e]
      simp [e]
noncomputable def meetsF (W R : List Nat) : Bool := List.rec false (fun i _ ih => Bool.rec ih true (elemF i R)) W
theorem meetsF_eq (R : List Nat) : ∀ (W : List Nat), meetsF W R = W.any fun i => R.contains i
  | [] => rfl
  | i :: W => by
    show (Bool.rec (meetsF W R) true (elemF i R) : Bool) = _
    rw [meetsF_eq R W, elemF_eq, List.any_cons]
    cases R.contains i <;> rfl
noncomputable def bearsF (lo hi : Nat) (R : List Nat) : Bool := List.rec false (fun i _ ih => Bool.rec ih (Bool.rec ih true (Nat.blt i hi)) (Nat.ble lo i)) R
theorem bearsF_eq (lo hi : Nat) : ∀ (R : List Nat), bearsF lo hi R = R.any fun i => Nat.ble lo i && Nat.blt i hi
  | [] => rfl
  | i :: R => by
    show (Bool.rec (bearsF lo hi R) (Bool.rec (bearsF lo hi R) true (Nat.blt i hi)) (Nat.ble lo i) : Bool) = _
    rw [bearsF_eq lo hi R, List.any_cons]
    cases Nat.ble lo i <;> cases Nat.blt i hi <;> rfl
/-- Whether two records touch no block that the other one writes or makes. -/
noncomputable def clear (r x : Rec) : Bool := Bool.rec (Bool.rec (Bool.rec true false (bearsF r.n r.n' x.R)) false (meetsF x.W r.R)) false (meetsF r.W x.R)
theorem clear_tied {ops : Array Oper} {r x : Rec} (h : clear r x = true) (ha : r.o.apart ops x.o = true) : tied ops r x = false := by
  unfold clear at h
  rw [bearsF_eq, meetsF_eq, meetsF_eq] at h
  unfold tied meets bears
  rw [ha]
  revert h
  cases r.W.any fun i => x.R.contains i <;> cases x.W.any fun i => r.R.contains i <;> cases x.R.any fun i => Nat.ble r.n i && Nat.blt i r.n' <;> simp
noncomputable def dynFrom (r : Rec) (k : Nat) (l : List Rec) : List (List Nat) → Bool := List.rec (fun _ => true) (fun x _ ih bs => List.rec false (fun b bs' _ => Bool.rec (Bool.rec false (ih bs') (elemF k b)) (ih bs') (clear r x)) bs) l
noncomputable def dyn (l : List Rec) : Nat → List (List Nat) → Bool := List.rec (fun _ _ => true) (fun r l ih k bs => List.rec false (fun _ bs' _ => Bool.rec false (ih (k + 1) bs') (dynFrom r k l bs')) bs) l
theorem stat_from {ops : Array Oper} {r : Rec} (k : Nat) : ∀ (l : List Rec) (bs : List (List Nat)), dynFrom r k l bs = true → statFrom ops r.o k (l.map (·.o)) bs = true → indepFrom ops r k l bs = true
  | [], _, _, _ => by simp [indepFrom]
  | x :: l, [], _, h => by simp [statFrom] at h
  | x :: l, b :: bs, hd, h => by
    simp only [List.map_cons, statFrom, Bool.and_eq_true, Bool.or_eq_true] at h
    simp only [indepFrom, Bool.and_eq_true, Bool.or_eq_true, Bool.not_eq_true']
    have hd : (Bool.rec (Bool.rec false (dynFrom r k l bs) (elemF k b)) (dynFrom r k l bs) (clear r x) : Bool) = true := hd
    cases hc : clear r x with
    | true =>
      rw [hc] at hd
      exact ⟨h.1.imp id fun ha => clear_tied hc ha, stat_from k l bs hd h.2⟩
    | false =>
      rw [hc] at hd
      have hd : (Bool.rec false (dynFrom r k l bs) (elemF k b) : Bool) = true := hd
      cases he : elemF k b with
      | false => rw [he] at hd; cases hd
      | true =>
        rw [he] at hd
        rw [elemF_eq] at he
        exact ⟨.inl he, stat_from k l bs hd h.2⟩
theorem stat_indep {ops : Array Oper} : ∀ (l : List Rec) (bs : List (List Nat)) (k : Nat), dyn l k bs = true → stat ops k (l.map (·.o)) bs = true → indep ops k l bs = true
  | [], _, _, _, _ => by simp [indep]
  | x :: l, [], _, _, h => by simp [stat] at h
  | x :: l, b :: bs, k, hd, h => by
    simp only [List.map_cons, stat, Bool.and_eq_true] at h
    simp only [indep, Bool.and_eq_true]
    have hd : (Bool.rec false (dyn l (k + 1) bs) (dynFrom x k l bs) : Bool) = true := hd
    cases hc : dynFrom x k l bs with
    | false => rw [hc] at hd; cases hd
    | true =>
      rw [hc] at hd
      exact ⟨stat_from k l bs hc h.1, stat_indep l bs (k + 1) hd h.2⟩
theorem rrunQ_ops {P : Program} {F : FuncId → Bool} {orc : Orc} {rec : CF → Heap → Nat → Option Rs} {ops : Array Oper} : ∀ (l : List Oper) (T : Tm) (H : Heap) (n : Nat) (recs : List Rec) (T' : Tm) (H' : Heap) (n' : Nat), rrunQ P F orc rec ops l T H n = some (recs, .ok T' H' n') → recs.map (·.o) = l
  | [], T, H, n, recs, T', H', n', h => by
    simp only [rrunQ, Option.some.injEq, Prod.mk.injEq] at h
    rw [← h.1]; rfl
  | o :: l, T, H, n, recs, T', H', n', h => by
    simp only [rrunQ] at h
    have h := bif_some' h
    cases hw : Region.wanted o (yieldedC ops T) with
    | true =>
      rw [hw] at h
      simp only [cond_true] at h
      split at h
      · split at h
        · split at h
          · rename_i rs f hr
            simp only [Option.some.injEq, Prod.mk.injEq] at h
            obtain ⟨rfl, rfl⟩ := h
            simp [rrunQ_ops l _ _ _ _ _ _ _ hr]
          · cases h
        · simp only [Option.some.injEq, Prod.mk.injEq] at h
          cases h.2
      · cases h
    | false =>
      rw [hw] at h
      simp only [cond_false] at h
      split at h
      · rename_i rs f hr
        simp only [Option.some.injEq, Prod.mk.injEq] at h
        obtain ⟨rfl, rfl⟩ := h
        simp [rrunQ_ops l _ _ _ _ _ _ _ hr]
      · cases h
def statAll (ops : Array Oper) : Bool := edgesOk 0 ops.toList && stat ops 0 ops.toList (befs ops.toList [])
noncomputable def chk (ops : Array Oper) (recs : List Rec) (draw : Bool) : Bool := Bool.rec true (Bool.rec (edgesOk 0 ops.toList && indep ops 0 recs (befs ops.toList [])) (Bool.rec (edgesOk 0 ops.toList && indep ops 0 recs (befs ops.toList [])) true (dyn recs 0 (befs ops.toList []))) (statAll ops)) draw
theorem chk_eq {ops : Array Oper} {recs : List Rec} {draw : Bool} (h : recs.map (·.o) = ops.toList) : chk ops recs draw = (!draw || (edgesOk 0 ops.toList && indep ops 0 recs (befs ops.toList []))) := by
  unfold chk
  cases draw with
  | false => rfl
  | true =>
    simp only [Bool.not_true, Bool.false_or]
    cases hs : statAll ops with
    | false => rfl
    | true =>
      cases hc : dyn recs 0 (befs ops.toList []) with
      | false => rfl
      | true =>
        unfold statAll at hs
        simp only [Bool.and_eq_true] at hs
        rw [hs.1, stat_indep recs _ 0 hc (by rw [h]; exact hs.2)]
        rfl
noncomputable def addlF (b : Nat) (l : List Nat) : List Nat → List Nat := List.rec (fun acc => acc) (fun x _ ih acc => Bool.rec (ih acc) (Bool.rec (ih (x :: acc)) (ih acc) (elemF x acc)) (Nat.blt x b)) l
theorem addlF_eq (b : Nat) : ∀ (l acc : List Nat), addlF b l acc = addl b l acc
  | [], _ => rfl
  | x :: l, acc => by
    show (Bool.rec (addlF b l acc) (Bool.rec (addlF b l (x :: acc)) (addlF b l acc) (elemF x acc)) (Nat.blt x b) : List Nat) = _
    rw [addlF_eq b l, addlF_eq b l, elemF_eq, addl]
    cases Nat.blt x b <;> cases acc.contains x <;> rfl
theorem addl_app (b : Nat) : ∀ (l m acc : List Nat), addl b (l ++ m) acc = addl b m (addl b l acc)
  | [], _, _ => rfl
  | x :: l, m, acc => by simp only [List.cons_append, addl]; exact addl_app b l m _
noncomputable def addR (b : Nat) (recs : List Rec) : List Nat → List Nat := List.rec (fun acc => acc) (fun r _ ih acc => ih (addlF b r.R acc)) recs
theorem addR_eq (b : Nat) : ∀ (recs : List Rec) (acc : List Nat), addR b recs acc = addl b (allR recs) acc
  | [], _ => rfl
  | r :: l, acc => by
    show addR b l (addlF b r.R acc) = _
    rw [addR_eq b l, addlF_eq, show allR (r :: l) = r.R ++ allR l from List.flatMap_cons, addl_app]
noncomputable def addW (b : Nat) (recs : List Rec) : List Nat → List Nat := List.rec (fun acc => acc) (fun r _ ih acc => ih (addlF b r.W acc)) recs
theorem addW_eq (b : Nat) : ∀ (recs : List Rec) (acc : List Nat), addW b recs acc = addl b (allW recs) acc
  | [], _ => rfl
  | r :: l, acc => by
    show addW b l (addlF b r.W acc) = _
    rw [addW_eq b l, addlF_eq, show allW (r :: l) = r.W ++ allW l from List.flatMap_cons, addl_app]
/-! ### Frames -/
noncomputable def rrunG (P : Program) (F : FuncId → Bool) (orc : Orc) (rec : CF → Heap → Nat → Option Rs) (len : Nat) (tr : Tri) (ops : Array Oper) (H : Heap) (n : Nat) : Ans :=
  Bool.rec (rrunQ P F orc rec ops ops.toList ⟨len, tr⟩ H n) (rrunF P F orc rec len ops ops.toList tr H n) (dstAll len ops.toList)
theorem rrunG_eq (P : Program) (F : FuncId → Bool) (orc : Orc) (rec : CF → Heap → Nat → Option Rs) (len : Nat) (tr : Tri) (ops : Array Oper) (H : Heap) (n : Nat) : rrunG P F orc rec len tr ops H n = rrunQ P F orc rec ops ops.toList ⟨len, tr⟩ H n := by
  unfold rrunG
  cases hd : dstAll len ops.toList with
  | false => rfl
  | true => exact rrunF_eq P F orc rec len ops _ _ _ _ hd
abbrev Run := Nat → FuncId → Nat → Tri → List Item → List Nat → Option Nat → Heap → Nat → List Nat → List Nat → Option Rs
noncomputable def recF (P : Program) (F : FuncId → Bool) (orc : Orc) (fuel : Nat) (ih : Run) (c1 : CF) (H1 : Heap) (n1 : Nat) : Option Rs :=
  CF.rec (fun fn T todo ds mode ro => CM.rec (Tm.rec (fun len tr => ih n1 fn len tr todo ds ro H1 n1 [] []) T) (frunQ P F orc fuel n1 ⟨fn, T, todo, ds, .ret, ro⟩ H1 n1 [] []) (fun v => frunQ P F orc fuel n1 ⟨fn, T, todo, ds, .pan v, ro⟩ H1 n1 [] []) mode) c1
noncomputable def goF (P : Program) (F : FuncId → Bool) (orc : Orc) (fuel : Nat) (ih : Run) (b : Nat) (c1 : CF) (H1 : Heap) (n1 : Nat) (R W : List Nat) : Option Rs :=
  CF.rec (fun fn T todo ds mode ro => CM.rec (Tm.rec (fun len tr => ih b fn len tr todo ds ro H1 n1 R W) T) (frunQ P F orc fuel b ⟨fn, T, todo, ds, .ret, ro⟩ H1 n1 R W) (fun v => frunQ P F orc fuel b ⟨fn, T, todo, ds, .pan v, ro⟩ H1 n1 R W) mode) c1
noncomputable def resume (P : Program) (F : FuncId → Bool) (orc : Orc) (fuel : Nat) (ih : Run) (b : Nat) (R W : List Nat) (x : Option FS) : Option Rs :=
  Option.rec none (fun fs => FS.rec (fun c' H' n' R' W' => goF P F orc fuel ih b c' H' n' (addl b R' R) (addl b W' W)) (fun out H' n' R' W' => some ⟨out, H', n', addl b R' R, addl b W' W⟩) fs) x
abbrev ItA := Program → (FuncId → Bool) → Orc → Nat → Run → Nat → FuncId → Nat → Tri → List Item → List Nat → Option Nat → Heap → Nat → List Nat → List Nat → Option Rs
noncomputable def iSlow (it : Item) : ItA := fun P F orc fuel ih b fn len tr k ds ro H n R W => resume P F orc fuel ih b R W (fstepQ P F orc (recF P F orc fuel ih) ⟨fn, ⟨len, tr⟩, it :: k, ds, .run, ro⟩ H n)
def iSkip : ItA := fun _ _ _ _ ih b fn len tr k ds ro H n R W => ih b fn len tr k ds ro H n R W
def iSeq (x y : Code) : ItA := fun _ _ _ _ ih b fn len tr k ds ro H n R W => ih b fn len tr (.code x :: .code y :: k) ds ro H n R W
noncomputable def iCond (q : Operand) (x y : Code) : ItA := fun _ _ _ _ ih b fn len tr k ds ro H n R W => Option.rec none (fun v => Option.rec none (fun t => Bool.rec (ih b fn len tr (.code y :: k) ds ro H n R W) (ih b fn len tr (.code x :: k) ds ro H n R W) t) (boolOf v)) (evF tr q)
def iBlock (id : Nat) (x : Code) : ItA := fun _ _ _ _ ih b fn len tr k ds ro H n R W => ih b fn len tr (.code x :: .inBlock id :: k) ds ro H n R W
def iLoop (x : Code) : ItA := fun _ _ _ _ ih b fn len tr k ds ro H n R W => ih b fn len tr (.code x :: .inLoop x :: k) ds ro H n R W
def iScope (x : Code) : ItA := fun _ _ _ _ ih b fn len tr k ds ro H n R W => ih b fn len tr (.code x :: .inScope x :: k) ds ro H n R W
noncomputable def iRegion (id : Nat) (ops : Array Oper) (draw : Bool) : ItA := fun P F orc fuel ih b fn len tr k ds ro H n R W =>
  Option.rec none (fun p => Prod.rec (fun recs f => RF.rec (fun T' H' n' => Bool.rec none (Tm.rec (fun len' tr' => ih b fn len' tr' k ds ro H' n' (addR b recs R) (addW b recs W)) T') (chk ops recs draw))
    (fun T' v H' n' R1 W1 => resume P F orc fuel ih b R W (qReg ⟨fn, ⟨len, tr⟩, .code (.region id ops draw) :: k, ds, .run, ro⟩ ops draw k (some (recs, .pan T' v H' n' R1 W1)))) f) p) (rrunG P F orc (recF P F orc fuel ih) len tr ops H n)
noncomputable def codeF (cd : Code) : ItA := Code.rec iSkip iRegion (fun x y _ _ => iSeq x y) (fun q x y _ _ => iCond q x y) (fun id x _ => iBlock id x) (fun x _ => iLoop x) (fun f ps x y _ _ => iSlow (.code (.rangeFunc f ps x y))) (fun id => iSlow (.code (.exit id))) (fun x _ => iScope x) (fun _ => iSkip) (fun l => iSlow (.code (.goto l))) (iSlow (.code .ret)) (fun w => iSlow (.code (.refuse w))) cd
noncomputable def itemF (it : Item) : ItA := Item.rec codeF (fun _ => iSkip) iLoop (fun _ => iSkip) (fun a b => iSlow (.inRegion a b)) (fun l => iSlow (.inRangeFunc l)) (fun l => iSlow (.endRangeFunc l)) (iSlow .beginRound) (fun a b c d => iSlow (.call a b c d)) (fun a b => iSlow (.extern a b)) it
noncomputable def frunF (P : Program) (F : FuncId → Bool) (orc : Orc) (fuel : Nat) : Run := Nat.rec (fun _ _ _ _ _ _ _ _ _ _ _ => none) (fun fuel ih b fn len tr todo ds ro H n R W =>
  List.rec (resume P F orc fuel ih b R W (leaveC ⟨fn, ⟨len, tr⟩, [], ds, .run, ro⟩ H n none)) (fun it k _ => itemF it P F orc fuel ih b fn len tr k ds ro H n R W) todo) fuel
theorem frunF_eq (P : Program) (F : FuncId → Bool) (orc : Orc) : ∀ (fuel b : Nat) (fn : FuncId) (len : Nat) (tr : Tri) (todo : List Item) (ds : List Nat) (ro : Option Nat) (H : Heap) (n : Nat) (R W : List Nat), frunF P F orc fuel b fn len tr todo ds ro H n R W = frunQ P F orc fuel b ⟨fn, ⟨len, tr⟩, todo, ds, .run, ro⟩ H n R W
  | 0, _, _, _, _, _, _, _, _, _, _, _ => rfl
  | fuel + 1, b, fn, len, tr, todo, ds, ro, H, n, R, W => by
    have hih : ∀ (b : Nat) (fn : FuncId) (len : Nat) (tr : Tri) (todo : List Item) (ds : List Nat) (ro : Option Nat) (H : Heap) (n : Nat) (R W : List Nat), frunF P F orc fuel b fn len tr todo ds ro H n R W = frunQ P F orc fuel b ⟨fn, ⟨len, tr⟩, todo, ds, .run, ro⟩ H n R W := frunF_eq P F orc fuel
    have hrec : recF P F orc fuel (frunF P F orc fuel) = fun c1 H1 n1 => frunQ P F orc fuel n1 c1 H1 n1 [] [] := by
      funext c1 H1 n1
      obtain ⟨fn, ⟨len, tr⟩, todo, ds, mode, ro⟩ := c1
      cases mode with
      | run => exact hih _ _ _ _ _ _ _ _ _ _ _
      | ret => rfl
      | pan v => rfl
    have hres : ∀ (R W : List Nat) (x : Option FS), resume P F orc fuel (frunF P F orc fuel) b R W x = match x with
        | some (.go c' H' n' R' W') => frunQ P F orc fuel b c' H' n' (addl b R' R) (addl b W' W)
        | some (.done out H' n' R' W') => some ⟨out, H', n', addl b R' R, addl b W' W⟩
        | none => none := by
      intro R W x
      cases x with
      | none => rfl
      | some fs =>
        cases fs with
        | done out H' n' R' W' => rfl
        | go c' H' n' R' W' =>
          obtain ⟨fn, ⟨len, tr⟩, todo, ds, mode, ro⟩ := c'
          cases mode with
          | run => exact hih _ _ _ _ _ _ _ _ _ _ _
          | ret => rfl
          | pan v => rfl
    have hslow : ∀ (it : Item) (k : List Item), iSlow it P F orc fuel (frunF P F orc fuel) b fn len tr k ds ro H n R W = frunQ P F orc (fuel + 1) b ⟨fn, ⟨len, tr⟩, it :: k, ds, .run, ro⟩ H n R W := by
      intro it k
      unfold iSlow
      rw [hres, hrec]
      rfl
    cases todo with
    | nil => exact hres R W _
    | cons it k =>
      show itemF it P F orc fuel (frunF P F orc fuel) b fn len tr k ds ro H n R W = _
      cases it with
      | code cd =>
        cases cd with
        | skip => exact hih _ _ _ _ _ _ _ _ _ _ _
        | label l => exact hih _ _ _ _ _ _ _ _ _ _ _
        | seq x y => exact hih _ _ _ _ _ _ _ _ _ _ _
        | block id x => exact hih _ _ _ _ _ _ _ _ _ _ _
        | loop x => exact hih _ _ _ _ _ _ _ _ _ _ _
        | scope x => exact hih _ _ _ _ _ _ _ _ _ _ _
        | cond q x y =>
          show (Option.rec none (fun v => Option.rec none (fun t => Bool.rec (frunF P F orc fuel b fn len tr (.code y :: k) ds ro H n R W) (frunF P F orc fuel b fn len tr (.code x :: k) ds ro H n R W) t) (boolOf v)) (evF tr q) : Option Rs) = _
          rw [evF_eq len tr, hih, hih]
          simp only [frunQ, fstepQ, qItem, qCode]
          cases evC ⟨len, tr⟩ q with
          | none => rfl
          | some v =>
            cases v with
            | bool t => cases t <;> rfl
            | _ => rfl
        | region id ops draw =>
          show iRegion id ops draw P F orc fuel (frunF P F orc fuel) b fn len tr k ds ro H n R W = _
          unfold iRegion
          rw [rrunG_eq, hrec]
          simp only [frunQ, fstepQ, qItem, qCode, addR_eq, addW_eq]
          cases hrr : rrunQ P F orc (fun c1 H1 n1 => frunQ P F orc fuel n1 c1 H1 n1 [] []) ops ops.toList ⟨len, tr⟩ H n with
          | none => rfl
          | some p =>
            obtain ⟨recs, f⟩ := p
            cases f with
            | pan v H' n' R1 W1 => exact hres R W _
            | ok T' H' n' =>
              have hck := chk_eq (draw := draw) (rrunQ_ops _ _ _ _ _ _ _ _ hrr)
              obtain ⟨len', tr'⟩ := T'
              simp only [qReg]
              rw [hck]
              cases !draw || (edgesOk 0 ops.toList && indep ops 0 recs (befs ops.toList [])) with
              | false => rfl
              | true => exact hih _ _ _ _ _ _ _ _ _ _ _
        | rangeFunc f ps x y => exact hslow _ k
        | exit id => exact hslow _ k
        | goto id => exact hslow _ k
        | ret => exact hslow _ k
        | refuse w => exact hslow (.code (.refuse w)) k
      | inBlock id => exact hih _ _ _ _ _ _ _ _ _ _ _
      | inScope x => exact hih _ _ _ _ _ _ _ _ _ _ _
      | inLoop x => exact hih _ _ _ _ _ _ _ _ _ _ _
      | inRegion a b => exact hslow _ k
      | inRangeFunc l => exact hslow _ k
      | endRangeFunc l => exact hslow _ k
      | beginRound => exact hslow _ k
      | call a b c d => exact hslow _ k
      | extern a b => exact hslow _ k
end Go.CE
/- CE: calls whose arguments are known, at the level of worlds. -/
namespace Go.CE
open Go Go.RowKit

def noOrc : Orc := fun _ _ _ _ => none
theorem noOrc_ok (P : Program) (B : Lo) : OrcS P B noOrc := fun _ _ _ _ _ _ h => by cases h
/-- What a call comes to, by the machine that the kernel reckons. -/
noncomputable def callC (P : Program) (F : FuncId → Bool) (orc : Orc) (fuel : Nat) (f : FuncId) (args : Array Value) (H : Heap) (n : Nat) : Option Rs :=
  Option.rec none (fun c => CF.rec (fun fn T todo ds mode ro => CM.rec (Tm.rec (fun len tr => frunF P F orc fuel n fn len tr todo ds ro H n [] []) T) none (fun _ => none) mode) c) (enterC P f args)
theorem callC_frun {P : Program} {F : FuncId → Bool} {orc : Orc} {fuel : Nat} {f : FuncId} {args : Array Value} {H : Heap} {n : Nat} {s : Rs} (h : callC P F orc fuel f args H n = some s) : ∃ c, enterC P f args = some c ∧ frun P F orc fuel n c H n [] [] = some s := by
  unfold callC at h
  cases hc : enterC P f args with
  | none => rw [hc] at h; cases h
  | some c =>
    rw [hc] at h
    obtain ⟨fn, ⟨len, tr⟩, todo, ds, mode, ro⟩ := c
    cases mode with
    | run =>
      refine ⟨_, rfl, ?_⟩
      rw [← frunQ_eq, ← frunF_eq]
      exact h
    | ret => cases h
    | pan v => cases h
theorem callC_under {P : Program} {F : FuncId → Bool} {orc : Orc} {B : Lo} (horc : OrcS P B orc) (hF : ∀ g, F g = true → okFn P g = true) (hmix : P.follows .mixedOrders = true) {fuel : Nat} {f : FuncId} {args : Array Value} {H : Heap} {n : Nat} {s : Rs} (h : callC P F orc fuel f args H n = some s) (hu : Under H n) : Under s.H s.n := by
  obtain ⟨c, _, hr⟩ := callC_frun h
  obtain ⟨Rr, Wr, hfj, _, _, _, _⟩ := frun_sound (B := B) hF hmix horc fuel n c H n [] [] s hu (fun i hi => by simp at hi) (fun i hi => by simp at hi) hr
  exact hu.shape hfj.shape
theorem calls_closed {P : Program} {F : FuncId → Bool} {orc : Orc} (hF : ∀ g, F g = true → okFn P g = true) (hmix : P.follows .mixedOrders = true) {fuel : Nat} {f : FuncId} {args args' : Array Value} {H : Heap} {n : Nat} {s : Rs} (h : callC P F orc fuel f args H n = some s) (hu : Under H n) {w : World} {μ : Mu}
    {I : World → Prop} {hI : ∀ w1 w2 : World, (∀ b, b < w.heap.size → w2.heap[b]? = w1.heap[b]?) → I w1 → I w2} (horc : OrcS P ⟨w.heap.size, I, hI⟩ orc) (hi : I w) (hok : Ok w.heap.size (fun i => i < n) μ (hget H) w) (hv : VRs μ args args') (hf : ∀ i, n ≤ i → μ i = none) :
    Calls P f args' w fun e w' => ∃ out' μ', Post w.heap.size (fun i => i < n) n s.n s.W μ μ' H s.H w w' ∧ OR2 μ' s.out out' ∧ e = out'.ending := by
  obtain ⟨c, hc, hr⟩ := callC_frun h
  obtain ⟨Rr, Wr, hfj, a1, a2, a3, a4⟩ := frun_sound (B := ⟨w.heap.size, I, hI⟩) hF hmix horc fuel n c H n [] [] s hu (fun i hi => by simp at hi) (fun i hi => by simp at hi) hr
  have hfj := hfj.lists (fun i hi => by simpa using a1 i hi) (fun i hi => by simpa using a2 i hi) a4
  intro cs
  obtain ⟨out', w', μ', hp, ho, he⟩ := hfj.sem _ μ w _ cs hok ⟨Nat.le_refl _, hi⟩ (fun _ hi => hi) (fun i hi _ => hf i hi) (enterC_FrR hc hv) (fun i _ hi => hi)
  obtain ⟨frE, h1, h2, h3⟩ := he.1 rfl
  refine ⟨out'.ending, w', frE, ⟨out', μ', hp, ho, rfl⟩, ?_, h2, h3⟩
  cases out' with
  | ret v => exact h1
  | pan v => exact h1
/-- Blocks that are looked at alone, where they lie in a world. -/
def Lies (w : World) (blk off : Nat) (cs : Array Value) : Prop := blk < w.heap.size ∧ ∀ (i : Nat) v, cs[i]? = some v → w.cell? ⟨blk, off + i, none⟩ = some v
def muOf (l : List (Nat × Nat)) : Mu := fun i => (l[i]?).map fun x => ⟨x.1, x.2, 0, false⟩
def heapOf (i : Nat) : List (Array Value × TypeId) → Heap
  | [] => []
  | (cs, t) :: l => (i, .cells cs t (1, 1)) :: heapOf (i + 1) l
theorem hget_heapOf : ∀ (l : List (Array Value × TypeId)) (i k : Nat), hget (heapOf i l) k = if i ≤ k then (l[k - i]?).map fun x => .cells x.1 x.2 (1, 1) else none
  | [], i, k => by simp [heapOf, hget]
  | (cs, t) :: l, i, k => by
    simp only [heapOf]
    rw [hget_cons, hget_heapOf l (i + 1) k]
    by_cases e : k = i
    · subst e; simp
    · rw [if_neg e]
      by_cases h : i ≤ k
      · rw [if_pos h, if_pos (by omega), show k - i = (k - (i + 1)) + 1 by omega]
        simp
      · rw [if_neg h, if_neg (by omega)]
theorem ok_lies {w : World} {l : List (Array Value × TypeId)} {at' : List (Nat × Nat)} (hl : at'.length = l.length) (h : ∀ (i : Nat) x a, l[i]? = some x → at'[i]? = some a → Lies w a.1 a.2 x.1 ∧ x.1.all af = true) : Ok w.heap.size (fun i => i < l.length) (muOf at') (hget (heapOf 0 l)) w := by
  have key : ∀ i o, i < l.length → hget (heapOf 0 l) i = some o → ∃ x a, l[i]? = some x ∧ at'[i]? = some a ∧ o = .cells x.1 x.2 (1, 1) := by
    intro i o hi ho
    rw [hget_heapOf, if_pos (Nat.zero_le _), Nat.sub_zero] at ho
    have h1 : l[i]? = some l[i] := by simp [hi]
    have h2 : at'[i]? = some (at'[i]'(by omega)) := by simp [hl ▸ hi]
    rw [h1] at ho
    simp only [Option.map_some, Option.some.injEq] at ho
    exact ⟨_, _, h1, h2, ho.symm⟩
  refine ⟨fun i o hi ho _ => ?_, fun i o im hi ho _ him => ?_, fun i j oi oj a b hi hj _ hoi _ _ _ ha _ hra _ => ?_⟩
  · obtain ⟨x, a, h1, h2, rfl⟩ := key i o hi ho
    obtain ⟨⟨_, hc⟩, haf⟩ := h i x a h1 h2
    refine ⟨⟨a.1, a.2, 0, false⟩, by simp [muOf, h2], .inr ⟨by simp, fun k v hv => ⟨v, hc k v hv, vr_af (Array.all_eq_true'.1 haf v (Array.mem_of_getElem? hv))⟩⟩⟩
  · obtain ⟨x, a, h1, h2, rfl⟩ := key i o hi ho
    simp only [muOf, h2, Option.map_some, Option.some.injEq] at him
    subst him
    exact ⟨(h i x a h1 h2).1.1, (fun h => by cases h), fun _ => (h i x a h1 h2).1.1⟩
  · obtain ⟨x, q, h1, h2, _⟩ := key i oi hi hoi
    simp only [muOf, h2, Option.map_some, Option.some.injEq] at ha
    subst ha
    cases hra
theorem under_heapOf (l : List (Array Value × TypeId)) : Under (heapOf 0 l) l.length := by
  intro i hi
  rw [hget_heapOf, if_pos (Nat.zero_le _), Nat.sub_zero, List.getElem?_eq_none (by omega)]
  rfl
theorem muOf_free {at' : List (Nat × Nat)} : ∀ i, at'.length ≤ i → muOf at' i = none := fun i hi => by simp [muOf, List.getElem?_eq_none hi]
/-! ### Answers known beforehand -/
end Go.CE
/- CE: what an answer is, told by a Bool that the kernel reckons. -/
namespace Go.CE
open Go Go.RowKit

def eqL (p : Value → Value → Bool) : List Value → List Value → Bool
  | [], [] => true
  | x :: l, y :: m => p x y && eqL p l m
  | _, _ => false
theorem eqL_sound {p : Value → Value → Bool} (hp : ∀ x y, p x y = true → x = y) : ∀ (l m : List Value), eqL p l m = true → l = m
  | [], [], _ => rfl
  | x :: l, y :: m, h => by
    simp only [eqL, Bool.and_eq_true] at h
    rw [hp x y h.1, eqL_sound hp l m h.2]
  | [], _ :: _, h => by cases h
  | _ :: _, [], h => by cases h
def eqBy : List UInt8 → List UInt8 → Bool
  | [], [] => true
  | x :: l, y :: m => Nat.beq x.toNat y.toNat && eqBy l m
  | _, _ => false
theorem eqBy_sound : ∀ (l m : List UInt8), eqBy l m = true → l = m
  | [], [], _ => rfl
  | x :: l, y :: m, h => by
    simp only [eqBy, Bool.and_eq_true] at h
    rw [UInt8.toNat_inj.1 (Nat.eq_of_beq_eq_true h.1), eqBy_sound l m h.2]
  | [], _ :: _, h => by cases h
  | _ :: _, [], h => by cases h
def eqV0 : Value → Value → Bool
  | .bool a, .bool b => a == b
  | .int k a, .int l b => decide (k = l) && eqq a b
  | .slice (some ⟨a, o, none⟩) n s, .slice (some ⟨b, p, none⟩) m t => Nat.beq a b && Nat.beq o p && Nat.beq n m && Nat.beq s t
  | .slice none n s, .slice none m t => Nat.beq n m && Nat.beq s t
  | .string a, .string b => eqBy a.data.toList b.data.toList
  | _, _ => false
theorem eqq_true {a b : Int} (h : eqq a b = true) : a = b := by
  rw [eqq_eq] at h
  simpa using h
theorem eqV0_sound (x y : Value) (h : eqV0 x y = true) : x = y := by
  unfold eqV0 at h
  split at h
  · simp only [beq_iff_eq] at h; rw [h]
  · simp only [Bool.and_eq_true, decide_eq_true_eq] at h
    rw [h.1, eqq_true h.2]
  · simp only [Bool.and_eq_true] at h
    obtain ⟨⟨⟨h1, h2⟩, h3⟩, h4⟩ := h
    rw [Nat.eq_of_beq_eq_true h1, Nat.eq_of_beq_eq_true h2, Nat.eq_of_beq_eq_true h3, Nat.eq_of_beq_eq_true h4]
  · simp only [Bool.and_eq_true] at h
    rw [Nat.eq_of_beq_eq_true h.1, Nat.eq_of_beq_eq_true h.2]
  · rename_i a b
    obtain ⟨a⟩ := a
    obtain ⟨b⟩ := b
    simp only at h
    rw [Array.ext' (eqBy_sound _ _ h)]
  · cases h
def eqV : Nat → Value → Value → Bool
  | f + 1, .agg x, .agg y => eqL (eqV f) x.toList y.toList
  | f + 1, .tuple x, .tuple y => eqL (eqV f) x.toList y.toList
  | _, x, y => eqV0 x y
theorem eqV_sound : ∀ (f : Nat) (x y : Value), eqV f x y = true → x = y
  | 0, x, y, h => eqV0_sound x y (by simpa [eqV] using h)
  | f + 1, x, y, h => by
    unfold eqV at h
    split at h
    · rename_i f' a b e
      cases e
      rw [Array.ext' (eqL_sound (eqV_sound f) _ _ h)]
    · rename_i f' a b e
      cases e
      rw [Array.ext' (eqL_sound (eqV_sound f) _ _ h)]
    · exact eqV0_sound _ _ h
def hasCells (H : Heap) (x : Nat × Array Value × TypeId) : Bool := match hget H x.1 with
  | some (.cells ds t (0, 0)) => eqL (eqV 1) ds.toList x.2.1.toList && Nat.beq t x.2.2
  | _ => false
def isAns (x : Option Rs) (out : Value) (bs : List (Nat × Array Value × TypeId)) : Bool := match x with
  | some ⟨.ret v, H, _, _, []⟩ => eqV 3 v out && bs.all (hasCells H)
  | _ => false
theorem isAns_spec {x : Option Rs} {out : Value} {bs : List (Nat × Array Value × TypeId)} (h : isAns x out bs = true) : ∃ s, x = some s ∧ s.out = .ret out ∧ s.W = [] ∧ ∀ y ∈ bs, hget s.H y.1 = some (.cells y.2.1 y.2.2 (0, 0)) := by
  unfold isAns at h
  split at h
  · rename_i v H n R
    simp only [Bool.and_eq_true] at h
    refine ⟨_, rfl, by rw [eqV_sound 3 _ _ h.1], rfl, fun y hy => ?_⟩
    have := List.all_eq_true.1 h.2 y hy
    unfold hasCells at this
    split at this
    · rename_i ds t hg
      simp only [Bool.and_eq_true] at this
      have e1 := Array.ext' (eqL_sound (eqV_sound 1) _ _ this.1)
      have e2 := Nat.eq_of_beq_eq_true this.2
      simp only
      rw [hg, e1, e2]
    · cases this
  · cases h
/-- A call with known arguments, its answer told. -/
theorem calls_ans {P : Program} {F : FuncId → Bool} {orc : Orc} (hF : ∀ g, F g = true → okFn P g = true) (hmix : P.follows .mixedOrders = true) {fuel : Nat} {f : FuncId} {args args' : Array Value} {l : List (Array Value × TypeId)} {at' : List (Nat × Nat)} {out : Value} {bs : List (Nat × Array Value × TypeId)}
    (h : isAns (callC P F orc fuel f args (heapOf 0 l) l.length) out bs = true) {w : World} {I : World → Prop} {hI : ∀ w1 w2 : World, (∀ b, b < w.heap.size → w2.heap[b]? = w1.heap[b]?) → I w1 → I w2} (horc : OrcS P ⟨w.heap.size, I, hI⟩ orc) (hi : I w) (hl : at'.length = l.length) (hlies : ∀ (i : Nat) x a, l[i]? = some x → at'[i]? = some a → Lies w a.1 a.2 x.1 ∧ x.1.all af = true) (hv : VRs (muOf at') args args') :
    Calls P f args' w fun e w' => ∃ v' n' H' μ', e = .returned v' ∧ Post w.heap.size (fun i => i < l.length) l.length n' [] (muOf at') μ' (heapOf 0 l) H' w w' ∧ VR μ' out v' ∧ (∀ y ∈ bs, hget H' y.1 = some (.cells y.2.1 y.2.2 (0, 0))) ∧ Under H' n' ∧ Below w.heap.size w w' := by
  obtain ⟨s, hs, ho, hW, hb⟩ := isAns_spec h
  obtain hc := calls_closed hF hmix hs (under_heapOf l) horc hi (ok_lies hl hlies) hv (fun i hi => muOf_free i (by omega))
  intro cs
  obtain ⟨e, w', fr, ⟨out', μ', hp, hor, he⟩, h1, h2, h3⟩ := hc cs
  refine ⟨e, w', fr, ?_, h1, h2, h3⟩
  rw [ho] at hor
  rw [hW] at hp
  cases hor with
  | ret hvr => exact ⟨_, s.n, s.H, μ', he, hp, hvr, hb, callC_under horc hF hmix hs (under_heapOf l), ⟨hp.os, hp.tape, hp.output, hp.grow, fun b hb => hp.frame b hb fun i hi => by simp at hi⟩⟩
theorem vrl_mk {μ : Mu} : ∀ (l m : List Value), l.length = m.length → (∀ (i : Nat) v v', l[i]? = some v → m[i]? = some v' → VR μ v v') → VRl μ l m
  | [], [], _, _ => .nil
  | x :: l, y :: m, hl, h => .cons (h 0 x y rfl rfl) (vrl_mk l m (by simpa using hl) fun i v v' a b => h (i + 1) v v' (by simpa using a) (by simpa using b))
  | [], _ :: _, hl, _ => by simp at hl
  | _ :: _, [], hl, _ => by simp at hl
theorem VR.tuple_inv {μ : Mu} {xs : Array Value} {v' : Value} (h : VR μ (.tuple xs) v') : ∃ ys : List Value, v' = .tuple ys.toArray ∧ VRl μ xs.toList ys := by
  cases h with
  | tuple h1 h2 =>
    rename_i ys
    exact ⟨ys.toList, by simp, vrl_mk _ _ (by simpa using h1) fun i v v' a b => h2 i v v' (by simpa using a) (by simpa using b)⟩
theorem VR.agg_inv {μ : Mu} {xs : Array Value} {v' : Value} (h : VR μ (.agg xs) v') : ∃ ys : List Value, v' = .agg ys.toArray ∧ VRl μ xs.toList ys := by
  cases h with
  | agg h1 h2 =>
    rename_i ys
    exact ⟨ys.toList, by simp, vrl_mk _ _ (by simpa using h1) fun i v v' a b => h2 i v v' (by simpa using a) (by simpa using b)⟩
theorem VRl.vrs' {μ : Mu} {l m : List Value} (h : VRl μ l m) : VRs μ l.toArray m.toArray := by
  have := h.vrs
  exact ⟨by simpa using this.1, by simpa using this.2⟩
end Go.CE
/- CE: calls whose answers were reckoned before (memos), as what is known beforehand of a greater call. -/
namespace Go.CE
open Go Go.RowKit

def eqObj : Obj → Obj → Bool
  | .cells a t (x, y), .cells b u (z, v) => eqL (eqV 1) a.toList b.toList && Nat.beq t u && Nat.beq x z && Nat.beq y v
  | _, _ => false
theorem eqObj_sound {a b : Obj} (h : eqObj a b = true) : a = b := by
  unfold eqObj at h
  split at h
  · simp only [Bool.and_eq_true] at h
    obtain ⟨⟨⟨h1, h2⟩, h3⟩, h4⟩ := h
    rw [Array.ext' (eqL_sound (eqV_sound 1) _ _ h1), Nat.eq_of_beq_eq_true h2, Nat.eq_of_beq_eq_true h3, Nat.eq_of_beq_eq_true h4]
  · cases h
/-- The heap has these blocks. -/
def hasAll (H : Heap) : Heap → Bool
  | [] => true
  | (i, o) :: l => (match hget H i with | some x => eqObj x o | none => false) && hasAll H l
theorem hasAll_sound {H : Heap} : ∀ {l : Heap}, hasAll H l = true → ∀ i o, hget l i = some o → hget H i = some o
  | [], _, i, o, ho => by cases ho
  | (k, x) :: l, h, i, o, ho => by
    simp only [hasAll, Bool.and_eq_true] at h
    rw [hget_cons] at ho
    by_cases e : i = k
    · subst e
      rw [if_pos rfl] at ho
      simp only [Option.some.injEq] at ho
      subst ho
      have h1 := h.1
      split at h1
      · rename_i y hy
        rw [hy, eqObj_sound h1]
      · cases h1
    · rw [if_neg e] at ho
      exact hasAll_sound h.2 i o ho
/-- A call that was reckoned: its blocks that it looks at, the next number; its answer, its new blocks that matter, the next number behind it. -/
structure Memo where
  g : FuncId
  args : Array Value
  H0 : Heap
  n : Nat
  out : Value
  news : Heap
  n' : Nat
def within (n n' : Nat) (l : Heap) : Bool := l.all fun x => Nat.ble n x.1 && Nat.blt x.1 n'
def isMemo (m : Memo) (x : Option Rs) : Bool := match x with
  | some ⟨.ret v, H, n', R, []⟩ => eqV 3 v m.out && Nat.beq n' m.n' && hasAll H m.news && within m.n m.n' m.news && within 0 m.n m.H0 && R.all (fun i => Nat.ble m.n i || (hget m.H0 i).isSome)
  | _ => false
noncomputable def Memo.run (P : Program) (F : FuncId → Bool) (orc : Orc) (fuel : Nat) (m : Memo) : Option Rs := callC P F orc fuel m.g m.args m.H0 m.n
def memoOrc : List Memo → Orc
  | [], _, _, _, _ => none
  | m :: l, g, args, H, n => bif Nat.beq m.n n && Nat.beq m.g g && eqL (eqV 1) args.toList m.args.toList && hasAll H m.H0 then some ⟨.ret m.out, m.news ++ H, m.n', m.H0.map (·.1), []⟩ else memoOrc l g args H n
theorem hget_append : ∀ (l H : Heap) (i : Nat), hget (l ++ H) i = match hget l i with | some o => some o | none => hget H i
  | [], H, i => rfl
  | (k, o) :: l, H, i => by
    rw [List.cons_append, hget_cons, hget_cons]
    by_cases e : i = k
    · rw [if_pos e, if_pos e]
    · rw [if_neg e, if_neg e]
      exact hget_append l H i
theorem within_sound {n n' : Nat} : ∀ {l : Heap}, within n n' l = true → ∀ i o, hget l i = some o → n ≤ i ∧ i < n'
  | [], _, i, o, ho => by cases ho
  | (k, x) :: l, h, i, o, ho => by
    simp only [within, List.all_cons, Bool.and_eq_true] at h
    rw [hget_cons] at ho
    by_cases e : i = k
    · subst e
      exact ⟨Nat.le_of_ble_eq_true h.1.1, Nat.le_of_ble_eq_true h.1.2⟩
    · rw [if_neg e] at ho
      exact within_sound h.2 i o ho
theorem hget_none_of_within {n n' : Nat} {l : Heap} (h : within n n' l = true) {i : Nat} (hi : i < n ∨ n' ≤ i) : hget l i = none := by
  cases hg : hget l i with
  | none => rfl
  | some o => have := within_sound h i o hg; omega
theorem hget_mem_map {l : Heap} {i : Nat} {o : Obj} (h : hget l i = some o) : i ∈ l.map (·.1) := by
  induction l with
  | nil => cases h
  | cons p l ih =>
    obtain ⟨k, x⟩ := p
    rw [hget_cons] at h
    by_cases e : i = k
    · subst e; simp
    · rw [if_neg e] at h
      exact List.mem_cons_of_mem _ (ih h)
theorem isMemo_spec {m : Memo} {x : Option Rs} (h : isMemo m x = true) : ∃ H R, x = some ⟨.ret m.out, H, m.n', R, []⟩ ∧ (∀ i o, hget m.news i = some o → hget H i = some o) ∧ within m.n m.n' m.news = true ∧ within 0 m.n m.H0 = true ∧ ∀ i ∈ R, i < m.n → ∃ o, hget m.H0 i = some o := by
  unfold isMemo at h
  split at h
  · rename_i v H n' R
    simp only [Bool.and_eq_true] at h
    obtain ⟨⟨⟨⟨⟨h1, h2⟩, h3⟩, h4⟩, h5⟩, h6⟩ := h
    refine ⟨H, R, by rw [eqV_sound 3 _ _ h1, Nat.eq_of_beq_eq_true h2], hasAll_sound h3, h4, h5, fun i hi hl => ?_⟩
    have := List.all_eq_true.1 h6 i hi
    simp only [Bool.or_eq_true] at this
    rcases this with h | h
    · have := Nat.le_of_ble_eq_true h; omega
    · exact Option.isSome_iff_exists.1 h
  · cases h
theorem orcS_cons {P : Program} {F : FuncId → Bool} {orc : Orc} {B : Lo} (hF : ∀ g, F g = true → okFn P g = true) (hmix : P.follows .mixedOrders = true) (horc : OrcS P B orc) {fuel : Nat} {m : Memo} {l : List Memo} (hm : isMemo m (m.run P F orc fuel) = true) (hl : OrcS P B (memoOrc l)) : OrcS P B (memoOrc (m :: l)) := by
  intro g args H n s hu h
  simp only [memoOrc] at h
  cases hq : (Nat.beq m.n n && Nat.beq m.g g && eqL (eqV 1) args.toList m.args.toList && hasAll H m.H0) with
  | false =>
    rw [hq] at h
    exact hl g args H n s hu h
  | true =>
    rw [hq] at h
    simp only [cond_true, Option.some.injEq] at h
    simp only [Bool.and_eq_true] at hq
    obtain ⟨⟨⟨q1, q2⟩, q3⟩, q4⟩ := hq
    obtain rfl := Nat.eq_of_beq_eq_true q1
    obtain rfl := Nat.eq_of_beq_eq_true q2
    obtain rfl := Array.ext' (eqL_sound (eqV_sound 1) _ _ q3)
    have hH := hasAll_sound q4
    subst h
    obtain ⟨Hs, R, hrun, hnews, hw, hw0, hR0⟩ := isMemo_spec hm
    obtain ⟨c, hc, hr⟩ := callC_frun hrun
    have hu0 : Under m.H0 m.n := fun i hi => hget_none_of_within hw0 (.inr hi)
    obtain ⟨Rr, Wr, hfj, a1, a2, a3, a4⟩ := frun_sound (B := B) hF hmix horc fuel m.n c m.H0 m.n [] [] _ hu0 (fun i hi => by simp at hi) (fun i hi => by simp at hi) hr
    have hfj := hfj.lists (fun i hi => by simpa using a1 i hi) (fun i hi => by simpa using a2 i hi) a4
    have hle : m.n ≤ m.n' := hfj.shape.le
    have hgo : ∀ i, i < m.n ∨ m.n' ≤ i → hget (m.news ++ H) i = hget H i := fun i hi => by
      rw [hget_append, hget_none_of_within hw hi]
    have hgn : ∀ i o, m.n ≤ i → hget (m.news ++ H) i = some o → hget Hs i = some o := by
      intro i o h1 h2
      rw [hget_append] at h2
      cases hg : hget m.news i with
      | some x =>
        rw [hg] at h2
        rw [hnews i x hg]; exact h2
      | none =>
        rw [hg, hu i h1] at h2
        cases h2
    refine ⟨⟨hle, fun i hi _ => hgo i (.inl hi), fun i hi => hgo i (.inr hi), fun _ h => by simp at h, fun _ h => by simp at h⟩, fun S μ w args' cs hok hB hS hf hv hR => ?_⟩
    simp only at hf hR ⊢
    have hok0 : Ok B (fun i => S i ∧ ∃ o, hget m.H0 i = some o) μ (hget m.H0) w := by
      refine ⟨fun i o hi ho hl => hok.rel i o hi.1 (hH i o ho) hl, fun i o im hi ho hl => hok.low i o im hi.1 (hH i o ho) hl, fun i j oi oj a b hi hj hij hoi hoj => hok.inj i j oi oj a b hi.1 hj.1 hij (hH i oi hoi) (hH j oj hoj)⟩
    obtain ⟨out', w', μ', hp, ho, he⟩ := hfj.sem _ μ w _ cs hok0 hB (fun i hi => hS i hi.1) hf (enterC_FrR hc hv) (fun i hi hl => by
      obtain ⟨o, ho⟩ := hR0 i hi hl
      exact ⟨hR i (hget_mem_map ho) hl, o, ho⟩)
    simp only at hp ho
    have hold : ∀ i im, S i → μ i = some im → μ' i = some im := fun i im hi h => by
      have := hS i hi
      rw [hp.ext i (by omega)]; exact h
    have hext : Ext μ μ' := hp.mu hf
    have hfr : ∀ i im o, m.n ≤ i → i < m.n' → hget (m.news ++ H) i = some o → live o → μ' i = some im → im.rw = true ∧ w.heap.size ≤ im.blk := by
      intro i im o h1 h2 h3 h4 h5
      obtain ⟨x, y⟩ := hp.fresh i im o h1 h2 (hgn i o h1 h3) h4 h5
      exact ⟨x, y.elim id fun ⟨k, hk, _⟩ => by simp at hk⟩
    have hOld : ∀ i o, S i → hget (m.news ++ H) i = some o → live o → ∃ im, μ i = some im ∧ μ' i = some im ∧ hget H i = some o ∧ im.blk < w.heap.size := by
      intro i o hi ho hl
      have := hS i hi
      rw [hgo i (.inl this)] at ho
      obtain ⟨im, him, _⟩ := hok.rel i o hi ho hl
      exact ⟨im, him, hold i im hi him, ho, (hok.low i o im hi ho hl him).1⟩
    refine ⟨out', w', μ', ⟨⟨fun i o hi ho hl => ?_, fun i o im hi ho hl him => ?_, fun i j oi oj a b hi hj hij hoi hoj hli hlj ha hb hra hrb => ?_⟩, hle, hp.ext, fun i hi _ => hgo i (.inl hi), hp.grow, fun b hb _ => hp.frame b hb fun i hi => by simp at hi, fun i hi => by simp at hi,
      fun i im o h1 h2 h3 h4 h5 => ⟨(hfr i im o h1 h2 h3 h4 h5).1, .inl (hfr i im o h1 h2 h3 h4 h5).2⟩, hp.os, hp.tape, hp.output⟩, ho, he⟩
    · rcases hi with hi | hi
      · obtain ⟨im, him, him', ho', hlt⟩ := hOld i o hi ho hl
        obtain ⟨im2, him2, hr2⟩ := hok.rel i o hi ho' hl
        rw [him] at him2; cases him2
        exact ⟨im, him', hr2.keep hext (hp.frame _ hlt fun i hi => by simp at hi)⟩
      · exact hp.ok.rel i o (.inr hi) (hgn i o hi.1 ho) hl
    · rcases hi with hi | hi
      · obtain ⟨im2, him2, him', ho', hlt⟩ := hOld i o hi ho hl
        rw [him] at him'; cases him'
        exact ⟨Nat.lt_of_lt_of_le hlt hp.grow, (hok.low i o im hi ho' hl him2).2⟩
      · exact hp.ok.low i o im (.inr hi) (hgn i o hi.1 ho) hl him
    · rcases hi with hi | hi <;> rcases hj with hj | hj
      · obtain ⟨im, h1, h2, h3, _⟩ := hOld i oi hi hoi hli
        obtain ⟨jm, k1, k2, k3, _⟩ := hOld j oj hj hoj hlj
        rw [ha] at h2; cases h2
        rw [hb] at k2; cases k2
        exact hok.inj i j oi oj a b hi hj hij h3 k3 hli hlj h1 k1 hra hrb
      · obtain ⟨im, h1, h2, h3, h4⟩ := hOld i oi hi hoi hli
        rw [ha] at h2; cases h2
        have := (hfr j b oj hj.1 hj.2 hoj hlj hb).2
        omega
      · obtain ⟨im, h1, h2, h3, h4⟩ := hOld j oj hj hoj hlj
        rw [hb] at h2; cases h2
        have := (hfr i a oi hi.1 hi.2 hoi hli ha).2
        omega
      · exact hp.ok.inj i j oi oj a b (.inr hi) (.inr hj) hij (hgn i oi hi.1 hoi) (hgn j oj hj.1 hoj) hli hlj ha hb hra hrb
theorem orcS_nil (P : Program) (B : Lo) : OrcS P B (memoOrc []) := fun _ _ _ _ _ _ h => by cases h
end Go.CE
/- CE: calls of functions that defer a function which recovers. First: steps. -/
namespace Go.CE
open Go Go.RowKit

section
variable {P : Program} {fr : Frame} {cs : List Frame} {w : World} {A : Array Value} {ops : Array Oper} {i : Nat} {l : List Nat} {k : List Item} {o : Oper}
end

/-! ### What is reckoned -/
structure MS where
  c : CF
  H : Heap
  n : Nat
  R : List Nat
  W : List Nat
/-- A region's operations up to a special one, which is there. -/
structure SpR where
  T : Tm
  H : Heap
  n : Nat
  o : Oper
  post : List Oper
  recs : List Rec

theorem Post.lists {B n n' : Nat} {S : Nat → Prop} {W W' : List Nat} {μ μ' : Mu} {H H' : Heap} {w w' : World} (h : Post B S n n' W μ μ' H H' w w') (hW : ∀ i, i < n → (i ∈ W' ↔ i ∈ W)) : Post B S n n' W' μ μ' H H' w w' :=
  ⟨h.ok, h.le, h.ext, fun i hi hw => h.keep i hi fun e => hw ((hW i hi).2 e), h.grow, fun b hb hw => h.frame b hb fun i hi hl => hw i ((hW i hl).2 hi) hl, fun i hi hl => h.wr i ((hW i hl).1 hi) hl, fun i im o h1 h2 ho hl hm => by
    obtain ⟨hr, hf⟩ := h.fresh i im o h1 h2 ho hl hm
    exact ⟨hr, hf.imp id fun ⟨k, a, b, d⟩ => ⟨k, (hW k b).2 a, b, d⟩⟩, h.os, h.tape, h.output⟩
/-! ### That it is right -/
section
variable {P : Program} {F : FuncId → Bool} {orc : Orc} {B : Lo}
theorem GoJ.refl (c : CF) (H : Heap) (n : Nat) : GoJ P B c H n c H n [] [] := ⟨Shape.same _ _ _, fun _ μ w fr _ _ hok _ _ _ hfr _ => ⟨fr, w, μ, Post.refl hok, hfr, rfl, rfl, Steps.refl _ _⟩⟩
theorem GoJ.trans {c c' c'' : CF} {H H' H'' : Heap} {n n' n'' : Nat} {R R' W W' : List Nat} (h : GoJ P B c H n c' H' n' R W) (k : GoJ P B c' H' n' c'' H'' n'' R' W') : GoJ P B c H n c'' H'' n'' (R ++ R') (W ++ W') := by
  refine ⟨h.shape.trans k.shape, fun S μ w fr cs Z hok hB hS hf hfr hR => ?_⟩
  have l1 := h.shape.le
  have l2 := k.shape.le
  obtain ⟨fr1, w1, μ1, hp, hfr1, hr, hfn, hst⟩ := h.sem S μ w fr cs Z hok hB hS (fun q a b => hf q a (by omega)) hfr (fun q hq hlt => hR q (List.mem_append_left _ hq) hlt)
  obtain ⟨fr2, w2, μ2, hp2, hfr2, hr2, hfn2, hst2⟩ := k.sem _ μ1 w1 fr1 cs Z hp.ok (hB.post hok hp) (fun q hq => hq.elim (fun e => by have := hS q e; omega) (fun e => e.2))
    (fun q a b => by rw [hp.ext q (by omega)]; exact hf q (by omega) b) hfr1 (fun q hq hlt => by
      rcases Nat.lt_or_ge q n with h1 | h1
      · exact .inl (hR q (List.mem_append_right _ hq) h1)
      · exact .inr ⟨h1, hlt⟩)
  exact ⟨fr2, w2, μ2, hp.trans hp2, hfr2, hr2.trans hr, hfn2.trans hfn, hst.trans hst2⟩
/-- What has been done so far, from a beginning on. -/
structure Sofar (B : Lo) (S : Nat → Prop) (n N : Nat) (W : List Nat) (μ0 μ : Mu) (H0 H : Heap) (m : Nat) (w0 w : World) : Prop where
  post : Post B S n m W μ0 μ H0 H w0 w
  has : B.has w
  free : Free μ m N
variable {S : Nat → Prop} {n N m m2 : Nat} {W W2 R2 : List Nat} {μ0 μ : Mu} {H0 H H2 : Heap} {w0 w : World}
theorem Sofar.seq (s : Sofar B S n N W μ0 μ H0 H m w0 w) (hS : ∀ i, S i → i < n) {ops : Array Oper} {recs : List Rec} {len : Nat} {T T2 : Tm} (hch : Chain recs T H m T2 H2 m2) (hs : ∀ r ∈ recs, Sane len r) (hk : ∀ r ∈ recs, RecOk P B ops r) (i : Nat)
    (ho : ∀ (j : Nat) r, recs[j]? = some r → ops[i + j]? = some r.o) (hl : T.len = len) (hN : m2 ≤ N) (hR : ∀ i ∈ allR recs, i < n → S i) {fr : Frame} {A : Array Value} (hm : fr.mode = .run) (hT : TR μ T A) (rest : List Nat) (k : List Item) (cs : List Frame) :
    ∃ A' w' μ', Sofar B S n N (W ++ allW recs) μ0 μ' H0 H2 m2 w0 w' ∧ TR μ' T2 A' ∧ Ext μ μ' ∧ Steps P (lone (inReg fr A ops (List.range' i recs.length ++ rest) k) cs w) (lone (inReg fr A' ops rest k) cs w') := by
  have l1 := s.post.le
  have l2 := (chain_shape recs _ _ _ _ _ _ hch hs).le
  have hf : Free μ m m2 := fun q a b => s.free q a (by omega)
  obtain ⟨μ', A', w', hp, h1, h2⟩ := seq_run (fr := fr) (cs := cs) (k := k) hm recs i T H m T2 H2 m2 rest hch hs hk ho hl _ μ w A s.post.ok s.has (fun i hi => hi.elim (fun e => by have := hS i e; omega) (fun e => e.2)) hf
    (fun q hq hlt => by
      rcases Nat.lt_or_ge q n with h1 | h1
      · exact .inl (hR q hq h1)
      · exact .inr ⟨h1, hlt⟩) hT
  exact ⟨A', w', μ', ⟨s.post.trans hp, s.has.post s.post.ok hp, fun q a b => by rw [hp.ext q (by omega)]; exact s.free q (by omega) b⟩, h1, hp.mu hf, h2⟩
end
end Go.CE
