/- CE: the canonical machine again, its cases in small pieces: the kernel evaluates it quicker. -/
import Derived.Test.YtiaaikkmipmhnaaGreatDoorZCS04
set_option linter.all false
namespace Go.CE
open Go Go.RowKit

def qAlloc (P : Program) (t : TypeId) (H : Heap) (n : Nat) : Option CR := match zeroOf P t with
  | some z => bif af z then some ⟨.val (nptr n), (n, .cells z.cells t (0, 0)) :: H, n + 1, [], []⟩ else none
  | none => none
def qBox (t : TypeId) (x : Option Value) (H : Heap) (n : Nat) : Option CR := match x with
  | some v => some ⟨.val (nptr n), (n, .cells v.cells t (0, 0)) :: H, n + 1, [], []⟩
  | none => none
def qBuild (P : Program) (t : TypeId) (l : Option (List (Nat × Value))) (H : Heap) (n : Nat) : Option CR := match l with
  | some l => mkPure (cBuild P t l) H n
  | none => none
def qBuildSlice (P : Program) (t : TypeId) (len : Nat) (l : Option (List (Nat × Value))) (H : Heap) (n : Nat) : Option CR := match l with
  | some l => match cBuildSlice P t len l with
    | some (e, cs, s) => some ⟨.val (.slice (some ⟨n, 0, none⟩) len s), (n, .cells cs e (0, 0)) :: H, n + 1, [], []⟩
    | none => bif emptySl P t len l then some ⟨.val noCapV, H, n, [], []⟩ else none
  | none => none
def qLoad (P : Program) (t : TypeId) (a : Option Value) (H : Heap) (n : Nat) : Option CR := match a with
  | some p => match cLoad P t H p with
    | some (v, b) => some ⟨.val v, H, n, [b], []⟩
    | none => none
  | none => none
def qStore (P : Program) (t : TypeId) (a x : Option Value) (H : Heap) (n : Nat) : Option CR := match a, x with
  | some p, some v => match cStore P t H v p with
    | some (H', b) => some ⟨.val undef, H', n, [b], [b]⟩
    | none => none
  | _, _ => none
def qFieldAddr (P : Program) (s : TypeId) (f : Nat) (x : Option Value) (H : Heap) (n : Nat) : Option CR := match x with
  | some p => mkPure (cFieldAddr P s f p) H n
  | none => none
def qField (P : Program) (s : TypeId) (f : Nat) (x : Option Value) (H : Heap) (n : Nat) : Option CR := match x with
  | some p => mkPure (cField P s f p) H n
  | none => none
def qIndexAddr (P : Program) (t : TypeId) (x i : Option Value) (H : Heap) (n : Nat) : Option CR := match x, i with
  | some v, some k => mkPure (cIndexAddr P t v k) H n
  | _, _ => none
def qIndex (P : Program) (ev : Operand → Option Value) (o : Oper) (t : TypeId) (x i : Option Value) (H : Heap) (n : Nat) : Option CR := match x, i with
  | some (.agg cs), some k => mkPure (cIndex P t (.agg cs) k) H n
  | _, _ => mkPure (cPure P ev o) H n
def qExtract (i : Nat) (x : Option Value) (H : Heap) (n : Nat) : Option CR := match x with
  | some v => mkPure (cExtract i v) H n
  | none => none
def qMake (P : Program) (t : TypeId) (l c : Option Value) (H : Heap) (n : Nat) : Option CR := match l, c with
  | some x, some y => match cMake P t x y with
    | some (e, cs, l, s) => some ⟨.val (.slice (some ⟨n, 0, none⟩) l s), (n, .cells cs e (0, 0)) :: H, n + 1, [], []⟩
    | none => none
  | _, _ => none
def qSlice (P : Program) (ev : Operand → Option Value) (o : Oper) (t : TypeId) (x : Option Value) (lo hi : Option (Option Value)) (H : Heap) (n : Nat) : Option CR := match x, lo, hi with
  | some (.slice (some a) m s), some l, some h => match cTail P t H n (.slice (some a) m s) l h with
    | some r => some r
    | none => mkPure (cSlice P t (.slice (some a) m s) l h) H n
  | some (.pointer p), some l, some h => mkPure (cSlice P t (.pointer p) l h) H n
  | _, _, _ => mkPure (cPure P ev o) H n
def qSlice3 (P : Program) (ev : Operand → Option Value) (o : Oper) (t : TypeId) (x : Operand) (lo hi m : Option Operand) (H : Heap) (n : Nat) : Option CR := match m with
  | none => qSlice P ev o t (ev x) (evo ev lo) (evo ev hi) H n
  | some mx => match hi with
    | some h => bif cSlice3 P t (ev x) (evo ev lo) (ev h) (ev mx) then some ⟨.val noCapV, H, n, [], []⟩ else mkPure (cPure P ev o) H n
    | none => mkPure (cPure P ev o) H n
def qMakeFunc (P : Program) (ev : Operand → Option Value) (o : Oper) (fn : Fn) (first captured : Array Operand) (H : Heap) (n : Nat) : Option CR := match fn with
  | .func f => match argsOf ev first.toList, argsOf ev captured.toList with
    | some xs, some ys => some ⟨.val (.func (.func f) xs.toArray ys.toArray), H, n, [], []⟩
    | _, _ => none
  | _ => mkPure (cPure P ev o) H n
def qMakeMap (P : Program) (ev : Operand → Option Value) (o : Oper) (r : Option Operand) (H : Heap) (n : Nat) : Option CR := match r with
  | none => some ⟨.val (.map (some n)), (n, .map #[] 0) :: H, n + 1, [], []⟩
  | some _ => mkPure (cPure P ev o) H n
def qLookup (P : Program) (t : TypeId) (ok : Bool) (x k : Option Value) (H : Heap) (n : Nat) : Option CR := match x, k with
  | some m, some kv => match cLookup P t H ok m kv with
    | some (v, R) => some ⟨.val v, H, n, R, []⟩
    | none => none
  | _, _ => none
def qMapUpdate (P : Program) (t : TypeId) (m k x : Option Value) (H : Heap) (n : Nat) : Option CR := match m, k, x with
  | some mv, some kv, some v => match cMapUpdate P t H mv kv v with
    | some (H', b) => some ⟨.val undef, H', n, [b], [b]⟩
    | none => none
  | _, _, _ => none
def qBin (P : Program) (ev : Operand → Option Value) (o : Oper) (op : BinOp) (x y : Option Value) (H : Heap) (n : Nat) : Option CR := match x, y with
  | some a, some b => match cBin op a b with
    | some v => some ⟨.val v, H, n, [], []⟩
    | none => mkPure (cPure P ev o) H n
  | _, _ => none
def qNil (x : Option Value) (H : Heap) (n : Nat) : Option CR := match x with
  | some (.pointer (some a)) => some ⟨.val (.pointer (some a)), H, n, [], []⟩
  | some (.func (.func f) xs ys) => some ⟨.val (.func (.func f) xs ys), H, n, [], []⟩
  | some (.func (.yield f) xs ys) => some ⟨.val (.func (.yield f) xs ys), H, n, [], []⟩
  | _ => none
def qCall (F : FuncId → Bool) (f : Option Value) (args : Option (List Value)) (H : Heap) (n : Nat) : Option CR := match f, args with
  | some fv, some args => match cCall F H fv args.toArray with
    | some (nx, R) => some ⟨nx, H, n, R, []⟩
    | none => none
  | _, _ => none
def qAppend (P : Program) (ev : Operand → Option Value) (c : Call) (H : Heap) (n : Nat) : Option CR := match c.args.toList, c.argTypes.toList with
  | [s, x], [t, t'] => match ev s, ev x with
    | some sv, some xv => cApp P t t' H n sv xv
    | _, _ => none
  | _, _ => none
def qLen (P : Program) (ev : Operand → Option Value) (o : Oper) (c : Call) (H : Heap) (n : Nat) : Option CR := match c.args.toList, c.argTypes.toList with
  | [x], [t] => match ev x, und P t with
    | some (.slice (some _) m _), some (.slice _) => some ⟨.val (.int .i64 m), H, n, [], []⟩
    | some (.chan (some 0)), some (.slice _) => some ⟨.val (.int .i64 0), H, n, [], []⟩
    | _, _ => mkPure (cPure P ev o) H n
  | _, _ => none
def qCopy (P : Program) (ev : Operand → Option Value) (c : Call) (H : Heap) (n : Nat) : Option CR := match c.args.toList, c.argTypes.toList with
  | [s, x], [t, _] => match ev s, ev x with
    | some sv, some xv => cCopy P t H n sv xv
    | _, _ => none
  | _, _ => none
def qBuiltin (P : Program) (ev : Operand → Option Value) (o : Oper) (c : Call) (b : Builtin) (H : Heap) (n : Nat) : Option CR := match b with
  | .append => qAppend P ev c H n
  | .len => qLen P ev o c H n
  | .copy => qCopy P ev c H n
  | _ => mkPure (cPure P ev o) H n
def qCallee (P : Program) (F : FuncId → Bool) (ev : Operand → Option Value) (o : Oper) (c : Call) (H : Heap) (n : Nat) : Option CR := match c.callee with
  | .builtin b => qBuiltin P ev o c b H n
  | .value f => qCall F (ev f) (argsOf ev c.args.toList) H n
  | _ => none
def copQ (P : Program) (F : FuncId → Bool) (ev : Operand → Option Value) (o : Oper) (H : Heap) (n : Nat) : Option CR :=
  match o.op with
  | .move x => mkPure (ev x) H n
  | .assign x => mkPure (ev x) H n
  | .pick c a b => match ev c with
    | some (.bool t) => mkPure (ev (bif t then a else b)) H n
    | _ => none
  | .alloc t => qAlloc P t H n
  | .box t x => qBox t (ev x) H n
  | .build t ps => qBuild P t (partsOf ev ps.toList) H n
  | .buildSlice t len ps => qBuildSlice P t len (partsOf ev ps.toList) H n
  | .load t a => qLoad P t (ev a) H n
  | .store t a x => qStore P t (ev a) (ev x) H n
  | .fieldAddr s x f => qFieldAddr P s f (ev x) H n
  | .field t x f => qField P t f (ev x) H n
  | .indexAddr t x i => qIndexAddr P t (ev x) (ev i) H n
  | .index t x i => qIndex P ev o t (ev x) (ev i) H n
  | .extract x i => qExtract i (ev x) H n
  | .makeSlice t l c => qMake P t (ev l) (ev c) H n
  | .slice t x lo hi m => qSlice3 P ev o t x lo hi m H n
  | .makeFunc fn first captured => qMakeFunc P ev o fn first captured H n
  | .makeMap _ r => qMakeMap P ev o r H n
  | .lookup t x k ok => qLookup P t ok (ev x) (ev k) H n
  | .mapUpdate t m k x => qMapUpdate P t (ev m) (ev k) (ev x) H n
  | .insert t m k x => qMapUpdate P t (ev m) (ev k) (ev x) H n
  | .binOp op _ x y _ => qBin P ev o op (ev x) (ev y) H n
  | .nilCheck x => qNil (ev x) H n
  | .call c => qCallee P F ev o c H n
  | _ => mkPure (cPure P ev o) H n
theorem copQ_eq (P : Program) (F : FuncId → Bool) (ev : Operand → Option Value) (o : Oper) (H : Heap) (n : Nat) : copQ P F ev o H n = cop P F ev o H n := by
  unfold copQ cop
  cases o.op with
  | slice t x lo hi m => cases m <;> cases hi <;> rfl
  | makeFunc fn a b => cases fn <;> rfl
  | makeMap t r => cases r <;> rfl
  | call c =>
    simp only [qCallee]
    cases c.callee with
    | builtin b => cases b <;> rfl
    | value f => rfl
    | invoke a b => rfl
  | _ => rfl
def qDrop (r : CR) (s : Rs) : Option Rs := match dropNew r.H s with
  | s => some ⟨s.out, s.H, s.n, r.R ++ s.R, r.W ++ s.W⟩
def qRec (P : Program) (rec : CF → Heap → Nat → Option Rs) (g : FuncId) (args : Array Value) (r : CR) : Option Rs := match enterC P g args with
  | some c => match rec c r.H r.n with
    | some s => qDrop r s
    | none => none
  | none => none
def qEnter (P : Program) (orc : Orc) (rec : CF → Heap → Nat → Option Rs) (g : FuncId) (args : Array Value) (r : CR) : Option Rs := match orc g args r.H r.n with
  | some s => some ⟨s.out, s.H, s.n, r.R ++ s.R, r.W ++ s.W⟩
  | none => qRec P rec g args r
def qRound (rec : CF → Heap → Nat → Option Rs) (l : Nat) (fn : FuncId) (tm : Array Value) (a b : Code) (r : CR) : Option Rs := bif Nat.ble tm.size 16000 then match rec ⟨fn, ofList tm.size tm.toList, [.code a, .beginRound, .code b], [], .run, some l⟩ r.H r.n with
  | some s => some ⟨s.out, s.H, s.n, r.R ++ s.R, r.W ++ s.W⟩
  | none => none
  else none
def qNext (P : Program) (orc : Orc) (rec : CF → Heap → Nat → Option Rs) (r : CR) : Option Rs := match r.nx with
  | .val v => some ⟨.ret v, r.H, r.n, r.R, r.W⟩
  | .enter g args => qEnter P orc rec g args r
  | .round l fn tm a b => qRound rec l fn tm a b r
def qR (P : Program) (orc : Orc) (rec : CF → Heap → Nat → Option Rs) (n : Nat) (x : Option CR) : Option Rs := match x with
  | some r => bif r.R.all (fun i => Nat.blt i n) then qNext P orc rec r else none
  | none => none
def qPanic (v : Option Value) (H : Heap) (n : Nat) : Option Rs := match v with
  | some (.iface t v) => some ⟨.pan (.iface t v), H, n, [], []⟩
  | _ => none
def special : Op → Nat
  | .defer _ => 1
  | .panic _ => 2
  | _ => 0
def qV (v : Option Value) (H : Heap) (n : Nat) : Option Rs := match v with
  | some v => some ⟨.ret v, H, n, [], []⟩
  | none => none
def opQ (P : Program) (F : FuncId → Bool) (orc : Orc) (rec : CF → Heap → Nat → Option Rs) (T : Tm) (o : Oper) (H : Heap) (n : Nat) : Option Rs :=
  match o.op with
  | .move x => qV (evC T x) H n
  | .assign x => qV (evC T x) H n
  | .pick c a b => match evC T c with
    | some (.bool t) => qV (evC T (bif t then a else b)) H n
    | _ => none
  | .alloc t => qR P orc rec n (qAlloc P t H n)
  | .box t x => qR P orc rec n (qBox t (evC T x) H n)
  | .build t ps => qR P orc rec n (qBuild P t (partsOf (evC T) ps.toList) H n)
  | .buildSlice t len ps => qR P orc rec n (qBuildSlice P t len (partsOf (evC T) ps.toList) H n)
  | .load t a => qR P orc rec n (qLoad P t (evC T a) H n)
  | .store t a x => qR P orc rec n (qStore P t (evC T a) (evC T x) H n)
  | .fieldAddr s x f => qR P orc rec n (qFieldAddr P s f (evC T x) H n)
  | .field t x f => qR P orc rec n (qField P t f (evC T x) H n)
  | .indexAddr t x i => qR P orc rec n (qIndexAddr P t (evC T x) (evC T i) H n)
  | .index t x i => qR P orc rec n (qIndex P (evC T) o t (evC T x) (evC T i) H n)
  | .extract x i => qR P orc rec n (qExtract i (evC T x) H n)
  | .makeSlice t l c => qR P orc rec n (qMake P t (evC T l) (evC T c) H n)
  | .slice t x lo hi m => qR P orc rec n (qSlice3 P (evC T) o t x lo hi m H n)
  | .makeFunc fn first captured => qR P orc rec n (qMakeFunc P (evC T) o fn first captured H n)
  | .makeMap _ r => qR P orc rec n (qMakeMap P (evC T) o r H n)
  | .lookup t x k ok => qR P orc rec n (qLookup P t ok (evC T x) (evC T k) H n)
  | .mapUpdate t m k x => qR P orc rec n (qMapUpdate P t (evC T m) (evC T k) (evC T x) H n)
  | .insert t m k x => qR P orc rec n (qMapUpdate P t (evC T m) (evC T k) (evC T x) H n)
  | .binOp op _ x y _ => qR P orc rec n (qBin P (evC T) o op (evC T x) (evC T y) H n)
  | .nilCheck x => qR P orc rec n (qNil (evC T x) H n)
  | .call c => qR P orc rec n (qCallee P F (evC T) o c H n)
  | .defer _ => none
  | .panic x => qPanic (evC T x) H n
  | _ => qR P orc rec n (mkPure (cPure P (evC T) o) H n)
theorem qR_eq {P : Program} {F : FuncId → Bool} {orc : Orc} {rec : CF → Heap → Nat → Option Rs} {T : Tm} {o : Oper} {H : Heap} {n : Nat} (h1 : ∀ c, o.op ≠ .defer c) (h2 : ∀ x, o.op ≠ .panic x) : opS P F orc rec T o H n = qR P orc rec n (copQ P F (evC T) o H n) := by
  rw [copQ_eq]
  unfold opS
  split
  · rename_i c h; exact absurd h (h1 c)
  · rename_i x h; exact absurd h (h2 x)
  · unfold copR
    cases cop P F (evC T) o H n with
    | none => rfl
    | some r =>
      simp only [qR]
      cases r.R.all (fun i => Nat.blt i n) with
      | false => rfl
      | true =>
        simp only [cond_true, qNext]
        cases r.nx <;> rfl
theorem qR_pure {P : Program} {orc : Orc} {rec : CF → Heap → Nat → Option Rs} {H : Heap} {n : Nat} (v : Option Value) : qR P orc rec n (mkPure v H n) = qV v H n := by cases v <;> rfl
theorem opQ_eq (P : Program) (F : FuncId → Bool) (orc : Orc) (rec : CF → Heap → Nat → Option Rs) (T : Tm) (o : Oper) (H : Heap) (n : Nat) : opQ P F orc rec T o H n = opS P F orc rec T o H n := by
  cases hs : special o.op with
  | succ k =>
    unfold opQ opS
    generalize o.op = p at hs
    cases p <;> first | (simp [special] at hs; done) | rfl
  | zero =>
    rw [qR_eq (by intro c h; rw [h] at hs; cases hs) (by intro c h; rw [h] at hs; cases hs)]
    unfold opQ copQ
    generalize hp : o.op = p at hs
    cases p with
    | move x => exact (qR_pure _).symm
    | assign x => exact (qR_pure _).symm
    | pick c a b =>
      simp only
      split
      · exact (qR_pure _).symm
      · rfl
    | defer c => cases hs
    | panic c => cases hs
    | _ => rfl
def rrunQ (P : Program) (F : FuncId → Bool) (orc : Orc) (rec : CF → Heap → Nat → Option Rs) (ops : Array Oper) : List Oper → Tm → Heap → Nat → Option (List Rec × RF)
  | [], T, H, n => some ([], .ok T H n)
  | o :: l, T, H, n =>
    bif dstOk T o.dst then
      bif Region.wanted o (yieldedC ops T) then
        match opQ P F orc rec T o H n with
        | some s => match s.out with
          | .ret v => match rrunQ P F orc rec ops l (tput T o.dst v) s.H s.n with
            | some (rs, fin) => some (⟨o, true, v, T, H, s.H, n, s.n, s.R, s.W⟩ :: rs, fin)
            | none => none
          | .pan v => some ([], .pan T v s.H s.n s.R s.W)
        | none => none
      else match rrunQ P F orc rec ops l (tput T o.dst undef) H n with
        | some (rs, fin) => some (⟨o, false, undef, T, H, H, n, n, [], []⟩ :: rs, fin)
        | none => none
    else none
theorem rrunQ_eq (P : Program) (F : FuncId → Bool) (orc : Orc) (rec : CF → Heap → Nat → Option Rs) (ops : Array Oper) : ∀ (l : List Oper) (T : Tm) (H : Heap) (n : Nat), rrunQ P F orc rec ops l T H n = rrun P F orc rec ops l T H n
  | [], _, _, _ => rfl
  | o :: l, T, H, n => by simp only [rrunQ, rrun, opQ_eq, rrunQ_eq P F orc rec ops l]; rfl
def qGo (c : CF) (k : List Item) (H : Heap) (n : Nat) : Option FS := some (.go { c with todo := k } H n [] [])
def qReg (c : CF) (ops : Array Oper) (draw : Bool) (k : List Item) : Option (List Rec × RF) → Option FS
  | some (recs, .ok T' H' n') => bif !draw || (edgesOk 0 ops.toList && indep ops 0 recs (befs ops.toList [])) then some (.go { c with tmps := T', todo := k } H' n' (allR recs) (allW recs)) else none
  | some (recs, .pan T' v H' n' R W) => bif !draw || panLast ops recs T' then some (.go { c with tmps := T', mode := .pan v } H' n' (allR recs ++ R) (allW recs ++ W)) else none
  | none => none
def qRanged (c : CF) (k : List Item) (l : Nat) (ds R1 R2 : List Nat) : Option Rs → Option FS
  | some s => match s.out with
    | .ret _ => some (.go { c with todo := .endRangeFunc l :: k, defers := ds ++ c.defers } s.H s.n (R1 ++ R2 ++ s.R) s.W)
    | .pan v => some (.go { c with mode := .pan v, defers := ds ++ c.defers } s.H s.n (R1 ++ R2 ++ s.R) s.W)
  | none => none
def qRange (P : Program) (F : FuncId → Bool) (rec : CF → Heap → Nat → Option Rs) (c : CF) (params : Array Tmp) (assign body : Code) (k : List Item) (H : Heap) (n : Nat) : Option Value → Option FS
  | some fv => match openLoop c H n params assign body with
    | some (H1, l, ds, R1) => match cCall F H1 fv #[.func (.yield l) #[] #[]] with
      | some (.enter g args, R2) => match enterC P g args with
        | some c1 => qRanged c k l ds R1 R2 (rec c1 H1 (l + 1))
        | none => none
      | _ => none
    | none => none
  | none => none
def qCond (c : CF) (a b : Code) (k : List Item) (H : Heap) (n : Nat) : Option Value → Option FS
  | some (.bool t) => qGo c (.code (bif t then a else b) :: k) H n
  | _ => none
def qLeave (c : CF) (H : Heap) (n : Nat) (j : Code) : Option (List Item) → Option FS
  | some k' => qGo c k' H n
  | none => leaveC c H n (some j)
def qCode (P : Program) (F : FuncId → Bool) (orc : Orc) (rec : CF → Heap → Nat → Option Rs) (c : CF) (k : List Item) (H : Heap) (n : Nat) : Code → Option FS
  | .ret => leaveC c H n (some .ret)
  | .skip => qGo c k H n
  | .label _ => qGo c k H n
  | .seq a b => qGo c (.code a :: .code b :: k) H n
  | .cond x a b => qCond c a b k H n (evC c.tmps x)
  | .block id b => qGo c (.code b :: .inBlock id :: k) H n
  | .loop b => qGo c (.code b :: .inLoop b :: k) H n
  | .scope b => qGo c (.code b :: .inScope b :: k) H n
  | .exit id => qLeave c H n (.exit id) (exitTo id k)
  | .goto l => qLeave c H n (.goto l) (gotoIn l k)
  | .region _ ops draw => qReg c ops draw k (rrunQ P F orc rec ops ops.toList c.tmps H n)
  | .rangeFunc f params assign body => qRange P F rec c params assign body k H n (evC c.tmps f)
  | _ => none
def qEndRF (c : CF) (l : Nat) (k : List Item) (H : Heap) (n : Nat) : Option FS := match hget H l with
  | some (.loop r) => bif !(decide (r.state = .busy)) then some (.go { c with todo := (r.pending.map Item.code).toList ++ k } (hset H l (.loop { r with state := .exhausted })) n [l] [l]) else none
  | _ => none
def qBegin (c : CF) (k : List Item) (H : Heap) (n : Nat) : Option FS := match c.roundOf with
  | some l => match hget H l with
    | some (.loop r) => bif decide (r.state = .ready) then some (.go { c with todo := k } (hset H l (.loop { r with state := .busy })) n [l] [l]) else none
    | _ => none
  | none => none
def qItem (P : Program) (F : FuncId → Bool) (orc : Orc) (rec : CF → Heap → Nat → Option Rs) (c : CF) (k : List Item) (H : Heap) (n : Nat) : Item → Option FS
  | .code cd => qCode P F orc rec c k H n cd
  | .inBlock _ => qGo c k H n
  | .inScope _ => qGo c k H n
  | .inLoop b => qGo c (.code b :: .inLoop b :: k) H n
  | .endRangeFunc l => qEndRF c l k H n
  | .beginRound => qBegin c k H n
  | _ => none
def qEnd (P : Program) (c : CF) (H : Heap) (n : Nat) : Option FS := match c.defers with
  | d :: ds => match hget H d with
    | some (.deferred (some [])) => some (.go { c with defers := ds } (hset H d (.deferred none)) n [d] [d])
    | _ => none
  | [] => match c.mode with
    | .pan v => bif isFn P c.fn then some (.done (.pan v) H n [] []) else none
    | _ => match c.roundOf, resC P c.fn H c.tmps with
      | none, some (v, R) => some (.done (.ret v) H n R [])
      | _, _ => none
def fstepQ (P : Program) (F : FuncId → Bool) (orc : Orc) (rec : CF → Heap → Nat → Option Rs) (c : CF) (H : Heap) (n : Nat) : Option FS :=
  match c.mode with
  | .run => match c.todo with
    | [] => leaveC c H n none
    | it :: k => qItem P F orc rec c k H n it
  | _ => qEnd P c H n
theorem fstepQ_eq (P : Program) (F : FuncId → Bool) (orc : Orc) (rec : CF → Heap → Nat → Option Rs) (c : CF) (H : Heap) (n : Nat) : fstepQ P F orc rec c H n = fstep P F orc rec c H n := by
  obtain ⟨fn, tmps, todo, defers, mode, ro⟩ := c
  unfold fstepQ fstep
  cases mode with
  | run =>
    cases todo with
    | nil => rfl
    | cons it k =>
      cases it with
      | code cd =>
        cases cd with
        | region id ops draw =>
          simp only [qItem, qCode, rrunQ_eq]
          cases rrun P F orc rec ops ops.toList tmps H n with
          | none => rfl
          | some x =>
            obtain ⟨recs, fin⟩ := x
            cases fin <;> rfl
        | rangeFunc f ps assign body =>
          simp only [qItem, qCode, qRange]
          cases evC tmps f with
          | none => rfl
          | some fv =>
            simp only
            cases openLoop ⟨fn, tmps, .code (.rangeFunc f ps assign body) :: k, defers, .run, ro⟩ H n ps assign body with
            | none => rfl
            | some x =>
              obtain ⟨H1, l, ds, R1⟩ := x
              simp only
              cases cCall F H1 fv #[.func (.yield l) #[] #[]] with
              | none => rfl
              | some y =>
                obtain ⟨nx, R2⟩ := y
                cases nx with
                | enter g args =>
                  simp only
                  cases enterC P g args with
                  | none => rfl
                  | some c1 =>
                    simp only
                    cases rec c1 H1 (l + 1) with
                    | none => rfl
                    | some s => obtain ⟨o, _, _, _, _⟩ := s; cases o <;> rfl
                | _ => rfl
        | cond x a b =>
          simp only [qItem, qCode]
          cases evC tmps x with
          | none => rfl
          | some v => cases v <;> rfl
        | exit id => simp only [qItem, qCode]; cases exitTo id k <;> rfl
        | goto id => simp only [qItem, qCode]; cases gotoIn id k <;> rfl
        | _ => rfl
      | _ => rfl
  | ret => rfl
  | pan v => rfl
def frunQ (P : Program) (F : FuncId → Bool) (orc : Orc) : Nat → Nat → CF → Heap → Nat → List Nat → List Nat → Option Rs
  | 0, _, _, _, _, _, _ => none
  | fuel + 1, b, c, H, n, R, W =>
    match fstepQ P F orc (fun c1 H1 n1 => frunQ P F orc fuel n1 c1 H1 n1 [] []) c H n with
    | some (.go c' H' n' R' W') => frunQ P F orc fuel b c' H' n' (addl b R' R) (addl b W' W)
    | some (.done out H' n' R' W') => some ⟨out, H', n', addl b R' R, addl b W' W⟩
    | none => none
theorem frunQ_eq (P : Program) (F : FuncId → Bool) (orc : Orc) : ∀ (fuel b : Nat) (c : CF) (H : Heap) (n : Nat) (R W : List Nat), frunQ P F orc fuel b c H n R W = frun P F orc fuel b c H n R W
  | 0, _, _, _, _, _, _ => rfl
  | fuel + 1, b, c, H, n, R, W => by
    simp only [frunQ, frun, fstepQ_eq, frunQ_eq P F orc fuel]
    rfl
end Go.CE
