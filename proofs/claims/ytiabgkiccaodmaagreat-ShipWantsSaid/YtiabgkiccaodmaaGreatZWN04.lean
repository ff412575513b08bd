/- CE: the canonical machine again, its cases in small pieces: the kernel evaluates it quicker. -/
import Derived.Test.YtiabgkiccaodmaaGreatZWN03
set_option linter.all false
namespace Go.CE
open Go Go.RowKit

def Q2u (P:Program) (t:TypeId) (H:Qaw) (n:Nat):Option CR:=match zeroOf P t with
 | some z=> bif af z then some ⟨.val (Q23 n),(n,.cells z.cells t (0,0))::H,n+1,[],[]⟩ else none
 | none=> none
def Q5C (t:TypeId) (x:Option Value) (H:Qaw) (n:Nat):Option CR:=match x with
 | some v=> some ⟨.val (Q23 n),(n,.cells v.cells t (0,0))::H,n+1,[],[]⟩
 | none=> none
def Q2b (P:Program) (t:TypeId) (l:Option (List (Nat×Value))) (H:Qaw) (n:Nat):Option CR:=match l with
 | some l=> mkPure (QsL P t l) H n
 | none=> none
def Qlr (P:Program) (t:TypeId) (len:Nat) (l:Option (List (Nat×Value))) (H:Qaw) (n:Nat):Option CR:=match l with
 | some l=> match Qgg P t len l with
   | some (e,cs,s)=> some ⟨.val (.slice (some ⟨n,0,none⟩) len s),(n,.cells cs e (0,0))::H,n+1,[],[]⟩
   | none=> none
 | none=> none
def Q3i (P:Program) (t:TypeId) (a:Option Value) (H:Qaw) (n:Nat):Option CR:=match a with
 | some p=> match QjO P t H p with
   | some (v,b)=> some ⟨.val v,H,n,[b],[]⟩
   | none=> none
 | none=> none
def QwS (P:Program) (t:TypeId) (a x:Option Value) (H:Qaw) (n:Nat):Option CR:=match a,x with
 | some p,some v=> match QhB P t H v p with
   | some (H',b)=> some ⟨.val undef,H',n,[b],[b]⟩
   | none=> none
 | _,_=> none
def Qjp (P:Program) (s:TypeId) (f:Nat) (x:Option Value) (H:Qaw) (n:Nat):Option CR:=match x with
 | some p=> mkPure (QbQ P s f p) H n
 | none=> none
def QyH (P:Program) (s:TypeId) (f:Nat) (x:Option Value) (H:Qaw) (n:Nat):Option CR:=match x with
 | some p=> mkPure (Qn7 P s f p) H n
 | none=> none
def QjK (P:Program) (t:TypeId) (x i:Option Value) (H:Qaw) (n:Nat):Option CR:=match x,i with
 | some v,some k=> mkPure (QeC P t v k) H n
 | _,_=> none
def Q2q (P:Program) (ev:Operand->Option Value) (o:Oper) (t:TypeId) (x i:Option Value) (H:Qaw) (n:Nat):Option CR:=match x,i with
 | some (.agg cs),some k=> mkPure (QsI P t (.agg cs) k) H n
 | _,_=> mkPure (Qe4 P ev o) H n
def Qph (i:Nat) (x:Option Value) (H:Qaw) (n:Nat):Option CR:=match x with
 | some v=> mkPure (Qhq i v) H n
 | none=> none
def Q4u (P:Program) (t:TypeId) (l c:Option Value) (H:Qaw) (n:Nat):Option CR:=match l,c with
 | some x,some y=> match QfR P t x y with
   | some (e,cs,l,s)=> some ⟨.val (.slice (some ⟨n,0,none⟩) l s),(n,.cells cs e (0,0))::H,n+1,[],[]⟩
   | none=> none
 | _,_=> none
def Q4M (P:Program) (ev:Operand->Option Value) (o:Oper) (t:TypeId) (x:Option Value) (lo hi:Option (Option Value)) (H:Qaw) (n:Nat):Option CR:=match x,lo,hi with
 | some (.slice (some a) m s),some l,some h=> mkPure (Qh4 P t (.slice (some a) m s) l h) H n
 | some (.pointer p),some l,some h=> mkPure (Qh4 P t (.pointer p) l h) H n
 | _,_,_=> mkPure (Qe4 P ev o) H n
def Qxg (P:Program) (ev:Operand->Option Value) (o:Oper) (t:TypeId) (x:Operand) (lo hi m:Option Operand) (H:Qaw) (n:Nat):Option CR:=match m with
 | none=> Q4M P ev o t (ev x) (evo ev lo) (evo ev hi) H n
 | some mx=> match hi with
   | some h=> bif Qj4 P t (ev x) (evo ev lo) (ev h) (ev mx) then some ⟨.val QqS,H,n,[],[]⟩ else mkPure (Qe4 P ev o) H n
   | none=> mkPure (Qe4 P ev o) H n
def Qrw (P:Program) (ev:Operand->Option Value) (o:Oper) (fn:Fn) (first captured:Array Operand) (H:Qaw) (n:Nat):Option CR:=match fn with
 | .func f=> match Qhh ev first.toList,Qhh ev captured.toList with
   | some xs,some ys=> some ⟨.val (.func (.func f) xs.toArray ys.toArray),H,n,[],[]⟩
   | _,_=> none
 | _=> mkPure (Qe4 P ev o) H n
def QsT (P:Program) (ev:Operand->Option Value) (o:Oper) (r:Option Operand) (H:Qaw) (n:Nat):Option CR:=match r with
 | none=> some ⟨.val (.map (some n)),(n,.map #[] 0)::H,n+1,[],[]⟩
 | some _=> mkPure (Qe4 P ev o) H n
def QvG (P:Program) (t:TypeId) (ok:Bool) (x k:Option Value) (H:Qaw) (n:Nat):Option CR:=match x,k with
 | some m,some kv=> match QlU P t H ok m kv with
   | some (v,R)=> some ⟨.val v,H,n,R,[]⟩
   | none=> none
 | _,_=> none
def Qn9 (P:Program) (t:TypeId) (m k x:Option Value) (H:Qaw) (n:Nat):Option CR:=match m,k,x with
 | some mv,some kv,some v=> match QeA P t H mv kv v with
   | some (H',b)=> some ⟨.val undef,H',n,[b],[b]⟩
   | none=> none
 | _,_,_=> none
def Q5r (P:Program) (ev:Operand->Option Value) (o:Oper) (op:BinOp) (x y:Option Value) (H:Qaw) (n:Nat):Option CR:=match x,y with
 | some a,some b=> match Q3A op a b with
   | some v=> some ⟨.val v,H,n,[],[]⟩
   | none=> mkPure (Qe4 P ev o) H n
 | _,_=> none
def Q5R (x:Option Value) (H:Qaw) (n:Nat):Option CR:=match x with
 | some (.pointer (some a))=> some ⟨.val (.pointer (some a)),H,n,[],[]⟩
 | some (.func (.func f) xs ys)=> some ⟨.val (.func (.func f) xs ys),H,n,[],[]⟩
 | some (.func (.yield f) xs ys)=> some ⟨.val (.func (.yield f) xs ys),H,n,[],[]⟩
 | _=> none
def Q5B (F:FuncId->Bool) (f:Option Value) (args:Option (List Value)) (H:Qaw) (n:Nat):Option CR:=match f,args with
 | some fv,some args=> match Qig F H fv args.toArray with
   | some (nx,R)=> some ⟨nx,H,n,R,[]⟩
   | none=> none
 | _,_=> none
def Q3m (P:Program) (ev:Operand->Option Value) (c:Call) (H:Qaw) (n:Nat):Option CR:=match c.args.toList,c.argTypes.toList with
 | [s,x],[t,t']=> match ev s,ev x with
   | some sv,some xv=> Q3N P t t' H n sv xv
   | _,_=> none
 | _,_=> none
def Q5W (P:Program) (ev:Operand->Option Value) (o:Oper) (c:Call) (H:Qaw) (n:Nat):Option CR:=match c.args.toList,c.argTypes.toList with
 | [x],[t]=> match ev x,und P t with
   | some (.slice (some _) m _),some (.slice _)=> some ⟨.val (.int .i64 m),H,n,[],[]⟩
   | some (.chan (some 0)),some (.slice _)=> some ⟨.val (.int .i64 0),H,n,[],[]⟩
   | _,_=> mkPure (Qe4 P ev o) H n
 | _,_=> none
def Q5q (P:Program) (ev:Operand->Option Value) (c:Call) (H:Qaw) (n:Nat):Option CR:=match c.args.toList,c.argTypes.toList with
 | [s,x],[t,_]=> match ev s,ev x with
   | some sv,some xv=> Qsg P t H n sv xv
   | _,_=> none
 | _,_=> none
def Q09 (P:Program) (ev:Operand->Option Value) (o:Oper) (c:Call) (b:Builtin) (H:Qaw) (n:Nat):Option CR:=match b with
 | .append=> Q3m P ev c H n
 | .len=> Q5W P ev o c H n
 | .copy=> Q5q P ev c H n
 | _=> mkPure (Qe4 P ev o) H n
def Ql0 (P:Program) (F:FuncId->Bool) (ev:Operand->Option Value) (o:Oper) (c:Call) (H:Qaw) (n:Nat):Option CR:=match c.callee with
 | .builtin b=> Q09 P ev o c b H n
 | .value f=> Q5B F (ev f) (Qhh ev c.args.toList) H n
 | _=> none
def Q5f (P:Program) (F:FuncId->Bool) (ev:Operand->Option Value) (o:Oper) (H:Qaw) (n:Nat):Option CR:=
 match o.op with
 | .move x=> mkPure (ev x) H n
 | .assign x=> mkPure (ev x) H n
 | .pick c a b=> match ev c with
   | some (.bool t)=> mkPure (ev (bif t then a else b)) H n
   | _=> none
 | .alloc t=> Q2u P t H n
 | .box t x=> Q5C t (ev x) H n
 | .build t ps=> Q2b P t (partsOf ev ps.toList) H n
 | .buildSlice t len ps=> Qlr P t len (partsOf ev ps.toList) H n
 | .load t a=> Q3i P t (ev a) H n
 | .store t a x=> QwS P t (ev a) (ev x) H n
 | .fieldAddr s x f=> Qjp P s f (ev x) H n
 | .field t x f=> QyH P t f (ev x) H n
 | .indexAddr t x i=> QjK P t (ev x) (ev i) H n
 | .index t x i=> Q2q P ev o t (ev x) (ev i) H n
 | .extract x i=> Qph i (ev x) H n
 | .makeSlice t l c=> Q4u P t (ev l) (ev c) H n
 | .slice t x lo hi m=> Qxg P ev o t x lo hi m H n
 | .makeFunc fn first captured=> Qrw P ev o fn first captured H n
 | .makeMap _ r=> QsT P ev o r H n
 | .lookup t x k ok=> QvG P t ok (ev x) (ev k) H n
 | .mapUpdate t m k x=> Qn9 P t (ev m) (ev k) (ev x) H n
 | .binOp op _ x y _=> Q5r P ev o op (ev x) (ev y) H n
 | .nilCheck x=> Q5R (ev x) H n
 | .call c=> Ql0 P F ev o c H n
 | _=> mkPure (Qe4 P ev o) H n
theorem Q3g (P:Program) (F:FuncId->Bool) (ev:Operand->Option Value) (o:Oper) (H:Qaw) (n:Nat):Q5f P F ev o H n=cop P F ev o H n:=by
 unfold Q5f cop
 cases o.op with
 | slice t x lo hi m=> cases m <;> cases hi <;> rfl
 | makeFunc fn a b=> cases fn <;> rfl
 | makeMap t r=> cases r <;> rfl
 | call c=>
   simp only [Ql0]
   cases c.callee with
   | builtin b=> cases b <;> rfl
   | value f=> rfl
   | invoke a b=> rfl
 | _=> rfl
def Q2M (r:CR) (s:Rs):Option Rs:=match Qfq r.H s with
 | s=> some ⟨s.out,s.H,s.n,r.R++s.R,r.W++s.W⟩
def Q5y (P:Program) (rec:CF->Qaw->Nat->Option Rs) (g:FuncId) (args:Array Value) (r:CR):Option Rs:=match Qcq P g args with
 | some c=> match rec c r.H r.n with
   | some s=> Q2M r s
   | none=> none
 | none=> none
def Qs7 (P:Program) (orc:Orc) (rec:CF->Qaw->Nat->Option Rs) (g:FuncId) (args:Array Value) (r:CR):Option Rs:=match orc g args r.H r.n with
 | some s=> some ⟨s.out,s.H,s.n,r.R++s.R,r.W++s.W⟩
 | none=> Q5y P rec g args r
def Q4f (rec:CF->Qaw->Nat->Option Rs) (l:Nat) (fn:FuncId) (tm:Array Value) (a b:Code) (r:CR):Option Rs:=bif Nat.ble tm.size 16000 then match rec ⟨fn,ofList tm.size tm.toList,[.code a,.beginRound,.code b],[],.run,some l⟩ r.H r.n with
 | some s=> some ⟨s.out,s.H,s.n,r.R++s.R,r.W++s.W⟩
 | none=> none
 else none
def Q1l (P:Program) (orc:Orc) (rec:CF->Qaw->Nat->Option Rs) (r:CR):Option Rs:=match r.nx with
 | .val v=> some ⟨.ret v,r.H,r.n,r.R,r.W⟩
 | .enter g args=> Qs7 P orc rec g args r
 | .round l fn tm a b=> Q4f rec l fn tm a b r
def qR (P:Program) (orc:Orc) (rec:CF->Qaw->Nat->Option Rs) (n:Nat) (x:Option CR):Option Rs:=match x with
 | some r=> bif r.R.all (fun i=> Nat.blt i n) then Q1l P orc rec r else none
 | none=> none
def Q4s (v:Option Value) (H:Qaw) (n:Nat):Option Rs:=match v with
 | some (.iface t v)=> some ⟨.pan (.iface t v),H,n,[],[]⟩
 | _=> none
def Qxm:Op->Nat
 | .defer _=> 1
 | .panic _=> 2
 | _=> 0
def qV (v:Option Value) (H:Qaw) (n:Nat):Option Rs:=match v with
 | some v=> some ⟨.ret v,H,n,[],[]⟩
 | none=> none
def opQ (P:Program) (F:FuncId->Bool) (orc:Orc) (rec:CF->Qaw->Nat->Option Rs) (T:Tm) (o:Oper) (H:Qaw) (n:Nat):Option Rs:=
 match o.op with
 | .move x=> qV (evC T x) H n
 | .assign x=> qV (evC T x) H n
 | .pick c a b=> match evC T c with
   | some (.bool t)=> qV (evC T (bif t then a else b)) H n
   | _=> none
 | .alloc t=> qR P orc rec n (Q2u P t H n)
 | .box t x=> qR P orc rec n (Q5C t (evC T x) H n)
 | .build t ps=> qR P orc rec n (Q2b P t (partsOf (evC T) ps.toList) H n)
 | .buildSlice t len ps=> qR P orc rec n (Qlr P t len (partsOf (evC T) ps.toList) H n)
 | .load t a=> qR P orc rec n (Q3i P t (evC T a) H n)
 | .store t a x=> qR P orc rec n (QwS P t (evC T a) (evC T x) H n)
 | .fieldAddr s x f=> qR P orc rec n (Qjp P s f (evC T x) H n)
 | .field t x f=> qR P orc rec n (QyH P t f (evC T x) H n)
 | .indexAddr t x i=> qR P orc rec n (QjK P t (evC T x) (evC T i) H n)
 | .index t x i=> qR P orc rec n (Q2q P (evC T) o t (evC T x) (evC T i) H n)
 | .extract x i=> qR P orc rec n (Qph i (evC T x) H n)
 | .makeSlice t l c=> qR P orc rec n (Q4u P t (evC T l) (evC T c) H n)
 | .slice t x lo hi m=> qR P orc rec n (Qxg P (evC T) o t x lo hi m H n)
 | .makeFunc fn first captured=> qR P orc rec n (Qrw P (evC T) o fn first captured H n)
 | .makeMap _ r=> qR P orc rec n (QsT P (evC T) o r H n)
 | .lookup t x k ok=> qR P orc rec n (QvG P t ok (evC T x) (evC T k) H n)
 | .mapUpdate t m k x=> qR P orc rec n (Qn9 P t (evC T m) (evC T k) (evC T x) H n)
 | .binOp op _ x y _=> qR P orc rec n (Q5r P (evC T) o op (evC T x) (evC T y) H n)
 | .nilCheck x=> qR P orc rec n (Q5R (evC T x) H n)
 | .call c=> qR P orc rec n (Ql0 P F (evC T) o c H n)
 | .defer _=> none
 | .panic x=> Q4s (evC T x) H n
 | _=> qR P orc rec n (mkPure (Qe4 P (evC T) o) H n)
theorem Q5o {P:Program} {F:FuncId->Bool} {orc:Orc} {rec:CF->Qaw->Nat->Option Rs} {T:Tm} {o:Oper} {H:Qaw} {n:Nat} (h1:∀c,o.op≠.defer c) (h2:∀x,o.op≠.panic x):opS P F orc rec T o H n=qR P orc rec n (Q5f P F (evC T) o H n):=by
 rw [Q3g]
 unfold opS
 split
 ·rename_i c h;exact absurd h (h1 c)
 ·rename_i x h;exact absurd h (h2 x)
 ·unfold QmU
  cases cop P F (evC T) o H n with
  | none=> rfl
  | some r=>
    simp only [qR]
    cases r.R.all (fun i=> Nat.blt i n) with
    | false=> rfl
    | true=>
      simp only [cond_true,Q1l]
      cases r.nx <;> rfl
theorem Qgw {P:Program} {orc:Orc} {rec:CF->Qaw->Nat->Option Rs} {H:Qaw} {n:Nat} (v:Option Value):qR P orc rec n (mkPure v H n)=qV v H n:=by cases v <;> rfl
theorem Q4x (P:Program) (F:FuncId->Bool) (orc:Orc) (rec:CF->Qaw->Nat->Option Rs) (T:Tm) (o:Oper) (H:Qaw) (n:Nat):opQ P F orc rec T o H n=opS P F orc rec T o H n:=by
 cases hs:Qxm o.op with
 | succ k=>
   unfold opQ opS
   generalize o.op=p at hs
   cases p <;> first | (simp [Qxm] at hs;done) | rfl
 | zero=>
   rw [Q5o (by intro c h;rw [h] at hs;cases hs) (by intro c h;rw [h] at hs;cases hs)]
   unfold opQ Q5f
   generalize hp:o.op=p at hs
   cases p with
   | move x=> exact (Qgw _).symm
   | assign x=> exact (Qgw _).symm
   | pick c a b=>
     simp only
     split
     ·exact (Qgw _).symm
     ·rfl
   | defer c=> cases hs
   | panic c=> cases hs
   | _=> rfl
def QhF (P:Program) (F:FuncId->Bool) (orc:Orc) (rec:CF->Qaw->Nat->Option Rs) (ops:Array Oper):List Oper->Tm->Qaw->Nat->Option (List Rec×RF)
 | [],T,H,n=> some ([],.ok T H n)
 | o::l,T,H,n=>
   bif Qiv T o.dst then
    bif Region.wanted o (Qbl ops T) then
     match opQ P F orc rec T o H n with
     | some s=> match s.out with
       | .ret v=> match QhF P F orc rec ops l (Qgr T o.dst v) s.H s.n with
         | some (rs,fin)=> some (⟨o,true,v,T,H,s.H,n,s.n,s.R,s.W⟩::rs,fin)
         | none=> none
       | .pan v=> some ([],.pan T v s.H s.n s.R s.W)
     | none=> none
    else match QhF P F orc rec ops l (Qgr T o.dst undef) H n with
     | some (rs,fin)=> some (⟨o,false,undef,T,H,H,n,n,[],[]⟩::rs,fin)
     | none=> none
   else none
theorem QsE (P:Program) (F:FuncId->Bool) (orc:Orc) (rec:CF->Qaw->Nat->Option Rs) (ops:Array Oper):∀(l:List Oper) (T:Tm) (H:Qaw) (n:Nat),QhF P F orc rec ops l T H n=QuM P F orc rec ops l T H n
 | [],_,_,_=> rfl
 | o::l,T,H,n=> by simp only [QhF,QuM,Q4x,QsE P F orc rec ops l];rfl
def qGo (c:CF) (k:List Item) (H:Qaw) (n:Nat):Option FS:=some (.go {c with todo:=k} H n [] [])
def Q5v (c:CF) (ops:Array Oper) (draw:Bool) (k:List Item):Option (List Rec×RF)->Option FS
 | some (recs,.ok T' H' n')=> bif !draw || (Qdk 0 ops.toList && indep ops 0 recs (Qnd ops.toList [])) then some (.go {c with tmps:=T',todo:=k} H' n' (QmC recs) (Qi0 recs)) else none
 | some (recs,.pan T' v H' n' R W)=> bif draw then none else some (.go {c with tmps:=T',mode:=.pan v} H' n' (QmC recs++R) (Qi0 recs++W))
 | none=> none
def Q3I (c:CF) (k:List Item) (l:Nat) (ds R1 R2:List Nat):Option Rs->Option FS
 | some s=> match s.out with
   | .ret _=> some (.go {c with todo:=.endRangeFunc l::k,defers:=ds++c.defers} s.H s.n (R1++R2++s.R) s.W)
   | .pan v=> some (.go {c with mode:=.pan v,defers:=ds++c.defers} s.H s.n (R1++R2++s.R) s.W)
 | none=> none
def Q2w (P:Program) (F:FuncId->Bool) (rec:CF->Qaw->Nat->Option Rs) (c:CF) (params:Array Tmp) (assign body:Code) (k:List Item) (H:Qaw) (n:Nat):Option Value->Option FS
 | some fv=> match Qed c H n params assign body with
   | some (H1,l,ds,R1)=> match Qig F H1 fv #[.func (.yield l) #[] #[]] with
     | some (.enter g args,R2)=> match Qcq P g args with
       | some c1=> Q3I c k l ds R1 R2 (rec c1 H1 (l+1))
       | none=> none
     | _=> none
   | none=> none
 | none=> none
def Q52 (c:CF) (a b:Code) (k:List Item) (H:Qaw) (n:Nat):Option Value->Option FS
 | some (.bool t)=> qGo c (.code (bif t then a else b)::k) H n
 | _=> none
def Q2r (c:CF) (H:Qaw) (n:Nat) (j:Code):Option (List Item)->Option FS
 | some k'=> qGo c k' H n
 | none=> Qh8 c H n (some j)
def Qqm (P:Program) (F:FuncId->Bool) (orc:Orc) (rec:CF->Qaw->Nat->Option Rs) (c:CF) (k:List Item) (H:Qaw) (n:Nat):Code->Option FS
 | .ret=> Qh8 c H n (some .ret)
 | .skip=> qGo c k H n
 | .label _=> qGo c k H n
 | .seq a b=> qGo c (.code a::.code b::k) H n
 | .cond x a b=> Q52 c a b k H n (evC c.tmps x)
 | .block id b=> qGo c (.code b::.inBlock id::k) H n
 | .loop b=> qGo c (.code b::.inLoop b::k) H n
 | .scope b=> qGo c (.code b::.inScope b::k) H n
 | .exit id=> Q2r c H n (.exit id) (exitTo id k)
 | .goto l=> Q2r c H n (.goto l) (gotoIn l k)
 | .region _ ops draw=> Q5v c ops draw k (QhF P F orc rec ops ops.toList c.tmps H n)
 | .rangeFunc f params assign body=> Q2w P F rec c params assign body k H n (evC c.tmps f)
 | _=> none
def Q46 (c:CF) (l:Nat) (k:List Item) (H:Qaw) (n:Nat):Option FS:=match Qa4 H l with
 | some (.loop r)=> bif !(decide (r.state=.busy)) then some (.go {c with todo:=(r.pending.map Item.code).toList++k} (Qgl H l (.loop {r with state:=.exhausted})) n [l] [l]) else none
 | _=> none
def Q4g (c:CF) (k:List Item) (H:Qaw) (n:Nat):Option FS:=match c.roundOf with
 | some l=> match Qa4 H l with
   | some (.loop r)=> bif decide (r.state=.ready) then some (.go {c with todo:=k} (Qgl H l (.loop {r with state:=.busy})) n [l] [l]) else none
   | _=> none
 | none=> none
def Qrm (P:Program) (F:FuncId->Bool) (orc:Orc) (rec:CF->Qaw->Nat->Option Rs) (c:CF) (k:List Item) (H:Qaw) (n:Nat):Item->Option FS
 | .code cd=> Qqm P F orc rec c k H n cd
 | .inBlock _=> qGo c k H n
 | .inScope _=> qGo c k H n
 | .inLoop b=> qGo c (.code b::.inLoop b::k) H n
 | .endRangeFunc l=> Q46 c l k H n
 | .beginRound=> Q4g c k H n
 | _=> none
def Q5U (P:Program) (c:CF) (H:Qaw) (n:Nat):Option FS:=match c.defers with
 | d::ds=> match Qa4 H d with
   | some (.deferred (some []))=> some (.go {c with defers:=ds} (Qgl H d (.deferred none)) n [d] [d])
   | _=> none
 | []=> match c.mode with
   | .pan v=> bif Q5e P c.fn then some (.done (.pan v) H n [] []) else none
   | _=> match c.roundOf,Qwx P c.fn H c.tmps with
     | none,some (v,R)=> some (.done (.ret v) H n R [])
     | _,_=> none
def Qn6 (P:Program) (F:FuncId->Bool) (orc:Orc) (rec:CF->Qaw->Nat->Option Rs) (c:CF) (H:Qaw) (n:Nat):Option FS:=
 match c.mode with
 | .run=> match c.todo with
   | []=> Qh8 c H n none
   | it::k=> Qrm P F orc rec c k H n it
 | _=> Q5U P c H n
theorem Qym (P:Program) (F:FuncId->Bool) (orc:Orc) (rec:CF->Qaw->Nat->Option Rs) (c:CF) (H:Qaw) (n:Nat):Qn6 P F orc rec c H n=Qjf P F orc rec c H n:=by
 obtain ⟨fn,tmps,todo,defers,mode,ro⟩:=c
 unfold Qn6 Qjf
 cases mode with
 | run=>
   cases todo with
   | nil=> rfl
   | cons it k=>
     cases it with
     | code cd=>
       cases cd with
       | region id ops draw=>
         simp only [Qrm,Qqm,QsE]
         cases QuM P F orc rec ops ops.toList tmps H n with
         | none=> rfl
         | some x=>
           obtain ⟨recs,fin⟩:=x
           cases fin <;> rfl
       | rangeFunc f ps assign body=>
         simp only [Qrm,Qqm,Q2w]
         cases evC tmps f with
         | none=> rfl
         | some fv=>
           simp only
           cases Qed ⟨fn,tmps,.code (.rangeFunc f ps assign body)::k,defers,.run,ro⟩ H n ps assign body with
           | none=> rfl
           | some x=>
             obtain ⟨H1,l,ds,R1⟩:=x
             simp only
             cases Qig F H1 fv #[.func (.yield l) #[] #[]] with
             | none=> rfl
             | some y=>
               obtain ⟨nx,R2⟩:=y
               cases nx with
               | enter g args=>
                 simp only
                 cases Qcq P g args with
                 | none=> rfl
                 | some c1=>
                   simp only
                   cases rec c1 H1 (l+1) with
                   | none=> rfl
                   | some s=> obtain ⟨o,_,_,_,_⟩:=s;cases o <;> rfl
               | _=> rfl
       | cond x a b=>
         simp only [Qrm,Qqm]
         cases evC tmps x with
         | none=> rfl
         | some v=> cases v <;> rfl
       | exit id=> simp only [Qrm,Qqm];cases exitTo id k <;> rfl
       | goto id=> simp only [Qrm,Qqm];cases gotoIn id k <;> rfl
       | _=> rfl
     | _=> rfl
 | ret=> rfl
 | pan v=> rfl
def Qh2 (P:Program) (F:FuncId->Bool) (orc:Orc):Nat->Nat->CF->Qaw->Nat->List Nat->List Nat->Option Rs
 | 0,_,_,_,_,_,_=> none
 | fuel+1,b,c,H,n,R,W=>
   match Qn6 P F orc (fun c1 H1 n1=> Qh2 P F orc fuel n1 c1 H1 n1 [] []) c H n with
   | some (.go c' H' n' R' W')=> Qh2 P F orc fuel b c' H' n' (QdL b R' R) (QdL b W' W)
   | some (.done out H' n' R' W')=> some ⟨out,H',n',QdL b R' R,QdL b W' W⟩
   | none=> none
theorem Qpe (P:Program) (F:FuncId->Bool) (orc:Orc):∀(fuel b:Nat) (c:CF) (H:Qaw) (n:Nat) (R W:List Nat),Qh2 P F orc fuel b c H n R W=Qzt P F orc fuel b c H n R W
 | 0,_,_,_,_,_,_=> rfl
 | fuel+1,b,c,H,n,R,W=> by
   simp only [Qh2,Qzt,Qym,Qpe P F orc fuel]
   rfl
end Go.CE
