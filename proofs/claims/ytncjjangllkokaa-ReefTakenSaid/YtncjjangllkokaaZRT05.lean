/- CE: the canonical machine again, its cases in small pieces: the kernel evaluates it quicker. -/
import Derived.Test.YtncjjangllkokaaZRT04
set_option linter.all false
namespace Go.CE
open Go Go.RowKit

def F7(P:Program)(t:TypeId)(H:Qo)(n:Nat):Option CR:=match zeroOf P t with
 |some z=>bif af z then some ⟨.val (zV n),(n,.cells z.cells t (0,0))::H,n+1,[],[]⟩else none
 |none=>none
def NV(t:TypeId)(x:Option Value)(H:Qo)(n:Nat):Option CR:=match x with
 |some v=>some ⟨.val (zV n),(n,.cells v.cells t (0,0))::H,n+1,[],[]⟩
 |none=>none
def F6(P:Program)(t:TypeId)(l:Option (List (Nat×Value)))(H:Qo)(n:Nat):Option CR:=match l with
 |some l=>mkPure (tc P t l) H n
 |none=>none
def gd(P:Program)(t:TypeId)(len:Nat)(l:Option (List (Nat×Value)))(H:Qo)(n:Nat):Option CR:=match l with
 |some l=>match Pg P t len l with
  |some (e,cs,s)=>some ⟨.val (.slice (some ⟨n,0,none⟩) len s),(n,.cells cs e (0,0))::H,n+1,[],[]⟩
  |none=>bif jv P t len l then some ⟨.val Ti,H,n,[],[]⟩else none
 |none=>none
def Fy(P:Program)(t:TypeId)(a:Option Value)(H:Qo)(n:Nat):Option CR:=match a with
 |some p=>match Rx P t H p with
  |some (v,b)=>some ⟨.val v,H,n,[b],[]⟩
  |none=>none
 |none=>none
def zh(P:Program)(t:TypeId)(a x:Option Value)(H:Qo)(n:Nat):Option CR:=match a,x with
 |some p,some v=>match Py P t H v p with
  |some (H',b)=>some ⟨.val undef,H',n,[b],[b]⟩
  |none=>none
 |_,_=>none
def bn(P:Program)(s:TypeId)(f:Nat)(x:Option Value)(H:Qo)(n:Nat):Option CR:=match x with
 |some p=>mkPure (Wh P s f p) H n
 |none=>none
def zi(P:Program)(s:TypeId)(f:Nat)(x:Option Value)(H:Qo)(n:Nat):Option CR:=match x with
 |some p=>mkPure (fO P s f p) H n
 |none=>none
def bm(P:Program)(t:TypeId)(x i:Option Value)(H:Qo)(n:Nat):Option CR:=match x,i with
 |some v,some k=>mkPure (KJ P t v k) H n
 |_,_=>none
def F1(P:Program)(ev:Operand->Option Value)(o:Oper)(t:TypeId)(x i:Option Value)(H:Qo)(n:Nat):Option CR:=match x,i with
 |some (.agg cs),some k=>mkPure (sY P t (.agg cs) k) H n
 |_,_=>mkPure (Uk P ev o) H n
def kX(i:Nat)(x:Option Value)(H:Qo)(n:Nat):Option CR:=match x with
 |some v=>mkPure (Ry i v) H n
 |none=>none
def Ml(P:Program)(t:TypeId)(l c:Option Value)(H:Qo)(n:Nat):Option CR:=match l,c with
 |some x,some y=>match Rw P t x y with
  |some (e,cs,l,s)=>some ⟨.val (.slice (some ⟨n,0,none⟩) l s),(n,.cells cs e (0,0))::H,n+1,[],[]⟩
  |none=>none
 |_,_=>none
def ML(P:Program)(ev:Operand->Option Value)(o:Oper)(t:TypeId)(x:Option Value)(lo hi:Option (Option Value))(H:Qo)(n:Nat):Option CR:=match x,lo,hi with
 |some (.slice (some a) m s),some l,some h=>mkPure (Tu P t (.slice (some a) m s) l h) H n
 |some (.pointer p),some l,some h=>mkPure (Tu P t (.pointer p) l h) H n
 |_,_,_=>mkPure (Uk P ev o) H n
def Bc(P:Program)(ev:Operand->Option Value)(o:Oper)(t:TypeId)(x:Operand)(lo hi m:Option Operand)(H:Qo)(n:Nat):Option CR:=match m with
 |none=>ML P ev o t (ev x) (Ek ev lo) (Ek ev hi) H n
 |some mx=>match hi with
  |some h=>bif aE P t (ev x) (Ek ev lo) (ev h) (ev mx)then some ⟨.val Ti,H,n,[],[]⟩else mkPure (Uk P ev o) H n
  |none=>mkPure (Uk P ev o) H n
def pV(P:Program)(ev:Operand->Option Value)(o:Oper)(fn:Fn)(first captured:Array Operand)(H:Qo)(n:Nat):Option CR:=match fn with
 | .func f=>match J9 ev first.toList,J9 ev captured.toList with
   |some xs,some ys=>some ⟨.val (.func (.func f) xs.toArray ys.toArray),H,n,[],[]⟩
   |_,_=>none
 |_=>mkPure (Uk P ev o) H n
def uH(P:Program)(ev:Operand->Option Value)(o:Oper)(r:Option Operand)(H:Qo)(n:Nat):Option CR:=match r with
 |none=>some ⟨.val (.map (some n)),(n,.map #[] 0)::H,n+1,[],[]⟩
 |some _=>mkPure (Uk P ev o) H n
def Be(P:Program)(t:TypeId)(ok:Bool)(x k:Option Value)(H:Qo)(n:Nat):Option CR:=match x,k with
 |some m,some kv=>match Sp P t H ok m kv with
  |some (v,R)=>some ⟨.val v,H,n,R,[]⟩
  |none=>none
 |_,_=>none
def kW(P:Program)(t:TypeId)(m k x:Option Value)(H:Qo)(n:Nat):Option CR:=match m,k,x with
 |some mv,some kv,some v=>match UW P t H mv kv v with
  |some (H',b)=>some ⟨.val undef,H',n,[b],[b]⟩
  |none=>none
 |_,_,_=>none
def MT(P:Program)(ev:Operand->Option Value)(o:Oper)(op:BinOp)(x y:Option Value)(H:Qo)(n:Nat):Option CR:=match x,y with
 |some a,some b=>match AI op a b with
  |some v=>some ⟨.val v,H,n,[],[]⟩
  |none=>mkPure (Uk P ev o) H n
 |_,_=>none
def NQ(x:Option Value)(H:Qo)(n:Nat):Option CR:=match x with
 |some (.pointer (some a))=>some ⟨.val (.pointer (some a)),H,n,[],[]⟩
 |some (.func (.func f) xs ys)=>some ⟨.val (.func (.func f) xs ys),H,n,[],[]⟩
 |some (.func (.yield f) xs ys)=>some ⟨.val (.func (.yield f) xs ys),H,n,[],[]⟩
 |_=>none
def NU(F:FuncId->Bool)(f:Option Value)(args:Option (List Value))(H:Qo)(n:Nat):Option CR:=match f,args with
 |some fv,some args=>match Pf F H fv args.toArray with
  |some (nx,R)=>some ⟨nx,H,n,R,[]⟩
  |none=>none
 |_,_=>none
def IF(P:Program)(ev:Operand->Option Value)(c:Call)(H:Qo)(n:Nat):Option CR:=match c.args.toList,c.argTypes.toList with
 |[s,x],[t,t']=>match ev s,ev x with
  |some sv,some xv=>yg P t t' H n sv xv
  |_,_=>none
 |_,_=>none
def OC(P:Program)(ev:Operand->Option Value)(o:Oper)(c:Call)(H:Qo)(n:Nat):Option CR:=match c.args.toList,c.argTypes.toList with
 |[x],[t]=>match ev x,YC P t with
  |some (.slice (some _) m _),some (.slice _)=>some ⟨.val (.int .i64 m),H,n,[],[]⟩
  |some (.chan (some 0)),some (.slice _)=>some ⟨.val (.int .i64 0),H,n,[],[]⟩
  |_,_=>mkPure (Uk P ev o) H n
 |_,_=>none
def NS(P:Program)(ev:Operand->Option Value)(c:Call)(H:Qo)(n:Nat):Option CR:=match c.args.toList,c.argTypes.toList with
 |[s,x],[t,_]=>match ev s,ev x with
  |some sv,some xv=>ye P t H n sv xv
  |_,_=>none
 |_,_=>none
def F5(P:Program)(ev:Operand->Option Value)(o:Oper)(c:Call)(b:Builtin)(H:Qo)(n:Nat):Option CR:=match b with
 | .append=>IF P ev c H n
 | .len=>OC P ev o c H n
 | .copy=>NS P ev c H n
 |_=>mkPure (Uk P ev o) H n
def cn(P:Program)(F:FuncId->Bool)(ev:Operand->Option Value)(o:Oper)(c:Call)(H:Qo)(n:Nat):Option CR:=match c.callee with
 | .builtin b=>F5 P ev o c b H n
 | .value f=>NU F (ev f) (J9 ev c.args.toList) H n
 |_=>none
def LR(P:Program)(F:FuncId->Bool)(ev:Operand->Option Value)(o:Oper)(H:Qo)(n:Nat):Option CR:=
 match o.op with
 | .move x=>mkPure (ev x) H n
 | .assign x=>mkPure (ev x) H n
 | .pick c a b=>match ev c with
   |some (.bool t)=>mkPure (ev (bif t then a else b)) H n
   |_=>none
 | .alloc t=>F7 P t H n
 | .box t x=>NV t (ev x) H n
 | .build t ps=>F6 P t (partsOf ev ps.toList) H n
 | .buildSlice t len ps=>gd P t len (partsOf ev ps.toList) H n
 | .load t a=>Fy P t (ev a) H n
 | .store t a x=>zh P t (ev a) (ev x) H n
 | .fieldAddr s x f=>bn P s f (ev x) H n
 | .field t x f=>zi P t f (ev x) H n
 | .indexAddr t x i=>bm P t (ev x) (ev i) H n
 | .index t x i=>F1 P ev o t (ev x) (ev i) H n
 | .extract x i=>kX i (ev x) H n
 | .makeSlice t l c=>Ml P t (ev l) (ev c) H n
 | .slice t x lo hi m=>Bc P ev o t x lo hi m H n
 | .makeFunc fn first captured=>pV P ev o fn first captured H n
 | .makeMap _ r=>uH P ev o r H n
 | .lookup t x k ok=>Be P t ok (ev x) (ev k) H n
 | .mapUpdate t m k x=>kW P t (ev m) (ev k) (ev x) H n
 | .binOp op _ x y _=>MT P ev o op (ev x) (ev y) H n
 | .nilCheck x=>NQ (ev x) H n
 | .call c=>cn P F ev o c H n
 |_=>mkPure (Uk P ev o) H n
theorem LQ(P:Program)(F:FuncId->Bool)(ev:Operand->Option Value)(o:Oper)(H:Qo)(n:Nat):LR P F ev o H n=sQ P F ev o H n:=by
 unfold LR sQ;cases o.op with
 |slice t x lo hi m=>cases m <;> cases hi <;> rfl
 |makeFunc fn a b=>cases fn <;> rfl
 |makeMap t r=>cases r <;> rfl
 |call c=>
  simp only[cn];cases c.callee with
  |builtin b=>cases b <;> rfl
  |value f=>rfl
  |invoke a b=>rfl
 |_=>rfl
def F3(r:CR)(s:Rs):Option Rs:=match KN r.H s with
 |s=>some ⟨s.out,s.H,s.n,r.R++s.R,r.W++s.W⟩
def MO(P:Program)(rec:CF->Qo->Nat->Option Rs)(g:FuncId)(args:Array Value)(r:CR):Option Rs:=match Wa P g args with
 |some c=>match rec c r.H r.n with
  |some s=>F3 r s
  |none=>none
 |none=>none
def r5(P:Program)(Xo:WW)(rec:CF->Qo->Nat->Option Rs)(g:FuncId)(args:Array Value)(r:CR):Option Rs:=match Xo g args r.H r.n with
 |some s=>some ⟨s.out,s.H,s.n,r.R++s.R,r.W++s.W⟩
 |none=>MO P rec g args r
def MM(rec:CF->Qo->Nat->Option Rs)(l:Nat)(fn:FuncId)(tm:Array Value)(a b:Code)(r:CR):Option Rs:=bif Nat.ble tm.size 16000 then match rec ⟨fn,ofList tm.size tm.toList,[.code a,.beginRound,.code b],[],.run,some l⟩ r.H r.n with
 |some s=>some ⟨s.out,s.H,s.n,r.R++s.R,r.W++s.W⟩
 |none=>none
 else none
def Bd(P:Program)(Xo:WW)(rec:CF->Qo->Nat->Option Rs)(r:CR):Option Rs:=match r.nx with
 | .val v=>some ⟨.ret v,r.H,r.n,r.R,r.W⟩
 | .enter g args=>r5 P Xo rec g args r
 | .round l fn tm a b=>MM rec l fn tm a b r
def qR(P:Program)(Xo:WW)(rec:CF->Qo->Nat->Option Rs)(n:Nat)(x:Option CR):Option Rs:=match x with
 |some r=>bif r.R.all (fun i=>Nat.blt i n)then Bd P Xo rec r else none
 |none=>none
def MP(v:Option Value)(H:Qo)(n:Nat):Option Rs:=match v with
 |some (.iface t v)=>some ⟨.Z6 (.iface t v),H,n,[],[]⟩
 |_=>none
def AX:Op->Nat
 | .defer _=>1
 | .panic _=>2
 |_=>0
def qV(v:Option Value)(H:Qo)(n:Nat):Option Rs:=match v with
 |some v=>some ⟨.ret v,H,n,[],[]⟩
 |none=>none
def tA(P:Program)(F:FuncId->Bool)(Xo:WW)(rec:CF->Qo->Nat->Option Rs)(T:Tm)(o:Oper)(H:Qo)(n:Nat):Option Rs:=
 match o.op with
 | .move x=>qV (XW T x) H n
 | .assign x=>qV (XW T x) H n
 | .pick c a b=>match XW T c with
   |some (.bool t)=>qV (XW T (bif t then a else b)) H n
   |_=>none
 | .alloc t=>qR P Xo rec n (F7 P t H n)
 | .box t x=>qR P Xo rec n (NV t (XW T x) H n)
 | .build t ps=>qR P Xo rec n (F6 P t (partsOf (XW T) ps.toList) H n)
 | .buildSlice t len ps=>qR P Xo rec n (gd P t len (partsOf (XW T) ps.toList) H n)
 | .load t a=>qR P Xo rec n (Fy P t (XW T a) H n)
 | .store t a x=>qR P Xo rec n (zh P t (XW T a) (XW T x) H n)
 | .fieldAddr s x f=>qR P Xo rec n (bn P s f (XW T x) H n)
 | .field t x f=>qR P Xo rec n (zi P t f (XW T x) H n)
 | .indexAddr t x i=>qR P Xo rec n (bm P t (XW T x) (XW T i) H n)
 | .index t x i=>qR P Xo rec n (F1 P (XW T) o t (XW T x) (XW T i) H n)
 | .extract x i=>qR P Xo rec n (kX i (XW T x) H n)
 | .makeSlice t l c=>qR P Xo rec n (Ml P t (XW T l) (XW T c) H n)
 | .slice t x lo hi m=>qR P Xo rec n (Bc P (XW T) o t x lo hi m H n)
 | .makeFunc fn first captured=>qR P Xo rec n (pV P (XW T) o fn first captured H n)
 | .makeMap _ r=>qR P Xo rec n (uH P (XW T) o r H n)
 | .lookup t x k ok=>qR P Xo rec n (Be P t ok (XW T x) (XW T k) H n)
 | .mapUpdate t m k x=>qR P Xo rec n (kW P t (XW T m) (XW T k) (XW T x) H n)
 | .binOp op _ x y _=>qR P Xo rec n (MT P (XW T) o op (XW T x) (XW T y) H n)
 | .nilCheck x=>qR P Xo rec n (NQ (XW T x) H n)
 | .call c=>qR P Xo rec n (cn P F (XW T) o c H n)
 | .defer _=>none
 | .panic x=>MP (XW T x) H n
 |_=>qR P Xo rec n (mkPure (Uk P (XW T) o) H n)
theorem NP{P:Program}{F:FuncId->Bool}{Xo:WW}{rec:CF->Qo->Nat->Option Rs}{T:Tm}{o:Oper}{H:Qo}{n:Nat}(h1:∀c,o.op≠.defer c)(h2:∀x,o.op≠.panic x):aH P F Xo rec T o H n=qR P Xo rec n (LR P F (XW T) o H n):=by
 rw[LQ];unfold aH;split
 ·rename_i c h;exact absurd h (h1 c)
 ·rename_i x h;exact absurd h (h2 x)
 ·unfold J8;cases sQ P F (XW T) o H n with
  |none=>rfl
  |some r=>
   simp only[qR];cases r.R.all (fun i=>Nat.blt i n)with
   |false=>rfl
   |true=>
    simp only[cond_true,Bd];cases r.nx <;> rfl
theorem JN{P:Program}{Xo:WW}{rec:CF->Qo->Nat->Option Rs}{H:Qo}{n:Nat}(v:Option Value):qR P Xo rec n (mkPure v H n)=qV v H n:=by cases v <;> rfl
theorem Ni(P:Program)(F:FuncId->Bool)(Xo:WW)(rec:CF->Qo->Nat->Option Rs)(T:Tm)(o:Oper)(H:Qo)(n:Nat):tA P F Xo rec T o H n=aH P F Xo rec T o H n:=by
 cases hs:AX o.op with
 |succ k=>
  unfold tA aH;generalize o.op=p at hs;cases p <;> first|(simp[AX]at hs;done)|rfl
 |zero=>
  rw[NP (by intro c h;rw[h]at hs;cases hs) (by intro c h;rw[h]at hs;cases hs)];unfold tA LR;generalize hp:o.op=p at hs;cases p with
  |move x=>exact(JN _).symm
  |assign x=>exact(JN _).symm
  |pick c a b=>
   simp only;split
   ·exact(JN _).symm
   ·rfl
  |defer c=>cases hs
  |panic c=>cases hs
  |_=>rfl
def Jh(P:Program)(F:FuncId->Bool)(Xo:WW)(rec:CF->Qo->Nat->Option Rs)(ops:Array Oper):List Oper->Tm->Qo->Nat->Option (List Rec×RF)
 |[],T,H,n=>some ([],.ok T H n)
 |o::l,T,H,n=>
  bif J7 T o.dst then
   bif Region.wanted o (XI ops T)then
    match tA P F Xo rec T o H n with
    |some s=>match s.out with
     | .ret v=>match Jh P F Xo rec ops l (Vn T o.dst v) s.H s.n with
       |some (rs,fin)=>some (⟨o,true,v,T,H,s.H,n,s.n,s.R,s.W⟩::rs,fin)
       |none=>none
     | .Z6 v=>some ([],.Z6 T v s.H s.n s.R s.W)
    |none=>none
   else match Jh P F Xo rec ops l (Vn T o.dst undef) H n with
    |some (rs,fin)=>some (⟨o,false,undef,T,H,H,n,n,[],[]⟩::rs,fin)
    |none=>none
  else none
theorem tV(P:Program)(F:FuncId->Bool)(Xo:WW)(rec:CF->Qo->Nat->Option Rs)(ops:Array Oper):∀(l:List Oper) (T:Tm) (H:Qo) (n:Nat),Jh P F Xo rec ops l T H n=eA P F Xo rec ops l T H n
 |[],_,_,_=>rfl
 |o::l,T,H,n=>by simp only[Jh,eA,Ni,tV P F Xo rec ops l];rfl
def F2(c:CF)(k:List Item)(H:Qo)(n:Nat):Option FS:=some (.go {c with todo:=k} H n [] [])
def MN(c:CF)(ops:Array Oper)(draw:Bool)(k:List Item):Option (List Rec×RF)->Option FS
 |some (Qw,.ok T' H' n')=>bif !draw || (WV 0 ops.toList && indep ops 0 Qw (Y6 ops.toList []))then some (.go {c with tmps:=T',todo:=k} H' n' (Kz Qw) (VO Qw))else none
 |some (Qw,.Z6 T' v H' n' R W)=>bif !draw || RY ops Qw T' then some (.go {c with tmps:=T',mode:=.Z6 v} H' n' (Kz Qw++R) (VO Qw++W))else none
 |none=>none
def IE(c:CF)(k:List Item)(l:Nat)(ds R1 R2:List Nat):Option Rs->Option FS
 |some s=>match s.out with
  | .ret _=>some (.go {c with todo:=.endRangeFunc l::k,defers:=ds++c.defers} s.H s.n (R1++R2++s.R) s.W)
  | .Z6 v=>some (.go {c with mode:=.Z6 v,defers:=ds++c.defers} s.H s.n (R1++R2++s.R) s.W)
 |none=>none
def Fx(P:Program)(F:FuncId->Bool)(rec:CF->Qo->Nat->Option Rs)(c:CF)(params:Array Tmp)(assign body:Code)(k:List Item)(H:Qo)(n:Nat):Option Value->Option FS
 |some fv=>match U6 c H n params assign body with
  |some (H1,l,ds,R1)=>match Pf F H1 fv #[.func (.yield l) #[] #[]]with
   |some (.enter g args,R2)=>match Wa P g args with
    |some c1=>IE c k l ds R1 R2 (rec c1 H1 (l+1))
    |none=>none
   |_=>none
  |none=>none
 |none=>none
def NT(c:CF)(a b:Code)(k:List Item)(H:Qo)(n:Nat):Option Value->Option FS
 |some (.bool t)=>F2 c (.code (bif t then a else b)::k) H n
 |_=>none
def F0(c:CF)(H:Qo)(n:Nat)(j:Code):Option (List Item)->Option FS
 |some k'=>F2 c k' H n
 |none=>Pq c H n (some j)
def ga(P:Program)(F:FuncId->Bool)(Xo:WW)(rec:CF->Qo->Nat->Option Rs)(c:CF)(k:List Item)(H:Qo)(n:Nat):Code->Option FS
 | .ret=>Pq c H n (some .ret)
 | .skip=>F2 c k H n
 | .label _=>F2 c k H n
 | .seq a b=>F2 c (.code a::.code b::k) H n
 | .cond x a b=>NT c a b k H n (XW c.tmps x)
 | .block id b=>F2 c (.code b::.inBlock id::k) H n
 | .loop b=>F2 c (.code b::.inLoop b::k) H n
 | .scope b=>F2 c (.code b::.inScope b::k) H n
 | .exit id=>F0 c H n (.exit id) (exitTo id k)
 | .goto l=>F0 c H n (.goto l) (gotoIn l k)
 | .region _ ops draw=>MN c ops draw k (Jh P F Xo rec ops ops.toList c.tmps H n)
 | .rangeFunc f params assign body=>Fx P F rec c params assign body k H n (XW c.tmps f)
 |_=>none
def MQ(c:CF)(l:Nat)(k:List Item)(H:Qo)(n:Nat):Option FS:=match Qs H l with
 |some (.loop r)=>bif !(decide (r.state=.busy))then some (.go {c with todo:=(r.pending.map Item.code).toList++k} (Vw H l (.loop {r with state:=.exhausted})) n [l] [l])else none
 |_=>none
def MU(c:CF)(k:List Item)(H:Qo)(n:Nat):Option FS:=match c.roundOf with
 |some l=>match Qs H l with
  |some (.loop r)=>bif decide (r.state=.ready)then some (.go {c with todo:=k} (Vw H l (.loop {r with state:=.busy})) n [l] [l])else none
  |_=>none
 |none=>none
def fZ(P:Program)(F:FuncId->Bool)(Xo:WW)(rec:CF->Qo->Nat->Option Rs)(c:CF)(k:List Item)(H:Qo)(n:Nat):Item->Option FS
 | .code cd=>ga P F Xo rec c k H n cd
 | .inBlock _=>F2 c k H n
 | .inScope _=>F2 c k H n
 | .inLoop b=>F2 c (.code b::.inLoop b::k) H n
 | .endRangeFunc l=>MQ c l k H n
 | .beginRound=>MU c k H n
 |_=>none
def OD(P:Program)(c:CF)(H:Qo)(n:Nat):Option FS:=match c.defers with
 |d::ds=>match Qs H d with
  |some (.deferred (some []))=>some (.go {c with defers:=ds} (Vw H d (.deferred none)) n [d] [d])
  |_=>none
 |[]=>match c.mode with
  | .Z6 v=>bif L7 P c.fn then some (.done (.Z6 v) H n [] [])else none
  |_=>match c.roundOf,kB P c.fn H c.tmps with
   |none,some (v,R)=>some (.done (.ret v) H n R [])
   |_,_=>none
def fH(P:Program)(F:FuncId->Bool)(Xo:WW)(rec:CF->Qo->Nat->Option Rs)(c:CF)(H:Qo)(n:Nat):Option FS:=
 match c.mode with
 | .run=>match c.todo with
   |[]=>Pq c H n none
   |it::k=>fZ P F Xo rec c k H n it
 |_=>OD P c H n
theorem DT(P:Program)(F:FuncId->Bool)(Xo:WW)(rec:CF->Qo->Nat->Option Rs)(c:CF)(H:Qo)(n:Nat):fH P F Xo rec c H n=Pb P F Xo rec c H n:=by
 obtain⟨fn,tmps,todo,defers,mode,ro⟩:=c;unfold fH Pb;cases mode with
 |run=>
  cases todo with
  |nil=>rfl
  |cons it k=>
   cases it with
   |code cd=>
    cases cd with
    |region id ops draw=>
     simp only[fZ,ga,tV];cases eA P F Xo rec ops ops.toList tmps H n with
     |none=>rfl
     |some x=>
      obtain⟨Qw,fin⟩:=x;cases fin <;> rfl
    |rangeFunc f ps assign body=>
     simp only[fZ,ga,Fx];cases XW tmps f with
     |none=>rfl
     |some fv=>
      simp only;cases U6 ⟨fn,tmps,.code (.rangeFunc f ps assign body)::k,defers,.run,ro⟩ H n ps assign body with
      |none=>rfl
      |some x=>
       obtain⟨H1,l,ds,R1⟩:=x;simp only;cases Pf F H1 fv #[.func (.yield l) #[] #[]]with
       |none=>rfl
       |some y=>
        obtain⟨nx,R2⟩:=y;cases nx with
        |enter g args=>
         simp only;cases Wa P g args with
         |none=>rfl
         |some c1=>
          simp only;cases rec c1 H1 (l+1)with
          |none=>rfl
          |some s=>obtain⟨o,_,_,_,_⟩:=s;cases o <;> rfl
        |_=>rfl
    |cond x a b=>
     simp only[fZ,ga];cases XW tmps x with
     |none=>rfl
     |some v=>cases v <;> rfl
    |exit id=>simp only[fZ,ga];cases exitTo id k <;> rfl
    |goto id=>simp only[fZ,ga];cases gotoIn id k <;> rfl
    |_=>rfl
   |_=>rfl
 |ret=>rfl
 |Z6 v=>rfl
def Yy(P:Program)(F:FuncId->Bool)(Xo:WW):Nat->Nat->CF->Qo->Nat->List Nat->List Nat->Option Rs
 |0,_,_,_,_,_,_=>none
 |fuel+1,b,c,H,n,R,W=>
  match fH P F Xo (fun c1 H1 n1=>Yy P F Xo fuel n1 c1 H1 n1 [] []) c H n with
  |some (.go c' H' n' R' W')=>Yy P F Xo fuel b c' H' n' (ZK b R' R) (ZK b W' W)
  |some (.done out H' n' R' W')=>some ⟨out,H',n',ZK b R' R,ZK b W' W⟩
  |none=>none
theorem nU(P:Program)(F:FuncId->Bool)(Xo:WW):∀(fuel b:Nat) (c:CF) (H:Qo) (n:Nat) (R W:List Nat),Yy P F Xo fuel b c H n R W=oO P F Xo fuel b c H n R W
 |0,_,_,_,_,_,_=>rfl
 |fuel+1,b,c,H,n,R,W=>by
  simp only[Yy,oO,DT,nU P F Xo fuel];rfl
end Go.CE
