/- CE: the canonical machine again, its cases in small pieces: the kernel evaluates it quicker. -/
import Derived.Test.YtncjjangllkokaaZRB04
set_option linter.all false
open Nat renaming ble->LI,blt->Ll
namespace Go.CE
open Go Go.RowKit

def GN(P:Program)(t:TypeId)(H:Qm)(n:Nat):Option CR:=match zeroOf P t with
 |some z=>bif af z then some ⟨.val (zO n),(n,.cells z.cells t (0,0))::H,n+1,[],[]⟩else none
 |none=>none
def QbB(t:TypeId)(x:Option Value)(H:Qm)(n:Nat):Option CR:=match x with
 |some v=>some ⟨.val (zO n),(n,.cells v.cells t (0,0))::H,n+1,[],[]⟩
 |none=>none
def GM(P:Program)(t:TypeId)(l:Option (List (Nat×Value)))(H:Qm)(n:Nat):Option CR:=match l with
 |some l=>mkPure (tM P t l) H n
 |none=>none
def iH(P:Program)(t:TypeId)(len:Nat)(l:Option (List (Nat×Value)))(H:Qm)(n:Nat):Option CR:=match l with
 |some l=>match Rq P t len l with
  |some (e,cs,s)=>some ⟨.val (.slice (some ⟨n,0,none⟩) len s),(n,.cells cs e (0,0))::H,n+1,[],[]⟩
  |none=>bif kj P t len l then some ⟨.val aP,H,n,[],[]⟩else none
 |none=>none
def GG(P:Program)(t:TypeId)(a:Option Value)(H:Qm)(n:Nat):Option CR:=match a with
 |some p=>match SJ P t H p with
  |some (v,b)=>some ⟨.val v,H,n,[b],[]⟩
  |none=>none
 |none=>none
def zi(P:Program)(t:TypeId)(a x:Option Value)(H:Qm)(n:Nat):Option CR:=match a,x with
 |some p,some v=>match RC P t H v p with
  |some (H',b)=>some ⟨.val undef,H',n,[b],[b]⟩
  |none=>none
 |_,_=>none
def cG(P:Program)(s:TypeId)(f:Nat)(x:Option Value)(H:Qm)(n:Nat):Option CR:=match x with
 |some p=>mkPure (Wo P s f p) H n
 |none=>none
def zj(P:Program)(s:TypeId)(f:Nat)(x:Option Value)(H:Qm)(n:Nat):Option CR:=match x with
 |some p=>mkPure (ir P s f p) H n
 |none=>none
def cF(P:Program)(t:TypeId)(x i:Option Value)(H:Qm)(n:Nat):Option CR:=match x,i with
 |some v,some k=>mkPure (Y7 P t v k) H n
 |_,_=>none
def GI(P:Program)(ev:Operand->Option Value)(o:Oper)(t:TypeId)(x i:Option Value)(H:Qm)(n:Nat):Option CR:=match x,i with
 |some (.agg cs),some k=>mkPure (tK P t (.agg cs) k) H n
 |_,_=>mkPure (U9 P ev o) H n
def lG(i:Nat)(x:Option Value)(H:Qm)(n:Nat):Option CR:=match x with
 |some v=>mkPure (SK i v) H n
 |none=>none
def ON(P:Program)(t:TypeId)(l c:Option Value)(H:Qm)(n:Nat):Option CR:=match l,c with
 |some x,some y=>match TK P t x y with
  |some (e,cs,l,s)=>some ⟨.val (.slice (some ⟨n,0,none⟩) l s),(n,.cells cs e (0,0))::H,n+1,[],[]⟩
  |none=>none
 |_,_=>none
def Qaz(P:Program)(ev:Operand->Option Value)(o:Oper)(t:TypeId)(x:Option Value)(lo hi:Option (Option Value))(H:Qm)(n:Nat):Option CR:=match x,lo,hi with
 |some (.slice (some a) m s),some l,some h=>mkPure (bc P t (.slice (some a) m s) l h) H n
 |some (.pointer p),some l,some h=>mkPure (bc P t (.pointer p) l h) H n
 |_,_,_=>mkPure (U9 P ev o) H n
def Bf(P:Program)(ev:Operand->Option Value)(o:Oper)(t:TypeId)(x:Operand)(lo hi m:Option Operand)(H:Qm)(n:Nat):Option CR:=match m with
 |none=>Qaz P ev o t (ev x) (E0 ev lo) (E0 ev hi) H n
 |some mx=>match hi with
  |some h=>bif cm P t (ev x) (E0 ev lo) (ev h) (ev mx)then some ⟨.val aP,H,n,[],[]⟩else mkPure (U9 P ev o) H n
  |none=>mkPure (U9 P ev o) H n
def qt(P:Program)(ev:Operand->Option Value)(o:Oper)(fn:Fn)(first captured:Array Operand)(H:Qm)(n:Nat):Option CR:=match fn with
 | .func f=>match PL ev first.toList,PL ev captured.toList with
   |some xs,some ys=>some ⟨.val (.func (.func f) xs.toArray ys.toArray),H,n,[],[]⟩
   |_,_=>none
 |_=>mkPure (U9 P ev o) H n
def v5(P:Program)(ev:Operand->Option Value)(o:Oper)(r:Option Operand)(H:Qm)(n:Nat):Option CR:=match r with
 |none=>some ⟨.val (.map (some n)),(n,.map #[] 0)::H,n+1,[],[]⟩
 |some _=>mkPure (U9 P ev o) H n
def Bh(P:Program)(t:TypeId)(ok:Bool)(x k:Option Value)(H:Qm)(n:Nat):Option CR:=match x,k with
 |some m,some kv=>match TC P t H ok m kv with
  |some (v,R)=>some ⟨.val v,H,n,R,[]⟩
  |none=>none
 |_,_=>none
def lF(P:Program)(t:TypeId)(m k x:Option Value)(H:Qm)(n:Nat):Option CR:=match m,k,x with
 |some mv,some kv,some v=>match K3 P t H mv kv v with
  |some (H',b)=>some ⟨.val undef,H',n,[b],[b]⟩
  |none=>none
 |_,_,_=>none
def Qa5(P:Program)(ev:Operand->Option Value)(o:Oper)(op:BinOp)(x y:Option Value)(H:Qm)(n:Nat):Option CR:=match x,y with
 |some a,some b=>match AD op a b with
  |some v=>some ⟨.val v,H,n,[],[]⟩
  |none=>mkPure (U9 P ev o) H n
 |_,_=>none
def Qb7(x:Option Value)(H:Qm)(n:Nat):Option CR:=match x with
 |some (.pointer (some a))=>some ⟨.val (.pointer (some a)),H,n,[],[]⟩
 |some (.func (.func f) xs ys)=>some ⟨.val (.func (.func f) xs ys),H,n,[],[]⟩
 |some (.func (.yield f) xs ys)=>some ⟨.val (.func (.yield f) xs ys),H,n,[],[]⟩
 |_=>none
def QbA(F:FuncId->Bool)(f:Option Value)(args:Option (List Value))(H:Qm)(n:Nat):Option CR:=match f,args with
 |some fv,some args=>match Rp F H fv args.toArray with
  |some (nx,R)=>some ⟨nx,H,n,R,[]⟩
  |none=>none
 |_,_=>none
def No(P:Program)(ev:Operand->Option Value)(c:Call)(H:Qm)(n:Nat):Option CR:=match c.args.toList,c.argTypes.toList with
 |[s,x],[t,t']=>match ev s,ev x with
  |some sv,some xv=>yE P t t' H n sv xv
  |_,_=>none
 |_,_=>none
def Qcq(P:Program)(ev:Operand->Option Value)(o:Oper)(c:Call)(H:Qm)(n:Nat):Option CR:=match c.args.toList,c.argTypes.toList with
 |[x],[t]=>match ev x,JN P t with
  |some (.slice (some _) m _),some (.slice _)=>some ⟨.val (.int .i64 m),H,n,[],[]⟩
  |some (.chan (some 0)),some (.slice _)=>some ⟨.val (.int .i64 0),H,n,[],[]⟩
  |_,_=>mkPure (U9 P ev o) H n
 |_,_=>none
def Qb8(P:Program)(ev:Operand->Option Value)(c:Call)(H:Qm)(n:Nat):Option CR:=match c.args.toList,c.argTypes.toList with
 |[s,x],[t,_]=>match ev s,ev x with
  |some sv,some xv=>yC P t H n sv xv
  |_,_=>none
 |_,_=>none
def GL(P:Program)(ev:Operand->Option Value)(o:Oper)(c:Call)(b:Builtin)(H:Qm)(n:Nat):Option CR:=match b with
 | .append=>No P ev c H n
 | .len=>Qcq P ev o c H n
 | .copy=>Qb8 P ev c H n
 |_=>mkPure (U9 P ev o) H n
def eA(P:Program)(F:FuncId->Bool)(ev:Operand->Option Value)(o:Oper)(c:Call)(H:Qm)(n:Nat):Option CR:=match c.callee with
 | .builtin b=>GL P ev o c b H n
 | .value f=>QbA F (ev f) (PL ev c.args.toList) H n
 |_=>none
def O4(P:Program)(F:FuncId->Bool)(ev:Operand->Option Value)(o:Oper)(H:Qm)(n:Nat):Option CR:=
 match o.op with
 | .move x=>mkPure (ev x) H n
 | .assign x=>mkPure (ev x) H n
 | .pick c a b=>match ev c with
   |some (.bool t)=>mkPure (ev (bif t then a else b)) H n
   |_=>none
 | .alloc t=>GN P t H n
 | .box t x=>QbB t (ev x) H n
 | .build t ps=>GM P t (partsOf ev ps.toList) H n
 | .buildSlice t len ps=>iH P t len (partsOf ev ps.toList) H n
 | .load t a=>GG P t (ev a) H n
 | .store t a x=>zi P t (ev a) (ev x) H n
 | .fieldAddr s x f=>cG P s f (ev x) H n
 | .field t x f=>zj P t f (ev x) H n
 | .indexAddr t x i=>cF P t (ev x) (ev i) H n
 | .index t x i=>GI P ev o t (ev x) (ev i) H n
 | .extract x i=>lG i (ev x) H n
 | .makeSlice t l c=>ON P t (ev l) (ev c) H n
 | .slice t x lo hi m=>Bf P ev o t x lo hi m H n
 | .makeFunc fn first captured=>qt P ev o fn first captured H n
 | .makeMap _ r=>v5 P ev o r H n
 | .lookup t x k ok=>Bh P t ok (ev x) (ev k) H n
 | .mapUpdate t m k x=>lF P t (ev m) (ev k) (ev x) H n
 | .binOp op _ x y _=>Qa5 P ev o op (ev x) (ev y) H n
 | .nilCheck x=>Qb7 (ev x) H n
 | .call c=>eA P F ev o c H n
 |_=>mkPure (U9 P ev o) H n
theorem O3(P:Program)(F:FuncId->Bool)(ev:Operand->Option Value)(o:Oper)(H:Qm)(n:Nat):O4 P F ev o H n=tB P F ev o H n:=by
 unfold O4 tB;cases o.op with
 |slice t x lo hi m=>cases m <;> cases hi <;> rfl
 |makeFunc fn a b=>cases fn <;> rfl
 |makeMap t r=>cases r <;> rfl
 |call c=>
  simp only[eA];cases c.callee with
  |builtin b=>cases b <;> rfl
  |value f=>rfl
  |invoke a b=>rfl
 |_=>rfl
def GK(r:CR)(s:Rs):Option Rs:=match YG r.H s with
 |s=>some ⟨s.out,s.H,s.n,r.R++s.R,r.W++s.W⟩
def Qa2(P:Program)(rec:CF->Qm->Nat->Option Rs)(g:FuncId)(args:Array Value)(r:CR):Option Rs:=match Wi P g args with
 |some c=>match rec c r.H r.n with
  |some s=>GK r s
  |none=>none
 |none=>none
def rK(P:Program)(Xm:Vh)(rec:CF->Qm->Nat->Option Rs)(g:FuncId)(args:Array Value)(r:CR):Option Rs:=match Xm g args r.H r.n with
 |some s=>some ⟨s.out,s.H,s.n,r.R++s.R,r.W++s.W⟩
 |none=>Qa2 P rec g args r
def Qa0(rec:CF->Qm->Nat->Option Rs)(l:Nat)(fn:FuncId)(tm:Array Value)(a b:Code)(r:CR):Option Rs:=bif LI tm.size 16000 then match rec ⟨fn,ofList tm.size tm.toList,[.code a,.beginRound,.code b],[],.run,some l⟩ r.H r.n with
 |some s=>some ⟨s.out,s.H,s.n,r.R++s.R,r.W++s.W⟩
 |none=>none
 else none
def Bg(P:Program)(Xm:Vh)(rec:CF->Qm->Nat->Option Rs)(r:CR):Option Rs:=match r.nx with
 | .val v=>some ⟨.ret v,r.H,r.n,r.R,r.W⟩
 | .enter g args=>rK P Xm rec g args r
 | .round l fn tm a b=>Qa0 rec l fn tm a b r
def qR(P:Program)(Xm:Vh)(rec:CF->Qm->Nat->Option Rs)(n:Nat)(x:Option CR):Option Rs:=match x with
 |some r=>bif r.R.all (fun i=>Ll i n)then Bg P Xm rec r else none
 |none=>none
def Qa3(v:Option Value)(H:Qm)(n:Nat):Option Rs:=match v with
 |some (.iface t v)=>some ⟨.ZB (.iface t v),H,n,[],[]⟩
 |_=>none
def AW:Op->Nat
 | .defer _=>1
 | .panic _=>2
 |_=>0
def qV(v:Option Value)(H:Qm)(n:Nat):Option Rs:=match v with
 |some v=>some ⟨.ret v,H,n,[],[]⟩
 |none=>none
def ub(P:Program)(F:FuncId->Bool)(Xm:Vh)(rec:CF->Qm->Nat->Option Rs)(T:Tm)(o:Oper)(H:Qm)(n:Nat):Option Rs:=
 match o.op with
 | .move x=>qV (XV T x) H n
 | .assign x=>qV (XV T x) H n
 | .pick c a b=>match XV T c with
   |some (.bool t)=>qV (XV T (bif t then a else b)) H n
   |_=>none
 | .alloc t=>qR P Xm rec n (GN P t H n)
 | .box t x=>qR P Xm rec n (QbB t (XV T x) H n)
 | .build t ps=>qR P Xm rec n (GM P t (partsOf (XV T) ps.toList) H n)
 | .buildSlice t len ps=>qR P Xm rec n (iH P t len (partsOf (XV T) ps.toList) H n)
 | .load t a=>qR P Xm rec n (GG P t (XV T a) H n)
 | .store t a x=>qR P Xm rec n (zi P t (XV T a) (XV T x) H n)
 | .fieldAddr s x f=>qR P Xm rec n (cG P s f (XV T x) H n)
 | .field t x f=>qR P Xm rec n (zj P t f (XV T x) H n)
 | .indexAddr t x i=>qR P Xm rec n (cF P t (XV T x) (XV T i) H n)
 | .index t x i=>qR P Xm rec n (GI P (XV T) o t (XV T x) (XV T i) H n)
 | .extract x i=>qR P Xm rec n (lG i (XV T x) H n)
 | .makeSlice t l c=>qR P Xm rec n (ON P t (XV T l) (XV T c) H n)
 | .slice t x lo hi m=>qR P Xm rec n (Bf P (XV T) o t x lo hi m H n)
 | .makeFunc fn first captured=>qR P Xm rec n (qt P (XV T) o fn first captured H n)
 | .makeMap _ r=>qR P Xm rec n (v5 P (XV T) o r H n)
 | .lookup t x k ok=>qR P Xm rec n (Bh P t ok (XV T x) (XV T k) H n)
 | .mapUpdate t m k x=>qR P Xm rec n (lF P t (XV T m) (XV T k) (XV T x) H n)
 | .binOp op _ x y _=>qR P Xm rec n (Qa5 P (XV T) o op (XV T x) (XV T y) H n)
 | .nilCheck x=>qR P Xm rec n (Qb7 (XV T x) H n)
 | .call c=>qR P Xm rec n (eA P F (XV T) o c H n)
 | .defer _=>none
 | .panic x=>Qa3 (XV T x) H n
 |_=>qR P Xm rec n (mkPure (U9 P (XV T) o) H n)
theorem Qb6{P:Program}{F:FuncId->Bool}{Xm:Vh}{rec:CF->Qm->Nat->Option Rs}{T:Tm}{o:Oper}{H:Qm}{n:Nat}(h1:∀c,o.op≠.defer c)(h2:∀x,o.op≠.panic x):aN P F Xm rec T o H n=qR P Xm rec n (O4 P F (XV T) o H n):=by
 rw[O3];unfold aN;split
 ·rename_i c h;exact absurd h (h1 c)
 ·rename_i x h;exact absurd h (h2 x)
 ·unfold PK;cases tB P F (XV T) o H n with
  |none=>rfl
  |some r=>
   simp only[qR];cases r.R.all (fun i=>Ll i n)with
   |false=>rfl
   |true=>
    simp only[cond_true,Bg];cases r.nx <;> rfl
theorem Rf{P:Program}{Xm:Vh}{rec:CF->Qm->Nat->Option Rs}{H:Qm}{n:Nat}(v:Option Value):qR P Xm rec n (mkPure v H n)=qV v H n:=by cases v <;> rfl
theorem QaQ(P:Program)(F:FuncId->Bool)(Xm:Vh)(rec:CF->Qm->Nat->Option Rs)(T:Tm)(o:Oper)(H:Qm)(n:Nat):ub P F Xm rec T o H n=aN P F Xm rec T o H n:=by
 cases hs:AW o.op with
 |succ k=>
  unfold ub aN;generalize o.op=p at hs;cases p <;> first|(simp[AW]at hs;done)|rfl
 |zero=>
  rw[Qb6 (by intro c h;rw[h]at hs;cases hs) (by intro c h;rw[h]at hs;cases hs)];unfold ub O4;generalize hp:o.op=p at hs;cases p with
  |move x=>exact(Rf _).symm
  |assign x=>exact(Rf _).symm
  |pick c a b=>
   simp only;split
   ·exact(Rf _).symm
   ·rfl
  |defer c=>cases hs
  |panic c=>cases hs
  |_=>rfl
def Pk(P:Program)(F:FuncId->Bool)(Xm:Vh)(rec:CF->Qm->Nat->Option Rs)(ops:Array Oper):List Oper->Tm->Qm->Nat->Option (List Rec×RF)
 |[],T,H,n=>some ([],.ok T H n)
 |o::l,T,H,n=>
  bif PI T o.dst then
   bif Region.wanted o (XI ops T)then
    match ub P F Xm rec T o H n with
    |some s=>match s.out with
     | .ret v=>match Pk P F Xm rec ops l (V0 T o.dst v) s.H s.n with
       |some (rs,fin)=>some (⟨o,true,v,T,H,s.H,n,s.n,s.R,s.W⟩::rs,fin)
       |none=>none
     | .ZB v=>some ([],.ZB T v s.H s.n s.R s.W)
    |none=>none
   else match Pk P F Xm rec ops l (V0 T o.dst undef) H n with
    |some (rs,fin)=>some (⟨o,false,undef,T,H,H,n,n,[],[]⟩::rs,fin)
    |none=>none
  else none
theorem u7(P:Program)(F:FuncId->Bool)(Xm:Vh)(rec:CF->Qm->Nat->Option Rs)(ops:Array Oper):∀(l:List Oper) (T:Tm) (H:Qm) (n:Nat),Pk P F Xm rec ops l T H n=gF P F Xm rec ops l T H n
 |[],_,_,_=>rfl
 |o::l,T,H,n=>by simp only[Pk,gF,QaQ,u7 P F Xm rec ops l];rfl
def GJ(c:CF)(k:List Item)(H:Qm)(n:Nat):Option FS:=some (.go {c with todo:=k} H n [] [])
def Qa1(c:CF)(ops:Array Oper)(draw:Bool)(k:List Item):Option (List Rec×RF)->Option FS
 |some (Qs,.ok T' H' n')=>bif !draw || (Vg 0 ops.toList && indep ops 0 Qs (JK ops.toList []))then some (.go {c with tmps:=T',todo:=k} H' n' (Yn Qs) (Uh Qs))else none
 |some (Qs,.ZB T' v H' n' R W)=>bif !draw || Ts ops Qs T' then some (.go {c with tmps:=T',mode:=.ZB v} H' n' (Yn Qs++R) (Uh Qs++W))else none
 |none=>none
def Nn(c:CF)(k:List Item)(l:Nat)(ds R1 R2:List Nat):Option Rs->Option FS
 |some s=>match s.out with
  | .ret _=>some (.go {c with todo:=.endRangeFunc l::k,defers:=ds++c.defers} s.H s.n (R1++R2++s.R) s.W)
  | .ZB v=>some (.go {c with mode:=.ZB v,defers:=ds++c.defers} s.H s.n (R1++R2++s.R) s.W)
 |none=>none
def GF(P:Program)(F:FuncId->Bool)(rec:CF->Qm->Nat->Option Rs)(c:CF)(params:Array Tmp)(assign body:Code)(k:List Item)(H:Qm)(n:Nat):Option Value->Option FS
 |some fv=>match Kb c H n params assign body with
  |some (H1,l,ds,R1)=>match Rp F H1 fv #[.func (.yield l) #[] #[]]with
   |some (.enter g args,R2)=>match Wi P g args with
    |some c1=>Nn c k l ds R1 R2 (rec c1 H1 (l+1))
    |none=>none
   |_=>none
  |none=>none
 |none=>none
def Qb9(c:CF)(a b:Code)(k:List Item)(H:Qm)(n:Nat):Option Value->Option FS
 |some (.bool t)=>GJ c (.code (bif t then a else b)::k) H n
 |_=>none
def GH(c:CF)(H:Qm)(n:Nat)(j:Code):Option (List Item)->Option FS
 |some k'=>GJ c k' H n
 |none=>Rz c H n (some j)
def iG(P:Program)(F:FuncId->Bool)(Xm:Vh)(rec:CF->Qm->Nat->Option Rs)(c:CF)(k:List Item)(H:Qm)(n:Nat):Code->Option FS
 | .ret=>Rz c H n (some .ret)
 | .skip=>GJ c k H n
 | .label _=>GJ c k H n
 | .seq a b=>GJ c (.code a::.code b::k) H n
 | .cond x a b=>Qb9 c a b k H n (XV c.tmps x)
 | .block id b=>GJ c (.code b::.inBlock id::k) H n
 | .loop b=>GJ c (.code b::.inLoop b::k) H n
 | .scope b=>GJ c (.code b::.inScope b::k) H n
 | .exit id=>GH c H n (.exit id) (exitTo id k)
 | .goto l=>GH c H n (.goto l) (gotoIn l k)
 | .region _ ops draw=>Qa1 c ops draw k (Pk P F Xm rec ops ops.toList c.tmps H n)
 | .rangeFunc f params assign body=>GF P F rec c params assign body k H n (XV c.tmps f)
 |_=>none
def Qa4(c:CF)(l:Nat)(k:List Item)(H:Qm)(n:Nat):Option FS:=match Qq H l with
 |some (.loop r)=>bif !(decide (r.state=.busy))then some (.go {c with todo:=(r.pending.map Item.code).toList++k} (VE H l (.loop {r with state:=.exhausted})) n [l] [l])else none
 |_=>none
def Qa6(c:CF)(k:List Item)(H:Qm)(n:Nat):Option FS:=match c.roundOf with
 |some l=>match Qq H l with
  |some (.loop r)=>bif decide (r.state=.ready)then some (.go {c with todo:=k} (VE H l (.loop {r with state:=.busy})) n [l] [l])else none
  |_=>none
 |none=>none
def iF(P:Program)(F:FuncId->Bool)(Xm:Vh)(rec:CF->Qm->Nat->Option Rs)(c:CF)(k:List Item)(H:Qm)(n:Nat):Item->Option FS
 | .code cd=>iG P F Xm rec c k H n cd
 | .inBlock _=>GJ c k H n
 | .inScope _=>GJ c k H n
 | .inLoop b=>GJ c (.code b::.inLoop b::k) H n
 | .endRangeFunc l=>Qa4 c l k H n
 | .beginRound=>Qa6 c k H n
 |_=>none
def Qcr(P:Program)(c:CF)(H:Qm)(n:Nat):Option FS:=match c.defers with
 |d::ds=>match Qq H d with
  |some (.deferred (some []))=>some (.go {c with defers:=ds} (VE H d (.deferred none)) n [d] [d])
  |_=>none
 |[]=>match c.mode with
  | .ZB v=>bif Oh P c.fn then some (.done (.ZB v) H n [] [])else none
  |_=>match c.roundOf,kW P c.fn H c.tmps with
   |none,some (v,R)=>some (.done (.ret v) H n R [])
   |_,_=>none
def ic(P:Program)(F:FuncId->Bool)(Xm:Vh)(rec:CF->Qm->Nat->Option Rs)(c:CF)(H:Qm)(n:Nat):Option FS:=
 match c.mode with
 | .run=>match c.todo with
   |[]=>Rz c H n none
   |it::k=>iF P F Xm rec c k H n it
 |_=>Qcr P c H n
theorem Ef(P:Program)(F:FuncId->Bool)(Xm:Vh)(rec:CF->Qm->Nat->Option Rs)(c:CF)(H:Qm)(n:Nat):ic P F Xm rec c H n=Rn P F Xm rec c H n:=by
 obtain⟨fn,tmps,todo,defers,mode,ro⟩:=c;unfold ic Rn;cases mode with
 |run=>
  cases todo with
  |nil=>rfl
  |cons it k=>
   cases it with
   |code cd=>
    cases cd with
    |region id ops draw=>
     simp only[iF,iG,u7];cases gF P F Xm rec ops ops.toList tmps H n with
     |none=>rfl
     |some x=>
      obtain⟨Qs,fin⟩:=x;cases fin <;> rfl
    |rangeFunc f ps assign body=>
     simp only[iF,iG,GF];cases XV tmps f with
     |none=>rfl
     |some fv=>
      simp only;cases Kb ⟨fn,tmps,.code (.rangeFunc f ps assign body)::k,defers,.run,ro⟩ H n ps assign body with
      |none=>rfl
      |some x=>
       obtain⟨H1,l,ds,R1⟩:=x;simp only;cases Rp F H1 fv #[.func (.yield l) #[] #[]]with
       |none=>rfl
       |some y=>
        obtain⟨nx,R2⟩:=y;cases nx with
        |enter g args=>
         simp only;cases Wi P g args with
         |none=>rfl
         |some c1=>
          simp only;cases rec c1 H1 (l+1)with
          |none=>rfl
          |some s=>obtain⟨o,_,_,_,_⟩:=s;cases o <;> rfl
        |_=>rfl
    |cond x a b=>
     simp only[iF,iG];cases XV tmps x with
     |none=>rfl
     |some v=>cases v <;> rfl
    |exit id=>simp only[iF,iG];cases exitTo id k <;> rfl
    |goto id=>simp only[iF,iG];cases gotoIn id k <;> rfl
    |_=>rfl
   |_=>rfl
 |ret=>rfl
 |ZB v=>rfl
def JB(P:Program)(F:FuncId->Bool)(Xm:Vh):Nat->Nat->CF->Qm->Nat->List Nat->List Nat->Option Rs
 |0,_,_,_,_,_,_=>none
 |fuel+1,b,c,H,n,R,W=>
  match ic P F Xm (fun c1 H1 n1=>JB P F Xm fuel n1 c1 H1 n1 [] []) c H n with
  |some (.go c' H' n' R' W')=>JB P F Xm fuel b c' H' n' (ZP b R' R) (ZP b W' W)
  |some (.done out H' n' R' W')=>some ⟨out,H',n',ZP b R' R,ZP b W' W⟩
  |none=>none
theorem oE(P:Program)(F:FuncId->Bool)(Xm:Vh):∀(fuel b:Nat) (c:CF) (H:Qm) (n:Nat) (R W:List Nat),JB P F Xm fuel b c H n R W=p8 P F Xm fuel b c H n R W
 |0,_,_,_,_,_,_=>rfl
 |fuel+1,b,c,H,n,R,W=>by
  simp only[JB,p8,Ef,oE P F Xm fuel];rfl
end Go.CE
