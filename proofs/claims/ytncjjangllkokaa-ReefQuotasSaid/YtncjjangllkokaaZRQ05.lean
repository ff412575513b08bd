/- CE: the canonical machine again, its cases in small pieces: the kernel evaluates it quicker. -/
import Derived.Test.YtncjjangllkokaaZRQ04
set_option linter.all false
open Nat renaming ble->Oo,blt->NO
namespace Go.CE
open Go Go.RowKit

def Es(P:Program)(t:TypeId)(H:Qp)(n:Nat):Option CR:=match zeroOf P t with
 |some z=>bif af z then some ⟨.val (yf n),(n,.cells z.cells t (0,0))::H,n+1,[],[]⟩else none
 |none=>none
def MA(t:TypeId)(x:Option Value)(H:Qp)(n:Nat):Option CR:=match x with
 |some v=>some ⟨.val (yf n),(n,.cells v.cells t (0,0))::H,n+1,[],[]⟩
 |none=>none
def Er(P:Program)(t:TypeId)(l:Option (List (Nat×Value)))(H:Qp)(n:Nat):Option CR:=match l with
 |some l=>mkPure (r4 P t l) H n
 |none=>none
def fP(P:Program)(t:TypeId)(len:Nat)(l:Option (List (Nat×Value)))(H:Qp)(n:Nat):Option CR:=match l with
 |some l=>match Pw P t len l with
  |some (e,cs,s)=>some ⟨.val (.slice (some ⟨n,0,none⟩) len s),(n,.cells cs e (0,0))::H,n+1,[],[]⟩
  |none=>bif iO P t len l then some ⟨.val Tv,H,n,[],[]⟩else none
 |none=>none
def Ek(P:Program)(t:TypeId)(a:Option Value)(H:Qp)(n:Nat):Option CR:=match a with
 |some p=>match R8 P t H p with
  |some (v,b)=>some ⟨.val v,H,n,[b],[]⟩
  |none=>none
 |none=>none
def xn(P:Program)(t:TypeId)(a x:Option Value)(H:Qp)(n:Nat):Option CR:=match a,x with
 |some p,some v=>match PA P t H v p with
  |some (H',b)=>some ⟨.val undef,H',n,[b],[b]⟩
  |none=>none
 |_,_=>none
def bl(P:Program)(s:TypeId)(f:Nat)(x:Option Value)(H:Qp)(n:Nat):Option CR:=match x with
 |some p=>mkPure (Wx P s f p) H n
 |none=>none
def xo(P:Program)(s:TypeId)(f:Nat)(x:Option Value)(H:Qp)(n:Nat):Option CR:=match x with
 |some p=>mkPure (ft P s f p) H n
 |none=>none
def bk(P:Program)(t:TypeId)(x i:Option Value)(H:Qp)(n:Nat):Option CR:=match x,i with
 |some v,some k=>mkPure (KT P t v k) H n
 |_,_=>none
def Em(P:Program)(ev:Operand->Option Value)(o:Oper)(t:TypeId)(x i:Option Value)(H:Qp)(n:Nat):Option CR:=match x,i with
 |some (.agg cs),some k=>mkPure (rz P t (.agg cs) k) H n
 |_,_=>mkPure (Uj P ev o) H n
def jS(i:Nat)(x:Option Value)(H:Qp)(n:Nat):Option CR:=match x with
 |some v=>mkPure (R9 i v) H n
 |none=>none
def IL(P:Program)(t:TypeId)(l c:Option Value)(H:Qp)(n:Nat):Option CR:=match l,c with
 |some x,some y=>match S9 P t x y with
  |some (e,cs,l,s)=>some ⟨.val (.slice (some ⟨n,0,none⟩) l s),(n,.cells cs e (0,0))::H,n+1,[],[]⟩
  |none=>none
 |_,_=>none
def Lw(P:Program)(ev:Operand->Option Value)(o:Oper)(t:TypeId)(x:Option Value)(lo hi:Option (Option Value))(H:Qp)(n:Nat):Option CR:=match x,lo,hi with
 |some (.slice (some a) m s),some l,some h=>mkPure (fq P t (.slice (some a) m s) l h) H n
 |some (.pointer p),some l,some h=>mkPure (fq P t (.pointer p) l h) H n
 |_,_,_=>mkPure (Uj P ev o) H n
def z0(P:Program)(ev:Operand->Option Value)(o:Oper)(t:TypeId)(x:Operand)(lo hi m:Option Operand)(H:Qp)(n:Nat):Option CR:=match m with
 |none=>Lw P ev o t (ev x) (FI ev lo) (FI ev hi) H n
 |some mx=>match hi with
  |some h=>bif aG P t (ev x) (FI ev lo) (ev h) (ev mx)then some ⟨.val Tv,H,n,[],[]⟩else mkPure (Uj P ev o) H n
  |none=>mkPure (Uj P ev o) H n
def oz(P:Program)(ev:Operand->Option Value)(o:Oper)(fn:Fn)(first captured:Array Operand)(H:Qp)(n:Nat):Option CR:=match fn with
 | .func f=>match JP ev first.toList,JP ev captured.toList with
   |some xs,some ys=>some ⟨.val (.func (.func f) xs.toArray ys.toArray),H,n,[],[]⟩
   |_,_=>none
 |_=>mkPure (Uj P ev o) H n
def tG(P:Program)(ev:Operand->Option Value)(o:Oper)(r:Option Operand)(H:Qp)(n:Nat):Option CR:=match r with
 |none=>some ⟨.val (.map (some n)),(n,.map #[] 0)::H,n+1,[],[]⟩
 |some _=>mkPure (Uj P ev o) H n
def z2(P:Program)(t:TypeId)(ok:Bool)(x k:Option Value)(H:Qp)(n:Nat):Option CR:=match x,k with
 |some m,some kv=>match S4 P t H ok m kv with
  |some (v,R)=>some ⟨.val v,H,n,R,[]⟩
  |none=>none
 |_,_=>none
def jR(P:Program)(t:TypeId)(m k x:Option Value)(H:Qp)(n:Nat):Option CR:=match m,k,x with
 |some mv,some kv,some v=>match UT P t H mv kv v with
  |some (H',b)=>some ⟨.val undef,H',n,[b],[b]⟩
  |none=>none
 |_,_,_=>none
def L6(P:Program)(ev:Operand->Option Value)(o:Oper)(op:BinOp)(x y:Option Value)(H:Qp)(n:Nat):Option CR:=match x,y with
 |some a,some b=>match yU op a b with
  |some v=>some ⟨.val v,H,n,[],[]⟩
  |none=>mkPure (Uj P ev o) H n
 |_,_=>none
def M6(x:Option Value)(H:Qp)(n:Nat):Option CR:=match x with
 |some (.pointer (some a))=>some ⟨.val (.pointer (some a)),H,n,[],[]⟩
 |some (.func (.func f) xs ys)=>some ⟨.val (.func (.func f) xs ys),H,n,[],[]⟩
 |some (.func (.yield f) xs ys)=>some ⟨.val (.func (.yield f) xs ys),H,n,[],[]⟩
 |_=>none
def M9(F:FuncId->Bool)(f:Option Value)(args:Option (List Value))(H:Qp)(n:Nat):Option CR:=match f,args with
 |some fv,some args=>match Pv F H fv args.toArray with
  |some (nx,R)=>some ⟨nx,H,n,R,[]⟩
  |none=>none
 |_,_=>none
def Ht(P:Program)(ev:Operand->Option Value)(c:Call)(H:Qp)(n:Nat):Option CR:=match c.args.toList,c.argTypes.toList with
 |[s,x],[t,t']=>match ev s,ev x with
  |some sv,some xv=>wA P t t' H n sv xv
  |_,_=>none
 |_,_=>none
def No(P:Program)(ev:Operand->Option Value)(o:Oper)(c:Call)(H:Qp)(n:Nat):Option CR:=match c.args.toList,c.argTypes.toList with
 |[x],[t]=>match ev x,Jl P t with
  |some (.slice (some _) m _),some (.slice _)=>some ⟨.val (.int .i64 m),H,n,[],[]⟩
  |some (.chan (some 0)),some (.slice _)=>some ⟨.val (.int .i64 0),H,n,[],[]⟩
  |_,_=>mkPure (Uj P ev o) H n
 |_,_=>none
def M7(P:Program)(ev:Operand->Option Value)(c:Call)(H:Qp)(n:Nat):Option CR:=match c.args.toList,c.argTypes.toList with
 |[s,x],[t,_]=>match ev s,ev x with
  |some sv,some xv=>w8 P t H n sv xv
  |_,_=>none
 |_,_=>none
def Ep(P:Program)(ev:Operand->Option Value)(o:Oper)(c:Call)(b:Builtin)(H:Qp)(n:Nat):Option CR:=match b with
 | .append=>Ht P ev c H n
 | .len=>No P ev o c H n
 | .copy=>M7 P ev c H n
 |_=>mkPure (Uj P ev o) H n
def cL(P:Program)(F:FuncId->Bool)(ev:Operand->Option Value)(o:Oper)(c:Call)(H:Qp)(n:Nat):Option CR:=match c.callee with
 | .builtin b=>Ep P ev o c b H n
 | .value f=>M9 F (ev f) (JP ev c.args.toList) H n
 |_=>none
def I1(P:Program)(F:FuncId->Bool)(ev:Operand->Option Value)(o:Oper)(H:Qp)(n:Nat):Option CR:=
 match o.op with
 | .move x=>mkPure (ev x) H n
 | .assign x=>mkPure (ev x) H n
 | .pick c a b=>match ev c with
   |some (.bool t)=>mkPure (ev (bif t then a else b)) H n
   |_=>none
 | .alloc t=>Es P t H n
 | .box t x=>MA t (ev x) H n
 | .build t ps=>Er P t (partsOf ev ps.toList) H n
 | .buildSlice t len ps=>fP P t len (partsOf ev ps.toList) H n
 | .load t a=>Ek P t (ev a) H n
 | .store t a x=>xn P t (ev a) (ev x) H n
 | .fieldAddr s x f=>bl P s f (ev x) H n
 | .field t x f=>xo P t f (ev x) H n
 | .indexAddr t x i=>bk P t (ev x) (ev i) H n
 | .index t x i=>Em P ev o t (ev x) (ev i) H n
 | .extract x i=>jS i (ev x) H n
 | .makeSlice t l c=>IL P t (ev l) (ev c) H n
 | .slice t x lo hi m=>z0 P ev o t x lo hi m H n
 | .makeFunc fn first captured=>oz P ev o fn first captured H n
 | .makeMap _ r=>tG P ev o r H n
 | .lookup t x k ok=>z2 P t ok (ev x) (ev k) H n
 | .mapUpdate t m k x=>jR P t (ev m) (ev k) (ev x) H n
 | .binOp op _ x y _=>L6 P ev o op (ev x) (ev y) H n
 | .nilCheck x=>M6 (ev x) H n
 | .call c=>cL P F ev o c H n
 |_=>mkPure (Uj P ev o) H n
theorem I0(P:Program)(F:FuncId->Bool)(ev:Operand->Option Value)(o:Oper)(H:Qp)(n:Nat):I1 P F ev o H n=rK P F ev o H n:=by
 unfold I1 rK;cases o.op with
 |slice t x lo hi m=>cases m <;> cases hi <;> rfl
 |makeFunc fn a b=>cases fn <;> rfl
 |makeMap t r=>cases r <;> rfl
 |call c=>
  simp only[cL];cases c.callee with
  |builtin b=>cases b <;> rfl
  |value f=>rfl
  |invoke a b=>rfl
 |_=>rfl
def Eo(r:CR)(s:Rs):Option Rs:=match KZ r.H s with
 |s=>some ⟨s.out,s.H,s.n,r.R++s.R,r.W++s.W⟩
def Lz(P:Program)(rec:CF->Qp->Nat->Option Rs)(g:FuncId)(args:Array Value)(r:CR):Option Rs:=match Wo P g args with
 |some c=>match rec c r.H r.n with
  |some s=>Eo r s
  |none=>none
 |none=>none
def pI(P:Program)(Xt:Vj)(rec:CF->Qp->Nat->Option Rs)(g:FuncId)(args:Array Value)(r:CR):Option Rs:=match Xt g args r.H r.n with
 |some s=>some ⟨s.out,s.H,s.n,r.R++s.R,r.W++s.W⟩
 |none=>Lz P rec g args r
def Lx(rec:CF->Qp->Nat->Option Rs)(l:Nat)(fn:FuncId)(tm:Array Value)(a b:Code)(r:CR):Option Rs:=bif Oo tm.size 16000 then match rec ⟨fn,ofList tm.size tm.toList,[.code a,.beginRound,.code b],[],.run,some l⟩ r.H r.n with
 |some s=>some ⟨s.out,s.H,s.n,r.R++s.R,r.W++s.W⟩
 |none=>none
 else none
def z1(P:Program)(Xt:Vj)(rec:CF->Qp->Nat->Option Rs)(r:CR):Option Rs:=match r.nx with
 | .val v=>some ⟨.ret v,r.H,r.n,r.R,r.W⟩
 | .enter g args=>pI P Xt rec g args r
 | .round l fn tm a b=>Lx rec l fn tm a b r
def qR(P:Program)(Xt:Vj)(rec:CF->Qp->Nat->Option Rs)(n:Nat)(x:Option CR):Option Rs:=match x with
 |some r=>bif r.R.all (fun i=>NO i n)then z1 P Xt rec r else none
 |none=>none
def L4(v:Option Value)(H:Qp)(n:Nat):Option Rs:=match v with
 |some (.iface t v)=>some ⟨.ZH (.iface t v),H,n,[],[]⟩
 |_=>none
def zm:Op->Nat
 | .defer _=>1
 | .panic _=>2
 |_=>0
def qV(v:Option Value)(H:Qp)(n:Nat):Option Rs:=match v with
 |some v=>some ⟨.ret v,H,n,[],[]⟩
 |none=>none
def rI(P:Program)(F:FuncId->Bool)(Xt:Vj)(rec:CF->Qp->Nat->Option Rs)(T:Tm)(o:Oper)(H:Qp)(n:Nat):Option Rs:=
 match o.op with
 | .move x=>qV (Zd T x) H n
 | .assign x=>qV (Zd T x) H n
 | .pick c a b=>match Zd T c with
   |some (.bool t)=>qV (Zd T (bif t then a else b)) H n
   |_=>none
 | .alloc t=>qR P Xt rec n (Es P t H n)
 | .box t x=>qR P Xt rec n (MA t (Zd T x) H n)
 | .build t ps=>qR P Xt rec n (Er P t (partsOf (Zd T) ps.toList) H n)
 | .buildSlice t len ps=>qR P Xt rec n (fP P t len (partsOf (Zd T) ps.toList) H n)
 | .load t a=>qR P Xt rec n (Ek P t (Zd T a) H n)
 | .store t a x=>qR P Xt rec n (xn P t (Zd T a) (Zd T x) H n)
 | .fieldAddr s x f=>qR P Xt rec n (bl P s f (Zd T x) H n)
 | .field t x f=>qR P Xt rec n (xo P t f (Zd T x) H n)
 | .indexAddr t x i=>qR P Xt rec n (bk P t (Zd T x) (Zd T i) H n)
 | .index t x i=>qR P Xt rec n (Em P (Zd T) o t (Zd T x) (Zd T i) H n)
 | .extract x i=>qR P Xt rec n (jS i (Zd T x) H n)
 | .makeSlice t l c=>qR P Xt rec n (IL P t (Zd T l) (Zd T c) H n)
 | .slice t x lo hi m=>qR P Xt rec n (z0 P (Zd T) o t x lo hi m H n)
 | .makeFunc fn first captured=>qR P Xt rec n (oz P (Zd T) o fn first captured H n)
 | .makeMap _ r=>qR P Xt rec n (tG P (Zd T) o r H n)
 | .lookup t x k ok=>qR P Xt rec n (z2 P t ok (Zd T x) (Zd T k) H n)
 | .mapUpdate t m k x=>qR P Xt rec n (jR P t (Zd T m) (Zd T k) (Zd T x) H n)
 | .binOp op _ x y _=>qR P Xt rec n (L6 P (Zd T) o op (Zd T x) (Zd T y) H n)
 | .nilCheck x=>qR P Xt rec n (M6 (Zd T x) H n)
 | .call c=>qR P Xt rec n (cL P F (Zd T) o c H n)
 | .defer _=>none
 | .panic x=>L4 (Zd T x) H n
 |_=>qR P Xt rec n (mkPure (Uj P (Zd T) o) H n)
theorem M5{P:Program}{F:FuncId->Bool}{Xt:Vj}{rec:CF->Qp->Nat->Option Rs}{T:Tm}{o:Oper}{H:Qp}{n:Nat}(h1:∀c,o.op≠.defer c)(h2:∀x,o.op≠.panic x):b6 P F Xt rec T o H n=qR P Xt rec n (I1 P F (Zd T) o H n):=by
 rw[I0];unfold b6;split
 ·rename_i c h;exact absurd h (h1 c)
 ·rename_i x h;exact absurd h (h2 x)
 ·unfold P9;cases rK P F (Zd T) o H n with
  |none=>rfl
  |some r=>
   simp only[qR];cases r.R.all (fun i=>NO i n)with
   |false=>rfl
   |true=>
    simp only[cond_true,z1];cases r.nx <;> rfl
theorem Pj{P:Program}{Xt:Vj}{rec:CF->Qp->Nat->Option Rs}{H:Qp}{n:Nat}(v:Option Value):qR P Xt rec n (mkPure v H n)=qV v H n:=by cases v <;> rfl
theorem LL(P:Program)(F:FuncId->Bool)(Xt:Vj)(rec:CF->Qp->Nat->Option Rs)(T:Tm)(o:Oper)(H:Qp)(n:Nat):rI P F Xt rec T o H n=b6 P F Xt rec T o H n:=by
 cases hs:zm o.op with
 |succ k=>
  unfold rI b6;generalize o.op=p at hs;cases p <;> first|(simp[zm]at hs;done)|rfl
 |zero=>
  rw[M5 (by intro c h;rw[h]at hs;cases hs) (by intro c h;rw[h]at hs;cases hs)];unfold rI I1;generalize hp:o.op=p at hs;cases p with
  |move x=>exact(Pj _).symm
  |assign x=>exact(Pj _).symm
  |pick c a b=>
   simp only;split
   ·exact(Pj _).symm
   ·rfl
  |defer c=>cases hs
  |panic c=>cases hs
  |_=>rfl
def Jo(P:Program)(F:FuncId->Bool)(Xt:Vj)(rec:CF->Qp->Nat->Option Rs)(ops:Array Oper):List Oper->Tm->Qp->Nat->Option (List Rec×RF)
 |[],T,H,n=>some ([],.ok T H n)
 |o::l,T,H,n=>
  bif JO T o.dst then
   bif Region.wanted o (XI ops T)then
    match rI P F Xt rec T o H n with
    |some s=>match s.out with
     | .ret v=>match Jo P F Xt rec ops l (Vy T o.dst v) s.H s.n with
       |some (rs,fin)=>some (⟨o,true,v,T,H,s.H,n,s.n,s.R,s.W⟩::rs,fin)
       |none=>none
     | .ZH v=>some ([],.ZH T v s.H s.n s.R s.W)
    |none=>none
   else match Jo P F Xt rec ops l (Vy T o.dst undef) H n with
    |some (rs,fin)=>some (⟨o,false,undef,T,H,H,n,n,[],[]⟩::rs,fin)
    |none=>none
  else none
theorem sy(P:Program)(F:FuncId->Bool)(Xt:Vj)(rec:CF->Qp->Nat->Option Rs)(ops:Array Oper):∀(l:List Oper) (T:Tm) (H:Qp) (n:Nat),Jo P F Xt rec ops l T H n=ey P F Xt rec ops l T H n
 |[],_,_,_=>rfl
 |o::l,T,H,n=>by simp only[Jo,ey,LL,sy P F Xt rec ops l];rfl
def En(c:CF)(k:List Item)(H:Qp)(n:Nat):Option FS:=some (.go {c with todo:=k} H n [] [])
def Ly(c:CF)(ops:Array Oper)(draw:Bool)(k:List Item):Option (List Rec×RF)->Option FS
 |some (Qy,.ok T' H' n')=>bif !draw || (Vi 0 ops.toList && indep ops 0 Qy (YT ops.toList []))then some (.go {c with tmps:=T',todo:=k} H' n' (K7 Qy) (VU Qy))else none
 |some (Qy,.ZH T' v H' n' R W)=>bif !draw || Sm ops Qy T' then some (.go {c with tmps:=T',mode:=.ZH v} H' n' (K7 Qy++R) (VU Qy++W))else none
 |none=>none
def Hr(c:CF)(k:List Item)(l:Nat)(ds R1 R2:List Nat):Option Rs->Option FS
 |some s=>match s.out with
  | .ret _=>some (.go {c with todo:=.endRangeFunc l::k,defers:=ds++c.defers} s.H s.n (R1++R2++s.R) s.W)
  | .ZH v=>some (.go {c with mode:=.ZH v,defers:=ds++c.defers} s.H s.n (R1++R2++s.R) s.W)
 |none=>none
def Ej(P:Program)(F:FuncId->Bool)(rec:CF->Qp->Nat->Option Rs)(c:CF)(params:Array Tmp)(assign body:Code)(k:List Item)(H:Qp)(n:Nat):Option Value->Option FS
 |some fv=>match U2 c H n params assign body with
  |some (H1,l,ds,R1)=>match Pv F H1 fv #[.func (.yield l) #[] #[]]with
   |some (.enter g args,R2)=>match Wo P g args with
    |some c1=>Hr c k l ds R1 R2 (rec c1 H1 (l+1))
    |none=>none
   |_=>none
  |none=>none
 |none=>none
def M8(c:CF)(a b:Code)(k:List Item)(H:Qp)(n:Nat):Option Value->Option FS
 |some (.bool t)=>En c (.code (bif t then a else b)::k) H n
 |_=>none
def El(c:CF)(H:Qp)(n:Nat)(j:Code):Option (List Item)->Option FS
 |some k'=>En c k' H n
 |none=>P3 c H n (some j)
def fO(P:Program)(F:FuncId->Bool)(Xt:Vj)(rec:CF->Qp->Nat->Option Rs)(c:CF)(k:List Item)(H:Qp)(n:Nat):Code->Option FS
 | .ret=>P3 c H n (some .ret)
 | .skip=>En c k H n
 | .label _=>En c k H n
 | .seq a b=>En c (.code a::.code b::k) H n
 | .cond x a b=>M8 c a b k H n (Zd c.tmps x)
 | .block id b=>En c (.code b::.inBlock id::k) H n
 | .loop b=>En c (.code b::.inLoop b::k) H n
 | .scope b=>En c (.code b::.inScope b::k) H n
 | .exit id=>El c H n (.exit id) (exitTo id k)
 | .goto l=>El c H n (.goto l) (gotoIn l k)
 | .region _ ops draw=>Ly c ops draw k (Jo P F Xt rec ops ops.toList c.tmps H n)
 | .rangeFunc f params assign body=>Ej P F rec c params assign body k H n (Zd c.tmps f)
 |_=>none
def L5(c:CF)(l:Nat)(k:List Item)(H:Qp)(n:Nat):Option FS:=match Qu H l with
 |some (.loop r)=>bif !(decide (r.state=.busy))then some (.go {c with todo:=(r.pending.map Item.code).toList++k} (V6 H l (.loop {r with state:=.exhausted})) n [l] [l])else none
 |_=>none
def L7(c:CF)(k:List Item)(H:Qp)(n:Nat):Option FS:=match c.roundOf with
 |some l=>match Qu H l with
  |some (.loop r)=>bif decide (r.state=.ready)then some (.go {c with todo:=k} (V6 H l (.loop {r with state:=.busy})) n [l] [l])else none
  |_=>none
 |none=>none
def fN(P:Program)(F:FuncId->Bool)(Xt:Vj)(rec:CF->Qp->Nat->Option Rs)(c:CF)(k:List Item)(H:Qp)(n:Nat):Item->Option FS
 | .code cd=>fO P F Xt rec c k H n cd
 | .inBlock _=>En c k H n
 | .inScope _=>En c k H n
 | .inLoop b=>En c (.code b::.inLoop b::k) H n
 | .endRangeFunc l=>L5 c l k H n
 | .beginRound=>L7 c k H n
 |_=>none
def Np(P:Program)(c:CF)(H:Qp)(n:Nat):Option FS:=match c.defers with
 |d::ds=>match Qu H d with
  |some (.deferred (some []))=>some (.go {c with defers:=ds} (V6 H d (.deferred none)) n [d] [d])
  |_=>none
 |[]=>match c.mode with
  | .ZH v=>bif Ig P c.fn then some (.done (.ZH v) H n [] [])else none
  |_=>match c.roundOf,j4 P c.fn H c.tmps with
   |none,some (v,R)=>some (.done (.ret v) H n R [])
   |_,_=>none
def ff(P:Program)(F:FuncId->Bool)(Xt:Vj)(rec:CF->Qp->Nat->Option Rs)(c:CF)(H:Qp)(n:Nat):Option FS:=
 match c.mode with
 | .run=>match c.todo with
   |[]=>P3 c H n none
   |it::k=>fN P F Xt rec c k H n it
 |_=>Np P c H n
theorem Cb(P:Program)(F:FuncId->Bool)(Xt:Vj)(rec:CF->Qp->Nat->Option Rs)(c:CF)(H:Qp)(n:Nat):ff P F Xt rec c H n=Ps P F Xt rec c H n:=by
 obtain⟨fn,tmps,todo,defers,mode,ro⟩:=c;unfold ff Ps;cases mode with
 |run=>
  cases todo with
  |nil=>rfl
  |cons it k=>
   cases it with
   |code cd=>
    cases cd with
    |region id ops draw=>
     simp only[fN,fO,sy];cases ey P F Xt rec ops ops.toList tmps H n with
     |none=>rfl
     |some x=>
      obtain⟨Qy,fin⟩:=x;cases fin <;> rfl
    |rangeFunc f ps assign body=>
     simp only[fN,fO,Ej];cases Zd tmps f with
     |none=>rfl
     |some fv=>
      simp only;cases U2 ⟨fn,tmps,.code (.rangeFunc f ps assign body)::k,defers,.run,ro⟩ H n ps assign body with
      |none=>rfl
      |some x=>
       obtain⟨H1,l,ds,R1⟩:=x;simp only;cases Pv F H1 fv #[.func (.yield l) #[] #[]]with
       |none=>rfl
       |some y=>
        obtain⟨nx,R2⟩:=y;cases nx with
        |enter g args=>
         simp only;cases Wo P g args with
         |none=>rfl
         |some c1=>
          simp only;cases rec c1 H1 (l+1)with
          |none=>rfl
          |some s=>obtain⟨o,_,_,_,_⟩:=s;cases o <;> rfl
        |_=>rfl
    |cond x a b=>
     simp only[fN,fO];cases Zd tmps x with
     |none=>rfl
     |some v=>cases v <;> rfl
    |exit id=>simp only[fN,fO];cases exitTo id k <;> rfl
    |goto id=>simp only[fN,fO];cases gotoIn id k <;> rfl
    |_=>rfl
   |_=>rfl
 |ret=>rfl
 |ZH v=>rfl
def YI(P:Program)(F:FuncId->Bool)(Xt:Vj):Nat->Nat->CF->Qp->Nat->List Nat->List Nat->Option Rs
 |0,_,_,_,_,_,_=>none
 |fuel+1,b,c,H,n,R,W=>
  match ff P F Xt (fun c1 H1 n1=>YI P F Xt fuel n1 c1 H1 n1 [] []) c H n with
  |some (.go c' H' n' R' W')=>YI P F Xt fuel b c' H' n' (ZT b R' R) (ZT b W' W)
  |some (.done out H' n' R' W')=>some ⟨out,H',n',ZT b R' R,ZT b W' W⟩
  |none=>none
theorem mO(P:Program)(F:FuncId->Bool)(Xt:Vj):∀(fuel b:Nat) (c:CF) (H:Qp) (n:Nat) (R W:List Nat),YI P F Xt fuel b c H n R W=nC P F Xt fuel b c H n R W
 |0,_,_,_,_,_,_=>rfl
 |fuel+1,b,c,H,n,R,W=>by
  simp only[YI,nC,Cb,mO P F Xt fuel];rfl
end Go.CE
