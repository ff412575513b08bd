/- CE: the canonical machine again, its cases in small pieces: the kernel evaluates it quicker. -/
import Derived.Test.YtncjjangllkokaaZRM04
set_option linter.all false
open Nat renaming ble->LI,blt->Lp
namespace Go.CE
open Go Go.RowKit

def AH(P:Program)(t:TypeId)(H:Q0)(n:Nat):Option CR:=match zeroOf P t with
 |some z=>bif af z then some ⟨.val (tR n),(n,.cells z.cells t (0,0))::H,n+1,[],[]⟩else none
 |none=>none
def Fj(t:TypeId)(x:Option Value)(H:Q0)(n:Nat):Option CR:=match x with
 |some v=>some ⟨.val (tR n),(n,.cells v.cells t (0,0))::H,n+1,[],[]⟩
 |none=>none
def AG(P:Program)(t:TypeId)(l:Option (List (Nat×Value)))(H:Q0)(n:Nat):Option CR:=match l with
 |some l=>mkPure (nV P t l) H n
 |none=>none
def cU(P:Program)(t:TypeId)(len:Nat)(l:Option (List (Nat×Value)))(H:Q0)(n:Nat):Option CR:=match l with
 |some l=>match Y0 P t len l with
  |some (e,cs,s)=>some ⟨.val (.slice (some ⟨n,0,none⟩) len s),(n,.cells cs e (0,0))::H,n+1,[],[]⟩
  |none=>bif eV P t len l then some ⟨.val PF,H,n,[],[]⟩else none
 |none=>none
def A9(P:Program)(t:TypeId)(a:Option Value)(H:Q0)(n:Nat):Option CR:=match a with
 |some p=>match Jy P t H p with
  |some (v,b)=>some ⟨.val v,H,n,[b],[]⟩
  |none=>none
 |none=>none
def sI(P:Program)(t:TypeId)(a x:Option Value)(H:Q0)(n:Nat):Option CR:=match a,x with
 |some p,some v=>match YA P t H v p with
  |some (H',b)=>some ⟨.val undef,H',n,[b],[b]⟩
  |none=>none
 |_,_=>none
def S6(P:Program)(s:TypeId)(f:Nat)(x:Option Value)(H:Q0)(n:Nat):Option CR:=match x with
 |some p=>mkPure (ZU P s f p) H n
 |none=>none
def sJ(P:Program)(s:TypeId)(f:Nat)(x:Option Value)(H:Q0)(n:Nat):Option CR:=match x with
 |some p=>mkPure (cF P s f p) H n
 |none=>none
def S5(P:Program)(t:TypeId)(x i:Option Value)(H:Q0)(n:Nat):Option CR:=match x,i with
 |some v,some k=>mkPure (US P t v k) H n
 |_,_=>none
def AB(P:Program)(ev:Operand->Option Value)(o:Oper)(t:TypeId)(x i:Option Value)(H:Q0)(n:Nat):Option CR:=match x,i with
 |some (.agg cs),some k=>mkPure (nT P t (.agg cs) k) H n
 |_,_=>mkPure (V1 P ev o) H n
def g8(i:Nat)(x:Option Value)(H:Q0)(n:Nat):Option CR:=match x with
 |some v=>mkPure (Jz i v) H n
 |none=>none
def DI(P:Program)(t:TypeId)(l c:Option Value)(H:Q0)(n:Nat):Option CR:=match l,c with
 |some x,some y=>match Jx P t x y with
  |some (e,cs,l,s)=>some ⟨.val (.slice (some ⟨n,0,none⟩) l s),(n,.cells cs e (0,0))::H,n+1,[],[]⟩
  |none=>none
 |_,_=>none
def Ej(P:Program)(ev:Operand->Option Value)(o:Oper)(t:TypeId)(x:Option Value)(lo hi:Option (Option Value))(H:Q0)(n:Nat):Option CR:=match x,lo,hi with
 |some (.slice (some a) m s),some l,some h=>mkPure (cD P t (.slice (some a) m s) l h) H n
 |some (.pointer p),some l,some h=>mkPure (cD P t (.pointer p) l h) H n
 |_,_,_=>mkPure (V1 P ev o) H n
def vq(P:Program)(ev:Operand->Option Value)(o:Oper)(t:TypeId)(x:Operand)(lo hi m:Option Operand)(H:Q0)(n:Nat):Option CR:=match m with
 |none=>Ej P ev o t (ev x) (BF ev lo) (BF ev hi) H n
 |some mx=>match hi with
  |some h=>bif Sp P t (ev x) (BF ev lo) (ev h) (ev mx)then some ⟨.val PF,H,n,[],[]⟩else mkPure (V1 P ev o) H n
  |none=>mkPure (V1 P ev o) H n
def lN(P:Program)(ev:Operand->Option Value)(o:Oper)(fn:Fn)(first captured:Array Operand)(H:Q0)(n:Nat):Option CR:=match fn with
 | .func f=>match Yg ev first.toList,Yg ev captured.toList with
   |some xs,some ys=>some ⟨.val (.func (.func f) xs.toArray ys.toArray),H,n,[],[]⟩
   |_,_=>none
 |_=>mkPure (V1 P ev o) H n
def pB(P:Program)(ev:Operand->Option Value)(o:Oper)(r:Option Operand)(H:Q0)(n:Nat):Option CR:=match r with
 |none=>some ⟨.val (.map (some n)),(n,.map #[] 0)::H,n+1,[],[]⟩
 |some _=>mkPure (V1 P ev o) H n
def vu(P:Program)(t:TypeId)(ok:Bool)(x k:Option Value)(H:Q0)(n:Nat):Option CR:=match x,k with
 |some m,some kv=>match aB P t H ok m kv with
  |some (v,R)=>some ⟨.val v,H,n,R,[]⟩
  |none=>none
 |_,_=>none
def gz(P:Program)(t:TypeId)(m k x:Option Value)(H:Q0)(n:Nat):Option CR:=match m,k,x with
 |some mv,some kv,some v=>match UR P t H mv kv v with
  |some (H',b)=>some ⟨.val undef,H',n,[b],[b]⟩
  |none=>none
 |_,_,_=>none
def Ep(P:Program)(ev:Operand->Option Value)(o:Oper)(op:BinOp)(x y:Option Value)(H:Q0)(n:Nat):Option CR:=match x,y with
 |some a,some b=>match uR op a b with
  |some v=>some ⟨.val v,H,n,[],[]⟩
  |none=>mkPure (V1 P ev o) H n
 |_,_=>none
def Ff(x:Option Value)(H:Q0)(n:Nat):Option CR:=match x with
 |some (.pointer (some a))=>some ⟨.val (.pointer (some a)),H,n,[],[]⟩
 |some (.func (.func f) xs ys)=>some ⟨.val (.func (.func f) xs ys),H,n,[],[]⟩
 |some (.func (.yield f) xs ys)=>some ⟨.val (.func (.yield f) xs ys),H,n,[],[]⟩
 |_=>none
def Fi(F:FuncId->Bool)(f:Option Value)(args:Option (List Value))(H:Q0)(n:Nat):Option CR:=match f,args with
 |some fv,some args=>match Yz F H fv args.toArray with
  |some (nx,R)=>some ⟨nx,H,n,R,[]⟩
  |none=>none
 |_,_=>none
def CG(P:Program)(ev:Operand->Option Value)(c:Call)(H:Q0)(n:Nat):Option CR:=match c.args.toList,c.argTypes.toList with
 |[s,x],[t,t']=>match ev s,ev x with
  |some sv,some xv=>z5 P t t' H n sv xv
  |_,_=>none
 |_,_=>none
def FN(P:Program)(ev:Operand->Option Value)(o:Oper)(c:Call)(H:Q0)(n:Nat):Option CR:=match c.args.toList,c.argTypes.toList with
 |[x],[t]=>match ev x,YF P t with
  |some (.slice (some _) m _),some (.slice _)=>some ⟨.val (.int .i64 m),H,n,[],[]⟩
  |some (.chan (some 0)),some (.slice _)=>some ⟨.val (.int .i64 0),H,n,[],[]⟩
  |_,_=>mkPure (V1 P ev o) H n
 |_,_=>none
def Fg(P:Program)(ev:Operand->Option Value)(c:Call)(H:Q0)(n:Nat):Option CR:=match c.args.toList,c.argTypes.toList with
 |[s,x],[t,_]=>match ev s,ev x with
  |some sv,some xv=>rY P t H n sv xv
  |_,_=>none
 |_,_=>none
def AF(P:Program)(ev:Operand->Option Value)(o:Oper)(c:Call)(b:Builtin)(H:Q0)(n:Nat):Option CR:=match b with
 | .append=>CG P ev c H n
 | .len=>FN P ev o c H n
 | .copy=>Fg P ev c H n
 |_=>mkPure (V1 P ev o) H n
def T0(P:Program)(F:FuncId->Bool)(ev:Operand->Option Value)(o:Oper)(c:Call)(H:Q0)(n:Nat):Option CR:=match c.callee with
 | .builtin b=>AF P ev o c b H n
 | .value f=>Fi F (ev f) (Yg ev c.args.toList) H n
 |_=>none
def D0(P:Program)(F:FuncId->Bool)(ev:Operand->Option Value)(o:Oper)(H:Q0)(n:Nat):Option CR:=
 match o.op with
 | .move x=>mkPure (ev x) H n
 | .assign x=>mkPure (ev x) H n
 | .pick c a b=>match ev c with
   |some (.bool t)=>mkPure (ev (bif t then a else b)) H n
   |_=>none
 | .alloc t=>AH P t H n
 | .box t x=>Fj t (ev x) H n
 | .build t ps=>AG P t (partsOf ev ps.toList) H n
 | .buildSlice t len ps=>cU P t len (partsOf ev ps.toList) H n
 | .load t a=>A9 P t (ev a) H n
 | .store t a x=>sI P t (ev a) (ev x) H n
 | .fieldAddr s x f=>S6 P s f (ev x) H n
 | .field t x f=>sJ P t f (ev x) H n
 | .indexAddr t x i=>S5 P t (ev x) (ev i) H n
 | .index t x i=>AB P ev o t (ev x) (ev i) H n
 | .extract x i=>g8 i (ev x) H n
 | .makeSlice t l c=>DI P t (ev l) (ev c) H n
 | .slice t x lo hi m=>vq P ev o t x lo hi m H n
 | .makeFunc fn first captured=>lN P ev o fn first captured H n
 | .makeMap _ r=>pB P ev o r H n
 | .lookup t x k ok=>vu P t ok (ev x) (ev k) H n
 | .mapUpdate t m k x=>gz P t (ev m) (ev k) (ev x) H n
 | .binOp op _ x y _=>Ep P ev o op (ev x) (ev y) H n
 | .nilCheck x=>Ff (ev x) H n
 | .call c=>T0 P F ev o c H n
 |_=>mkPure (V1 P ev o) H n
theorem Dz(P:Program)(F:FuncId->Bool)(ev:Operand->Option Value)(o:Oper)(H:Q0)(n:Nat):D0 P F ev o H n=rR P F ev o H n:=by
 unfold D0 rR;cases o.op with
 |slice t x lo hi m=>cases m <;> cases hi <;> rfl
 |makeFunc fn a b=>cases fn <;> rfl
 |makeMap t r=>cases r <;> rfl
 |call c=>
  simp only[T0];cases c.callee with
  |builtin b=>cases b <;> rfl
  |value f=>rfl
  |invoke a b=>rfl
 |_=>rfl
def AE(r:CR)(s:Rs):Option Rs:=match UZ r.H s with
 |s=>some ⟨s.out,s.H,s.n,r.R++s.R,r.W++s.W⟩
def Em(P:Program)(rec:CF->Q0->Nat->Option Rs)(g:FuncId)(args:Array Value)(r:CR):Option Rs:=match ZM P g args with
 |some c=>match rec c r.H r.n with
  |some s=>AE r s
  |none=>none
 |none=>none
def mM(P:Program)(Xs:W9)(rec:CF->Q0->Nat->Option Rs)(g:FuncId)(args:Array Value)(r:CR):Option Rs:=match Xs g args r.H r.n with
 |some s=>some ⟨s.out,s.H,s.n,r.R++s.R,r.W++s.W⟩
 |none=>Em P rec g args r
def Ek(rec:CF->Q0->Nat->Option Rs)(l:Nat)(fn:FuncId)(tm:Array Value)(a b:Code)(r:CR):Option Rs:=bif LI tm.size 16000 then match rec ⟨fn,ofList tm.size tm.toList,[.code a,.beginRound,.code b],[],.run,some l⟩ r.H r.n with
 |some s=>some ⟨s.out,s.H,s.n,r.R++s.R,r.W++s.W⟩
 |none=>none
 else none
def vt(P:Program)(Xs:W9)(rec:CF->Q0->Nat->Option Rs)(r:CR):Option Rs:=match r.nx with
 | .val v=>some ⟨.ret v,r.H,r.n,r.R,r.W⟩
 | .enter g args=>mM P Xs rec g args r
 | .round l fn tm a b=>Ek rec l fn tm a b r
def qR(P:Program)(Xs:W9)(rec:CF->Q0->Nat->Option Rs)(n:Nat)(x:Option CR):Option Rs:=match x with
 |some r=>bif r.R.all (fun i=>Lp i n)then vt P Xs rec r else none
 |none=>none
def En(v:Option Value)(H:Q0)(n:Nat):Option Rs:=match v with
 |some (.iface t v)=>some ⟨.ZW (.iface t v),H,n,[],[]⟩
 |_=>none
def vk:Op->Nat
 | .defer _=>1
 | .panic _=>2
 |_=>0
def qV(v:Option Value)(H:Q0)(n:Nat):Option Rs:=match v with
 |some v=>some ⟨.ret v,H,n,[],[]⟩
 |none=>none
def ox(P:Program)(F:FuncId->Bool)(Xs:W9)(rec:CF->Q0->Nat->Option Rs)(T:Tm)(o:Oper)(H:Q0)(n:Nat):Option Rs:=
 match o.op with
 | .move x=>qV (Zd T x) H n
 | .assign x=>qV (Zd T x) H n
 | .pick c a b=>match Zd T c with
   |some (.bool t)=>qV (Zd T (bif t then a else b)) H n
   |_=>none
 | .alloc t=>qR P Xs rec n (AH P t H n)
 | .box t x=>qR P Xs rec n (Fj t (Zd T x) H n)
 | .build t ps=>qR P Xs rec n (AG P t (partsOf (Zd T) ps.toList) H n)
 | .buildSlice t len ps=>qR P Xs rec n (cU P t len (partsOf (Zd T) ps.toList) H n)
 | .load t a=>qR P Xs rec n (A9 P t (Zd T a) H n)
 | .store t a x=>qR P Xs rec n (sI P t (Zd T a) (Zd T x) H n)
 | .fieldAddr s x f=>qR P Xs rec n (S6 P s f (Zd T x) H n)
 | .field t x f=>qR P Xs rec n (sJ P t f (Zd T x) H n)
 | .indexAddr t x i=>qR P Xs rec n (S5 P t (Zd T x) (Zd T i) H n)
 | .index t x i=>qR P Xs rec n (AB P (Zd T) o t (Zd T x) (Zd T i) H n)
 | .extract x i=>qR P Xs rec n (g8 i (Zd T x) H n)
 | .makeSlice t l c=>qR P Xs rec n (DI P t (Zd T l) (Zd T c) H n)
 | .slice t x lo hi m=>qR P Xs rec n (vq P (Zd T) o t x lo hi m H n)
 | .makeFunc fn first captured=>qR P Xs rec n (lN P (Zd T) o fn first captured H n)
 | .makeMap _ r=>qR P Xs rec n (pB P (Zd T) o r H n)
 | .lookup t x k ok=>qR P Xs rec n (vu P t ok (Zd T x) (Zd T k) H n)
 | .mapUpdate t m k x=>qR P Xs rec n (gz P t (Zd T m) (Zd T k) (Zd T x) H n)
 | .binOp op _ x y _=>qR P Xs rec n (Ep P (Zd T) o op (Zd T x) (Zd T y) H n)
 | .nilCheck x=>qR P Xs rec n (Ff (Zd T x) H n)
 | .call c=>qR P Xs rec n (T0 P F (Zd T) o c H n)
 | .defer _=>none
 | .panic x=>En (Zd T x) H n
 |_=>qR P Xs rec n (mkPure (V1 P (Zd T) o) H n)
theorem Fe{P:Program}{F:FuncId->Bool}{Xs:W9}{rec:CF->Q0->Nat->Option Rs}{T:Tm}{o:Oper}{H:Q0}{n:Nat}(h1:∀c,o.op≠.defer c)(h2:∀x,o.op≠.panic x):eA P F Xs rec T o H n=qR P Xs rec n (D0 P F (Zd T) o H n):=by
 rw[Dz];unfold eA;split
 ·rename_i c h;exact absurd h (h1 c)
 ·rename_i x h;exact absurd h (h2 x)
 ·unfold Pk;cases rR P F (Zd T) o H n with
  |none=>rfl
  |some r=>
   simp only[qR];cases r.R.all (fun i=>Lp i n)with
   |false=>rfl
   |true=>
    simp only[cond_true,vt];cases r.nx <;> rfl
theorem Yr{P:Program}{Xs:W9}{rec:CF->Q0->Nat->Option Rs}{H:Q0}{n:Nat}(v:Option Value):qR P Xs rec n (mkPure v H n)=qV v H n:=by cases v <;> rfl
theorem Ez(P:Program)(F:FuncId->Bool)(Xs:W9)(rec:CF->Q0->Nat->Option Rs)(T:Tm)(o:Oper)(H:Q0)(n:Nat):ox P F Xs rec T o H n=eA P F Xs rec T o H n:=by
 cases hs:vk o.op with
 |succ k=>
  unfold ox eA;generalize o.op=p at hs;cases p <;> first|(simp[vk]at hs;done)|rfl
 |zero=>
  rw[Fe (by intro c h;rw[h]at hs;cases hs) (by intro c h;rw[h]at hs;cases hs)];unfold ox D0;generalize hp:o.op=p at hs;cases p with
  |move x=>exact(Yr _).symm
  |assign x=>exact(Yr _).symm
  |pick c a b=>
   simp only;split
   ·exact(Yr _).symm
   ·rfl
  |defer c=>cases hs
  |panic c=>cases hs
  |_=>rfl
def KL(P:Program)(F:FuncId->Bool)(Xs:W9)(rec:CF->Q0->Nat->Option Rs)(ops:Array Oper):List Oper->Tm->Q0->Nat->Option (List Rec×RF)
 |[],T,H,n=>some ([],.ok T H n)
 |o::l,T,H,n=>
  bif Ye T o.dst then
   bif Region.wanted o (XD ops T)then
    match ox P F Xs rec T o H n with
    |some s=>match s.out with
     | .ret v=>match KL P F Xs rec ops l (Va T o.dst v) s.H s.n with
       |some (rs,fin)=>some (⟨o,true,v,T,H,s.H,n,s.n,s.R,s.W⟩::rs,fin)
       |none=>none
     | .ZW v=>some ([],.ZW T v s.H s.n s.R s.W)
    |none=>none
   else match KL P F Xs rec ops l (Va T o.dst undef) H n with
    |some (rs,fin)=>some (⟨o,false,undef,T,H,H,n,n,[],[]⟩::rs,fin)
    |none=>none
  else none
theorem oM(P:Program)(F:FuncId->Bool)(Xs:W9)(rec:CF->Q0->Nat->Option Rs)(ops:Array Oper):∀(l:List Oper) (T:Tm) (H:Q0) (n:Nat),KL P F Xs rec ops l T H n=bV P F Xs rec ops l T H n
 |[],_,_,_=>rfl
 |o::l,T,H,n=>by simp only[KL,bV,Ez,oM P F Xs rec ops l];rfl
def AD(c:CF)(k:List Item)(H:Q0)(n:Nat):Option FS:=some (.go {c with todo:=k} H n [] [])
def El(c:CF)(ops:Array Oper)(draw:Bool)(k:List Item):Option (List Rec×RF)->Option FS
 |some (Q6,.ok T' H' n')=>bif !draw || (W8 0 ops.toList && indep ops 0 Q6 (K6 ops.toList []))then some (.go {c with tmps:=T',todo:=k} H' n' (UB Q6) (Vl Q6))else none
 |some (Q6,.ZW T' v H' n' R W)=>bif !draw || JQ ops Q6 T' then some (.go {c with tmps:=T',mode:=.ZW v} H' n' (UB Q6++R) (Vl Q6++W))else none
 |none=>none
def CD(c:CF)(k:List Item)(l:Nat)(ds R1 R2:List Nat):Option Rs->Option FS
 |some s=>match s.out with
  | .ret _=>some (.go {c with todo:=.endRangeFunc l::k,defers:=ds++c.defers} s.H s.n (R1++R2++s.R) s.W)
  | .ZW v=>some (.go {c with mode:=.ZW v,defers:=ds++c.defers} s.H s.n (R1++R2++s.R) s.W)
 |none=>none
def A8(P:Program)(F:FuncId->Bool)(rec:CF->Q0->Nat->Option Rs)(c:CF)(params:Array Tmp)(assign body:Code)(k:List Item)(H:Q0)(n:Nat):Option Value->Option FS
 |some fv=>match VM c H n params assign body with
  |some (H1,l,ds,R1)=>match Yz F H1 fv #[.func (.yield l) #[] #[]]with
   |some (.enter g args,R2)=>match ZM P g args with
    |some c1=>CD c k l ds R1 R2 (rec c1 H1 (l+1))
    |none=>none
   |_=>none
  |none=>none
 |none=>none
def Fh(c:CF)(a b:Code)(k:List Item)(H:Q0)(n:Nat):Option Value->Option FS
 |some (.bool t)=>AD c (.code (bif t then a else b)::k) H n
 |_=>none
def AA(c:CF)(H:Q0)(n:Nat)(j:Code):Option (List Item)->Option FS
 |some k'=>AD c k' H n
 |none=>Y6 c H n (some j)
def cS(P:Program)(F:FuncId->Bool)(Xs:W9)(rec:CF->Q0->Nat->Option Rs)(c:CF)(k:List Item)(H:Q0)(n:Nat):Code->Option FS
 | .ret=>Y6 c H n (some .ret)
 | .skip=>AD c k H n
 | .label _=>AD c k H n
 | .seq a b=>AD c (.code a::.code b::k) H n
 | .cond x a b=>Fh c a b k H n (Zd c.tmps x)
 | .block id b=>AD c (.code b::.inBlock id::k) H n
 | .loop b=>AD c (.code b::.inLoop b::k) H n
 | .scope b=>AD c (.code b::.inScope b::k) H n
 | .exit id=>AA c H n (.exit id) (exitTo id k)
 | .goto l=>AA c H n (.goto l) (gotoIn l k)
 | .region _ ops draw=>El c ops draw k (KL P F Xs rec ops ops.toList c.tmps H n)
 | .rangeFunc f params assign body=>A8 P F rec c params assign body k H n (Zd c.tmps f)
 |_=>none
def Eo(c:CF)(l:Nat)(k:List Item)(H:Q0)(n:Nat):Option FS:=match Q4 H l with
 |some (.loop r)=>bif !(decide (r.state=.busy))then some (.go {c with todo:=(r.pending.map Item.code).toList++k} (WZ H l (.loop {r with state:=.exhausted})) n [l] [l])else none
 |_=>none
def Er(c:CF)(k:List Item)(H:Q0)(n:Nat):Option FS:=match c.roundOf with
 |some l=>match Q4 H l with
  |some (.loop r)=>bif decide (r.state=.ready)then some (.go {c with todo:=k} (WZ H l (.loop {r with state:=.busy})) n [l] [l])else none
  |_=>none
 |none=>none
def cR(P:Program)(F:FuncId->Bool)(Xs:W9)(rec:CF->Q0->Nat->Option Rs)(c:CF)(k:List Item)(H:Q0)(n:Nat):Item->Option FS
 | .code cd=>cS P F Xs rec c k H n cd
 | .inBlock _=>AD c k H n
 | .inScope _=>AD c k H n
 | .inLoop b=>AD c (.code b::.inLoop b::k) H n
 | .endRangeFunc l=>Eo c l k H n
 | .beginRound=>Er c k H n
 |_=>none
def FO(P:Program)(c:CF)(H:Q0)(n:Nat):Option FS:=match c.defers with
 |d::ds=>match Q4 H d with
  |some (.deferred (some []))=>some (.go {c with defers:=ds} (WZ H d (.deferred none)) n [d] [d])
  |_=>none
 |[]=>match c.mode with
  | .ZW v=>bif Dk P c.fn then some (.done (.ZW v) H n [] [])else none
  |_=>match c.roundOf,oS P c.fn H c.tmps with
   |none,some (v,R)=>some (.done (.ret v) H n R [])
   |_,_=>none
def c6(P:Program)(F:FuncId->Bool)(Xs:W9)(rec:CF->Q0->Nat->Option Rs)(c:CF)(H:Q0)(n:Nat):Option FS:=
 match c.mode with
 | .run=>match c.todo with
   |[]=>Y6 c H n none
   |it::k=>cR P F Xs rec c k H n it
 |_=>FO P c H n
theorem zp(P:Program)(F:FuncId->Bool)(Xs:W9)(rec:CF->Q0->Nat->Option Rs)(c:CF)(H:Q0)(n:Nat):c6 P F Xs rec c H n=Yv P F Xs rec c H n:=by
 obtain⟨fn,tmps,todo,defers,mode,ro⟩:=c;unfold c6 Yv;cases mode with
 |run=>
  cases todo with
  |nil=>rfl
  |cons it k=>
   cases it with
   |code cd=>
    cases cd with
    |region id ops draw=>
     simp only[cR,cS,oM];cases bV P F Xs rec ops ops.toList tmps H n with
     |none=>rfl
     |some x=>
      obtain⟨Q6,fin⟩:=x;cases fin <;> rfl
    |rangeFunc f ps assign body=>
     simp only[cR,cS,A8];cases Zd tmps f with
     |none=>rfl
     |some fv=>
      simp only;cases VM ⟨fn,tmps,.code (.rangeFunc f ps assign body)::k,defers,.run,ro⟩ H n ps assign body with
      |none=>rfl
      |some x=>
       obtain⟨H1,l,ds,R1⟩:=x;simp only;cases Yz F H1 fv #[.func (.yield l) #[] #[]]with
       |none=>rfl
       |some y=>
        obtain⟨nx,R2⟩:=y;cases nx with
        |enter g args=>
         simp only;cases ZM P g args with
         |none=>rfl
         |some c1=>
          simp only;cases rec c1 H1 (l+1)with
          |none=>rfl
          |some s=>obtain⟨o,_,_,_,_⟩:=s;cases o <;> rfl
        |_=>rfl
    |cond x a b=>
     simp only[cR,cS];cases Zd tmps x with
     |none=>rfl
     |some v=>cases v <;> rfl
    |exit id=>simp only[cR,cS];cases exitTo id k <;> rfl
    |goto id=>simp only[cR,cS];cases gotoIn id k <;> rfl
    |_=>rfl
   |_=>rfl
 |ret=>rfl
 |ZW v=>rfl
def Ku(P:Program)(F:FuncId->Bool)(Xs:W9):Nat->Nat->CF->Q0->Nat->List Nat->List Nat->Option Rs
 |0,_,_,_,_,_,_=>none
 |fuel+1,b,c,H,n,R,W=>
  match c6 P F Xs (fun c1 H1 n1=>Ku P F Xs fuel n1 c1 H1 n1 [] []) c H n with
  |some (.go c' H' n' R' W')=>Ku P F Xs fuel b c' H' n' (ZI b R' R) (ZI b W' W)
  |some (.done out H' n' R' W')=>some ⟨out,H',n',ZI b R' R,ZI b W' W⟩
  |none=>none
theorem jN(P:Program)(F:FuncId->Bool)(Xs:W9):∀(fuel b:Nat) (c:CF) (H:Q0) (n:Nat) (R W:List Nat),Ku P F Xs fuel b c H n R W=kJ P F Xs fuel b c H n R W
 |0,_,_,_,_,_,_=>rfl
 |fuel+1,b,c,H,n,R,W=>by
  simp only[Ku,kJ,zp,jN P F Xs fuel];rfl
end Go.CE
