/- CE: the canonical machine again, its cases in small pieces: the kernel evaluates it quicker. -/
import Derived.Test.YtncjjangllkokaaZRH04
set_option linter.all false
open Nat renaming ble->LP,blt->Ls
namespace Go.CE
open Go Go.RowKit

def Ia(P:Program)(t:TypeId)(H:Qq)(n:Nat):Option CR:=match zeroOf P t with
 |some z=>bif af z then some ⟨.val (Cx n),(n,.cells z.cells t (0,0))::H,n+1,[],[]⟩else none
 |none=>none
def QaW(t:TypeId)(x:Option Value)(H:Qq)(n:Nat):Option CR:=match x with
 |some v=>some ⟨.val (Cx n),(n,.cells v.cells t (0,0))::H,n+1,[],[]⟩
 |none=>none
def HZ(P:Program)(t:TypeId)(l:Option (List (Nat×Value)))(H:Qq)(n:Nat):Option CR:=match l with
 |some l=>mkPure (u7 P t l) H n
 |none=>none
def j5(P:Program)(t:TypeId)(len:Nat)(l:Option (List (Nat×Value)))(H:Qq)(n:Nat):Option CR:=match l with
 |some l=>match Sj P t len l with
  |some (e,cs,s)=>some ⟨.val (.slice (some ⟨n,0,none⟩) len s),(n,.cells cs e (0,0))::H,n+1,[],[]⟩
  |none=>bif lG P t len l then some ⟨.val bS,H,n,[],[]⟩else none
 |none=>none
def HT(P:Program)(t:TypeId)(a:Option Value)(H:Qq)(n:Nat):Option CR:=match a with
 |some p=>match Ty P t H p with
  |some (v,b)=>some ⟨.val v,H,n,[b],[]⟩
  |none=>none
 |none=>none
def Bo(P:Program)(t:TypeId)(a x:Option Value)(H:Qq)(n:Nat):Option CR:=match a,x with
 |some p,some v=>match Sy P t H v p with
  |some (H',b)=>some ⟨.val undef,H',n,[b],[b]⟩
  |none=>none
 |_,_=>none
def eu(P:Program)(s:TypeId)(f:Nat)(x:Option Value)(H:Qq)(n:Nat):Option CR:=match x with
 |some p=>mkPure (Wm P s f p) H n
 |none=>none
def Bp(P:Program)(s:TypeId)(f:Nat)(x:Option Value)(H:Qq)(n:Nat):Option CR:=match x with
 |some p=>mkPure (jf P s f p) H n
 |none=>none
def ep(P:Program)(t:TypeId)(x i:Option Value)(H:Qq)(n:Nat):Option CR:=match x,i with
 |some v,some k=>mkPure (Ji P t v k) H n
 |_,_=>none
def HV(P:Program)(ev:Operand->Option Value)(o:Oper)(t:TypeId)(x i:Option Value)(H:Qq)(n:Nat):Option CR:=match x,i with
 |some (.agg cs),some k=>mkPure (u5 P t (.agg cs) k) H n
 |_,_=>mkPure (UM P ev o) H n
def nc(i:Nat)(x:Option Value)(H:Qq)(n:Nat):Option CR:=match x with
 |some v=>mkPure (Tz i v) H n
 |none=>none
def O5(P:Program)(t:TypeId)(l c:Option Value)(H:Qq)(n:Nat):Option CR:=match l,c with
 |some x,some y=>match Sg P t x y with
  |some (e,cs,l,s)=>some ⟨.val (.slice (some ⟨n,0,none⟩) l s),(n,.cells cs e (0,0))::H,n+1,[],[]⟩
  |none=>none
 |_,_=>none
def OX(P:Program)(ev:Operand->Option Value)(o:Oper)(t:TypeId)(x:Option Value)(lo hi:Option (Option Value))(H:Qq)(n:Nat):Option CR:=match x,lo,hi with
 |some (.slice (some a) m s),some l,some h=>mkPure (cc P t (.slice (some a) m s) l h) H n
 |some (.pointer p),some l,some h=>mkPure (cc P t (.pointer p) l h) H n
 |_,_,_=>mkPure (UM P ev o) H n
def DB(P:Program)(ev:Operand->Option Value)(o:Oper)(t:TypeId)(x:Operand)(lo hi m:Option Operand)(H:Qq)(n:Nat):Option CR:=match m with
 |none=>OX P ev o t (ev x) (G0 ev lo) (G0 ev hi) H n
 |some mx=>match hi with
  |some h=>bif dd P t (ev x) (G0 ev lo) (ev h) (ev mx)then some ⟨.val bS,H,n,[],[]⟩else mkPure (UM P ev o) H n
  |none=>mkPure (UM P ev o) H n
def r8(P:Program)(ev:Operand->Option Value)(o:Oper)(fn:Fn)(first captured:Array Operand)(H:Qq)(n:Nat):Option CR:=match fn with
 | .func f=>match Ru ev first.toList,Ru ev captured.toList with
   |some xs,some ys=>some ⟨.val (.func (.func f) xs.toArray ys.toArray),H,n,[],[]⟩
   |_,_=>none
 |_=>mkPure (UM P ev o) H n
def wE(P:Program)(ev:Operand->Option Value)(o:Oper)(r:Option Operand)(H:Qq)(n:Nat):Option CR:=match r with
 |none=>some ⟨.val (.map (some n)),(n,.map #[] 0)::H,n+1,[],[]⟩
 |some _=>mkPure (UM P ev o) H n
def DD(P:Program)(t:TypeId)(ok:Bool)(x k:Option Value)(H:Qq)(n:Nat):Option CR:=match x,k with
 |some m,some kv=>match ik P t H ok m kv with
  |some (v,R)=>some ⟨.val v,H,n,R,[]⟩
  |none=>none
 |_,_=>none
def nb(P:Program)(t:TypeId)(m k x:Option Value)(H:Qq)(n:Nat):Option CR:=match m,k,x with
 |some mv,some kv,some v=>match Jh P t H mv kv v with
  |some (H',b)=>some ⟨.val undef,H',n,[b],[b]⟩
  |none=>none
 |_,_,_=>none
def Qad(P:Program)(ev:Operand->Option Value)(o:Oper)(op:BinOp)(x y:Option Value)(H:Qq)(n:Nat):Option CR:=match x,y with
 |some a,some b=>match Dn op a b with
  |some v=>some ⟨.val v,H,n,[],[]⟩
  |none=>mkPure (UM P ev o) H n
 |_,_=>none
def QaS(x:Option Value)(H:Qq)(n:Nat):Option CR:=match x with
 |some (.pointer (some a))=>some ⟨.val (.pointer (some a)),H,n,[],[]⟩
 |some (.func (.func f) xs ys)=>some ⟨.val (.func (.func f) xs ys),H,n,[],[]⟩
 |some (.func (.yield f) xs ys)=>some ⟨.val (.func (.yield f) xs ys),H,n,[],[]⟩
 |_=>none
def QaV(F:FuncId->Bool)(f:Option Value)(args:Option (List Value))(H:Qq)(n:Nat):Option CR:=match f,args with
 |some fv,some args=>match Si F H fv args.toArray with
  |some (nx,R)=>some ⟨nx,H,n,R,[]⟩
  |none=>none
 |_,_=>none
def N5(P:Program)(ev:Operand->Option Value)(c:Call)(H:Qq)(n:Nat):Option CR:=match c.args.toList,c.argTypes.toList with
 |[s,x],[t,t']=>match ev s,ev x with
  |some sv,some xv=>At P t t' H n sv xv
  |_,_=>none
 |_,_=>none
def Qb5(P:Program)(ev:Operand->Option Value)(o:Oper)(c:Call)(H:Qq)(n:Nat):Option CR:=match c.args.toList,c.argTypes.toList with
 |[x],[t]=>match ev x,Rx P t with
  |some (.slice (some _) m _),some (.slice _)=>some ⟨.val (.int .i64 m),H,n,[],[]⟩
  |some (.chan (some 0)),some (.slice _)=>some ⟨.val (.int .i64 0),H,n,[],[]⟩
  |_,_=>mkPure (UM P ev o) H n
 |_,_=>none
def QaT(P:Program)(ev:Operand->Option Value)(c:Call)(H:Qq)(n:Nat):Option CR:=match c.args.toList,c.argTypes.toList with
 |[s,x],[t,_]=>match ev s,ev x with
  |some sv,some xv=>Ar P t H n sv xv
  |_,_=>none
 |_,_=>none
def HY(P:Program)(ev:Operand->Option Value)(o:Oper)(c:Call)(b:Builtin)(H:Qq)(n:Nat):Option CR:=match b with
 | .append=>N5 P ev c H n
 | .len=>Qb5 P ev o c H n
 | .copy=>QaT P ev c H n
 |_=>mkPure (UM P ev o) H n
def fW(P:Program)(F:FuncId->Bool)(ev:Operand->Option Value)(o:Oper)(c:Call)(H:Qq)(n:Nat):Option CR:=match c.callee with
 | .builtin b=>HY P ev o c b H n
 | .value f=>QaV F (ev f) (Ru ev c.args.toList) H n
 |_=>none
def Oj(P:Program)(F:FuncId->Bool)(ev:Operand->Option Value)(o:Oper)(H:Qq)(n:Nat):Option CR:=
 match o.op with
 | .move x=>mkPure (ev x) H n
 | .assign x=>mkPure (ev x) H n
 | .pick c a b=>match ev c with
   |some (.bool t)=>mkPure (ev (bif t then a else b)) H n
   |_=>none
 | .alloc t=>Ia P t H n
 | .box t x=>QaW t (ev x) H n
 | .build t ps=>HZ P t (partsOf ev ps.toList) H n
 | .buildSlice t len ps=>j5 P t len (partsOf ev ps.toList) H n
 | .load t a=>HT P t (ev a) H n
 | .store t a x=>Bo P t (ev a) (ev x) H n
 | .fieldAddr s x f=>eu P s f (ev x) H n
 | .field t x f=>Bp P t f (ev x) H n
 | .indexAddr t x i=>ep P t (ev x) (ev i) H n
 | .index t x i=>HV P ev o t (ev x) (ev i) H n
 | .extract x i=>nc i (ev x) H n
 | .makeSlice t l c=>O5 P t (ev l) (ev c) H n
 | .slice t x lo hi m=>DB P ev o t x lo hi m H n
 | .makeFunc fn first captured=>r8 P ev o fn first captured H n
 | .makeMap _ r=>wE P ev o r H n
 | .lookup t x k ok=>DD P t ok (ev x) (ev k) H n
 | .mapUpdate t m k x=>nb P t (ev m) (ev k) (ev x) H n
 | .binOp op _ x y _=>Qad P ev o op (ev x) (ev y) H n
 | .nilCheck x=>QaS (ev x) H n
 | .call c=>fW P F ev o c H n
 |_=>mkPure (UM P ev o) H n
theorem Oi(P:Program)(F:FuncId->Bool)(ev:Operand->Option Value)(o:Oper)(H:Qq)(n:Nat):Oj P F ev o H n=uu P F ev o H n:=by
 unfold Oj uu;cases o.op with
 |slice t x lo hi m=>cases m <;> cases hi <;> rfl
 |makeFunc fn a b=>cases fn <;> rfl
 |makeMap t r=>cases r <;> rfl
 |call c=>
  simp only[fW];cases c.callee with
  |builtin b=>cases b <;> rfl
  |value f=>rfl
  |invoke a b=>rfl
 |_=>rfl
def HX(r:CR)(s:Rs):Option Rs:=match Jn r.H s with
 |s=>some ⟨s.out,s.H,s.n,r.R++s.R,r.W++s.W⟩
def Qaa(P:Program)(rec:CF->Qq->Nat->Option Rs)(g:FuncId)(args:Array Value)(r:CR):Option Rs:=match Wa P g args with
 |some c=>match rec c r.H r.n with
  |some s=>HX r s
  |none=>none
 |none=>none
def sN(P:Program)(Xr:WZ)(rec:CF->Qq->Nat->Option Rs)(g:FuncId)(args:Array Value)(r:CR):Option Rs:=match Xr g args r.H r.n with
 |some s=>some ⟨s.out,s.H,s.n,r.R++s.R,r.W++s.W⟩
 |none=>Qaa P rec g args r
def OY(rec:CF->Qq->Nat->Option Rs)(l:Nat)(fn:FuncId)(tm:Array Value)(a b:Code)(r:CR):Option Rs:=bif LP tm.size 16000 then match rec ⟨fn,ofList tm.size tm.toList,[.code a,.beginRound,.code b],[],.run,some l⟩ r.H r.n with
 |some s=>some ⟨s.out,s.H,s.n,r.R++s.R,r.W++s.W⟩
 |none=>none
 else none
def DC(P:Program)(Xr:WZ)(rec:CF->Qq->Nat->Option Rs)(r:CR):Option Rs:=match r.nx with
 | .val v=>some ⟨.ret v,r.H,r.n,r.R,r.W⟩
 | .enter g args=>sN P Xr rec g args r
 | .round l fn tm a b=>OY rec l fn tm a b r
def qR(P:Program)(Xr:WZ)(rec:CF->Qq->Nat->Option Rs)(n:Nat)(x:Option CR):Option Rs:=match x with
 |some r=>bif r.R.all (fun i=>Ls i n)then DC P Xr rec r else none
 |none=>none
def Qab(v:Option Value)(H:Qq)(n:Nat):Option Rs:=match v with
 |some (.iface t v)=>some ⟨.Wn (.iface t v),H,n,[],[]⟩
 |_=>none
def D4:Op->Nat
 | .defer _=>1
 | .panic _=>2
 |_=>0
def qV(v:Option Value)(H:Qq)(n:Nat):Option Rs:=match v with
 |some v=>some ⟨.ret v,H,n,[],[]⟩
 |none=>none
def uO(P:Program)(F:FuncId->Bool)(Xr:WZ)(rec:CF->Qq->Nat->Option Rs)(T:Tm)(o:Oper)(H:Qq)(n:Nat):Option Rs:=
 match o.op with
 | .move x=>qV (Zd T x) H n
 | .assign x=>qV (Zd T x) H n
 | .pick c a b=>match Zd T c with
   |some (.bool t)=>qV (Zd T (bif t then a else b)) H n
   |_=>none
 | .alloc t=>qR P Xr rec n (Ia P t H n)
 | .box t x=>qR P Xr rec n (QaW t (Zd T x) H n)
 | .build t ps=>qR P Xr rec n (HZ P t (partsOf (Zd T) ps.toList) H n)
 | .buildSlice t len ps=>qR P Xr rec n (j5 P t len (partsOf (Zd T) ps.toList) H n)
 | .load t a=>qR P Xr rec n (HT P t (Zd T a) H n)
 | .store t a x=>qR P Xr rec n (Bo P t (Zd T a) (Zd T x) H n)
 | .fieldAddr s x f=>qR P Xr rec n (eu P s f (Zd T x) H n)
 | .field t x f=>qR P Xr rec n (Bp P t f (Zd T x) H n)
 | .indexAddr t x i=>qR P Xr rec n (ep P t (Zd T x) (Zd T i) H n)
 | .index t x i=>qR P Xr rec n (HV P (Zd T) o t (Zd T x) (Zd T i) H n)
 | .extract x i=>qR P Xr rec n (nc i (Zd T x) H n)
 | .makeSlice t l c=>qR P Xr rec n (O5 P t (Zd T l) (Zd T c) H n)
 | .slice t x lo hi m=>qR P Xr rec n (DB P (Zd T) o t x lo hi m H n)
 | .makeFunc fn first captured=>qR P Xr rec n (r8 P (Zd T) o fn first captured H n)
 | .makeMap _ r=>qR P Xr rec n (wE P (Zd T) o r H n)
 | .lookup t x k ok=>qR P Xr rec n (DD P t ok (Zd T x) (Zd T k) H n)
 | .mapUpdate t m k x=>qR P Xr rec n (nb P t (Zd T m) (Zd T k) (Zd T x) H n)
 | .binOp op _ x y _=>qR P Xr rec n (Qad P (Zd T) o op (Zd T x) (Zd T y) H n)
 | .nilCheck x=>qR P Xr rec n (QaS (Zd T x) H n)
 | .call c=>qR P Xr rec n (fW P F (Zd T) o c H n)
 | .defer _=>none
 | .panic x=>Qab (Zd T x) H n
 |_=>qR P Xr rec n (mkPure (UM P (Zd T) o) H n)
theorem QaR{P:Program}{F:FuncId->Bool}{Xr:WZ}{rec:CF->Qq->Nat->Option Rs}{T:Tm}{o:Oper}{H:Qq}{n:Nat}(h1:∀c,o.op≠.defer c)(h2:∀x,o.op≠.panic x):di P F Xr rec T o H n=qR P Xr rec n (Oj P F (Zd T) o H n):=by
 rw[Oi];unfold di;split
 ·rename_i c h;exact absurd h (h1 c)
 ·rename_i x h;exact absurd h (h2 x)
 ·unfold Rq;cases uu P F (Zd T) o H n with
  |none=>rfl
  |some r=>
   simp only[qR];cases r.R.all (fun i=>Ls i n)with
   |false=>rfl
   |true=>
    simp only[cond_true,DC];cases r.nx <;> rfl
theorem RD{P:Program}{Xr:WZ}{rec:CF->Qq->Nat->Option Rs}{H:Qq}{n:Nat}(v:Option Value):qR P Xr rec n (mkPure v H n)=qV v H n:=by cases v <;> rfl
theorem Qao(P:Program)(F:FuncId->Bool)(Xr:WZ)(rec:CF->Qq->Nat->Option Rs)(T:Tm)(o:Oper)(H:Qq)(n:Nat):uO P F Xr rec T o H n=di P F Xr rec T o H n:=by
 cases hs:D4 o.op with
 |succ k=>
  unfold uO di;generalize o.op=p at hs;cases p <;> first|(simp[D4]at hs;done)|rfl
 |zero=>
  rw[QaR (by intro c h;rw[h]at hs;cases hs) (by intro c h;rw[h]at hs;cases hs)];unfold uO Oj;generalize hp:o.op=p at hs;cases p with
  |move x=>exact(RD _).symm
  |assign x=>exact(RD _).symm
  |pick c a b=>
   simp only;split
   ·exact(RD _).symm
   ·rfl
  |defer c=>cases hs
  |panic c=>cases hs
  |_=>rfl
def PT(P:Program)(F:FuncId->Bool)(Xr:WZ)(rec:CF->Qq->Nat->Option Rs)(ops:Array Oper):List Oper->Tm->Qq->Nat->Option (List Rec×RF)
 |[],T,H,n=>some ([],.ok T H n)
 |o::l,T,H,n=>
  bif Rp T o.dst then
   bif Region.wanted o (XS ops T)then
    match uO P F Xr rec T o H n with
    |some s=>match s.out with
     | .ret v=>match PT P F Xr rec ops l (VG T o.dst v) s.H s.n with
       |some (rs,fin)=>some (⟨o,true,v,T,H,s.H,n,s.n,s.R,s.W⟩::rs,fin)
       |none=>none
     | .Wn v=>some ([],.Wn T v s.H s.n s.R s.W)
    |none=>none
   else match PT P F Xr rec ops l (VG T o.dst undef) H n with
    |some (rs,fin)=>some (⟨o,false,undef,T,H,H,n,n,[],[]⟩::rs,fin)
    |none=>none
  else none
theorem vC(P:Program)(F:FuncId->Bool)(Xr:WZ)(rec:CF->Qq->Nat->Option Rs)(ops:Array Oper):∀(l:List Oper) (T:Tm) (H:Qq) (n:Nat),PT P F Xr rec ops l T H n=iz P F Xr rec ops l T H n
 |[],_,_,_=>rfl
 |o::l,T,H,n=>by simp only[PT,iz,Qao,vC P F Xr rec ops l];rfl
def HW(c:CF)(k:List Item)(H:Qq)(n:Nat):Option FS:=some (.go {c with todo:=k} H n [] [])
def OZ(c:CF)(ops:Array Oper)(draw:Bool)(k:List Item):Option (List Rec×RF)->Option FS
 |some (Qz,.ok T' H' n')=>bif !draw || (WY 0 ops.toList && indep ops 0 Qz (P3 ops.toList []))then some (.go {c with tmps:=T',todo:=k} H' n' (Y9 Qz) (Uc Qz))else none
 |some (Qz,.Wn T' v H' n' R W)=>bif !draw || ai ops Qz T' then some (.go {c with tmps:=T',mode:=.Wn v} H' n' (Y9 Qz++R) (Uc Qz++W))else none
 |none=>none
def N4(c:CF)(k:List Item)(l:Nat)(ds R1 R2:List Nat):Option Rs->Option FS
 |some s=>match s.out with
  | .ret _=>some (.go {c with todo:=.endRangeFunc l::k,defers:=ds++c.defers} s.H s.n (R1++R2++s.R) s.W)
  | .Wn v=>some (.go {c with mode:=.Wn v,defers:=ds++c.defers} s.H s.n (R1++R2++s.R) s.W)
 |none=>none
def HS(P:Program)(F:FuncId->Bool)(rec:CF->Qq->Nat->Option Rs)(c:CF)(params:Array Tmp)(assign body:Code)(k:List Item)(H:Qq)(n:Nat):Option Value->Option FS
 |some fv=>match Ki c H n params assign body with
  |some (H1,l,ds,R1)=>match Si F H1 fv #[.func (.yield l) #[] #[]]with
   |some (.enter g args,R2)=>match Wa P g args with
    |some c1=>N4 c k l ds R1 R2 (rec c1 H1 (l+1))
    |none=>none
   |_=>none
  |none=>none
 |none=>none
def QaU(c:CF)(a b:Code)(k:List Item)(H:Qq)(n:Nat):Option Value->Option FS
 |some (.bool t)=>HW c (.code (bif t then a else b)::k) H n
 |_=>none
def HU(c:CF)(H:Qq)(n:Nat)(j:Code):Option (List Item)->Option FS
 |some k'=>HW c k' H n
 |none=>Sr c H n (some j)
def j4(P:Program)(F:FuncId->Bool)(Xr:WZ)(rec:CF->Qq->Nat->Option Rs)(c:CF)(k:List Item)(H:Qq)(n:Nat):Code->Option FS
 | .ret=>Sr c H n (some .ret)
 | .skip=>HW c k H n
 | .label _=>HW c k H n
 | .seq a b=>HW c (.code a::.code b::k) H n
 | .cond x a b=>QaU c a b k H n (Zd c.tmps x)
 | .block id b=>HW c (.code b::.inBlock id::k) H n
 | .loop b=>HW c (.code b::.inLoop b::k) H n
 | .scope b=>HW c (.code b::.inScope b::k) H n
 | .exit id=>HU c H n (.exit id) (exitTo id k)
 | .goto l=>HU c H n (.goto l) (gotoIn l k)
 | .region _ ops draw=>OZ c ops draw k (PT P F Xr rec ops ops.toList c.tmps H n)
 | .rangeFunc f params assign body=>HS P F rec c params assign body k H n (Zd c.tmps f)
 |_=>none
def Qac(c:CF)(l:Nat)(k:List Item)(H:Qq)(n:Nat):Option FS:=match Qt H l with
 |some (.loop r)=>bif !(decide (r.state=.busy))then some (.go {c with todo:=(r.pending.map Item.code).toList++k} (VE H l (.loop {r with state:=.exhausted})) n [l] [l])else none
 |_=>none
def Qae(c:CF)(k:List Item)(H:Qq)(n:Nat):Option FS:=match c.roundOf with
 |some l=>match Qt H l with
  |some (.loop r)=>bif decide (r.state=.ready)then some (.go {c with todo:=k} (VE H l (.loop {r with state:=.busy})) n [l] [l])else none
  |_=>none
 |none=>none
def j3(P:Program)(F:FuncId->Bool)(Xr:WZ)(rec:CF->Qq->Nat->Option Rs)(c:CF)(k:List Item)(H:Qq)(n:Nat):Item->Option FS
 | .code cd=>j4 P F Xr rec c k H n cd
 | .inBlock _=>HW c k H n
 | .inScope _=>HW c k H n
 | .inLoop b=>HW c (.code b::.inLoop b::k) H n
 | .endRangeFunc l=>Qac c l k H n
 | .beginRound=>Qae c k H n
 |_=>none
def Qb6(P:Program)(c:CF)(H:Qq)(n:Nat):Option FS:=match c.defers with
 |d::ds=>match Qt H d with
  |some (.deferred (some []))=>some (.go {c with defers:=ds} (VE H d (.deferred none)) n [d] [d])
  |_=>none
 |[]=>match c.mode with
  | .Wn v=>bif NV P c.fn then some (.done (.Wn v) H n [] [])else none
  |_=>match c.roundOf,vI P c.fn H c.tmps with
   |none,some (v,R)=>some (.done (.ret v) H n R [])
   |_,_=>none
def iX(P:Program)(F:FuncId->Bool)(Xr:WZ)(rec:CF->Qq->Nat->Option Rs)(c:CF)(H:Qq)(n:Nat):Option FS:=
 match c.mode with
 | .run=>match c.todo with
   |[]=>Sr c H n none
   |it::k=>j3 P F Xr rec c k H n it
 |_=>Qb6 P c H n
theorem Gj(P:Program)(F:FuncId->Bool)(Xr:WZ)(rec:CF->Qq->Nat->Option Rs)(c:CF)(H:Qq)(n:Nat):iX P F Xr rec c H n=Sb P F Xr rec c H n:=by
 obtain⟨fn,tmps,todo,defers,mode,ro⟩:=c;unfold iX Sb;cases mode with
 |run=>
  cases todo with
  |nil=>rfl
  |cons it k=>
   cases it with
   |code cd=>
    cases cd with
    |region id ops draw=>
     simp only[j3,j4,vC];cases iz P F Xr rec ops ops.toList tmps H n with
     |none=>rfl
     |some x=>
      obtain⟨Qz,fin⟩:=x;cases fin <;> rfl
    |rangeFunc f ps assign body=>
     simp only[j3,j4,HS];cases Zd tmps f with
     |none=>rfl
     |some fv=>
      simp only;cases Ki ⟨fn,tmps,.code (.rangeFunc f ps assign body)::k,defers,.run,ro⟩ H n ps assign body with
      |none=>rfl
      |some x=>
       obtain⟨H1,l,ds,R1⟩:=x;simp only;cases Si F H1 fv #[.func (.yield l) #[] #[]]with
       |none=>rfl
       |some y=>
        obtain⟨nx,R2⟩:=y;cases nx with
        |enter g args=>
         simp only;cases Wa P g args with
         |none=>rfl
         |some c1=>
          simp only;cases rec c1 H1 (l+1)with
          |none=>rfl
          |some s=>obtain⟨o,_,_,_,_⟩:=s;cases o <;> rfl
        |_=>rfl
    |cond x a b=>
     simp only[j3,j4];cases Zd tmps x with
     |none=>rfl
     |some v=>cases v <;> rfl
    |exit id=>simp only[j3,j4];cases exitTo id k <;> rfl
    |goto id=>simp only[j3,j4];cases gotoIn id k <;> rfl
    |_=>rfl
   |_=>rfl
 |ret=>rfl
 |Wn v=>rfl
def Po(P:Program)(F:FuncId->Bool)(Xr:WZ):Nat->Nat->CF->Qq->Nat->List Nat->List Nat->Option Rs
 |0,_,_,_,_,_,_=>none
 |fuel+1,b,c,H,n,R,W=>
  match iX P F Xr (fun c1 H1 n1=>Po P F Xr fuel n1 c1 H1 n1 [] []) c H n with
  |some (.go c' H' n' R' W')=>Po P F Xr fuel b c' H' n' (ZT b R' R) (ZT b W' W)
  |some (.done out H' n' R' W')=>some ⟨out,H',n',ZT b R' R,ZT b W' W⟩
  |none=>none
theorem qb(P:Program)(F:FuncId->Bool)(Xr:WZ):∀(fuel b:Nat) (c:CF) (H:Qq) (n:Nat) (R W:List Nat),Po P F Xr fuel b c H n R W=qL P F Xr fuel b c H n R W
 |0,_,_,_,_,_,_=>rfl
 |fuel+1,b,c,H,n,R,W=>by
  simp only[Po,qL,Gj,qb P F Xr fuel];rfl
end Go.CE
