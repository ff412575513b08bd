/- CE: the canonical machine again, its cases in small pieces: the kernel evaluates it quicker. -/
import Derived.Test.YtncjjangllkokaaZRR04
set_option linter.all false
open Nat renaming ble->LC,blt->Lk
namespace Go.CE
open Go Go.RowKit

def AU(P:Program)(t:TypeId)(H:Qj)(n:Nat):Option CR:=match zeroOf P t with
 |some z=>bif af z then some ⟨.val (v8 n),(n,.cells z.cells t (0,0))::H,n+1,[],[]⟩else none
 |none=>none
def Hd(t:TypeId)(x:Option Value)(H:Qj)(n:Nat):Option CR:=match x with
 |some v=>some ⟨.val (v8 n),(n,.cells v.cells t (0,0))::H,n+1,[],[]⟩
 |none=>none
def AT(P:Program)(t:TypeId)(l:Option (List (Nat×Value)))(H:Qj)(n:Nat):Option CR:=match l with
 |some l=>mkPure (oT P t l) H n
 |none=>none
def de(P:Program)(t:TypeId)(len:Nat)(l:Option (List (Nat×Value)))(H:Qj)(n:Nat):Option CR:=match l with
 |some l=>match Jk P t len l with
  |some (e,cs,s)=>some ⟨.val (.slice (some ⟨n,0,none⟩) len s),(n,.cells cs e (0,0))::H,n+1,[],[]⟩
  |none=>bif fe P t len l then some ⟨.val RW,H,n,[],[]⟩else none
 |none=>none
def AM(P:Program)(t:TypeId)(a:Option Value)(H:Qj)(n:Nat):Option CR:=match a with
 |some p=>match Po P t H p with
  |some (v,b)=>some ⟨.val v,H,n,[b],[]⟩
  |none=>none
 |none=>none
def uL(P:Program)(t:TypeId)(a x:Option Value)(H:Qj)(n:Nat):Option CR:=match a,x with
 |some p,some v=>match Jw P t H v p with
  |some (H',b)=>some ⟨.val undef,H',n,[b],[b]⟩
  |none=>none
 |_,_=>none
def TA(P:Program)(s:TypeId)(f:Nat)(x:Option Value)(H:Qj)(n:Nat):Option CR:=match x with
 |some p=>mkPure (ZA P s f p) H n
 |none=>none
def uM(P:Program)(s:TypeId)(f:Nat)(x:Option Value)(H:Qj)(n:Nat):Option CR:=match x with
 |some p=>mkPure (cM P s f p) H n
 |none=>none
def T9(P:Program)(t:TypeId)(x i:Option Value)(H:Qj)(n:Nat):Option CR:=match x,i with
 |some v,some k=>mkPure (Kq P t v k) H n
 |_,_=>none
def AO(P:Program)(ev:Operand->Option Value)(o:Oper)(t:TypeId)(x i:Option Value)(H:Qj)(n:Nat):Option CR:=match x,i with
 |some (.agg cs),some k=>mkPure (oR P t (.agg cs) k) H n
 |_,_=>mkPure (VE P ev o) H n
def gF(i:Nat)(x:Option Value)(H:Qj)(n:Nat):Option CR:=match x with
 |some v=>mkPure (Pp i v) H n
 |none=>none
def Fm(P:Program)(t:TypeId)(l c:Option Value)(H:Qj)(n:Nat):Option CR:=match l,c with
 |some x,some y=>match Rf P t x y with
  |some (e,cs,l,s)=>some ⟨.val (.slice (some ⟨n,0,none⟩) l s),(n,.cells cs e (0,0))::H,n+1,[],[]⟩
  |none=>none
 |_,_=>none
def FM(P:Program)(ev:Operand->Option Value)(o:Oper)(t:TypeId)(x:Option Value)(lo hi:Option (Option Value))(H:Qj)(n:Nat):Option CR:=match x,lo,hi with
 |some (.slice (some a) m s),some l,some h=>mkPure (Sj P t (.slice (some a) m s) l h) H n
 |some (.pointer p),some l,some h=>mkPure (Sj P t (.pointer p) l h) H n
 |_,_,_=>mkPure (VE P ev o) H n
def wS(P:Program)(ev:Operand->Option Value)(o:Oper)(t:TypeId)(x:Operand)(lo hi m:Option Operand)(H:Qj)(n:Nat):Option CR:=match m with
 |none=>FM P ev o t (ev x) (zM ev lo) (zM ev hi) H n
 |some mx=>match hi with
  |some h=>bif SX P t (ev x) (zM ev lo) (ev h) (ev mx)then some ⟨.val RW,H,n,[],[]⟩else mkPure (VE P ev o) H n
  |none=>mkPure (VE P ev o) H n
def lV(P:Program)(ev:Operand->Option Value)(o:Oper)(fn:Fn)(first captured:Array Operand)(H:Qj)(n:Nat):Option CR:=match fn with
 | .func f=>match YJ ev first.toList,YJ ev captured.toList with
   |some xs,some ys=>some ⟨.val (.func (.func f) xs.toArray ys.toArray),H,n,[],[]⟩
   |_,_=>none
 |_=>mkPure (VE P ev o) H n
def qw(P:Program)(ev:Operand->Option Value)(o:Oper)(r:Option Operand)(H:Qj)(n:Nat):Option CR:=match r with
 |none=>some ⟨.val (.map (some n)),(n,.map #[] 0)::H,n+1,[],[]⟩
 |some _=>mkPure (VE P ev o) H n
def wU(P:Program)(t:TypeId)(ok:Bool)(x k:Option Value)(H:Qj)(n:Nat):Option CR:=match x,k with
 |some m,some kv=>match PZ P t H ok m kv with
  |some (v,R)=>some ⟨.val v,H,n,R,[]⟩
  |none=>none
 |_,_=>none
def gE(P:Program)(t:TypeId)(m k x:Option Value)(H:Qj)(n:Nat):Option CR:=match m,k,x with
 |some mv,some kv,some v=>match Uz P t H mv kv v with
  |some (H',b)=>some ⟨.val undef,H',n,[b],[b]⟩
  |none=>none
 |_,_,_=>none
def FU(P:Program)(ev:Operand->Option Value)(o:Oper)(op:BinOp)(x y:Option Value)(H:Qj)(n:Nat):Option CR:=match x,y with
 |some a,some b=>match w7 op a b with
  |some v=>some ⟨.val v,H,n,[],[]⟩
  |none=>mkPure (VE P ev o) H n
 |_,_=>none
def GY(x:Option Value)(H:Qj)(n:Nat):Option CR:=match x with
 |some (.pointer (some a))=>some ⟨.val (.pointer (some a)),H,n,[],[]⟩
 |some (.func (.func f) xs ys)=>some ⟨.val (.func (.func f) xs ys),H,n,[],[]⟩
 |some (.func (.yield f) xs ys)=>some ⟨.val (.func (.yield f) xs ys),H,n,[],[]⟩
 |_=>none
def Hc(F:FuncId->Bool)(f:Option Value)(args:Option (List Value))(H:Qj)(n:Nat):Option CR:=match f,args with
 |some fv,some args=>match Jj F H fv args.toArray with
  |some (nx,R)=>some ⟨nx,H,n,R,[]⟩
  |none=>none
 |_,_=>none
def DP(P:Program)(ev:Operand->Option Value)(c:Call)(H:Qj)(n:Nat):Option CR:=match c.args.toList,c.argTypes.toList with
 |[s,x],[t,t']=>match ev s,ev x with
  |some sv,some xv=>ub P t t' H n sv xv
  |_,_=>none
 |_,_=>none
def HL(P:Program)(ev:Operand->Option Value)(o:Oper)(c:Call)(H:Qj)(n:Nat):Option CR:=match c.args.toList,c.argTypes.toList with
 |[x],[t]=>match ev x,Yb P t with
  |some (.slice (some _) m _),some (.slice _)=>some ⟨.val (.int .i64 m),H,n,[],[]⟩
  |some (.chan (some 0)),some (.slice _)=>some ⟨.val (.int .i64 0),H,n,[],[]⟩
  |_,_=>mkPure (VE P ev o) H n
 |_,_=>none
def GZ(P:Program)(ev:Operand->Option Value)(c:Call)(H:Qj)(n:Nat):Option CR:=match c.args.toList,c.argTypes.toList with
 |[s,x],[t,_]=>match ev s,ev x with
  |some sv,some xv=>tZ P t H n sv xv
  |_,_=>none
 |_,_=>none
def AS(P:Program)(ev:Operand->Option Value)(o:Oper)(c:Call)(b:Builtin)(H:Qj)(n:Nat):Option CR:=match b with
 | .append=>DP P ev c H n
 | .len=>HL P ev o c H n
 | .copy=>GZ P ev c H n
 |_=>mkPure (VE P ev o) H n
def ay(P:Program)(F:FuncId->Bool)(ev:Operand->Option Value)(o:Oper)(c:Call)(H:Qj)(n:Nat):Option CR:=match c.callee with
 | .builtin b=>AS P ev o c b H n
 | .value f=>Hc F (ev f) (YJ ev c.args.toList) H n
 |_=>none
def EW(P:Program)(F:FuncId->Bool)(ev:Operand->Option Value)(o:Oper)(H:Qj)(n:Nat):Option CR:=
 match o.op with
 | .move x=>mkPure (ev x) H n
 | .assign x=>mkPure (ev x) H n
 | .pick c a b=>match ev c with
   |some (.bool t)=>mkPure (ev (bif t then a else b)) H n
   |_=>none
 | .alloc t=>AU P t H n
 | .box t x=>Hd t (ev x) H n
 | .build t ps=>AT P t (partsOf ev ps.toList) H n
 | .buildSlice t len ps=>de P t len (partsOf ev ps.toList) H n
 | .load t a=>AM P t (ev a) H n
 | .store t a x=>uL P t (ev a) (ev x) H n
 | .fieldAddr s x f=>TA P s f (ev x) H n
 | .field t x f=>uM P t f (ev x) H n
 | .indexAddr t x i=>T9 P t (ev x) (ev i) H n
 | .index t x i=>AO P ev o t (ev x) (ev i) H n
 | .extract x i=>gF i (ev x) H n
 | .makeSlice t l c=>Fm P t (ev l) (ev c) H n
 | .slice t x lo hi m=>wS P ev o t x lo hi m H n
 | .makeFunc fn first captured=>lV P ev o fn first captured H n
 | .makeMap _ r=>qw P ev o r H n
 | .lookup t x k ok=>wU P t ok (ev x) (ev k) H n
 | .mapUpdate t m k x=>gE P t (ev m) (ev k) (ev x) H n
 | .binOp op _ x y _=>FU P ev o op (ev x) (ev y) H n
 | .nilCheck x=>GY (ev x) H n
 | .call c=>ay P F ev o c H n
 |_=>mkPure (VE P ev o) H n
theorem EV(P:Program)(F:FuncId->Bool)(ev:Operand->Option Value)(o:Oper)(H:Qj)(n:Nat):EW P F ev o H n=oK P F ev o H n:=by
 unfold EW oK;cases o.op with
 |slice t x lo hi m=>cases m <;> cases hi <;> rfl
 |makeFunc fn a b=>cases fn <;> rfl
 |makeMap t r=>cases r <;> rfl
 |call c=>
  simp only[ay];cases c.callee with
  |builtin b=>cases b <;> rfl
  |value f=>rfl
  |invoke a b=>rfl
 |_=>rfl
def AQ(r:CR)(s:Rs):Option Rs:=match Kx r.H s with
 |s=>some ⟨s.out,s.H,s.n,r.R++s.R,r.W++s.W⟩
def FP(P:Program)(rec:CF->Qj->Nat->Option Rs)(g:FuncId)(args:Array Value)(r:CR):Option Rs:=match Z6 P g args with
 |some c=>match rec c r.H r.n with
  |some s=>AQ r s
  |none=>none
 |none=>none
def nh(P:Program)(Xc:Wl)(rec:CF->Qj->Nat->Option Rs)(g:FuncId)(args:Array Value)(r:CR):Option Rs:=match Xc g args r.H r.n with
 |some s=>some ⟨s.out,s.H,s.n,r.R++s.R,r.W++s.W⟩
 |none=>FP P rec g args r
def FN(rec:CF->Qj->Nat->Option Rs)(l:Nat)(fn:FuncId)(tm:Array Value)(a b:Code)(r:CR):Option Rs:=bif LC tm.size 16000 then match rec ⟨fn,ofList tm.size tm.toList,[.code a,.beginRound,.code b],[],.run,some l⟩ r.H r.n with
 |some s=>some ⟨s.out,s.H,s.n,r.R++s.R,r.W++s.W⟩
 |none=>none
 else none
def wT(P:Program)(Xc:Wl)(rec:CF->Qj->Nat->Option Rs)(r:CR):Option Rs:=match r.nx with
 | .val v=>some ⟨.ret v,r.H,r.n,r.R,r.W⟩
 | .enter g args=>nh P Xc rec g args r
 | .round l fn tm a b=>FN rec l fn tm a b r
def qR(P:Program)(Xc:Wl)(rec:CF->Qj->Nat->Option Rs)(n:Nat)(x:Option CR):Option Rs:=match x with
 |some r=>bif r.R.all (fun i=>Lk i n)then wT P Xc rec r else none
 |none=>none
def FQ(v:Option Value)(H:Qj)(n:Nat):Option Rs:=match v with
 |some (.iface t v)=>some ⟨.Zj (.iface t v),H,n,[],[]⟩
 |_=>none
def wN:Op->Nat
 | .defer _=>1
 | .panic _=>2
 |_=>0
def qV(v:Option Value)(H:Qj)(n:Nat):Option Rs:=match v with
 |some v=>some ⟨.ret v,H,n,[],[]⟩
 |none=>none
def pq(P:Program)(F:FuncId->Bool)(Xc:Wl)(rec:CF->Qj->Nat->Option Rs)(T:Tm)(o:Oper)(H:Qj)(n:Nat):Option Rs:=
 match o.op with
 | .move x=>qV (X8 T x) H n
 | .assign x=>qV (X8 T x) H n
 | .pick c a b=>match X8 T c with
   |some (.bool t)=>qV (X8 T (bif t then a else b)) H n
   |_=>none
 | .alloc t=>qR P Xc rec n (AU P t H n)
 | .box t x=>qR P Xc rec n (Hd t (X8 T x) H n)
 | .build t ps=>qR P Xc rec n (AT P t (partsOf (X8 T) ps.toList) H n)
 | .buildSlice t len ps=>qR P Xc rec n (de P t len (partsOf (X8 T) ps.toList) H n)
 | .load t a=>qR P Xc rec n (AM P t (X8 T a) H n)
 | .store t a x=>qR P Xc rec n (uL P t (X8 T a) (X8 T x) H n)
 | .fieldAddr s x f=>qR P Xc rec n (TA P s f (X8 T x) H n)
 | .field t x f=>qR P Xc rec n (uM P t f (X8 T x) H n)
 | .indexAddr t x i=>qR P Xc rec n (T9 P t (X8 T x) (X8 T i) H n)
 | .index t x i=>qR P Xc rec n (AO P (X8 T) o t (X8 T x) (X8 T i) H n)
 | .extract x i=>qR P Xc rec n (gF i (X8 T x) H n)
 | .makeSlice t l c=>qR P Xc rec n (Fm P t (X8 T l) (X8 T c) H n)
 | .slice t x lo hi m=>qR P Xc rec n (wS P (X8 T) o t x lo hi m H n)
 | .makeFunc fn first captured=>qR P Xc rec n (lV P (X8 T) o fn first captured H n)
 | .makeMap _ r=>qR P Xc rec n (qw P (X8 T) o r H n)
 | .lookup t x k ok=>qR P Xc rec n (wU P t ok (X8 T x) (X8 T k) H n)
 | .mapUpdate t m k x=>qR P Xc rec n (gE P t (X8 T m) (X8 T k) (X8 T x) H n)
 | .binOp op _ x y _=>qR P Xc rec n (FU P (X8 T) o op (X8 T x) (X8 T y) H n)
 | .nilCheck x=>qR P Xc rec n (GY (X8 T x) H n)
 | .call c=>qR P Xc rec n (ay P F (X8 T) o c H n)
 | .defer _=>none
 | .panic x=>FQ (X8 T x) H n
 |_=>qR P Xc rec n (mkPure (VE P (X8 T) o) H n)
theorem GX{P:Program}{F:FuncId->Bool}{Xc:Wl}{rec:CF->Qj->Nat->Option Rs}{T:Tm}{o:Oper}{H:Qj}{n:Nat}(h1:∀c,o.op≠.defer c)(h2:∀x,o.op≠.panic x):TL P F Xc rec T o H n=qR P Xc rec n (EW P F (X8 T) o H n):=by
 rw[EV];unfold TL;split
 ·rename_i c h;exact absurd h (h1 c)
 ·rename_i x h;exact absurd h (h2 x)
 ·unfold YI;cases oK P F (X8 T) o H n with
  |none=>rfl
  |some r=>
   simp only[qR];cases r.R.all (fun i=>Lk i n)with
   |false=>rfl
   |true=>
    simp only[cond_true,wT];cases r.nx <;> rfl
theorem YX{P:Program}{Xc:Wl}{rec:CF->Qj->Nat->Option Rs}{H:Qj}{n:Nat}(v:Option Value):qR P Xc rec n (mkPure v H n)=qV v H n:=by cases v <;> rfl
theorem Gq(P:Program)(F:FuncId->Bool)(Xc:Wl)(rec:CF->Qj->Nat->Option Rs)(T:Tm)(o:Oper)(H:Qj)(n:Nat):pq P F Xc rec T o H n=TL P F Xc rec T o H n:=by
 cases hs:wN o.op with
 |succ k=>
  unfold pq TL;generalize o.op=p at hs;cases p <;> first|(simp[wN]at hs;done)|rfl
 |zero=>
  rw[GX (by intro c h;rw[h]at hs;cases hs) (by intro c h;rw[h]at hs;cases hs)];unfold pq EW;generalize hp:o.op=p at hs;cases p with
  |move x=>exact(YX _).symm
  |assign x=>exact(YX _).symm
  |pick c a b=>
   simp only;split
   ·exact(YX _).symm
   ·rfl
  |defer c=>cases hs
  |panic c=>cases hs
  |_=>rfl
def Yv(P:Program)(F:FuncId->Bool)(Xc:Wl)(rec:CF->Qj->Nat->Option Rs)(ops:Array Oper):List Oper->Tm->Qj->Nat->Option (List Rec×RF)
 |[],T,H,n=>some ([],.ok T H n)
 |o::l,T,H,n=>
  bif YH T o.dst then
   bif Region.wanted o (Xw ops T)then
    match pq P F Xc rec T o H n with
    |some s=>match s.out with
     | .ret v=>match Yv P F Xc rec ops l (W6 T o.dst v) s.H s.n with
       |some (rs,fin)=>some (⟨o,true,v,T,H,s.H,n,s.n,s.R,s.W⟩::rs,fin)
       |none=>none
     | .Zj v=>some ([],.Zj T v s.H s.n s.R s.W)
    |none=>none
   else match Yv P F Xc rec ops l (W6 T o.dst undef) H n with
    |some (rs,fin)=>some (⟨o,false,undef,T,H,H,n,n,[],[]⟩::rs,fin)
    |none=>none
  else none
theorem pS(P:Program)(F:FuncId->Bool)(Xc:Wl)(rec:CF->Qj->Nat->Option Rs)(ops:Array Oper):∀(l:List Oper) (T:Tm) (H:Qj) (n:Nat),Yv P F Xc rec ops l T H n=bU P F Xc rec ops l T H n
 |[],_,_,_=>rfl
 |o::l,T,H,n=>by simp only[Yv,bU,Gq,pS P F Xc rec ops l];rfl
def AP(c:CF)(k:List Item)(H:Qj)(n:Nat):Option FS:=some (.go {c with todo:=k} H n [] [])
def FO(c:CF)(ops:Array Oper)(draw:Bool)(k:List Item):Option (List Rec×RF)->Option FS
 |some (Qq,.ok T' H' n')=>bif !draw || (Wj 0 ops.toList && indep ops 0 Qq (KZ ops.toList []))then some (.go {c with tmps:=T',todo:=k} H' n' (Kc Qq) (Vj Qq))else none
 |some (Qq,.Zj T' v H' n' R W)=>bif !draw || PJ ops Qq T' then some (.go {c with tmps:=T',mode:=.Zj v} H' n' (Kc Qq++R) (Vj Qq++W))else none
 |none=>none
def DO(c:CF)(k:List Item)(l:Nat)(ds R1 R2:List Nat):Option Rs->Option FS
 |some s=>match s.out with
  | .ret _=>some (.go {c with todo:=.endRangeFunc l::k,defers:=ds++c.defers} s.H s.n (R1++R2++s.R) s.W)
  | .Zj v=>some (.go {c with mode:=.Zj v,defers:=ds++c.defers} s.H s.n (R1++R2++s.R) s.W)
 |none=>none
def AL(P:Program)(F:FuncId->Bool)(rec:CF->Qj->Nat->Option Rs)(c:CF)(params:Array Tmp)(assign body:Code)(k:List Item)(H:Qj)(n:Nat):Option Value->Option FS
 |some fv=>match Ue c H n params assign body with
  |some (H1,l,ds,R1)=>match Jj F H1 fv #[.func (.yield l) #[] #[]]with
   |some (.enter g args,R2)=>match Z6 P g args with
    |some c1=>DO c k l ds R1 R2 (rec c1 H1 (l+1))
    |none=>none
   |_=>none
  |none=>none
 |none=>none
def Ha(c:CF)(a b:Code)(k:List Item)(H:Qj)(n:Nat):Option Value->Option FS
 |some (.bool t)=>AP c (.code (bif t then a else b)::k) H n
 |_=>none
def AN(c:CF)(H:Qj)(n:Nat)(j:Code):Option (List Item)->Option FS
 |some k'=>AP c k' H n
 |none=>Jp c H n (some j)
def dd(P:Program)(F:FuncId->Bool)(Xc:Wl)(rec:CF->Qj->Nat->Option Rs)(c:CF)(k:List Item)(H:Qj)(n:Nat):Code->Option FS
 | .ret=>Jp c H n (some .ret)
 | .skip=>AP c k H n
 | .label _=>AP c k H n
 | .seq a b=>AP c (.code a::.code b::k) H n
 | .cond x a b=>Ha c a b k H n (X8 c.tmps x)
 | .block id b=>AP c (.code b::.inBlock id::k) H n
 | .loop b=>AP c (.code b::.inLoop b::k) H n
 | .scope b=>AP c (.code b::.inScope b::k) H n
 | .exit id=>AN c H n (.exit id) (exitTo id k)
 | .goto l=>AN c H n (.goto l) (gotoIn l k)
 | .region _ ops draw=>FO c ops draw k (Yv P F Xc rec ops ops.toList c.tmps H n)
 | .rangeFunc f params assign body=>AL P F rec c params assign body k H n (X8 c.tmps f)
 |_=>none
def FT(c:CF)(l:Nat)(k:List Item)(H:Qj)(n:Nat):Option FS:=match Qo H l with
 |some (.loop r)=>bif !(decide (r.state=.busy))then some (.go {c with todo:=(r.pending.map Item.code).toList++k} (WK H l (.loop {r with state:=.exhausted})) n [l] [l])else none
 |_=>none
def FV(c:CF)(k:List Item)(H:Qj)(n:Nat):Option FS:=match c.roundOf with
 |some l=>match Qo H l with
  |some (.loop r)=>bif decide (r.state=.ready)then some (.go {c with todo:=k} (WK H l (.loop {r with state:=.busy})) n [l] [l])else none
  |_=>none
 |none=>none
def dc(P:Program)(F:FuncId->Bool)(Xc:Wl)(rec:CF->Qj->Nat->Option Rs)(c:CF)(k:List Item)(H:Qj)(n:Nat):Item->Option FS
 | .code cd=>dd P F Xc rec c k H n cd
 | .inBlock _=>AP c k H n
 | .inScope _=>AP c k H n
 | .inLoop b=>AP c (.code b::.inLoop b::k) H n
 | .endRangeFunc l=>FT c l k H n
 | .beginRound=>FV c k H n
 |_=>none
def HM(P:Program)(c:CF)(H:Qj)(n:Nat):Option FS:=match c.defers with
 |d::ds=>match Qo H d with
  |some (.deferred (some []))=>some (.go {c with defers:=ds} (WK H d (.deferred none)) n [d] [d])
  |_=>none
 |[]=>match c.mode with
  | .Zj v=>bif EE P c.fn then some (.done (.Zj v) H n [] [])else none
  |_=>match c.roundOf,ga P c.fn H c.tmps with
   |none,some (v,R)=>some (.done (.ret v) H n R [])
   |_,_=>none
def cC(P:Program)(F:FuncId->Bool)(Xc:Wl)(rec:CF->Qj->Nat->Option Rs)(c:CF)(H:Qj)(n:Nat):Option FS:=
 match c.mode with
 | .run=>match c.todo with
   |[]=>Jp c H n none
   |it::k=>dc P F Xc rec c k H n it
 |_=>HM P c H n
theorem z5(P:Program)(F:FuncId->Bool)(Xc:Wl)(rec:CF->Qj->Nat->Option Rs)(c:CF)(H:Qj)(n:Nat):cC P F Xc rec c H n=Je P F Xc rec c H n:=by
 obtain⟨fn,tmps,todo,defers,mode,ro⟩:=c;unfold cC Je;cases mode with
 |run=>
  cases todo with
  |nil=>rfl
  |cons it k=>
   cases it with
   |code cd=>
    cases cd with
    |region id ops draw=>
     simp only[dc,dd,pS];cases bU P F Xc rec ops ops.toList tmps H n with
     |none=>rfl
     |some x=>
      obtain⟨Qq,fin⟩:=x;cases fin <;> rfl
    |rangeFunc f ps assign body=>
     simp only[dc,dd,AL];cases X8 tmps f with
     |none=>rfl
     |some fv=>
      simp only;cases Ue ⟨fn,tmps,.code (.rangeFunc f ps assign body)::k,defers,.run,ro⟩ H n ps assign body with
      |none=>rfl
      |some x=>
       obtain⟨H1,l,ds,R1⟩:=x;simp only;cases Jj F H1 fv #[.func (.yield l) #[] #[]]with
       |none=>rfl
       |some y=>
        obtain⟨nx,R2⟩:=y;cases nx with
        |enter g args=>
         simp only;cases Z6 P g args with
         |none=>rfl
         |some c1=>
          simp only;cases rec c1 H1 (l+1)with
          |none=>rfl
          |some s=>obtain⟨o,_,_,_,_⟩:=s;cases o <;> rfl
        |_=>rfl
    |cond x a b=>
     simp only[dc,dd];cases X8 tmps x with
     |none=>rfl
     |some v=>cases v <;> rfl
    |exit id=>simp only[dc,dd];cases exitTo id k <;> rfl
    |goto id=>simp only[dc,dd];cases gotoIn id k <;> rfl
    |_=>rfl
   |_=>rfl
 |ret=>rfl
 |Zj v=>rfl
def KQ(P:Program)(F:FuncId->Bool)(Xc:Wl):Nat->Nat->CF->Qj->Nat->List Nat->List Nat->Option Rs
 |0,_,_,_,_,_,_=>none
 |fuel+1,b,c,H,n,R,W=>
  match cC P F Xc (fun c1 H1 n1=>KQ P F Xc fuel n1 c1 H1 n1 [] []) c H n with
  |some (.go c' H' n' R' W')=>KQ P F Xc fuel b c' H' n' (Zt b R' R) (Zt b W' W)
  |some (.done out H' n' R' W')=>some ⟨out,H',n',Zt b R' R,Zt b W' W⟩
  |none=>none
theorem kE(P:Program)(F:FuncId->Bool)(Xc:Wl):∀(fuel b:Nat) (c:CF) (H:Qj) (n:Nat) (R W:List Nat),KQ P F Xc fuel b c H n R W=l8 P F Xc fuel b c H n R W
 |0,_,_,_,_,_,_=>rfl
 |fuel+1,b,c,H,n,R,W=>by
  simp only[KQ,l8,z5,kE P F Xc fuel];rfl
end Go.CE
