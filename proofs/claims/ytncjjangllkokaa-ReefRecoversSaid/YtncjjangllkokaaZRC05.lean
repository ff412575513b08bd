/- CE: the canonical machine again, its cases in small pieces: the kernel evaluates it quicker. -/
import Derived.Test.YtncjjangllkokaaZRC04
set_option linter.all false
open Nat renaming ble->Nr,blt->MY
namespace Go.CE
open Go Go.RowKit

def Ed(P:Program)(t:TypeId)(H:Qm)(n:Nat):Option CR:=match zeroOf P t with
 |some z=>bif af z then some ⟨.val (yW n),(n,.cells z.cells t (0,0))::H,n+1,[],[]⟩else none
 |none=>none
def LM(t:TypeId)(x:Option Value)(H:Qm)(n:Nat):Option CR:=match x with
 |some v=>some ⟨.val (yW n),(n,.cells v.cells t (0,0))::H,n+1,[],[]⟩
 |none=>none
def Ec(P:Program)(t:TypeId)(l:Option (List (Nat×Value)))(H:Qm)(n:Nat):Option CR:=match l with
 |some l=>mkPure (tf P t l) H n
 |none=>none
def gu(P:Program)(t:TypeId)(len:Nat)(l:Option (List (Nat×Value)))(H:Qm)(n:Nat):Option CR:=match l with
 |some l=>match P9 P t len l with
  |some (e,cs,s)=>some ⟨.val (.slice (some ⟨n,0,none⟩) len s),(n,.cells cs e (0,0))::H,n+1,[],[]⟩
  |none=>bif ju P t len l then some ⟨.val TM,H,n,[],[]⟩else none
 |none=>none
def DW(P:Program)(t:TypeId)(a:Option Value)(H:Qm)(n:Nat):Option CR:=match a with
 |some p=>match Sj P t H p with
  |some (v,b)=>some ⟨.val v,H,n,[b],[]⟩
  |none=>none
 |none=>none
def yo(P:Program)(t:TypeId)(a x:Option Value)(H:Qm)(n:Nat):Option CR:=match a,x with
 |some p,some v=>match PT P t H v p with
  |some (H',b)=>some ⟨.val undef,H',n,[b],[b]⟩
  |none=>none
 |_,_=>none
def bB(P:Program)(s:TypeId)(f:Nat)(x:Option Value)(H:Qm)(n:Nat):Option CR:=match x with
 |some p=>mkPure (Wz P s f p) H n
 |none=>none
def yp(P:Program)(s:TypeId)(f:Nat)(x:Option Value)(H:Qm)(n:Nat):Option CR:=match x with
 |some p=>mkPure (fW P s f p) H n
 |none=>none
def bA(P:Program)(t:TypeId)(x i:Option Value)(H:Qm)(n:Nat):Option CR:=match x,i with
 |some v,some k=>mkPure (Ye P t v k) H n
 |_,_=>none
def DY(P:Program)(ev:Operand->Option Value)(o:Oper)(t:TypeId)(x i:Option Value)(H:Qm)(n:Nat):Option CR:=match x,i with
 |some (.agg cs),some k=>mkPure (sZ P t (.agg cs) k) H n
 |_,_=>mkPure (Uz P ev o) H n
def kJ(i:Nat)(x:Option Value)(H:Qm)(n:Nat):Option CR:=match x with
 |some v=>mkPure (Sk i v) H n
 |none=>none
def Ig(P:Program)(t:TypeId)(l c:Option Value)(H:Qm)(n:Nat):Option CR:=match l,c with
 |some x,some y=>match Si P t x y with
  |some (e,cs,l,s)=>some ⟨.val (.slice (some ⟨n,0,none⟩) l s),(n,.cells cs e (0,0))::H,n+1,[],[]⟩
  |none=>none
 |_,_=>none
def IE(P:Program)(ev:Operand->Option Value)(o:Oper)(t:TypeId)(x:Option Value)(lo hi:Option (Option Value))(H:Qm)(n:Nat):Option CR:=match x,lo,hi with
 |some (.slice (some a) m s),some l,some h=>mkPure (ae P t (.slice (some a) m s) l h) H n
 |some (.pointer p),some l,some h=>mkPure (ae P t (.pointer p) l h) H n
 |_,_,_=>mkPure (Uz P ev o) H n
def Ad(P:Program)(ev:Operand->Option Value)(o:Oper)(t:TypeId)(x:Operand)(lo hi m:Option Operand)(H:Qm)(n:Nat):Option CR:=match m with
 |none=>IE P ev o t (ev x) (CP ev lo) (CP ev hi) H n
 |some mx=>match hi with
  |some h=>bif ba P t (ev x) (CP ev lo) (ev h) (ev mx)then some ⟨.val TM,H,n,[],[]⟩else mkPure (Uz P ev o) H n
  |none=>mkPure (Uz P ev o) H n
def pM(P:Program)(ev:Operand->Option Value)(o:Oper)(fn:Fn)(first captured:Array Operand)(H:Qm)(n:Nat):Option CR:=match fn with
 | .func f=>match Pa ev first.toList,Pa ev captured.toList with
   |some xs,some ys=>some ⟨.val (.func (.func f) xs.toArray ys.toArray),H,n,[],[]⟩
   |_,_=>none
 |_=>mkPure (Uz P ev o) H n
def uF(P:Program)(ev:Operand->Option Value)(o:Oper)(r:Option Operand)(H:Qm)(n:Nat):Option CR:=match r with
 |none=>some ⟨.val (.map (some n)),(n,.map #[] 0)::H,n+1,[],[]⟩
 |some _=>mkPure (Uz P ev o) H n
def Af(P:Program)(t:TypeId)(ok:Bool)(x k:Option Value)(H:Qm)(n:Nat):Option CR:=match x,k with
 |some m,some kv=>match SW P t H ok m kv with
  |some (v,R)=>some ⟨.val v,H,n,R,[]⟩
  |none=>none
 |_,_=>none
def kI(P:Program)(t:TypeId)(m k x:Option Value)(H:Qm)(n:Nat):Option CR:=match m,k,x with
 |some mv,some kv,some v=>match Kr P t H mv kv v with
  |some (H',b)=>some ⟨.val undef,H',n,[b],[b]⟩
  |none=>none
 |_,_,_=>none
def IK(P:Program)(ev:Operand->Option Value)(o:Oper)(op:BinOp)(x y:Option Value)(H:Qm)(n:Nat):Option CR:=match x,y with
 |some a,some b=>match zK op a b with
  |some v=>some ⟨.val v,H,n,[],[]⟩
  |none=>mkPure (Uz P ev o) H n
 |_,_=>none
def LI(x:Option Value)(H:Qm)(n:Nat):Option CR:=match x with
 |some (.pointer (some a))=>some ⟨.val (.pointer (some a)),H,n,[],[]⟩
 |some (.func (.func f) xs ys)=>some ⟨.val (.func (.func f) xs ys),H,n,[],[]⟩
 |some (.func (.yield f) xs ys)=>some ⟨.val (.func (.yield f) xs ys),H,n,[],[]⟩
 |_=>none
def LL(F:FuncId->Bool)(f:Option Value)(args:Option (List Value))(H:Qm)(n:Nat):Option CR:=match f,args with
 |some fv,some args=>match P8 F H fv args.toArray with
  |some (nx,R)=>some ⟨nx,H,n,R,[]⟩
  |none=>none
 |_,_=>none
def GH(P:Program)(ev:Operand->Option Value)(c:Call)(H:Qm)(n:Nat):Option CR:=match c.args.toList,c.argTypes.toList with
 |[s,x],[t,t']=>match ev s,ev x with
  |some sv,some xv=>xG P t t' H n sv xv
  |_,_=>none
 |_,_=>none
def Mz(P:Program)(ev:Operand->Option Value)(o:Oper)(c:Call)(H:Qm)(n:Nat):Option CR:=match c.args.toList,c.argTypes.toList with
 |[x],[t]=>match ev x,J4 P t with
  |some (.slice (some _) m _),some (.slice _)=>some ⟨.val (.int .i64 m),H,n,[],[]⟩
  |some (.chan (some 0)),some (.slice _)=>some ⟨.val (.int .i64 0),H,n,[],[]⟩
  |_,_=>mkPure (Uz P ev o) H n
 |_,_=>none
def LJ(P:Program)(ev:Operand->Option Value)(c:Call)(H:Qm)(n:Nat):Option CR:=match c.args.toList,c.argTypes.toList with
 |[s,x],[t,_]=>match ev s,ev x with
  |some sv,some xv=>xE P t H n sv xv
  |_,_=>none
 |_,_=>none
def Eb(P:Program)(ev:Operand->Option Value)(o:Oper)(c:Call)(b:Builtin)(H:Qm)(n:Nat):Option CR:=match b with
 | .append=>GH P ev c H n
 | .len=>Mz P ev o c H n
 | .copy=>LJ P ev c H n
 |_=>mkPure (Uz P ev o) H n
def cL(P:Program)(F:FuncId->Bool)(ev:Operand->Option Value)(o:Oper)(c:Call)(H:Qm)(n:Nat):Option CR:=match c.callee with
 | .builtin b=>Eb P ev o c b H n
 | .value f=>LL F (ev f) (Pa ev c.args.toList) H n
 |_=>none
def HN(P:Program)(F:FuncId->Bool)(ev:Operand->Option Value)(o:Oper)(H:Qm)(n:Nat):Option CR:=
 match o.op with
 | .move x=>mkPure (ev x) H n
 | .assign x=>mkPure (ev x) H n
 | .pick c a b=>match ev c with
   |some (.bool t)=>mkPure (ev (bif t then a else b)) H n
   |_=>none
 | .alloc t=>Ed P t H n
 | .box t x=>LM t (ev x) H n
 | .build t ps=>Ec P t (partsOf ev ps.toList) H n
 | .buildSlice t len ps=>gu P t len (partsOf ev ps.toList) H n
 | .load t a=>DW P t (ev a) H n
 | .store t a x=>yo P t (ev a) (ev x) H n
 | .fieldAddr s x f=>bB P s f (ev x) H n
 | .field t x f=>yp P t f (ev x) H n
 | .indexAddr t x i=>bA P t (ev x) (ev i) H n
 | .index t x i=>DY P ev o t (ev x) (ev i) H n
 | .extract x i=>kJ i (ev x) H n
 | .makeSlice t l c=>Ig P t (ev l) (ev c) H n
 | .slice t x lo hi m=>Ad P ev o t x lo hi m H n
 | .makeFunc fn first captured=>pM P ev o fn first captured H n
 | .makeMap _ r=>uF P ev o r H n
 | .lookup t x k ok=>Af P t ok (ev x) (ev k) H n
 | .mapUpdate t m k x=>kI P t (ev m) (ev k) (ev x) H n
 | .binOp op _ x y _=>IK P ev o op (ev x) (ev y) H n
 | .nilCheck x=>LI (ev x) H n
 | .call c=>cL P F ev o c H n
 |_=>mkPure (Uz P ev o) H n
theorem HM(P:Program)(F:FuncId->Bool)(ev:Operand->Option Value)(o:Oper)(H:Qm)(n:Nat):HN P F ev o H n=sR P F ev o H n:=by
 unfold HN sR;cases o.op with
 |slice t x lo hi m=>cases m <;> cases hi <;> rfl
 |makeFunc fn a b=>cases fn <;> rfl
 |makeMap t r=>cases r <;> rfl
 |call c=>
  simp only[cL];cases c.callee with
  |builtin b=>cases b <;> rfl
  |value f=>rfl
  |invoke a b=>rfl
 |_=>rfl
def Ea(r:CR)(s:Rs):Option Rs:=match Yi r.H s with
 |s=>some ⟨s.out,s.H,s.n,r.R++s.R,r.W++s.W⟩
def IH(P:Program)(rec:CF->Qm->Nat->Option Rs)(g:FuncId)(args:Array Value)(r:CR):Option Rs:=match Wt P g args with
 |some c=>match rec c r.H r.n with
  |some s=>Ea r s
  |none=>none
 |none=>none
def r7(P:Program)(X5:Vg)(rec:CF->Qm->Nat->Option Rs)(g:FuncId)(args:Array Value)(r:CR):Option Rs:=match X5 g args r.H r.n with
 |some s=>some ⟨s.out,s.H,s.n,r.R++s.R,r.W++s.W⟩
 |none=>IH P rec g args r
def IF(rec:CF->Qm->Nat->Option Rs)(l:Nat)(fn:FuncId)(tm:Array Value)(a b:Code)(r:CR):Option Rs:=bif Nr tm.size 16000 then match rec ⟨fn,ofList tm.size tm.toList,[.code a,.beginRound,.code b],[],.run,some l⟩ r.H r.n with
 |some s=>some ⟨s.out,s.H,s.n,r.R++s.R,r.W++s.W⟩
 |none=>none
 else none
def Ae(P:Program)(X5:Vg)(rec:CF->Qm->Nat->Option Rs)(r:CR):Option Rs:=match r.nx with
 | .val v=>some ⟨.ret v,r.H,r.n,r.R,r.W⟩
 | .enter g args=>r7 P X5 rec g args r
 | .round l fn tm a b=>IF rec l fn tm a b r
def qR(P:Program)(X5:Vg)(rec:CF->Qm->Nat->Option Rs)(n:Nat)(x:Option CR):Option Rs:=match x with
 |some r=>bif r.R.all (fun i=>MY i n)then Ae P X5 rec r else none
 |none=>none
def II(v:Option Value)(H:Qm)(n:Nat):Option Rs:=match v with
 |some (.iface t v)=>some ⟨.ZG (.iface t v),H,n,[],[]⟩
 |_=>none
def zY:Op->Nat
 | .defer _=>1
 | .panic _=>2
 |_=>0
def qV(v:Option Value)(H:Qm)(n:Nat):Option Rs:=match v with
 |some v=>some ⟨.ret v,H,n,[],[]⟩
 |none=>none
def tA(P:Program)(F:FuncId->Bool)(X5:Vg)(rec:CF->Qm->Nat->Option Rs)(T:Tm)(o:Oper)(H:Qm)(n:Nat):Option Rs:=
 match o.op with
 | .move x=>qV (Zi T x) H n
 | .assign x=>qV (Zi T x) H n
 | .pick c a b=>match Zi T c with
   |some (.bool t)=>qV (Zi T (bif t then a else b)) H n
   |_=>none
 | .alloc t=>qR P X5 rec n (Ed P t H n)
 | .box t x=>qR P X5 rec n (LM t (Zi T x) H n)
 | .build t ps=>qR P X5 rec n (Ec P t (partsOf (Zi T) ps.toList) H n)
 | .buildSlice t len ps=>qR P X5 rec n (gu P t len (partsOf (Zi T) ps.toList) H n)
 | .load t a=>qR P X5 rec n (DW P t (Zi T a) H n)
 | .store t a x=>qR P X5 rec n (yo P t (Zi T a) (Zi T x) H n)
 | .fieldAddr s x f=>qR P X5 rec n (bB P s f (Zi T x) H n)
 | .field t x f=>qR P X5 rec n (yp P t f (Zi T x) H n)
 | .indexAddr t x i=>qR P X5 rec n (bA P t (Zi T x) (Zi T i) H n)
 | .index t x i=>qR P X5 rec n (DY P (Zi T) o t (Zi T x) (Zi T i) H n)
 | .extract x i=>qR P X5 rec n (kJ i (Zi T x) H n)
 | .makeSlice t l c=>qR P X5 rec n (Ig P t (Zi T l) (Zi T c) H n)
 | .slice t x lo hi m=>qR P X5 rec n (Ad P (Zi T) o t x lo hi m H n)
 | .makeFunc fn first captured=>qR P X5 rec n (pM P (Zi T) o fn first captured H n)
 | .makeMap _ r=>qR P X5 rec n (uF P (Zi T) o r H n)
 | .lookup t x k ok=>qR P X5 rec n (Af P t ok (Zi T x) (Zi T k) H n)
 | .mapUpdate t m k x=>qR P X5 rec n (kI P t (Zi T m) (Zi T k) (Zi T x) H n)
 | .binOp op _ x y _=>qR P X5 rec n (IK P (Zi T) o op (Zi T x) (Zi T y) H n)
 | .nilCheck x=>qR P X5 rec n (LI (Zi T x) H n)
 | .call c=>qR P X5 rec n (cL P F (Zi T) o c H n)
 | .defer _=>none
 | .panic x=>II (Zi T x) H n
 |_=>qR P X5 rec n (mkPure (Uz P (Zi T) o) H n)
theorem LH{P:Program}{F:FuncId->Bool}{X5:Vg}{rec:CF->Qm->Nat->Option Rs}{T:Tm}{o:Oper}{H:Qm}{n:Nat}(h1:∀c,o.op≠.defer c)(h2:∀x,o.op≠.panic x):bh P F X5 rec T o H n=qR P X5 rec n (HN P F (Zi T) o H n):=by
 rw[HM];unfold bh;split
 ·rename_i c h;exact absurd h (h1 c)
 ·rename_i x h;exact absurd h (h2 x)
 ·unfold Pj;cases sR P F (Zi T) o H n with
  |none=>rfl
  |some r=>
   simp only[qR];cases r.R.all (fun i=>MY i n)with
   |false=>rfl
   |true=>
    simp only[cond_true,Ae];cases r.nx <;> rfl
theorem Pp{P:Program}{X5:Vg}{rec:CF->Qm->Nat->Option Rs}{H:Qm}{n:Nat}(v:Option Value):qR P X5 rec n (mkPure v H n)=qV v H n:=by cases v <;> rfl
theorem IZ(P:Program)(F:FuncId->Bool)(X5:Vg)(rec:CF->Qm->Nat->Option Rs)(T:Tm)(o:Oper)(H:Qm)(n:Nat):tA P F X5 rec T o H n=bh P F X5 rec T o H n:=by
 cases hs:zY o.op with
 |succ k=>
  unfold tA bh;generalize o.op=p at hs;cases p <;> first|(simp[zY]at hs;done)|rfl
 |zero=>
  rw[LH (by intro c h;rw[h]at hs;cases hs) (by intro c h;rw[h]at hs;cases hs)];unfold tA HN;generalize hp:o.op=p at hs;cases p with
  |move x=>exact(Pp _).symm
  |assign x=>exact(Pp _).symm
  |pick c a b=>
   simp only;split
   ·exact(Pp _).symm
   ·rfl
  |defer c=>cases hs
  |panic c=>cases hs
  |_=>rfl
def JA(P:Program)(F:FuncId->Bool)(X5:Vg)(rec:CF->Qm->Nat->Option Rs)(ops:Array Oper):List Oper->Tm->Qm->Nat->Option (List Rec×RF)
 |[],T,H,n=>some ([],.ok T H n)
 |o::l,T,H,n=>
  bif JY T o.dst then
   bif Region.wanted o (XT ops T)then
    match tA P F X5 rec T o H n with
    |some s=>match s.out with
     | .ret v=>match JA P F X5 rec ops l (V1 T o.dst v) s.H s.n with
       |some (rs,fin)=>some (⟨o,true,v,T,H,s.H,n,s.n,s.R,s.W⟩::rs,fin)
       |none=>none
     | .ZG v=>some ([],.ZG T v s.H s.n s.R s.W)
    |none=>none
   else match JA P F X5 rec ops l (V1 T o.dst undef) H n with
    |some (rs,fin)=>some (⟨o,false,undef,T,H,H,n,n,[],[]⟩::rs,fin)
    |none=>none
  else none
theorem tU(P:Program)(F:FuncId->Bool)(X5:Vg)(rec:CF->Qm->Nat->Option Rs)(ops:Array Oper):∀(l:List Oper) (T:Tm) (H:Qm) (n:Nat),JA P F X5 rec ops l T H n=eH P F X5 rec ops l T H n
 |[],_,_,_=>rfl
 |o::l,T,H,n=>by simp only[JA,eH,IZ,tU P F X5 rec ops l];rfl
def DZ(c:CF)(k:List Item)(H:Qm)(n:Nat):Option FS:=some (.go {c with todo:=k} H n [] [])
def IG(c:CF)(ops:Array Oper)(draw:Bool)(k:List Item):Option (List Rec×RF)->Option FS
 |some (Qx,.ok T' H' n')=>bif !draw || (Vf 0 ops.toList && indep ops 0 Qx (Jf ops.toList []))then some (.go {c with tmps:=T',todo:=k} H' n' (KI Qx) (Ui Qx))else none
 |some (Qx,.ZG T' v H' n' R W)=>bif !draw || SH ops Qx T' then some (.go {c with tmps:=T',mode:=.ZG v} H' n' (KI Qx++R) (Ui Qx++W))else none
 |none=>none
def GG(c:CF)(k:List Item)(l:Nat)(ds R1 R2:List Nat):Option Rs->Option FS
 |some s=>match s.out with
  | .ret _=>some (.go {c with todo:=.endRangeFunc l::k,defers:=ds++c.defers} s.H s.n (R1++R2++s.R) s.W)
  | .ZG v=>some (.go {c with mode:=.ZG v,defers:=ds++c.defers} s.H s.n (R1++R2++s.R) s.W)
 |none=>none
def DV(P:Program)(F:FuncId->Bool)(rec:CF->Qm->Nat->Option Rs)(c:CF)(params:Array Tmp)(assign body:Code)(k:List Item)(H:Qm)(n:Nat):Option Value->Option FS
 |some fv=>match US c H n params assign body with
  |some (H1,l,ds,R1)=>match P8 F H1 fv #[.func (.yield l) #[] #[]]with
   |some (.enter g args,R2)=>match Wt P g args with
    |some c1=>GG c k l ds R1 R2 (rec c1 H1 (l+1))
    |none=>none
   |_=>none
  |none=>none
 |none=>none
def LK(c:CF)(a b:Code)(k:List Item)(H:Qm)(n:Nat):Option Value->Option FS
 |some (.bool t)=>DZ c (.code (bif t then a else b)::k) H n
 |_=>none
def DX(c:CF)(H:Qm)(n:Nat)(j:Code):Option (List Item)->Option FS
 |some k'=>DZ c k' H n
 |none=>PL c H n (some j)
def gq(P:Program)(F:FuncId->Bool)(X5:Vg)(rec:CF->Qm->Nat->Option Rs)(c:CF)(k:List Item)(H:Qm)(n:Nat):Code->Option FS
 | .ret=>PL c H n (some .ret)
 | .skip=>DZ c k H n
 | .label _=>DZ c k H n
 | .seq a b=>DZ c (.code a::.code b::k) H n
 | .cond x a b=>LK c a b k H n (Zi c.tmps x)
 | .block id b=>DZ c (.code b::.inBlock id::k) H n
 | .loop b=>DZ c (.code b::.inLoop b::k) H n
 | .scope b=>DZ c (.code b::.inScope b::k) H n
 | .exit id=>DX c H n (.exit id) (exitTo id k)
 | .goto l=>DX c H n (.goto l) (gotoIn l k)
 | .region _ ops draw=>IG c ops draw k (JA P F X5 rec ops ops.toList c.tmps H n)
 | .rangeFunc f params assign body=>DV P F rec c params assign body k H n (Zi c.tmps f)
 |_=>none
def IJ(c:CF)(l:Nat)(k:List Item)(H:Qm)(n:Nat):Option FS:=match Qs H l with
 |some (.loop r)=>bif !(decide (r.state=.busy))then some (.go {c with todo:=(r.pending.map Item.code).toList++k} (VE H l (.loop {r with state:=.exhausted})) n [l] [l])else none
 |_=>none
def IL(c:CF)(k:List Item)(H:Qm)(n:Nat):Option FS:=match c.roundOf with
 |some l=>match Qs H l with
  |some (.loop r)=>bif decide (r.state=.ready)then some (.go {c with todo:=k} (VE H l (.loop {r with state:=.busy})) n [l] [l])else none
  |_=>none
 |none=>none
def gp(P:Program)(F:FuncId->Bool)(X5:Vg)(rec:CF->Qm->Nat->Option Rs)(c:CF)(k:List Item)(H:Qm)(n:Nat):Item->Option FS
 | .code cd=>gq P F X5 rec c k H n cd
 | .inBlock _=>DZ c k H n
 | .inScope _=>DZ c k H n
 | .inLoop b=>DZ c (.code b::.inLoop b::k) H n
 | .endRangeFunc l=>IJ c l k H n
 | .beginRound=>IL c k H n
 |_=>none
def M0(P:Program)(c:CF)(H:Qm)(n:Nat):Option FS:=match c.defers with
 |d::ds=>match Qs H d with
  |some (.deferred (some []))=>some (.go {c with defers:=ds} (VE H d (.deferred none)) n [d] [d])
  |_=>none
 |[]=>match c.mode with
  | .ZG v=>bif H6 P c.fn then some (.done (.ZG v) H n [] [])else none
  |_=>match c.roundOf,kf P c.fn H c.tmps with
   |none,some (v,R)=>some (.done (.ret v) H n R [])
   |_,_=>none
def fP(P:Program)(F:FuncId->Bool)(X5:Vg)(rec:CF->Qm->Nat->Option Rs)(c:CF)(H:Qm)(n:Nat):Option FS:=
 match c.mode with
 | .run=>match c.todo with
   |[]=>PL c H n none
   |it::k=>gp P F X5 rec c k H n it
 |_=>M0 P c H n
theorem C3(P:Program)(F:FuncId->Bool)(X5:Vg)(rec:CF->Qm->Nat->Option Rs)(c:CF)(H:Qm)(n:Nat):fP P F X5 rec c H n=P6 P F X5 rec c H n:=by
 obtain⟨fn,tmps,todo,defers,mode,ro⟩:=c;unfold fP P6;cases mode with
 |run=>
  cases todo with
  |nil=>rfl
  |cons it k=>
   cases it with
   |code cd=>
    cases cd with
    |region id ops draw=>
     simp only[gp,gq,tU];cases eH P F X5 rec ops ops.toList tmps H n with
     |none=>rfl
     |some x=>
      obtain⟨Qx,fin⟩:=x;cases fin <;> rfl
    |rangeFunc f ps assign body=>
     simp only[gp,gq,DV];cases Zi tmps f with
     |none=>rfl
     |some fv=>
      simp only;cases US ⟨fn,tmps,.code (.rangeFunc f ps assign body)::k,defers,.run,ro⟩ H n ps assign body with
      |none=>rfl
      |some x=>
       obtain⟨H1,l,ds,R1⟩:=x;simp only;cases P8 F H1 fv #[.func (.yield l) #[] #[]]with
       |none=>rfl
       |some y=>
        obtain⟨nx,R2⟩:=y;cases nx with
        |enter g args=>
         simp only;cases Wt P g args with
         |none=>rfl
         |some c1=>
          simp only;cases rec c1 H1 (l+1)with
          |none=>rfl
          |some s=>obtain⟨o,_,_,_,_⟩:=s;cases o <;> rfl
        |_=>rfl
    |cond x a b=>
     simp only[gp,gq];cases Zi tmps x with
     |none=>rfl
     |some v=>cases v <;> rfl
    |exit id=>simp only[gp,gq];cases exitTo id k <;> rfl
    |goto id=>simp only[gp,gq];cases gotoIn id k <;> rfl
    |_=>rfl
   |_=>rfl
 |ret=>rfl
 |ZG v=>rfl
def YQ(P:Program)(F:FuncId->Bool)(X5:Vg):Nat->Nat->CF->Qm->Nat->List Nat->List Nat->Option Rs
 |0,_,_,_,_,_,_=>none
 |fuel+1,b,c,H,n,R,W=>
  match fP P F X5 (fun c1 H1 n1=>YQ P F X5 fuel n1 c1 H1 n1 [] []) c H n with
  |some (.go c' H' n' R' W')=>YQ P F X5 fuel b c' H' n' (Wc b R' R) (Wc b W' W)
  |some (.done out H' n' R' W')=>some ⟨out,H',n',Wc b R' R,Wc b W' W⟩
  |none=>none
theorem nJ(P:Program)(F:FuncId->Bool)(X5:Vg):∀(fuel b:Nat) (c:CF) (H:Qm) (n:Nat) (R W:List Nat),YQ P F X5 fuel b c H n R W=oT P F X5 fuel b c H n R W
 |0,_,_,_,_,_,_=>rfl
 |fuel+1,b,c,H,n,R,W=>by
  simp only[YQ,oT,C3,nJ P F X5 fuel];rfl
end Go.CE
