/- CE: the canonical machine again, its cases in small pieces: the kernel evaluates it quicker. -/
import Derived.Test.YtncjjangllkokaaZRS04
set_option linter.all false
open Nat renaming ble->LO,blt->Ls
namespace Go.CE
open Go Go.RowKit

def Cn(P:Program)(t:TypeId)(H:Qr)(n:Nat):Option CR:=match zeroOf P t with
 |some z=>bif af z then some ⟨.val (w5 n),(n,.cells z.cells t (0,0))::H,n+1,[],[]⟩else none
 |none=>none
def Ia(t:TypeId)(x:Option Value)(H:Qr)(n:Nat):Option CR:=match x with
 |some v=>some ⟨.val (w5 n),(n,.cells v.cells t (0,0))::H,n+1,[],[]⟩
 |none=>none
def Cm(P:Program)(t:TypeId)(l:Option (List (Nat×Value)))(H:Qr)(n:Nat):Option CR:=match l with
 |some l=>mkPure (qw P t l) H n
 |none=>none
def eV(P:Program)(t:TypeId)(len:Nat)(l:Option (List (Nat×Value)))(H:Qr)(n:Nat):Option CR:=match l with
 |some l=>match Pv P t len l with
  |some (e,cs,s)=>some ⟨.val (.slice (some ⟨n,0,none⟩) len s),(n,.cells cs e (0,0))::H,n+1,[],[]⟩
  |none=>bif gY P t len l then some ⟨.val Tq,H,n,[],[]⟩else none
 |none=>none
def Cg(P:Program)(t:TypeId)(a:Option Value)(H:Qr)(n:Nat):Option CR:=match a with
 |some p=>match RH P t H p with
  |some (v,b)=>some ⟨.val v,H,n,[b],[]⟩
  |none=>none
 |none=>none
def vF(P:Program)(t:TypeId)(a x:Option Value)(H:Qr)(n:Nat):Option CR:=match a,x with
 |some p,some v=>match PA P t H v p with
  |some (H',b)=>some ⟨.val undef,H',n,[b],[b]⟩
  |none=>none
 |_,_=>none
def aP(P:Program)(s:TypeId)(f:Nat)(x:Option Value)(H:Qr)(n:Nat):Option CR:=match x with
 |some p=>mkPure (WA P s f p) H n
 |none=>none
def vG(P:Program)(s:TypeId)(f:Nat)(x:Option Value)(H:Qr)(n:Nat):Option CR:=match x with
 |some p=>mkPure (eH P s f p) H n
 |none=>none
def aO(P:Program)(t:TypeId)(x i:Option Value)(H:Qr)(n:Nat):Option CR:=match x,i with
 |some v,some k=>mkPure (KX P t v k) H n
 |_,_=>none
def Ci(P:Program)(ev:Operand->Option Value)(o:Oper)(t:TypeId)(x i:Option Value)(H:Qr)(n:Nat):Option CR:=match x,i with
 |some (.agg cs),some k=>mkPure (qu P t (.agg cs) k) H n
 |_,_=>mkPure (Uw P ev o) H n
def jf(i:Nat)(x:Option Value)(H:Qr)(n:Nat):Option CR:=match x with
 |some v=>mkPure (RI i v) H n
 |none=>none
def Gq(P:Program)(t:TypeId)(l c:Option Value)(H:Qr)(n:Nat):Option CR:=match l,c with
 |some x,some y=>match SG P t x y with
  |some (e,cs,l,s)=>some ⟨.val (.slice (some ⟨n,0,none⟩) l s),(n,.cells cs e (0,0))::H,n+1,[],[]⟩
  |none=>none
 |_,_=>none
def GR(P:Program)(ev:Operand->Option Value)(o:Oper)(t:TypeId)(x:Option Value)(lo hi:Option (Option Value))(H:Qr)(n:Nat):Option CR:=match x,lo,hi with
 |some (.slice (some a) m s),some l,some h=>mkPure (eG P t (.slice (some a) m s) l h) H n
 |some (.pointer p),some l,some h=>mkPure (eG P t (.pointer p) l h) H n
 |_,_,_=>mkPure (Uw P ev o) H n
def xL(P:Program)(ev:Operand->Option Value)(o:Oper)(t:TypeId)(x:Operand)(lo hi m:Option Operand)(H:Qr)(n:Nat):Option CR:=match m with
 |none=>GR P ev o t (ev x) (Dz ev lo) (Dz ev hi) H n
 |some mx=>match hi with
  |some h=>bif az P t (ev x) (Dz ev lo) (ev h) (ev mx)then some ⟨.val Tq,H,n,[],[]⟩else mkPure (Uw P ev o) H n
  |none=>mkPure (Uw P ev o) H n
def n6(P:Program)(ev:Operand->Option Value)(o:Oper)(fn:Fn)(first captured:Array Operand)(H:Qr)(n:Nat):Option CR:=match fn with
 | .func f=>match JJ ev first.toList,JJ ev captured.toList with
   |some xs,some ys=>some ⟨.val (.func (.func f) xs.toArray ys.toArray),H,n,[],[]⟩
   |_,_=>none
 |_=>mkPure (Uw P ev o) H n
def sm(P:Program)(ev:Operand->Option Value)(o:Oper)(r:Option Operand)(H:Qr)(n:Nat):Option CR:=match r with
 |none=>some ⟨.val (.map (some n)),(n,.map #[] 0)::H,n+1,[],[]⟩
 |some _=>mkPure (Uw P ev o) H n
def xN(P:Program)(t:TypeId)(ok:Bool)(x k:Option Value)(H:Qr)(n:Nat):Option CR:=match x,k with
 |some m,some kv=>match SA P t H ok m kv with
  |some (v,R)=>some ⟨.val v,H,n,R,[]⟩
  |none=>none
 |_,_=>none
def je(P:Program)(t:TypeId)(m k x:Option Value)(H:Qr)(n:Nat):Option CR:=match m,k,x with
 |some mv,some kv,some v=>match Kj P t H mv kv v with
  |some (H',b)=>some ⟨.val undef,H',n,[b],[b]⟩
  |none=>none
 |_,_,_=>none
def GY(P:Program)(ev:Operand->Option Value)(o:Oper)(op:BinOp)(x y:Option Value)(H:Qr)(n:Nat):Option CR:=match x,y with
 |some a,some b=>match xo op a b with
  |some v=>some ⟨.val v,H,n,[],[]⟩
  |none=>mkPure (Uw P ev o) H n
 |_,_=>none
def HW(x:Option Value)(H:Qr)(n:Nat):Option CR:=match x with
 |some (.pointer (some a))=>some ⟨.val (.pointer (some a)),H,n,[],[]⟩
 |some (.func (.func f) xs ys)=>some ⟨.val (.func (.func f) xs ys),H,n,[],[]⟩
 |some (.func (.yield f) xs ys)=>some ⟨.val (.func (.yield f) xs ys),H,n,[],[]⟩
 |_=>none
def HZ(F:FuncId->Bool)(f:Option Value)(args:Option (List Value))(H:Qr)(n:Nat):Option CR:=match f,args with
 |some fv,some args=>match Pu F H fv args.toArray with
  |some (nx,R)=>some ⟨nx,H,n,R,[]⟩
  |none=>none
 |_,_=>none
def EP(P:Program)(ev:Operand->Option Value)(c:Call)(H:Qr)(n:Nat):Option CR:=match c.args.toList,c.argTypes.toList with
 |[s,x],[t,t']=>match ev s,ev x with
  |some sv,some xv=>uX P t t' H n sv xv
  |_,_=>none
 |_,_=>none
def IF(P:Program)(ev:Operand->Option Value)(o:Oper)(c:Call)(H:Qr)(n:Nat):Option CR:=match c.args.toList,c.argTypes.toList with
 |[x],[t]=>match ev x,JO P t with
  |some (.slice (some _) m _),some (.slice _)=>some ⟨.val (.int .i64 m),H,n,[],[]⟩
  |some (.chan (some 0)),some (.slice _)=>some ⟨.val (.int .i64 0),H,n,[],[]⟩
  |_,_=>mkPure (Uw P ev o) H n
 |_,_=>none
def HX(P:Program)(ev:Operand->Option Value)(c:Call)(H:Qr)(n:Nat):Option CR:=match c.args.toList,c.argTypes.toList with
 |[s,x],[t,_]=>match ev s,ev x with
  |some sv,some xv=>uV P t H n sv xv
  |_,_=>none
 |_,_=>none
def Cl(P:Program)(ev:Operand->Option Value)(o:Oper)(c:Call)(b:Builtin)(H:Qr)(n:Nat):Option CR:=match b with
 | .append=>EP P ev c H n
 | .len=>IF P ev o c H n
 | .copy=>HX P ev c H n
 |_=>mkPure (Uw P ev o) H n
def cm(P:Program)(F:FuncId->Bool)(ev:Operand->Option Value)(o:Oper)(c:Call)(H:Qr)(n:Nat):Option CR:=match c.callee with
 | .builtin b=>Cl P ev o c b H n
 | .value f=>HZ F (ev f) (JJ ev c.args.toList) H n
 |_=>none
def FV(P:Program)(F:FuncId->Bool)(ev:Operand->Option Value)(o:Oper)(H:Qr)(n:Nat):Option CR:=
 match o.op with
 | .move x=>mkPure (ev x) H n
 | .assign x=>mkPure (ev x) H n
 | .pick c a b=>match ev c with
   |some (.bool t)=>mkPure (ev (bif t then a else b)) H n
   |_=>none
 | .alloc t=>Cn P t H n
 | .box t x=>Ia t (ev x) H n
 | .build t ps=>Cm P t (partsOf ev ps.toList) H n
 | .buildSlice t len ps=>eV P t len (partsOf ev ps.toList) H n
 | .load t a=>Cg P t (ev a) H n
 | .store t a x=>vF P t (ev a) (ev x) H n
 | .fieldAddr s x f=>aP P s f (ev x) H n
 | .field t x f=>vG P t f (ev x) H n
 | .indexAddr t x i=>aO P t (ev x) (ev i) H n
 | .index t x i=>Ci P ev o t (ev x) (ev i) H n
 | .extract x i=>jf i (ev x) H n
 | .makeSlice t l c=>Gq P t (ev l) (ev c) H n
 | .slice t x lo hi m=>xL P ev o t x lo hi m H n
 | .makeFunc fn first captured=>n6 P ev o fn first captured H n
 | .makeMap _ r=>sm P ev o r H n
 | .lookup t x k ok=>xN P t ok (ev x) (ev k) H n
 | .mapUpdate t m k x=>je P t (ev m) (ev k) (ev x) H n
 | .binOp op _ x y _=>GY P ev o op (ev x) (ev y) H n
 | .nilCheck x=>HW (ev x) H n
 | .call c=>cm P F ev o c H n
 |_=>mkPure (Uw P ev o) H n
theorem FU(P:Program)(F:FuncId->Bool)(ev:Operand->Option Value)(o:Oper)(H:Qr)(n:Nat):FV P F ev o H n=qM P F ev o H n:=by
 unfold FV qM;cases o.op with
 |slice t x lo hi m=>cases m <;> cases hi <;> rfl
 |makeFunc fn a b=>cases fn <;> rfl
 |makeMap t r=>cases r <;> rfl
 |call c=>
  simp only[cm];cases c.callee with
  |builtin b=>cases b <;> rfl
  |value f=>rfl
  |invoke a b=>rfl
 |_=>rfl
def Ck(r:CR)(s:Rs):Option Rs:=match Ya r.H s with
 |s=>some ⟨s.out,s.H,s.n,r.R++s.R,r.W++s.W⟩
def GV(P:Program)(rec:CF->Qr->Nat->Option Rs)(g:FuncId)(args:Array Value)(r:CR):Option Rs:=match Wz P g args with
 |some c=>match rec c r.H r.n with
  |some s=>Ck r s
  |none=>none
 |none=>none
def oH(P:Program)(Xz:Vn)(rec:CF->Qr->Nat->Option Rs)(g:FuncId)(args:Array Value)(r:CR):Option Rs:=match Xz g args r.H r.n with
 |some s=>some ⟨s.out,s.H,s.n,r.R++s.R,r.W++s.W⟩
 |none=>GV P rec g args r
def GS(rec:CF->Qr->Nat->Option Rs)(l:Nat)(fn:FuncId)(tm:Array Value)(a b:Code)(r:CR):Option Rs:=bif LO tm.size 16000 then match rec ⟨fn,ofList tm.size tm.toList,[.code a,.beginRound,.code b],[],.run,some l⟩ r.H r.n with
 |some s=>some ⟨s.out,s.H,s.n,r.R++s.R,r.W++s.W⟩
 |none=>none
 else none
def xM(P:Program)(Xz:Vn)(rec:CF->Qr->Nat->Option Rs)(r:CR):Option Rs:=match r.nx with
 | .val v=>some ⟨.ret v,r.H,r.n,r.R,r.W⟩
 | .enter g args=>oH P Xz rec g args r
 | .round l fn tm a b=>GS rec l fn tm a b r
def qR(P:Program)(Xz:Vn)(rec:CF->Qr->Nat->Option Rs)(n:Nat)(x:Option CR):Option Rs:=match x with
 |some r=>bif r.R.all (fun i=>Ls i n)then xM P Xz rec r else none
 |none=>none
def GW(v:Option Value)(H:Qr)(n:Nat):Option Rs:=match v with
 |some (.iface t v)=>some ⟨.ZO (.iface t v),H,n,[],[]⟩
 |_=>none
def xE:Op->Nat
 | .defer _=>1
 | .panic _=>2
 |_=>0
def qV(v:Option Value)(H:Qr)(n:Nat):Option Rs:=match v with
 |some v=>some ⟨.ret v,H,n,[],[]⟩
 |none=>none
def qK(P:Program)(F:FuncId->Bool)(Xz:Vn)(rec:CF->Qr->Nat->Option Rs)(T:Tm)(o:Oper)(H:Qr)(n:Nat):Option Rs:=
 match o.op with
 | .move x=>qV (Zp T x) H n
 | .assign x=>qV (Zp T x) H n
 | .pick c a b=>match Zp T c with
   |some (.bool t)=>qV (Zp T (bif t then a else b)) H n
   |_=>none
 | .alloc t=>qR P Xz rec n (Cn P t H n)
 | .box t x=>qR P Xz rec n (Ia t (Zp T x) H n)
 | .build t ps=>qR P Xz rec n (Cm P t (partsOf (Zp T) ps.toList) H n)
 | .buildSlice t len ps=>qR P Xz rec n (eV P t len (partsOf (Zp T) ps.toList) H n)
 | .load t a=>qR P Xz rec n (Cg P t (Zp T a) H n)
 | .store t a x=>qR P Xz rec n (vF P t (Zp T a) (Zp T x) H n)
 | .fieldAddr s x f=>qR P Xz rec n (aP P s f (Zp T x) H n)
 | .field t x f=>qR P Xz rec n (vG P t f (Zp T x) H n)
 | .indexAddr t x i=>qR P Xz rec n (aO P t (Zp T x) (Zp T i) H n)
 | .index t x i=>qR P Xz rec n (Ci P (Zp T) o t (Zp T x) (Zp T i) H n)
 | .extract x i=>qR P Xz rec n (jf i (Zp T x) H n)
 | .makeSlice t l c=>qR P Xz rec n (Gq P t (Zp T l) (Zp T c) H n)
 | .slice t x lo hi m=>qR P Xz rec n (xL P (Zp T) o t x lo hi m H n)
 | .makeFunc fn first captured=>qR P Xz rec n (n6 P (Zp T) o fn first captured H n)
 | .makeMap _ r=>qR P Xz rec n (sm P (Zp T) o r H n)
 | .lookup t x k ok=>qR P Xz rec n (xN P t ok (Zp T x) (Zp T k) H n)
 | .mapUpdate t m k x=>qR P Xz rec n (je P t (Zp T m) (Zp T k) (Zp T x) H n)
 | .binOp op _ x y _=>qR P Xz rec n (GY P (Zp T) o op (Zp T x) (Zp T y) H n)
 | .nilCheck x=>qR P Xz rec n (HW (Zp T x) H n)
 | .call c=>qR P Xz rec n (cm P F (Zp T) o c H n)
 | .defer _=>none
 | .panic x=>GW (Zp T x) H n
 |_=>qR P Xz rec n (mkPure (Uw P (Zp T) o) H n)
theorem HV{P:Program}{F:FuncId->Bool}{Xz:Vn}{rec:CF->Qr->Nat->Option Rs}{T:Tm}{o:Oper}{H:Qr}{n:Nat}(h1:∀c,o.op≠.defer c)(h2:∀x,o.op≠.panic x):bd P F Xz rec T o H n=qR P Xz rec n (FV P F (Zp T) o H n):=by
 rw[FU];unfold bd;split
 ·rename_i c h;exact absurd h (h1 c)
 ·rename_i x h;exact absurd h (h2 x)
 ·unfold RD;cases qM P F (Zp T) o H n with
  |none=>rfl
  |some r=>
   simp only[qR];cases r.R.all (fun i=>Ls i n)with
   |false=>rfl
   |true=>
    simp only[cond_true,xM];cases r.nx <;> rfl
theorem Pg{P:Program}{Xz:Vn}{rec:CF->Qr->Nat->Option Rs}{H:Qr}{n:Nat}(v:Option Value):qR P Xz rec n (mkPure v H n)=qV v H n:=by cases v <;> rfl
theorem Ho(P:Program)(F:FuncId->Bool)(Xz:Vn)(rec:CF->Qr->Nat->Option Rs)(T:Tm)(o:Oper)(H:Qr)(n:Nat):qK P F Xz rec T o H n=bd P F Xz rec T o H n:=by
 cases hs:xE o.op with
 |succ k=>
  unfold qK bd;generalize o.op=p at hs;cases p <;> first|(simp[xE]at hs;done)|rfl
 |zero=>
  rw[HV (by intro c h;rw[h]at hs;cases hs) (by intro c h;rw[h]at hs;cases hs)];unfold qK FV;generalize hp:o.op=p at hs;cases p with
  |move x=>exact(Pg _).symm
  |assign x=>exact(Pg _).symm
  |pick c a b=>
   simp only;split
   ·exact(Pg _).symm
   ·rfl
  |defer c=>cases hs
  |panic c=>cases hs
  |_=>rfl
def Jp(P:Program)(F:FuncId->Bool)(Xz:Vn)(rec:CF->Qr->Nat->Option Rs)(ops:Array Oper):List Oper->Tm->Qr->Nat->Option (List Rec×RF)
 |[],T,H,n=>some ([],.ok T H n)
 |o::l,T,H,n=>
  bif JH T o.dst then
   bif Region.wanted o (XR ops T)then
    match qK P F Xz rec T o H n with
    |some s=>match s.out with
     | .ret v=>match Jp P F Xz rec ops l (V3 T o.dst v) s.H s.n with
       |some (rs,fin)=>some (⟨o,true,v,T,H,s.H,n,s.n,s.R,s.W⟩::rs,fin)
       |none=>none
     | .ZO v=>some ([],.ZO T v s.H s.n s.R s.W)
    |none=>none
   else match Jp P F Xz rec ops l (V3 T o.dst undef) H n with
    |some (rs,fin)=>some (⟨o,false,undef,T,H,H,n,n,[],[]⟩::rs,fin)
    |none=>none
  else none
theorem rp(P:Program)(F:FuncId->Bool)(Xz:Vn)(rec:CF->Qr->Nat->Option Rs)(ops:Array Oper):∀(l:List Oper) (T:Tm) (H:Qr) (n:Nat),Jp P F Xz rec ops l T H n=dF P F Xz rec ops l T H n
 |[],_,_,_=>rfl
 |o::l,T,H,n=>by simp only[Jp,dF,Ho,rp P F Xz rec ops l];rfl
def Cj(c:CF)(k:List Item)(H:Qr)(n:Nat):Option FS:=some (.go {c with todo:=k} H n [] [])
def GU(c:CF)(ops:Array Oper)(draw:Bool)(k:List Item):Option (List Rec×RF)->Option FS
 |some (Qx,.ok T' H' n')=>bif !draw || (Vm 0 ops.toList && indep ops 0 Qx (YU ops.toList []))then some (.go {c with tmps:=T',todo:=k} H' n' (KE Qx) (Ug Qx))else none
 |some (Qx,.ZO T' v H' n' R W)=>bif !draw || Ss ops Qx T' then some (.go {c with tmps:=T',mode:=.ZO v} H' n' (KE Qx++R) (Ug Qx++W))else none
 |none=>none
def EO(c:CF)(k:List Item)(l:Nat)(ds R1 R2:List Nat):Option Rs->Option FS
 |some s=>match s.out with
  | .ret _=>some (.go {c with todo:=.endRangeFunc l::k,defers:=ds++c.defers} s.H s.n (R1++R2++s.R) s.W)
  | .ZO v=>some (.go {c with mode:=.ZO v,defers:=ds++c.defers} s.H s.n (R1++R2++s.R) s.W)
 |none=>none
def Cf(P:Program)(F:FuncId->Bool)(rec:CF->Qr->Nat->Option Rs)(c:CF)(params:Array Tmp)(assign body:Code)(k:List Item)(H:Qr)(n:Nat):Option Value->Option FS
 |some fv=>match UN c H n params assign body with
  |some (H1,l,ds,R1)=>match Pu F H1 fv #[.func (.yield l) #[] #[]]with
   |some (.enter g args,R2)=>match Wz P g args with
    |some c1=>EO c k l ds R1 R2 (rec c1 H1 (l+1))
    |none=>none
   |_=>none
  |none=>none
 |none=>none
def HY(c:CF)(a b:Code)(k:List Item)(H:Qr)(n:Nat):Option Value->Option FS
 |some (.bool t)=>Cj c (.code (bif t then a else b)::k) H n
 |_=>none
def Ch(c:CF)(H:Qr)(n:Nat)(j:Code):Option (List Item)->Option FS
 |some k'=>Cj c k' H n
 |none=>P4 c H n (some j)
def eU(P:Program)(F:FuncId->Bool)(Xz:Vn)(rec:CF->Qr->Nat->Option Rs)(c:CF)(k:List Item)(H:Qr)(n:Nat):Code->Option FS
 | .ret=>P4 c H n (some .ret)
 | .skip=>Cj c k H n
 | .label _=>Cj c k H n
 | .seq a b=>Cj c (.code a::.code b::k) H n
 | .cond x a b=>HY c a b k H n (Zp c.tmps x)
 | .block id b=>Cj c (.code b::.inBlock id::k) H n
 | .loop b=>Cj c (.code b::.inLoop b::k) H n
 | .scope b=>Cj c (.code b::.inScope b::k) H n
 | .exit id=>Ch c H n (.exit id) (exitTo id k)
 | .goto l=>Ch c H n (.goto l) (gotoIn l k)
 | .region _ ops draw=>GU c ops draw k (Jp P F Xz rec ops ops.toList c.tmps H n)
 | .rangeFunc f params assign body=>Cf P F rec c params assign body k H n (Zp c.tmps f)
 |_=>none
def GX(c:CF)(l:Nat)(k:List Item)(H:Qr)(n:Nat):Option FS:=match Qu H l with
 |some (.loop r)=>bif !(decide (r.state=.busy))then some (.go {c with todo:=(r.pending.map Item.code).toList++k} (VD H l (.loop {r with state:=.exhausted})) n [l] [l])else none
 |_=>none
def GZ(c:CF)(k:List Item)(H:Qr)(n:Nat):Option FS:=match c.roundOf with
 |some l=>match Qu H l with
  |some (.loop r)=>bif decide (r.state=.ready)then some (.go {c with todo:=k} (VD H l (.loop {r with state:=.busy})) n [l] [l])else none
  |_=>none
 |none=>none
def eT(P:Program)(F:FuncId->Bool)(Xz:Vn)(rec:CF->Qr->Nat->Option Rs)(c:CF)(k:List Item)(H:Qr)(n:Nat):Item->Option FS
 | .code cd=>eU P F Xz rec c k H n cd
 | .inBlock _=>Cj c k H n
 | .inScope _=>Cj c k H n
 | .inLoop b=>Cj c (.code b::.inLoop b::k) H n
 | .endRangeFunc l=>GX c l k H n
 | .beginRound=>GZ c k H n
 |_=>none
def IG(P:Program)(c:CF)(H:Qr)(n:Nat):Option FS:=match c.defers with
 |d::ds=>match Qu H d with
  |some (.deferred (some []))=>some (.go {c with defers:=ds} (VD H d (.deferred none)) n [d] [d])
  |_=>none
 |[]=>match c.mode with
  | .ZO v=>bif FD P c.fn then some (.done (.ZO v) H n [] [])else none
  |_=>match c.roundOf,iH P c.fn H c.tmps with
   |none,some (v,R)=>some (.done (.ret v) H n R [])
   |_,_=>none
def eA(P:Program)(F:FuncId->Bool)(Xz:Vn)(rec:CF->Qr->Nat->Option Rs)(c:CF)(H:Qr)(n:Nat):Option FS:=
 match c.mode with
 | .run=>match c.todo with
   |[]=>P4 c H n none
   |it::k=>eT P F Xz rec c k H n it
 |_=>IG P c H n
theorem Ag(P:Program)(F:FuncId->Bool)(Xz:Vn)(rec:CF->Qr->Nat->Option Rs)(c:CF)(H:Qr)(n:Nat):eA P F Xz rec c H n=Pr P F Xz rec c H n:=by
 obtain⟨fn,tmps,todo,defers,mode,ro⟩:=c;unfold eA Pr;cases mode with
 |run=>
  cases todo with
  |nil=>rfl
  |cons it k=>
   cases it with
   |code cd=>
    cases cd with
    |region id ops draw=>
     simp only[eT,eU,rp];cases dF P F Xz rec ops ops.toList tmps H n with
     |none=>rfl
     |some x=>
      obtain⟨Qx,fin⟩:=x;cases fin <;> rfl
    |rangeFunc f ps assign body=>
     simp only[eT,eU,Cf];cases Zp tmps f with
     |none=>rfl
     |some fv=>
      simp only;cases UN ⟨fn,tmps,.code (.rangeFunc f ps assign body)::k,defers,.run,ro⟩ H n ps assign body with
      |none=>rfl
      |some x=>
       obtain⟨H1,l,ds,R1⟩:=x;simp only;cases Pu F H1 fv #[.func (.yield l) #[] #[]]with
       |none=>rfl
       |some y=>
        obtain⟨nx,R2⟩:=y;cases nx with
        |enter g args=>
         simp only;cases Wz P g args with
         |none=>rfl
         |some c1=>
          simp only;cases rec c1 H1 (l+1)with
          |none=>rfl
          |some s=>obtain⟨o,_,_,_,_⟩:=s;cases o <;> rfl
        |_=>rfl
    |cond x a b=>
     simp only[eT,eU];cases Zp tmps x with
     |none=>rfl
     |some v=>cases v <;> rfl
    |exit id=>simp only[eT,eU];cases exitTo id k <;> rfl
    |goto id=>simp only[eT,eU];cases gotoIn id k <;> rfl
    |_=>rfl
   |_=>rfl
 |ret=>rfl
 |ZO v=>rfl
def YJ(P:Program)(F:FuncId->Bool)(Xz:Vn):Nat->Nat->CF->Qr->Nat->List Nat->List Nat->Option Rs
 |0,_,_,_,_,_,_=>none
 |fuel+1,b,c,H,n,R,W=>
  match eA P F Xz (fun c1 H1 n1=>YJ P F Xz fuel n1 c1 H1 n1 [] []) c H n with
  |some (.go c' H' n' R' W')=>YJ P F Xz fuel b c' H' n' (Wd b R' R) (Wd b W' W)
  |some (.done out H' n' R' W')=>some ⟨out,H',n',Wd b R' R,Wd b W' W⟩
  |none=>none
theorem ma(P:Program)(F:FuncId->Bool)(Xz:Vn):∀(fuel b:Nat) (c:CF) (H:Qr) (n:Nat) (R W:List Nat),YJ P F Xz fuel b c H n R W=mO P F Xz fuel b c H n R W
 |0,_,_,_,_,_,_=>rfl
 |fuel+1,b,c,H,n,R,W=>by
  simp only[YJ,mO,Ag,ma P F Xz fuel];rfl
end Go.CE
