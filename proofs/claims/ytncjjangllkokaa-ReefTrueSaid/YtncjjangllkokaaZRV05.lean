import Derived.Test.YtncjjangllkokaaZRV04
set_option linter.all false
open Nat renaming ble->ON,blt->On
namespace Go.CE
open Go Go.RowKit

def FT(P:Program)(t:TypeId)(H:Qy)(n:Nat):Option CR:=match zeroOf P t with
 |some z=>bif af z then some ⟨.val (Aa n),(n,.cells z.cells t (0,0))::H,n+1,[],[]⟩else none
 |none=>none
def Nb(t:TypeId)(x:Option Value)(H:Qy)(n:Nat):Option CR:=match x with
 |some v=>some ⟨.val (Aa n),(n,.cells v.cells t (0,0))::H,n+1,[],[]⟩
 |none=>none
def FQ(P:Program)(t:TypeId)(l:Option (List (Nat×Value)))(H:Qy)(n:Nat):Option CR:=match l with
 |some l=>mkPure (sA P t l) H n
 |none=>none
def gY(P:Program)(t:TypeId)(len:Nat)(l:Option (List (Nat×Value)))(H:Qy)(n:Nat):Option CR:=match l with
 |some l=>match RK P t len l with
  |some (e,cs,s)=>some ⟨.val (.slice (some ⟨n,0,none⟩) len s),(n,.cells cs e (0,0))::H,n+1,[],[]⟩
  |none=>bif jO P t len l then some ⟨.val aQ,H,n,[],[]⟩else none
 |none=>none
def FK(P:Program)(t:TypeId)(a:Option Value)(H:Qy)(n:Nat):Option CR:=match a with
 |some p=>match SQ P t H p with
  |some (v,b)=>some ⟨.val v,H,n,[b],[]⟩
  |none=>none
 |none=>none
def yN(P:Program)(t:TypeId)(a x:Option Value)(H:Qy)(n:Nat):Option CR:=match a,x with
 |some p,some v=>match Sb P t H v p with
  |some (H',b)=>some ⟨.val undef,H',n,[b],[b]⟩
  |none=>none
 |_,_=>none
def c9(P:Program)(s:TypeId)(f:Nat)(x:Option Value)(H:Qy)(n:Nat):Option CR:=match x with
 |some p=>mkPure (Wl P s f p) H n
 |none=>none
def yO(P:Program)(s:TypeId)(f:Nat)(x:Option Value)(H:Qy)(n:Nat):Option CR:=match x with
 |some p=>mkPure (gK P s f p) H n
 |none=>none
def c8(P:Program)(t:TypeId)(x i:Option Value)(H:Qy)(n:Nat):Option CR:=match x,i with
 |some v,some k=>mkPure (Jd P t v k) H n
 |_,_=>none
def FM(P:Program)(ev:Operand->Option Value)(o:Oper)(t:TypeId)(x i:Option Value)(H:Qy)(n:Nat):Option CR:=match x,i with
 |some (.agg cs),some k=>mkPure (s8 P t (.agg cs) k) H n
 |_,_=>mkPure (Kd P ev o) H n
def lu(i:Nat)(x:Option Value)(H:Qy)(n:Nat):Option CR:=match x with
 |some v=>mkPure (SS i v) H n
 |none=>none
def L5(P:Program)(t:TypeId)(l c:Option Value)(H:Qy)(n:Nat):Option CR:=match l,c with
 |some x,some y=>match RH P t x y with
  |some (e,cs,l,s)=>some ⟨.val (.slice (some ⟨n,0,none⟩) l s),(n,.cells cs e (0,0))::H,n+1,[],[]⟩
  |none=>none
 |_,_=>none
def LY(P:Program)(ev:Operand->Option Value)(o:Oper)(t:TypeId)(x:Option Value)(lo hi:Option (Option Value))(H:Qy)(n:Nat):Option CR:=match x,lo,hi with
 |some (.slice (some a) m s),some l,some h=>mkPure (bd P t (.slice (some a) m s) l h) H n
 |some (.pointer p),some l,some h=>mkPure (bd P t (.pointer p) l h) H n
 |_,_,_=>mkPure (Kd P ev o) H n
def Bo(P:Program)(ev:Operand->Option Value)(o:Oper)(t:TypeId)(x:Operand)(lo hi m:Option Operand)(H:Qy)(n:Nat):Option CR:=match m with
 |none=>LY P ev o t (ev x) (E8 ev lo) (E8 ev hi) H n
 |some mx=>match hi with
  |some h=>bif bV P t (ev x) (E8 ev lo) (ev h) (ev mx)then some ⟨.val aQ,H,n,[],[]⟩else mkPure (Kd P ev o) H n
  |none=>mkPure (Kd P ev o) H n
def pF(P:Program)(ev:Operand->Option Value)(o:Oper)(fn:Fn)(first captured:Array Operand)(H:Qy)(n:Nat):Option CR:=match fn with
 | .func f=>match Re ev first.toList,Re ev captured.toList with
   |some xs,some ys=>some ⟨.val (.func (.func f) xs.toArray ys.toArray),H,n,[],[]⟩
   |_,_=>none
 |_=>mkPure (Kd P ev o) H n
def uf(P:Program)(ev:Operand->Option Value)(o:Oper)(r:Option Operand)(H:Qy)(n:Nat):Option CR:=match r with
 |none=>some ⟨.val (.map (some n)),(n,.map #[] 0)::H,n+1,[],[]⟩
 |some _=>mkPure (Kd P ev o) H n
def Bq(P:Program)(t:TypeId)(ok:Bool)(x k:Option Value)(H:Qy)(n:Nat):Option CR:=match x,k with
 |some m,some kv=>match fq P t H ok m kv with
  |some (v,R)=>some ⟨.val v,H,n,R,[]⟩
  |none=>none
 |_,_=>none
def lr(P:Program)(t:TypeId)(m k x:Option Value)(H:Qy)(n:Nat):Option CR:=match m,k,x with
 |some mv,some kv,some v=>match Jc P t H mv kv v with
  |some (H',b)=>some ⟨.val undef,H',n,[b],[b]⟩
  |none=>none
 |_,_,_=>none
def Me(P:Program)(ev:Operand->Option Value)(o:Oper)(op:BinOp)(x y:Option Value)(H:Qy)(n:Nat):Option CR:=match x,y with
 |some a,some b=>match AQ op a b with
  |some v=>some ⟨.val v,H,n,[],[]⟩
  |none=>mkPure (Kd P ev o) H n
 |_,_=>none
def MX(x:Option Value)(H:Qy)(n:Nat):Option CR:=match x with
 |some (.pointer (some a))=>some ⟨.val (.pointer (some a)),H,n,[],[]⟩
 |some (.func (.func f) xs ys)=>some ⟨.val (.func (.func f) xs ys),H,n,[],[]⟩
 |some (.func (.yield f) xs ys)=>some ⟨.val (.func (.yield f) xs ys),H,n,[],[]⟩
 |_=>none
def Na(F:FuncId->Bool)(f:Option Value)(args:Option (List Value))(H:Qy)(n:Nat):Option CR:=match f,args with
 |some fv,some args=>match RI F H fv args.toArray with
  |some (nx,R)=>some ⟨nx,H,n,R,[]⟩
  |none=>none
 |_,_=>none
def Iz(P:Program)(ev:Operand->Option Value)(c:Call)(H:Qy)(n:Nat):Option CR:=match c.args.toList,c.argTypes.toList with
 |[s,x],[t,t']=>match ev s,ev x with
  |some sv,some xv=>yl P t t' H n sv xv
  |_,_=>none
 |_,_=>none
def NA(P:Program)(ev:Operand->Option Value)(o:Oper)(c:Call)(H:Qy)(n:Nat):Option CR:=match c.args.toList,c.argTypes.toList with
 |[x],[t]=>match ev x,Rg P t with
  |some (.slice (some _) m _),some (.slice _)=>some ⟨.val (.int .i64 m),H,n,[],[]⟩
  |some (.chan (some 0)),some (.slice _)=>some ⟨.val (.int .i64 0),H,n,[],[]⟩
  |_,_=>mkPure (Kd P ev o) H n
 |_,_=>none
def MY(P:Program)(ev:Operand->Option Value)(c:Call)(H:Qy)(n:Nat):Option CR:=match c.args.toList,c.argTypes.toList with
 |[s,x],[t,_]=>match ev s,ev x with
  |some sv,some xv=>yi P t H n sv xv
  |_,_=>none
 |_,_=>none
def FP(P:Program)(ev:Operand->Option Value)(o:Oper)(c:Call)(b:Builtin)(H:Qy)(n:Nat):Option CR:=match b with
 | .append=>Iz P ev c H n
 | .len=>NA P ev o c H n
 | .copy=>MY P ev c H n
 |_=>mkPure (Kd P ev o) H n
def dI(P:Program)(F:FuncId->Bool)(ev:Operand->Option Value)(o:Oper)(c:Call)(H:Qy)(n:Nat):Option CR:=match c.callee with
 | .builtin b=>FP P ev o c b H n
 | .value f=>Na F (ev f) (Re ev c.args.toList) H n
 |_=>none
def Lh(P:Program)(F:FuncId->Bool)(ev:Operand->Option Value)(o:Oper)(H:Qy)(n:Nat):Option CR:=
 match o.op with
 | .move x=>mkPure (ev x) H n
 | .assign x=>mkPure (ev x) H n
 | .pick c a b=>match ev c with
   |some (.bool t)=>mkPure (ev (bif t then a else b)) H n
   |_=>none
 | .alloc t=>FT P t H n
 | .box t x=>Nb t (ev x) H n
 | .build t ps=>FQ P t (partsOf ev ps.toList) H n
 | .buildSlice t len ps=>gY P t len (partsOf ev ps.toList) H n
 | .load t a=>FK P t (ev a) H n
 | .store t a x=>yN P t (ev a) (ev x) H n
 | .fieldAddr s x f=>c9 P s f (ev x) H n
 | .field t x f=>yO P t f (ev x) H n
 | .indexAddr t x i=>c8 P t (ev x) (ev i) H n
 | .index t x i=>FM P ev o t (ev x) (ev i) H n
 | .extract x i=>lu i (ev x) H n
 | .makeSlice t l c=>L5 P t (ev l) (ev c) H n
 | .slice t x lo hi m=>Bo P ev o t x lo hi m H n
 | .makeFunc fn first captured=>pF P ev o fn first captured H n
 | .makeMap _ r=>uf P ev o r H n
 | .lookup t x k ok=>Bq P t ok (ev x) (ev k) H n
 | .mapUpdate t m k x=>lr P t (ev m) (ev k) (ev x) H n
 | .binOp op _ x y _=>Me P ev o op (ev x) (ev y) H n
 | .nilCheck x=>MX (ev x) H n
 | .call c=>dI P F ev o c H n
 |_=>mkPure (Kd P ev o) H n
theorem Lg(P:Program)(F:FuncId->Bool)(ev:Operand->Option Value)(o:Oper)(H:Qy)(n:Nat):Lh P F ev o H n=sr P F ev o H n:=by
 unfold Lh sr;cases o.op with
 |slice t x lo hi m=>cases m <;> cases hi <;> rfl
 |makeFunc fn a b=>cases fn <;> rfl
 |makeMap t r=>cases r <;> rfl
 |call c=>
  simp only[dI];cases c.callee with
  |builtin b=>cases b <;> rfl
  |value f=>rfl
  |invoke a b=>rfl
 |_=>rfl
def FO(r:CR)(s:Rs):Option Rs:=match Jj r.H s with
 |s=>some ⟨s.out,s.H,s.n,r.R++s.R,r.W++s.W⟩
def Mb(P:Program)(rec:CF->Qy->Nat->Option Rs)(g:FuncId)(args:Array Value)(r:CR):Option Rs:=match ZW P g args with
 |some c=>match rec c r.H r.n with
  |some s=>FO r s
  |none=>none
 |none=>none
def qU(P:Program)(Xx:Vf)(rec:CF->Qy->Nat->Option Rs)(g:FuncId)(args:Array Value)(r:CR):Option Rs:=match Xx g args r.H r.n with
 |some s=>some ⟨s.out,s.H,s.n,r.R++s.R,r.W++s.W⟩
 |none=>Mb P rec g args r
def LZ(rec:CF->Qy->Nat->Option Rs)(l:Nat)(fn:FuncId)(tm:Array Value)(a b:Code)(r:CR):Option Rs:=bif ON tm.size 16000 then match rec ⟨fn,ofList tm.size tm.toList,[.code a,.beginRound,.code b],[],.run,some l⟩ r.H r.n with
 |some s=>some ⟨s.out,s.H,s.n,r.R++s.R,r.W++s.W⟩
 |none=>none
 else none
def Bp(P:Program)(Xx:Vf)(rec:CF->Qy->Nat->Option Rs)(r:CR):Option Rs:=match r.nx with
 | .val v=>some ⟨.ret v,r.H,r.n,r.R,r.W⟩
 | .enter g args=>qU P Xx rec g args r
 | .round l fn tm a b=>LZ rec l fn tm a b r
def qR(P:Program)(Xx:Vf)(rec:CF->Qy->Nat->Option Rs)(n:Nat)(x:Option CR):Option Rs:=match x with
 |some r=>bif r.R.all (fun i=>On i n)then Bp P Xx rec r else none
 |none=>none
def Mc(v:Option Value)(H:Qy)(n:Nat):Option Rs:=match v with
 |some (.iface t v)=>some ⟨.Wp (.iface t v),H,n,[],[]⟩
 |_=>none
def Bg:Op->Nat
 | .defer _=>1
 | .panic _=>2
 |_=>0
def qV(v:Option Value)(H:Qy)(n:Nat):Option Rs:=match v with
 |some v=>some ⟨.ret v,H,n,[],[]⟩
 |none=>none
def sR(P:Program)(F:FuncId->Bool)(Xx:Vf)(rec:CF->Qy->Nat->Option Rs)(T:Tm)(o:Oper)(H:Qy)(n:Nat):Option Rs:=
 match o.op with
 | .move x=>qV (Zl T x) H n
 | .assign x=>qV (Zl T x) H n
 | .pick c a b=>match Zl T c with
   |some (.bool t)=>qV (Zl T (bif t then a else b)) H n
   |_=>none
 | .alloc t=>qR P Xx rec n (FT P t H n)
 | .box t x=>qR P Xx rec n (Nb t (Zl T x) H n)
 | .build t ps=>qR P Xx rec n (FQ P t (partsOf (Zl T) ps.toList) H n)
 | .buildSlice t len ps=>qR P Xx rec n (gY P t len (partsOf (Zl T) ps.toList) H n)
 | .load t a=>qR P Xx rec n (FK P t (Zl T a) H n)
 | .store t a x=>qR P Xx rec n (yN P t (Zl T a) (Zl T x) H n)
 | .fieldAddr s x f=>qR P Xx rec n (c9 P s f (Zl T x) H n)
 | .field t x f=>qR P Xx rec n (yO P t f (Zl T x) H n)
 | .indexAddr t x i=>qR P Xx rec n (c8 P t (Zl T x) (Zl T i) H n)
 | .index t x i=>qR P Xx rec n (FM P (Zl T) o t (Zl T x) (Zl T i) H n)
 | .extract x i=>qR P Xx rec n (lu i (Zl T x) H n)
 | .makeSlice t l c=>qR P Xx rec n (L5 P t (Zl T l) (Zl T c) H n)
 | .slice t x lo hi m=>qR P Xx rec n (Bo P (Zl T) o t x lo hi m H n)
 | .makeFunc fn first captured=>qR P Xx rec n (pF P (Zl T) o fn first captured H n)
 | .makeMap _ r=>qR P Xx rec n (uf P (Zl T) o r H n)
 | .lookup t x k ok=>qR P Xx rec n (Bq P t ok (Zl T x) (Zl T k) H n)
 | .mapUpdate t m k x=>qR P Xx rec n (lr P t (Zl T m) (Zl T k) (Zl T x) H n)
 | .binOp op _ x y _=>qR P Xx rec n (Me P (Zl T) o op (Zl T x) (Zl T y) H n)
 | .nilCheck x=>qR P Xx rec n (MX (Zl T x) H n)
 | .call c=>qR P Xx rec n (dI P F (Zl T) o c H n)
 | .defer _=>none
 | .panic x=>Mc (Zl T x) H n
 |_=>qR P Xx rec n (mkPure (Kd P (Zl T) o) H n)
theorem MW{P:Program}{F:FuncId->Bool}{Xx:Vf}{rec:CF->Qy->Nat->Option Rs}{T:Tm}{o:Oper}{H:Qy}{n:Nat}(h1:∀c,o.op≠.defer c)(h2:∀x,o.op≠.panic x):bY P F Xx rec T o H n=qR P Xx rec n (Lh P F (Zl T) o H n):=by
 rw[Lg];unfold bY;split
 ·rename_i c h;exact absurd h (h1 c)
 ·rename_i x h;exact absurd h (h2 x)
 ·unfold Rd;cases sr P F (Zl T) o H n with
  |none=>rfl
  |some r=>
   simp only[qR];cases r.R.all (fun i=>On i n)with
   |false=>rfl
   |true=>
    simp only[cond_true,Bp];cases r.nx <;> rfl
theorem Rn{P:Program}{Xx:Vf}{rec:CF->Qy->Nat->Option Rs}{H:Qy}{n:Nat}(v:Option Value):qR P Xx rec n (mkPure v H n)=qV v H n:=by cases v <;> rfl
theorem Mp(P:Program)(F:FuncId->Bool)(Xx:Vf)(rec:CF->Qy->Nat->Option Rs)(T:Tm)(o:Oper)(H:Qy)(n:Nat):sR P F Xx rec T o H n=bY P F Xx rec T o H n:=by
 cases hs:Bg o.op with
 |succ k=>
  unfold sR bY;generalize o.op=p at hs;cases p <;> first|(simp[Bg]at hs;done)|rfl
 |zero=>
  rw[MW (by intro c h;rw[h]at hs;cases hs) (by intro c h;rw[h]at hs;cases hs)];unfold sR Lh;generalize hp:o.op=p at hs;cases p with
  |move x=>exact(Rn _).symm
  |assign x=>exact(Rn _).symm
  |pick c a b=>
   simp only;split
   ·exact(Rn _).symm
   ·rfl
  |defer c=>cases hs
  |panic c=>cases hs
  |_=>rfl
def PM(P:Program)(F:FuncId->Bool)(Xx:Vf)(rec:CF->Qy->Nat->Option Rs)(ops:Array Oper):List Oper->Tm->Qy->Nat->Option (List Rec×RF)
 |[],T,H,n=>some ([],.ok T H n)
 |o::l,T,H,n=>
  bif Rc T o.dst then
   bif Region.wanted o (XX ops T)then
    match sR P F Xx rec T o H n with
    |some s=>match s.out with
     | .ret v=>match PM P F Xx rec ops l (VM T o.dst v) s.H s.n with
       |some (rs,fin)=>some (⟨o,true,v,T,H,s.H,n,s.n,s.R,s.W⟩::rs,fin)
       |none=>none
     | .Wp v=>some ([],.Wp T v s.H s.n s.R s.W)
    |none=>none
   else match PM P F Xx rec ops l (VM T o.dst undef) H n with
    |some (rs,fin)=>some (⟨o,false,undef,T,H,H,n,n,[],[]⟩::rs,fin)
    |none=>none
  else none
theorem tz(P:Program)(F:FuncId->Bool)(Xx:Vf)(rec:CF->Qy->Nat->Option Rs)(ops:Array Oper):∀(l:List Oper) (T:Tm) (H:Qy) (n:Nat),PM P F Xx rec ops l T H n=fG P F Xx rec ops l T H n
 |[],_,_,_=>rfl
 |o::l,T,H,n=>by simp only[PM,fG,Mp,tz P F Xx rec ops l];rfl
def FN(c:CF)(k:List Item)(H:Qy)(n:Nat):Option FS:=some (.go {c with todo:=k} H n [] [])
def Ma(c:CF)(ops:Array Oper)(draw:Bool)(k:List Item):Option (List Rec×RF)->Option FS
 |some (Q4,.ok T' H' n')=>bif !draw || (Ve 0 ops.toList && indep ops 0 Q4 (Pq ops.toList []))then some (.go {c with tmps:=T',todo:=k} H' n' (Y9 Q4) (Up Q4))else none
 |some (Q4,.Wp T' v H' n' R W)=>bif !draw || Tu ops Q4 T' then some (.go {c with tmps:=T',mode:=.Wp v} H' n' (Y9 Q4++R) (Up Q4++W))else none
 |none=>none
def Iy(c:CF)(k:List Item)(l:Nat)(ds R1 R2:List Nat):Option Rs->Option FS
 |some s=>match s.out with
  | .ret _=>some (.go {c with todo:=.endRangeFunc l::k,defers:=ds++c.defers} s.H s.n (R1++R2++s.R) s.W)
  | .Wp v=>some (.go {c with mode:=.Wp v,defers:=ds++c.defers} s.H s.n (R1++R2++s.R) s.W)
 |none=>none
def FI(P:Program)(F:FuncId->Bool)(rec:CF->Qy->Nat->Option Rs)(c:CF)(params:Array Tmp)(assign body:Code)(k:List Item)(H:Qy)(n:Nat):Option Value->Option FS
 |some fv=>match Kw c H n params assign body with
  |some (H1,l,ds,R1)=>match RI F H1 fv #[.func (.yield l) #[] #[]]with
   |some (.enter g args,R2)=>match ZW P g args with
    |some c1=>Iy c k l ds R1 R2 (rec c1 H1 (l+1))
    |none=>none
   |_=>none
  |none=>none
 |none=>none
def MZ(c:CF)(a b:Code)(k:List Item)(H:Qy)(n:Nat):Option Value->Option FS
 |some (.bool t)=>FN c (.code (bif t then a else b)::k) H n
 |_=>none
def FL(c:CF)(H:Qy)(n:Nat)(j:Code):Option (List Item)->Option FS
 |some k'=>FN c k' H n
 |none=>RT c H n (some j)
def gX(P:Program)(F:FuncId->Bool)(Xx:Vf)(rec:CF->Qy->Nat->Option Rs)(c:CF)(k:List Item)(H:Qy)(n:Nat):Code->Option FS
 | .ret=>RT c H n (some .ret)
 | .skip=>FN c k H n
 | .label _=>FN c k H n
 | .seq a b=>FN c (.code a::.code b::k) H n
 | .cond x a b=>MZ c a b k H n (Zl c.tmps x)
 | .block id b=>FN c (.code b::.inBlock id::k) H n
 | .loop b=>FN c (.code b::.inLoop b::k) H n
 | .scope b=>FN c (.code b::.inScope b::k) H n
 | .exit id=>FL c H n (.exit id) (exitTo id k)
 | .goto l=>FL c H n (.goto l) (gotoIn l k)
 | .region _ ops draw=>Ma c ops draw k (PM P F Xx rec ops ops.toList c.tmps H n)
 | .rangeFunc f params assign body=>FI P F rec c params assign body k H n (Zl c.tmps f)
 |_=>none
def Md(c:CF)(l:Nat)(k:List Item)(H:Qy)(n:Nat):Option FS:=match Q1 H l with
 |some (.loop r)=>bif !(decide (r.state=.busy))then some (.go {c with todo:=(r.pending.map Item.code).toList++k} (VK H l (.loop {r with state:=.exhausted})) n [l] [l])else none
 |_=>none
def Mf(c:CF)(k:List Item)(H:Qy)(n:Nat):Option FS:=match c.roundOf with
 |some l=>match Q1 H l with
  |some (.loop r)=>bif decide (r.state=.ready)then some (.go {c with todo:=k} (VK H l (.loop {r with state:=.busy})) n [l] [l])else none
  |_=>none
 |none=>none
def gW(P:Program)(F:FuncId->Bool)(Xx:Vf)(rec:CF->Qy->Nat->Option Rs)(c:CF)(k:List Item)(H:Qy)(n:Nat):Item->Option FS
 | .code cd=>gX P F Xx rec c k H n cd
 | .inBlock _=>FN c k H n
 | .inScope _=>FN c k H n
 | .inLoop b=>FN c (.code b::.inLoop b::k) H n
 | .endRangeFunc l=>Md c l k H n
 | .beginRound=>Mf c k H n
 |_=>none
def NB(P:Program)(c:CF)(H:Qy)(n:Nat):Option FS:=match c.defers with
 |d::ds=>match Q1 H d with
  |some (.deferred (some []))=>some (.go {c with defers:=ds} (VK H d (.deferred none)) n [d] [d])
  |_=>none
 |[]=>match c.mode with
  | .Wp v=>bif IU P c.fn then some (.done (.Wp v) H n [] [])else none
  |_=>match c.roundOf,tG P c.fn H c.tmps with
   |none,some (v,R)=>some (.done (.ret v) H n R [])
   |_,_=>none
def gE(P:Program)(F:FuncId->Bool)(Xx:Vf)(rec:CF->Qy->Nat->Option Rs)(c:CF)(H:Qy)(n:Nat):Option FS:=
 match c.mode with
 | .run=>match c.todo with
   |[]=>RT c H n none
   |it::k=>gW P F Xx rec c k H n it
 |_=>NB P c H n
theorem Er(P:Program)(F:FuncId->Bool)(Xx:Vf)(rec:CF->Qy->Nat->Option Rs)(c:CF)(H:Qy)(n:Nat):gE P F Xx rec c H n=RB P F Xx rec c H n:=by
 obtain⟨fn,tmps,todo,defers,mode,ro⟩:=c;unfold gE RB;cases mode with
 |run=>
  cases todo with
  |nil=>rfl
  |cons it k=>
   cases it with
   |code cd=>
    cases cd with
    |region id ops draw=>
     simp only[gW,gX,tz];cases fG P F Xx rec ops ops.toList tmps H n with
     |none=>rfl
     |some x=>
      obtain⟨Q4,fin⟩:=x;cases fin <;> rfl
    |rangeFunc f ps assign body=>
     simp only[gW,gX,FI];cases Zl tmps f with
     |none=>rfl
     |some fv=>
      simp only;cases Kw ⟨fn,tmps,.code (.rangeFunc f ps assign body)::k,defers,.run,ro⟩ H n ps assign body with
      |none=>rfl
      |some x=>
       obtain⟨H1,l,ds,R1⟩:=x;simp only;cases RI F H1 fv #[.func (.yield l) #[] #[]]with
       |none=>rfl
       |some y=>
        obtain⟨nx,R2⟩:=y;cases nx with
        |enter g args=>
         simp only;cases ZW P g args with
         |none=>rfl
         |some c1=>
          simp only;cases rec c1 H1 (l+1)with
          |none=>rfl
          |some s=>obtain⟨o,_,_,_,_⟩:=s;cases o <;> rfl
        |_=>rfl
    |cond x a b=>
     simp only[gW,gX];cases Zl tmps x with
     |none=>rfl
     |some v=>cases v <;> rfl
    |exit id=>simp only[gW,gX];cases exitTo id k <;> rfl
    |goto id=>simp only[gW,gX];cases gotoIn id k <;> rfl
    |_=>rfl
   |_=>rfl
 |ret=>rfl
 |Wp v=>rfl
def Pa(P:Program)(F:FuncId->Bool)(Xx:Vf):Nat->Nat->CF->Qy->Nat->List Nat->List Nat->Option Rs
 |0,_,_,_,_,_,_=>none
 |fuel+1,b,c,H,n,R,W=>
  match gE P F Xx (fun c1 H1 n1=>Pa P F Xx fuel n1 c1 H1 n1 [] []) c H n with
  |some (.go c' H' n' R' W')=>Pa P F Xx fuel b c' H' n' (ZR b R' R) (ZR b W' W)
  |some (.done out H' n' R' W')=>some ⟨out,H',n',ZR b R' R,ZR b W' W⟩
  |none=>none
theorem od(P:Program)(F:FuncId->Bool)(Xx:Vf):∀(fuel b:Nat) (c:CF) (H:Qy) (n:Nat) (R W:List Nat),Pa P F Xx fuel b c H n R W=oP P F Xx fuel b c H n R W
 |0,_,_,_,_,_,_=>rfl
 |fuel+1,b,c,H,n,R,W=>by
  simp only[Pa,oP,Er,od P F Xx fuel];rfl
end Go.CE
