/- CE: the canonical machine again, its cases in small pieces: the kernel evaluates it quicker. -/
import Derived.Test.YtncjjangllkokaaZRS04
set_option linter.all false
open Nat renaming ble->LR,blt->Lr
namespace Go.CE
open Go Go.RowKit

def Gj(P:Program)(t:TypeId)(H:Qt)(n:Nat):Option CR:=match zeroOf P t with
 |some z=>bif af z then some ⟨.val (zW n),(n,.cells z.cells t (0,0))::H,n+1,[],[]⟩else none
 |none=>none
def O4(t:TypeId)(x:Option Value)(H:Qt)(n:Nat):Option CR:=match x with
 |some v=>some ⟨.val (zW n),(n,.cells v.cells t (0,0))::H,n+1,[],[]⟩
 |none=>none
def Gi(P:Program)(t:TypeId)(l:Option (List (Nat×Value)))(H:Qt)(n:Nat):Option CR:=match l with
 |some l=>mkPure (s5 P t l) H n
 |none=>none
def ik(P:Program)(t:TypeId)(len:Nat)(l:Option (List (Nat×Value)))(H:Qt)(n:Nat):Option CR:=match l with
 |some l=>match Sb P t len l with
  |some (e,cs,s)=>some ⟨.val (.slice (some ⟨n,0,none⟩) len s),(n,.cells cs e (0,0))::H,n+1,[],[]⟩
  |none=>bif jT P t len l then some ⟨.val bc,H,n,[],[]⟩else none
 |none=>none
def Gb(P:Program)(t:TypeId)(a:Option Value)(H:Qt)(n:Nat):Option CR:=match a with
 |some p=>match Th P t H p with
  |some (v,b)=>some ⟨.val v,H,n,[b],[]⟩
  |none=>none
 |none=>none
def yN(P:Program)(t:TypeId)(a x:Option Value)(H:Qt)(n:Nat):Option CR:=match a,x with
 |some p,some v=>match Su P t H v p with
  |some (H',b)=>some ⟨.val undef,H',n,[b],[b]⟩
  |none=>none
 |_,_=>none
def cQ(P:Program)(s:TypeId)(f:Nat)(x:Option Value)(H:Qt)(n:Nat):Option CR:=match x with
 |some p=>mkPure (Wd P s f p) H n
 |none=>none
def yO(P:Program)(s:TypeId)(f:Nat)(x:Option Value)(H:Qt)(n:Nat):Option CR:=match x with
 |some p=>mkPure (gY P s f p) H n
 |none=>none
def cP(P:Program)(t:TypeId)(x i:Option Value)(H:Qt)(n:Nat):Option CR:=match x,i with
 |some v,some k=>mkPure (Jd P t v k) H n
 |_,_=>none
def Ge(P:Program)(ev:Operand->Option Value)(o:Oper)(t:TypeId)(x i:Option Value)(H:Qt)(n:Nat):Option CR:=match x,i with
 |some (.agg cs),some k=>mkPure (sx P t (.agg cs) k) H n
 |_,_=>mkPure (UN P ev o) H n
def l5(i:Nat)(x:Option Value)(H:Qt)(n:Nat):Option CR:=match x with
 |some v=>mkPure (Ti i v) H n
 |none=>none
def MQ(P:Program)(t:TypeId)(l c:Option Value)(H:Qt)(n:Nat):Option CR:=match l,c with
 |some x,some y=>match Tg P t x y with
  |some (e,cs,l,s)=>some ⟨.val (.slice (some ⟨n,0,none⟩) l s),(n,.cells cs e (0,0))::H,n+1,[],[]⟩
  |none=>none
 |_,_=>none
def Ny(P:Program)(ev:Operand->Option Value)(o:Oper)(t:TypeId)(x:Option Value)(lo hi:Option (Option Value))(H:Qt)(n:Nat):Option CR:=match x,lo,hi with
 |some (.slice (some a) m s),some l,some h=>mkPure (gW P t (.slice (some a) m s) l h) H n
 |some (.pointer p),some l,some h=>mkPure (gW P t (.pointer p) l h) H n
 |_,_,_=>mkPure (UN P ev o) H n
def Bp(P:Program)(ev:Operand->Option Value)(o:Oper)(t:TypeId)(x:Operand)(lo hi m:Option Operand)(H:Qt)(n:Nat):Option CR:=match m with
 |none=>Ny P ev o t (ev x) (Hy ev lo) (Hy ev hi) H n
 |some mx=>match hi with
  |some h=>bif ck P t (ev x) (Hy ev lo) (ev h) (ev mx)then some ⟨.val bc,H,n,[],[]⟩else mkPure (UN P ev o) H n
  |none=>mkPure (UN P ev o) H n
def pC(P:Program)(ev:Operand->Option Value)(o:Oper)(fn:Fn)(first captured:Array Operand)(H:Qt)(n:Nat):Option CR:=match fn with
 | .func f=>match Rt ev first.toList,Rt ev captured.toList with
   |some xs,some ys=>some ⟨.val (.func (.func f) xs.toArray ys.toArray),H,n,[],[]⟩
   |_,_=>none
 |_=>mkPure (UN P ev o) H n
def ur(P:Program)(ev:Operand->Option Value)(o:Oper)(r:Option Operand)(H:Qt)(n:Nat):Option CR:=match r with
 |none=>some ⟨.val (.map (some n)),(n,.map #[] 0)::H,n+1,[],[]⟩
 |some _=>mkPure (UN P ev o) H n
def Br(P:Program)(t:TypeId)(ok:Bool)(x k:Option Value)(H:Qt)(n:Nat):Option CR:=match x,k with
 |some m,some kv=>match fY P t H ok m kv with
  |some (v,R)=>some ⟨.val v,H,n,R,[]⟩
  |none=>none
 |_,_=>none
def lz(P:Program)(t:TypeId)(m k x:Option Value)(H:Qt)(n:Nat):Option CR:=match m,k,x with
 |some mv,some kv,some v=>match Jc P t H mv kv v with
  |some (H',b)=>some ⟨.val undef,H',n,[b],[b]⟩
  |none=>none
 |_,_,_=>none
def N4(P:Program)(ev:Operand->Option Value)(o:Oper)(op:BinOp)(x y:Option Value)(H:Qt)(n:Nat):Option CR:=match x,y with
 |some a,some b=>match AN op a b with
  |some v=>some ⟨.val v,H,n,[],[]⟩
  |none=>mkPure (UN P ev o) H n
 |_,_=>none
def O0(x:Option Value)(H:Qt)(n:Nat):Option CR:=match x with
 |some (.pointer (some a))=>some ⟨.val (.pointer (some a)),H,n,[],[]⟩
 |some (.func (.func f) xs ys)=>some ⟨.val (.func (.func f) xs ys),H,n,[],[]⟩
 |some (.func (.yield f) xs ys)=>some ⟨.val (.func (.yield f) xs ys),H,n,[],[]⟩
 |_=>none
def O3(F:FuncId->Bool)(f:Option Value)(args:Option (List Value))(H:Qt)(n:Nat):Option CR:=match f,args with
 |some fv,some args=>match Sa F H fv args.toArray with
  |some (nx,R)=>some ⟨nx,H,n,R,[]⟩
  |none=>none
 |_,_=>none
def IX(P:Program)(ev:Operand->Option Value)(c:Call)(H:Qt)(n:Nat):Option CR:=match c.args.toList,c.argTypes.toList with
 |[s,x],[t,t']=>match ev s,ev x with
  |some sv,some xv=>xY P t t' H n sv xv
  |_,_=>none
 |_,_=>none
def Qae(P:Program)(ev:Operand->Option Value)(o:Oper)(c:Call)(H:Qt)(n:Nat):Option CR:=match c.args.toList,c.argTypes.toList with
 |[x],[t]=>match ev x,R5 P t with
  |some (.slice (some _) m _),some (.slice _)=>some ⟨.val (.int .i64 m),H,n,[],[]⟩
  |some (.chan (some 0)),some (.slice _)=>some ⟨.val (.int .i64 0),H,n,[],[]⟩
  |_,_=>mkPure (UN P ev o) H n
 |_,_=>none
def O1(P:Program)(ev:Operand->Option Value)(c:Call)(H:Qt)(n:Nat):Option CR:=match c.args.toList,c.argTypes.toList with
 |[s,x],[t,_]=>match ev s,ev x with
  |some sv,some xv=>xW P t H n sv xv
  |_,_=>none
 |_,_=>none
def Gh(P:Program)(ev:Operand->Option Value)(o:Oper)(c:Call)(b:Builtin)(H:Qt)(n:Nat):Option CR:=match b with
 | .append=>IX P ev c H n
 | .len=>Qae P ev o c H n
 | .copy=>O1 P ev c H n
 |_=>mkPure (UN P ev o) H n
def eN(P:Program)(F:FuncId->Bool)(ev:Operand->Option Value)(o:Oper)(c:Call)(H:Qt)(n:Nat):Option CR:=match c.callee with
 | .builtin b=>Gh P ev o c b H n
 | .value f=>O3 F (ev f) (Rt ev c.args.toList) H n
 |_=>none
def M8(P:Program)(F:FuncId->Bool)(ev:Operand->Option Value)(o:Oper)(H:Qt)(n:Nat):Option CR:=
 match o.op with
 | .move x=>mkPure (ev x) H n
 | .assign x=>mkPure (ev x) H n
 | .pick c a b=>match ev c with
   |some (.bool t)=>mkPure (ev (bif t then a else b)) H n
   |_=>none
 | .alloc t=>Gj P t H n
 | .box t x=>O4 t (ev x) H n
 | .build t ps=>Gi P t (partsOf ev ps.toList) H n
 | .buildSlice t len ps=>ik P t len (partsOf ev ps.toList) H n
 | .load t a=>Gb P t (ev a) H n
 | .store t a x=>yN P t (ev a) (ev x) H n
 | .fieldAddr s x f=>cQ P s f (ev x) H n
 | .field t x f=>yO P t f (ev x) H n
 | .indexAddr t x i=>cP P t (ev x) (ev i) H n
 | .index t x i=>Ge P ev o t (ev x) (ev i) H n
 | .extract x i=>l5 i (ev x) H n
 | .makeSlice t l c=>MQ P t (ev l) (ev c) H n
 | .slice t x lo hi m=>Bp P ev o t x lo hi m H n
 | .makeFunc fn first captured=>pC P ev o fn first captured H n
 | .makeMap _ r=>ur P ev o r H n
 | .lookup t x k ok=>Br P t ok (ev x) (ev k) H n
 | .mapUpdate t m k x=>lz P t (ev m) (ev k) (ev x) H n
 | .binOp op _ x y _=>N4 P ev o op (ev x) (ev y) H n
 | .nilCheck x=>O0 (ev x) H n
 | .call c=>eN P F ev o c H n
 |_=>mkPure (UN P ev o) H n
theorem M7(P:Program)(F:FuncId->Bool)(ev:Operand->Option Value)(o:Oper)(H:Qt)(n:Nat):M8 P F ev o H n=sL P F ev o H n:=by
 unfold M8 sL;cases o.op with
 |slice t x lo hi m=>cases m <;> cases hi <;> rfl
 |makeFunc fn a b=>cases fn <;> rfl
 |makeMap t r=>cases r <;> rfl
 |call c=>
  simp only[eN];cases c.callee with
  |builtin b=>cases b <;> rfl
  |value f=>rfl
  |invoke a b=>rfl
 |_=>rfl
def Gg(r:CR)(s:Rs):Option Rs:=match Jj r.H s with
 |s=>some ⟨s.out,s.H,s.n,r.R++s.R,r.W++s.W⟩
def N1(P:Program)(rec:CF->Qt->Nat->Option Rs)(g:FuncId)(args:Array Value)(r:CR):Option Rs:=match ZY P g args with
 |some c=>match rec c r.H r.n with
  |some s=>Gg r s
  |none=>none
 |none=>none
def qN(P:Program)(Xu:WW)(rec:CF->Qt->Nat->Option Rs)(g:FuncId)(args:Array Value)(r:CR):Option Rs:=match Xu g args r.H r.n with
 |some s=>some ⟨s.out,s.H,s.n,r.R++s.R,r.W++s.W⟩
 |none=>N1 P rec g args r
def Nz(rec:CF->Qt->Nat->Option Rs)(l:Nat)(fn:FuncId)(tm:Array Value)(a b:Code)(r:CR):Option Rs:=bif LR tm.size 16000 then match rec ⟨fn,ofList tm.size tm.toList,[.code a,.beginRound,.code b],[],.run,some l⟩ r.H r.n with
 |some s=>some ⟨s.out,s.H,s.n,r.R++s.R,r.W++s.W⟩
 |none=>none
 else none
def Bq(P:Program)(Xu:WW)(rec:CF->Qt->Nat->Option Rs)(r:CR):Option Rs:=match r.nx with
 | .val v=>some ⟨.ret v,r.H,r.n,r.R,r.W⟩
 | .enter g args=>qN P Xu rec g args r
 | .round l fn tm a b=>Nz rec l fn tm a b r
def qR(P:Program)(Xu:WW)(rec:CF->Qt->Nat->Option Rs)(n:Nat)(x:Option CR):Option Rs:=match x with
 |some r=>bif r.R.all (fun i=>Lr i n)then Bq P Xu rec r else none
 |none=>none
def N2(v:Option Value)(H:Qt)(n:Nat):Option Rs:=match v with
 |some (.iface t v)=>some ⟨.We (.iface t v),H,n,[],[]⟩
 |_=>none
def Be:Op->Nat
 | .defer _=>1
 | .panic _=>2
 |_=>0
def qV(v:Option Value)(H:Qt)(n:Nat):Option Rs:=match v with
 |some v=>some ⟨.ret v,H,n,[],[]⟩
 |none=>none
def sJ(P:Program)(F:FuncId->Bool)(Xu:WW)(rec:CF->Qt->Nat->Option Rs)(T:Tm)(o:Oper)(H:Qt)(n:Nat):Option Rs:=
 match o.op with
 | .move x=>qV (Zd T x) H n
 | .assign x=>qV (Zd T x) H n
 | .pick c a b=>match Zd T c with
   |some (.bool t)=>qV (Zd T (bif t then a else b)) H n
   |_=>none
 | .alloc t=>qR P Xu rec n (Gj P t H n)
 | .box t x=>qR P Xu rec n (O4 t (Zd T x) H n)
 | .build t ps=>qR P Xu rec n (Gi P t (partsOf (Zd T) ps.toList) H n)
 | .buildSlice t len ps=>qR P Xu rec n (ik P t len (partsOf (Zd T) ps.toList) H n)
 | .load t a=>qR P Xu rec n (Gb P t (Zd T a) H n)
 | .store t a x=>qR P Xu rec n (yN P t (Zd T a) (Zd T x) H n)
 | .fieldAddr s x f=>qR P Xu rec n (cQ P s f (Zd T x) H n)
 | .field t x f=>qR P Xu rec n (yO P t f (Zd T x) H n)
 | .indexAddr t x i=>qR P Xu rec n (cP P t (Zd T x) (Zd T i) H n)
 | .index t x i=>qR P Xu rec n (Ge P (Zd T) o t (Zd T x) (Zd T i) H n)
 | .extract x i=>qR P Xu rec n (l5 i (Zd T x) H n)
 | .makeSlice t l c=>qR P Xu rec n (MQ P t (Zd T l) (Zd T c) H n)
 | .slice t x lo hi m=>qR P Xu rec n (Bp P (Zd T) o t x lo hi m H n)
 | .makeFunc fn first captured=>qR P Xu rec n (pC P (Zd T) o fn first captured H n)
 | .makeMap _ r=>qR P Xu rec n (ur P (Zd T) o r H n)
 | .lookup t x k ok=>qR P Xu rec n (Br P t ok (Zd T x) (Zd T k) H n)
 | .mapUpdate t m k x=>qR P Xu rec n (lz P t (Zd T m) (Zd T k) (Zd T x) H n)
 | .binOp op _ x y _=>qR P Xu rec n (N4 P (Zd T) o op (Zd T x) (Zd T y) H n)
 | .nilCheck x=>qR P Xu rec n (O0 (Zd T x) H n)
 | .call c=>qR P Xu rec n (eN P F (Zd T) o c H n)
 | .defer _=>none
 | .panic x=>N2 (Zd T x) H n
 |_=>qR P Xu rec n (mkPure (UN P (Zd T) o) H n)
theorem Oz{P:Program}{F:FuncId->Bool}{Xu:WW}{rec:CF->Qt->Nat->Option Rs}{T:Tm}{o:Oper}{H:Qt}{n:Nat}(h1:∀c,o.op≠.defer c)(h2:∀x,o.op≠.panic x):dn P F Xu rec T o H n=qR P Xu rec n (M8 P F (Zd T) o H n):=by
 rw[M7];unfold dn;split
 ·rename_i c h;exact absurd h (h1 c)
 ·rename_i x h;exact absurd h (h2 x)
 ·unfold Ss;cases sL P F (Zd T) o H n with
  |none=>rfl
  |some r=>
   simp only[qR];cases r.R.all (fun i=>Lr i n)with
   |false=>rfl
   |true=>
    simp only[cond_true,Bq];cases r.nx <;> rfl
theorem RG{P:Program}{Xu:WW}{rec:CF->Qt->Nat->Option Rs}{H:Qt}{n:Nat}(v:Option Value):qR P Xu rec n (mkPure v H n)=qV v H n:=by cases v <;> rfl
theorem NG(P:Program)(F:FuncId->Bool)(Xu:WW)(rec:CF->Qt->Nat->Option Rs)(T:Tm)(o:Oper)(H:Qt)(n:Nat):sJ P F Xu rec T o H n=dn P F Xu rec T o H n:=by
 cases hs:Be o.op with
 |succ k=>
  unfold sJ dn;generalize o.op=p at hs;cases p <;> first|(simp[Be]at hs;done)|rfl
 |zero=>
  rw[Oz (by intro c h;rw[h]at hs;cases hs) (by intro c h;rw[h]at hs;cases hs)];unfold sJ M8;generalize hp:o.op=p at hs;cases p with
  |move x=>exact(RG _).symm
  |assign x=>exact(RG _).symm
  |pick c a b=>
   simp only;split
   ·exact(RG _).symm
   ·rfl
  |defer c=>cases hs
  |panic c=>cases hs
  |_=>rfl
def PH(P:Program)(F:FuncId->Bool)(Xu:WW)(rec:CF->Qt->Nat->Option Rs)(ops:Array Oper):List Oper->Tm->Qt->Nat->Option (List Rec×RF)
 |[],T,H,n=>some ([],.ok T H n)
 |o::l,T,H,n=>
  bif Rq T o.dst then
   bif Region.wanted o (XO ops T)then
    match sJ P F Xu rec T o H n with
    |some s=>match s.out with
     | .ret v=>match PH P F Xu rec ops l (VB T o.dst v) s.H s.n with
       |some (rs,fin)=>some (⟨o,true,v,T,H,s.H,n,s.n,s.R,s.W⟩::rs,fin)
       |none=>none
     | .We v=>some ([],.We T v s.H s.n s.R s.W)
    |none=>none
   else match PH P F Xu rec ops l (VB T o.dst undef) H n with
    |some (rs,fin)=>some (⟨o,false,undef,T,H,H,n,n,[],[]⟩::rs,fin)
    |none=>none
  else none
theorem ti(P:Program)(F:FuncId->Bool)(Xu:WW)(rec:CF->Qt->Nat->Option Rs)(ops:Array Oper):∀(l:List Oper) (T:Tm) (H:Qt) (n:Nat),PH P F Xu rec ops l T H n=gq P F Xu rec ops l T H n
 |[],_,_,_=>rfl
 |o::l,T,H,n=>by simp only[PH,gq,NG,ti P F Xu rec ops l];rfl
def Gf(c:CF)(k:List Item)(H:Qt)(n:Nat):Option FS:=some (.go {c with todo:=k} H n [] [])
def N0(c:CF)(ops:Array Oper)(draw:Bool)(k:List Item):Option (List Rec×RF)->Option FS
 |some (Qz,.ok T' H' n')=>bif !draw || (WV 0 ops.toList && indep ops 0 Qz (Py ops.toList []))then some (.go {c with tmps:=T',todo:=k} H' n' (Y5 Qz) (Ub Qz))else none
 |some (Qz,.We T' v H' n' R W)=>bif !draw || TI ops Qz T' then some (.go {c with tmps:=T',mode:=.We v} H' n' (Y5 Qz++R) (Ub Qz++W))else none
 |none=>none
def IW(c:CF)(k:List Item)(l:Nat)(ds R1 R2:List Nat):Option Rs->Option FS
 |some s=>match s.out with
  | .ret _=>some (.go {c with todo:=.endRangeFunc l::k,defers:=ds++c.defers} s.H s.n (R1++R2++s.R) s.W)
  | .We v=>some (.go {c with mode:=.We v,defers:=ds++c.defers} s.H s.n (R1++R2++s.R) s.W)
 |none=>none
def Ga(P:Program)(F:FuncId->Bool)(rec:CF->Qt->Nat->Option Rs)(c:CF)(params:Array Tmp)(assign body:Code)(k:List Item)(H:Qt)(n:Nat):Option Value->Option FS
 |some fv=>match Kh c H n params assign body with
  |some (H1,l,ds,R1)=>match Sa F H1 fv #[.func (.yield l) #[] #[]]with
   |some (.enter g args,R2)=>match ZY P g args with
    |some c1=>IW c k l ds R1 R2 (rec c1 H1 (l+1))
    |none=>none
   |_=>none
  |none=>none
 |none=>none
def O2(c:CF)(a b:Code)(k:List Item)(H:Qt)(n:Nat):Option Value->Option FS
 |some (.bool t)=>Gf c (.code (bif t then a else b)::k) H n
 |_=>none
def Gd(c:CF)(H:Qt)(n:Nat)(j:Code):Option (List Item)->Option FS
 |some k'=>Gf c k' H n
 |none=>Sl c H n (some j)
def ij(P:Program)(F:FuncId->Bool)(Xu:WW)(rec:CF->Qt->Nat->Option Rs)(c:CF)(k:List Item)(H:Qt)(n:Nat):Code->Option FS
 | .ret=>Sl c H n (some .ret)
 | .skip=>Gf c k H n
 | .label _=>Gf c k H n
 | .seq a b=>Gf c (.code a::.code b::k) H n
 | .cond x a b=>O2 c a b k H n (Zd c.tmps x)
 | .block id b=>Gf c (.code b::.inBlock id::k) H n
 | .loop b=>Gf c (.code b::.inLoop b::k) H n
 | .scope b=>Gf c (.code b::.inScope b::k) H n
 | .exit id=>Gd c H n (.exit id) (exitTo id k)
 | .goto l=>Gd c H n (.goto l) (gotoIn l k)
 | .region _ ops draw=>N0 c ops draw k (PH P F Xu rec ops ops.toList c.tmps H n)
 | .rangeFunc f params assign body=>Ga P F rec c params assign body k H n (Zd c.tmps f)
 |_=>none
def N3(c:CF)(l:Nat)(k:List Item)(H:Qt)(n:Nat):Option FS:=match Qw H l with
 |some (.loop r)=>bif !(decide (r.state=.busy))then some (.go {c with todo:=(r.pending.map Item.code).toList++k} (VA H l (.loop {r with state:=.exhausted})) n [l] [l])else none
 |_=>none
def N5(c:CF)(k:List Item)(H:Qt)(n:Nat):Option FS:=match c.roundOf with
 |some l=>match Qw H l with
  |some (.loop r)=>bif decide (r.state=.ready)then some (.go {c with todo:=k} (VA H l (.loop {r with state:=.busy})) n [l] [l])else none
  |_=>none
 |none=>none
def ig(P:Program)(F:FuncId->Bool)(Xu:WW)(rec:CF->Qt->Nat->Option Rs)(c:CF)(k:List Item)(H:Qt)(n:Nat):Item->Option FS
 | .code cd=>ij P F Xu rec c k H n cd
 | .inBlock _=>Gf c k H n
 | .inScope _=>Gf c k H n
 | .inLoop b=>Gf c (.code b::.inLoop b::k) H n
 | .endRangeFunc l=>N3 c l k H n
 | .beginRound=>N5 c k H n
 |_=>none
def Qaf(P:Program)(c:CF)(H:Qt)(n:Nat):Option FS:=match c.defers with
 |d::ds=>match Qw H d with
  |some (.deferred (some []))=>some (.go {c with defers:=ds} (VA H d (.deferred none)) n [d] [d])
  |_=>none
 |[]=>match c.mode with
  | .We v=>bif Mt P c.fn then some (.done (.We v) H n [] [])else none
  |_=>match c.roundOf,tt P c.fn H c.tmps with
   |none,some (v,R)=>some (.done (.ret v) H n R [])
   |_,_=>none
def gP(P:Program)(F:FuncId->Bool)(Xu:WW)(rec:CF->Qt->Nat->Option Rs)(c:CF)(H:Qt)(n:Nat):Option FS:=
 match c.mode with
 | .run=>match c.todo with
   |[]=>Sl c H n none
   |it::k=>ig P F Xu rec c k H n it
 |_=>Qaf P c H n
theorem DS(P:Program)(F:FuncId->Bool)(Xu:WW)(rec:CF->Qt->Nat->Option Rs)(c:CF)(H:Qt)(n:Nat):gP P F Xu rec c H n=RV P F Xu rec c H n:=by
 obtain⟨fn,tmps,todo,defers,mode,ro⟩:=c;unfold gP RV;cases mode with
 |run=>
  cases todo with
  |nil=>rfl
  |cons it k=>
   cases it with
   |code cd=>
    cases cd with
    |region id ops draw=>
     simp only[ig,ij,ti];cases gq P F Xu rec ops ops.toList tmps H n with
     |none=>rfl
     |some x=>
      obtain⟨Qz,fin⟩:=x;cases fin <;> rfl
    |rangeFunc f ps assign body=>
     simp only[ig,ij,Ga];cases Zd tmps f with
     |none=>rfl
     |some fv=>
      simp only;cases Kh ⟨fn,tmps,.code (.rangeFunc f ps assign body)::k,defers,.run,ro⟩ H n ps assign body with
      |none=>rfl
      |some x=>
       obtain⟨H1,l,ds,R1⟩:=x;simp only;cases Sa F H1 fv #[.func (.yield l) #[] #[]]with
       |none=>rfl
       |some y=>
        obtain⟨nx,R2⟩:=y;cases nx with
        |enter g args=>
         simp only;cases ZY P g args with
         |none=>rfl
         |some c1=>
          simp only;cases rec c1 H1 (l+1)with
          |none=>rfl
          |some s=>obtain⟨o,_,_,_,_⟩:=s;cases o <;> rfl
        |_=>rfl
    |cond x a b=>
     simp only[ig,ij];cases Zd tmps x with
     |none=>rfl
     |some v=>cases v <;> rfl
    |exit id=>simp only[ig,ij];cases exitTo id k <;> rfl
    |goto id=>simp only[ig,ij];cases gotoIn id k <;> rfl
    |_=>rfl
   |_=>rfl
 |ret=>rfl
 |We v=>rfl
def Pd(P:Program)(F:FuncId->Bool)(Xu:WW):Nat->Nat->CF->Qt->Nat->List Nat->List Nat->Option Rs
 |0,_,_,_,_,_,_=>none
 |fuel+1,b,c,H,n,R,W=>
  match gP P F Xu (fun c1 H1 n1=>Pd P F Xu fuel n1 c1 H1 n1 [] []) c H n with
  |some (.go c' H' n' R' W')=>Pd P F Xu fuel b c' H' n' (ZT b R' R) (ZT b W' W)
  |some (.done out H' n' R' W')=>some ⟨out,H',n',ZT b R' R,ZT b W' W⟩
  |none=>none
theorem nV(P:Program)(F:FuncId->Bool)(Xu:WW):∀(fuel b:Nat) (c:CF) (H:Qt) (n:Nat) (R W:List Nat),Pd P F Xu fuel b c H n R W=oK P F Xu fuel b c H n R W
 |0,_,_,_,_,_,_=>rfl
 |fuel+1,b,c,H,n,R,W=>by
  simp only[Pd,oK,DS,nV P F Xu fuel];rfl
end Go.CE
