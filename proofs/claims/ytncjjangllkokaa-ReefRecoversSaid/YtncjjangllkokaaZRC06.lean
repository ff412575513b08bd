/- CE: the canonical machine a third time: by recursors alone where much time goes. -/
import Derived.Test.YtncjjangllkokaaZRC05
set_option linter.all false
open Bool renaming rec->Nt
open Nat renaming beq->MQ,ble->Nr,blt->MY
open Array renaming getElem?_toList->MX
namespace Go.CE
open Go Go.RowKit
noncomputable section

def eB(t:Tri):Nat->Value:=Tri.rec (fun _=>undef) (fun _ v _ gl gr k=>Nat.rec v (fun j _=>Nt (gr (Nat.div j 2)) (gl (Nat.div j 2)) (MQ (Nat.mod j 2) 0)) k) t
theorem al:∀(t:Tri) (k:Nat),eB t k=t.get k
 | .lf,k=>by cases k <;> rfl
 | .nd l v r,0=>rfl
 | .nd l v r,k+1=>by
   show(Nt (eB r (k / 2)) (eB l (k / 2)) (MQ (k % 2) 0):Value)=bif MQ (k % 2) 0 then l.get (k / 2)else r.get (k / 2);rw[al l,al r];cases MQ (k % 2) 0 <;> rfl
def b6(f:Nat):Tri->Nat->Value->Tri:=Nat.rec (fun t _ _=>t) (fun _ ih t i x=>Tri.rec
 (Nat.rec (.nd .lf x .lf) (fun j _=>Nt (.nd .lf undef (ih .lf (Nat.div j 2) x)) (.nd (ih .lf (Nat.div j 2) x) undef .lf) (MQ (Nat.mod j 2) 0)) i)
 (fun l v r _ _=>Nat.rec (.nd l x r) (fun j _=>Nt (.nd l v (ih r (Nat.div j 2) x)) (.nd (ih l (Nat.div j 2) x) v r) (MQ (Nat.mod j 2) 0)) i) t) f
theorem ak:∀(f:Nat) (t:Tri) (i:Nat) (x:Value),b6 f t i x=Tri.set f t i x
 |0,_,_,_=>rfl
 |f+1,.lf,0,x=>rfl
 |f+1,.nd l v r,0,x=>rfl
 |f+1,.lf,k+1,x=>by
  show(Nt (Tri.nd .lf undef (b6 f .lf (k / 2) x)) (Tri.nd (b6 f .lf (k / 2) x) undef .lf) (MQ (k % 2) 0):Tri)=bif MQ (k % 2) 0 then .nd (Tri.set f .lf (k / 2) x) undef .lf else .nd .lf undef (Tri.set f .lf (k / 2) x);rw[ak f];cases MQ (k % 2) 0 <;> rfl
 |f+1,.nd l v r,k+1,x=>by
  show(Nt (Tri.nd l v (b6 f r (k / 2) x)) (Tri.nd (b6 f l (k / 2) x) v r) (MQ (k % 2) 0):Tri)=bif MQ (k % 2) 0 then .nd (Tri.set f l (k / 2) x) v r else .nd l v (Tri.set f r (k / 2) x);rw[ak f,ak f];cases MQ (k % 2) 0 <;> rfl
def Td(tr:Tri)(x:Operand):Option Value:=Operand.rec (fun t=>some (eB tr t)) (fun v=>Nt none (some v) (af v)) (fun _=>none) (fun f=>some (.func (.func f) #[] #[])) x
theorem FD(len:Nat)(tr:Tri):Td tr=Zi ⟨len,tr⟩:=by
 funext x;cases x with
 |tmp t=>show some (eB tr t)=some (tr.get t);rw[al]
 |const v=>show(Nt none (some v) (af v):Option Value)=bif af v then some v else none;cases af v <;> rfl
 |global g=>rfl
 |func f=>rfl
def Ee(tr:Tri)(d:Option Tmp)(v:Value):Tri:=Option.rec tr (fun d=>b6 14 tr d v) d
theorem Ag(len:Nat)(tr:Tri)(d:Option Tmp)(v:Value):(⟨len,Ee tr d v⟩:Tm)=V1 ⟨len,tr⟩ d v:=by
 cases d with
 |none=>rfl
 |some d=>show(⟨len,b6 14 tr d v⟩:Tm)=⟨len,tr.set 14 d v⟩;rw[ak]
def Hi{α:Type}(l:List α):Nat->Option α:=List.rec (fun _=>none) (fun x _ ih k=>Nat.rec (some x) (fun j _=>ih j) k) l
theorem Ak{α:Type}:∀(l:List α) (k:Nat),Hi l k=l[k]?
 |[],k=>by cases k <;> rfl
 |x::l,0=>rfl
 |x::l,k+1=>by show Hi l k=_;rw[Ak l k];rfl
def sW(P:Program)(t:TypeId)(cs:Array Value)(off:Nat):Option Value:=
 Option.rec none (fun g=>Nt (Hi cs.toList off) (Option.rec none (fun s=>Nt none (some (.agg (cs.extract off (off+s)))) (Nr (off+s) cs.size)) (WH P t)) g) (ov P t)
theorem qK(P:Program)(t:TypeId)(cs:Array Value)(off:Nat):sW P t cs off=KH P t cs off:=by
 unfold sW KH;cases ov P t with
 |none=>rfl
 |some g=>
  cases g with
  |false=>show Hi cs.toList off=_;rw[Ak,MX]
  |true=>
   cases WH P t with
   |none=>rfl
   |some s=>simp only;cases Nr (off+s) cs.size <;> rfl
def sY(P:Program)(t:TypeId)(H:Qm)(p:Value):Option (Value×Nat):=match p with
 | .pointer (some ⟨b,off,none⟩)=>match Qs H b with
   |some (.cells cs _ _)=>match sW P t cs off with
    |some v=>some (v,b)
    |none=>none
   |_=>none
 |_=>none
theorem CC(P:Program)(t:TypeId)(H:Qm)(p:Value):sY P t H p=Sj P t H p:=by
 unfold sY Sj;simp only[qK];rfl
def tp(p:Value->Bool)(l:List Value):Bool:=List.rec true (fun x _ ih=>Nt false ih (p x)) l
theorem ez(p:Value->Bool):∀(l:List Value),tp p l=l.all p
 |[]=>rfl
 |x::l=>by
  show(Nt false (tp p l) (p x):Bool)=_;rw[ez p l,List.all_cons];cases p x <;> rfl
def EV(cs:Array Value):Bool:=tp (·.oneCell') cs.toList
theorem EU(cs:Array Value):EV cs=ones cs:=by
 unfold EV ones;rw[ez,Array.all_toList]
def LC(v:Value):Bool:=match v with
 | .agg xs=>tp simple xs.toList
 |v=>simple v
theorem Dc(v:Value):LC v=sa v:=by
 cases v <;> first|rfl|(show tp simple _=_;rw[ez,Array.all_toList];rfl)
def MA(v:Value):Bool:=match v with
 | .agg xs=>tp simple xs.toList
 | .tuple xs=>tp LC xs.toList
 | .iface _ v=>LC v
 |v=>simple v
theorem Ls(v:Value):MA v=af v:=by
 cases v with
 |iface t v=>exact Dc v
 |tuple xs=>show tp LC _=_;rw[show LC=sa from funext Dc,ez,Array.all_toList];rfl
 |_=>first|rfl|(show tp simple _=_;rw[ez,Array.all_toList];rfl)
def j3(P:Program)(t:TypeId)(H:Qm)(v p:Value):Option (Qm×Nat):=match p with
 | .pointer (some ⟨b,off,none⟩)=>match Qs H b with
   |some (.cells cs te (0,0))=>match WH P t with
    |some s=>bif MQ v.cells.size s && EV v.cells && Nr (off+s) cs.size then some (VE H b (.cells (splice cs off v.cells) te (0,0)),b)else none
    |none=>none
   |_=>none
 |_=>none
theorem zD(P:Program)(t:TypeId)(H:Qm)(v p:Value):j3 P t H v p=PT P t H v p:=by
 unfold j3 PT;simp only[EU];rfl
def j5(P:Program)(t:TypeId)(f:Nat)(x:Value):Option Value:=match x with
 | .agg cs=>match J4 P t with
   |some (.struct fields)=>match fields[f]? with
    |some fd=>sW P fd.type cs fd.offset
    |none=>none
   |_=>none
 |_=>none
theorem zI(P:Program)(t:TypeId)(f:Nat)(x:Value):j5 P t f x=fW P t f x:=by
 unfold j5 fW;simp only[qK];rfl
def xM(ops:Array Oper)(tr:Tri)(j:Nat):Option Bool:=match nth ops.toList j with
 |some o=>match o.dst with
  |some t=>PU (eB tr t)
  |none=>none
 |none=>none
theorem A5(len:Nat)(ops:Array Oper)(tr:Tri)(j:Nat):xM ops tr j=XT ops ⟨len,tr⟩ j:=by
 unfold xM XT;simp only[al,XL];rfl
def zT(ops:Array Oper)(tr:Tri)(g:Option (Nat×Bool)):Bool:=Option.rec true (fun jw=>Prod.rec (fun j w=>Option.rec false (fun b=>Nt (Nt true false w) (Nt false true w) b) (xM ops tr j)) jw) g
theorem CS(len:Nat)(ops:Array Oper)(tr:Tri)(o:Oper):zT ops tr o.guard=Region.wanted o (XT ops ⟨len,tr⟩):=by
 unfold zT Region.wanted;cases o.guard with
 |none=>rfl
 |some jw=>
  obtain⟨j,w⟩:=jw;simp only[A5 len];cases XT ops ⟨len,tr⟩ j with
  |none=>rfl
  |some b=>cases b <;> cases w <;> rfl
abbrev o5:=Option (List Rec×RF)
abbrev KV:=Value->Qm->Nat->List Nat->List Nat->o5
abbrev CQ:=Program->(FuncId->Bool)->Vg->(CF->Qm->Nat->Option Rs)->Nat->Tri->Oper->Qm->Nat->KV->KV->o5
def fin(k kp:KV)(s:Option Rs):o5:=match s with
 |some ⟨out,H,n,R,W⟩=>match out with
  | .ret v=>k v H n R W
  | .ZG v=>kp v H n R W
 |none=>none
def pv(k:KV)(H:Qm)(n:Nat)(x:Option Value):o5:=Option.rec none (fun v=>k v H n [] []) x
theorem aa(k kp:KV)(H:Qm)(n:Nat)(x:Option Value):fin k kp (qV x H n)=pv k H n x:=by cases x <;> rfl
def Ir(x:Operand):CQ:=fun _ _ _ _ _ tr _ H n k _=>pv k H n (Td tr x)
def Mh(c a b:Operand):CQ:=fun _ _ _ _ _ tr _ H n k _=>Option.rec none (fun v=>Option.rec none (fun t=>Nt (pv k H n (Td tr b)) (pv k H n (Td tr a)) t) (PU v)) (Td tr c)
def Mi(t:TypeId)(a:Operand):CQ:=fun P _ _ _ _ tr _ H n k _=>Option.rec none (fun p=>Option.rec none (fun vb=>Prod.rec (fun v b=>Nt none (k v H n [b] []) (MY b n)) vb) (sY P t H p)) (Td tr a)
def Lv(t:TypeId)(a x:Operand):CQ:=fun P _ _ _ _ tr _ H n k _=>Option.rec none (fun p=>Option.rec none (fun v=>Option.rec none (fun hb=>Prod.rec (fun H' b=>Nt none (k undef H' n [b] [b]) (MY b n)) hb) (j3 P t H v p)) (Td tr x)) (Td tr a)
def zR(s:TypeId)(x:Operand)(f:Nat):CQ:=fun P _ _ _ _ tr _ H n k _=>Option.rec none (fun p=>pv k H n (Wz P s f p)) (Td tr x)
def Lw(s:TypeId)(x:Operand)(f:Nat):CQ:=fun P _ _ _ _ tr _ H n k _=>Option.rec none (fun p=>pv k H n (j5 P s f p)) (Td tr x)
def zQ(t:TypeId)(x i:Operand):CQ:=fun P _ _ _ _ tr _ H n k _=>Option.rec none (fun p=>Option.rec none (fun j=>pv k H n (Ye P t p j)) (Td tr i)) (Td tr x)
def Gh(x:Operand)(i:Nat):CQ:=fun _ _ _ _ _ tr _ H n k _=>Option.rec none (fun p=>pv k H n (Sk i p)) (Td tr x)
def M6(op:BinOp)(_:TypeId)(x y:Operand)(_:TypeId):CQ:=fun P _ _ _ _ tr o H n k _=>Option.rec none (fun a=>Option.rec none (fun b=>Option.rec (pv k H n (Uz P (Td tr) o)) (fun v=>k v H n [] []) (zK op a b)) (Td tr y)) (Td tr x)
def FH(v:Value)(r:CR)(k:KV)(H':Qm)(n':Nat)(R W:List Nat):o5:=List.rec (Nt (k v H' n' (r.R++R) (r.W++[])) (k v r.H n' (r.R++R) (r.W++[])) (MA v)) (fun _ _ _=>k v H' n' (r.R++R) (r.W++W)) W
def Ay(r:CR)(k kp:KV)(s:Option Rs):o5:=Option.rec none (fun s=>Rs.rec (fun out H' n' R W=>OO.rec (fun v=>FH v r k H' n' R W) (fun v=>kp v H' n' (r.R++R) (r.W++W)) out) s) s
theorem Gd(r:CR)(k kp:KV)(s:Option Rs):Ay r k kp s=fin k kp (match s with|some s=>Ea r s|none=>none):=by
 cases s with
 |none=>rfl
 |some s=>
  obtain⟨out,H',n',R,W⟩:=s;cases out with
  |ZG v=>
   cases W with
   |nil=>rfl
   |cons a b=>rfl
  |ret v=>
   show FH v r k H' n' R W=_;unfold FH;cases W with
   |nil=>
    rw[Ls];simp only[Ea,Yi];cases af v <;> rfl
   |cons a b=>rfl
def sP(P:Program)(X5:Vg)(rec:CF->Qm->Nat->Option Rs)(g:FuncId)(args:Array Value)(r:CR)(k kp:KV):o5:=Option.rec (Option.rec none (fun c=>Ay r k kp (rec c r.H r.n)) (Wt P g args)) (fun _=>fin k kp (r7 P X5 rec g args r)) (X5 g args r.H r.n)
theorem C6(P:Program)(X5:Vg)(rec:CF->Qm->Nat->Option Rs)(g:FuncId)(args:Array Value)(r:CR)(k kp:KV):sP P X5 rec g args r k kp=fin k kp (r7 P X5 rec g args r):=by
 unfold sP;cases ho:X5 g args r.H r.n with
 |some x=>rfl
 |none=>
  unfold r7;rw[ho];show(Option.rec none (fun c=>Ay r k kp (rec c r.H r.n)) (Wt P g args):o5)=fin k kp (IH P rec g args r);unfold IH;cases Wt P g args with
  |none=>rfl
  |some c=>
   show Ay r k kp (rec c r.H r.n)=_;rw[Gd];rfl
def FQ(P:Program)(X5:Vg)(rec:CF->Qm->Nat->Option Rs)(n:Nat)(x:Option CR)(k kp:KV):o5:=Option.rec none (fun r=>CN.rec (fun _=>fin k kp (qR P X5 rec n (some r))) (fun g args=>Nt none (sP P X5 rec g args r k kp) (r.R.all (fun i=>MY i n))) (fun _ _ _ _ _=>fin k kp (qR P X5 rec n (some r))) r.nx) x
theorem FP(P:Program)(X5:Vg)(rec:CF->Qm->Nat->Option Rs)(n:Nat)(x:Option CR)(k kp:KV):FQ P X5 rec n x k kp=fin k kp (qR P X5 rec n x):=by
 cases x with
 |none=>rfl
 |some r=>
  obtain⟨nx,H',n',R,W⟩:=r;cases nx with
  |val v=>rfl
  |round l fn tm a b=>rfl
  |enter g args=>
   show(Nt none (sP P X5 rec g args ⟨.enter g args,H',n',R,W⟩ k kp) (R.all (fun i=>MY i n)):o5)=_;rw[C6];simp only[qR];cases R.all (fun i=>MY i n) <;> rfl
def Mj(c:Call):CQ:=fun P F X5 rec _ tr o H n k kp=>FQ P X5 rec n (cL P F (Td tr) o c H n) k kp
def UY:CQ:=fun P F X5 rec len tr o H n k kp=>fin k kp (tA P F X5 rec ⟨len,tr⟩ o H n)
def M4(op:Op):CQ:=Op.rec Ir Ir Mh (fun _=>UY) (fun _ _=>UY) (fun _ _=>UY) (fun _ _ _=>UY) (fun _ _ _ _=>UY) Mi Lv (fun _=>UY) (fun _=>UY) (fun _=>UY) M6 (fun _ _ _=>UY) (fun _ _ _=>UY) (fun _ _=>UY) (fun _ _=>UY)
 (fun _ _ _=>UY) (fun _ _=>UY) (fun _ _=>UY) (fun _ _ _=>UY) (fun _ _ _ _ _=>UY) zR Lw zQ (fun _ _ _=>UY) (fun _ _ _ _=>UY) (fun _ _ _ _=>UY) (fun _ _ _=>UY) (fun _ _ _ _=>UY) (fun _ _=>UY) (fun _ _=>UY) (fun _=>UY) (fun _ _ _ _=>UY)
 Gh Mj (fun _=>UY) (fun _=>UY) (fun _=>UY) (fun _ _=>UY) (fun _ _ _=>UY) (fun _ _=>UY) op
theorem La(P:Program)(F:FuncId->Bool)(X5:Vg)(rec:CF->Qm->Nat->Option Rs)(len:Nat)(tr:Tri)(o:Oper)(H:Qm)(n:Nat)(k kp:KV):M4 o.op P F X5 rec len tr o H n k kp=fin k kp (tA P F X5 rec ⟨len,tr⟩ o H n):=by
 have e:=FD len tr;cases hp:o.op with
 |move x=>show pv k H n (Td tr x)=_;rw[e];unfold tA;simp only[hp];exact(aa k kp H n _).symm
 |assign x=>show pv k H n (Td tr x)=_;rw[e];unfold tA;simp only[hp];exact(aa k kp H n _).symm
 |pick c a b=>
  show(Option.rec none (fun v=>Option.rec none (fun t=>Nt (pv k H n (Td tr b)) (pv k H n (Td tr a)) t) (PU v)) (Td tr c):o5)=_;rw[e];unfold tA;simp only[hp];cases Zi ⟨len,tr⟩ c with
  |none=>rfl
  |some v=>
   cases v with
   |bool t=>cases t <;> exact(aa k kp H n _).symm
   |_=>rfl
 |load t a=>
  show(Option.rec none (fun p=>Option.rec none (fun vb=>Prod.rec (fun v b=>Nt none (k v H n [b] []) (MY b n)) vb) (sY P t H p)) (Td tr a):o5)=_;simp only[CC];rw[e];unfold tA;simp only[hp];cases Zi ⟨len,tr⟩ a with
  |none=>rfl
  |some p=>
   simp only[DW];cases Sj P t H p with
   |none=>rfl
   |some vb=>
    obtain⟨v,b⟩:=vb;cases hb:MY b n <;> simp[qR,fin,Ae,hb]
 |store t a x=>
  show(Option.rec none (fun p=>Option.rec none (fun v=>Option.rec none (fun hb=>Prod.rec (fun H' b=>Nt none (k undef H' n [b] [b]) (MY b n)) hb) (j3 P t H v p)) (Td tr x)) (Td tr a):o5)=_;simp only[zD];rw[e];unfold tA;simp only[hp];cases Zi ⟨len,tr⟩ a with
  |none=>rfl
  |some p=>
   cases Zi ⟨len,tr⟩ x with
   |none=>rfl
   |some v=>
    simp only[yo];cases PT P t H v p with
    |none=>rfl
    |some vb=>
     obtain⟨H',b⟩:=vb;cases hb:MY b n <;> simp[qR,fin,Ae,hb]
 |fieldAddr s x f=>
  show(Option.rec none (fun p=>pv k H n (Wz P s f p)) (Td tr x):o5)=_;rw[e];unfold tA;simp only[hp];cases Zi ⟨len,tr⟩ x with
  |none=>rfl
  |some p=>simp only[bB,Pp];exact(aa k kp H n _).symm
 |field s x f=>
  show(Option.rec none (fun p=>pv k H n (j5 P s f p)) (Td tr x):o5)=_;simp only[zI];rw[e];unfold tA;simp only[hp];cases Zi ⟨len,tr⟩ x with
  |none=>rfl
  |some p=>simp only[yp,Pp];exact(aa k kp H n _).symm
 |indexAddr t x i=>
  show(Option.rec none (fun p=>Option.rec none (fun j=>pv k H n (Ye P t p j)) (Td tr i)) (Td tr x):o5)=_;rw[e];unfold tA;simp only[hp];cases Zi ⟨len,tr⟩ x with
  |none=>rfl
  |some p=>
   cases Zi ⟨len,tr⟩ i with
   |none=>rfl
   |some j=>simp only[bA,Pp];exact(aa k kp H n _).symm
 |extract x i=>
  show(Option.rec none (fun p=>pv k H n (Sk i p)) (Td tr x):o5)=_;rw[e];unfold tA;simp only[hp];cases Zi ⟨len,tr⟩ x with
  |none=>rfl
  |some p=>simp only[kJ,Pp];exact(aa k kp H n _).symm
 |binOp op t x y t'=>
  show(Option.rec none (fun a=>Option.rec none (fun b=>Option.rec (pv k H n (Uz P (Td tr) o)) (fun v=>k v H n [] []) (zK op a b)) (Td tr y)) (Td tr x):o5)=_;rw[e];unfold tA;simp only[hp];cases Zi ⟨len,tr⟩ x with
  |none=>rfl
  |some a=>
   cases Zi ⟨len,tr⟩ y with
   |none=>rfl
   |some b=>
    simp only[IK];cases zK op a b with
    |none=>simp only[Pp];exact(aa k kp H n _).symm
    |some v=>rfl
 |call c=>show FQ P X5 rec n (cL P F (Td tr) o c H n) k kp=_;rw[FP,e];unfold tA;simp only[hp]
 |_=>rfl
def Av(r:Rec)(x:o5):o5:=Option.rec none (fun p=>Prod.rec (fun rs f=>some (r::rs,f)) p) x
def Aa(P:Program)(F:FuncId->Bool)(X5:Vg)(rec:CF->Qm->Nat->Option Rs)(len:Nat)(ops:Array Oper)(l:List Oper):Tri->Qm->Nat->o5:=
 List.rec (fun tr H n=>some ([],.ok ⟨len,tr⟩ H n)) (fun o _ ih tr H n=>Nt
  (Av ⟨o,false,undef,⟨len,tr⟩,H,H,n,n,[],[]⟩ (ih (Ee tr o.dst undef) H n))
  (M4 o.op P F X5 rec len tr o H n (fun v H' n' R W=>Av ⟨o,true,v,⟨len,tr⟩,H,H',n,n',R,W⟩ (ih (Ee tr o.dst v) H' n')) (fun v H' n' R W=>some ([],.ZG ⟨len,tr⟩ v H' n' R W)))
  (zT ops tr o.guard)) l
def sQ(len:Nat)(l:List Oper):Bool:=l.all fun o=>JY ⟨len,.lf⟩ o.dst
theorem tV(P:Program)(F:FuncId->Bool)(X5:Vg)(rec:CF->Qm->Nat->Option Rs)(len:Nat)(ops:Array Oper):∀(l:List Oper) (tr:Tri) (H:Qm) (n:Nat),sQ len l=true->Aa P F X5 rec len ops l tr H n=JA P F X5 rec ops l ⟨len,tr⟩ H n
 |[],_,_,_,_=>rfl
 |o::l,tr,H,n,hd=>by
  simp only[sQ,List.all_cons,YB]at hd;have hd1:JY ⟨len,tr⟩ o.dst=true:=by
   have:=hd.1;cases hq:o.dst with
   |none=>rfl
   |some x=>rw[hq]at this;exact this
  have ih:=tV P F X5 rec len ops l;show(Nt (Av ⟨o,false,undef,⟨len,tr⟩,H,H,n,n,[],[]⟩ (Aa P F X5 rec len ops l (Ee tr o.dst undef) H n))
   (M4 o.op P F X5 rec len tr o H n (fun v H' n' R W=>Av ⟨o,true,v,⟨len,tr⟩,H,H',n,n',R,W⟩ (Aa P F X5 rec len ops l (Ee tr o.dst v) H' n')) (fun v H' n' R W=>some ([],.ZG ⟨len,tr⟩ v H' n' R W)))
   (zT ops tr o.guard):o5)=_
  rw[CS len];simp only[JA,hd1,cond_true];cases Region.wanted o (XT ops ⟨len,tr⟩)with
  |false=>
   simp only[cond_false];rw[ih _ _ _ hd.2,Ag];cases JA P F X5 rec ops l (V1 ⟨len,tr⟩ o.dst undef) H n <;> rfl
  |true=>
   simp only[cond_true,La];cases tA P F X5 rec ⟨len,tr⟩ o H n with
   |none=>rfl
   |some s=>
    obtain⟨out,H',n',R,W⟩:=s;cases out with
    |ZG v=>rfl
    |ret v=>
     simp only[fin];rw[ih _ _ _ hd.2,Ag];cases JA P F X5 rec ops l (V1 ⟨len,tr⟩ o.dst v) H' n' <;> rfl
def Ti(ops:Array Oper)(o:Oper)(k:Nat):List Oper->List (List Nat)->Bool
 |x::l,b::bs=>(b.contains k || o.apart ops x) && Ti ops o k l bs
 |[],_=>true
 |_::_,[]=>false
def stat(ops:Array Oper):Nat->List Oper->List (List Nat)->Bool
 |k,o::l,_::bs=>Ti ops o k l bs && stat ops (k+1) l bs
 |_,[],_=>true
 |_,_::_,[]=>false
def bp(i:Nat)(l:List Nat):Bool:=List.rec false (fun j _ ih=>Nt ih true (MQ i j)) l
theorem ei(i:Nat):∀(l:List Nat),bp i l=l.contains i
 |[]=>rfl
 |j::l=>by
  show(Nt (bp i l) true (MQ i j):Bool)=_;rw[ei i l,List.contains_cons];by_cases e:i=j
  ·subst e;rw[Nat.beq_refl];simp
  ·rw[SX e];simp[e]
def se(W R:List Nat):Bool:=List.rec false (fun i _ ih=>Nt ih true (bp i R)) W
theorem fH(R:List Nat):∀(W:List Nat),se W R=W.any fun i=>R.contains i
 |[]=>rfl
 |i::W=>by
  show(Nt (se W R) true (bp i R):Bool)=_;rw[fH R W,ei,List.any_cons];cases R.contains i <;> rfl
def tj(lo hi:Nat)(R:List Nat):Bool:=List.rec false (fun i _ ih=>Nt ih (Nt ih true (MY i hi)) (Nr lo i)) R
theorem qP(lo hi:Nat):∀(R:List Nat),tj lo hi R=R.any fun i=>Nr lo i && MY i hi
 |[]=>rfl
 |i::R=>by
  show(Nt (tj lo hi R) (Nt (tj lo hi R) true (MY i hi)) (Nr lo i):Bool)=_;rw[qP lo hi R,List.any_cons];cases Nr lo i <;> cases MY i hi <;> rfl
def clear(r x:Rec):Bool:=Nt (Nt (Nt true false (tj r.n r.n' x.R)) false (se x.W r.R)) false (se r.W x.R)
theorem z7{ops:Array Oper}{r x:Rec}(h:clear r x=true)(ha:r.o.apart ops x.o=true):tied ops r x=false:=by
 unfold clear at h;rw[qP,fH,fH]at h;unfold tied meets bears;rw[ha];revert h;cases r.W.any fun i=>x.R.contains i <;> cases x.W.any fun i=>r.R.contains i <;> cases x.R.any fun i=>Nr r.n i && MY i r.n' <;> simp
def SQ(r:Rec)(k:Nat)(l:List Rec):List (List Nat)->Bool:=List.rec (fun _=>true) (fun x _ ih bs=>List.rec false (fun b bs' _=>Nt (Nt false (ih bs') (bp k b)) (ih bs') (clear r x)) bs) l
def dyn(l:List Rec):Nat->List (List Nat)->Bool:=List.rec (fun _ _=>true) (fun r l ih k bs=>List.rec false (fun _ bs' _=>Nt false (ih (k+1) bs') (SQ r k l bs')) bs) l
theorem eF{ops:Array Oper}{r:Rec}(k:Nat):∀(l:List Rec) (bs:List (List Nat)),SQ r k l bs=true->Ti ops r.o k (l.map (·.o)) bs=true->Kz ops r k l bs=true
 |[],_,_,_=>by simp[Kz]
 |x::l,[],_,h=>by simp[Ti]at h
 |x::l,b::bs,hd,h=>by
  simp only[List.map_cons,Ti,YB,Bool.or_eq_true]at h;simp only[Kz,YB,Bool.or_eq_true,Bool.not_eq_true'];have hd:(Nt (Nt false (SQ r k l bs) (bp k b)) (SQ r k l bs) (clear r x):Bool)=true:=hd;cases hc:clear r x with
  |true=>
   rw[hc]at hd;exact⟨h.1.imp id fun ha=>z7 hc ha,eF k l bs hd h.2⟩
  |false=>
   rw[hc]at hd;have hd:(Nt false (SQ r k l bs) (bp k b):Bool)=true:=hd;cases he:bp k b with
   |false=>rw[he]at hd;cases hd
   |true=>
    rw[he]at hd;rw[ei]at he;exact⟨.inl he,eF k l bs hd h.2⟩
theorem jQ{ops:Array Oper}:∀(l:List Rec) (bs:List (List Nat)) (k:Nat),dyn l k bs=true->stat ops k (l.map (·.o)) bs=true->indep ops k l bs=true
 |[],_,_,_,_=>by simp[indep]
 |x::l,[],_,_,h=>by simp[stat]at h
 |x::l,b::bs,k,hd,h=>by
  simp only[List.map_cons,stat,YB]at h;simp only[indep,YB];have hd:(Nt false (dyn l (k+1) bs) (SQ x k l bs):Bool)=true:=hd;cases hc:SQ x k l bs with
  |false=>rw[hc]at hd;cases hd
  |true=>
   rw[hc]at hd;exact⟨eF k l bs hc h.1,jQ l bs (k+1) hd h.2⟩
theorem eG{P:Program}{F:FuncId->Bool}{X5:Vg}{rec:CF->Qm->Nat->Option Rs}{ops:Array Oper}:∀(l:List Oper) (T:Tm) (H:Qm) (n:Nat) (Qx:List Rec) (T':Tm) (H':Qm) (n':Nat),JA P F X5 rec ops l T H n=some (Qx,.ok T' H' n')->Qx.map (·.o)=l
 |[],T,H,n,Qx,T',H',n',h=>by
  simp only[JA,YO,YR]at h;rw[<-h.1];rfl
 |o::l,T,H,n,Qx,T',H',n',h=>by
  simp only[JA]at h;have h:=Yf h;cases hw:Region.wanted o (XT ops T)with
  |true=>
   rw[hw]at h;simp only[cond_true]at h;split at h
   ·split at h
    ·split at h
     ·rename_i rs f hr;simp only[YO,YR]at h;obtain⟨rfl,rfl⟩:=h;simp[eG l _ _ _ _ _ _ _ hr]
     ·cases h
    ·simp only[YO,YR]at h;cases h.2
   ·cases h
  |false=>
   rw[hw]at h;simp only[cond_false]at h;split at h
   ·rename_i rs f hr;simp only[YO,YR]at h;obtain⟨rfl,rfl⟩:=h;simp[eG l _ _ _ _ _ _ _ hr]
   ·cases h
def rr(ops:Array Oper):Bool:=Vf 0 ops.toList && stat ops 0 ops.toList (Jf ops.toList [])
def chk(ops:Array Oper)(Qx:List Rec)(draw:Bool):Bool:=Nt true (Nt (Vf 0 ops.toList && indep ops 0 Qx (Jf ops.toList [])) (Nt (Vf 0 ops.toList && indep ops 0 Qx (Jf ops.toList [])) true (dyn Qx 0 (Jf ops.toList []))) (rr ops)) draw
theorem Lp{ops:Array Oper}{Qx:List Rec}{draw:Bool}(h:Qx.map (·.o)=ops.toList):chk ops Qx draw=(!draw || (Vf 0 ops.toList && indep ops 0 Qx (Jf ops.toList []))):=by
 unfold chk;cases draw with
 |false=>rfl
 |true=>
  simp only[Bool.not_true,Bool.false_or];cases hs:rr ops with
  |false=>rfl
  |true=>
   cases hc:dyn Qx 0 (Jf ops.toList [])with
   |false=>rfl
   |true=>
    unfold rr at hs;simp only[YB]at hs;rw[hs.1,jQ Qx _ 0 hc (by rw[h];exact hs.2)];rfl
def iz(b:Nat)(l:List Nat):List Nat->List Nat:=List.rec (fun acc=>acc) (fun x _ ih acc=>Nt (ih acc) (Nt (ih (x::acc)) (ih acc) (bp x acc)) (MY x b)) l
theorem eA(b:Nat):∀(l acc:List Nat),iz b l acc=Wc b l acc
 |[],_=>rfl
 |x::l,acc=>by
  show(Nt (iz b l acc) (Nt (iz b l (x::acc)) (iz b l acc) (bp x acc)) (MY x b):List Nat)=_;rw[eA b l,eA b l,ei,Wc];cases MY x b <;> cases acc.contains x <;> rfl
theorem oy(b:Nat):∀(l m acc:List Nat),Wc b (l++m) acc=Wc b m (Wc b l acc)
 |[],_,_=>rfl
 |x::l,m,acc=>by simp only[List.cons_append,Wc];exact oy b l m _
def Lu(b:Nat)(Qx:List Rec):List Nat->List Nat:=List.rec (fun acc=>acc) (fun r _ ih acc=>ih (iz b r.R acc)) Qx
theorem A3(b:Nat):∀(Qx:List Rec) (acc:List Nat),Lu b Qx acc=Wc b (KI Qx) acc
 |[],_=>rfl
 |r::l,acc=>by
  show Lu b l (iz b r.R acc)=_;rw[A3 b l,eA,show KI (r::l)=r.R++KI l from List.flatMap_cons,oy]
def Lt(b:Nat)(Qx:List Rec):List Nat->List Nat:=List.rec (fun acc=>acc) (fun r _ ih acc=>ih (iz b r.W acc)) Qx
theorem A0(b:Nat):∀(Qx:List Rec) (acc:List Nat),Lt b Qx acc=Wc b (Ui Qx) acc
 |[],_=>rfl
 |r::l,acc=>by
  show Lt b l (iz b r.W acc)=_;rw[A0 b l,eA,show Ui (r::l)=r.W++Ui l from List.flatMap_cons,oy]
def Df(P:Program)(F:FuncId->Bool)(X5:Vg)(rec:CF->Qm->Nat->Option Rs)(len:Nat)(tr:Tri)(ops:Array Oper)(H:Qm)(n:Nat):o5:=
 Nt (JA P F X5 rec ops ops.toList ⟨len,tr⟩ H n) (Aa P F X5 rec len ops ops.toList tr H n) (sQ len ops.toList)
theorem De(P:Program)(F:FuncId->Bool)(X5:Vg)(rec:CF->Qm->Nat->Option Rs)(len:Nat)(tr:Tri)(ops:Array Oper)(H:Qm)(n:Nat):Df P F X5 rec len tr ops H n=JA P F X5 rec ops ops.toList ⟨len,tr⟩ H n:=by
 unfold Df;cases hd:sQ len ops.toList with
 |false=>rfl
 |true=>exact tV P F X5 rec len ops _ _ _ _ hd
abbrev Mk:=Nat->FuncId->Nat->Tri->List Item->List Nat->Option Nat->Qm->Nat->List Nat->List Nat->Option Rs
def IC(P:Program)(F:FuncId->Bool)(X5:Vg)(fuel:Nat)(ih:Mk)(c1:CF)(H1:Qm)(n1:Nat):Option Rs:=
 CF.rec (fun fn T todo ds mode ro=>CM.rec (Tm.rec (fun len tr=>ih n1 fn len tr todo ds ro H1 n1 [] []) T) (YQ P F X5 fuel n1 ⟨fn,T,todo,ds,.ret,ro⟩ H1 n1 [] []) (fun v=>YQ P F X5 fuel n1 ⟨fn,T,todo,ds,.ZG v,ro⟩ H1 n1 [] []) mode) c1
def MD(P:Program)(F:FuncId->Bool)(X5:Vg)(fuel:Nat)(ih:Mk)(b:Nat)(c1:CF)(H1:Qm)(n1:Nat)(R W:List Nat):Option Rs:=
 CF.rec (fun fn T todo ds mode ro=>CM.rec (Tm.rec (fun len tr=>ih b fn len tr todo ds ro H1 n1 R W) T) (YQ P F X5 fuel b ⟨fn,T,todo,ds,.ret,ro⟩ H1 n1 R W) (fun v=>YQ P F X5 fuel b ⟨fn,T,todo,ds,.ZG v,ro⟩ H1 n1 R W) mode) c1
def resume(P:Program)(F:FuncId->Bool)(X5:Vg)(fuel:Nat)(ih:Mk)(b:Nat)(R W:List Nat)(x:Option FS):Option Rs:=
 Option.rec none (fun fs=>FS.rec (fun c' H' n' R' W'=>MD P F X5 fuel ih b c' H' n' (Wc b R' R) (Wc b W' W)) (fun out H' n' R' W'=>some ⟨out,H',n',Wc b R' R,Wc b W' W⟩) fs) x
abbrev Gm:=Program->(FuncId->Bool)->Vg->Nat->Mk->Nat->FuncId->Nat->Tri->List Item->List Nat->Option Nat->Qm->Nat->List Nat->List Nat->Option Rs
def RY(it:Item):Gm:=fun P F X5 fuel ih b fn len tr k ds ro H n R W=>resume P F X5 fuel ih b R W (fP P F X5 (IC P F X5 fuel ih) ⟨fn,⟨len,tr⟩,it::k,ds,.run,ro⟩ H n)
def Ar:Gm:=fun _ _ _ _ ih b fn len tr k ds ro H n R W=>ih b fn len tr k ds ro H n R W
def M5(x y:Code):Gm:=fun _ _ _ _ ih b fn len tr k ds ro H n R W=>ih b fn len tr (.code x::.code y::k) ds ro H n R W
def Mc(q:Operand)(x y:Code):Gm:=fun _ _ _ _ ih b fn len tr k ds ro H n R W=>Option.rec none (fun v=>Option.rec none (fun t=>Nt (ih b fn len tr (.code y::k) ds ro H n R W) (ih b fn len tr (.code x::k) ds ro H n R W) t) (PU v)) (Td tr q)
def Lg(id:Nat)(x:Code):Gm:=fun _ _ _ _ ih b fn len tr k ds ro H n R W=>ih b fn len tr (.code x::.inBlock id::k) ds ro H n R W
def Io(x:Code):Gm:=fun _ _ _ _ ih b fn len tr k ds ro H n R W=>ih b fn len tr (.code x::.inLoop x::k) ds ro H n R W
def Lf(x:Code):Gm:=fun _ _ _ _ ih b fn len tr k ds ro H n R W=>ih b fn len tr (.code x::.inScope x::k) ds ro H n R W
def sK(id:Nat)(ops:Array Oper)(draw:Bool):Gm:=fun P F X5 fuel ih b fn len tr k ds ro H n R W=>
 Option.rec none (fun p=>Prod.rec (fun Qx f=>RF.rec (fun T' H' n'=>Nt none (Tm.rec (fun len' tr'=>ih b fn len' tr' k ds ro H' n' (Lu b Qx R) (Lt b Qx W)) T') (chk ops Qx draw))
  (fun T' v H' n' R1 W1=>resume P F X5 fuel ih b R W (IG ⟨fn,⟨len,tr⟩,.code (.region id ops draw)::k,ds,.run,ro⟩ ops draw k (some (Qx,.ZG T' v H' n' R1 W1)))) f) p) (Df P F X5 (IC P F X5 fuel ih) len tr ops H n)
def codeF(cd:Code):Gm:=Code.rec Ar sK (fun x y _ _=>M5 x y) (fun q x y _ _=>Mc q x y) (fun id x _=>Lg id x) (fun x _=>Io x) (fun f ps x y _ _=>RY (.code (.rangeFunc f ps x y))) (fun id=>RY (.code (.exit id))) (fun x _=>Lf x) (fun _=>Ar) (fun l=>RY (.code (.goto l))) (RY (.code .ret)) (fun w=>RY (.code (.refuse w))) cd
def Im(it:Item):Gm:=Item.rec codeF (fun _=>Ar) Io (fun _=>Ar) (fun a b=>RY (.inRegion a b)) (fun l=>RY (.inRangeFunc l)) (fun l=>RY (.endRangeFunc l)) (RY .beginRound) (fun a b c d=>RY (.call a b c d)) (fun a b=>RY (.extern a b)) it
def TU(P:Program)(F:FuncId->Bool)(X5:Vg)(fuel:Nat):Mk:=Nat.rec (fun _ _ _ _ _ _ _ _ _ _ _=>none) (fun fuel ih b fn len tr todo ds ro H n R W=>
 List.rec (resume P F X5 fuel ih b R W (PL ⟨fn,⟨len,tr⟩,[],ds,.run,ro⟩ H n none)) (fun it k _=>Im it P F X5 fuel ih b fn len tr k ds ro H n R W) todo) fuel
theorem nK(P:Program)(F:FuncId->Bool)(X5:Vg):∀(fuel b:Nat) (fn:FuncId) (len:Nat) (tr:Tri) (todo:List Item) (ds:List Nat) (ro:Option Nat) (H:Qm) (n:Nat) (R W:List Nat),TU P F X5 fuel b fn len tr todo ds ro H n R W=YQ P F X5 fuel b ⟨fn,⟨len,tr⟩,todo,ds,.run,ro⟩ H n R W
 |0,_,_,_,_,_,_,_,_,_,_,_=>rfl
 |fuel+1,b,fn,len,tr,todo,ds,ro,H,n,R,W=>by
  have hih:∀(b:Nat) (fn:FuncId) (len:Nat) (tr:Tri) (todo:List Item) (ds:List Nat) (ro:Option Nat) (H:Qm) (n:Nat) (R W:List Nat),TU P F X5 fuel b fn len tr todo ds ro H n R W=YQ P F X5 fuel b ⟨fn,⟨len,tr⟩,todo,ds,.run,ro⟩ H n R W:=nK P F X5 fuel;have Vt:IC P F X5 fuel (TU P F X5 fuel)=fun c1 H1 n1=>YQ P F X5 fuel n1 c1 H1 n1 [] []:=by
   funext c1 H1 n1;obtain⟨fn,⟨len,tr⟩,todo,ds,mode,ro⟩:=c1;cases mode with
   |run=>exact hih _ _ _ _ _ _ _ _ _ _ _
   |ret=>rfl
   |ZG v=>rfl
  have hres:∀(R W:List Nat) (x:Option FS),resume P F X5 fuel (TU P F X5 fuel) b R W x=match x with
   |some (.go c' H' n' R' W')=>YQ P F X5 fuel b c' H' n' (Wc b R' R) (Wc b W' W)
   |some (.done out H' n' R' W')=>some ⟨out,H',n',Wc b R' R,Wc b W' W⟩
   |none=>none:=by
   intro R W x;cases x with
   |none=>rfl
   |some fs=>
    cases fs with
    |done out H' n' R' W'=>rfl
    |go c' H' n' R' W'=>
     obtain⟨fn,⟨len,tr⟩,todo,ds,mode,ro⟩:=c';cases mode with
     |run=>exact hih _ _ _ _ _ _ _ _ _ _ _
     |ret=>rfl
     |ZG v=>rfl
  have hslow:∀(it:Item) (k:List Item),RY it P F X5 fuel (TU P F X5 fuel) b fn len tr k ds ro H n R W=YQ P F X5 (fuel+1) b ⟨fn,⟨len,tr⟩,it::k,ds,.run,ro⟩ H n R W:=by
   intro it k;unfold RY;rw[hres,Vt];rfl
  cases todo with
  |nil=>exact hres R W _
  |cons it k=>
   show Im it P F X5 fuel (TU P F X5 fuel) b fn len tr k ds ro H n R W=_;cases it with
   |code cd=>
    cases cd with
    |skip=>exact hih _ _ _ _ _ _ _ _ _ _ _
    |label l=>exact hih _ _ _ _ _ _ _ _ _ _ _
    |seq x y=>exact hih _ _ _ _ _ _ _ _ _ _ _
    |block id x=>exact hih _ _ _ _ _ _ _ _ _ _ _
    |loop x=>exact hih _ _ _ _ _ _ _ _ _ _ _
    |scope x=>exact hih _ _ _ _ _ _ _ _ _ _ _
    |cond q x y=>
     show(Option.rec none (fun v=>Option.rec none (fun t=>Nt (TU P F X5 fuel b fn len tr (.code y::k) ds ro H n R W) (TU P F X5 fuel b fn len tr (.code x::k) ds ro H n R W) t) (PU v)) (Td tr q):Option Rs)=_;rw[FD len tr,hih,hih];simp only[YQ,fP,gp,gq];cases Zi ⟨len,tr⟩ q with
     |none=>rfl
     |some v=>
      cases v with
      |bool t=>cases t <;> rfl
      |_=>rfl
    |region id ops draw=>
     show sK id ops draw P F X5 fuel (TU P F X5 fuel) b fn len tr k ds ro H n R W=_;unfold sK;rw[De,Vt];simp only[YQ,fP,gp,gq,A3,A0];cases hrr:JA P F X5 (fun c1 H1 n1=>YQ P F X5 fuel n1 c1 H1 n1 [] []) ops ops.toList ⟨len,tr⟩ H n with
     |none=>rfl
     |some p=>
      obtain⟨Qx,f⟩:=p;cases f with
      |ZG v H' n' R1 W1=>exact hres R W _
      |ok T' H' n'=>
       have hck:=Lp (draw:=draw) (eG _ _ _ _ _ _ _ _ hrr);obtain⟨len',tr'⟩:=T';simp only[IG];rw[hck];cases !draw || (Vf 0 ops.toList && indep ops 0 Qx (Jf ops.toList []))with
       |false=>rfl
       |true=>exact hih _ _ _ _ _ _ _ _ _ _ _
    |rangeFunc f ps x y=>exact hslow _ k
    |exit id=>exact hslow _ k
    |goto id=>exact hslow _ k
    |ret=>exact hslow _ k
    |refuse w=>exact hslow (.code (.refuse w)) k
   |inBlock id=>exact hih _ _ _ _ _ _ _ _ _ _ _
   |inScope x=>exact hih _ _ _ _ _ _ _ _ _ _ _
   |inLoop x=>exact hih _ _ _ _ _ _ _ _ _ _ _
   |inRegion a b=>exact hslow _ k
   |inRangeFunc l=>exact hslow _ k
   |endRangeFunc l=>exact hslow _ k
   |beginRound=>exact hslow _ k
   |call a b c d=>exact hslow _ k
   |extern a b=>exact hslow _ k
end
end Go.CE
