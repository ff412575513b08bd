/- CE: the canonical machine a third time: by recursors alone where much time goes. -/
import Derived.Test.YtncjjangllkokaaZRQ05
set_option linter.all false
open Bool renaming rec->Oq
open Nat renaming beq->NH,ble->Oo,blt->NO
open Array renaming getElem?_toList->NM
open List renaming flatMap_cons->OC
namespace Go.CE
open Go Go.RowKit
noncomputable section

def ee(t:Tri):Nat->Value:=Tri.rec (fun _=>undef) (fun _ v _ gl gr k=>Nat.rec v (fun j _=>Oq (gr (Nat.div j 2)) (gl (Nat.div j 2)) (NH (Nat.mod j 2) 0)) k) t
theorem TE:∀(t:Tri) (k:Nat),ee t k=t.get k
 | .lf,k=>by cases k <;> rfl
 | .nd l v r,0=>rfl
 | .nd l v r,k+1=>by
   show(Oq (ee r (k / 2)) (ee l (k / 2)) (NH (k % 2) 0):Value)=bif NH (k % 2) 0 then l.get (k / 2)else r.get (k / 2);rw[TE l,TE r];cases NH (k % 2) 0 <;> rfl
def bd(f:Nat):Tri->Nat->Value->Tri:=Nat.rec (fun t _ _=>t) (fun _ ih t i x=>Tri.rec
 (Nat.rec (.nd .lf x .lf) (fun j _=>Oq (.nd .lf undef (ih .lf (Nat.div j 2) x)) (.nd (ih .lf (Nat.div j 2) x) undef .lf) (NH (Nat.mod j 2) 0)) i)
 (fun l v r _ _=>Nat.rec (.nd l x r) (fun j _=>Oq (.nd l v (ih r (Nat.div j 2) x)) (.nd (ih l (Nat.div j 2) x) v r) (NH (Nat.mod j 2) 0)) i) t) f
theorem TD:∀(f:Nat) (t:Tri) (i:Nat) (x:Value),bd f t i x=Tri.set f t i x
 |0,_,_,_=>rfl
 |f+1,.lf,0,x=>rfl
 |f+1,.nd l v r,0,x=>rfl
 |f+1,.lf,k+1,x=>by
  show(Oq (Tri.nd .lf undef (bd f .lf (k / 2) x)) (Tri.nd (bd f .lf (k / 2) x) undef .lf) (NH (k % 2) 0):Tri)=bif NH (k % 2) 0 then .nd (Tri.set f .lf (k / 2) x) undef .lf else .nd .lf undef (Tri.set f .lf (k / 2) x);rw[TD f];cases NH (k % 2) 0 <;> rfl
 |f+1,.nd l v r,k+1,x=>by
  show(Oq (Tri.nd l v (bd f r (k / 2) x)) (Tri.nd (bd f l (k / 2) x) v r) (NH (k % 2) 0):Tri)=bif NH (k % 2) 0 then .nd (Tri.set f l (k / 2) x) v r else .nd l v (Tri.set f r (k / 2) x);rw[TD f,TD f];cases NH (k % 2) 0 <;> rfl
def SD(tr:Tri)(x:Operand):Option Value:=Operand.rec (fun t=>some (ee tr t)) (fun v=>Oq none (some v) (af v)) (fun _=>none) (fun f=>some (.func (.func f) #[] #[])) x
theorem FK(len:Nat)(tr:Tri):SD tr=Zd ⟨len,tr⟩:=by
 funext x;cases x with
 |tmp t=>show some (ee tr t)=some (tr.get t);rw[TE]
 |const v=>show(Oq none (some v) (af v):Option Value)=bif af v then some v else none;cases af v <;> rfl
 |global g=>rfl
 |func f=>rfl
def Et(tr:Tri)(d:Option Tmp)(v:Value):Tri:=Option.rec tr (fun d=>bd 14 tr d v) d
theorem z3(len:Nat)(tr:Tri)(d:Option Tmp)(v:Value):(⟨len,Et tr d v⟩:Tm)=Vy ⟨len,tr⟩ d v:=by
 cases d with
 |none=>rfl
 |some d=>show(⟨len,bd 14 tr d v⟩:Tm)=⟨len,tr.set 14 d v⟩;rw[TD]
def HM{α:Type}(l:List α):Nat->Option α:=List.rec (fun _=>none) (fun x _ ih k=>Nat.rec (some x) (fun j _=>ih j) k) l
theorem z7{α:Type}:∀(l:List α) (k:Nat),HM l k=l[k]?
 |[],k=>by cases k <;> rfl
 |x::l,0=>rfl
 |x::l,k+1=>by show HM l k=_;rw[z7 l k];rfl
def ru(P:Program)(t:TypeId)(cs:Array Value)(off:Nat):Option Value:=
 Option.rec none (fun g=>Oq (HM cs.toList off) (Option.rec none (fun s=>Oq none (some (.agg (cs.extract off (off+s)))) (Oo (off+s) cs.size)) (WN P t)) g) (nq P t)
theorem pd(P:Program)(t:TypeId)(cs:Array Value)(off:Nat):ru P t cs off=K5 P t cs off:=by
 unfold ru K5;cases nq P t with
 |none=>rfl
 |some g=>
  cases g with
  |false=>show HM cs.toList off=_;rw[z7,NM]
  |true=>
   cases WN P t with
   |none=>rfl
   |some s=>simp only;cases Oo (off+s) cs.size <;> rfl
def ry(P:Program)(t:TypeId)(H:Qp)(p:Value):Option (Value×Nat):=match p with
 | .pointer (some ⟨b,off,none⟩)=>match Qu H b with
   |some (.cells cs _ _)=>match ru P t cs off with
    |some v=>some (v,b)
    |none=>none
   |_=>none
 |_=>none
theorem Ck(P:Program)(t:TypeId)(H:Qp)(p:Value):ry P t H p=R8 P t H p:=by
 unfold ry R8;simp only[pd];rfl
def rB(p:Value->Bool)(l:List Value):Bool:=List.rec true (fun x _ ih=>Oq false ih (p x)) l
theorem dY(p:Value->Bool):∀(l:List Value),rB p l=l.all p
 |[]=>rfl
 |x::l=>by
  show(Oq false (rB p l) (p x):Bool)=_;rw[dY p l,List.all_cons];cases p x <;> rfl
def EW(cs:Array Value):Bool:=rB (·.oneCell') cs.toList
theorem EV(cs:Array Value):EW cs=ones cs:=by
 unfold EW ones;rw[dY,Array.all_toList]
def Mz(v:Value):Bool:=match v with
 | .agg xs=>rB simple xs.toList
 |v=>simple v
theorem CC(v:Value):Mz v=sa v:=by
 cases v <;> first|rfl|(show rB simple _=_;rw[dY,Array.all_toList];rfl)
def N0(v:Value):Bool:=match v with
 | .agg xs=>rB simple xs.toList
 | .tuple xs=>rB Mz xs.toList
 | .iface _ v=>Mz v
 |v=>simple v
theorem Mj(v:Value):N0 v=af v:=by
 cases v with
 |iface t v=>exact CC v
 |tuple xs=>show rB Mz _=_;rw[show Mz=sa from funext CC,dY,Array.all_toList];rfl
 |_=>first|rfl|(show rB simple _=_;rw[dY,Array.all_toList];rfl)
def iT(P:Program)(t:TypeId)(H:Qp)(v p:Value):Option (Qp×Nat):=match p with
 | .pointer (some ⟨b,off,none⟩)=>match Qu H b with
   |some (.cells cs te (0,0))=>match WN P t with
    |some s=>bif NH v.cells.size s && EW v.cells && Oo (off+s) cs.size then some (V6 H b (.cells (splice cs off v.cells) te (0,0)),b)else none
    |none=>none
   |_=>none
 |_=>none
theorem yN(P:Program)(t:TypeId)(H:Qp)(v p:Value):iT P t H v p=PA P t H v p:=by
 unfold iT PA;simp only[EV];rfl
def iV(P:Program)(t:TypeId)(f:Nat)(x:Value):Option Value:=match x with
 | .agg cs=>match Jl P t with
   |some (.struct fields)=>match fields[f]? with
    |some fd=>ru P fd.type cs fd.offset
    |none=>none
   |_=>none
 |_=>none
theorem yS(P:Program)(t:TypeId)(f:Nat)(x:Value):iV P t f x=ft P t f x:=by
 unfold iV ft;simp only[pd];rfl
def wG(ops:Array Oper)(tr:Tri)(j:Nat):Option Bool:=match nth ops.toList j with
 |some o=>match o.dst with
  |some t=>PB (ee tr t)
  |none=>none
 |none=>none
theorem zX(len:Nat)(ops:Array Oper)(tr:Tri)(j:Nat):wG ops tr j=XI ops ⟨len,tr⟩ j:=by
 unfold wG XI;simp only[TE,XB];rfl
def zf(ops:Array Oper)(tr:Tri)(g:Option (Nat×Bool)):Bool:=Option.rec true (fun jw=>Prod.rec (fun j w=>Option.rec false (fun b=>Oq (Oq true false w) (Oq false true w) b) (wG ops tr j)) jw) g
theorem Cu(len:Nat)(ops:Array Oper)(tr:Tri)(o:Oper):zf ops tr o.guard=Region.wanted o (XI ops ⟨len,tr⟩):=by
 unfold zf Region.wanted;cases o.guard with
 |none=>rfl
 |some jw=>
  obtain⟨j,w⟩:=jw;simp only[zX len];cases XI ops ⟨len,tr⟩ j with
  |none=>rfl
  |some b=>cases b <;> cases w <;> rfl
abbrev n3:=Option (List Rec×RF)
abbrev KV:=Value->Qp->Nat->List Nat->List Nat->n3
abbrev Ct:=Program->(FuncId->Bool)->Vj->(CF->Qp->Nat->Option Rs)->Nat->Tri->Oper->Qp->Nat->KV->KV->n3
def fin(k kp:KV)(s:Option Rs):n3:=match s with
 |some ⟨out,H,n,R,W⟩=>match out with
  | .ret v=>k v H n R W
  | .ZH v=>kp v H n R W
 |none=>none
def pv(k:KV)(H:Qp)(n:Nat)(x:Option Value):n3:=Option.rec none (fun v=>k v H n [] []) x
theorem TA(k kp:KV)(H:Qp)(n:Nat)(x:Option Value):fin k kp (qV x H n)=pv k H n x:=by cases x <;> rfl
def IZ(x:Operand):Ct:=fun _ _ _ _ _ tr _ H n k _=>pv k H n (SD tr x)
def MU(c a b:Operand):Ct:=fun _ _ _ _ _ tr _ H n k _=>Option.rec none (fun v=>Option.rec none (fun t=>Oq (pv k H n (SD tr b)) (pv k H n (SD tr a)) t) (PB v)) (SD tr c)
def MV(t:TypeId)(a:Operand):Ct:=fun P _ _ _ _ tr _ H n k _=>Option.rec none (fun p=>Option.rec none (fun vb=>Prod.rec (fun v b=>Oq none (k v H n [b] []) (NO b n)) vb) (ry P t H p)) (SD tr a)
def Mm(t:TypeId)(a x:Operand):Ct:=fun P _ _ _ _ tr _ H n k _=>Option.rec none (fun p=>Option.rec none (fun v=>Option.rec none (fun hb=>Prod.rec (fun H' b=>Oq none (k undef H' n [b] [b]) (NO b n)) hb) (iT P t H v p)) (SD tr x)) (SD tr a)
def zd(s:TypeId)(x:Operand)(f:Nat):Ct:=fun P _ _ _ _ tr _ H n k _=>Option.rec none (fun p=>pv k H n (Wx P s f p)) (SD tr x)
def Mn(s:TypeId)(x:Operand)(f:Nat):Ct:=fun P _ _ _ _ tr _ H n k _=>Option.rec none (fun p=>pv k H n (iV P s f p)) (SD tr x)
def zb(t:TypeId)(x i:Operand):Ct:=fun P _ _ _ _ tr _ H n k _=>Option.rec none (fun p=>Option.rec none (fun j=>pv k H n (KT P t p j)) (SD tr i)) (SD tr x)
def Gt(x:Operand)(i:Nat):Ct:=fun _ _ _ _ _ tr _ H n k _=>Option.rec none (fun p=>pv k H n (R9 i p)) (SD tr x)
def Nw(op:BinOp)(_:TypeId)(x y:Operand)(_:TypeId):Ct:=fun P _ _ _ _ tr o H n k _=>Option.rec none (fun a=>Option.rec none (fun b=>Option.rec (pv k H n (Uj P (SD tr) o)) (fun v=>k v H n [] []) (yU op a b)) (SD tr y)) (SD tr x)
def FP(v:Value)(r:CR)(k:KV)(H':Qp)(n':Nat)(R W:List Nat):n3:=List.rec (Oq (k v H' n' (r.R++R) (r.W++[])) (k v r.H n' (r.R++R) (r.W++[])) (N0 v)) (fun _ _ _=>k v H' n' (r.R++R) (r.W++W)) W
def zQ(r:CR)(k kp:KV)(s:Option Rs):n3:=Option.rec none (fun s=>Rs.rec (fun out H' n' R W=>OO.rec (fun v=>FP v r k H' n' R W) (fun v=>kp v H' n' (r.R++R) (r.W++W)) out) s) s
theorem Gp(r:CR)(k kp:KV)(s:Option Rs):zQ r k kp s=fin k kp (match s with|some s=>Eo r s|none=>none):=by
 cases s with
 |none=>rfl
 |some s=>
  obtain⟨out,H',n',R,W⟩:=s;cases out with
  |ZH v=>
   cases W with
   |nil=>rfl
   |cons a b=>rfl
  |ret v=>
   show FP v r k H' n' R W=_;unfold FP;cases W with
   |nil=>
    rw[Mj];simp only[Eo,KZ];cases af v <;> rfl
   |cons a b=>rfl
def rk(P:Program)(Xt:Vj)(rec:CF->Qp->Nat->Option Rs)(g:FuncId)(args:Array Value)(r:CR)(k kp:KV):n3:=Option.rec (Option.rec none (fun c=>zQ r k kp (rec c r.H r.n)) (Wo P g args)) (fun _=>fin k kp (pI P Xt rec g args r)) (Xt g args r.H r.n)
theorem Ce(P:Program)(Xt:Vj)(rec:CF->Qp->Nat->Option Rs)(g:FuncId)(args:Array Value)(r:CR)(k kp:KV):rk P Xt rec g args r k kp=fin k kp (pI P Xt rec g args r):=by
 unfold rk;cases ho:Xt g args r.H r.n with
 |some x=>rfl
 |none=>
  unfold pI;rw[ho];show(Option.rec none (fun c=>zQ r k kp (rec c r.H r.n)) (Wo P g args):n3)=fin k kp (Lz P rec g args r);unfold Lz;cases Wo P g args with
  |none=>rfl
  |some c=>
   show zQ r k kp (rec c r.H r.n)=_;rw[Gp];rfl
def Gd(P:Program)(Xt:Vj)(rec:CF->Qp->Nat->Option Rs)(n:Nat)(x:Option CR)(k kp:KV):n3:=Option.rec none (fun r=>CN.rec (fun _=>fin k kp (qR P Xt rec n (some r))) (fun g args=>Oq none (rk P Xt rec g args r k kp) (r.R.all (fun i=>NO i n))) (fun _ _ _ _ _=>fin k kp (qR P Xt rec n (some r))) r.nx) x
theorem Gb(P:Program)(Xt:Vj)(rec:CF->Qp->Nat->Option Rs)(n:Nat)(x:Option CR)(k kp:KV):Gd P Xt rec n x k kp=fin k kp (qR P Xt rec n x):=by
 cases x with
 |none=>rfl
 |some r=>
  obtain⟨nx,H',n',R,W⟩:=r;cases nx with
  |val v=>rfl
  |round l fn tm a b=>rfl
  |enter g args=>
   show(Oq none (rk P Xt rec g args ⟨.enter g args,H',n',R,W⟩ k kp) (R.all (fun i=>NO i n)):n3)=_;rw[Ce];simp only[qR];cases R.all (fun i=>NO i n) <;> rfl
def MW(c:Call):Ct:=fun P F Xt rec _ tr o H n k kp=>Gd P Xt rec n (cL P F (SD tr) o c H n) k kp
def U8:Ct:=fun P F Xt rec len tr o H n k kp=>fin k kp (rI P F Xt rec ⟨len,tr⟩ o H n)
def Ns(op:Op):Ct:=Op.rec IZ IZ MU (fun _=>U8) (fun _ _=>U8) (fun _ _=>U8) (fun _ _ _=>U8) (fun _ _ _ _=>U8) MV Mm (fun _=>U8) (fun _=>U8) (fun _=>U8) Nw (fun _ _ _=>U8) (fun _ _ _=>U8) (fun _ _=>U8) (fun _ _=>U8)
 (fun _ _ _=>U8) (fun _ _=>U8) (fun _ _=>U8) (fun _ _ _=>U8) (fun _ _ _ _ _=>U8) zd Mn zb (fun _ _ _=>U8) (fun _ _ _ _=>U8) (fun _ _ _ _=>U8) (fun _ _ _=>U8) (fun _ _ _ _=>U8) (fun _ _=>U8) (fun _ _=>U8) (fun _=>U8) (fun _ _ _ _=>U8)
 Gt MW (fun _=>U8) (fun _=>U8) (fun _=>U8) (fun _ _=>U8) (fun _ _ _=>U8) (fun _ _=>U8) op
theorem LM(P:Program)(F:FuncId->Bool)(Xt:Vj)(rec:CF->Qp->Nat->Option Rs)(len:Nat)(tr:Tri)(o:Oper)(H:Qp)(n:Nat)(k kp:KV):Ns o.op P F Xt rec len tr o H n k kp=fin k kp (rI P F Xt rec ⟨len,tr⟩ o H n):=by
 have e:=FK len tr;cases hp:o.op with
 |move x=>show pv k H n (SD tr x)=_;rw[e];unfold rI;simp only[hp];exact(TA k kp H n _).symm
 |assign x=>show pv k H n (SD tr x)=_;rw[e];unfold rI;simp only[hp];exact(TA k kp H n _).symm
 |pick c a b=>
  show(Option.rec none (fun v=>Option.rec none (fun t=>Oq (pv k H n (SD tr b)) (pv k H n (SD tr a)) t) (PB v)) (SD tr c):n3)=_;rw[e];unfold rI;simp only[hp];cases Zd ⟨len,tr⟩ c with
  |none=>rfl
  |some v=>
   cases v with
   |bool t=>cases t <;> exact(TA k kp H n _).symm
   |_=>rfl
 |load t a=>
  show(Option.rec none (fun p=>Option.rec none (fun vb=>Prod.rec (fun v b=>Oq none (k v H n [b] []) (NO b n)) vb) (ry P t H p)) (SD tr a):n3)=_;simp only[Ck];rw[e];unfold rI;simp only[hp];cases Zd ⟨len,tr⟩ a with
  |none=>rfl
  |some p=>
   simp only[Ek];cases R8 P t H p with
   |none=>rfl
   |some vb=>
    obtain⟨v,b⟩:=vb;cases hb:NO b n <;> simp[qR,fin,z1,hb]
 |store t a x=>
  show(Option.rec none (fun p=>Option.rec none (fun v=>Option.rec none (fun hb=>Prod.rec (fun H' b=>Oq none (k undef H' n [b] [b]) (NO b n)) hb) (iT P t H v p)) (SD tr x)) (SD tr a):n3)=_;simp only[yN];rw[e];unfold rI;simp only[hp];cases Zd ⟨len,tr⟩ a with
  |none=>rfl
  |some p=>
   cases Zd ⟨len,tr⟩ x with
   |none=>rfl
   |some v=>
    simp only[xn];cases PA P t H v p with
    |none=>rfl
    |some vb=>
     obtain⟨H',b⟩:=vb;cases hb:NO b n <;> simp[qR,fin,z1,hb]
 |fieldAddr s x f=>
  show(Option.rec none (fun p=>pv k H n (Wx P s f p)) (SD tr x):n3)=_;rw[e];unfold rI;simp only[hp];cases Zd ⟨len,tr⟩ x with
  |none=>rfl
  |some p=>simp only[bl,Pj];exact(TA k kp H n _).symm
 |field s x f=>
  show(Option.rec none (fun p=>pv k H n (iV P s f p)) (SD tr x):n3)=_;simp only[yS];rw[e];unfold rI;simp only[hp];cases Zd ⟨len,tr⟩ x with
  |none=>rfl
  |some p=>simp only[xo,Pj];exact(TA k kp H n _).symm
 |indexAddr t x i=>
  show(Option.rec none (fun p=>Option.rec none (fun j=>pv k H n (KT P t p j)) (SD tr i)) (SD tr x):n3)=_;rw[e];unfold rI;simp only[hp];cases Zd ⟨len,tr⟩ x with
  |none=>rfl
  |some p=>
   cases Zd ⟨len,tr⟩ i with
   |none=>rfl
   |some j=>simp only[bk,Pj];exact(TA k kp H n _).symm
 |extract x i=>
  show(Option.rec none (fun p=>pv k H n (R9 i p)) (SD tr x):n3)=_;rw[e];unfold rI;simp only[hp];cases Zd ⟨len,tr⟩ x with
  |none=>rfl
  |some p=>simp only[jS,Pj];exact(TA k kp H n _).symm
 |binOp op t x y t'=>
  show(Option.rec none (fun a=>Option.rec none (fun b=>Option.rec (pv k H n (Uj P (SD tr) o)) (fun v=>k v H n [] []) (yU op a b)) (SD tr y)) (SD tr x):n3)=_;rw[e];unfold rI;simp only[hp];cases Zd ⟨len,tr⟩ x with
  |none=>rfl
  |some a=>
   cases Zd ⟨len,tr⟩ y with
   |none=>rfl
   |some b=>
    simp only[L6];cases yU op a b with
    |none=>simp only[Pj];exact(TA k kp H n _).symm
    |some v=>rfl
 |call c=>show Gd P Xt rec n (cL P F (SD tr) o c H n) k kp=_;rw[Gb,e];unfold rI;simp only[hp]
 |_=>rfl
def zN(r:Rec)(x:n3):n3:=Option.rec none (fun p=>Prod.rec (fun rs f=>some (r::rs,f)) p) x
def zq(P:Program)(F:FuncId->Bool)(Xt:Vj)(rec:CF->Qp->Nat->Option Rs)(len:Nat)(ops:Array Oper)(l:List Oper):Tri->Qp->Nat->n3:=
 List.rec (fun tr H n=>some ([],.ok ⟨len,tr⟩ H n)) (fun o _ ih tr H n=>Oq
  (zN ⟨o,false,undef,⟨len,tr⟩,H,H,n,n,[],[]⟩ (ih (Et tr o.dst undef) H n))
  (Ns o.op P F Xt rec len tr o H n (fun v H' n' R W=>zN ⟨o,true,v,⟨len,tr⟩,H,H',n,n',R,W⟩ (ih (Et tr o.dst v) H' n')) (fun v H' n' R W=>some ([],.ZH ⟨len,tr⟩ v H' n' R W)))
  (zf ops tr o.guard)) l
def rl(len:Nat)(l:List Oper):Bool:=l.all fun o=>JO ⟨len,.lf⟩ o.dst
theorem s5(P:Program)(F:FuncId->Bool)(Xt:Vj)(rec:CF->Qp->Nat->Option Rs)(len:Nat)(ops:Array Oper):∀(l:List Oper) (tr:Tri) (H:Qp) (n:Nat),rl len l=true->zq P F Xt rec len ops l tr H n=Jo P F Xt rec ops l ⟨len,tr⟩ H n
 |[],_,_,_,_=>rfl
 |o::l,tr,H,n,hd=>by
  simp only[rl,List.all_cons,YB]at hd;have hd1:JO ⟨len,tr⟩ o.dst=true:=by
   have:=hd.1;cases hq:o.dst with
   |none=>rfl
   |some x=>rw[hq]at this;exact this
  have ih:=s5 P F Xt rec len ops l;show(Oq (zN ⟨o,false,undef,⟨len,tr⟩,H,H,n,n,[],[]⟩ (zq P F Xt rec len ops l (Et tr o.dst undef) H n))
   (Ns o.op P F Xt rec len tr o H n (fun v H' n' R W=>zN ⟨o,true,v,⟨len,tr⟩,H,H',n,n',R,W⟩ (zq P F Xt rec len ops l (Et tr o.dst v) H' n')) (fun v H' n' R W=>some ([],.ZH ⟨len,tr⟩ v H' n' R W)))
   (zf ops tr o.guard):n3)=_
  rw[Cu len];simp only[Jo,hd1,cond_true];cases Region.wanted o (XI ops ⟨len,tr⟩)with
  |false=>
   simp only[cond_false];rw[ih _ _ _ hd.2,z3];cases Jo P F Xt rec ops l (Vy ⟨len,tr⟩ o.dst undef) H n <;> rfl
  |true=>
   simp only[cond_true,LM];cases rI P F Xt rec ⟨len,tr⟩ o H n with
   |none=>rfl
   |some s=>
    obtain⟨out,H',n',R,W⟩:=s;cases out with
    |ZH v=>rfl
    |ret v=>
     simp only[fin];rw[ih _ _ _ hd.2,z3];cases Jo P F Xt rec ops l (Vy ⟨len,tr⟩ o.dst v) H' n' <;> rfl
def SP(ops:Array Oper)(o:Oper)(k:Nat):List Oper->List (List Nat)->Bool
 |x::l,b::bs=>(b.contains k || o.apart ops x) && SP ops o k l bs
 |[],_=>true
 |_::_,[]=>false
def stat(ops:Array Oper):Nat->List Oper->List (List Nat)->Bool
 |k,o::l,_::bs=>SP ops o k l bs && stat ops (k+1) l bs
 |_,[],_=>true
 |_,_::_,[]=>false
def aN(i:Nat)(l:List Nat):Bool:=List.rec false (fun j _ ih=>Oq ih true (NH i j)) l
theorem dV(i:Nat):∀(l:List Nat),aN i l=l.contains i
 |[]=>rfl
 |j::l=>by
  show(Oq (aN i l) true (NH i j):Bool)=_;rw[dV i l,List.contains_cons];by_cases e:i=j
  ·subst e;rw[Nat.beq_refl];simp
  ·rw[S5 e];simp[e]
def qp(W R:List Nat):Bool:=List.rec false (fun i _ ih=>Oq ih true (aN i R)) W
theorem eV(R:List Nat):∀(W:List Nat),qp W R=W.any fun i=>R.contains i
 |[]=>rfl
 |i::W=>by
  show(Oq (qp W R) true (aN i R):Bool)=_;rw[eV R W,dV,List.any_cons];cases R.contains i <;> rfl
def r8(lo hi:Nat)(R:List Nat):Bool:=List.rec false (fun i _ ih=>Oq ih (Oq ih true (NO i hi)) (Oo lo i)) R
theorem pn(lo hi:Nat):∀(R:List Nat),r8 lo hi R=R.any fun i=>Oo lo i && NO i hi
 |[]=>rfl
 |i::R=>by
  show(Oq (r8 lo hi R) (Oq (r8 lo hi R) true (NO i hi)) (Oo lo i):Bool)=_;rw[pn lo hi R,List.any_cons];cases Oo lo i <;> cases NO i hi <;> rfl
def clear(r x:Rec):Bool:=Oq (Oq (Oq true false (r8 r.n r.n' x.R)) false (qp x.W r.R)) false (qp r.W x.R)
theorem yI{ops:Array Oper}{r x:Rec}(h:clear r x=true)(ha:r.o.apart ops x.o=true):tied ops r x=false:=by
 unfold clear at h;rw[pn,eV,eV]at h;unfold tied meets bears;rw[ha];revert h;cases r.W.any fun i=>x.R.contains i <;> cases x.W.any fun i=>r.R.contains i <;> cases x.R.any fun i=>Oo r.n i && NO i r.n' <;> simp
def S0(r:Rec)(k:Nat)(l:List Rec):List (List Nat)->Bool:=List.rec (fun _=>true) (fun x _ ih bs=>List.rec false (fun b bs' _=>Oq (Oq false (ih bs') (aN k b)) (ih bs') (clear r x)) bs) l
def dyn(l:List Rec):Nat->List (List Nat)->Bool:=List.rec (fun _ _=>true) (fun r l ih k bs=>List.rec false (fun _ bs' _=>Oq false (ih (k+1) bs') (S0 r k l bs')) bs) l
theorem eo{ops:Array Oper}{r:Rec}(k:Nat):∀(l:List Rec) (bs:List (List Nat)),S0 r k l bs=true->SP ops r.o k (l.map (·.o)) bs=true->Kf ops r k l bs=true
 |[],_,_,_=>by simp[Kf]
 |x::l,[],_,h=>by simp[SP]at h
 |x::l,b::bs,hd,h=>by
  simp only[List.map_cons,SP,YB,Bool.or_eq_true]at h;simp only[Kf,YB,Bool.or_eq_true,Bool.not_eq_true'];have hd:(Oq (Oq false (S0 r k l bs) (aN k b)) (S0 r k l bs) (clear r x):Bool)=true:=hd;cases hc:clear r x with
  |true=>
   rw[hc]at hd;exact⟨h.1.imp id fun ha=>yI hc ha,eo k l bs hd h.2⟩
  |false=>
   rw[hc]at hd;have hd:(Oq false (S0 r k l bs) (aN k b):Bool)=true:=hd;cases he:aN k b with
   |false=>rw[he]at hd;cases hd
   |true=>
    rw[he]at hd;rw[dV]at he;exact⟨.inl he,eo k l bs hd h.2⟩
theorem js{ops:Array Oper}:∀(l:List Rec) (bs:List (List Nat)) (k:Nat),dyn l k bs=true->stat ops k (l.map (·.o)) bs=true->indep ops k l bs=true
 |[],_,_,_,_=>by simp[indep]
 |x::l,[],_,_,h=>by simp[stat]at h
 |x::l,b::bs,k,hd,h=>by
  simp only[List.map_cons,stat,YB]at h;simp only[indep,YB];have hd:(Oq false (dyn l (k+1) bs) (S0 x k l bs):Bool)=true:=hd;cases hc:S0 x k l bs with
  |false=>rw[hc]at hd;cases hd
  |true=>
   rw[hc]at hd;exact⟨eo k l bs hc h.1,js l bs (k+1) hd h.2⟩
theorem ew{P:Program}{F:FuncId->Bool}{Xt:Vj}{rec:CF->Qp->Nat->Option Rs}{ops:Array Oper}:∀(l:List Oper) (T:Tm) (H:Qp) (n:Nat) (Qy:List Rec) (T':Tm) (H':Qp) (n':Nat),Jo P F Xt rec ops l T H n=some (Qy,.ok T' H' n')->Qy.map (·.o)=l
 |[],T,H,n,Qy,T',H',n',h=>by
  simp only[Jo,YO,YR]at h;rw[<-h.1];rfl
 |o::l,T,H,n,Qy,T',H',n',h=>by
  simp only[Jo]at h;have h:=KU h;cases hw:Region.wanted o (XI ops T)with
  |true=>
   rw[hw]at h;simp only[cond_true]at h;split at h
   ·split at h
    ·split at h
     ·rename_i rs f hr;simp only[YO,YR]at h;obtain⟨rfl,rfl⟩:=h;simp[ew l _ _ _ _ _ _ _ hr]
     ·cases h
    ·simp only[YO,YR]at h;cases h.2
   ·cases h
  |false=>
   rw[hw]at h;simp only[cond_false]at h;split at h
   ·rename_i rs f hr;simp only[YO,YR]at h;obtain⟨rfl,rfl⟩:=h;simp[ew l _ _ _ _ _ _ _ hr]
   ·cases h
def p8(ops:Array Oper):Bool:=Vi 0 ops.toList && stat ops 0 ops.toList (YT ops.toList [])
def chk(ops:Array Oper)(Qy:List Rec)(draw:Bool):Bool:=Oq true (Oq (Vi 0 ops.toList && indep ops 0 Qy (YT ops.toList [])) (Oq (Vi 0 ops.toList && indep ops 0 Qy (YT ops.toList [])) true (dyn Qy 0 (YT ops.toList []))) (p8 ops)) draw
theorem Mg{ops:Array Oper}{Qy:List Rec}{draw:Bool}(h:Qy.map (·.o)=ops.toList):chk ops Qy draw=(!draw || (Vi 0 ops.toList && indep ops 0 Qy (YT ops.toList []))):=by
 unfold chk;cases draw with
 |false=>rfl
 |true=>
  simp only[Bool.not_true,Bool.false_or];cases hs:p8 ops with
  |false=>rfl
  |true=>
   cases hc:dyn Qy 0 (YT ops.toList [])with
   |false=>rfl
   |true=>
    unfold p8 at hs;simp only[YB]at hs;rw[hs.1,js Qy _ 0 hc (by rw[h];exact hs.2)];rfl
def gN(b:Nat)(l:List Nat):List Nat->List Nat:=List.rec (fun acc=>acc) (fun x _ ih acc=>Oq (ih acc) (Oq (ih (x::acc)) (ih acc) (aN x acc)) (NO x b)) l
theorem dZ(b:Nat):∀(l acc:List Nat),gN b l acc=ZT b l acc
 |[],_=>rfl
 |x::l,acc=>by
  show(Oq (gN b l acc) (Oq (gN b l (x::acc)) (gN b l acc) (aN x acc)) (NO x b):List Nat)=_;rw[dZ b l,dZ b l,dV,ZT];cases NO x b <;> cases acc.contains x <;> rfl
theorem nt(b:Nat):∀(l m acc:List Nat),ZT b (l++m) acc=ZT b m (ZT b l acc)
 |[],_,_=>rfl
 |x::l,m,acc=>by simp only[List.cons_append,ZT];exact nt b l m _
def Ml(b:Nat)(Qy:List Rec):List Nat->List Nat:=List.rec (fun acc=>acc) (fun r _ ih acc=>ih (gN b r.R acc)) Qy
theorem zU(b:Nat):∀(Qy:List Rec) (acc:List Nat),Ml b Qy acc=ZT b (K7 Qy) acc
 |[],_=>rfl
 |r::l,acc=>by
  show Ml b l (gN b r.R acc)=_;rw[zU b l,dZ,show K7 (r::l)=r.R++K7 l from OC,nt]
def Mk(b:Nat)(Qy:List Rec):List Nat->List Nat:=List.rec (fun acc=>acc) (fun r _ ih acc=>ih (gN b r.W acc)) Qy
theorem zT(b:Nat):∀(Qy:List Rec) (acc:List Nat),Mk b Qy acc=ZT b (VU Qy) acc
 |[],_=>rfl
 |r::l,acc=>by
  show Mk b l (gN b r.W acc)=_;rw[zT b l,dZ,show VU (r::l)=r.W++VU l from OC,nt]
def CG(P:Program)(F:FuncId->Bool)(Xt:Vj)(rec:CF->Qp->Nat->Option Rs)(len:Nat)(tr:Tri)(ops:Array Oper)(H:Qp)(n:Nat):n3:=
 Oq (Jo P F Xt rec ops ops.toList ⟨len,tr⟩ H n) (zq P F Xt rec len ops ops.toList tr H n) (rl len ops.toList)
theorem CD(P:Program)(F:FuncId->Bool)(Xt:Vj)(rec:CF->Qp->Nat->Option Rs)(len:Nat)(tr:Tri)(ops:Array Oper)(H:Qp)(n:Nat):CG P F Xt rec len tr ops H n=Jo P F Xt rec ops ops.toList ⟨len,tr⟩ H n:=by
 unfold CG;cases hd:rl len ops.toList with
 |false=>rfl
 |true=>exact s5 P F Xt rec len ops _ _ _ _ hd
abbrev MX:=Nat->FuncId->Nat->Tri->List Item->List Nat->Option Nat->Qp->Nat->List Nat->List Nat->Option Rs
def Lt(P:Program)(F:FuncId->Bool)(Xt:Vj)(fuel:Nat)(ih:MX)(c1:CF)(H1:Qp)(n1:Nat):Option Rs:=
 CF.rec (fun fn T todo ds mode ro=>CM.rec (Tm.rec (fun len tr=>ih n1 fn len tr todo ds ro H1 n1 [] []) T) (YI P F Xt fuel n1 ⟨fn,T,todo,ds,.ret,ro⟩ H1 n1 [] []) (fun v=>YI P F Xt fuel n1 ⟨fn,T,todo,ds,.ZH v,ro⟩ H1 n1 [] []) mode) c1
def N3(P:Program)(F:FuncId->Bool)(Xt:Vj)(fuel:Nat)(ih:MX)(b:Nat)(c1:CF)(H1:Qp)(n1:Nat)(R W:List Nat):Option Rs:=
 CF.rec (fun fn T todo ds mode ro=>CM.rec (Tm.rec (fun len tr=>ih b fn len tr todo ds ro H1 n1 R W) T) (YI P F Xt fuel b ⟨fn,T,todo,ds,.ret,ro⟩ H1 n1 R W) (fun v=>YI P F Xt fuel b ⟨fn,T,todo,ds,.ZH v,ro⟩ H1 n1 R W) mode) c1
def resume(P:Program)(F:FuncId->Bool)(Xt:Vj)(fuel:Nat)(ih:MX)(b:Nat)(R W:List Nat)(x:Option FS):Option Rs:=
 Option.rec none (fun fs=>FS.rec (fun c' H' n' R' W'=>N3 P F Xt fuel ih b c' H' n' (ZT b R' R) (ZT b W' W)) (fun out H' n' R' W'=>some ⟨out,H',n',ZT b R' R,ZT b W' W⟩) fs) x
abbrev Gy:=Program->(FuncId->Bool)->Vj->Nat->MX->Nat->FuncId->Nat->Tri->List Item->List Nat->Option Nat->Qp->Nat->List Nat->List Nat->Option Rs
def Rq(it:Item):Gy:=fun P F Xt fuel ih b fn len tr k ds ro H n R W=>resume P F Xt fuel ih b R W (ff P F Xt (Lt P F Xt fuel ih) ⟨fn,⟨len,tr⟩,it::k,ds,.run,ro⟩ H n)
def zH:Gy:=fun _ _ _ _ ih b fn len tr k ds ro H n R W=>ih b fn len tr k ds ro H n R W
def Nt(x y:Code):Gy:=fun _ _ _ _ ih b fn len tr k ds ro H n R W=>ih b fn len tr (.code x::.code y::k) ds ro H n R W
def MO(q:Operand)(x y:Code):Gy:=fun _ _ _ _ ih b fn len tr k ds ro H n R W=>Option.rec none (fun v=>Option.rec none (fun t=>Oq (ih b fn len tr (.code y::k) ds ro H n R W) (ih b fn len tr (.code x::k) ds ro H n R W) t) (PB v)) (SD tr q)
def Ma(id:Nat)(x:Code):Gy:=fun _ _ _ _ ih b fn len tr k ds ro H n R W=>ih b fn len tr (.code x::.inBlock id::k) ds ro H n R W
def IW(x:Code):Gy:=fun _ _ _ _ ih b fn len tr k ds ro H n R W=>ih b fn len tr (.code x::.inLoop x::k) ds ro H n R W
def LZ(x:Code):Gy:=fun _ _ _ _ ih b fn len tr k ds ro H n R W=>ih b fn len tr (.code x::.inScope x::k) ds ro H n R W
def qY(id:Nat)(ops:Array Oper)(draw:Bool):Gy:=fun P F Xt fuel ih b fn len tr k ds ro H n R W=>
 Option.rec none (fun p=>Prod.rec (fun Qy f=>RF.rec (fun T' H' n'=>Oq none (Tm.rec (fun len' tr'=>ih b fn len' tr' k ds ro H' n' (Ml b Qy R) (Mk b Qy W)) T') (chk ops Qy draw))
  (fun T' v H' n' R1 W1=>resume P F Xt fuel ih b R W (Ly ⟨fn,⟨len,tr⟩,.code (.region id ops draw)::k,ds,.run,ro⟩ ops draw k (some (Qy,.ZH T' v H' n' R1 W1)))) f) p) (CG P F Xt (Lt P F Xt fuel ih) len tr ops H n)
def codeF(cd:Code):Gy:=Code.rec zH qY (fun x y _ _=>Nt x y) (fun q x y _ _=>MO q x y) (fun id x _=>Ma id x) (fun x _=>IW x) (fun f ps x y _ _=>Rq (.code (.rangeFunc f ps x y))) (fun id=>Rq (.code (.exit id))) (fun x _=>LZ x) (fun _=>zH) (fun l=>Rq (.code (.goto l))) (Rq (.code .ret)) (fun w=>Rq (.code (.refuse w))) cd
def IV(it:Item):Gy:=Item.rec codeF (fun _=>zH) IW (fun _=>zH) (fun a b=>Rq (.inRegion a b)) (fun l=>Rq (.inRangeFunc l)) (fun l=>Rq (.endRangeFunc l)) (Rq .beginRound) (fun a b c d=>Rq (.call a b c d)) (fun a b=>Rq (.extern a b)) it
def T8(P:Program)(F:FuncId->Bool)(Xt:Vj)(fuel:Nat):MX:=Nat.rec (fun _ _ _ _ _ _ _ _ _ _ _=>none) (fun fuel ih b fn len tr todo ds ro H n R W=>
 List.rec (resume P F Xt fuel ih b R W (P3 ⟨fn,⟨len,tr⟩,[],ds,.run,ro⟩ H n none)) (fun it k _=>IV it P F Xt fuel ih b fn len tr k ds ro H n R W) todo) fuel
theorem mP(P:Program)(F:FuncId->Bool)(Xt:Vj):∀(fuel b:Nat) (fn:FuncId) (len:Nat) (tr:Tri) (todo:List Item) (ds:List Nat) (ro:Option Nat) (H:Qp) (n:Nat) (R W:List Nat),T8 P F Xt fuel b fn len tr todo ds ro H n R W=YI P F Xt fuel b ⟨fn,⟨len,tr⟩,todo,ds,.run,ro⟩ H n R W
 |0,_,_,_,_,_,_,_,_,_,_,_=>rfl
 |fuel+1,b,fn,len,tr,todo,ds,ro,H,n,R,W=>by
  have hih:∀(b:Nat) (fn:FuncId) (len:Nat) (tr:Tri) (todo:List Item) (ds:List Nat) (ro:Option Nat) (H:Qp) (n:Nat) (R W:List Nat),T8 P F Xt fuel b fn len tr todo ds ro H n R W=YI P F Xt fuel b ⟨fn,⟨len,tr⟩,todo,ds,.run,ro⟩ H n R W:=mP P F Xt fuel;have Vu:Lt P F Xt fuel (T8 P F Xt fuel)=fun c1 H1 n1=>YI P F Xt fuel n1 c1 H1 n1 [] []:=by
   funext c1 H1 n1;obtain⟨fn,⟨len,tr⟩,todo,ds,mode,ro⟩:=c1;cases mode with
   |run=>exact hih _ _ _ _ _ _ _ _ _ _ _
   |ret=>rfl
   |ZH v=>rfl
  have hres:∀(R W:List Nat) (x:Option FS),resume P F Xt fuel (T8 P F Xt fuel) b R W x=match x with
   |some (.go c' H' n' R' W')=>YI P F Xt fuel b c' H' n' (ZT b R' R) (ZT b W' W)
   |some (.done out H' n' R' W')=>some ⟨out,H',n',ZT b R' R,ZT b W' W⟩
   |none=>none:=by
   intro R W x;cases x with
   |none=>rfl
   |some fs=>
    cases fs with
    |done out H' n' R' W'=>rfl
    |go c' H' n' R' W'=>
     obtain⟨fn,⟨len,tr⟩,todo,ds,mode,ro⟩:=c';cases mode with
     |run=>exact hih _ _ _ _ _ _ _ _ _ _ _
     |ret=>rfl
     |ZH v=>rfl
  have hslow:∀(it:Item) (k:List Item),Rq it P F Xt fuel (T8 P F Xt fuel) b fn len tr k ds ro H n R W=YI P F Xt (fuel+1) b ⟨fn,⟨len,tr⟩,it::k,ds,.run,ro⟩ H n R W:=by
   intro it k;unfold Rq;rw[hres,Vu];rfl
  cases todo with
  |nil=>exact hres R W _
  |cons it k=>
   show IV it P F Xt fuel (T8 P F Xt fuel) b fn len tr k ds ro H n R W=_;cases it with
   |code cd=>
    cases cd with
    |skip=>exact hih _ _ _ _ _ _ _ _ _ _ _
    |label l=>exact hih _ _ _ _ _ _ _ _ _ _ _
    |seq x y=>exact hih _ _ _ _ _ _ _ _ _ _ _
    |block id x=>exact hih _ _ _ _ _ _ _ _ _ _ _
    |loop x=>exact hih _ _ _ _ _ _ _ _ _ _ _
    |scope x=>exact hih _ _ _ _ _ _ _ _ _ _ _
    |cond q x y=>
     show(Option.rec none (fun v=>Option.rec none (fun t=>Oq (T8 P F Xt fuel b fn len tr (.code y::k) ds ro H n R W) (T8 P F Xt fuel b fn len tr (.code x::k) ds ro H n R W) t) (PB v)) (SD tr q):Option Rs)=_;rw[FK len tr,hih,hih];simp only[YI,ff,fN,fO];cases Zd ⟨len,tr⟩ q with
     |none=>rfl
     |some v=>
      cases v with
      |bool t=>cases t <;> rfl
      |_=>rfl
    |region id ops draw=>
     show qY id ops draw P F Xt fuel (T8 P F Xt fuel) b fn len tr k ds ro H n R W=_;unfold qY;rw[CD,Vu];simp only[YI,ff,fN,fO,zU,zT];cases hrr:Jo P F Xt (fun c1 H1 n1=>YI P F Xt fuel n1 c1 H1 n1 [] []) ops ops.toList ⟨len,tr⟩ H n with
     |none=>rfl
     |some p=>
      obtain⟨Qy,f⟩:=p;cases f with
      |ZH v H' n' R1 W1=>exact hres R W _
      |ok T' H' n'=>
       have hck:=Mg (draw:=draw) (ew _ _ _ _ _ _ _ _ hrr);obtain⟨len',tr'⟩:=T';simp only[Ly];rw[hck];cases !draw || (Vi 0 ops.toList && indep ops 0 Qy (YT ops.toList []))with
       |false=>rfl
       |true=>exact hih _ _ _ _ _ _ _ _ _ _ _
    |rangeFunc f ps x y=>exact hslow _ k
    |exit id=>exact hslow _ k
    |goto id=>exact hslow _ k
    |ret=>exact hslow _ k
    |refuse w=>exact hslow (.code (.refuse w)) k
   |inBlock id=>exact hih _ _ _ _ _ _ _ _ _ _ _
   |inScope x=>exact hih _ _ _ _ _ _ _ _ _ _ _
   |inLoop x=>exact hih _ _ _ _ _ _ _ _ _ _ _
   |inRegion a b=>exact hslow _ k
   |inRangeFunc l=>exact hslow _ k
   |endRangeFunc l=>exact hslow _ k
   |beginRound=>exact hslow _ k
   |call a b c d=>exact hslow _ k
   |extern a b=>exact hslow _ k
end
end Go.CE
