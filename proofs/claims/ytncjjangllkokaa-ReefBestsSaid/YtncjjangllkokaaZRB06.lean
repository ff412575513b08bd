/- CE: the canonical machine a third time: by recursors alone where much time goes. -/
import Derived.Test.YtncjjangllkokaaZRB05
set_option linter.all false
open Bool renaming rec->LL
open Nat renaming beq->Lf,ble->LI,blt->Ll
open Array renaming getElem?_toList->Lm
open List renaming flatMap_cons->LY
namespace Go.CE
open Go Go.RowKit
noncomputable section

def g8(t:Tri):Nat->Value:=Tri.rec (fun _=>undef) (fun _ v _ gl gr k=>Nat.rec v (fun j _=>LL (gr (Nat.div j 2)) (gl (Nat.div j 2)) (Lf (Nat.mod j 2) 0)) k) t
theorem bj:∀(t:Tri) (k:Nat),g8 t k=t.get k
 | .lf,k=>by cases k <;> rfl
 | .nd l v r,0=>rfl
 | .nd l v r,k+1=>by
   show(LL (g8 r (k / 2)) (g8 l (k / 2)) (Lf (k % 2) 0):Value)=bif Lf (k % 2) 0 then l.get (k / 2)else r.get (k / 2);rw[bj l,bj r];cases Lf (k % 2) 0 <;> rfl
def c9(f:Nat):Tri->Nat->Value->Tri:=Nat.rec (fun t _ _=>t) (fun _ ih t i x=>Tri.rec
 (Nat.rec (.nd .lf x .lf) (fun j _=>LL (.nd .lf undef (ih .lf (Nat.div j 2) x)) (.nd (ih .lf (Nat.div j 2) x) undef .lf) (Lf (Nat.mod j 2) 0)) i)
 (fun l v r _ _=>Nat.rec (.nd l x r) (fun j _=>LL (.nd l v (ih r (Nat.div j 2) x)) (.nd (ih l (Nat.div j 2) x) v r) (Lf (Nat.mod j 2) 0)) i) t) f
theorem bh:∀(f:Nat) (t:Tri) (i:Nat) (x:Value),c9 f t i x=Tri.set f t i x
 |0,_,_,_=>rfl
 |f+1,.lf,0,x=>rfl
 |f+1,.nd l v r,0,x=>rfl
 |f+1,.lf,k+1,x=>by
  show(LL (Tri.nd .lf undef (c9 f .lf (k / 2) x)) (Tri.nd (c9 f .lf (k / 2) x) undef .lf) (Lf (k % 2) 0):Tri)=bif Lf (k % 2) 0 then .nd (Tri.set f .lf (k / 2) x) undef .lf else .nd .lf undef (Tri.set f .lf (k / 2) x);rw[bh f];cases Lf (k % 2) 0 <;> rfl
 |f+1,.nd l v r,k+1,x=>by
  show(LL (Tri.nd l v (c9 f r (k / 2) x)) (Tri.nd (c9 f l (k / 2) x) v r) (Lf (k % 2) 0):Tri)=bif Lf (k % 2) 0 then .nd (Tri.set f l (k / 2) x) v r else .nd l v (Tri.set f r (k / 2) x);rw[bh f,bh f];cases Lf (k % 2) 0 <;> rfl
def TQ(tr:Tri)(x:Operand):Option Value:=Operand.rec (fun t=>some (g8 tr t)) (fun v=>LL none (some v) (af v)) (fun _=>none) (fun f=>some (.func (.func f) #[] #[])) x
theorem IM(len:Nat)(tr:Tri):TQ tr=XV ⟨len,tr⟩:=by
 funext x;cases x with
 |tmp t=>show some (g8 tr t)=some (tr.get t);rw[bj]
 |const v=>show(LL none (some v) (af v):Option Value)=bif af v then some v else none;cases af v <;> rfl
 |global g=>rfl
 |func f=>rfl
def GO(tr:Tri)(d:Option Tmp)(v:Value):Tri:=Option.rec tr (fun d=>c9 14 tr d v) d
theorem Bi(len:Nat)(tr:Tri)(d:Option Tmp)(v:Value):(⟨len,GO tr d v⟩:Tm)=V0 ⟨len,tr⟩ d v:=by
 cases d with
 |none=>rfl
 |some d=>show(⟨len,c9 14 tr d v⟩:Tm)=⟨len,tr.set 14 d v⟩;rw[bh]
def NO{α:Type}(l:List α):Nat->Option α:=List.rec (fun _=>none) (fun x _ ih k=>Nat.rec (some x) (fun j _=>ih j) k) l
theorem Bm{α:Type}:∀(l:List α) (k:Nat),NO l k=l[k]?
 |[],k=>by cases k <;> rfl
 |x::l,0=>rfl
 |x::l,k+1=>by show NO l k=_;rw[Bm l k];rfl
def tH(P:Program)(t:TypeId)(cs:Array Value)(off:Nat):Option Value:=
 Option.rec none (fun g=>LL (NO cs.toList off) (Option.rec none (fun s=>LL none (some (.agg (cs.extract off (off+s)))) (LI (off+s) cs.size)) (W5 P t)) g) (pd P t)
theorem rm(P:Program)(t:TypeId)(cs:Array Value)(off:Nat):tH P t cs off=Yl P t cs off:=by
 unfold tH Yl;cases pd P t with
 |none=>rfl
 |some g=>
  cases g with
  |false=>show NO cs.toList off=_;rw[Bm,Lm]
  |true=>
   cases W5 P t with
   |none=>rfl
   |some s=>simp only;cases LI (off+s) cs.size <;> rfl
def tJ(P:Program)(t:TypeId)(H:Qm)(p:Value):Option (Value×Nat):=match p with
 | .pointer (some ⟨b,off,none⟩)=>match Qq H b with
   |some (.cells cs _ _)=>match tH P t cs off with
    |some v=>some (v,b)
    |none=>none
   |_=>none
 |_=>none
theorem En(P:Program)(t:TypeId)(H:Qm)(p:Value):tJ P t H p=SJ P t H p:=by
 unfold tJ SJ;simp only[rm];rfl
def tT(p:Value->Bool)(l:List Value):Bool:=List.rec true (fun x _ ih=>LL false ih (p x)) l
theorem gp(p:Value->Bool):∀(l:List Value),tT p l=l.all p
 |[]=>rfl
 |x::l=>by
  show(LL false (tT p l) (p x):Bool)=_;rw[gp p l,List.all_cons];cases p x <;> rfl
def HZ(cs:Array Value):Bool:=tT (·.oneCell') cs.toList
theorem HY(cs:Array Value):HZ cs=ones cs:=by
 unfold HZ ones;rw[gp,Array.all_toList]
def saF(v:Value):Bool:=match v with
 | .agg xs=>tT simple xs.toList
 |v=>simple v
theorem EN(v:Value):saF v=sa v:=by
 cases v <;> first|rfl|(show tT simple _=_;rw[gp,Array.all_toList];rfl)
def afF(v:Value):Bool:=match v with
 | .agg xs=>tT simple xs.toList
 | .tuple xs=>tT saF xs.toList
 | .iface _ v=>saF v
 |v=>simple v
theorem Qbj(v:Value):afF v=af v:=by
 cases v with
 |iface t v=>exact EN v
 |tuple xs=>show tT saF _=_;rw[show saF=sa from funext EN,gp,Array.all_toList];rfl
 |_=>first|rfl|(show tT simple _=_;rw[gp,Array.all_toList];rfl)
def k9(P:Program)(t:TypeId)(H:Qm)(v p:Value):Option (Qm×Nat):=match p with
 | .pointer (some ⟨b,off,none⟩)=>match Qq H b with
   |some (.cells cs te (0,0))=>match W5 P t with
    |some s=>bif Lf v.cells.size s && HZ v.cells && LI (off+s) cs.size then some (VE H b (.cells (splice cs off v.cells) te (0,0)),b)else none
    |none=>none
   |_=>none
 |_=>none
theorem A5(P:Program)(t:TypeId)(H:Qm)(v p:Value):k9 P t H v p=RC P t H v p:=by
 unfold k9 RC;simp only[HY];rfl
def kB(P:Program)(t:TypeId)(f:Nat)(x:Value):Option Value:=match x with
 | .agg cs=>match JN P t with
   |some (.struct fields)=>match fields[f]? with
    |some fd=>tH P fd.type cs fd.offset
    |none=>none
   |_=>none
 |_=>none
theorem AA(P:Program)(t:TypeId)(f:Nat)(x:Value):kB P t f x=ir P t f x:=by
 unfold kB ir;simp only[rm];rfl
def yN(ops:Array Oper)(tr:Tri)(j:Nat):Option Bool:=match nth ops.toList j with
 |some o=>match o.dst with
  |some t=>RD (g8 tr t)
  |none=>none
 |none=>none
theorem BB(len:Nat)(ops:Array Oper)(tr:Tri)(j:Nat):yN ops tr j=XI ops ⟨len,tr⟩ j:=by
 unfold yN XI;simp only[bj,Xx];rfl
def AO(ops:Array Oper)(tr:Tri)(g:Option (Nat×Bool)):Bool:=Option.rec true (fun jw=>Prod.rec (fun j w=>Option.rec false (fun b=>LL (LL true false w) (LL false true w) b) (yN ops tr j)) jw) g
theorem E3(len:Nat)(ops:Array Oper)(tr:Tri)(o:Oper):AO ops tr o.guard=Region.wanted o (XI ops ⟨len,tr⟩):=by
 unfold AO Region.wanted;cases o.guard with
 |none=>rfl
 |some jw=>
  obtain⟨j,w⟩:=jw;simp only[BB len];cases XI ops ⟨len,tr⟩ j with
  |none=>rfl
  |some b=>cases b <;> cases w <;> rfl
abbrev pn:=Option (List Rec×RF)
abbrev KV:=Value->Qm->Nat->List Nat->List Nat->pn
abbrev E1:=Program->(FuncId->Bool)->Vh->(CF->Qm->Nat->Option Rs)->Nat->Tri->Oper->Qm->Nat->KV->KV->pn
def fin(k kp:KV)(s:Option Rs):pn:=match s with
 |some ⟨out,H,n,R,W⟩=>match out with
  | .ret v=>k v H n R W
  | .ZB v=>kp v H n R W
 |none=>none
def pv(k:KV)(H:Qm)(n:Nat)(x:Option Value):pn:=Option.rec none (fun v=>k v H n [] []) x
theorem ba(k kp:KV)(H:Qm)(n:Nat)(x:Option Value):fin k kp (qV x H n)=pv k H n x:=by cases x <;> rfl
def Qab(x:Operand):E1:=fun _ _ _ _ _ tr _ H n k _=>pv k H n (TQ tr x)
def QbX(c a b:Operand):E1:=fun _ _ _ _ _ tr _ H n k _=>Option.rec none (fun v=>Option.rec none (fun t=>LL (pv k H n (TQ tr b)) (pv k H n (TQ tr a)) t) (RD v)) (TQ tr c)
def QbY(t:TypeId)(a:Operand):E1:=fun P _ _ _ _ tr _ H n k _=>Option.rec none (fun p=>Option.rec none (fun vb=>Prod.rec (fun v b=>LL none (k v H n [b] []) (Ll b n)) vb) (tJ P t H p)) (TQ tr a)
def Qbm(t:TypeId)(a x:Operand):E1:=fun P _ _ _ _ tr _ H n k _=>Option.rec none (fun p=>Option.rec none (fun v=>Option.rec none (fun hb=>Prod.rec (fun H' b=>LL none (k undef H' n [b] [b]) (Ll b n)) hb) (k9 P t H v p)) (TQ tr x)) (TQ tr a)
def AM(s:TypeId)(x:Operand)(f:Nat):E1:=fun P _ _ _ _ tr _ H n k _=>Option.rec none (fun p=>pv k H n (Wo P s f p)) (TQ tr x)
def Qbn(s:TypeId)(x:Operand)(f:Nat):E1:=fun P _ _ _ _ tr _ H n k _=>Option.rec none (fun p=>pv k H n (kB P s f p)) (TQ tr x)
def AL(t:TypeId)(x i:Operand):E1:=fun P _ _ _ _ tr _ H n k _=>Option.rec none (fun p=>Option.rec none (fun j=>pv k H n (Y7 P t p j)) (TQ tr i)) (TQ tr x)
def Mp(x:Operand)(i:Nat):E1:=fun _ _ _ _ _ tr _ H n k _=>Option.rec none (fun p=>pv k H n (SK i p)) (TQ tr x)
def Qcy(op:BinOp)(_:TypeId)(x y:Operand)(_:TypeId):E1:=fun P _ _ _ _ tr o H n k _=>Option.rec none (fun a=>Option.rec none (fun b=>Option.rec (pv k H n (U9 P (TQ tr) o)) (fun v=>k v H n [] []) (AD op a b)) (TQ tr y)) (TQ tr x)
def IT(v:Value)(r:CR)(k:KV)(H':Qm)(n':Nat)(R W:List Nat):pn:=List.rec (LL (k v H' n' (r.R++R) (r.W++[])) (k v r.H n' (r.R++R) (r.W++[])) (afF v)) (fun _ _ _=>k v H' n' (r.R++R) (r.W++W)) W
def B5(r:CR)(k kp:KV)(s:Option Rs):pn:=Option.rec none (fun s=>Rs.rec (fun out H' n' R W=>OO.rec (fun v=>IT v r k H' n' R W) (fun v=>kp v H' n' (r.R++R) (r.W++W)) out) s) s
theorem Mn(r:CR)(k kp:KV)(s:Option Rs):B5 r k kp s=fin k kp (match s with|some s=>GK r s|none=>none):=by
 cases s with
 |none=>rfl
 |some s=>
  obtain⟨out,H',n',R,W⟩:=s;cases out with
  |ZB v=>
   cases W with
   |nil=>rfl
   |cons a b=>rfl
  |ret v=>
   show IT v r k H' n' R W=_;unfold IT;cases W with
   |nil=>
    rw[Qbj];simp only[GK,YG];cases af v <;> rfl
   |cons a b=>rfl
def tx(P:Program)(Xm:Vh)(rec:CF->Qm->Nat->Option Rs)(g:FuncId)(args:Array Value)(r:CR)(k kp:KV):pn:=Option.rec (Option.rec none (fun c=>B5 r k kp (rec c r.H r.n)) (Wi P g args)) (fun _=>fin k kp (rK P Xm rec g args r)) (Xm g args r.H r.n)
theorem Ei(P:Program)(Xm:Vh)(rec:CF->Qm->Nat->Option Rs)(g:FuncId)(args:Array Value)(r:CR)(k kp:KV):tx P Xm rec g args r k kp=fin k kp (rK P Xm rec g args r):=by
 unfold tx;cases ho:Xm g args r.H r.n with
 |some x=>rfl
 |none=>
  unfold rK;rw[ho];show(Option.rec none (fun c=>B5 r k kp (rec c r.H r.n)) (Wi P g args):pn)=fin k kp (Qa2 P rec g args r);unfold Qa2;cases Wi P g args with
  |none=>rfl
  |some c=>
   show B5 r k kp (rec c r.H r.n)=_;rw[Mn];rfl
def Me(P:Program)(Xm:Vh)(rec:CF->Qm->Nat->Option Rs)(n:Nat)(x:Option CR)(k kp:KV):pn:=Option.rec none (fun r=>CN.rec (fun _=>fin k kp (qR P Xm rec n (some r))) (fun g args=>LL none (tx P Xm rec g args r k kp) (r.R.all (fun i=>Ll i n))) (fun _ _ _ _ _=>fin k kp (qR P Xm rec n (some r))) r.nx) x
theorem Md(P:Program)(Xm:Vh)(rec:CF->Qm->Nat->Option Rs)(n:Nat)(x:Option CR)(k kp:KV):Me P Xm rec n x k kp=fin k kp (qR P Xm rec n x):=by
 cases x with
 |none=>rfl
 |some r=>
  obtain⟨nx,H',n',R,W⟩:=r;cases nx with
  |val v=>rfl
  |round l fn tm a b=>rfl
  |enter g args=>
   show(LL none (tx P Xm rec g args ⟨.enter g args,H',n',R,W⟩ k kp) (R.all (fun i=>Ll i n)):pn)=_;rw[Ei];simp only[qR];cases R.all (fun i=>Ll i n) <;> rfl
def QbZ(c:Call):E1:=fun P F Xm rec _ tr o H n k kp=>Me P Xm rec n (eA P F (TQ tr) o c H n) k kp
def Kj:E1:=fun P F Xm rec len tr o H n k kp=>fin k kp (ub P F Xm rec ⟨len,tr⟩ o H n)
def opF(op:Op):E1:=Op.rec Qab Qab QbX (fun _=>Kj) (fun _ _=>Kj) (fun _ _=>Kj) (fun _ _ _=>Kj) (fun _ _ _ _=>Kj) QbY Qbm (fun _=>Kj) (fun _=>Kj) (fun _=>Kj) Qcy (fun _ _ _=>Kj) (fun _ _ _=>Kj) (fun _ _=>Kj) (fun _ _=>Kj)
 (fun _ _ _=>Kj) (fun _ _=>Kj) (fun _ _=>Kj) (fun _ _ _=>Kj) (fun _ _ _ _ _=>Kj) AM Qbn AL (fun _ _ _=>Kj) (fun _ _ _ _=>Kj) (fun _ _ _ _=>Kj) (fun _ _ _=>Kj) (fun _ _ _ _=>Kj) (fun _ _=>Kj) (fun _ _=>Kj) (fun _=>Kj) (fun _ _ _ _=>Kj)
 Mp QbZ (fun _=>Kj) (fun _=>Kj) (fun _=>Kj) (fun _ _=>Kj) (fun _ _ _=>Kj) (fun _ _=>Kj) op
theorem QaR(P:Program)(F:FuncId->Bool)(Xm:Vh)(rec:CF->Qm->Nat->Option Rs)(len:Nat)(tr:Tri)(o:Oper)(H:Qm)(n:Nat)(k kp:KV):opF o.op P F Xm rec len tr o H n k kp=fin k kp (ub P F Xm rec ⟨len,tr⟩ o H n):=by
 have e:=IM len tr;cases hp:o.op with
 |move x=>show pv k H n (TQ tr x)=_;rw[e];unfold ub;simp only[hp];exact(ba k kp H n _).symm
 |assign x=>show pv k H n (TQ tr x)=_;rw[e];unfold ub;simp only[hp];exact(ba k kp H n _).symm
 |pick c a b=>
  show(Option.rec none (fun v=>Option.rec none (fun t=>LL (pv k H n (TQ tr b)) (pv k H n (TQ tr a)) t) (RD v)) (TQ tr c):pn)=_;rw[e];unfold ub;simp only[hp];cases XV ⟨len,tr⟩ c with
  |none=>rfl
  |some v=>
   cases v with
   |bool t=>cases t <;> exact(ba k kp H n _).symm
   |_=>rfl
 |load t a=>
  show(Option.rec none (fun p=>Option.rec none (fun vb=>Prod.rec (fun v b=>LL none (k v H n [b] []) (Ll b n)) vb) (tJ P t H p)) (TQ tr a):pn)=_;simp only[En];rw[e];unfold ub;simp only[hp];cases XV ⟨len,tr⟩ a with
  |none=>rfl
  |some p=>
   simp only[GG];cases SJ P t H p with
   |none=>rfl
   |some vb=>
    obtain⟨v,b⟩:=vb;cases hb:Ll b n <;> simp[qR,fin,Bg,hb]
 |store t a x=>
  show(Option.rec none (fun p=>Option.rec none (fun v=>Option.rec none (fun hb=>Prod.rec (fun H' b=>LL none (k undef H' n [b] [b]) (Ll b n)) hb) (k9 P t H v p)) (TQ tr x)) (TQ tr a):pn)=_;simp only[A5];rw[e];unfold ub;simp only[hp];cases XV ⟨len,tr⟩ a with
  |none=>rfl
  |some p=>
   cases XV ⟨len,tr⟩ x with
   |none=>rfl
   |some v=>
    simp only[zi];cases RC P t H v p with
    |none=>rfl
    |some vb=>
     obtain⟨H',b⟩:=vb;cases hb:Ll b n <;> simp[qR,fin,Bg,hb]
 |fieldAddr s x f=>
  show(Option.rec none (fun p=>pv k H n (Wo P s f p)) (TQ tr x):pn)=_;rw[e];unfold ub;simp only[hp];cases XV ⟨len,tr⟩ x with
  |none=>rfl
  |some p=>simp only[cG,Rf];exact(ba k kp H n _).symm
 |field s x f=>
  show(Option.rec none (fun p=>pv k H n (kB P s f p)) (TQ tr x):pn)=_;simp only[AA];rw[e];unfold ub;simp only[hp];cases XV ⟨len,tr⟩ x with
  |none=>rfl
  |some p=>simp only[zj,Rf];exact(ba k kp H n _).symm
 |indexAddr t x i=>
  show(Option.rec none (fun p=>Option.rec none (fun j=>pv k H n (Y7 P t p j)) (TQ tr i)) (TQ tr x):pn)=_;rw[e];unfold ub;simp only[hp];cases XV ⟨len,tr⟩ x with
  |none=>rfl
  |some p=>
   cases XV ⟨len,tr⟩ i with
   |none=>rfl
   |some j=>simp only[cF,Rf];exact(ba k kp H n _).symm
 |extract x i=>
  show(Option.rec none (fun p=>pv k H n (SK i p)) (TQ tr x):pn)=_;rw[e];unfold ub;simp only[hp];cases XV ⟨len,tr⟩ x with
  |none=>rfl
  |some p=>simp only[lG,Rf];exact(ba k kp H n _).symm
 |binOp op t x y t'=>
  show(Option.rec none (fun a=>Option.rec none (fun b=>Option.rec (pv k H n (U9 P (TQ tr) o)) (fun v=>k v H n [] []) (AD op a b)) (TQ tr y)) (TQ tr x):pn)=_;rw[e];unfold ub;simp only[hp];cases XV ⟨len,tr⟩ x with
  |none=>rfl
  |some a=>
   cases XV ⟨len,tr⟩ y with
   |none=>rfl
   |some b=>
    simp only[Qa5];cases AD op a b with
    |none=>simp only[Rf];exact(ba k kp H n _).symm
    |some v=>rfl
 |call c=>show Me P Xm rec n (eA P F (TQ tr) o c H n) k kp=_;rw[Md,e];unfold ub;simp only[hp]
 |_=>rfl
def B2(r:Rec)(x:pn):pn:=Option.rec none (fun p=>Prod.rec (fun rs f=>some (r::rs,f)) p) x
def Ba(P:Program)(F:FuncId->Bool)(Xm:Vh)(rec:CF->Qm->Nat->Option Rs)(len:Nat)(ops:Array Oper)(l:List Oper):Tri->Qm->Nat->pn:=
 List.rec (fun tr H n=>some ([],.ok ⟨len,tr⟩ H n)) (fun o _ ih tr H n=>LL
  (B2 ⟨o,false,undef,⟨len,tr⟩,H,H,n,n,[],[]⟩ (ih (GO tr o.dst undef) H n))
  (opF o.op P F Xm rec len tr o H n (fun v H' n' R W=>B2 ⟨o,true,v,⟨len,tr⟩,H,H',n,n',R,W⟩ (ih (GO tr o.dst v) H' n')) (fun v H' n' R W=>some ([],.ZB ⟨len,tr⟩ v H' n' R W)))
  (AO ops tr o.guard)) l
def tz(len:Nat)(l:List Oper):Bool:=l.all fun o=>PI ⟨len,.lf⟩ o.dst
theorem u9(P:Program)(F:FuncId->Bool)(Xm:Vh)(rec:CF->Qm->Nat->Option Rs)(len:Nat)(ops:Array Oper):∀(l:List Oper) (tr:Tri) (H:Qm) (n:Nat),tz len l=true->Ba P F Xm rec len ops l tr H n=Pk P F Xm rec ops l ⟨len,tr⟩ H n
 |[],_,_,_,_=>rfl
 |o::l,tr,H,n,hd=>by
  simp only[tz,List.all_cons,YB]at hd;have hd1:PI ⟨len,tr⟩ o.dst=true:=by
   have:=hd.1;cases hq:o.dst with
   |none=>rfl
   |some x=>rw[hq]at this;exact this
  have ih:=u9 P F Xm rec len ops l;show(LL (B2 ⟨o,false,undef,⟨len,tr⟩,H,H,n,n,[],[]⟩ (Ba P F Xm rec len ops l (GO tr o.dst undef) H n))
   (opF o.op P F Xm rec len tr o H n (fun v H' n' R W=>B2 ⟨o,true,v,⟨len,tr⟩,H,H',n,n',R,W⟩ (Ba P F Xm rec len ops l (GO tr o.dst v) H' n')) (fun v H' n' R W=>some ([],.ZB ⟨len,tr⟩ v H' n' R W)))
   (AO ops tr o.guard):pn)=_
  rw[E3 len];simp only[Pk,hd1,cond_true];cases Region.wanted o (XI ops ⟨len,tr⟩)with
  |false=>
   simp only[cond_false];rw[ih _ _ _ hd.2,Bi];cases Pk P F Xm rec ops l (V0 ⟨len,tr⟩ o.dst undef) H n <;> rfl
  |true=>
   simp only[cond_true,QaR];cases ub P F Xm rec ⟨len,tr⟩ o H n with
   |none=>rfl
   |some s=>
    obtain⟨out,H',n',R,W⟩:=s;cases out with
    |ZB v=>rfl
    |ret v=>
     simp only[fin];rw[ih _ _ _ hd.2,Bi];cases Pk P F Xm rec ops l (V0 ⟨len,tr⟩ o.dst v) H' n' <;> rfl
def TZ(ops:Array Oper)(o:Oper)(k:Nat):List Oper->List (List Nat)->Bool
 |x::l,b::bs=>(b.contains k || o.apart ops x) && TZ ops o k l bs
 |[],_=>true
 |_::_,[]=>false
def stat(ops:Array Oper):Nat->List Oper->List (List Nat)->Bool
 |k,o::l,_::bs=>TZ ops o k l bs && stat ops (k+1) l bs
 |_,[],_=>true
 |_,_::_,[]=>false
def cz(i:Nat)(l:List Nat):Bool:=List.rec false (fun j _ ih=>LL ih true (Lf i j)) l
theorem gd(i:Nat):∀(l:List Nat),cz i l=l.contains i
 |[]=>rfl
 |j::l=>by
  show(LL (cz i l) true (Lf i j):Bool)=_;rw[gd i l,List.contains_cons];by_cases e:i=j
  ·subst e;rw[Nat.beq_refl];simp
  ·rw[TE e];simp[e]
def sD(W R:List Nat):Bool:=List.rec false (fun i _ ih=>LL ih true (cz i R)) W
theorem hY(R:List Nat):∀(W:List Nat),sD W R=W.any fun i=>R.contains i
 |[]=>rfl
 |i::W=>by
  show(LL (sD W R) true (cz i R):Bool)=_;rw[hY R W,gd,List.any_cons];cases R.contains i <;> rfl
def tQ(lo hi:Nat)(R:List Nat):Bool:=List.rec false (fun i _ ih=>LL ih (LL ih true (Ll i hi)) (LI lo i)) R
theorem rz(lo hi:Nat):∀(R:List Nat),tQ lo hi R=R.any fun i=>LI lo i && Ll i hi
 |[]=>rfl
 |i::R=>by
  show(LL (tQ lo hi R) (LL (tQ lo hi R) true (Ll i hi)) (LI lo i):Bool)=_;rw[rz lo hi R,List.any_cons];cases LI lo i <;> cases Ll i hi <;> rfl
def clear(r x:Rec):Bool:=LL (LL (LL true false (tQ r.n r.n' x.R)) false (sD x.W r.R)) false (sD r.W x.R)
theorem Ay{ops:Array Oper}{r x:Rec}(h:clear r x=true)(ha:r.o.apart ops x.o=true):tied ops r x=false:=by
 unfold clear at h;rw[rz,hY,hY]at h;unfold tied meets bears;rw[ha];revert h;cases r.W.any fun i=>x.R.contains i <;> cases x.W.any fun i=>r.R.contains i <;> cases x.R.any fun i=>LI r.n i && Ll i r.n' <;> simp
def T9(r:Rec)(k:Nat)(l:List Rec):List (List Nat)->Bool:=List.rec (fun _=>true) (fun x _ ih bs=>List.rec false (fun b bs' _=>LL (LL false (ih bs') (cz k b)) (ih bs') (clear r x)) bs) l
def dyn(l:List Rec):Nat->List (List Nat)->Bool:=List.rec (fun _ _=>true) (fun r l ih k bs=>List.rec false (fun _ bs' _=>LL false (ih (k+1) bs') (T9 r k l bs')) bs) l
theorem gC{ops:Array Oper}{r:Rec}(k:Nat):∀(l:List Rec) (bs:List (List Nat)),T9 r k l bs=true->TZ ops r.o k (l.map (·.o)) bs=true->KG ops r k l bs=true
 |[],_,_,_=>by simp[KG]
 |x::l,[],_,h=>by simp[TZ]at h
 |x::l,b::bs,hd,h=>by
  simp only[List.map_cons,TZ,YB,Bool.or_eq_true]at h;simp only[KG,YB,Bool.or_eq_true,Bool.not_eq_true'];have hd:(LL (LL false (T9 r k l bs) (cz k b)) (T9 r k l bs) (clear r x):Bool)=true:=hd;cases hc:clear r x with
  |true=>
   rw[hc]at hd;exact⟨h.1.imp id fun ha=>Ay hc ha,gC k l bs hd h.2⟩
  |false=>
   rw[hc]at hd;have hd:(LL false (T9 r k l bs) (cz k b):Bool)=true:=hd;cases he:cz k b with
   |false=>rw[he]at hd;cases hd
   |true=>
    rw[he]at hd;rw[gd]at he;exact⟨.inl he,gC k l bs hd h.2⟩
theorem kN{ops:Array Oper}:∀(l:List Rec) (bs:List (List Nat)) (k:Nat),dyn l k bs=true->stat ops k (l.map (·.o)) bs=true->indep ops k l bs=true
 |[],_,_,_,_=>by simp[indep]
 |x::l,[],_,_,h=>by simp[stat]at h
 |x::l,b::bs,k,hd,h=>by
  simp only[List.map_cons,stat,YB]at h;simp only[indep,YB];have hd:(LL false (dyn l (k+1) bs) (T9 x k l bs):Bool)=true:=hd;cases hc:T9 x k l bs with
  |false=>rw[hc]at hd;cases hd
  |true=>
   rw[hc]at hd;exact⟨gC k l bs hc h.1,kN l bs (k+1) hd h.2⟩
theorem gE{P:Program}{F:FuncId->Bool}{Xm:Vh}{rec:CF->Qm->Nat->Option Rs}{ops:Array Oper}:∀(l:List Oper) (T:Tm) (H:Qm) (n:Nat) (Qs:List Rec) (T':Tm) (H':Qm) (n':Nat),Pk P F Xm rec ops l T H n=some (Qs,.ok T' H' n')->Qs.map (·.o)=l
 |[],T,H,n,Qs,T',H',n',h=>by
  simp only[Pk,YO,YR]at h;rw[<-h.1];rfl
 |o::l,T,H,n,Qs,T',H',n',h=>by
  simp only[Pk]at h;have h:=Y8 h;cases hw:Region.wanted o (XI ops T)with
  |true=>
   rw[hw]at h;simp only[cond_true]at h;split at h
   ·split at h
    ·split at h
     ·rename_i rs f hr;simp only[YO,YR]at h;obtain⟨rfl,rfl⟩:=h;simp[gE l _ _ _ _ _ _ _ hr]
     ·cases h
    ·simp only[YO,YR]at h;cases h.2
   ·cases h
  |false=>
   rw[hw]at h;simp only[cond_false]at h;split at h
   ·rename_i rs f hr;simp only[YO,YR]at h;obtain⟨rfl,rfl⟩:=h;simp[gE l _ _ _ _ _ _ _ hr]
   ·cases h
def rB(ops:Array Oper):Bool:=Vg 0 ops.toList && stat ops 0 ops.toList (JK ops.toList [])
def chk(ops:Array Oper)(Qs:List Rec)(draw:Bool):Bool:=LL true (LL (Vg 0 ops.toList && indep ops 0 Qs (JK ops.toList [])) (LL (Vg 0 ops.toList && indep ops 0 Qs (JK ops.toList [])) true (dyn Qs 0 (JK ops.toList []))) (rB ops)) draw
theorem Qbf{ops:Array Oper}{Qs:List Rec}{draw:Bool}(h:Qs.map (·.o)=ops.toList):chk ops Qs draw=(!draw || (Vg 0 ops.toList && indep ops 0 Qs (JK ops.toList []))):=by
 unfold chk;cases draw with
 |false=>rfl
 |true=>
  simp only[Bool.not_true,Bool.false_or];cases hs:rB ops with
  |false=>rfl
  |true=>
   cases hc:dyn Qs 0 (JK ops.toList [])with
   |false=>rfl
   |true=>
    unfold rB at hs;simp only[YB]at hs;rw[hs.1,kN Qs _ 0 hc (by rw[h];exact hs.2)];rfl
def jt(b:Nat)(l:List Nat):List Nat->List Nat:=List.rec (fun acc=>acc) (fun x _ ih acc=>LL (ih acc) (LL (ih (x::acc)) (ih acc) (cz x acc)) (Ll x b)) l
theorem gq(b:Nat):∀(l acc:List Nat),jt b l acc=ZP b l acc
 |[],_=>rfl
 |x::l,acc=>by
  show(LL (jt b l acc) (LL (jt b l (x::acc)) (jt b l acc) (cz x acc)) (Ll x b):List Nat)=_;rw[gq b l,gq b l,gd,ZP];cases Ll x b <;> cases acc.contains x <;> rfl
theorem ph(b:Nat):∀(l m acc:List Nat),ZP b (l++m) acc=ZP b m (ZP b l acc)
 |[],_,_=>rfl
 |x::l,m,acc=>by simp only[List.cons_append,ZP];exact ph b l m _
def Qbl(b:Nat)(Qs:List Rec):List Nat->List Nat:=List.rec (fun acc=>acc) (fun r _ ih acc=>ih (jt b r.R acc)) Qs
theorem B9(b:Nat):∀(Qs:List Rec) (acc:List Nat),Qbl b Qs acc=ZP b (Yn Qs) acc
 |[],_=>rfl
 |r::l,acc=>by
  show Qbl b l (jt b r.R acc)=_;rw[B9 b l,gq,show Yn (r::l)=r.R++Yn l from LY,ph]
def Qbk(b:Nat)(Qs:List Rec):List Nat->List Nat:=List.rec (fun acc=>acc) (fun r _ ih acc=>ih (jt b r.W acc)) Qs
theorem B8(b:Nat):∀(Qs:List Rec) (acc:List Nat),Qbk b Qs acc=ZP b (Uh Qs) acc
 |[],_=>rfl
 |r::l,acc=>by
  show Qbk b l (jt b r.W acc)=_;rw[B8 b l,gq,show Uh (r::l)=r.W++Uh l from LY,ph]
def EP(P:Program)(F:FuncId->Bool)(Xm:Vh)(rec:CF->Qm->Nat->Option Rs)(len:Nat)(tr:Tri)(ops:Array Oper)(H:Qm)(n:Nat):pn:=
 LL (Pk P F Xm rec ops ops.toList ⟨len,tr⟩ H n) (Ba P F Xm rec len ops ops.toList tr H n) (tz len ops.toList)
theorem EO(P:Program)(F:FuncId->Bool)(Xm:Vh)(rec:CF->Qm->Nat->Option Rs)(len:Nat)(tr:Tri)(ops:Array Oper)(H:Qm)(n:Nat):EP P F Xm rec len tr ops H n=Pk P F Xm rec ops ops.toList ⟨len,tr⟩ H n:=by
 unfold EP;cases hd:tz len ops.toList with
 |false=>rfl
 |true=>exact u9 P F Xm rec len ops _ _ _ _ hd
abbrev Run:=Nat->FuncId->Nat->Tri->List Item->List Nat->Option Nat->Qm->Nat->List Nat->List Nat->Option Rs
def Qau(P:Program)(F:FuncId->Bool)(Xm:Vh)(fuel:Nat)(ih:Run)(c1:CF)(H1:Qm)(n1:Nat):Option Rs:=
 CF.rec (fun fn T todo ds mode ro=>CM.rec (Tm.rec (fun len tr=>ih n1 fn len tr todo ds ro H1 n1 [] []) T) (JB P F Xm fuel n1 ⟨fn,T,todo,ds,.ret,ro⟩ H1 n1 [] []) (fun v=>JB P F Xm fuel n1 ⟨fn,T,todo,ds,.ZB v,ro⟩ H1 n1 [] []) mode) c1
def goF(P:Program)(F:FuncId->Bool)(Xm:Vh)(fuel:Nat)(ih:Run)(b:Nat)(c1:CF)(H1:Qm)(n1:Nat)(R W:List Nat):Option Rs:=
 CF.rec (fun fn T todo ds mode ro=>CM.rec (Tm.rec (fun len tr=>ih b fn len tr todo ds ro H1 n1 R W) T) (JB P F Xm fuel b ⟨fn,T,todo,ds,.ret,ro⟩ H1 n1 R W) (fun v=>JB P F Xm fuel b ⟨fn,T,todo,ds,.ZB v,ro⟩ H1 n1 R W) mode) c1
def resume(P:Program)(F:FuncId->Bool)(Xm:Vh)(fuel:Nat)(ih:Run)(b:Nat)(R W:List Nat)(x:Option FS):Option Rs:=
 Option.rec none (fun fs=>FS.rec (fun c' H' n' R' W'=>goF P F Xm fuel ih b c' H' n' (ZP b R' R) (ZP b W' W)) (fun out H' n' R' W'=>some ⟨out,H',n',ZP b R' R,ZP b W' W⟩) fs) x
abbrev Mv:=Program->(FuncId->Bool)->Vh->Nat->Run->Nat->FuncId->Nat->Tri->List Item->List Nat->Option Nat->Qm->Nat->List Nat->List Nat->Option Rs
def S9(it:Item):Mv:=fun P F Xm fuel ih b fn len tr k ds ro H n R W=>resume P F Xm fuel ih b R W (ic P F Xm (Qau P F Xm fuel ih) ⟨fn,⟨len,tr⟩,it::k,ds,.run,ro⟩ H n)
def Bv:Mv:=fun _ _ _ _ ih b fn len tr k ds ro H n R W=>ih b fn len tr k ds ro H n R W
def Qcv(x y:Code):Mv:=fun _ _ _ _ ih b fn len tr k ds ro H n R W=>ih b fn len tr (.code x::.code y::k) ds ro H n R W
def QbS(q:Operand)(x y:Code):Mv:=fun _ _ _ _ ih b fn len tr k ds ro H n R W=>Option.rec none (fun v=>Option.rec none (fun t=>LL (ih b fn len tr (.code y::k) ds ro H n R W) (ih b fn len tr (.code x::k) ds ro H n R W) t) (RD v)) (TQ tr q)
def QaZ(id:Nat)(x:Code):Mv:=fun _ _ _ _ ih b fn len tr k ds ro H n R W=>ih b fn len tr (.code x::.inBlock id::k) ds ro H n R W
def OY(x:Code):Mv:=fun _ _ _ _ ih b fn len tr k ds ro H n R W=>ih b fn len tr (.code x::.inLoop x::k) ds ro H n R W
def QaY(x:Code):Mv:=fun _ _ _ _ ih b fn len tr k ds ro H n R W=>ih b fn len tr (.code x::.inScope x::k) ds ro H n R W
def tp(id:Nat)(ops:Array Oper)(draw:Bool):Mv:=fun P F Xm fuel ih b fn len tr k ds ro H n R W=>
 Option.rec none (fun p=>Prod.rec (fun Qs f=>RF.rec (fun T' H' n'=>LL none (Tm.rec (fun len' tr'=>ih b fn len' tr' k ds ro H' n' (Qbl b Qs R) (Qbk b Qs W)) T') (chk ops Qs draw))
  (fun T' v H' n' R1 W1=>resume P F Xm fuel ih b R W (Qa1 ⟨fn,⟨len,tr⟩,.code (.region id ops draw)::k,ds,.run,ro⟩ ops draw k (some (Qs,.ZB T' v H' n' R1 W1)))) f) p) (EP P F Xm (Qau P F Xm fuel ih) len tr ops H n)
def codeF(cd:Code):Mv:=Code.rec Bv tp (fun x y _ _=>Qcv x y) (fun q x y _ _=>QbS q x y) (fun id x _=>QaZ id x) (fun x _=>OY x) (fun f ps x y _ _=>S9 (.code (.rangeFunc f ps x y))) (fun id=>S9 (.code (.exit id))) (fun x _=>QaY x) (fun _=>Bv) (fun l=>S9 (.code (.goto l))) (S9 (.code .ret)) (fun w=>S9 (.code (.refuse w))) cd
def OX(it:Item):Mv:=Item.rec codeF (fun _=>Bv) OY (fun _=>Bv) (fun a b=>S9 (.inRegion a b)) (fun l=>S9 (.inRangeFunc l)) (fun l=>S9 (.endRangeFunc l)) (S9 .beginRound) (fun a b c d=>S9 (.call a b c d)) (fun a b=>S9 (.extern a b)) it
def aY(P:Program)(F:FuncId->Bool)(Xm:Vh)(fuel:Nat):Run:=Nat.rec (fun _ _ _ _ _ _ _ _ _ _ _=>none) (fun fuel ih b fn len tr todo ds ro H n R W=>
 List.rec (resume P F Xm fuel ih b R W (Rz ⟨fn,⟨len,tr⟩,[],ds,.run,ro⟩ H n none)) (fun it k _=>OX it P F Xm fuel ih b fn len tr k ds ro H n R W) todo) fuel
theorem oF(P:Program)(F:FuncId->Bool)(Xm:Vh):∀(fuel b:Nat) (fn:FuncId) (len:Nat) (tr:Tri) (todo:List Item) (ds:List Nat) (ro:Option Nat) (H:Qm) (n:Nat) (R W:List Nat),aY P F Xm fuel b fn len tr todo ds ro H n R W=JB P F Xm fuel b ⟨fn,⟨len,tr⟩,todo,ds,.run,ro⟩ H n R W
 |0,_,_,_,_,_,_,_,_,_,_,_=>rfl
 |fuel+1,b,fn,len,tr,todo,ds,ro,H,n,R,W=>by
  have hih:∀(b:Nat) (fn:FuncId) (len:Nat) (tr:Tri) (todo:List Item) (ds:List Nat) (ro:Option Nat) (H:Qm) (n:Nat) (R W:List Nat),aY P F Xm fuel b fn len tr todo ds ro H n R W=JB P F Xm fuel b ⟨fn,⟨len,tr⟩,todo,ds,.run,ro⟩ H n R W:=oF P F Xm fuel;have Vq:Qau P F Xm fuel (aY P F Xm fuel)=fun c1 H1 n1=>JB P F Xm fuel n1 c1 H1 n1 [] []:=by
   funext c1 H1 n1;obtain⟨fn,⟨len,tr⟩,todo,ds,mode,ro⟩:=c1;cases mode with
   |run=>exact hih _ _ _ _ _ _ _ _ _ _ _
   |ret=>rfl
   |ZB v=>rfl
  have hres:∀(R W:List Nat) (x:Option FS),resume P F Xm fuel (aY P F Xm fuel) b R W x=match x with
   |some (.go c' H' n' R' W')=>JB P F Xm fuel b c' H' n' (ZP b R' R) (ZP b W' W)
   |some (.done out H' n' R' W')=>some ⟨out,H',n',ZP b R' R,ZP b W' W⟩
   |none=>none:=by
   intro R W x;cases x with
   |none=>rfl
   |some fs=>
    cases fs with
    |done out H' n' R' W'=>rfl
    |go c' H' n' R' W'=>
     obtain⟨fn,⟨len,tr⟩,todo,ds,mode,ro⟩:=c';cases mode with
     |run=>exact hih _ _ _ _ _ _ _ _ _ _ _
     |ret=>rfl
     |ZB v=>rfl
  have hslow:∀(it:Item) (k:List Item),S9 it P F Xm fuel (aY P F Xm fuel) b fn len tr k ds ro H n R W=JB P F Xm (fuel+1) b ⟨fn,⟨len,tr⟩,it::k,ds,.run,ro⟩ H n R W:=by
   intro it k;unfold S9;rw[hres,Vq];rfl
  cases todo with
  |nil=>exact hres R W _
  |cons it k=>
   show OX it P F Xm fuel (aY P F Xm fuel) b fn len tr k ds ro H n R W=_;cases it with
   |code cd=>
    cases cd with
    |skip=>exact hih _ _ _ _ _ _ _ _ _ _ _
    |label l=>exact hih _ _ _ _ _ _ _ _ _ _ _
    |seq x y=>exact hih _ _ _ _ _ _ _ _ _ _ _
    |block id x=>exact hih _ _ _ _ _ _ _ _ _ _ _
    |loop x=>exact hih _ _ _ _ _ _ _ _ _ _ _
    |scope x=>exact hih _ _ _ _ _ _ _ _ _ _ _
    |cond q x y=>
     show(Option.rec none (fun v=>Option.rec none (fun t=>LL (aY P F Xm fuel b fn len tr (.code y::k) ds ro H n R W) (aY P F Xm fuel b fn len tr (.code x::k) ds ro H n R W) t) (RD v)) (TQ tr q):Option Rs)=_;rw[IM len tr,hih,hih];simp only[JB,ic,iF,iG];cases XV ⟨len,tr⟩ q with
     |none=>rfl
     |some v=>
      cases v with
      |bool t=>cases t <;> rfl
      |_=>rfl
    |region id ops draw=>
     show tp id ops draw P F Xm fuel (aY P F Xm fuel) b fn len tr k ds ro H n R W=_;unfold tp;rw[EO,Vq];simp only[JB,ic,iF,iG,B9,B8];cases hrr:Pk P F Xm (fun c1 H1 n1=>JB P F Xm fuel n1 c1 H1 n1 [] []) ops ops.toList ⟨len,tr⟩ H n with
     |none=>rfl
     |some p=>
      obtain⟨Qs,f⟩:=p;cases f with
      |ZB v H' n' R1 W1=>exact hres R W _
      |ok T' H' n'=>
       have hck:=Qbf (draw:=draw) (gE _ _ _ _ _ _ _ _ hrr);obtain⟨len',tr'⟩:=T';simp only[Qa1];rw[hck];cases !draw || (Vg 0 ops.toList && indep ops 0 Qs (JK ops.toList []))with
       |false=>rfl
       |true=>exact hih _ _ _ _ _ _ _ _ _ _ _
    |rangeFunc f ps x y=>exact hslow _ k
    |exit id=>exact hslow _ k
    |goto id=>exact hslow _ k
    |ret=>exact hslow _ k
    |refuse w=>exact hslow (.code (.refuse w)) k
   |inBlock id=>exact hih _ _ _ _ _ _ _ _ _ _ _
   |inScope x=>exact hih _ _ _ _ _ _ _ _ _ _ _
   |inLoop x=>exact hih _ _ _ _ _ _ _ _ _ _ _
   |inRegion a b=>exact hslow _ k
   |inRangeFunc l=>exact hslow _ k
   |endRangeFunc l=>exact hslow _ k
   |beginRound=>exact hslow _ k
   |call a b c d=>exact hslow _ k
   |extern a b=>exact hslow _ k
end
end Go.CE
