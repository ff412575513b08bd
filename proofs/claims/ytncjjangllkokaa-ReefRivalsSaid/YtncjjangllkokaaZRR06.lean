/- CE: the canonical machine a third time: by recursors alone where much time goes. -/
import Derived.Test.YtncjjangllkokaaZRR05
set_option linter.all false
open Bool renaming rec->LF
open Nat renaming beq->Le,ble->LC,blt->Lk
open Array renaming getElem?_toList->Lj
namespace Go.CE
open Go Go.RowKit
noncomputable section

def bP(t:Tri):Nat->Value:=Tri.rec (fun _=>undef) (fun _ v _ gl gr k=>Nat.rec v (fun j _=>LF (gr (Nat.div j 2)) (gl (Nat.div j 2)) (Le (Nat.mod j 2) 0)) k) t
theorem So:∀(t:Tri) (k:Nat),bP t k=t.get k
 | .lf,k=>by cases k <;> rfl
 | .nd l v r,0=>rfl
 | .nd l v r,k+1=>by
   show(LF (bP r (k / 2)) (bP l (k / 2)) (Le (k % 2) 0):Value)=bif Le (k % 2) 0 then l.get (k / 2)else r.get (k / 2);rw[So l,So r];cases Le (k % 2) 0 <;> rfl
def T0(f:Nat):Tri->Nat->Value->Tri:=Nat.rec (fun t _ _=>t) (fun _ ih t i x=>Tri.rec
 (Nat.rec (.nd .lf x .lf) (fun j _=>LF (.nd .lf undef (ih .lf (Nat.div j 2) x)) (.nd (ih .lf (Nat.div j 2) x) undef .lf) (Le (Nat.mod j 2) 0)) i)
 (fun l v r _ _=>Nat.rec (.nd l x r) (fun j _=>LF (.nd l v (ih r (Nat.div j 2) x)) (.nd (ih l (Nat.div j 2) x) v r) (Le (Nat.mod j 2) 0)) i) t) f
theorem Sn:∀(f:Nat) (t:Tri) (i:Nat) (x:Value),T0 f t i x=Tri.set f t i x
 |0,_,_,_=>rfl
 |f+1,.lf,0,x=>rfl
 |f+1,.nd l v r,0,x=>rfl
 |f+1,.lf,k+1,x=>by
  show(LF (Tri.nd .lf undef (T0 f .lf (k / 2) x)) (Tri.nd (T0 f .lf (k / 2) x) undef .lf) (Le (k % 2) 0):Tri)=bif Le (k % 2) 0 then .nd (Tri.set f .lf (k / 2) x) undef .lf else .nd .lf undef (Tri.set f .lf (k / 2) x);rw[Sn f];cases Le (k % 2) 0 <;> rfl
 |f+1,.nd l v r,k+1,x=>by
  show(LF (Tri.nd l v (T0 f r (k / 2) x)) (Tri.nd (T0 f l (k / 2) x) v r) (Le (k % 2) 0):Tri)=bif Le (k % 2) 0 then .nd (Tri.set f l (k / 2) x) v r else .nd l v (Tri.set f r (k / 2) x);rw[Sn f,Sn f];cases Le (k % 2) 0 <;> rfl
def Ri(tr:Tri)(x:Operand):Option Value:=Operand.rec (fun t=>some (bP tr t)) (fun v=>LF none (some v) (af v)) (fun _=>none) (fun f=>some (.func (.func f) #[] #[])) x
theorem CS(len:Nat)(tr:Tri):Ri tr=X8 ⟨len,tr⟩:=by
 funext x;cases x with
 |tmp t=>show some (bP tr t)=some (tr.get t);rw[So]
 |const v=>show(LF none (some v) (af v):Option Value)=bif af v then some v else none;cases af v <;> rfl
 |global g=>rfl
 |func f=>rfl
def AV(tr:Tri)(d:Option Tmp)(v:Value):Tri:=Option.rec tr (fun d=>T0 14 tr d v) d
theorem wV(len:Nat)(tr:Tri)(d:Option Tmp)(v:Value):(⟨len,AV tr d v⟩:Tm)=W6 ⟨len,tr⟩ d v:=by
 cases d with
 |none=>rfl
 |some d=>show(⟨len,T0 14 tr d v⟩:Tm)=⟨len,tr.set 14 d v⟩;rw[Sn]
def Ev{α:Type}(l:List α):Nat->Option α:=List.rec (fun _=>none) (fun x _ ih k=>Nat.rec (some x) (fun j _=>ih j) k) l
theorem wZ{α:Type}:∀(l:List α) (k:Nat),Ev l k=l[k]?
 |[],k=>by cases k <;> rfl
 |x::l,0=>rfl
 |x::l,k+1=>by show Ev l k=_;rw[wZ l k];rfl
def oO(P:Program)(t:TypeId)(cs:Array Value)(off:Nat):Option Value:=
 Option.rec none (fun g=>LF (Ev cs.toList off) (Option.rec none (fun s=>LF none (some (.agg (cs.extract off (off+s)))) (LC (off+s) cs.size)) (ZM P t)) g) (lk P t)
theorem mL(P:Program)(t:TypeId)(cs:Array Value)(off:Nat):oO P t cs off=Kb P t cs off:=by
 unfold oO Kb;cases lk P t with
 |none=>rfl
 |some g=>
  cases g with
  |false=>show Ev cs.toList off=_;rw[wZ,Lj]
  |true=>
   cases ZM P t with
   |none=>rfl
   |some s=>simp only;cases LC (off+s) cs.size <;> rfl
def oQ(P:Program)(t:TypeId)(H:Qj)(p:Value):Option (Value×Nat):=match p with
 | .pointer (some ⟨b,off,none⟩)=>match Qo H b with
   |some (.cells cs _ _)=>match oO P t cs off with
    |some v=>some (v,b)
    |none=>none
   |_=>none
 |_=>none
theorem zD(P:Program)(t:TypeId)(H:Qj)(p:Value):oQ P t H p=Po P t H p:=by
 unfold oQ Po;simp only[mL];rfl
def pd(p:Value->Bool)(l:List Value):Bool:=List.rec true (fun x _ ih=>LF false ih (p x)) l
theorem bN(p:Value->Bool):∀(l:List Value),pd p l=l.all p
 |[]=>rfl
 |x::l=>by
  show(LF false (pd p l) (p x):Bool)=_;rw[bN p l,List.all_cons];cases p x <;> rfl
def Cb(cs:Array Value):Bool:=pd (·.oneCell') cs.toList
theorem Ca(cs:Array Value):Cb cs=ones cs:=by
 unfold Cb ones;rw[bN,Array.all_toList]
def GS(v:Value):Bool:=match v with
 | .agg xs=>pd simple xs.toList
 |v=>simple v
theorem Ab(v:Value):GS v=sa v:=by
 cases v <;> first|rfl|(show pd simple _=_;rw[bN,Array.all_toList];rfl)
def HW(v:Value):Bool:=match v with
 | .agg xs=>pd simple xs.toList
 | .tuple xs=>pd GS xs.toList
 | .iface _ v=>GS v
 |v=>simple v
theorem GB(v:Value):HW v=af v:=by
 cases v with
 |iface t v=>exact Ab v
 |tuple xs=>show pd GS _=_;rw[show GS=sa from funext Ab,bN,Array.all_toList];rfl
 |_=>first|rfl|(show pd simple _=_;rw[bN,Array.all_toList];rfl)
def fq(P:Program)(t:TypeId)(H:Qj)(v p:Value):Option (Qj×Nat):=match p with
 | .pointer (some ⟨b,off,none⟩)=>match Qo H b with
   |some (.cells cs te (0,0))=>match ZM P t with
    |some s=>bif Le v.cells.size s && Cb v.cells && LC (off+s) cs.size then some (WK H b (.cells (splice cs off v.cells) te (0,0)),b)else none
    |none=>none
   |_=>none
 |_=>none
theorem wu(P:Program)(t:TypeId)(H:Qj)(v p:Value):fq P t H v p=Jw P t H v p:=by
 unfold fq Jw;simp only[Ca];rfl
def fw(P:Program)(t:TypeId)(f:Nat)(x:Value):Option Value:=match x with
 | .agg cs=>match Yb P t with
   |some (.struct fields)=>match fields[f]? with
    |some fd=>oO P fd.type cs fd.offset
    |none=>none
   |_=>none
 |_=>none
theorem w5(P:Program)(t:TypeId)(f:Nat)(x:Value):fw P t f x=cM P t f x:=by
 unfold fw cM;simp only[mL];rfl
def uq(ops:Array Oper)(tr:Tri)(j:Nat):Option Bool:=match nth ops.toList j with
 |some o=>match o.dst with
  |some t=>Jx (bP tr t)
  |none=>none
 |none=>none
theorem xu(len:Nat)(ops:Array Oper)(tr:Tri)(j:Nat):uq ops tr j=Xw ops ⟨len,tr⟩ j:=by
 unfold uq Xw;simp only[So,Xm];rfl
def wG(ops:Array Oper)(tr:Tri)(g:Option (Nat×Bool)):Bool:=Option.rec true (fun jw=>Prod.rec (fun j w=>Option.rec false (fun b=>LF (LF true false w) (LF false true w) b) (uq ops tr j)) jw) g
theorem zO(len:Nat)(ops:Array Oper)(tr:Tri)(o:Oper):wG ops tr o.guard=Region.wanted o (Xw ops ⟨len,tr⟩):=by
 unfold wG Region.wanted;cases o.guard with
 |none=>rfl
 |some jw=>
  obtain⟨j,w⟩:=jw;simp only[xu len];cases Xw ops ⟨len,tr⟩ j with
  |none=>rfl
  |some b=>cases b <;> cases w <;> rfl
abbrev lu:=Option (List Rec×RF)
abbrev KV:=Value->Qj->Nat->List Nat->List Nat->lu
abbrev zN:=Program->(FuncId->Bool)->Wl->(CF->Qj->Nat->Option Rs)->Nat->Tri->Oper->Qj->Nat->KV->KV->lu
def fin(k kp:KV)(s:Option Rs):lu:=match s with
 |some ⟨out,H,n,R,W⟩=>match out with
  | .ret v=>k v H n R W
  | .Zj v=>kp v H n R W
 |none=>none
def pv(k:KV)(H:Qj)(n:Nat)(x:Option Value):lu:=Option.rec none (fun v=>k v H n [] []) x
theorem Sg(k kp:KV)(H:Qj)(n:Nat)(x:Option Value):fin k kp (qV x H n)=pv k H n x:=by cases x <;> rfl
def F1(x:Operand):zN:=fun _ _ _ _ _ tr _ H n k _=>pv k H n (Ri tr x)
def Hy(c a b:Operand):zN:=fun _ _ _ _ _ tr _ H n k _=>Option.rec none (fun v=>Option.rec none (fun t=>LF (pv k H n (Ri tr b)) (pv k H n (Ri tr a)) t) (Jx v)) (Ri tr c)
def Hz(t:TypeId)(a:Operand):zN:=fun P _ _ _ _ tr _ H n k _=>Option.rec none (fun p=>Option.rec none (fun vb=>Prod.rec (fun v b=>LF none (k v H n [b] []) (Lk b n)) vb) (oQ P t H p)) (Ri tr a)
def GF(t:TypeId)(a x:Operand):zN:=fun P _ _ _ _ tr _ H n k _=>Option.rec none (fun p=>Option.rec none (fun v=>Option.rec none (fun hb=>Prod.rec (fun H' b=>LF none (k undef H' n [b] [b]) (Lk b n)) hb) (fq P t H v p)) (Ri tr x)) (Ri tr a)
def wE(s:TypeId)(x:Operand)(f:Nat):zN:=fun P _ _ _ _ tr _ H n k _=>Option.rec none (fun p=>pv k H n (ZA P s f p)) (Ri tr x)
def GG(s:TypeId)(x:Operand)(f:Nat):zN:=fun P _ _ _ _ tr _ H n k _=>Option.rec none (fun p=>pv k H n (fw P s f p)) (Ri tr x)
def wD(t:TypeId)(x i:Operand):zN:=fun P _ _ _ _ tr _ H n k _=>Option.rec none (fun p=>Option.rec none (fun j=>pv k H n (Kq P t p j)) (Ri tr i)) (Ri tr x)
def Dv(x:Operand)(i:Nat):zN:=fun _ _ _ _ _ tr _ H n k _=>Option.rec none (fun p=>pv k H n (Pp i p)) (Ri tr x)
def HS(op:BinOp)(_:TypeId)(x y:Operand)(_:TypeId):zN:=fun P _ _ _ _ tr o H n k _=>Option.rec none (fun a=>Option.rec none (fun b=>Option.rec (pv k H n (VE P (Ri tr) o)) (fun v=>k v H n [] []) (w7 op a b)) (Ri tr y)) (Ri tr x)
def CX(v:Value)(r:CR)(k:KV)(H':Qj)(n':Nat)(R W:List Nat):lu:=List.rec (LF (k v H' n' (r.R++R) (r.W++[])) (k v r.H n' (r.R++R) (r.W++[])) (HW v)) (fun _ _ _=>k v H' n' (r.R++R) (r.W++W)) W
def xn(r:CR)(k kp:KV)(s:Option Rs):lu:=Option.rec none (fun s=>Rs.rec (fun out H' n' R W=>OO.rec (fun v=>CX v r k H' n' R W) (fun v=>kp v H' n' (r.R++R) (r.W++W)) out) s) s
theorem Ds(r:CR)(k kp:KV)(s:Option Rs):xn r k kp s=fin k kp (match s with|some s=>AQ r s|none=>none):=by
 cases s with
 |none=>rfl
 |some s=>
  obtain⟨out,H',n',R,W⟩:=s;cases out with
  |Zj v=>
   cases W with
   |nil=>rfl
   |cons a b=>rfl
  |ret v=>
   show CX v r k H' n' R W=_;unfold CX;cases W with
   |nil=>
    rw[GB];simp only[AQ,Kx];cases af v <;> rfl
   |cons a b=>rfl
def oI(P:Program)(Xc:Wl)(rec:CF->Qj->Nat->Option Rs)(g:FuncId)(args:Array Value)(r:CR)(k kp:KV):lu:=Option.rec (Option.rec none (fun c=>xn r k kp (rec c r.H r.n)) (Z6 P g args)) (fun _=>fin k kp (nh P Xc rec g args r)) (Xc g args r.H r.n)
theorem z8(P:Program)(Xc:Wl)(rec:CF->Qj->Nat->Option Rs)(g:FuncId)(args:Array Value)(r:CR)(k kp:KV):oI P Xc rec g args r k kp=fin k kp (nh P Xc rec g args r):=by
 unfold oI;cases ho:Xc g args r.H r.n with
 |some x=>rfl
 |none=>
  unfold nh;rw[ho];show(Option.rec none (fun c=>xn r k kp (rec c r.H r.n)) (Z6 P g args):lu)=fin k kp (FP P rec g args r);unfold FP;cases Z6 P g args with
  |none=>rfl
  |some c=>
   show xn r k kp (rec c r.H r.n)=_;rw[Ds];rfl
def Dh(P:Program)(Xc:Wl)(rec:CF->Qj->Nat->Option Rs)(n:Nat)(x:Option CR)(k kp:KV):lu:=Option.rec none (fun r=>CN.rec (fun _=>fin k kp (qR P Xc rec n (some r))) (fun g args=>LF none (oI P Xc rec g args r k kp) (r.R.all (fun i=>Lk i n))) (fun _ _ _ _ _=>fin k kp (qR P Xc rec n (some r))) r.nx) x
theorem Dg(P:Program)(Xc:Wl)(rec:CF->Qj->Nat->Option Rs)(n:Nat)(x:Option CR)(k kp:KV):Dh P Xc rec n x k kp=fin k kp (qR P Xc rec n x):=by
 cases x with
 |none=>rfl
 |some r=>
  obtain⟨nx,H',n',R,W⟩:=r;cases nx with
  |val v=>rfl
  |round l fn tm a b=>rfl
  |enter g args=>
   show(LF none (oI P Xc rec g args ⟨.enter g args,H',n',R,W⟩ k kp) (R.all (fun i=>Lk i n)):lu)=_;rw[z8];simp only[qR];cases R.all (fun i=>Lk i n) <;> rfl
def H3(c:Call):zN:=fun P F Xc rec _ tr o H n k kp=>Dh P Xc rec n (ay P F (Ri tr) o c H n) k kp
def Um:zN:=fun P F Xc rec len tr o H n k kp=>fin k kp (pq P F Xc rec ⟨len,tr⟩ o H n)
def HP(op:Op):zN:=Op.rec F1 F1 Hy (fun _=>Um) (fun _ _=>Um) (fun _ _=>Um) (fun _ _ _=>Um) (fun _ _ _ _=>Um) Hz GF (fun _=>Um) (fun _=>Um) (fun _=>Um) HS (fun _ _ _=>Um) (fun _ _ _=>Um) (fun _ _=>Um) (fun _ _=>Um)
 (fun _ _ _=>Um) (fun _ _=>Um) (fun _ _=>Um) (fun _ _ _=>Um) (fun _ _ _ _ _=>Um) wE GG wD (fun _ _ _=>Um) (fun _ _ _ _=>Um) (fun _ _ _ _=>Um) (fun _ _ _=>Um) (fun _ _ _ _=>Um) (fun _ _=>Um) (fun _ _=>Um) (fun _=>Um) (fun _ _ _ _=>Um)
 Dv H3 (fun _=>Um) (fun _=>Um) (fun _=>Um) (fun _ _=>Um) (fun _ _ _=>Um) (fun _ _=>Um) op
theorem Gr(P:Program)(F:FuncId->Bool)(Xc:Wl)(rec:CF->Qj->Nat->Option Rs)(len:Nat)(tr:Tri)(o:Oper)(H:Qj)(n:Nat)(k kp:KV):HP o.op P F Xc rec len tr o H n k kp=fin k kp (pq P F Xc rec ⟨len,tr⟩ o H n):=by
 have e:=CS len tr;cases hp:o.op with
 |move x=>show pv k H n (Ri tr x)=_;rw[e];unfold pq;simp only[hp];exact(Sg k kp H n _).symm
 |assign x=>show pv k H n (Ri tr x)=_;rw[e];unfold pq;simp only[hp];exact(Sg k kp H n _).symm
 |pick c a b=>
  show(Option.rec none (fun v=>Option.rec none (fun t=>LF (pv k H n (Ri tr b)) (pv k H n (Ri tr a)) t) (Jx v)) (Ri tr c):lu)=_;rw[e];unfold pq;simp only[hp];cases X8 ⟨len,tr⟩ c with
  |none=>rfl
  |some v=>
   cases v with
   |bool t=>cases t <;> exact(Sg k kp H n _).symm
   |_=>rfl
 |load t a=>
  show(Option.rec none (fun p=>Option.rec none (fun vb=>Prod.rec (fun v b=>LF none (k v H n [b] []) (Lk b n)) vb) (oQ P t H p)) (Ri tr a):lu)=_;simp only[zD];rw[e];unfold pq;simp only[hp];cases X8 ⟨len,tr⟩ a with
  |none=>rfl
  |some p=>
   simp only[AM];cases Po P t H p with
   |none=>rfl
   |some vb=>
    obtain⟨v,b⟩:=vb;cases hb:Lk b n <;> simp[qR,fin,wT,hb]
 |store t a x=>
  show(Option.rec none (fun p=>Option.rec none (fun v=>Option.rec none (fun hb=>Prod.rec (fun H' b=>LF none (k undef H' n [b] [b]) (Lk b n)) hb) (fq P t H v p)) (Ri tr x)) (Ri tr a):lu)=_;simp only[wu];rw[e];unfold pq;simp only[hp];cases X8 ⟨len,tr⟩ a with
  |none=>rfl
  |some p=>
   cases X8 ⟨len,tr⟩ x with
   |none=>rfl
   |some v=>
    simp only[uL];cases Jw P t H v p with
    |none=>rfl
    |some vb=>
     obtain⟨H',b⟩:=vb;cases hb:Lk b n <;> simp[qR,fin,wT,hb]
 |fieldAddr s x f=>
  show(Option.rec none (fun p=>pv k H n (ZA P s f p)) (Ri tr x):lu)=_;rw[e];unfold pq;simp only[hp];cases X8 ⟨len,tr⟩ x with
  |none=>rfl
  |some p=>simp only[TA,YX];exact(Sg k kp H n _).symm
 |field s x f=>
  show(Option.rec none (fun p=>pv k H n (fw P s f p)) (Ri tr x):lu)=_;simp only[w5];rw[e];unfold pq;simp only[hp];cases X8 ⟨len,tr⟩ x with
  |none=>rfl
  |some p=>simp only[uM,YX];exact(Sg k kp H n _).symm
 |indexAddr t x i=>
  show(Option.rec none (fun p=>Option.rec none (fun j=>pv k H n (Kq P t p j)) (Ri tr i)) (Ri tr x):lu)=_;rw[e];unfold pq;simp only[hp];cases X8 ⟨len,tr⟩ x with
  |none=>rfl
  |some p=>
   cases X8 ⟨len,tr⟩ i with
   |none=>rfl
   |some j=>simp only[T9,YX];exact(Sg k kp H n _).symm
 |extract x i=>
  show(Option.rec none (fun p=>pv k H n (Pp i p)) (Ri tr x):lu)=_;rw[e];unfold pq;simp only[hp];cases X8 ⟨len,tr⟩ x with
  |none=>rfl
  |some p=>simp only[gF,YX];exact(Sg k kp H n _).symm
 |binOp op t x y t'=>
  show(Option.rec none (fun a=>Option.rec none (fun b=>Option.rec (pv k H n (VE P (Ri tr) o)) (fun v=>k v H n [] []) (w7 op a b)) (Ri tr y)) (Ri tr x):lu)=_;rw[e];unfold pq;simp only[hp];cases X8 ⟨len,tr⟩ x with
  |none=>rfl
  |some a=>
   cases X8 ⟨len,tr⟩ y with
   |none=>rfl
   |some b=>
    simp only[FU];cases w7 op a b with
    |none=>simp only[YX];exact(Sg k kp H n _).symm
    |some v=>rfl
 |call c=>show Dh P Xc rec n (ay P F (Ri tr) o c H n) k kp=_;rw[Dg,e];unfold pq;simp only[hp]
 |_=>rfl
def xk(r:Rec)(x:lu):lu:=Option.rec none (fun p=>Prod.rec (fun rs f=>some (r::rs,f)) p) x
def wP(P:Program)(F:FuncId->Bool)(Xc:Wl)(rec:CF->Qj->Nat->Option Rs)(len:Nat)(ops:Array Oper)(l:List Oper):Tri->Qj->Nat->lu:=
 List.rec (fun tr H n=>some ([],.ok ⟨len,tr⟩ H n)) (fun o _ ih tr H n=>LF
  (xk ⟨o,false,undef,⟨len,tr⟩,H,H,n,n,[],[]⟩ (ih (AV tr o.dst undef) H n))
  (HP o.op P F Xc rec len tr o H n (fun v H' n' R W=>xk ⟨o,true,v,⟨len,tr⟩,H,H',n,n',R,W⟩ (ih (AV tr o.dst v) H' n')) (fun v H' n' R W=>some ([],.Zj ⟨len,tr⟩ v H' n' R W)))
  (wG ops tr o.guard)) l
def oJ(len:Nat)(l:List Oper):Bool:=l.all fun o=>YH ⟨len,.lf⟩ o.dst
theorem pT(P:Program)(F:FuncId->Bool)(Xc:Wl)(rec:CF->Qj->Nat->Option Rs)(len:Nat)(ops:Array Oper):∀(l:List Oper) (tr:Tri) (H:Qj) (n:Nat),oJ len l=true->wP P F Xc rec len ops l tr H n=Yv P F Xc rec ops l ⟨len,tr⟩ H n
 |[],_,_,_,_=>rfl
 |o::l,tr,H,n,hd=>by
  simp only[oJ,List.all_cons,YB]at hd;have hd1:YH ⟨len,tr⟩ o.dst=true:=by
   have:=hd.1;cases hq:o.dst with
   |none=>rfl
   |some x=>rw[hq]at this;exact this
  have ih:=pT P F Xc rec len ops l;show(LF (xk ⟨o,false,undef,⟨len,tr⟩,H,H,n,n,[],[]⟩ (wP P F Xc rec len ops l (AV tr o.dst undef) H n))
   (HP o.op P F Xc rec len tr o H n (fun v H' n' R W=>xk ⟨o,true,v,⟨len,tr⟩,H,H',n,n',R,W⟩ (wP P F Xc rec len ops l (AV tr o.dst v) H' n')) (fun v H' n' R W=>some ([],.Zj ⟨len,tr⟩ v H' n' R W)))
   (wG ops tr o.guard):lu)=_
  rw[zO len];simp only[Yv,hd1,cond_true];cases Region.wanted o (Xw ops ⟨len,tr⟩)with
  |false=>
   simp only[cond_false];rw[ih _ _ _ hd.2,wV];cases Yv P F Xc rec ops l (W6 ⟨len,tr⟩ o.dst undef) H n <;> rfl
  |true=>
   simp only[cond_true,Gr];cases pq P F Xc rec ⟨len,tr⟩ o H n with
   |none=>rfl
   |some s=>
    obtain⟨out,H',n',R,W⟩:=s;cases out with
    |Zj v=>rfl
    |ret v=>
     simp only[fin];rw[ih _ _ _ hd.2,wV];cases Yv P F Xc rec ops l (W6 ⟨len,tr⟩ o.dst v) H' n' <;> rfl
def Ro(ops:Array Oper)(o:Oper)(k:Nat):List Oper->List (List Nat)->Bool
 |x::l,b::bs=>(b.contains k || o.apart ops x) && Ro ops o k l bs
 |[],_=>true
 |_::_,[]=>false
def stat(ops:Array Oper):Nat->List Oper->List (List Nat)->Bool
 |k,o::l,_::bs=>Ro ops o k l bs && stat ops (k+1) l bs
 |_,[],_=>true
 |_,_::_,[]=>false
def Tl(i:Nat)(l:List Nat):Bool:=List.rec false (fun j _ ih=>LF ih true (Le i j)) l
theorem bJ(i:Nat):∀(l:List Nat),Tl i l=l.contains i
 |[]=>rfl
 |j::l=>by
  show(LF (Tl i l) true (Le i j):Bool)=_;rw[bJ i l,List.contains_cons];by_cases e:i=j
  ·subst e;rw[Nat.beq_refl];simp
  ·rw[Rc e];simp[e]
def nU(W R:List Nat):Bool:=List.rec false (fun i _ ih=>LF ih true (Tl i R)) W
theorem c7(R:List Nat):∀(W:List Nat),nU W R=W.any fun i=>R.contains i
 |[]=>rfl
 |i::W=>by
  show(LF (nU W R) true (Tl i R):Bool)=_;rw[c7 R W,bJ,List.any_cons];cases R.contains i <;> rfl
def oY(lo hi:Nat)(R:List Nat):Bool:=List.rec false (fun i _ ih=>LF ih (LF ih true (Lk i hi)) (LC lo i)) R
theorem mS(lo hi:Nat):∀(R:List Nat),oY lo hi R=R.any fun i=>LC lo i && Lk i hi
 |[]=>rfl
 |i::R=>by
  show(LF (oY lo hi R) (LF (oY lo hi R) true (Lk i hi)) (LC lo i):Bool)=_;rw[mS lo hi R,List.any_cons];cases LC lo i <;> cases Lk i hi <;> rfl
def clear(r x:Rec):Bool:=LF (LF (LF true false (oY r.n r.n' x.R)) false (nU x.W r.R)) false (nU r.W x.R)
theorem wj{ops:Array Oper}{r x:Rec}(h:clear r x=true)(ha:r.o.apart ops x.o=true):tied ops r x=false:=by
 unfold clear at h;rw[mS,c7,c7]at h;unfold tied meets bears;rw[ha];revert h;cases r.W.any fun i=>x.R.contains i <;> cases x.W.any fun i=>r.R.contains i <;> cases x.R.any fun i=>LC r.n i && Lk i r.n' <;> simp
def PW(r:Rec)(k:Nat)(l:List Rec):List (List Nat)->Bool:=List.rec (fun _=>true) (fun x _ ih bs=>List.rec false (fun b bs' _=>LF (LF false (ih bs') (Tl k b)) (ih bs') (clear r x)) bs) l
def dyn(l:List Rec):Nat->List (List Nat)->Bool:=List.rec (fun _ _=>true) (fun r l ih k bs=>List.rec false (fun _ bs' _=>LF false (ih (k+1) bs') (PW r k l bs')) bs) l
theorem bS{ops:Array Oper}{r:Rec}(k:Nat):∀(l:List Rec) (bs:List (List Nat)),PW r k l bs=true->Ro ops r.o k (l.map (·.o)) bs=true->UC ops r k l bs=true
 |[],_,_,_=>by simp[UC]
 |x::l,[],_,h=>by simp[Ro]at h
 |x::l,b::bs,hd,h=>by
  simp only[List.map_cons,Ro,YB,Bool.or_eq_true]at h;simp only[UC,YB,Bool.or_eq_true,Bool.not_eq_true'];have hd:(LF (LF false (PW r k l bs) (Tl k b)) (PW r k l bs) (clear r x):Bool)=true:=hd;cases hc:clear r x with
  |true=>
   rw[hc]at hd;exact⟨h.1.imp id fun ha=>wj hc ha,bS k l bs hd h.2⟩
  |false=>
   rw[hc]at hd;have hd:(LF false (PW r k l bs) (Tl k b):Bool)=true:=hd;cases he:Tl k b with
   |false=>rw[he]at hd;cases hd
   |true=>
    rw[he]at hd;rw[bJ]at he;exact⟨.inl he,bS k l bs hd h.2⟩
theorem fR{ops:Array Oper}:∀(l:List Rec) (bs:List (List Nat)) (k:Nat),dyn l k bs=true->stat ops k (l.map (·.o)) bs=true->indep ops k l bs=true
 |[],_,_,_,_=>by simp[indep]
 |x::l,[],_,_,h=>by simp[stat]at h
 |x::l,b::bs,k,hd,h=>by
  simp only[List.map_cons,stat,YB]at h;simp only[indep,YB];have hd:(LF false (dyn l (k+1) bs) (PW x k l bs):Bool)=true:=hd;cases hc:PW x k l bs with
  |false=>rw[hc]at hd;cases hd
  |true=>
   rw[hc]at hd;exact⟨bS k l bs hc h.1,fR l bs (k+1) hd h.2⟩
theorem bT{P:Program}{F:FuncId->Bool}{Xc:Wl}{rec:CF->Qj->Nat->Option Rs}{ops:Array Oper}:∀(l:List Oper) (T:Tm) (H:Qj) (n:Nat) (Qq:List Rec) (T':Tm) (H':Qj) (n':Nat),Yv P F Xc rec ops l T H n=some (Qq,.ok T' H' n')->Qq.map (·.o)=l
 |[],T,H,n,Qq,T',H',n',h=>by
  simp only[Yv,YO,YR]at h;rw[<-h.1];rfl
 |o::l,T,H,n,Qq,T',H',n',h=>by
  simp only[Yv]at h;have h:=Kr h;cases hw:Region.wanted o (Xw ops T)with
  |true=>
   rw[hw]at h;simp only[cond_true]at h;split at h
   ·split at h
    ·split at h
     ·rename_i rs f hr;simp only[YO,YR]at h;obtain⟨rfl,rfl⟩:=h;simp[bT l _ _ _ _ _ _ _ hr]
     ·cases h
    ·simp only[YO,YR]at h;cases h.2
   ·cases h
  |false=>
   rw[hw]at h;simp only[cond_false]at h;split at h
   ·rename_i rs f hr;simp only[YO,YR]at h;obtain⟨rfl,rfl⟩:=h;simp[bT l _ _ _ _ _ _ _ hr]
   ·cases h
def nc(ops:Array Oper):Bool:=Wj 0 ops.toList && stat ops 0 ops.toList (KZ ops.toList [])
def chk(ops:Array Oper)(Qq:List Rec)(draw:Bool):Bool:=LF true (LF (Wj 0 ops.toList && indep ops 0 Qq (KZ ops.toList [])) (LF (Wj 0 ops.toList && indep ops 0 Qq (KZ ops.toList [])) true (dyn Qq 0 (KZ ops.toList []))) (nc ops)) draw
theorem G8{ops:Array Oper}{Qq:List Rec}{draw:Bool}(h:Qq.map (·.o)=ops.toList):chk ops Qq draw=(!draw || (Wj 0 ops.toList && indep ops 0 Qq (KZ ops.toList []))):=by
 unfold chk;cases draw with
 |false=>rfl
 |true=>
  simp only[Bool.not_true,Bool.false_or];cases hs:nc ops with
  |false=>rfl
  |true=>
   cases hc:dyn Qq 0 (KZ ops.toList [])with
   |false=>rfl
   |true=>
    unfold nc at hs;simp only[YB]at hs;rw[hs.1,fR Qq _ 0 hc (by rw[h];exact hs.2)];rfl
def dW(b:Nat)(l:List Nat):List Nat->List Nat:=List.rec (fun acc=>acc) (fun x _ ih acc=>LF (ih acc) (LF (ih (x::acc)) (ih acc) (Tl x acc)) (Lk x b)) l
theorem bO(b:Nat):∀(l acc:List Nat),dW b l acc=Zt b l acc
 |[],_=>rfl
 |x::l,acc=>by
  show(LF (dW b l acc) (LF (dW b l (x::acc)) (dW b l acc) (Tl x acc)) (Lk x b):List Nat)=_;rw[bO b l,bO b l,bJ,Zt];cases Lk x b <;> cases acc.contains x <;> rfl
theorem lp(b:Nat):∀(l m acc:List Nat),Zt b (l++m) acc=Zt b m (Zt b l acc)
 |[],_,_=>rfl
 |x::l,m,acc=>by simp only[List.cons_append,Zt];exact lp b l m _
def GD(b:Nat)(Qq:List Rec):List Nat->List Nat:=List.rec (fun acc=>acc) (fun r _ ih acc=>ih (dW b r.R acc)) Qq
theorem xq(b:Nat):∀(Qq:List Rec) (acc:List Nat),GD b Qq acc=Zt b (Kc Qq) acc
 |[],_=>rfl
 |r::l,acc=>by
  show GD b l (dW b r.R acc)=_;rw[xq b l,bO,show Kc (r::l)=r.R++Kc l from List.flatMap_cons,lp]
def GC(b:Nat)(Qq:List Rec):List Nat->List Nat:=List.rec (fun acc=>acc) (fun r _ ih acc=>ih (dW b r.W acc)) Qq
theorem xp(b:Nat):∀(Qq:List Rec) (acc:List Nat),GC b Qq acc=Zt b (Vj Qq) acc
 |[],_=>rfl
 |r::l,acc=>by
  show GC b l (dW b r.W acc)=_;rw[xp b l,bO,show Vj (r::l)=r.W++Vj l from List.flatMap_cons,lp]
def Ad(P:Program)(F:FuncId->Bool)(Xc:Wl)(rec:CF->Qj->Nat->Option Rs)(len:Nat)(tr:Tri)(ops:Array Oper)(H:Qj)(n:Nat):lu:=
 LF (Yv P F Xc rec ops ops.toList ⟨len,tr⟩ H n) (wP P F Xc rec len ops ops.toList tr H n) (oJ len ops.toList)
theorem Ac(P:Program)(F:FuncId->Bool)(Xc:Wl)(rec:CF->Qj->Nat->Option Rs)(len:Nat)(tr:Tri)(ops:Array Oper)(H:Qj)(n:Nat):Ad P F Xc rec len tr ops H n=Yv P F Xc rec ops ops.toList ⟨len,tr⟩ H n:=by
 unfold Ad;cases hd:oJ len ops.toList with
 |false=>rfl
 |true=>exact pT P F Xc rec len ops _ _ _ _ hd
abbrev H5:=Nat->FuncId->Nat->Tri->List Item->List Nat->Option Nat->Qj->Nat->List Nat->List Nat->Option Rs
def FK(P:Program)(F:FuncId->Bool)(Xc:Wl)(fuel:Nat)(ih:H5)(c1:CF)(H1:Qj)(n1:Nat):Option Rs:=
 CF.rec (fun fn T todo ds mode ro=>CM.rec (Tm.rec (fun len tr=>ih n1 fn len tr todo ds ro H1 n1 [] []) T) (KQ P F Xc fuel n1 ⟨fn,T,todo,ds,.ret,ro⟩ H1 n1 [] []) (fun v=>KQ P F Xc fuel n1 ⟨fn,T,todo,ds,.Zj v,ro⟩ H1 n1 [] []) mode) c1
def HZ(P:Program)(F:FuncId->Bool)(Xc:Wl)(fuel:Nat)(ih:H5)(b:Nat)(c1:CF)(H1:Qj)(n1:Nat)(R W:List Nat):Option Rs:=
 CF.rec (fun fn T todo ds mode ro=>CM.rec (Tm.rec (fun len tr=>ih b fn len tr todo ds ro H1 n1 R W) T) (KQ P F Xc fuel b ⟨fn,T,todo,ds,.ret,ro⟩ H1 n1 R W) (fun v=>KQ P F Xc fuel b ⟨fn,T,todo,ds,.Zj v,ro⟩ H1 n1 R W) mode) c1
def resume(P:Program)(F:FuncId->Bool)(Xc:Wl)(fuel:Nat)(ih:H5)(b:Nat)(R W:List Nat)(x:Option FS):Option Rs:=
 Option.rec none (fun fs=>FS.rec (fun c' H' n' R' W'=>HZ P F Xc fuel ih b c' H' n' (Zt b R' R) (Zt b W' W)) (fun out H' n' R' W'=>some ⟨out,H',n',Zt b R' R,Zt b W' W⟩) fs) x
abbrev D1:=Program->(FuncId->Bool)->Wl->Nat->H5->Nat->FuncId->Nat->Tri->List Item->List Nat->Option Nat->Qj->Nat->List Nat->List Nat->Option Rs
def Pd(it:Item):D1:=fun P F Xc fuel ih b fn len tr k ds ro H n R W=>resume P F Xc fuel ih b R W (cC P F Xc (FK P F Xc fuel ih) ⟨fn,⟨len,tr⟩,it::k,ds,.run,ro⟩ H n)
def xe:D1:=fun _ _ _ _ ih b fn len tr k ds ro H n R W=>ih b fn len tr k ds ro H n R W
def HQ(x y:Code):D1:=fun _ _ _ _ ih b fn len tr k ds ro H n R W=>ih b fn len tr (.code x::.code y::k) ds ro H n R W
def Hu(q:Operand)(x y:Code):D1:=fun _ _ _ _ ih b fn len tr k ds ro H n R W=>Option.rec none (fun v=>Option.rec none (fun t=>LF (ih b fn len tr (.code y::k) ds ro H n R W) (ih b fn len tr (.code x::k) ds ro H n R W) t) (Jx v)) (Ri tr q)
def Gy(id:Nat)(x:Code):D1:=fun _ _ _ _ ih b fn len tr k ds ro H n R W=>ih b fn len tr (.code x::.inBlock id::k) ds ro H n R W
def Fy(x:Code):D1:=fun _ _ _ _ ih b fn len tr k ds ro H n R W=>ih b fn len tr (.code x::.inLoop x::k) ds ro H n R W
def Gx(x:Code):D1:=fun _ _ _ _ ih b fn len tr k ds ro H n R W=>ih b fn len tr (.code x::.inScope x::k) ds ro H n R W
def oD(id:Nat)(ops:Array Oper)(draw:Bool):D1:=fun P F Xc fuel ih b fn len tr k ds ro H n R W=>
 Option.rec none (fun p=>Prod.rec (fun Qq f=>RF.rec (fun T' H' n'=>LF none (Tm.rec (fun len' tr'=>ih b fn len' tr' k ds ro H' n' (GD b Qq R) (GC b Qq W)) T') (chk ops Qq draw))
  (fun T' v H' n' R1 W1=>resume P F Xc fuel ih b R W (FO ⟨fn,⟨len,tr⟩,.code (.region id ops draw)::k,ds,.run,ro⟩ ops draw k (some (Qq,.Zj T' v H' n' R1 W1)))) f) p) (Ad P F Xc (FK P F Xc fuel ih) len tr ops H n)
def codeF(cd:Code):D1:=Code.rec xe oD (fun x y _ _=>HQ x y) (fun q x y _ _=>Hu q x y) (fun id x _=>Gy id x) (fun x _=>Fy x) (fun f ps x y _ _=>Pd (.code (.rangeFunc f ps x y))) (fun id=>Pd (.code (.exit id))) (fun x _=>Gx x) (fun _=>xe) (fun l=>Pd (.code (.goto l))) (Pd (.code .ret)) (fun w=>Pd (.code (.refuse w))) cd
def Fx(it:Item):D1:=Item.rec codeF (fun _=>xe) Fy (fun _=>xe) (fun a b=>Pd (.inRegion a b)) (fun l=>Pd (.inRangeFunc l)) (fun l=>Pd (.endRangeFunc l)) (Pd .beginRound) (fun a b c d=>Pd (.call a b c d)) (fun a b=>Pd (.extern a b)) it
def Se(P:Program)(F:FuncId->Bool)(Xc:Wl)(fuel:Nat):H5:=Nat.rec (fun _ _ _ _ _ _ _ _ _ _ _=>none) (fun fuel ih b fn len tr todo ds ro H n R W=>
 List.rec (resume P F Xc fuel ih b R W (Jp ⟨fn,⟨len,tr⟩,[],ds,.run,ro⟩ H n none)) (fun it k _=>Fx it P F Xc fuel ih b fn len tr k ds ro H n R W) todo) fuel
theorem kF(P:Program)(F:FuncId->Bool)(Xc:Wl):∀(fuel b:Nat) (fn:FuncId) (len:Nat) (tr:Tri) (todo:List Item) (ds:List Nat) (ro:Option Nat) (H:Qj) (n:Nat) (R W:List Nat),Se P F Xc fuel b fn len tr todo ds ro H n R W=KQ P F Xc fuel b ⟨fn,⟨len,tr⟩,todo,ds,.run,ro⟩ H n R W
 |0,_,_,_,_,_,_,_,_,_,_,_=>rfl
 |fuel+1,b,fn,len,tr,todo,ds,ro,H,n,R,W=>by
  have hih:∀(b:Nat) (fn:FuncId) (len:Nat) (tr:Tri) (todo:List Item) (ds:List Nat) (ro:Option Nat) (H:Qj) (n:Nat) (R W:List Nat),Se P F Xc fuel b fn len tr todo ds ro H n R W=KQ P F Xc fuel b ⟨fn,⟨len,tr⟩,todo,ds,.run,ro⟩ H n R W:=kF P F Xc fuel;have Wu:FK P F Xc fuel (Se P F Xc fuel)=fun c1 H1 n1=>KQ P F Xc fuel n1 c1 H1 n1 [] []:=by
   funext c1 H1 n1;obtain⟨fn,⟨len,tr⟩,todo,ds,mode,ro⟩:=c1;cases mode with
   |run=>exact hih _ _ _ _ _ _ _ _ _ _ _
   |ret=>rfl
   |Zj v=>rfl
  have hres:∀(R W:List Nat) (x:Option FS),resume P F Xc fuel (Se P F Xc fuel) b R W x=match x with
   |some (.go c' H' n' R' W')=>KQ P F Xc fuel b c' H' n' (Zt b R' R) (Zt b W' W)
   |some (.done out H' n' R' W')=>some ⟨out,H',n',Zt b R' R,Zt b W' W⟩
   |none=>none:=by
   intro R W x;cases x with
   |none=>rfl
   |some fs=>
    cases fs with
    |done out H' n' R' W'=>rfl
    |go c' H' n' R' W'=>
     obtain⟨fn,⟨len,tr⟩,todo,ds,mode,ro⟩:=c';cases mode with
     |run=>exact hih _ _ _ _ _ _ _ _ _ _ _
     |ret=>rfl
     |Zj v=>rfl
  have hslow:∀(it:Item) (k:List Item),Pd it P F Xc fuel (Se P F Xc fuel) b fn len tr k ds ro H n R W=KQ P F Xc (fuel+1) b ⟨fn,⟨len,tr⟩,it::k,ds,.run,ro⟩ H n R W:=by
   intro it k;unfold Pd;rw[hres,Wu];rfl
  cases todo with
  |nil=>exact hres R W _
  |cons it k=>
   show Fx it P F Xc fuel (Se P F Xc fuel) b fn len tr k ds ro H n R W=_;cases it with
   |code cd=>
    cases cd with
    |skip=>exact hih _ _ _ _ _ _ _ _ _ _ _
    |label l=>exact hih _ _ _ _ _ _ _ _ _ _ _
    |seq x y=>exact hih _ _ _ _ _ _ _ _ _ _ _
    |block id x=>exact hih _ _ _ _ _ _ _ _ _ _ _
    |loop x=>exact hih _ _ _ _ _ _ _ _ _ _ _
    |scope x=>exact hih _ _ _ _ _ _ _ _ _ _ _
    |cond q x y=>
     show(Option.rec none (fun v=>Option.rec none (fun t=>LF (Se P F Xc fuel b fn len tr (.code y::k) ds ro H n R W) (Se P F Xc fuel b fn len tr (.code x::k) ds ro H n R W) t) (Jx v)) (Ri tr q):Option Rs)=_;rw[CS len tr,hih,hih];simp only[KQ,cC,dc,dd];cases X8 ⟨len,tr⟩ q with
     |none=>rfl
     |some v=>
      cases v with
      |bool t=>cases t <;> rfl
      |_=>rfl
    |region id ops draw=>
     show oD id ops draw P F Xc fuel (Se P F Xc fuel) b fn len tr k ds ro H n R W=_;unfold oD;rw[Ac,Wu];simp only[KQ,cC,dc,dd,xq,xp];cases hrr:Yv P F Xc (fun c1 H1 n1=>KQ P F Xc fuel n1 c1 H1 n1 [] []) ops ops.toList ⟨len,tr⟩ H n with
     |none=>rfl
     |some p=>
      obtain⟨Qq,f⟩:=p;cases f with
      |Zj v H' n' R1 W1=>exact hres R W _
      |ok T' H' n'=>
       have hck:=G8 (draw:=draw) (bT _ _ _ _ _ _ _ _ hrr);obtain⟨len',tr'⟩:=T';simp only[FO];rw[hck];cases !draw || (Wj 0 ops.toList && indep ops 0 Qq (KZ ops.toList []))with
       |false=>rfl
       |true=>exact hih _ _ _ _ _ _ _ _ _ _ _
    |rangeFunc f ps x y=>exact hslow _ k
    |exit id=>exact hslow _ k
    |goto id=>exact hslow _ k
    |ret=>exact hslow _ k
    |refuse w=>exact hslow (.code (.refuse w)) k
   |inBlock id=>exact hih _ _ _ _ _ _ _ _ _ _ _
   |inScope x=>exact hih _ _ _ _ _ _ _ _ _ _ _
   |inLoop x=>exact hih _ _ _ _ _ _ _ _ _ _ _
   |inRegion a b=>exact hslow _ k
   |inRangeFunc l=>exact hslow _ k
   |endRangeFunc l=>exact hslow _ k
   |beginRound=>exact hslow _ k
   |call a b c d=>exact hslow _ k
   |extern a b=>exact hslow _ k
end
end Go.CE
