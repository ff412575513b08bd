/- CE: the canonical machine a third time: by recursors alone where much time goes. -/
import Derived.Test.YtncjjangllkokaaZRM05
set_option linter.all false
open Bool renaming rec->LG
open Nat renaming beq->Lg,ble->LI,blt->Lp
open Array renaming getElem?_toList->Ln
namespace Go.CE
open Go Go.RowKit
noncomputable section

def bP(t:Tri):Nat->Value:=Tri.rec (fun _=>undef) (fun _ v _ gl gr k=>Nat.rec v (fun j _=>LG (gr (Nat.div j 2)) (gl (Nat.div j 2)) (Lg (Nat.mod j 2) 0)) k) t
theorem RE:∀(t:Tri) (k:Nat),bP t k=t.get k
 | .lf,k=>by cases k <;> rfl
 | .nd l v r,0=>rfl
 | .nd l v r,k+1=>by
   show(LG (bP r (k / 2)) (bP l (k / 2)) (Lg (k % 2) 0):Value)=bif Lg (k % 2) 0 then l.get (k / 2)else r.get (k / 2);rw[RE l,RE r];cases Lg (k % 2) 0 <;> rfl
def S1(f:Nat):Tri->Nat->Value->Tri:=Nat.rec (fun t _ _=>t) (fun _ ih t i x=>Tri.rec
 (Nat.rec (.nd .lf x .lf) (fun j _=>LG (.nd .lf undef (ih .lf (Nat.div j 2) x)) (.nd (ih .lf (Nat.div j 2) x) undef .lf) (Lg (Nat.mod j 2) 0)) i)
 (fun l v r _ _=>Nat.rec (.nd l x r) (fun j _=>LG (.nd l v (ih r (Nat.div j 2) x)) (.nd (ih l (Nat.div j 2) x) v r) (Lg (Nat.mod j 2) 0)) i) t) f
theorem RD:∀(f:Nat) (t:Tri) (i:Nat) (x:Value),S1 f t i x=Tri.set f t i x
 |0,_,_,_=>rfl
 |f+1,.lf,0,x=>rfl
 |f+1,.nd l v r,0,x=>rfl
 |f+1,.lf,k+1,x=>by
  show(LG (Tri.nd .lf undef (S1 f .lf (k / 2) x)) (Tri.nd (S1 f .lf (k / 2) x) undef .lf) (Lg (k % 2) 0):Tri)=bif Lg (k % 2) 0 then .nd (Tri.set f .lf (k / 2) x) undef .lf else .nd .lf undef (Tri.set f .lf (k / 2) x);rw[RD f];cases Lg (k % 2) 0 <;> rfl
 |f+1,.nd l v r,k+1,x=>by
  show(LG (Tri.nd l v (S1 f r (k / 2) x)) (Tri.nd (S1 f l (k / 2) x) v r) (Lg (k % 2) 0):Tri)=bif Lg (k % 2) 0 then .nd (Tri.set f l (k / 2) x) v r else .nd l v (Tri.set f r (k / 2) x);rw[RD f,RD f];cases Lg (k % 2) 0 <;> rfl
def Pm(tr:Tri)(x:Operand):Option Value:=Operand.rec (fun t=>some (bP tr t)) (fun v=>LG none (some v) (af v)) (fun _=>none) (fun f=>some (.func (.func f) #[] #[])) x
theorem BG(len:Nat)(tr:Tri):Pm tr=Zd ⟨len,tr⟩:=by
 funext x;cases x with
 |tmp t=>show some (bP tr t)=some (tr.get t);rw[RE]
 |const v=>show(LG none (some v) (af v):Option Value)=bif af v then some v else none;cases af v <;> rfl
 |global g=>rfl
 |func f=>rfl
def AI(tr:Tri)(d:Option Tmp)(v:Value):Tri:=Option.rec tr (fun d=>S1 14 tr d v) d
theorem vv(len:Nat)(tr:Tri)(d:Option Tmp)(v:Value):(⟨len,AI tr d v⟩:Tm)=Va ⟨len,tr⟩ d v:=by
 cases d with
 |none=>rfl
 |some d=>show(⟨len,S1 14 tr d v⟩:Tm)=⟨len,tr.set 14 d v⟩;rw[RD]
def Dc{α:Type}(l:List α):Nat->Option α:=List.rec (fun _=>none) (fun x _ ih k=>Nat.rec (some x) (fun j _=>ih j) k) l
theorem v8{α:Type}:∀(l:List α) (k:Nat),Dc l k=l[k]?
 |[],k=>by cases k <;> rfl
 |x::l,0=>rfl
 |x::l,k+1=>by show Dc l k=_;rw[v8 l k];rfl
def nQ(P:Program)(t:TypeId)(cs:Array Value)(off:Nat):Option Value:=
 Option.rec none (fun g=>LG (Dc cs.toList off) (Option.rec none (fun s=>LG none (some (.agg (cs.extract off (off+s)))) (LI (off+s) cs.size)) (Wl P t)) g) (kx P t)
theorem mq(P:Program)(t:TypeId)(cs:Array Value)(off:Nat):nQ P t cs off=UA P t cs off:=by
 unfold nQ UA;cases kx P t with
 |none=>rfl
 |some g=>
  cases g with
  |false=>show Dc cs.toList off=_;rw[v8,Ln]
  |true=>
   cases Wl P t with
   |none=>rfl
   |some s=>simp only;cases LI (off+s) cs.size <;> rfl
def nS(P:Program)(t:TypeId)(H:Q0)(p:Value):Option (Value×Nat):=match p with
 | .pointer (some ⟨b,off,none⟩)=>match Q4 H b with
   |some (.cells cs _ _)=>match nQ P t cs off with
    |some v=>some (v,b)
    |none=>none
   |_=>none
 |_=>none
theorem z0(P:Program)(t:TypeId)(H:Q0)(p:Value):nS P t H p=Jy P t H p:=by
 unfold nS Jy;simp only[mq];rfl
def oh(p:Value->Bool)(l:List Value):Bool:=List.rec true (fun x _ ih=>LG false ih (p x)) l
theorem aD(p:Value->Bool):∀(l:List Value),oh p l=l.all p
 |[]=>rfl
 |x::l=>by
  show(LG false (oh p l) (p x):Bool)=_;rw[aD p l,List.all_cons];cases p x <;> rfl
def Bn(cs:Array Value):Bool:=oh (·.oneCell') cs.toList
theorem Bm(cs:Array Value):Bn cs=ones cs:=by
 unfold Bn ones;rw[aD,Array.all_toList]
def EZ(v:Value):Bool:=match v with
 | .agg xs=>oh simple xs.toList
 |v=>simple v
theorem zZ(v:Value):EZ v=sa v:=by
 cases v <;> first|rfl|(show oh simple _=_;rw[aD,Array.all_toList];rfl)
def Gd(v:Value):Bool:=match v with
 | .agg xs=>oh simple xs.toList
 | .tuple xs=>oh EZ xs.toList
 | .iface _ v=>EZ v
 |v=>simple v
theorem EG(v:Value):Gd v=af v:=by
 cases v with
 |iface t v=>exact zZ v
 |tuple xs=>show oh EZ _=_;rw[show EZ=sa from funext zZ,aD,Array.all_toList];rfl
 |_=>first|rfl|(show oh simple _=_;rw[aD,Array.all_toList];rfl)
def ff(P:Program)(t:TypeId)(H:Q0)(v p:Value):Option (Q0×Nat):=match p with
 | .pointer (some ⟨b,off,none⟩)=>match Q4 H b with
   |some (.cells cs te (0,0))=>match Wl P t with
    |some s=>bif Lg v.cells.size s && Bn v.cells && LI (off+s) cs.size then some (WZ H b (.cells (splice cs off v.cells) te (0,0)),b)else none
    |none=>none
   |_=>none
 |_=>none
theorem uK(P:Program)(t:TypeId)(H:Q0)(v p:Value):ff P t H v p=YA P t H v p:=by
 unfold ff YA;simp only[Bm];rfl
def fh(P:Program)(t:TypeId)(f:Nat)(x:Value):Option Value:=match x with
 | .agg cs=>match YF P t with
   |some (.struct fields)=>match fields[f]? with
    |some fd=>nQ P fd.type cs fd.offset
    |none=>none
   |_=>none
 |_=>none
theorem uP(P:Program)(t:TypeId)(f:Nat)(x:Value):fh P t f x=cF P t f x:=by
 unfold fh cF;simp only[mq];rfl
def sg(ops:Array Oper)(tr:Tri)(j:Nat):Option Bool:=match nth ops.toList j with
 |some o=>match o.dst with
  |some t=>YC (bP tr t)
  |none=>none
 |none=>none
theorem vT(len:Nat)(ops:Array Oper)(tr:Tri)(j:Nat):sg ops tr j=XD ops ⟨len,tr⟩ j:=by
 unfold sg XD;simp only[RE,Zc];rfl
def ve(ops:Array Oper)(tr:Tri)(g:Option (Nat×Bool)):Bool:=Option.rec true (fun jw=>Prod.rec (fun j w=>Option.rec false (fun b=>LG (LG true false w) (LG false true w) b) (sg ops tr j)) jw) g
theorem zA(len:Nat)(ops:Array Oper)(tr:Tri)(o:Oper):ve ops tr o.guard=Region.wanted o (XD ops ⟨len,tr⟩):=by
 unfold ve Region.wanted;cases o.guard with
 |none=>rfl
 |some jw=>
  obtain⟨j,w⟩:=jw;simp only[vT len];cases XD ops ⟨len,tr⟩ j with
  |none=>rfl
  |some b=>cases b <;> cases w <;> rfl
abbrev kB:=Option (List Rec×RF)
abbrev KV:=Value->Q0->Nat->List Nat->List Nat->kB
abbrev z9:=Program->(FuncId->Bool)->W9->(CF->Q0->Nat->Option Rs)->Nat->Tri->Oper->Q0->Nat->KV->KV->kB
def fin(k kp:KV)(s:Option Rs):kB:=match s with
 |some ⟨out,H,n,R,W⟩=>match out with
  | .ret v=>k v H n R W
  | .ZW v=>kp v H n R W
 |none=>none
def pv(k:KV)(H:Q0)(n:Nat)(x:Option Value):kB:=Option.rec none (fun v=>k v H n [] []) x
theorem PN(k kp:KV)(H:Q0)(n:Nat)(x:Option Value):fin k kp (qV x H n)=pv k H n x:=by cases x <;> rfl
def DQ(x:Operand):z9:=fun _ _ _ _ _ tr _ H n k _=>pv k H n (Pm tr x)
def F3(c a b:Operand):z9:=fun _ _ _ _ _ tr _ H n k _=>Option.rec none (fun v=>Option.rec none (fun t=>LG (pv k H n (Pm tr b)) (pv k H n (Pm tr a)) t) (YC v)) (Pm tr c)
def F5(t:TypeId)(a:Operand):z9:=fun P _ _ _ _ tr _ H n k _=>Option.rec none (fun p=>Option.rec none (fun vb=>Prod.rec (fun v b=>LG none (k v H n [b] []) (Lp b n)) vb) (nS P t H p)) (Pm tr a)
def EJ(t:TypeId)(a x:Operand):z9:=fun P _ _ _ _ tr _ H n k _=>Option.rec none (fun p=>Option.rec none (fun v=>Option.rec none (fun hb=>Prod.rec (fun H' b=>LG none (k undef H' n [b] [b]) (Lp b n)) hb) (ff P t H v p)) (Pm tr x)) (Pm tr a)
def uZ(s:TypeId)(x:Operand)(f:Nat):z9:=fun P _ _ _ _ tr _ H n k _=>Option.rec none (fun p=>pv k H n (ZU P s f p)) (Pm tr x)
def EK(s:TypeId)(x:Operand)(f:Nat):z9:=fun P _ _ _ _ tr _ H n k _=>Option.rec none (fun p=>pv k H n (fh P s f p)) (Pm tr x)
def uY(t:TypeId)(x i:Operand):z9:=fun P _ _ _ _ tr _ H n k _=>Option.rec none (fun p=>Option.rec none (fun j=>pv k H n (US P t p j)) (Pm tr i)) (Pm tr x)
def Cm(x:Operand)(i:Nat):z9:=fun _ _ _ _ _ tr _ H n k _=>Option.rec none (fun p=>pv k H n (Jz i p)) (Pm tr x)
def FW(op:BinOp)(_:TypeId)(x y:Operand)(_:TypeId):z9:=fun P _ _ _ _ tr o H n k _=>Option.rec none (fun a=>Option.rec none (fun b=>Option.rec (pv k H n (V1 P (Pm tr) o)) (fun v=>k v H n [] []) (uR op a b)) (Pm tr y)) (Pm tr x)
def BL(v:Value)(r:CR)(k:KV)(H':Q0)(n':Nat)(R W:List Nat):kB:=List.rec (LG (k v H' n' (r.R++R) (r.W++[])) (k v r.H n' (r.R++R) (r.W++[])) (Gd v)) (fun _ _ _=>k v H' n' (r.R++R) (r.W++W)) W
def vN(r:CR)(k kp:KV)(s:Option Rs):kB:=Option.rec none (fun s=>Rs.rec (fun out H' n' R W=>OO.rec (fun v=>BL v r k H' n' R W) (fun v=>kp v H' n' (r.R++R) (r.W++W)) out) s) s
theorem Ci(r:CR)(k kp:KV)(s:Option Rs):vN r k kp s=fin k kp (match s with|some s=>AE r s|none=>none):=by
 cases s with
 |none=>rfl
 |some s=>
  obtain⟨out,H',n',R,W⟩:=s;cases out with
  |ZW v=>
   cases W with
   |nil=>rfl
   |cons a b=>rfl
  |ret v=>
   show BL v r k H' n' R W=_;unfold BL;cases W with
   |nil=>
    rw[EG];simp only[AE,UZ];cases af v <;> rfl
   |cons a b=>rfl
def nI(P:Program)(Xs:W9)(rec:CF->Q0->Nat->Option Rs)(g:FuncId)(args:Array Value)(r:CR)(k kp:KV):kB:=Option.rec (Option.rec none (fun c=>vN r k kp (rec c r.H r.n)) (ZM P g args)) (fun _=>fin k kp (mM P Xs rec g args r)) (Xs g args r.H r.n)
theorem zt(P:Program)(Xs:W9)(rec:CF->Q0->Nat->Option Rs)(g:FuncId)(args:Array Value)(r:CR)(k kp:KV):nI P Xs rec g args r k kp=fin k kp (mM P Xs rec g args r):=by
 unfold nI;cases ho:Xs g args r.H r.n with
 |some x=>rfl
 |none=>
  unfold mM;rw[ho];show(Option.rec none (fun c=>vN r k kp (rec c r.H r.n)) (ZM P g args):kB)=fin k kp (Em P rec g args r);unfold Em;cases ZM P g args with
  |none=>rfl
  |some c=>
   show vN r k kp (rec c r.H r.n)=_;rw[Ci];rfl
def BX(P:Program)(Xs:W9)(rec:CF->Q0->Nat->Option Rs)(n:Nat)(x:Option CR)(k kp:KV):kB:=Option.rec none (fun r=>CN.rec (fun _=>fin k kp (qR P Xs rec n (some r))) (fun g args=>LG none (nI P Xs rec g args r k kp) (r.R.all (fun i=>Lp i n))) (fun _ _ _ _ _=>fin k kp (qR P Xs rec n (some r))) r.nx) x
theorem BW(P:Program)(Xs:W9)(rec:CF->Q0->Nat->Option Rs)(n:Nat)(x:Option CR)(k kp:KV):BX P Xs rec n x k kp=fin k kp (qR P Xs rec n x):=by
 cases x with
 |none=>rfl
 |some r=>
  obtain⟨nx,H',n',R,W⟩:=r;cases nx with
  |val v=>rfl
  |round l fn tm a b=>rfl
  |enter g args=>
   show(LG none (nI P Xs rec g args ⟨.enter g args,H',n',R,W⟩ k kp) (R.all (fun i=>Lp i n)):kB)=_;rw[zt];simp only[qR];cases R.all (fun i=>Lp i n) <;> rfl
def F6(c:Call):z9:=fun P F Xs rec _ tr o H n k kp=>BX P Xs rec n (T0 P F (Pm tr) o c H n) k kp
def VS:z9:=fun P F Xs rec len tr o H n k kp=>fin k kp (ox P F Xs rec ⟨len,tr⟩ o H n)
def FT(op:Op):z9:=Op.rec DQ DQ F3 (fun _=>VS) (fun _ _=>VS) (fun _ _=>VS) (fun _ _ _=>VS) (fun _ _ _ _=>VS) F5 EJ (fun _=>VS) (fun _=>VS) (fun _=>VS) FW (fun _ _ _=>VS) (fun _ _ _=>VS) (fun _ _=>VS) (fun _ _=>VS)
 (fun _ _ _=>VS) (fun _ _=>VS) (fun _ _=>VS) (fun _ _ _=>VS) (fun _ _ _ _ _=>VS) uZ EK uY (fun _ _ _=>VS) (fun _ _ _ _=>VS) (fun _ _ _ _=>VS) (fun _ _ _=>VS) (fun _ _ _ _=>VS) (fun _ _=>VS) (fun _ _=>VS) (fun _=>VS) (fun _ _ _ _=>VS)
 Cm F6 (fun _=>VS) (fun _=>VS) (fun _=>VS) (fun _ _=>VS) (fun _ _ _=>VS) (fun _ _=>VS) op
theorem E0(P:Program)(F:FuncId->Bool)(Xs:W9)(rec:CF->Q0->Nat->Option Rs)(len:Nat)(tr:Tri)(o:Oper)(H:Q0)(n:Nat)(k kp:KV):FT o.op P F Xs rec len tr o H n k kp=fin k kp (ox P F Xs rec ⟨len,tr⟩ o H n):=by
 have e:=BG len tr;cases hp:o.op with
 |move x=>show pv k H n (Pm tr x)=_;rw[e];unfold ox;simp only[hp];exact(PN k kp H n _).symm
 |assign x=>show pv k H n (Pm tr x)=_;rw[e];unfold ox;simp only[hp];exact(PN k kp H n _).symm
 |pick c a b=>
  show(Option.rec none (fun v=>Option.rec none (fun t=>LG (pv k H n (Pm tr b)) (pv k H n (Pm tr a)) t) (YC v)) (Pm tr c):kB)=_;rw[e];unfold ox;simp only[hp];cases Zd ⟨len,tr⟩ c with
  |none=>rfl
  |some v=>
   cases v with
   |bool t=>cases t <;> exact(PN k kp H n _).symm
   |_=>rfl
 |load t a=>
  show(Option.rec none (fun p=>Option.rec none (fun vb=>Prod.rec (fun v b=>LG none (k v H n [b] []) (Lp b n)) vb) (nS P t H p)) (Pm tr a):kB)=_;simp only[z0];rw[e];unfold ox;simp only[hp];cases Zd ⟨len,tr⟩ a with
  |none=>rfl
  |some p=>
   simp only[A9];cases Jy P t H p with
   |none=>rfl
   |some vb=>
    obtain⟨v,b⟩:=vb;cases hb:Lp b n <;> simp[qR,fin,vt,hb]
 |store t a x=>
  show(Option.rec none (fun p=>Option.rec none (fun v=>Option.rec none (fun hb=>Prod.rec (fun H' b=>LG none (k undef H' n [b] [b]) (Lp b n)) hb) (ff P t H v p)) (Pm tr x)) (Pm tr a):kB)=_;simp only[uK];rw[e];unfold ox;simp only[hp];cases Zd ⟨len,tr⟩ a with
  |none=>rfl
  |some p=>
   cases Zd ⟨len,tr⟩ x with
   |none=>rfl
   |some v=>
    simp only[sI];cases YA P t H v p with
    |none=>rfl
    |some vb=>
     obtain⟨H',b⟩:=vb;cases hb:Lp b n <;> simp[qR,fin,vt,hb]
 |fieldAddr s x f=>
  show(Option.rec none (fun p=>pv k H n (ZU P s f p)) (Pm tr x):kB)=_;rw[e];unfold ox;simp only[hp];cases Zd ⟨len,tr⟩ x with
  |none=>rfl
  |some p=>simp only[S6,Yr];exact(PN k kp H n _).symm
 |field s x f=>
  show(Option.rec none (fun p=>pv k H n (fh P s f p)) (Pm tr x):kB)=_;simp only[uP];rw[e];unfold ox;simp only[hp];cases Zd ⟨len,tr⟩ x with
  |none=>rfl
  |some p=>simp only[sJ,Yr];exact(PN k kp H n _).symm
 |indexAddr t x i=>
  show(Option.rec none (fun p=>Option.rec none (fun j=>pv k H n (US P t p j)) (Pm tr i)) (Pm tr x):kB)=_;rw[e];unfold ox;simp only[hp];cases Zd ⟨len,tr⟩ x with
  |none=>rfl
  |some p=>
   cases Zd ⟨len,tr⟩ i with
   |none=>rfl
   |some j=>simp only[S5,Yr];exact(PN k kp H n _).symm
 |extract x i=>
  show(Option.rec none (fun p=>pv k H n (Jz i p)) (Pm tr x):kB)=_;rw[e];unfold ox;simp only[hp];cases Zd ⟨len,tr⟩ x with
  |none=>rfl
  |some p=>simp only[g8,Yr];exact(PN k kp H n _).symm
 |binOp op t x y t'=>
  show(Option.rec none (fun a=>Option.rec none (fun b=>Option.rec (pv k H n (V1 P (Pm tr) o)) (fun v=>k v H n [] []) (uR op a b)) (Pm tr y)) (Pm tr x):kB)=_;rw[e];unfold ox;simp only[hp];cases Zd ⟨len,tr⟩ x with
  |none=>rfl
  |some a=>
   cases Zd ⟨len,tr⟩ y with
   |none=>rfl
   |some b=>
    simp only[Ep];cases uR op a b with
    |none=>simp only[Yr];exact(PN k kp H n _).symm
    |some v=>rfl
 |call c=>show BX P Xs rec n (T0 P F (Pm tr) o c H n) k kp=_;rw[BW,e];unfold ox;simp only[hp]
 |_=>rfl
def vJ(r:Rec)(x:kB):kB:=Option.rec none (fun p=>Prod.rec (fun rs f=>some (r::rs,f)) p) x
def vm(P:Program)(F:FuncId->Bool)(Xs:W9)(rec:CF->Q0->Nat->Option Rs)(len:Nat)(ops:Array Oper)(l:List Oper):Tri->Q0->Nat->kB:=
 List.rec (fun tr H n=>some ([],.ok ⟨len,tr⟩ H n)) (fun o _ ih tr H n=>LG
  (vJ ⟨o,false,undef,⟨len,tr⟩,H,H,n,n,[],[]⟩ (ih (AI tr o.dst undef) H n))
  (FT o.op P F Xs rec len tr o H n (fun v H' n' R W=>vJ ⟨o,true,v,⟨len,tr⟩,H,H',n,n',R,W⟩ (ih (AI tr o.dst v) H' n')) (fun v H' n' R W=>some ([],.ZW ⟨len,tr⟩ v H' n' R W)))
  (ve ops tr o.guard)) l
def nJ(len:Nat)(l:List Oper):Bool:=l.all fun o=>Ye ⟨len,.lf⟩ o.dst
theorem oN(P:Program)(F:FuncId->Bool)(Xs:W9)(rec:CF->Q0->Nat->Option Rs)(len:Nat)(ops:Array Oper):∀(l:List Oper) (tr:Tri) (H:Q0) (n:Nat),nJ len l=true->vm P F Xs rec len ops l tr H n=KL P F Xs rec ops l ⟨len,tr⟩ H n
 |[],_,_,_,_=>rfl
 |o::l,tr,H,n,hd=>by
  simp only[nJ,List.all_cons,YB]at hd;have hd1:Ye ⟨len,tr⟩ o.dst=true:=by
   have:=hd.1;cases hq:o.dst with
   |none=>rfl
   |some x=>rw[hq]at this;exact this
  have ih:=oN P F Xs rec len ops l;show(LG (vJ ⟨o,false,undef,⟨len,tr⟩,H,H,n,n,[],[]⟩ (vm P F Xs rec len ops l (AI tr o.dst undef) H n))
   (FT o.op P F Xs rec len tr o H n (fun v H' n' R W=>vJ ⟨o,true,v,⟨len,tr⟩,H,H',n,n',R,W⟩ (vm P F Xs rec len ops l (AI tr o.dst v) H' n')) (fun v H' n' R W=>some ([],.ZW ⟨len,tr⟩ v H' n' R W)))
   (ve ops tr o.guard):kB)=_
  rw[zA len];simp only[KL,hd1,cond_true];cases Region.wanted o (XD ops ⟨len,tr⟩)with
  |false=>
   simp only[cond_false];rw[ih _ _ _ hd.2,vv];cases KL P F Xs rec ops l (Va ⟨len,tr⟩ o.dst undef) H n <;> rfl
  |true=>
   simp only[cond_true,E0];cases ox P F Xs rec ⟨len,tr⟩ o H n with
   |none=>rfl
   |some s=>
    obtain⟨out,H',n',R,W⟩:=s;cases out with
    |ZW v=>rfl
    |ret v=>
     simp only[fin];rw[ih _ _ _ hd.2,vv];cases KL P F Xs rec ops l (Va ⟨len,tr⟩ o.dst v) H' n' <;> rfl
def Pu(ops:Array Oper)(o:Oper)(k:Nat):List Oper->List (List Nat)->Bool
 |x::l,b::bs=>(b.contains k || o.apart ops x) && Pu ops o k l bs
 |[],_=>true
 |_::_,[]=>false
def stat(ops:Array Oper):Nat->List Oper->List (List Nat)->Bool
 |k,o::l,_::bs=>Pu ops o k l bs && stat ops (k+1) l bs
 |_,[],_=>true
 |_,_::_,[]=>false
def Sy(i:Nat)(l:List Nat):Bool:=List.rec false (fun j _ ih=>LG ih true (Lg i j)) l
theorem a8(i:Nat):∀(l:List Nat),Sy i l=l.contains i
 |[]=>rfl
 |j::l=>by
  show(LG (Sy i l) true (Lg i j):Bool)=_;rw[a8 i l,List.contains_cons];by_cases e:i=j
  ·subst e;rw[Nat.beq_refl];simp
  ·rw[Pf e];simp[e]
def nn(W R:List Nat):Bool:=List.rec false (fun i _ ih=>LG ih true (Sy i R)) W
theorem cu(R:List Nat):∀(W:List Nat),nn W R=W.any fun i=>R.contains i
 |[]=>rfl
 |i::W=>by
  show(LG (nn W R) true (Sy i R):Bool)=_;rw[cu R W,a8,List.any_cons];cases R.contains i <;> rfl
def oc(lo hi:Nat)(R:List Nat):Bool:=List.rec false (fun i _ ih=>LG ih (LG ih true (Lp i hi)) (LI lo i)) R
theorem m4(lo hi:Nat):∀(R:List Nat),oc lo hi R=R.any fun i=>LI lo i && Lp i hi
 |[]=>rfl
 |i::R=>by
  show(LG (oc lo hi R) (LG (oc lo hi R) true (Lp i hi)) (LI lo i):Bool)=_;rw[m4 lo hi R,List.any_cons];cases LI lo i <;> cases Lp i hi <;> rfl
def clear(r x:Rec):Bool:=LG (LG (LG true false (oc r.n r.n' x.R)) false (nn x.W r.R)) false (nn r.W x.R)
theorem uD{ops:Array Oper}{r x:Rec}(h:clear r x=true)(ha:r.o.apart ops x.o=true):tied ops r x=false:=by
 unfold clear at h;rw[m4,cu,cu]at h;unfold tied meets bears;rw[ha];revert h;cases r.W.any fun i=>x.R.contains i <;> cases x.W.any fun i=>r.R.contains i <;> cases x.R.any fun i=>LI r.n i && Lp i r.n' <;> simp
def Pd(r:Rec)(k:Nat)(l:List Rec):List (List Nat)->Bool:=List.rec (fun _=>true) (fun x _ ih bs=>List.rec false (fun b bs' _=>LG (LG false (ih bs') (Sy k b)) (ih bs') (clear r x)) bs) l
def dyn(l:List Rec):Nat->List (List Nat)->Bool:=List.rec (fun _ _=>true) (fun r l ih k bs=>List.rec false (fun _ bs' _=>LG false (ih (k+1) bs') (Pd r k l bs')) bs) l
theorem bS{ops:Array Oper}{r:Rec}(k:Nat):∀(l:List Rec) (bs:List (List Nat)),Pd r k l bs=true->Pu ops r.o k (l.map (·.o)) bs=true->Up ops r k l bs=true
 |[],_,_,_=>by simp[Up]
 |x::l,[],_,h=>by simp[Pu]at h
 |x::l,b::bs,hd,h=>by
  simp only[List.map_cons,Pu,YB,Bool.or_eq_true]at h;simp only[Up,YB,Bool.or_eq_true,Bool.not_eq_true'];have hd:(LG (LG false (Pd r k l bs) (Sy k b)) (Pd r k l bs) (clear r x):Bool)=true:=hd;cases hc:clear r x with
  |true=>
   rw[hc]at hd;exact⟨h.1.imp id fun ha=>uD hc ha,bS k l bs hd h.2⟩
  |false=>
   rw[hc]at hd;have hd:(LG false (Pd r k l bs) (Sy k b):Bool)=true:=hd;cases he:Sy k b with
   |false=>rw[he]at hd;cases hd
   |true=>
    rw[he]at hd;rw[a8]at he;exact⟨.inl he,bS k l bs hd h.2⟩
theorem fR{ops:Array Oper}:∀(l:List Rec) (bs:List (List Nat)) (k:Nat),dyn l k bs=true->stat ops k (l.map (·.o)) bs=true->indep ops k l bs=true
 |[],_,_,_,_=>by simp[indep]
 |x::l,[],_,_,h=>by simp[stat]at h
 |x::l,b::bs,k,hd,h=>by
  simp only[List.map_cons,stat,YB]at h;simp only[indep,YB];have hd:(LG false (dyn l (k+1) bs) (Pd x k l bs):Bool)=true:=hd;cases hc:Pd x k l bs with
  |false=>rw[hc]at hd;cases hd
  |true=>
   rw[hc]at hd;exact⟨bS k l bs hc h.1,fR l bs (k+1) hd h.2⟩
theorem bU{P:Program}{F:FuncId->Bool}{Xs:W9}{rec:CF->Q0->Nat->Option Rs}{ops:Array Oper}:∀(l:List Oper) (T:Tm) (H:Q0) (n:Nat) (Q6:List Rec) (T':Tm) (H':Q0) (n':Nat),KL P F Xs rec ops l T H n=some (Q6,.ok T' H' n')->Q6.map (·.o)=l
 |[],T,H,n,Q6,T',H',n',h=>by
  simp only[KL,YO,YR]at h;rw[<-h.1];rfl
 |o::l,T,H,n,Q6,T',H',n',h=>by
  simp only[KL]at h;have h:=UT h;cases hw:Region.wanted o (XD ops T)with
  |true=>
   rw[hw]at h;simp only[cond_true]at h;split at h
   ·split at h
    ·split at h
     ·rename_i rs f hr;simp only[YO,YR]at h;obtain⟨rfl,rfl⟩:=h;simp[bU l _ _ _ _ _ _ _ hr]
     ·cases h
    ·simp only[YO,YR]at h;cases h.2
   ·cases h
  |false=>
   rw[hw]at h;simp only[cond_false]at h;split at h
   ·rename_i rs f hr;simp only[YO,YR]at h;obtain⟨rfl,rfl⟩:=h;simp[bU l _ _ _ _ _ _ _ hr]
   ·cases h
def mE(ops:Array Oper):Bool:=W8 0 ops.toList && stat ops 0 ops.toList (K6 ops.toList [])
def chk(ops:Array Oper)(Q6:List Rec)(draw:Bool):Bool:=LG true (LG (W8 0 ops.toList && indep ops 0 Q6 (K6 ops.toList [])) (LG (W8 0 ops.toList && indep ops 0 Q6 (K6 ops.toList [])) true (dyn Q6 0 (K6 ops.toList []))) (mE ops)) draw
theorem ED{ops:Array Oper}{Q6:List Rec}{draw:Bool}(h:Q6.map (·.o)=ops.toList):chk ops Q6 draw=(!draw || (W8 0 ops.toList && indep ops 0 Q6 (K6 ops.toList []))):=by
 unfold chk;cases draw with
 |false=>rfl
 |true=>
  simp only[Bool.not_true,Bool.false_or];cases hs:mE ops with
  |false=>rfl
  |true=>
   cases hc:dyn Q6 0 (K6 ops.toList [])with
   |false=>rfl
   |true=>
    unfold mE at hs;simp only[YB]at hs;rw[hs.1,fR Q6 _ 0 hc (by rw[h];exact hs.2)];rfl
def dM(b:Nat)(l:List Nat):List Nat->List Nat:=List.rec (fun acc=>acc) (fun x _ ih acc=>LG (ih acc) (LG (ih (x::acc)) (ih acc) (Sy x acc)) (Lp x b)) l
theorem aE(b:Nat):∀(l acc:List Nat),dM b l acc=ZI b l acc
 |[],_=>rfl
 |x::l,acc=>by
  show(LG (dM b l acc) (LG (dM b l (x::acc)) (dM b l acc) (Sy x acc)) (Lp x b):List Nat)=_;rw[aE b l,aE b l,a8,ZI];cases Lp x b <;> cases acc.contains x <;> rfl
theorem kz(b:Nat):∀(l m acc:List Nat),ZI b (l++m) acc=ZI b m (ZI b l acc)
 |[],_,_=>rfl
 |x::l,m,acc=>by simp only[List.cons_append,ZI];exact kz b l m _
def EI(b:Nat)(Q6:List Rec):List Nat->List Nat:=List.rec (fun acc=>acc) (fun r _ ih acc=>ih (dM b r.R acc)) Q6
theorem vQ(b:Nat):∀(Q6:List Rec) (acc:List Nat),EI b Q6 acc=ZI b (UB Q6) acc
 |[],_=>rfl
 |r::l,acc=>by
  show EI b l (dM b r.R acc)=_;rw[vQ b l,aE,show UB (r::l)=r.R++UB l from List.flatMap_cons,kz]
def EH(b:Nat)(Q6:List Rec):List Nat->List Nat:=List.rec (fun acc=>acc) (fun r _ ih acc=>ih (dM b r.W acc)) Q6
theorem vP(b:Nat):∀(Q6:List Rec) (acc:List Nat),EH b Q6 acc=ZI b (Vl Q6) acc
 |[],_=>rfl
 |r::l,acc=>by
  show EH b l (dM b r.W acc)=_;rw[vP b l,aE,show Vl (r::l)=r.W++Vl l from List.flatMap_cons,kz]
def Ab(P:Program)(F:FuncId->Bool)(Xs:W9)(rec:CF->Q0->Nat->Option Rs)(len:Nat)(tr:Tri)(ops:Array Oper)(H:Q0)(n:Nat):kB:=
 LG (KL P F Xs rec ops ops.toList ⟨len,tr⟩ H n) (vm P F Xs rec len ops ops.toList tr H n) (nJ len ops.toList)
theorem Aa(P:Program)(F:FuncId->Bool)(Xs:W9)(rec:CF->Q0->Nat->Option Rs)(len:Nat)(tr:Tri)(ops:Array Oper)(H:Q0)(n:Nat):Ab P F Xs rec len tr ops H n=KL P F Xs rec ops ops.toList ⟨len,tr⟩ H n:=by
 unfold Ab;cases hd:nJ len ops.toList with
 |false=>rfl
 |true=>exact oN P F Xs rec len ops _ _ _ _ hd
abbrev F7:=Nat->FuncId->Nat->Tri->List Item->List Nat->Option Nat->Q0->Nat->List Nat->List Nat->Option Rs
def Eh(P:Program)(F:FuncId->Bool)(Xs:W9)(fuel:Nat)(ih:F7)(c1:CF)(H1:Q0)(n1:Nat):Option Rs:=
 CF.rec (fun fn T todo ds mode ro=>CM.rec (Tm.rec (fun len tr=>ih n1 fn len tr todo ds ro H1 n1 [] []) T) (Ku P F Xs fuel n1 ⟨fn,T,todo,ds,.ret,ro⟩ H1 n1 [] []) (fun v=>Ku P F Xs fuel n1 ⟨fn,T,todo,ds,.ZW v,ro⟩ H1 n1 [] []) mode) c1
def Gf(P:Program)(F:FuncId->Bool)(Xs:W9)(fuel:Nat)(ih:F7)(b:Nat)(c1:CF)(H1:Q0)(n1:Nat)(R W:List Nat):Option Rs:=
 CF.rec (fun fn T todo ds mode ro=>CM.rec (Tm.rec (fun len tr=>ih b fn len tr todo ds ro H1 n1 R W) T) (Ku P F Xs fuel b ⟨fn,T,todo,ds,.ret,ro⟩ H1 n1 R W) (fun v=>Ku P F Xs fuel b ⟨fn,T,todo,ds,.ZW v,ro⟩ H1 n1 R W) mode) c1
def resume(P:Program)(F:FuncId->Bool)(Xs:W9)(fuel:Nat)(ih:F7)(b:Nat)(R W:List Nat)(x:Option FS):Option Rs:=
 Option.rec none (fun fs=>FS.rec (fun c' H' n' R' W'=>Gf P F Xs fuel ih b c' H' n' (ZI b R' R) (ZI b W' W)) (fun out H' n' R' W'=>some ⟨out,H',n',ZI b R' R,ZI b W' W⟩) fs) x
abbrev Cq:=Program->(FuncId->Bool)->W9->Nat->F7->Nat->FuncId->Nat->Tri->List Item->List Nat->Option Nat->Q0->Nat->List Nat->List Nat->Option Rs
def Jl(it:Item):Cq:=fun P F Xs fuel ih b fn len tr k ds ro H n R W=>resume P F Xs fuel ih b R W (c6 P F Xs (Eh P F Xs fuel ih) ⟨fn,⟨len,tr⟩,it::k,ds,.run,ro⟩ H n)
def vD:Cq:=fun _ _ _ _ ih b fn len tr k ds ro H n R W=>ih b fn len tr k ds ro H n R W
def FU(x y:Code):Cq:=fun _ _ _ _ ih b fn len tr k ds ro H n R W=>ih b fn len tr (.code x::.code y::k) ds ro H n R W
def Fx(q:Operand)(x y:Code):Cq:=fun _ _ _ _ ih b fn len tr k ds ro H n R W=>Option.rec none (fun v=>Option.rec none (fun t=>LG (ih b fn len tr (.code y::k) ds ro H n R W) (ih b fn len tr (.code x::k) ds ro H n R W) t) (YC v)) (Pm tr q)
def E7(id:Nat)(x:Code):Cq:=fun _ _ _ _ ih b fn len tr k ds ro H n R W=>ih b fn len tr (.code x::.inBlock id::k) ds ro H n R W
def DO(x:Code):Cq:=fun _ _ _ _ ih b fn len tr k ds ro H n R W=>ih b fn len tr (.code x::.inLoop x::k) ds ro H n R W
def E6(x:Code):Cq:=fun _ _ _ _ ih b fn len tr k ds ro H n R W=>ih b fn len tr (.code x::.inScope x::k) ds ro H n R W
def nB(id:Nat)(ops:Array Oper)(draw:Bool):Cq:=fun P F Xs fuel ih b fn len tr k ds ro H n R W=>
 Option.rec none (fun p=>Prod.rec (fun Q6 f=>RF.rec (fun T' H' n'=>LG none (Tm.rec (fun len' tr'=>ih b fn len' tr' k ds ro H' n' (EI b Q6 R) (EH b Q6 W)) T') (chk ops Q6 draw))
  (fun T' v H' n' R1 W1=>resume P F Xs fuel ih b R W (El ⟨fn,⟨len,tr⟩,.code (.region id ops draw)::k,ds,.run,ro⟩ ops draw k (some (Q6,.ZW T' v H' n' R1 W1)))) f) p) (Ab P F Xs (Eh P F Xs fuel ih) len tr ops H n)
def codeF(cd:Code):Cq:=Code.rec vD nB (fun x y _ _=>FU x y) (fun q x y _ _=>Fx q x y) (fun id x _=>E7 id x) (fun x _=>DO x) (fun f ps x y _ _=>Jl (.code (.rangeFunc f ps x y))) (fun id=>Jl (.code (.exit id))) (fun x _=>E6 x) (fun _=>vD) (fun l=>Jl (.code (.goto l))) (Jl (.code .ret)) (fun w=>Jl (.code (.refuse w))) cd
def DN(it:Item):Cq:=Item.rec codeF (fun _=>vD) DO (fun _=>vD) (fun a b=>Jl (.inRegion a b)) (fun l=>Jl (.inRangeFunc l)) (fun l=>Jl (.endRangeFunc l)) (Jl .beginRound) (fun a b c d=>Jl (.call a b c d)) (fun a b=>Jl (.extern a b)) it
def PL(P:Program)(F:FuncId->Bool)(Xs:W9)(fuel:Nat):F7:=Nat.rec (fun _ _ _ _ _ _ _ _ _ _ _=>none) (fun fuel ih b fn len tr todo ds ro H n R W=>
 List.rec (resume P F Xs fuel ih b R W (Y6 ⟨fn,⟨len,tr⟩,[],ds,.run,ro⟩ H n none)) (fun it k _=>DN it P F Xs fuel ih b fn len tr k ds ro H n R W) todo) fuel
theorem jO(P:Program)(F:FuncId->Bool)(Xs:W9):∀(fuel b:Nat) (fn:FuncId) (len:Nat) (tr:Tri) (todo:List Item) (ds:List Nat) (ro:Option Nat) (H:Q0) (n:Nat) (R W:List Nat),PL P F Xs fuel b fn len tr todo ds ro H n R W=Ku P F Xs fuel b ⟨fn,⟨len,tr⟩,todo,ds,.run,ro⟩ H n R W
 |0,_,_,_,_,_,_,_,_,_,_,_=>rfl
 |fuel+1,b,fn,len,tr,todo,ds,ro,H,n,R,W=>by
  have hih:∀(b:Nat) (fn:FuncId) (len:Nat) (tr:Tri) (todo:List Item) (ds:List Nat) (ro:Option Nat) (H:Q0) (n:Nat) (R W:List Nat),PL P F Xs fuel b fn len tr todo ds ro H n R W=Ku P F Xs fuel b ⟨fn,⟨len,tr⟩,todo,ds,.run,ro⟩ H n R W:=jO P F Xs fuel;have WJ:Eh P F Xs fuel (PL P F Xs fuel)=fun c1 H1 n1=>Ku P F Xs fuel n1 c1 H1 n1 [] []:=by
   funext c1 H1 n1;obtain⟨fn,⟨len,tr⟩,todo,ds,mode,ro⟩:=c1;cases mode with
   |run=>exact hih _ _ _ _ _ _ _ _ _ _ _
   |ret=>rfl
   |ZW v=>rfl
  have hres:∀(R W:List Nat) (x:Option FS),resume P F Xs fuel (PL P F Xs fuel) b R W x=match x with
   |some (.go c' H' n' R' W')=>Ku P F Xs fuel b c' H' n' (ZI b R' R) (ZI b W' W)
   |some (.done out H' n' R' W')=>some ⟨out,H',n',ZI b R' R,ZI b W' W⟩
   |none=>none:=by
   intro R W x;cases x with
   |none=>rfl
   |some fs=>
    cases fs with
    |done out H' n' R' W'=>rfl
    |go c' H' n' R' W'=>
     obtain⟨fn,⟨len,tr⟩,todo,ds,mode,ro⟩:=c';cases mode with
     |run=>exact hih _ _ _ _ _ _ _ _ _ _ _
     |ret=>rfl
     |ZW v=>rfl
  have hslow:∀(it:Item) (k:List Item),Jl it P F Xs fuel (PL P F Xs fuel) b fn len tr k ds ro H n R W=Ku P F Xs (fuel+1) b ⟨fn,⟨len,tr⟩,it::k,ds,.run,ro⟩ H n R W:=by
   intro it k;unfold Jl;rw[hres,WJ];rfl
  cases todo with
  |nil=>exact hres R W _
  |cons it k=>
   show DN it P F Xs fuel (PL P F Xs fuel) b fn len tr k ds ro H n R W=_;cases it with
   |code cd=>
    cases cd with
    |skip=>exact hih _ _ _ _ _ _ _ _ _ _ _
    |label l=>exact hih _ _ _ _ _ _ _ _ _ _ _
    |seq x y=>exact hih _ _ _ _ _ _ _ _ _ _ _
    |block id x=>exact hih _ _ _ _ _ _ _ _ _ _ _
    |loop x=>exact hih _ _ _ _ _ _ _ _ _ _ _
    |scope x=>exact hih _ _ _ _ _ _ _ _ _ _ _
    |cond q x y=>
     show(Option.rec none (fun v=>Option.rec none (fun t=>LG (PL P F Xs fuel b fn len tr (.code y::k) ds ro H n R W) (PL P F Xs fuel b fn len tr (.code x::k) ds ro H n R W) t) (YC v)) (Pm tr q):Option Rs)=_;rw[BG len tr,hih,hih];simp only[Ku,c6,cR,cS];cases Zd ⟨len,tr⟩ q with
     |none=>rfl
     |some v=>
      cases v with
      |bool t=>cases t <;> rfl
      |_=>rfl
    |region id ops draw=>
     show nB id ops draw P F Xs fuel (PL P F Xs fuel) b fn len tr k ds ro H n R W=_;unfold nB;rw[Aa,WJ];simp only[Ku,c6,cR,cS,vQ,vP];cases hrr:KL P F Xs (fun c1 H1 n1=>Ku P F Xs fuel n1 c1 H1 n1 [] []) ops ops.toList ⟨len,tr⟩ H n with
     |none=>rfl
     |some p=>
      obtain⟨Q6,f⟩:=p;cases f with
      |ZW v H' n' R1 W1=>exact hres R W _
      |ok T' H' n'=>
       have hck:=ED (draw:=draw) (bU _ _ _ _ _ _ _ _ hrr);obtain⟨len',tr'⟩:=T';simp only[El];rw[hck];cases !draw || (W8 0 ops.toList && indep ops 0 Q6 (K6 ops.toList []))with
       |false=>rfl
       |true=>exact hih _ _ _ _ _ _ _ _ _ _ _
    |rangeFunc f ps x y=>exact hslow _ k
    |exit id=>exact hslow _ k
    |goto id=>exact hslow _ k
    |ret=>exact hslow _ k
    |refuse w=>exact hslow (.code (.refuse w)) k
   |inBlock id=>exact hih _ _ _ _ _ _ _ _ _ _ _
   |inScope x=>exact hih _ _ _ _ _ _ _ _ _ _ _
   |inLoop x=>exact hih _ _ _ _ _ _ _ _ _ _ _
   |inRegion a b=>exact hslow _ k
   |inRangeFunc l=>exact hslow _ k
   |endRangeFunc l=>exact hslow _ k
   |beginRound=>exact hslow _ k
   |call a b c d=>exact hslow _ k
   |extern a b=>exact hslow _ k
end
end Go.CE
