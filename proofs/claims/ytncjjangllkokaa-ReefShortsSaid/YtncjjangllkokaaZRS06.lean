/- CE: the canonical machine a third time: by recursors alone where much time goes. -/
import Derived.Test.YtncjjangllkokaaZRS05
set_option linter.all false
open Bool renaming rec->LP
open Nat renaming beq->Lk,ble->LO,blt->Ls
open Array renaming getElem?_toList->Lq
open List renaming flatMap_cons->L5
namespace Go.CE
open Go Go.RowKit
noncomputable section

def dx(t:Tri):Nat->Value:=Tri.rec (fun _=>undef) (fun _ v _ gl gr k=>Nat.rec v (fun j _=>LP (gr (Nat.div j 2)) (gl (Nat.div j 2)) (Lk (Nat.mod j 2) 0)) k) t
theorem T7:∀(t:Tri) (k:Nat),dx t k=t.get k
 | .lf,k=>by cases k <;> rfl
 | .nd l v r,0=>rfl
 | .nd l v r,k+1=>by
   show(LP (dx r (k / 2)) (dx l (k / 2)) (Lk (k % 2) 0):Value)=bif Lk (k % 2) 0 then l.get (k / 2)else r.get (k / 2);rw[T7 l,T7 r];cases Lk (k % 2) 0 <;> rfl
def aK(f:Nat):Tri->Nat->Value->Tri:=Nat.rec (fun t _ _=>t) (fun _ ih t i x=>Tri.rec
 (Nat.rec (.nd .lf x .lf) (fun j _=>LP (.nd .lf undef (ih .lf (Nat.div j 2) x)) (.nd (ih .lf (Nat.div j 2) x) undef .lf) (Lk (Nat.mod j 2) 0)) i)
 (fun l v r _ _=>Nat.rec (.nd l x r) (fun j _=>LP (.nd l v (ih r (Nat.div j 2) x)) (.nd (ih l (Nat.div j 2) x) v r) (Lk (Nat.mod j 2) 0)) i) t) f
theorem T6:∀(f:Nat) (t:Tri) (i:Nat) (x:Value),aK f t i x=Tri.set f t i x
 |0,_,_,_=>rfl
 |f+1,.lf,0,x=>rfl
 |f+1,.nd l v r,0,x=>rfl
 |f+1,.lf,k+1,x=>by
  show(LP (Tri.nd .lf undef (aK f .lf (k / 2) x)) (Tri.nd (aK f .lf (k / 2) x) undef .lf) (Lk (k % 2) 0):Tri)=bif Lk (k % 2) 0 then .nd (Tri.set f .lf (k / 2) x) undef .lf else .nd .lf undef (Tri.set f .lf (k / 2) x);rw[T6 f];cases Lk (k % 2) 0 <;> rfl
 |f+1,.nd l v r,k+1,x=>by
  show(LP (Tri.nd l v (aK f r (k / 2) x)) (Tri.nd (aK f l (k / 2) x) v r) (Lk (k % 2) 0):Tri)=bif Lk (k % 2) 0 then .nd (Tri.set f l (k / 2) x) v r else .nd l v (Tri.set f r (k / 2) x);rw[T6 f,T6 f];cases Lk (k % 2) 0 <;> rfl
def SK(tr:Tri)(x:Operand):Option Value:=Operand.rec (fun t=>some (dx tr t)) (fun v=>LP none (some v) (af v)) (fun _=>none) (fun f=>some (.func (.func f) #[] #[])) x
theorem D0(len:Nat)(tr:Tri):SK tr=Zp ⟨len,tr⟩:=by
 funext x;cases x with
 |tmp t=>show some (dx tr t)=some (tr.get t);rw[T7]
 |const v=>show(LP none (some v) (af v):Option Value)=bif af v then some v else none;cases af v <;> rfl
 |global g=>rfl
 |func f=>rfl
def Co(tr:Tri)(d:Option Tmp)(v:Value):Tri:=Option.rec tr (fun d=>aK 14 tr d v) d
theorem xO(len:Nat)(tr:Tri)(d:Option Tmp)(v:Value):(⟨len,Co tr d v⟩:Tm)=V3 ⟨len,tr⟩ d v:=by
 cases d with
 |none=>rfl
 |some d=>show(⟨len,aK 14 tr d v⟩:Tm)=⟨len,tr.set 14 d v⟩;rw[T6]
def Ft{α:Type}(l:List α):Nat->Option α:=List.rec (fun _=>none) (fun x _ ih k=>Nat.rec (some x) (fun j _=>ih j) k) l
theorem xT{α:Type}:∀(l:List α) (k:Nat),Ft l k=l[k]?
 |[],k=>by cases k <;> rfl
 |x::l,0=>rfl
 |x::l,k+1=>by show Ft l k=_;rw[xT l k];rfl
def qp(P:Program)(t:TypeId)(cs:Array Value)(off:Nat):Option Value:=
 Option.rec none (fun g=>LP (Ft cs.toList off) (Option.rec none (fun s=>LP none (some (.agg (cs.extract off (off+s)))) (LO (off+s) cs.size)) (WQ P t)) g) (m9 P t)
theorem oo(P:Program)(t:TypeId)(cs:Array Value)(off:Nat):qp P t cs off=KD P t cs off:=by
 unfold qp KD;cases m9 P t with
 |none=>rfl
 |some g=>
  cases g with
  |false=>show Ft cs.toList off=_;rw[xT,Lq]
  |true=>
   cases WQ P t with
   |none=>rfl
   |some s=>simp only;cases LO (off+s) cs.size <;> rfl
def qt(P:Program)(t:TypeId)(H:Qr)(p:Value):Option (Value×Nat):=match p with
 | .pointer (some ⟨b,off,none⟩)=>match Qu H b with
   |some (.cells cs _ _)=>match qp P t cs off with
    |some v=>some (v,b)
    |none=>none
   |_=>none
 |_=>none
theorem Ap(P:Program)(t:TypeId)(H:Qr)(p:Value):qt P t H p=RH P t H p:=by
 unfold qt RH;simp only[oo];rfl
def qD(p:Value->Bool)(l:List Value):Bool:=List.rec true (fun x _ ih=>LP false ih (p x)) l
theorem dv(p:Value->Bool):∀(l:List Value),qD p l=l.all p
 |[]=>rfl
 |x::l=>by
  show(LP false (qD p l) (p x):Bool)=_;rw[dv p l,List.all_cons];cases p x <;> rfl
def CL(cs:Array Value):Bool:=qD (·.oneCell') cs.toList
theorem CK(cs:Array Value):CL cs=ones cs:=by
 unfold CL ones;rw[dv,Array.all_toList]
def HQ(v:Value):Bool:=match v with
 | .agg xs=>qD simple xs.toList
 |v=>simple v
theorem AH(v:Value):HQ v=sa v:=by
 cases v <;> first|rfl|(show qD simple _=_;rw[dv,Array.all_toList];rfl)
def IT(v:Value):Bool:=match v with
 | .agg xs=>qD simple xs.toList
 | .tuple xs=>qD HQ xs.toList
 | .iface _ v=>HQ v
 |v=>simple v
theorem HB(v:Value):IT v=af v:=by
 cases v with
 |iface t v=>exact AH v
 |tuple xs=>show qD HQ _=_;rw[show HQ=sa from funext AH,dv,Array.all_toList];rfl
 |_=>first|rfl|(show qD simple _=_;rw[dv,Array.all_toList];rfl)
def hP(P:Program)(t:TypeId)(H:Qr)(v p:Value):Option (Qr×Nat):=match p with
 | .pointer (some ⟨b,off,none⟩)=>match Qu H b with
   |some (.cells cs te (0,0))=>match WQ P t with
    |some s=>bif Lk v.cells.size s && CL v.cells && LO (off+s) cs.size then some (VD H b (.cells (splice cs off v.cells) te (0,0)),b)else none
    |none=>none
   |_=>none
 |_=>none
theorem xh(P:Program)(t:TypeId)(H:Qr)(v p:Value):hP P t H v p=PA P t H v p:=by
 unfold hP PA;simp only[CK];rfl
def hY(P:Program)(t:TypeId)(f:Nat)(x:Value):Option Value:=match x with
 | .agg cs=>match JO P t with
   |some (.struct fields)=>match fields[f]? with
    |some fd=>qp P fd.type cs fd.offset
    |none=>none
   |_=>none
 |_=>none
theorem xm(P:Program)(t:TypeId)(f:Nat)(x:Value):hY P t f x=eH P t f x:=by
 unfold hY eH;simp only[oo];rfl
def vg(ops:Array Oper)(tr:Tri)(j:Nat):Option Bool:=match nth ops.toList j with
 |some o=>match o.dst with
  |some t=>PB (dx tr t)
  |none=>none
 |none=>none
theorem yv(len:Nat)(ops:Array Oper)(tr:Tri)(j:Nat):vg ops tr j=XR ops ⟨len,tr⟩ j:=by
 unfold vg XR;simp only[T7,XJ];rfl
def x9(ops:Array Oper)(tr:Tri)(g:Option (Nat×Bool)):Bool:=Option.rec true (fun jw=>Prod.rec (fun j w=>Option.rec false (fun b=>LP (LP true false w) (LP false true w) b) (vg ops tr j)) jw) g
theorem Ay(len:Nat)(ops:Array Oper)(tr:Tri)(o:Oper):x9 ops tr o.guard=Region.wanted o (XR ops ⟨len,tr⟩):=by
 unfold x9 Region.wanted;cases o.guard with
 |none=>rfl
 |some jw=>
  obtain⟨j,w⟩:=jw;simp only[yv len];cases XR ops ⟨len,tr⟩ j with
  |none=>rfl
  |some b=>cases b <;> cases w <;> rfl
abbrev mF:=Option (List Rec×RF)
abbrev KV:=Value->Qr->Nat->List Nat->List Nat->mF
abbrev Ax:=Program->(FuncId->Bool)->Vn->(CF->Qr->Nat->Option Rs)->Nat->Tri->Oper->Qr->Nat->KV->KV->mF
def fin(k kp:KV)(s:Option Rs):mF:=match s with
 |some ⟨out,H,n,R,W⟩=>match out with
  | .ret v=>k v H n R W
  | .ZO v=>kp v H n R W
 |none=>none
def pv(k:KV)(H:Qr)(n:Nat)(x:Option Value):mF:=Option.rec none (fun v=>k v H n [] []) x
theorem Tz(k kp:KV)(H:Qr)(n:Nat)(x:Option Value):fin k kp (qV x H n)=pv k H n x:=by cases x <;> rfl
def G3(x:Operand):Ax:=fun _ _ _ _ _ tr _ H n k _=>pv k H n (SK tr x)
def Iw(c a b:Operand):Ax:=fun _ _ _ _ _ tr _ H n k _=>Option.rec none (fun v=>Option.rec none (fun t=>LP (pv k H n (SK tr b)) (pv k H n (SK tr a)) t) (PB v)) (SK tr c)
def Ix(t:TypeId)(a:Operand):Ax:=fun P _ _ _ _ tr _ H n k _=>Option.rec none (fun p=>Option.rec none (fun vb=>Prod.rec (fun v b=>LP none (k v H n [b] []) (Ls b n)) vb) (qt P t H p)) (SK tr a)
def HE(t:TypeId)(a x:Operand):Ax:=fun P _ _ _ _ tr _ H n k _=>Option.rec none (fun p=>Option.rec none (fun v=>Option.rec none (fun hb=>Prod.rec (fun H' b=>LP none (k undef H' n [b] [b]) (Ls b n)) hb) (hP P t H v p)) (SK tr x)) (SK tr a)
def xz(s:TypeId)(x:Operand)(f:Nat):Ax:=fun P _ _ _ _ tr _ H n k _=>Option.rec none (fun p=>pv k H n (WA P s f p)) (SK tr x)
def HF(s:TypeId)(x:Operand)(f:Nat):Ax:=fun P _ _ _ _ tr _ H n k _=>Option.rec none (fun p=>pv k H n (hY P s f p)) (SK tr x)
def xy(t:TypeId)(x i:Operand):Ax:=fun P _ _ _ _ tr _ H n k _=>Option.rec none (fun p=>Option.rec none (fun j=>pv k H n (KX P t p j)) (SK tr i)) (SK tr x)
def DU(x:Operand)(i:Nat):Ax:=fun _ _ _ _ _ tr _ H n k _=>Option.rec none (fun p=>pv k H n (RI i p)) (SK tr x)
def IN(op:BinOp)(_:TypeId)(x y:Operand)(_:TypeId):Ax:=fun P _ _ _ _ tr o H n k _=>Option.rec none (fun a=>Option.rec none (fun b=>Option.rec (pv k H n (Uw P (SK tr) o)) (fun v=>k v H n [] []) (xo op a b)) (SK tr y)) (SK tr x)
def D5(v:Value)(r:CR)(k:KV)(H':Qr)(n':Nat)(R W:List Nat):mF:=List.rec (LP (k v H' n' (r.R++R) (r.W++[])) (k v r.H n' (r.R++R) (r.W++[])) (IT v)) (fun _ _ _=>k v H' n' (r.R++R) (r.W++W)) W
def ym(r:CR)(k kp:KV)(s:Option Rs):mF:=Option.rec none (fun s=>Rs.rec (fun out H' n' R W=>OO.rec (fun v=>D5 v r k H' n' R W) (fun v=>kp v H' n' (r.R++R) (r.W++W)) out) s) s
theorem DQ(r:CR)(k kp:KV)(s:Option Rs):ym r k kp s=fin k kp (match s with|some s=>Ck r s|none=>none):=by
 cases s with
 |none=>rfl
 |some s=>
  obtain⟨out,H',n',R,W⟩:=s;cases out with
  |ZO v=>
   cases W with
   |nil=>rfl
   |cons a b=>rfl
  |ret v=>
   show D5 v r k H' n' R W=_;unfold D5;cases W with
   |nil=>
    rw[HB];simp only[Ck,Ya];cases af v <;> rfl
   |cons a b=>rfl
def qi(P:Program)(Xz:Vn)(rec:CF->Qr->Nat->Option Rs)(g:FuncId)(args:Array Value)(r:CR)(k kp:KV):mF:=Option.rec (Option.rec none (fun c=>ym r k kp (rec c r.H r.n)) (Wz P g args)) (fun _=>fin k kp (oH P Xz rec g args r)) (Xz g args r.H r.n)
theorem Aj(P:Program)(Xz:Vn)(rec:CF->Qr->Nat->Option Rs)(g:FuncId)(args:Array Value)(r:CR)(k kp:KV):qi P Xz rec g args r k kp=fin k kp (oH P Xz rec g args r):=by
 unfold qi;cases ho:Xz g args r.H r.n with
 |some x=>rfl
 |none=>
  unfold oH;rw[ho];show(Option.rec none (fun c=>ym r k kp (rec c r.H r.n)) (Wz P g args):mF)=fin k kp (GV P rec g args r);unfold GV;cases Wz P g args with
  |none=>rfl
  |some c=>
   show ym r k kp (rec c r.H r.n)=_;rw[DQ];rfl
def DG(P:Program)(Xz:Vn)(rec:CF->Qr->Nat->Option Rs)(n:Nat)(x:Option CR)(k kp:KV):mF:=Option.rec none (fun r=>CN.rec (fun _=>fin k kp (qR P Xz rec n (some r))) (fun g args=>LP none (qi P Xz rec g args r k kp) (r.R.all (fun i=>Ls i n))) (fun _ _ _ _ _=>fin k kp (qR P Xz rec n (some r))) r.nx) x
theorem DF(P:Program)(Xz:Vn)(rec:CF->Qr->Nat->Option Rs)(n:Nat)(x:Option CR)(k kp:KV):DG P Xz rec n x k kp=fin k kp (qR P Xz rec n x):=by
 cases x with
 |none=>rfl
 |some r=>
  obtain⟨nx,H',n',R,W⟩:=r;cases nx with
  |val v=>rfl
  |round l fn tm a b=>rfl
  |enter g args=>
   show(LP none (qi P Xz rec g args ⟨.enter g args,H',n',R,W⟩ k kp) (R.all (fun i=>Ls i n)):mF)=_;rw[Aj];simp only[qR];cases R.all (fun i=>Ls i n) <;> rfl
def Iy(c:Call):Ax:=fun P F Xz rec _ tr o H n k kp=>DG P Xz rec n (cm P F (SK tr) o c H n) k kp
def UT:Ax:=fun P F Xz rec len tr o H n k kp=>fin k kp (qK P F Xz rec ⟨len,tr⟩ o H n)
def IJ(op:Op):Ax:=Op.rec G3 G3 Iw (fun _=>UT) (fun _ _=>UT) (fun _ _=>UT) (fun _ _ _=>UT) (fun _ _ _ _=>UT) Ix HE (fun _=>UT) (fun _=>UT) (fun _=>UT) IN (fun _ _ _=>UT) (fun _ _ _=>UT) (fun _ _=>UT) (fun _ _=>UT)
 (fun _ _ _=>UT) (fun _ _=>UT) (fun _ _=>UT) (fun _ _ _=>UT) (fun _ _ _ _ _=>UT) xz HF xy (fun _ _ _=>UT) (fun _ _ _ _=>UT) (fun _ _ _ _=>UT) (fun _ _ _=>UT) (fun _ _ _ _=>UT) (fun _ _=>UT) (fun _ _=>UT) (fun _=>UT) (fun _ _ _ _=>UT)
 DU Iy (fun _=>UT) (fun _=>UT) (fun _=>UT) (fun _ _=>UT) (fun _ _ _=>UT) (fun _ _=>UT) op
theorem Hp(P:Program)(F:FuncId->Bool)(Xz:Vn)(rec:CF->Qr->Nat->Option Rs)(len:Nat)(tr:Tri)(o:Oper)(H:Qr)(n:Nat)(k kp:KV):IJ o.op P F Xz rec len tr o H n k kp=fin k kp (qK P F Xz rec ⟨len,tr⟩ o H n):=by
 have e:=D0 len tr;cases hp:o.op with
 |move x=>show pv k H n (SK tr x)=_;rw[e];unfold qK;simp only[hp];exact(Tz k kp H n _).symm
 |assign x=>show pv k H n (SK tr x)=_;rw[e];unfold qK;simp only[hp];exact(Tz k kp H n _).symm
 |pick c a b=>
  show(Option.rec none (fun v=>Option.rec none (fun t=>LP (pv k H n (SK tr b)) (pv k H n (SK tr a)) t) (PB v)) (SK tr c):mF)=_;rw[e];unfold qK;simp only[hp];cases Zp ⟨len,tr⟩ c with
  |none=>rfl
  |some v=>
   cases v with
   |bool t=>cases t <;> exact(Tz k kp H n _).symm
   |_=>rfl
 |load t a=>
  show(Option.rec none (fun p=>Option.rec none (fun vb=>Prod.rec (fun v b=>LP none (k v H n [b] []) (Ls b n)) vb) (qt P t H p)) (SK tr a):mF)=_;simp only[Ap];rw[e];unfold qK;simp only[hp];cases Zp ⟨len,tr⟩ a with
  |none=>rfl
  |some p=>
   simp only[Cg];cases RH P t H p with
   |none=>rfl
   |some vb=>
    obtain⟨v,b⟩:=vb;cases hb:Ls b n <;> simp[qR,fin,xM,hb]
 |store t a x=>
  show(Option.rec none (fun p=>Option.rec none (fun v=>Option.rec none (fun hb=>Prod.rec (fun H' b=>LP none (k undef H' n [b] [b]) (Ls b n)) hb) (hP P t H v p)) (SK tr x)) (SK tr a):mF)=_;simp only[xh];rw[e];unfold qK;simp only[hp];cases Zp ⟨len,tr⟩ a with
  |none=>rfl
  |some p=>
   cases Zp ⟨len,tr⟩ x with
   |none=>rfl
   |some v=>
    simp only[vF];cases PA P t H v p with
    |none=>rfl
    |some vb=>
     obtain⟨H',b⟩:=vb;cases hb:Ls b n <;> simp[qR,fin,xM,hb]
 |fieldAddr s x f=>
  show(Option.rec none (fun p=>pv k H n (WA P s f p)) (SK tr x):mF)=_;rw[e];unfold qK;simp only[hp];cases Zp ⟨len,tr⟩ x with
  |none=>rfl
  |some p=>simp only[aP,Pg];exact(Tz k kp H n _).symm
 |field s x f=>
  show(Option.rec none (fun p=>pv k H n (hY P s f p)) (SK tr x):mF)=_;simp only[xm];rw[e];unfold qK;simp only[hp];cases Zp ⟨len,tr⟩ x with
  |none=>rfl
  |some p=>simp only[vG,Pg];exact(Tz k kp H n _).symm
 |indexAddr t x i=>
  show(Option.rec none (fun p=>Option.rec none (fun j=>pv k H n (KX P t p j)) (SK tr i)) (SK tr x):mF)=_;rw[e];unfold qK;simp only[hp];cases Zp ⟨len,tr⟩ x with
  |none=>rfl
  |some p=>
   cases Zp ⟨len,tr⟩ i with
   |none=>rfl
   |some j=>simp only[aO,Pg];exact(Tz k kp H n _).symm
 |extract x i=>
  show(Option.rec none (fun p=>pv k H n (RI i p)) (SK tr x):mF)=_;rw[e];unfold qK;simp only[hp];cases Zp ⟨len,tr⟩ x with
  |none=>rfl
  |some p=>simp only[jf,Pg];exact(Tz k kp H n _).symm
 |binOp op t x y t'=>
  show(Option.rec none (fun a=>Option.rec none (fun b=>Option.rec (pv k H n (Uw P (SK tr) o)) (fun v=>k v H n [] []) (xo op a b)) (SK tr y)) (SK tr x):mF)=_;rw[e];unfold qK;simp only[hp];cases Zp ⟨len,tr⟩ x with
  |none=>rfl
  |some a=>
   cases Zp ⟨len,tr⟩ y with
   |none=>rfl
   |some b=>
    simp only[GY];cases xo op a b with
    |none=>simp only[Pg];exact(Tz k kp H n _).symm
    |some v=>rfl
 |call c=>show DG P Xz rec n (cm P F (SK tr) o c H n) k kp=_;rw[DF,e];unfold qK;simp only[hp]
 |_=>rfl
def yi(r:Rec)(x:mF):mF:=Option.rec none (fun p=>Prod.rec (fun rs f=>some (r::rs,f)) p) x
def xH(P:Program)(F:FuncId->Bool)(Xz:Vn)(rec:CF->Qr->Nat->Option Rs)(len:Nat)(ops:Array Oper)(l:List Oper):Tri->Qr->Nat->mF:=
 List.rec (fun tr H n=>some ([],.ok ⟨len,tr⟩ H n)) (fun o _ ih tr H n=>LP
  (yi ⟨o,false,undef,⟨len,tr⟩,H,H,n,n,[],[]⟩ (ih (Co tr o.dst undef) H n))
  (IJ o.op P F Xz rec len tr o H n (fun v H' n' R W=>yi ⟨o,true,v,⟨len,tr⟩,H,H',n,n',R,W⟩ (ih (Co tr o.dst v) H' n')) (fun v H' n' R W=>some ([],.ZO ⟨len,tr⟩ v H' n' R W)))
  (x9 ops tr o.guard)) l
def qj(len:Nat)(l:List Oper):Bool:=l.all fun o=>JH ⟨len,.lf⟩ o.dst
theorem rq(P:Program)(F:FuncId->Bool)(Xz:Vn)(rec:CF->Qr->Nat->Option Rs)(len:Nat)(ops:Array Oper):∀(l:List Oper) (tr:Tri) (H:Qr) (n:Nat),qj len l=true->xH P F Xz rec len ops l tr H n=Jp P F Xz rec ops l ⟨len,tr⟩ H n
 |[],_,_,_,_=>rfl
 |o::l,tr,H,n,hd=>by
  simp only[qj,List.all_cons,YB]at hd;have hd1:JH ⟨len,tr⟩ o.dst=true:=by
   have:=hd.1;cases hq:o.dst with
   |none=>rfl
   |some x=>rw[hq]at this;exact this
  have ih:=rq P F Xz rec len ops l;show(LP (yi ⟨o,false,undef,⟨len,tr⟩,H,H,n,n,[],[]⟩ (xH P F Xz rec len ops l (Co tr o.dst undef) H n))
   (IJ o.op P F Xz rec len tr o H n (fun v H' n' R W=>yi ⟨o,true,v,⟨len,tr⟩,H,H',n,n',R,W⟩ (xH P F Xz rec len ops l (Co tr o.dst v) H' n')) (fun v H' n' R W=>some ([],.ZO ⟨len,tr⟩ v H' n' R W)))
   (x9 ops tr o.guard):mF)=_
  rw[Ay len];simp only[Jp,hd1,cond_true];cases Region.wanted o (XR ops ⟨len,tr⟩)with
  |false=>
   simp only[cond_false];rw[ih _ _ _ hd.2,xO];cases Jp P F Xz rec ops l (V3 ⟨len,tr⟩ o.dst undef) H n <;> rfl
  |true=>
   simp only[cond_true,Hp];cases qK P F Xz rec ⟨len,tr⟩ o H n with
   |none=>rfl
   |some s=>
    obtain⟨out,H',n',R,W⟩:=s;cases out with
    |ZO v=>rfl
    |ret v=>
     simp only[fin];rw[ih _ _ _ hd.2,xO];cases Jp P F Xz rec ops l (V3 ⟨len,tr⟩ o.dst v) H' n' <;> rfl
def SO(ops:Array Oper)(o:Oper)(k:Nat):List Oper->List (List Nat)->Bool
 |x::l,b::bs=>(b.contains k || o.apart ops x) && SO ops o k l bs
 |[],_=>true
 |_::_,[]=>false
def stat(ops:Array Oper):Nat->List Oper->List (List Nat)->Bool
 |k,o::l,_::bs=>SO ops o k l bs && stat ops (k+1) l bs
 |_,[],_=>true
 |_,_::_,[]=>false
def aD(i:Nat)(l:List Nat):Bool:=List.rec false (fun j _ ih=>LP ih true (Lk i j)) l
theorem dr(i:Nat):∀(l:List Nat),aD i l=l.contains i
 |[]=>rfl
 |j::l=>by
  show(LP (aD i l) true (Lk i j):Bool)=_;rw[dr i l,List.contains_cons];by_cases e:i=j
  ·subst e;rw[Nat.beq_refl];simp
  ·rw[SB e];simp[e]
def py(W R:List Nat):Bool:=List.rec false (fun i _ ih=>LP ih true (aD i R)) W
theorem eo(R:List Nat):∀(W:List Nat),py W R=W.any fun i=>R.contains i
 |[]=>rfl
 |i::W=>by
  show(LP (py W R) true (aD i R):Bool)=_;rw[eo R W,dr,List.any_cons];cases R.contains i <;> rfl
def qA(lo hi:Nat)(R:List Nat):Bool:=List.rec false (fun i _ ih=>LP ih (LP ih true (Ls i hi)) (LO lo i)) R
theorem oy(lo hi:Nat):∀(R:List Nat),qA lo hi R=R.any fun i=>LO lo i && Ls i hi
 |[]=>rfl
 |i::R=>by
  show(LP (qA lo hi R) (LP (qA lo hi R) true (Ls i hi)) (LO lo i):Bool)=_;rw[oy lo hi R,List.any_cons];cases LO lo i <;> cases Ls i hi <;> rfl
def clear(r x:Rec):Bool:=LP (LP (LP true false (qA r.n r.n' x.R)) false (py x.W r.R)) false (py r.W x.R)
theorem xc{ops:Array Oper}{r x:Rec}(h:clear r x=true)(ha:r.o.apart ops x.o=true):tied ops r x=false:=by
 unfold clear at h;rw[oy,eo,eo]at h;unfold tied meets bears;rw[ha];revert h;cases r.W.any fun i=>x.R.contains i <;> cases x.W.any fun i=>r.R.contains i <;> cases x.R.any fun i=>LO r.n i && Ls i r.n' <;> simp
def S7(r:Rec)(k:Nat)(l:List Rec):List (List Nat)->Bool:=List.rec (fun _=>true) (fun x _ ih bs=>List.rec false (fun b bs' _=>LP (LP false (ih bs') (aD k b)) (ih bs') (clear r x)) bs) l
def dyn(l:List Rec):Nat->List (List Nat)->Bool:=List.rec (fun _ _=>true) (fun r l ih k bs=>List.rec false (fun _ bs' _=>LP false (ih (k+1) bs') (S7 r k l bs')) bs) l
theorem dB{ops:Array Oper}{r:Rec}(k:Nat):∀(l:List Rec) (bs:List (List Nat)),S7 r k l bs=true->SO ops r.o k (l.map (·.o)) bs=true->Kr ops r k l bs=true
 |[],_,_,_=>by simp[Kr]
 |x::l,[],_,h=>by simp[SO]at h
 |x::l,b::bs,hd,h=>by
  simp only[List.map_cons,SO,YB,Bool.or_eq_true]at h;simp only[Kr,YB,Bool.or_eq_true,Bool.not_eq_true'];have hd:(LP (LP false (S7 r k l bs) (aD k b)) (S7 r k l bs) (clear r x):Bool)=true:=hd;cases hc:clear r x with
  |true=>
   rw[hc]at hd;exact⟨h.1.imp id fun ha=>xc hc ha,dB k l bs hd h.2⟩
  |false=>
   rw[hc]at hd;have hd:(LP false (S7 r k l bs) (aD k b):Bool)=true:=hd;cases he:aD k b with
   |false=>rw[he]at hd;cases hd
   |true=>
    rw[he]at hd;rw[dr]at he;exact⟨.inl he,dB k l bs hd h.2⟩
theorem ix{ops:Array Oper}:∀(l:List Rec) (bs:List (List Nat)) (k:Nat),dyn l k bs=true->stat ops k (l.map (·.o)) bs=true->indep ops k l bs=true
 |[],_,_,_,_=>by simp[indep]
 |x::l,[],_,_,h=>by simp[stat]at h
 |x::l,b::bs,k,hd,h=>by
  simp only[List.map_cons,stat,YB]at h;simp only[indep,YB];have hd:(LP false (dyn l (k+1) bs) (S7 x k l bs):Bool)=true:=hd;cases hc:S7 x k l bs with
  |false=>rw[hc]at hd;cases hd
  |true=>
   rw[hc]at hd;exact⟨dB k l bs hc h.1,ix l bs (k+1) hd h.2⟩
theorem dE{P:Program}{F:FuncId->Bool}{Xz:Vn}{rec:CF->Qr->Nat->Option Rs}{ops:Array Oper}:∀(l:List Oper) (T:Tm) (H:Qr) (n:Nat) (Qx:List Rec) (T':Tm) (H':Qr) (n':Nat),Jp P F Xz rec ops l T H n=some (Qx,.ok T' H' n')->Qx.map (·.o)=l
 |[],T,H,n,Qx,T',H',n',h=>by
  simp only[Jp,YO,YR]at h;rw[<-h.1];rfl
 |o::l,T,H,n,Qx,T',H',n',h=>by
  simp only[Jp]at h;have h:=KY h;cases hw:Region.wanted o (XR ops T)with
  |true=>
   rw[hw]at h;simp only[cond_true]at h;split at h
   ·split at h
    ·split at h
     ·rename_i rs f hr;simp only[YO,YR]at h;obtain⟨rfl,rfl⟩:=h;simp[dE l _ _ _ _ _ _ _ hr]
     ·cases h
    ·simp only[YO,YR]at h;cases h.2
   ·cases h
  |false=>
   rw[hw]at h;simp only[cond_false]at h;split at h
   ·rename_i rs f hr;simp only[YO,YR]at h;obtain⟨rfl,rfl⟩:=h;simp[dE l _ _ _ _ _ _ _ hr]
   ·cases h
def o9(ops:Array Oper):Bool:=Vm 0 ops.toList && stat ops 0 ops.toList (YU ops.toList [])
def chk(ops:Array Oper)(Qx:List Rec)(draw:Bool):Bool:=LP true (LP (Vm 0 ops.toList && indep ops 0 Qx (YU ops.toList [])) (LP (Vm 0 ops.toList && indep ops 0 Qx (YU ops.toList [])) true (dyn Qx 0 (YU ops.toList []))) (o9 ops)) draw
theorem H8{ops:Array Oper}{Qx:List Rec}{draw:Bool}(h:Qx.map (·.o)=ops.toList):chk ops Qx draw=(!draw || (Vm 0 ops.toList && indep ops 0 Qx (YU ops.toList []))):=by
 unfold chk;cases draw with
 |false=>rfl
 |true=>
  simp only[Bool.not_true,Bool.false_or];cases hs:o9 ops with
  |false=>rfl
  |true=>
   cases hc:dyn Qx 0 (YU ops.toList [])with
   |false=>rfl
   |true=>
    unfold o9 at hs;simp only[YB]at hs;rw[hs.1,ix Qx _ 0 hc (by rw[h];exact hs.2)];rfl
def fS(b:Nat)(l:List Nat):List Nat->List Nat:=List.rec (fun acc=>acc) (fun x _ ih acc=>LP (ih acc) (LP (ih (x::acc)) (ih acc) (aD x acc)) (Ls x b)) l
theorem dw(b:Nat):∀(l acc:List Nat),fS b l acc=Wd b l acc
 |[],_=>rfl
 |x::l,acc=>by
  show(LP (fS b l acc) (LP (fS b l (x::acc)) (fS b l acc) (aD x acc)) (Ls x b):List Nat)=_;rw[dw b l,dw b l,dr,Wd];cases Ls x b <;> cases acc.contains x <;> rfl
theorem mB(b:Nat):∀(l m acc:List Nat),Wd b (l++m) acc=Wd b m (Wd b l acc)
 |[],_,_=>rfl
 |x::l,m,acc=>by simp only[List.cons_append,Wd];exact mB b l m _
def HD(b:Nat)(Qx:List Rec):List Nat->List Nat:=List.rec (fun acc=>acc) (fun r _ ih acc=>ih (fS b r.R acc)) Qx
theorem yq(b:Nat):∀(Qx:List Rec) (acc:List Nat),HD b Qx acc=Wd b (KE Qx) acc
 |[],_=>rfl
 |r::l,acc=>by
  show HD b l (fS b r.R acc)=_;rw[yq b l,dw,show KE (r::l)=r.R++KE l from L5,mB]
def HC(b:Nat)(Qx:List Rec):List Nat->List Nat:=List.rec (fun acc=>acc) (fun r _ ih acc=>ih (fS b r.W acc)) Qx
theorem yp(b:Nat):∀(Qx:List Rec) (acc:List Nat),HC b Qx acc=Wd b (Ug Qx) acc
 |[],_=>rfl
 |r::l,acc=>by
  show HC b l (fS b r.W acc)=_;rw[yp b l,dw,show Ug (r::l)=r.W++Ug l from L5,mB]
def AJ(P:Program)(F:FuncId->Bool)(Xz:Vn)(rec:CF->Qr->Nat->Option Rs)(len:Nat)(tr:Tri)(ops:Array Oper)(H:Qr)(n:Nat):mF:=
 LP (Jp P F Xz rec ops ops.toList ⟨len,tr⟩ H n) (xH P F Xz rec len ops ops.toList tr H n) (qj len ops.toList)
theorem AI(P:Program)(F:FuncId->Bool)(Xz:Vn)(rec:CF->Qr->Nat->Option Rs)(len:Nat)(tr:Tri)(ops:Array Oper)(H:Qr)(n:Nat):AJ P F Xz rec len tr ops H n=Jp P F Xz rec ops ops.toList ⟨len,tr⟩ H n:=by
 unfold AJ;cases hd:qj len ops.toList with
 |false=>rfl
 |true=>exact rq P F Xz rec len ops _ _ _ _ hd
abbrev Iz:=Nat->FuncId->Nat->Tri->List Item->List Nat->Option Nat->Qr->Nat->List Nat->List Nat->Option Rs
def GO(P:Program)(F:FuncId->Bool)(Xz:Vn)(fuel:Nat)(ih:Iz)(c1:CF)(H1:Qr)(n1:Nat):Option Rs:=
 CF.rec (fun fn T todo ds mode ro=>CM.rec (Tm.rec (fun len tr=>ih n1 fn len tr todo ds ro H1 n1 [] []) T) (YJ P F Xz fuel n1 ⟨fn,T,todo,ds,.ret,ro⟩ H1 n1 [] []) (fun v=>YJ P F Xz fuel n1 ⟨fn,T,todo,ds,.ZO v,ro⟩ H1 n1 [] []) mode) c1
def IW(P:Program)(F:FuncId->Bool)(Xz:Vn)(fuel:Nat)(ih:Iz)(b:Nat)(c1:CF)(H1:Qr)(n1:Nat)(R W:List Nat):Option Rs:=
 CF.rec (fun fn T todo ds mode ro=>CM.rec (Tm.rec (fun len tr=>ih b fn len tr todo ds ro H1 n1 R W) T) (YJ P F Xz fuel b ⟨fn,T,todo,ds,.ret,ro⟩ H1 n1 R W) (fun v=>YJ P F Xz fuel b ⟨fn,T,todo,ds,.ZO v,ro⟩ H1 n1 R W) mode) c1
def resume(P:Program)(F:FuncId->Bool)(Xz:Vn)(fuel:Nat)(ih:Iz)(b:Nat)(R W:List Nat)(x:Option FS):Option Rs:=
 Option.rec none (fun fs=>FS.rec (fun c' H' n' R' W'=>IW P F Xz fuel ih b c' H' n' (Wd b R' R) (Wd b W' W)) (fun out H' n' R' W'=>some ⟨out,H',n',Wd b R' R,Wd b W' W⟩) fs) x
abbrev DZ:=Program->(FuncId->Bool)->Vn->Nat->Iz->Nat->FuncId->Nat->Tri->List Item->List Nat->Option Nat->Qr->Nat->List Nat->List Nat->Option Rs
def Ry(it:Item):DZ:=fun P F Xz fuel ih b fn len tr k ds ro H n R W=>resume P F Xz fuel ih b R W (eA P F Xz (GO P F Xz fuel ih) ⟨fn,⟨len,tr⟩,it::k,ds,.run,ro⟩ H n)
def yc:DZ:=fun _ _ _ _ ih b fn len tr k ds ro H n R W=>ih b fn len tr k ds ro H n R W
def IK(x y:Code):DZ:=fun _ _ _ _ ih b fn len tr k ds ro H n R W=>ih b fn len tr (.code x::.code y::k) ds ro H n R W
def Ir(q:Operand)(x y:Code):DZ:=fun _ _ _ _ ih b fn len tr k ds ro H n R W=>Option.rec none (fun v=>Option.rec none (fun t=>LP (ih b fn len tr (.code y::k) ds ro H n R W) (ih b fn len tr (.code x::k) ds ro H n R W) t) (PB v)) (SK tr q)
def Hz(id:Nat)(x:Code):DZ:=fun _ _ _ _ ih b fn len tr k ds ro H n R W=>ih b fn len tr (.code x::.inBlock id::k) ds ro H n R W
def Gy(x:Code):DZ:=fun _ _ _ _ ih b fn len tr k ds ro H n R W=>ih b fn len tr (.code x::.inLoop x::k) ds ro H n R W
def Hy(x:Code):DZ:=fun _ _ _ _ ih b fn len tr k ds ro H n R W=>ih b fn len tr (.code x::.inScope x::k) ds ro H n R W
def qc(id:Nat)(ops:Array Oper)(draw:Bool):DZ:=fun P F Xz fuel ih b fn len tr k ds ro H n R W=>
 Option.rec none (fun p=>Prod.rec (fun Qx f=>RF.rec (fun T' H' n'=>LP none (Tm.rec (fun len' tr'=>ih b fn len' tr' k ds ro H' n' (HD b Qx R) (HC b Qx W)) T') (chk ops Qx draw))
  (fun T' v H' n' R1 W1=>resume P F Xz fuel ih b R W (GU ⟨fn,⟨len,tr⟩,.code (.region id ops draw)::k,ds,.run,ro⟩ ops draw k (some (Qx,.ZO T' v H' n' R1 W1)))) f) p) (AJ P F Xz (GO P F Xz fuel ih) len tr ops H n)
def codeF(cd:Code):DZ:=Code.rec yc qc (fun x y _ _=>IK x y) (fun q x y _ _=>Ir q x y) (fun id x _=>Hz id x) (fun x _=>Gy x) (fun f ps x y _ _=>Ry (.code (.rangeFunc f ps x y))) (fun id=>Ry (.code (.exit id))) (fun x _=>Hy x) (fun _=>yc) (fun l=>Ry (.code (.goto l))) (Ry (.code .ret)) (fun w=>Ry (.code (.refuse w))) cd
def Gx(it:Item):DZ:=Item.rec codeF (fun _=>yc) Gy (fun _=>yc) (fun a b=>Ry (.inRegion a b)) (fun l=>Ry (.inRangeFunc l)) (fun l=>Ry (.endRangeFunc l)) (Ry .beginRound) (fun a b c d=>Ry (.call a b c d)) (fun a b=>Ry (.extern a b)) it
def Tx(P:Program)(F:FuncId->Bool)(Xz:Vn)(fuel:Nat):Iz:=Nat.rec (fun _ _ _ _ _ _ _ _ _ _ _=>none) (fun fuel ih b fn len tr todo ds ro H n R W=>
 List.rec (resume P F Xz fuel ih b R W (P4 ⟨fn,⟨len,tr⟩,[],ds,.run,ro⟩ H n none)) (fun it k _=>Gx it P F Xz fuel ih b fn len tr k ds ro H n R W) todo) fuel
theorem mb(P:Program)(F:FuncId->Bool)(Xz:Vn):∀(fuel b:Nat) (fn:FuncId) (len:Nat) (tr:Tri) (todo:List Item) (ds:List Nat) (ro:Option Nat) (H:Qr) (n:Nat) (R W:List Nat),Tx P F Xz fuel b fn len tr todo ds ro H n R W=YJ P F Xz fuel b ⟨fn,⟨len,tr⟩,todo,ds,.run,ro⟩ H n R W
 |0,_,_,_,_,_,_,_,_,_,_,_=>rfl
 |fuel+1,b,fn,len,tr,todo,ds,ro,H,n,R,W=>by
  have hih:∀(b:Nat) (fn:FuncId) (len:Nat) (tr:Tri) (todo:List Item) (ds:List Nat) (ro:Option Nat) (H:Qr) (n:Nat) (R W:List Nat),Tx P F Xz fuel b fn len tr todo ds ro H n R W=YJ P F Xz fuel b ⟨fn,⟨len,tr⟩,todo,ds,.run,ro⟩ H n R W:=mb P F Xz fuel;have Vx:GO P F Xz fuel (Tx P F Xz fuel)=fun c1 H1 n1=>YJ P F Xz fuel n1 c1 H1 n1 [] []:=by
   funext c1 H1 n1;obtain⟨fn,⟨len,tr⟩,todo,ds,mode,ro⟩:=c1;cases mode with
   |run=>exact hih _ _ _ _ _ _ _ _ _ _ _
   |ret=>rfl
   |ZO v=>rfl
  have hres:∀(R W:List Nat) (x:Option FS),resume P F Xz fuel (Tx P F Xz fuel) b R W x=match x with
   |some (.go c' H' n' R' W')=>YJ P F Xz fuel b c' H' n' (Wd b R' R) (Wd b W' W)
   |some (.done out H' n' R' W')=>some ⟨out,H',n',Wd b R' R,Wd b W' W⟩
   |none=>none:=by
   intro R W x;cases x with
   |none=>rfl
   |some fs=>
    cases fs with
    |done out H' n' R' W'=>rfl
    |go c' H' n' R' W'=>
     obtain⟨fn,⟨len,tr⟩,todo,ds,mode,ro⟩:=c';cases mode with
     |run=>exact hih _ _ _ _ _ _ _ _ _ _ _
     |ret=>rfl
     |ZO v=>rfl
  have hslow:∀(it:Item) (k:List Item),Ry it P F Xz fuel (Tx P F Xz fuel) b fn len tr k ds ro H n R W=YJ P F Xz (fuel+1) b ⟨fn,⟨len,tr⟩,it::k,ds,.run,ro⟩ H n R W:=by
   intro it k;unfold Ry;rw[hres,Vx];rfl
  cases todo with
  |nil=>exact hres R W _
  |cons it k=>
   show Gx it P F Xz fuel (Tx P F Xz fuel) b fn len tr k ds ro H n R W=_;cases it with
   |code cd=>
    cases cd with
    |skip=>exact hih _ _ _ _ _ _ _ _ _ _ _
    |label l=>exact hih _ _ _ _ _ _ _ _ _ _ _
    |seq x y=>exact hih _ _ _ _ _ _ _ _ _ _ _
    |block id x=>exact hih _ _ _ _ _ _ _ _ _ _ _
    |loop x=>exact hih _ _ _ _ _ _ _ _ _ _ _
    |scope x=>exact hih _ _ _ _ _ _ _ _ _ _ _
    |cond q x y=>
     show(Option.rec none (fun v=>Option.rec none (fun t=>LP (Tx P F Xz fuel b fn len tr (.code y::k) ds ro H n R W) (Tx P F Xz fuel b fn len tr (.code x::k) ds ro H n R W) t) (PB v)) (SK tr q):Option Rs)=_;rw[D0 len tr,hih,hih];simp only[YJ,eA,eT,eU];cases Zp ⟨len,tr⟩ q with
     |none=>rfl
     |some v=>
      cases v with
      |bool t=>cases t <;> rfl
      |_=>rfl
    |region id ops draw=>
     show qc id ops draw P F Xz fuel (Tx P F Xz fuel) b fn len tr k ds ro H n R W=_;unfold qc;rw[AI,Vx];simp only[YJ,eA,eT,eU,yq,yp];cases hrr:Jp P F Xz (fun c1 H1 n1=>YJ P F Xz fuel n1 c1 H1 n1 [] []) ops ops.toList ⟨len,tr⟩ H n with
     |none=>rfl
     |some p=>
      obtain⟨Qx,f⟩:=p;cases f with
      |ZO v H' n' R1 W1=>exact hres R W _
      |ok T' H' n'=>
       have hck:=H8 (draw:=draw) (dE _ _ _ _ _ _ _ _ hrr);obtain⟨len',tr'⟩:=T';simp only[GU];rw[hck];cases !draw || (Vm 0 ops.toList && indep ops 0 Qx (YU ops.toList []))with
       |false=>rfl
       |true=>exact hih _ _ _ _ _ _ _ _ _ _ _
    |rangeFunc f ps x y=>exact hslow _ k
    |exit id=>exact hslow _ k
    |goto id=>exact hslow _ k
    |ret=>exact hslow _ k
    |refuse w=>exact hslow (.code (.refuse w)) k
   |inBlock id=>exact hih _ _ _ _ _ _ _ _ _ _ _
   |inScope x=>exact hih _ _ _ _ _ _ _ _ _ _ _
   |inLoop x=>exact hih _ _ _ _ _ _ _ _ _ _ _
   |inRegion a b=>exact hslow _ k
   |inRangeFunc l=>exact hslow _ k
   |endRangeFunc l=>exact hslow _ k
   |beginRound=>exact hslow _ k
   |call a b c d=>exact hslow _ k
   |extern a b=>exact hslow _ k
end
end Go.CE
