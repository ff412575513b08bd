/- CE: the canonical machine a third time: by recursors alone where much time goes. -/
import Derived.Test.YtncjjangllkokaaZRH05
set_option linter.all false
open Bool renaming rec->LQ
open Nat renaming beq->Lf,ble->LP,blt->Ls
open Array renaming getElem?_toList->Lr
open List renaming flatMap_cons->LW
namespace Go.CE
open Go Go.RowKit
noncomputable section

def ir(t:Tri):Nat->Value:=Tri.rec (fun _=>undef) (fun _ v _ gl gr k=>Nat.rec v (fun j _=>LQ (gr (Nat.div j 2)) (gl (Nat.div j 2)) (Lf (Nat.mod j 2) 0)) k) t
theorem ck:∀(t:Tri) (k:Nat),ir t k=t.get k
 | .lf,k=>by cases k <;> rfl
 | .nd l v r,0=>rfl
 | .nd l v r,k+1=>by
   show(LQ (ir r (k / 2)) (ir l (k / 2)) (Lf (k % 2) 0):Value)=bif Lf (k % 2) 0 then l.get (k / 2)else r.get (k / 2);rw[ck l,ck r];cases Lf (k % 2) 0 <;> rfl
def ee(f:Nat):Tri->Nat->Value->Tri:=Nat.rec (fun t _ _=>t) (fun _ ih t i x=>Tri.rec
 (Nat.rec (.nd .lf x .lf) (fun j _=>LQ (.nd .lf undef (ih .lf (Nat.div j 2) x)) (.nd (ih .lf (Nat.div j 2) x) undef .lf) (Lf (Nat.mod j 2) 0)) i)
 (fun l v r _ _=>Nat.rec (.nd l x r) (fun j _=>LQ (.nd l v (ih r (Nat.div j 2) x)) (.nd (ih l (Nat.div j 2) x) v r) (Lf (Nat.mod j 2) 0)) i) t) f
theorem cj:∀(f:Nat) (t:Tri) (i:Nat) (x:Value),ee f t i x=Tri.set f t i x
 |0,_,_,_=>rfl
 |f+1,.lf,0,x=>rfl
 |f+1,.nd l v r,0,x=>rfl
 |f+1,.lf,k+1,x=>by
  show(LQ (Tri.nd .lf undef (ee f .lf (k / 2) x)) (Tri.nd (ee f .lf (k / 2) x) undef .lf) (Lf (k % 2) 0):Tri)=bif Lf (k % 2) 0 then .nd (Tri.set f .lf (k / 2) x) undef .lf else .nd .lf undef (Tri.set f .lf (k / 2) x);rw[cj f];cases Lf (k % 2) 0 <;> rfl
 |f+1,.nd l v r,k+1,x=>by
  show(LQ (Tri.nd l v (ee f r (k / 2) x)) (Tri.nd (ee f l (k / 2) x) v r) (Lf (k % 2) 0):Tri)=bif Lf (k % 2) 0 then .nd (Tri.set f l (k / 2) x) v r else .nd l v (Tri.set f r (k / 2) x);rw[cj f,cj f];cases Lf (k % 2) 0 <;> rfl
def aK(tr:Tri)(x:Operand):Option Value:=Operand.rec (fun t=>some (ir tr t)) (fun v=>LQ none (some v) (af v)) (fun _=>none) (fun f=>some (.func (.func f) #[] #[])) x
theorem M1(len:Nat)(tr:Tri):aK tr=Zd ⟨len,tr⟩:=by
 funext x;cases x with
 |tmp t=>show some (ir tr t)=some (tr.get t);rw[ck]
 |const v=>show(LQ none (some v) (af v):Option Value)=bif af v then some v else none;cases af v <;> rfl
 |global g=>rfl
 |func f=>rfl
def Ib(tr:Tri)(d:Option Tmp)(v:Value):Tri:=Option.rec tr (fun d=>ee 14 tr d v) d
theorem DE(len:Nat)(tr:Tri)(d:Option Tmp)(v:Value):(⟨len,Ib tr d v⟩:Tm)=VG ⟨len,tr⟩ d v:=by
 cases d with
 |none=>rfl
 |some d=>show(⟨len,ee 14 tr d v⟩:Tm)=⟨len,tr.set 14 d v⟩;rw[cj]
def NP{α:Type}(l:List α):Nat->Option α:=List.rec (fun _=>none) (fun x _ ih k=>Nat.rec (some x) (fun j _=>ih j) k) l
theorem DM{α:Type}:∀(l:List α) (k:Nat),NP l k=l[k]?
 |[],k=>by cases k <;> rfl
 |x::l,0=>rfl
 |x::l,k+1=>by show NP l k=_;rw[DM l k];rfl
def u0(P:Program)(t:TypeId)(cs:Array Value)(off:Nat):Option Value:=
 Option.rec none (fun g=>LQ (NP cs.toList off) (Option.rec none (fun s=>LQ none (some (.agg (cs.extract off (off+s)))) (LP (off+s) cs.size)) (W6 P t)) g) (qy P t)
theorem sw(P:Program)(t:TypeId)(cs:Array Value)(off:Nat):u0 P t cs off=Y8 P t cs off:=by
 unfold u0 Y8;cases qy P t with
 |none=>rfl
 |some g=>
  cases g with
  |false=>show NP cs.toList off=_;rw[DM,Lr]
  |true=>
   cases W6 P t with
   |none=>rfl
   |some s=>simp only;cases LP (off+s) cs.size <;> rfl
def u4(P:Program)(t:TypeId)(H:Qq)(p:Value):Option (Value×Nat):=match p with
 | .pointer (some ⟨b,off,none⟩)=>match Qt H b with
   |some (.cells cs _ _)=>match u0 P t cs off with
    |some v=>some (v,b)
    |none=>none
   |_=>none
 |_=>none
theorem Gt(P:Program)(t:TypeId)(H:Qq)(p:Value):u4 P t H p=Ty P t H p:=by
 unfold u4 Ty;simp only[sw];rfl
def uH(p:Value->Bool)(l:List Value):Bool:=List.rec true (fun x _ ih=>LQ false ih (p x)) l
theorem il(p:Value->Bool):∀(l:List Value),uH p l=l.all p
 |[]=>rfl
 |x::l=>by
  show(LQ false (uH p l) (p x):Bool)=_;rw[il p l,List.all_cons];cases p x <;> rfl
def Ma(cs:Array Value):Bool:=uH (·.oneCell') cs.toList
theorem IZ(cs:Array Value):Ma cs=ones cs:=by
 unfold Ma ones;rw[il,Array.all_toList]
def saF(v:Value):Bool:=match v with
 | .agg xs=>uH simple xs.toList
 |v=>simple v
theorem GG(v:Value):saF v=sa v:=by
 cases v <;> first|rfl|(show uH simple _=_;rw[il,Array.all_toList];rfl)
def afF(v:Value):Bool:=match v with
 | .agg xs=>uH simple xs.toList
 | .tuple xs=>uH saF xs.toList
 | .iface _ v=>saF v
 |v=>simple v
theorem Qa6(v:Value):afF v=af v:=by
 cases v with
 |iface t v=>exact GG v
 |tuple xs=>show uH saF _=_;rw[show saF=sa from funext GG,il,Array.all_toList];rfl
 |_=>first|rfl|(show uH simple _=_;rw[il,Array.all_toList];rfl)
def lM(P:Program)(t:TypeId)(H:Qq)(v p:Value):Option (Qq×Nat):=match p with
 | .pointer (some ⟨b,off,none⟩)=>match Qt H b with
   |some (.cells cs te (0,0))=>match W6 P t with
    |some s=>bif Lf v.cells.size s && Ma v.cells && LP (off+s) cs.size then some (VE H b (.cells (splice cs off v.cells) te (0,0)),b)else none
    |none=>none
   |_=>none
 |_=>none
theorem Dg(P:Program)(t:TypeId)(H:Qq)(v p:Value):lM P t H v p=Sy P t H v p:=by
 unfold lM Sy;simp only[IZ];rfl
def lO(P:Program)(t:TypeId)(f:Nat)(x:Value):Option Value:=match x with
 | .agg cs=>match Rx P t with
   |some (.struct fields)=>match fields[f]? with
    |some fd=>u0 P fd.type cs fd.offset
    |none=>none
   |_=>none
 |_=>none
theorem Dl(P:Program)(t:TypeId)(f:Nat)(x:Value):lO P t f x=jf P t f x:=by
 unfold lO jf;simp only[sw];rfl
def Az(ops:Array Oper)(tr:Tri)(j:Nat):Option Bool:=match nth ops.toList j with
 |some o=>match o.dst with
  |some t=>Sz (ir tr t)
  |none=>none
 |none=>none
theorem El(len:Nat)(ops:Array Oper)(tr:Tri)(j:Nat):Az ops tr j=XS ops ⟨len,tr⟩ j:=by
 unfold Az XS;simp only[ck,Zc];rfl
def Dz(ops:Array Oper)(tr:Tri)(g:Option (Nat×Bool)):Bool:=Option.rec true (fun jw=>Prod.rec (fun j w=>Option.rec false (fun b=>LQ (LQ true false w) (LQ false true w) b) (Az ops tr j)) jw) g
theorem G4(len:Nat)(ops:Array Oper)(tr:Tri)(o:Oper):Dz ops tr o.guard=Region.wanted o (XS ops ⟨len,tr⟩):=by
 unfold Dz Region.wanted;cases o.guard with
 |none=>rfl
 |some jw=>
  obtain⟨j,w⟩:=jw;simp only[El len];cases XS ops ⟨len,tr⟩ j with
  |none=>rfl
  |some b=>cases b <;> cases w <;> rfl
abbrev qE:=Option (List Rec×RF)
abbrev KV:=Value->Qq->Nat->List Nat->List Nat->qE
abbrev G3:=Program->(FuncId->Bool)->WZ->(CF->Qq->Nat->Option Rs)->Nat->Tri->Oper->Qq->Nat->KV->KV->qE
def fin(k kp:KV)(s:Option Rs):qE:=match s with
 |some ⟨out,H,n,R,W⟩=>match out with
  | .ret v=>k v H n R W
  | .Wn v=>kp v H n R W
 |none=>none
def pv(k:KV)(H:Qq)(n:Nat)(x:Option Value):qE:=Option.rec none (fun v=>k v H n [] []) x
theorem bX(k kp:KV)(H:Qq)(n:Nat)(x:Option Value):fin k kp (qV x H n)=pv k H n x:=by cases x <;> rfl
def OB(x:Operand):G3:=fun _ _ _ _ _ tr _ H n k _=>pv k H n (aK tr x)
def Qbn(c a b:Operand):G3:=fun _ _ _ _ _ tr _ H n k _=>Option.rec none (fun v=>Option.rec none (fun t=>LQ (pv k H n (aK tr b)) (pv k H n (aK tr a)) t) (Sz v)) (aK tr c)
def Qbo(t:TypeId)(a:Operand):G3:=fun P _ _ _ _ tr _ H n k _=>Option.rec none (fun p=>Option.rec none (fun vb=>Prod.rec (fun v b=>LQ none (k v H n [b] []) (Ls b n)) vb) (u4 P t H p)) (aK tr a)
def Qa9(t:TypeId)(a x:Operand):G3:=fun P _ _ _ _ tr _ H n k _=>Option.rec none (fun p=>Option.rec none (fun v=>Option.rec none (fun hb=>Prod.rec (fun H' b=>LQ none (k undef H' n [b] [b]) (Ls b n)) hb) (lM P t H v p)) (aK tr x)) (aK tr a)
def Dv(s:TypeId)(x:Operand)(f:Nat):G3:=fun P _ _ _ _ tr _ H n k _=>Option.rec none (fun p=>pv k H n (Wm P s f p)) (aK tr x)
def QaA(s:TypeId)(x:Operand)(f:Nat):G3:=fun P _ _ _ _ tr _ H n k _=>Option.rec none (fun p=>pv k H n (lO P s f p)) (aK tr x)
def Du(t:TypeId)(x i:Operand):G3:=fun P _ _ _ _ tr _ H n k _=>Option.rec none (fun p=>Option.rec none (fun j=>pv k H n (Ji P t p j)) (aK tr i)) (aK tr x)
def MY(x:Operand)(i:Nat):G3:=fun _ _ _ _ _ tr _ H n k _=>Option.rec none (fun p=>pv k H n (Tz i p)) (aK tr x)
def QbB(op:BinOp)(_:TypeId)(x y:Operand)(_:TypeId):G3:=fun P _ _ _ _ tr o H n k _=>Option.rec none (fun a=>Option.rec none (fun b=>Option.rec (pv k H n (UM P (aK tr) o)) (fun v=>k v H n [] []) (Dn op a b)) (aK tr y)) (aK tr x)
def M8(v:Value)(r:CR)(k:KV)(H':Qq)(n':Nat)(R W:List Nat):qE:=List.rec (LQ (k v H' n' (r.R++R) (r.W++[])) (k v r.H n' (r.R++R) (r.W++[])) (afF v)) (fun _ _ _=>k v H' n' (r.R++R) (r.W++W)) W
def Ef(r:CR)(k kp:KV)(s:Option Rs):qE:=Option.rec none (fun s=>Rs.rec (fun out H' n' R W=>OO.rec (fun v=>M8 v r k H' n' R W) (fun v=>kp v H' n' (r.R++R) (r.W++W)) out) s) s
theorem MT(r:CR)(k kp:KV)(s:Option Rs):Ef r k kp s=fin k kp (match s with|some s=>HX r s|none=>none):=by
 cases s with
 |none=>rfl
 |some s=>
  obtain⟨out,H',n',R,W⟩:=s;cases out with
  |Wn v=>
   cases W with
   |nil=>rfl
   |cons a b=>rfl
  |ret v=>
   show M8 v r k H' n' R W=_;unfold M8;cases W with
   |nil=>
    rw[Qa6];simp only[HX,Jn];cases af v <;> rfl
   |cons a b=>rfl
def uq(P:Program)(Xr:WZ)(rec:CF->Qq->Nat->Option Rs)(g:FuncId)(args:Array Value)(r:CR)(k kp:KV):qE:=Option.rec (Option.rec none (fun c=>Ef r k kp (rec c r.H r.n)) (Wa P g args)) (fun _=>fin k kp (sN P Xr rec g args r)) (Xr g args r.H r.n)
theorem Gm(P:Program)(Xr:WZ)(rec:CF->Qq->Nat->Option Rs)(g:FuncId)(args:Array Value)(r:CR)(k kp:KV):uq P Xr rec g args r k kp=fin k kp (sN P Xr rec g args r):=by
 unfold uq;cases ho:Xr g args r.H r.n with
 |some x=>rfl
 |none=>
  unfold sN;rw[ho];show(Option.rec none (fun c=>Ef r k kp (rec c r.H r.n)) (Wa P g args):qE)=fin k kp (Qaa P rec g args r);unfold Qaa;cases Wa P g args with
  |none=>rfl
  |some c=>
   show Ef r k kp (rec c r.H r.n)=_;rw[MT];rfl
def MI(P:Program)(Xr:WZ)(rec:CF->Qq->Nat->Option Rs)(n:Nat)(x:Option CR)(k kp:KV):qE:=Option.rec none (fun r=>CN.rec (fun _=>fin k kp (qR P Xr rec n (some r))) (fun g args=>LQ none (uq P Xr rec g args r k kp) (r.R.all (fun i=>Ls i n))) (fun _ _ _ _ _=>fin k kp (qR P Xr rec n (some r))) r.nx) x
theorem MH(P:Program)(Xr:WZ)(rec:CF->Qq->Nat->Option Rs)(n:Nat)(x:Option CR)(k kp:KV):MI P Xr rec n x k kp=fin k kp (qR P Xr rec n x):=by
 cases x with
 |none=>rfl
 |some r=>
  obtain⟨nx,H',n',R,W⟩:=r;cases nx with
  |val v=>rfl
  |round l fn tm a b=>rfl
  |enter g args=>
   show(LQ none (uq P Xr rec g args ⟨.enter g args,H',n',R,W⟩ k kp) (R.all (fun i=>Ls i n)):qE)=_;rw[Gm];simp only[qR];cases R.all (fun i=>Ls i n) <;> rfl
def Qbp(c:Call):G3:=fun P F Xr rec _ tr o H n k kp=>MI P Xr rec n (fW P F (aK tr) o c H n) k kp
def Kq:G3:=fun P F Xr rec len tr o H n k kp=>fin k kp (uO P F Xr rec ⟨len,tr⟩ o H n)
def opF(op:Op):G3:=Op.rec OB OB Qbn (fun _=>Kq) (fun _ _=>Kq) (fun _ _=>Kq) (fun _ _ _=>Kq) (fun _ _ _ _=>Kq) Qbo Qa9 (fun _=>Kq) (fun _=>Kq) (fun _=>Kq) QbB (fun _ _ _=>Kq) (fun _ _ _=>Kq) (fun _ _=>Kq) (fun _ _=>Kq)
 (fun _ _ _=>Kq) (fun _ _=>Kq) (fun _ _=>Kq) (fun _ _ _=>Kq) (fun _ _ _ _ _=>Kq) Dv QaA Du (fun _ _ _=>Kq) (fun _ _ _ _=>Kq) (fun _ _ _ _=>Kq) (fun _ _ _=>Kq) (fun _ _ _ _=>Kq) (fun _ _=>Kq) (fun _ _=>Kq) (fun _=>Kq) (fun _ _ _ _=>Kq)
 MY Qbp (fun _=>Kq) (fun _=>Kq) (fun _=>Kq) (fun _ _=>Kq) (fun _ _ _=>Kq) (fun _ _=>Kq) op
theorem Qap(P:Program)(F:FuncId->Bool)(Xr:WZ)(rec:CF->Qq->Nat->Option Rs)(len:Nat)(tr:Tri)(o:Oper)(H:Qq)(n:Nat)(k kp:KV):opF o.op P F Xr rec len tr o H n k kp=fin k kp (uO P F Xr rec ⟨len,tr⟩ o H n):=by
 have e:=M1 len tr;cases hp:o.op with
 |move x=>show pv k H n (aK tr x)=_;rw[e];unfold uO;simp only[hp];exact(bX k kp H n _).symm
 |assign x=>show pv k H n (aK tr x)=_;rw[e];unfold uO;simp only[hp];exact(bX k kp H n _).symm
 |pick c a b=>
  show(Option.rec none (fun v=>Option.rec none (fun t=>LQ (pv k H n (aK tr b)) (pv k H n (aK tr a)) t) (Sz v)) (aK tr c):qE)=_;rw[e];unfold uO;simp only[hp];cases Zd ⟨len,tr⟩ c with
  |none=>rfl
  |some v=>
   cases v with
   |bool t=>cases t <;> exact(bX k kp H n _).symm
   |_=>rfl
 |load t a=>
  show(Option.rec none (fun p=>Option.rec none (fun vb=>Prod.rec (fun v b=>LQ none (k v H n [b] []) (Ls b n)) vb) (u4 P t H p)) (aK tr a):qE)=_;simp only[Gt];rw[e];unfold uO;simp only[hp];cases Zd ⟨len,tr⟩ a with
  |none=>rfl
  |some p=>
   simp only[HT];cases Ty P t H p with
   |none=>rfl
   |some vb=>
    obtain⟨v,b⟩:=vb;cases hb:Ls b n <;> simp[qR,fin,DC,hb]
 |store t a x=>
  show(Option.rec none (fun p=>Option.rec none (fun v=>Option.rec none (fun hb=>Prod.rec (fun H' b=>LQ none (k undef H' n [b] [b]) (Ls b n)) hb) (lM P t H v p)) (aK tr x)) (aK tr a):qE)=_;simp only[Dg];rw[e];unfold uO;simp only[hp];cases Zd ⟨len,tr⟩ a with
  |none=>rfl
  |some p=>
   cases Zd ⟨len,tr⟩ x with
   |none=>rfl
   |some v=>
    simp only[Bo];cases Sy P t H v p with
    |none=>rfl
    |some vb=>
     obtain⟨H',b⟩:=vb;cases hb:Ls b n <;> simp[qR,fin,DC,hb]
 |fieldAddr s x f=>
  show(Option.rec none (fun p=>pv k H n (Wm P s f p)) (aK tr x):qE)=_;rw[e];unfold uO;simp only[hp];cases Zd ⟨len,tr⟩ x with
  |none=>rfl
  |some p=>simp only[eu,RD];exact(bX k kp H n _).symm
 |field s x f=>
  show(Option.rec none (fun p=>pv k H n (lO P s f p)) (aK tr x):qE)=_;simp only[Dl];rw[e];unfold uO;simp only[hp];cases Zd ⟨len,tr⟩ x with
  |none=>rfl
  |some p=>simp only[Bp,RD];exact(bX k kp H n _).symm
 |indexAddr t x i=>
  show(Option.rec none (fun p=>Option.rec none (fun j=>pv k H n (Ji P t p j)) (aK tr i)) (aK tr x):qE)=_;rw[e];unfold uO;simp only[hp];cases Zd ⟨len,tr⟩ x with
  |none=>rfl
  |some p=>
   cases Zd ⟨len,tr⟩ i with
   |none=>rfl
   |some j=>simp only[ep,RD];exact(bX k kp H n _).symm
 |extract x i=>
  show(Option.rec none (fun p=>pv k H n (Tz i p)) (aK tr x):qE)=_;rw[e];unfold uO;simp only[hp];cases Zd ⟨len,tr⟩ x with
  |none=>rfl
  |some p=>simp only[nc,RD];exact(bX k kp H n _).symm
 |binOp op t x y t'=>
  show(Option.rec none (fun a=>Option.rec none (fun b=>Option.rec (pv k H n (UM P (aK tr) o)) (fun v=>k v H n [] []) (Dn op a b)) (aK tr y)) (aK tr x):qE)=_;rw[e];unfold uO;simp only[hp];cases Zd ⟨len,tr⟩ x with
  |none=>rfl
  |some a=>
   cases Zd ⟨len,tr⟩ y with
   |none=>rfl
   |some b=>
    simp only[Qad];cases Dn op a b with
    |none=>simp only[RD];exact(bX k kp H n _).symm
    |some v=>rfl
 |call c=>show MI P Xr rec n (fW P F (aK tr) o c H n) k kp=_;rw[MH,e];unfold uO;simp only[hp]
 |_=>rfl
def Eb(r:Rec)(x:qE):qE:=Option.rec none (fun p=>Prod.rec (fun rs f=>some (r::rs,f)) p) x
def D6(P:Program)(F:FuncId->Bool)(Xr:WZ)(rec:CF->Qq->Nat->Option Rs)(len:Nat)(ops:Array Oper)(l:List Oper):Tri->Qq->Nat->qE:=
 List.rec (fun tr H n=>some ([],.ok ⟨len,tr⟩ H n)) (fun o _ ih tr H n=>LQ
  (Eb ⟨o,false,undef,⟨len,tr⟩,H,H,n,n,[],[]⟩ (ih (Ib tr o.dst undef) H n))
  (opF o.op P F Xr rec len tr o H n (fun v H' n' R W=>Eb ⟨o,true,v,⟨len,tr⟩,H,H',n,n',R,W⟩ (ih (Ib tr o.dst v) H' n')) (fun v H' n' R W=>some ([],.Wn ⟨len,tr⟩ v H' n' R W)))
  (Dz ops tr o.guard)) l
def ur(len:Nat)(l:List Oper):Bool:=l.all fun o=>Rp ⟨len,.lf⟩ o.dst
theorem vD(P:Program)(F:FuncId->Bool)(Xr:WZ)(rec:CF->Qq->Nat->Option Rs)(len:Nat)(ops:Array Oper):∀(l:List Oper) (tr:Tri) (H:Qq) (n:Nat),ur len l=true->D6 P F Xr rec len ops l tr H n=PT P F Xr rec ops l ⟨len,tr⟩ H n
 |[],_,_,_,_=>rfl
 |o::l,tr,H,n,hd=>by
  simp only[ur,List.all_cons,YB]at hd;have hd1:Rp ⟨len,tr⟩ o.dst=true:=by
   have:=hd.1;cases hq:o.dst with
   |none=>rfl
   |some x=>rw[hq]at this;exact this
  have ih:=vD P F Xr rec len ops l;show(LQ (Eb ⟨o,false,undef,⟨len,tr⟩,H,H,n,n,[],[]⟩ (D6 P F Xr rec len ops l (Ib tr o.dst undef) H n))
   (opF o.op P F Xr rec len tr o H n (fun v H' n' R W=>Eb ⟨o,true,v,⟨len,tr⟩,H,H',n,n',R,W⟩ (D6 P F Xr rec len ops l (Ib tr o.dst v) H' n')) (fun v H' n' R W=>some ([],.Wn ⟨len,tr⟩ v H' n' R W)))
   (Dz ops tr o.guard):qE)=_
  rw[G4 len];simp only[PT,hd1,cond_true];cases Region.wanted o (XS ops ⟨len,tr⟩)with
  |false=>
   simp only[cond_false];rw[ih _ _ _ hd.2,DE];cases PT P F Xr rec ops l (VG ⟨len,tr⟩ o.dst undef) H n <;> rfl
  |true=>
   simp only[cond_true,Qap];cases uO P F Xr rec ⟨len,tr⟩ o H n with
   |none=>rfl
   |some s=>
    obtain⟨out,H',n',R,W⟩:=s;cases out with
    |Wn v=>rfl
    |ret v=>
     simp only[fin];rw[ih _ _ _ hd.2,DE];cases PT P F Xr rec ops l (VG ⟨len,tr⟩ o.dst v) H' n' <;> rfl
def aT(ops:Array Oper)(o:Oper)(k:Nat):List Oper->List (List Nat)->Bool
 |x::l,b::bs=>(b.contains k || o.apart ops x) && aT ops o k l bs
 |[],_=>true
 |_::_,[]=>false
def stat(ops:Array Oper):Nat->List Oper->List (List Nat)->Bool
 |k,o::l,_::bs=>aT ops o k l bs && stat ops (k+1) l bs
 |_,[],_=>true
 |_,_::_,[]=>false
def dr(i:Nat)(l:List Nat):Bool:=List.rec false (fun j _ ih=>LQ ih true (Lf i j)) l
theorem ib(i:Nat):∀(l:List Nat),dr i l=l.contains i
 |[]=>rfl
 |j::l=>by
  show(LQ (dr i l) true (Lf i j):Bool)=_;rw[ib i l,List.contains_cons];by_cases e:i=j
  ·subst e;rw[Nat.beq_refl];simp
  ·rw[aB e];simp[e]
def tO(W R:List Nat):Bool:=List.rec false (fun i _ ih=>LQ ih true (dr i R)) W
theorem iR(R:List Nat):∀(W:List Nat),tO W R=W.any fun i=>R.contains i
 |[]=>rfl
 |i::W=>by
  show(LQ (tO W R) true (dr i R):Bool)=_;rw[iR R W,ib,List.any_cons];cases R.contains i <;> rfl
def uC(lo hi:Nat)(R:List Nat):Bool:=List.rec false (fun i _ ih=>LQ ih (LQ ih true (Ls i hi)) (LP lo i)) R
theorem s7(lo hi:Nat):∀(R:List Nat),uC lo hi R=R.any fun i=>LP lo i && Ls i hi
 |[]=>rfl
 |i::R=>by
  show(LQ (uC lo hi R) (LQ (uC lo hi R) true (Ls i hi)) (LP lo i):Bool)=_;rw[s7 lo hi R,List.any_cons];cases LP lo i <;> cases Ls i hi <;> rfl
def clear(r x:Rec):Bool:=LQ (LQ (LQ true false (uC r.n r.n' x.R)) false (tO x.W r.R)) false (tO r.W x.R)
theorem Da{ops:Array Oper}{r x:Rec}(h:clear r x=true)(ha:r.o.apart ops x.o=true):tied ops r x=false:=by
 unfold clear at h;rw[s7,iR,iR]at h;unfold tied meets bears;rw[ha];revert h;cases r.W.any fun i=>x.R.contains i <;> cases x.W.any fun i=>r.R.contains i <;> cases x.R.any fun i=>LP r.n i && Ls i r.n' <;> simp
def aA(r:Rec)(k:Nat)(l:List Rec):List (List Nat)->Bool:=List.rec (fun _=>true) (fun x _ ih bs=>List.rec false (fun b bs' _=>LQ (LQ false (ih bs') (dr k b)) (ih bs') (clear r x)) bs) l
def dyn(l:List Rec):Nat->List (List Nat)->Bool:=List.rec (fun _ _=>true) (fun r l ih k bs=>List.rec false (fun _ bs' _=>LQ false (ih (k+1) bs') (aA r k l bs')) bs) l
theorem iw{ops:Array Oper}{r:Rec}(k:Nat):∀(l:List Rec) (bs:List (List Nat)),aA r k l bs=true->aT ops r.o k (l.map (·.o)) bs=true->Yg ops r k l bs=true
 |[],_,_,_=>by simp[Yg]
 |x::l,[],_,h=>by simp[aT]at h
 |x::l,b::bs,hd,h=>by
  simp only[List.map_cons,aT,YB,Bool.or_eq_true]at h;simp only[Yg,YB,Bool.or_eq_true,Bool.not_eq_true'];have hd:(LQ (LQ false (aA r k l bs) (dr k b)) (aA r k l bs) (clear r x):Bool)=true:=hd;cases hc:clear r x with
  |true=>
   rw[hc]at hd;exact⟨h.1.imp id fun ha=>Da hc ha,iw k l bs hd h.2⟩
  |false=>
   rw[hc]at hd;have hd:(LQ false (aA r k l bs) (dr k b):Bool)=true:=hd;cases he:dr k b with
   |false=>rw[he]at hd;cases hd
   |true=>
    rw[he]at hd;rw[ib]at he;exact⟨.inl he,iw k l bs hd h.2⟩
theorem m6{ops:Array Oper}:∀(l:List Rec) (bs:List (List Nat)) (k:Nat),dyn l k bs=true->stat ops k (l.map (·.o)) bs=true->indep ops k l bs=true
 |[],_,_,_,_=>by simp[indep]
 |x::l,[],_,_,h=>by simp[stat]at h
 |x::l,b::bs,k,hd,h=>by
  simp only[List.map_cons,stat,YB]at h;simp only[indep,YB];have hd:(LQ false (dyn l (k+1) bs) (aA x k l bs):Bool)=true:=hd;cases hc:aA x k l bs with
  |false=>rw[hc]at hd;cases hd
  |true=>
   rw[hc]at hd;exact⟨iw k l bs hc h.1,m6 l bs (k+1) hd h.2⟩
theorem iy{P:Program}{F:FuncId->Bool}{Xr:WZ}{rec:CF->Qq->Nat->Option Rs}{ops:Array Oper}:∀(l:List Oper) (T:Tm) (H:Qq) (n:Nat) (Qz:List Rec) (T':Tm) (H':Qq) (n':Nat),PT P F Xr rec ops l T H n=some (Qz,.ok T' H' n')->Qz.map (·.o)=l
 |[],T,H,n,Qz,T',H',n',h=>by
  simp only[PT,YO,YR]at h;rw[<-h.1];rfl
 |o::l,T,H,n,Qz,T',H',n',h=>by
  simp only[PT]at h;have h:=Jj h;cases hw:Region.wanted o (XS ops T)with
  |true=>
   rw[hw]at h;simp only[cond_true]at h;split at h
   ·split at h
    ·split at h
     ·rename_i rs f hr;simp only[YO,YR]at h;obtain⟨rfl,rfl⟩:=h;simp[iy l _ _ _ _ _ _ _ hr]
     ·cases h
    ·simp only[YO,YR]at h;cases h.2
   ·cases h
  |false=>
   rw[hw]at h;simp only[cond_false]at h;split at h
   ·rename_i rs f hr;simp only[YO,YR]at h;obtain⟨rfl,rfl⟩:=h;simp[iy l _ _ _ _ _ _ _ hr]
   ·cases h
def sE(ops:Array Oper):Bool:=WY 0 ops.toList && stat ops 0 ops.toList (P3 ops.toList [])
def chk(ops:Array Oper)(Qz:List Rec)(draw:Bool):Bool:=LQ true (LQ (WY 0 ops.toList && indep ops 0 Qz (P3 ops.toList [])) (LQ (WY 0 ops.toList && indep ops 0 Qz (P3 ops.toList [])) true (dyn Qz 0 (P3 ops.toList []))) (sE ops)) draw
theorem Qa3{ops:Array Oper}{Qz:List Rec}{draw:Bool}(h:Qz.map (·.o)=ops.toList):chk ops Qz draw=(!draw || (WY 0 ops.toList && indep ops 0 Qz (P3 ops.toList []))):=by
 unfold chk;cases draw with
 |false=>rfl
 |true=>
  simp only[Bool.not_true,Bool.false_or];cases hs:sE ops with
  |false=>rfl
  |true=>
   cases hc:dyn Qz 0 (P3 ops.toList [])with
   |false=>rfl
   |true=>
    unfold sE at hs;simp only[YB]at hs;rw[hs.1,m6 Qz _ 0 hc (by rw[h];exact hs.2)];rfl
def kF(b:Nat)(l:List Nat):List Nat->List Nat:=List.rec (fun acc=>acc) (fun x _ ih acc=>LQ (ih acc) (LQ (ih (x::acc)) (ih acc) (dr x acc)) (Ls x b)) l
theorem iq(b:Nat):∀(l acc:List Nat),kF b l acc=ZT b l acc
 |[],_=>rfl
 |x::l,acc=>by
  show(LQ (kF b l acc) (LQ (kF b l (x::acc)) (kF b l acc) (dr x acc)) (Ls x b):List Nat)=_;rw[iq b l,iq b l,ib,ZT];cases Ls x b <;> cases acc.contains x <;> rfl
theorem qA(b:Nat):∀(l m acc:List Nat),ZT b (l++m) acc=ZT b m (ZT b l acc)
 |[],_,_=>rfl
 |x::l,m,acc=>by simp only[List.cons_append,ZT];exact qA b l m _
def Qa8(b:Nat)(Qz:List Rec):List Nat->List Nat:=List.rec (fun acc=>acc) (fun r _ ih acc=>ih (kF b r.R acc)) Qz
theorem Ei(b:Nat):∀(Qz:List Rec) (acc:List Nat),Qa8 b Qz acc=ZT b (Y9 Qz) acc
 |[],_=>rfl
 |r::l,acc=>by
  show Qa8 b l (kF b r.R acc)=_;rw[Ei b l,iq,show Y9 (r::l)=r.R++Y9 l from LW,qA]
def Qa7(b:Nat)(Qz:List Rec):List Nat->List Nat:=List.rec (fun acc=>acc) (fun r _ ih acc=>ih (kF b r.W acc)) Qz
theorem Eh(b:Nat):∀(Qz:List Rec) (acc:List Nat),Qa7 b Qz acc=ZT b (Uc Qz) acc
 |[],_=>rfl
 |r::l,acc=>by
  show Qa7 b l (kF b r.W acc)=_;rw[Eh b l,iq,show Uc (r::l)=r.W++Uc l from LW,qA]
def GI(P:Program)(F:FuncId->Bool)(Xr:WZ)(rec:CF->Qq->Nat->Option Rs)(len:Nat)(tr:Tri)(ops:Array Oper)(H:Qq)(n:Nat):qE:=
 LQ (PT P F Xr rec ops ops.toList ⟨len,tr⟩ H n) (D6 P F Xr rec len ops ops.toList tr H n) (ur len ops.toList)
theorem GH(P:Program)(F:FuncId->Bool)(Xr:WZ)(rec:CF->Qq->Nat->Option Rs)(len:Nat)(tr:Tri)(ops:Array Oper)(H:Qq)(n:Nat):GI P F Xr rec len tr ops H n=PT P F Xr rec ops ops.toList ⟨len,tr⟩ H n:=by
 unfold GI;cases hd:ur len ops.toList with
 |false=>rfl
 |true=>exact vD P F Xr rec len ops _ _ _ _ hd
abbrev Run:=Nat->FuncId->Nat->Tri->List Item->List Nat->Option Nat->Qq->Nat->List Nat->List Nat->Option Rs
def OV(P:Program)(F:FuncId->Bool)(Xr:WZ)(fuel:Nat)(ih:Run)(c1:CF)(H1:Qq)(n1:Nat):Option Rs:=
 CF.rec (fun fn T todo ds mode ro=>CM.rec (Tm.rec (fun len tr=>ih n1 fn len tr todo ds ro H1 n1 [] []) T) (Po P F Xr fuel n1 ⟨fn,T,todo,ds,.ret,ro⟩ H1 n1 [] []) (fun v=>Po P F Xr fuel n1 ⟨fn,T,todo,ds,.Wn v,ro⟩ H1 n1 [] []) mode) c1
def goF(P:Program)(F:FuncId->Bool)(Xr:WZ)(fuel:Nat)(ih:Run)(b:Nat)(c1:CF)(H1:Qq)(n1:Nat)(R W:List Nat):Option Rs:=
 CF.rec (fun fn T todo ds mode ro=>CM.rec (Tm.rec (fun len tr=>ih b fn len tr todo ds ro H1 n1 R W) T) (Po P F Xr fuel b ⟨fn,T,todo,ds,.ret,ro⟩ H1 n1 R W) (fun v=>Po P F Xr fuel b ⟨fn,T,todo,ds,.Wn v,ro⟩ H1 n1 R W) mode) c1
def resume(P:Program)(F:FuncId->Bool)(Xr:WZ)(fuel:Nat)(ih:Run)(b:Nat)(R W:List Nat)(x:Option FS):Option Rs:=
 Option.rec none (fun fs=>FS.rec (fun c' H' n' R' W'=>goF P F Xr fuel ih b c' H' n' (ZT b R' R) (ZT b W' W)) (fun out H' n' R' W'=>some ⟨out,H',n',ZT b R' R,ZT b W' W⟩) fs) x
abbrev Nb:=Program->(FuncId->Bool)->WZ->Nat->Run->Nat->FuncId->Nat->Tri->List Item->List Nat->Option Nat->Qq->Nat->List Nat->List Nat->Option Rs
def Tq(it:Item):Nb:=fun P F Xr fuel ih b fn len tr k ds ro H n R W=>resume P F Xr fuel ih b R W (iX P F Xr (OV P F Xr fuel ih) ⟨fn,⟨len,tr⟩,it::k,ds,.run,ro⟩ H n)
def DW:Nb:=fun _ _ _ _ ih b fn len tr k ds ro H n R W=>ih b fn len tr k ds ro H n R W
def QbA(x y:Code):Nb:=fun _ _ _ _ ih b fn len tr k ds ro H n R W=>ih b fn len tr (.code x::.code y::k) ds ro H n R W
def Qbj(q:Operand)(x y:Code):Nb:=fun _ _ _ _ ih b fn len tr k ds ro H n R W=>Option.rec none (fun v=>Option.rec none (fun t=>LQ (ih b fn len tr (.code y::k) ds ro H n R W) (ih b fn len tr (.code x::k) ds ro H n R W) t) (Sz v)) (aK tr q)
def Qaw(id:Nat)(x:Code):Nb:=fun _ _ _ _ ih b fn len tr k ds ro H n R W=>ih b fn len tr (.code x::.inBlock id::k) ds ro H n R W
def O9(x:Code):Nb:=fun _ _ _ _ ih b fn len tr k ds ro H n R W=>ih b fn len tr (.code x::.inLoop x::k) ds ro H n R W
def Qav(x:Code):Nb:=fun _ _ _ _ ih b fn len tr k ds ro H n R W=>ih b fn len tr (.code x::.inScope x::k) ds ro H n R W
def uh(id:Nat)(ops:Array Oper)(draw:Bool):Nb:=fun P F Xr fuel ih b fn len tr k ds ro H n R W=>
 Option.rec none (fun p=>Prod.rec (fun Qz f=>RF.rec (fun T' H' n'=>LQ none (Tm.rec (fun len' tr'=>ih b fn len' tr' k ds ro H' n' (Qa8 b Qz R) (Qa7 b Qz W)) T') (chk ops Qz draw))
  (fun T' v H' n' R1 W1=>resume P F Xr fuel ih b R W (OZ ⟨fn,⟨len,tr⟩,.code (.region id ops draw)::k,ds,.run,ro⟩ ops draw k (some (Qz,.Wn T' v H' n' R1 W1)))) f) p) (GI P F Xr (OV P F Xr fuel ih) len tr ops H n)
def codeF(cd:Code):Nb:=Code.rec DW uh (fun x y _ _=>QbA x y) (fun q x y _ _=>Qbj q x y) (fun id x _=>Qaw id x) (fun x _=>O9 x) (fun f ps x y _ _=>Tq (.code (.rangeFunc f ps x y))) (fun id=>Tq (.code (.exit id))) (fun x _=>Qav x) (fun _=>DW) (fun l=>Tq (.code (.goto l))) (Tq (.code .ret)) (fun w=>Tq (.code (.refuse w))) cd
def O8(it:Item):Nb:=Item.rec codeF (fun _=>DW) O9 (fun _=>DW) (fun a b=>Tq (.inRegion a b)) (fun l=>Tq (.inRangeFunc l)) (fun l=>Tq (.endRangeFunc l)) (Tq .beginRound) (fun a b c d=>Tq (.call a b c d)) (fun a b=>Tq (.extern a b)) it
def bV(P:Program)(F:FuncId->Bool)(Xr:WZ)(fuel:Nat):Run:=Nat.rec (fun _ _ _ _ _ _ _ _ _ _ _=>none) (fun fuel ih b fn len tr todo ds ro H n R W=>
 List.rec (resume P F Xr fuel ih b R W (Sr ⟨fn,⟨len,tr⟩,[],ds,.run,ro⟩ H n none)) (fun it k _=>O8 it P F Xr fuel ih b fn len tr k ds ro H n R W) todo) fuel
theorem qc(P:Program)(F:FuncId->Bool)(Xr:WZ):∀(fuel b:Nat) (fn:FuncId) (len:Nat) (tr:Tri) (todo:List Item) (ds:List Nat) (ro:Option Nat) (H:Qq) (n:Nat) (R W:List Nat),bV P F Xr fuel b fn len tr todo ds ro H n R W=Po P F Xr fuel b ⟨fn,⟨len,tr⟩,todo,ds,.run,ro⟩ H n R W
 |0,_,_,_,_,_,_,_,_,_,_,_=>rfl
 |fuel+1,b,fn,len,tr,todo,ds,ro,H,n,R,W=>by
  have hih:∀(b:Nat) (fn:FuncId) (len:Nat) (tr:Tri) (todo:List Item) (ds:List Nat) (ro:Option Nat) (H:Qq) (n:Nat) (R W:List Nat),bV P F Xr fuel b fn len tr todo ds ro H n R W=Po P F Xr fuel b ⟨fn,⟨len,tr⟩,todo,ds,.run,ro⟩ H n R W:=qc P F Xr fuel;have Vv:OV P F Xr fuel (bV P F Xr fuel)=fun c1 H1 n1=>Po P F Xr fuel n1 c1 H1 n1 [] []:=by
   funext c1 H1 n1;obtain⟨fn,⟨len,tr⟩,todo,ds,mode,ro⟩:=c1;cases mode with
   |run=>exact hih _ _ _ _ _ _ _ _ _ _ _
   |ret=>rfl
   |Wn v=>rfl
  have hres:∀(R W:List Nat) (x:Option FS),resume P F Xr fuel (bV P F Xr fuel) b R W x=match x with
   |some (.go c' H' n' R' W')=>Po P F Xr fuel b c' H' n' (ZT b R' R) (ZT b W' W)
   |some (.done out H' n' R' W')=>some ⟨out,H',n',ZT b R' R,ZT b W' W⟩
   |none=>none:=by
   intro R W x;cases x with
   |none=>rfl
   |some fs=>
    cases fs with
    |done out H' n' R' W'=>rfl
    |go c' H' n' R' W'=>
     obtain⟨fn,⟨len,tr⟩,todo,ds,mode,ro⟩:=c';cases mode with
     |run=>exact hih _ _ _ _ _ _ _ _ _ _ _
     |ret=>rfl
     |Wn v=>rfl
  have hslow:∀(it:Item) (k:List Item),Tq it P F Xr fuel (bV P F Xr fuel) b fn len tr k ds ro H n R W=Po P F Xr (fuel+1) b ⟨fn,⟨len,tr⟩,it::k,ds,.run,ro⟩ H n R W:=by
   intro it k;unfold Tq;rw[hres,Vv];rfl
  cases todo with
  |nil=>exact hres R W _
  |cons it k=>
   show O8 it P F Xr fuel (bV P F Xr fuel) b fn len tr k ds ro H n R W=_;cases it with
   |code cd=>
    cases cd with
    |skip=>exact hih _ _ _ _ _ _ _ _ _ _ _
    |label l=>exact hih _ _ _ _ _ _ _ _ _ _ _
    |seq x y=>exact hih _ _ _ _ _ _ _ _ _ _ _
    |block id x=>exact hih _ _ _ _ _ _ _ _ _ _ _
    |loop x=>exact hih _ _ _ _ _ _ _ _ _ _ _
    |scope x=>exact hih _ _ _ _ _ _ _ _ _ _ _
    |cond q x y=>
     show(Option.rec none (fun v=>Option.rec none (fun t=>LQ (bV P F Xr fuel b fn len tr (.code y::k) ds ro H n R W) (bV P F Xr fuel b fn len tr (.code x::k) ds ro H n R W) t) (Sz v)) (aK tr q):Option Rs)=_;rw[M1 len tr,hih,hih];simp only[Po,iX,j3,j4];cases Zd ⟨len,tr⟩ q with
     |none=>rfl
     |some v=>
      cases v with
      |bool t=>cases t <;> rfl
      |_=>rfl
    |region id ops draw=>
     show uh id ops draw P F Xr fuel (bV P F Xr fuel) b fn len tr k ds ro H n R W=_;unfold uh;rw[GH,Vv];simp only[Po,iX,j3,j4,Ei,Eh];cases hrr:PT P F Xr (fun c1 H1 n1=>Po P F Xr fuel n1 c1 H1 n1 [] []) ops ops.toList ⟨len,tr⟩ H n with
     |none=>rfl
     |some p=>
      obtain⟨Qz,f⟩:=p;cases f with
      |Wn v H' n' R1 W1=>exact hres R W _
      |ok T' H' n'=>
       have hck:=Qa3 (draw:=draw) (iy _ _ _ _ _ _ _ _ hrr);obtain⟨len',tr'⟩:=T';simp only[OZ];rw[hck];cases !draw || (WY 0 ops.toList && indep ops 0 Qz (P3 ops.toList []))with
       |false=>rfl
       |true=>exact hih _ _ _ _ _ _ _ _ _ _ _
    |rangeFunc f ps x y=>exact hslow _ k
    |exit id=>exact hslow _ k
    |goto id=>exact hslow _ k
    |ret=>exact hslow _ k
    |refuse w=>exact hslow (.code (.refuse w)) k
   |inBlock id=>exact hih _ _ _ _ _ _ _ _ _ _ _
   |inScope x=>exact hih _ _ _ _ _ _ _ _ _ _ _
   |inLoop x=>exact hih _ _ _ _ _ _ _ _ _ _ _
   |inRegion a b=>exact hslow _ k
   |inRangeFunc l=>exact hslow _ k
   |endRangeFunc l=>exact hslow _ k
   |beginRound=>exact hslow _ k
   |call a b c d=>exact hslow _ k
   |extern a b=>exact hslow _ k
end
end Go.CE
