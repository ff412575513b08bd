import Derived.Test.YtncjjangllkokaaZRV05
set_option linter.all false
open Bool renaming rec->OP
open Nat renaming beq->Of,ble->ON,blt->On
open Array renaming getElem?_toList->Om
open List renaming flatMap_cons->OX
namespace Go.CE
open Go Go.RowKit
noncomputable section

def fx(t:Tri):Nat->Value:=Tri.rec (fun _=>undef) (fun _ v _ gl gr k=>Nat.rec v (fun j _=>OP (gr (Nat.div j 2)) (gl (Nat.div j 2)) (Of (Nat.mod j 2) 0)) k) t
theorem bj:∀(t:Tri) (k:Nat),fx t k=t.get k
 | .lf,k=>by cases k <;> rfl
 | .nd l v r,0=>rfl
 | .nd l v r,k+1=>by
   show(OP (fx r (k / 2)) (fx l (k / 2)) (Of (k % 2) 0):Value)=bif Of (k % 2) 0 then l.get (k / 2)else r.get (k / 2);rw[bj l,bj r];cases Of (k % 2) 0 <;> rfl
def cw(f:Nat):Tri->Nat->Value->Tri:=Nat.rec (fun t _ _=>t) (fun _ ih t i x=>Tri.rec
 (Nat.rec (.nd .lf x .lf) (fun j _=>OP (.nd .lf undef (ih .lf (Nat.div j 2) x)) (.nd (ih .lf (Nat.div j 2) x) undef .lf) (Of (Nat.mod j 2) 0)) i)
 (fun l v r _ _=>Nat.rec (.nd l x r) (fun j _=>OP (.nd l v (ih r (Nat.div j 2) x)) (.nd (ih l (Nat.div j 2) x) v r) (Of (Nat.mod j 2) 0)) i) t) f
theorem bh:∀(f:Nat) (t:Tri) (i:Nat) (x:Value),cw f t i x=Tri.set f t i x
 |0,_,_,_=>rfl
 |f+1,.lf,0,x=>rfl
 |f+1,.nd l v r,0,x=>rfl
 |f+1,.lf,k+1,x=>by
  show(OP (Tri.nd .lf undef (cw f .lf (k / 2) x)) (Tri.nd (cw f .lf (k / 2) x) undef .lf) (Of (k % 2) 0):Tri)=bif Of (k % 2) 0 then .nd (Tri.set f .lf (k / 2) x) undef .lf else .nd .lf undef (Tri.set f .lf (k / 2) x);rw[bh f];cases Of (k % 2) 0 <;> rfl
 |f+1,.nd l v r,k+1,x=>by
  show(OP (Tri.nd l v (cw f r (k / 2) x)) (Tri.nd (cw f l (k / 2) x) v r) (Of (k % 2) 0):Tri)=bif Of (k % 2) 0 then .nd (Tri.set f l (k / 2) x) v r else .nd l v (Tri.set f r (k / 2) x);rw[bh f,bh f];cases Of (k % 2) 0 <;> rfl
def TE(tr:Tri)(x:Operand):Option Value:=Operand.rec (fun t=>some (fx tr t)) (fun v=>OP none (some v) (af v)) (fun _=>none) (fun f=>some (.func (.func f) #[] #[])) x
theorem Hv(len:Nat)(tr:Tri):TE tr=Zl ⟨len,tr⟩:=by
 funext x;cases x with
 |tmp t=>show some (fx tr t)=some (tr.get t);rw[bj]
 |const v=>show(OP none (some v) (af v):Option Value)=bif af v then some v else none;cases af v <;> rfl
 |global g=>rfl
 |func f=>rfl
def FU(tr:Tri)(d:Option Tmp)(v:Value):Tri:=Option.rec tr (fun d=>cw 14 tr d v) d
theorem Br(len:Nat)(tr:Tri)(d:Option Tmp)(v:Value):(⟨len,FU tr d v⟩:Tm)=VM ⟨len,tr⟩ d v:=by
 cases d with
 |none=>rfl
 |some d=>show(⟨len,cw 14 tr d v⟩:Tm)=⟨len,tr.set 14 d v⟩;rw[bh]
def IL{α:Type}(l:List α):Nat->Option α:=List.rec (fun _=>none) (fun x _ ih k=>Nat.rec (some x) (fun j _=>ih j) k) l
theorem By{α:Type}:∀(l:List α) (k:Nat),IL l k=l[k]?
 |[],k=>by cases k <;> rfl
 |x::l,0=>rfl
 |x::l,k+1=>by show IL l k=_;rw[By l k];rfl
def s5(P:Program)(t:TypeId)(cs:Array Value)(off:Nat):Option Value:=
 Option.rec none (fun g=>OP (IL cs.toList off) (Option.rec none (fun s=>OP none (some (.agg (cs.extract off (off+s)))) (ON (off+s) cs.size)) (W8 P t)) g) (oB P t)
theorem qy(P:Program)(t:TypeId)(cs:Array Value)(off:Nat):s5 P t cs off=Y8 P t cs off:=by
 unfold s5 Y8;cases oB P t with
 |none=>rfl
 |some g=>
  cases g with
  |false=>show IL cs.toList off=_;rw[By,Om]
  |true=>
   cases W8 P t with
   |none=>rfl
   |some s=>simp only;cases ON (off+s) cs.size <;> rfl
def s7(P:Program)(t:TypeId)(H:Qy)(p:Value):Option (Value×Nat):=match p with
 | .pointer (some ⟨b,off,none⟩)=>match Q1 H b with
   |some (.cells cs _ _)=>match s5 P t cs off with
    |some v=>some (v,b)
    |none=>none
   |_=>none
 |_=>none
theorem E0(P:Program)(t:TypeId)(H:Qy)(p:Value):s7 P t H p=SQ P t H p:=by
 unfold s7 SQ;simp only[qy];rfl
def sJ(p:Value->Bool)(l:List Value):Bool:=List.rec true (fun x _ ih=>OP false ih (p x)) l
theorem ft(p:Value->Bool):∀(l:List Value),sJ p l=l.all p
 |[]=>rfl
 |x::l=>by
  show(OP false (sJ p l) (p x):Bool)=_;rw[ft p l,List.all_cons];cases p x <;> rfl
def GS(cs:Array Value):Bool:=sJ (·.oneCell') cs.toList
theorem GR(cs:Array Value):GS cs=ones cs:=by
 unfold GS ones;rw[ft,Array.all_toList]
def MQ(v:Value):Bool:=match v with
 | .agg xs=>sJ simple xs.toList
 |v=>simple v
theorem EZ(v:Value):MQ v=sa v:=by
 cases v <;> first|rfl|(show sJ simple _=_;rw[ft,Array.all_toList];rfl)
def NN(v:Value):Bool:=match v with
 | .agg xs=>sJ simple xs.toList
 | .tuple xs=>sJ MQ xs.toList
 | .iface _ v=>MQ v
 |v=>simple v
theorem M9(v:Value):NN v=af v:=by
 cases v with
 |iface t v=>exact EZ v
 |tuple xs=>show sJ MQ _=_;rw[show MQ=sa from funext EZ,ft,Array.all_toList];rfl
 |_=>first|rfl|(show sJ simple _=_;rw[ft,Array.all_toList];rfl)
def jU(P:Program)(t:TypeId)(H:Qy)(v p:Value):Option (Qy×Nat):=match p with
 | .pointer (some ⟨b,off,none⟩)=>match Q1 H b with
   |some (.cells cs te (0,0))=>match W8 P t with
    |some s=>bif Of v.cells.size s && GS v.cells && ON (off+s) cs.size then some (VK H b (.cells (splice cs off v.cells) te (0,0)),b)else none
    |none=>none
   |_=>none
 |_=>none
theorem AJ(P:Program)(t:TypeId)(H:Qy)(v p:Value):jU P t H v p=Sb P t H v p:=by
 unfold jU Sb;simp only[GR];rfl
def jW(P:Program)(t:TypeId)(f:Nat)(x:Value):Option Value:=match x with
 | .agg cs=>match Rg P t with
   |some (.struct fields)=>match fields[f]? with
    |some fd=>s5 P fd.type cs fd.offset
    |none=>none
   |_=>none
 |_=>none
theorem AO(P:Program)(t:TypeId)(f:Nat)(x:Value):jW P t f x=gK P t f x:=by
 unfold jW gK;simp only[qy];rfl
def yq(ops:Array Oper)(tr:Tri)(j:Nat):Option Bool:=match nth ops.toList j with
 |some o=>match o.dst with
  |some t=>Sc (fx tr t)
  |none=>none
 |none=>none
theorem BH(len:Nat)(ops:Array Oper)(tr:Tri)(j:Nat):yq ops tr j=XX ops ⟨len,tr⟩ j:=by
 unfold yq XX;simp only[bj,Zj];rfl
def Bb(ops:Array Oper)(tr:Tri)(g:Option (Nat×Bool)):Bool:=Option.rec true (fun jw=>Prod.rec (fun j w=>Option.rec false (fun b=>OP (OP true false w) (OP false true w) b) (yq ops tr j)) jw) g
theorem EA(len:Nat)(ops:Array Oper)(tr:Tri)(o:Oper):Bb ops tr o.guard=Region.wanted o (XX ops ⟨len,tr⟩):=by
 unfold Bb Region.wanted;cases o.guard with
 |none=>rfl
 |some jw=>
  obtain⟨j,w⟩:=jw;simp only[BH len];cases XX ops ⟨len,tr⟩ j with
  |none=>rfl
  |some b=>cases b <;> cases w <;> rfl
abbrev oH:=Option (List Rec×RF)
abbrev KV:=Value->Qy->Nat->List Nat->List Nat->oH
abbrev E9:=Program->(FuncId->Bool)->Vf->(CF->Qy->Nat->Option Rs)->Nat->Tri->Oper->Qy->Nat->KV->KV->oH
def fin(k kp:KV)(s:Option Rs):oH:=match s with
 |some ⟨out,H,n,R,W⟩=>match out with
  | .ret v=>k v H n R W
  | .Wp v=>kp v H n R W
 |none=>none
def pv(k:KV)(H:Qy)(n:Nat)(x:Option Value):oH:=Option.rec none (fun v=>k v H n [] []) x
theorem aW(k kp:KV)(H:Qy)(n:Nat)(x:Option Value):fin k kp (qV x H n)=pv k H n x:=by cases x <;> rfl
def LC(x:Operand):E9:=fun _ _ _ _ _ tr _ H n k _=>pv k H n (TE tr x)
def Nt(c a b:Operand):E9:=fun _ _ _ _ _ tr _ H n k _=>Option.rec none (fun v=>Option.rec none (fun t=>OP (pv k H n (TE tr b)) (pv k H n (TE tr a)) t) (Sc v)) (TE tr c)
def Nu(t:TypeId)(a:Operand):E9:=fun P _ _ _ _ tr _ H n k _=>Option.rec none (fun p=>Option.rec none (fun vb=>Prod.rec (fun v b=>OP none (k v H n [b] []) (On b n)) vb) (s7 P t H p)) (TE tr a)
def MC(t:TypeId)(a x:Operand):E9:=fun P _ _ _ _ tr _ H n k _=>Option.rec none (fun p=>Option.rec none (fun v=>Option.rec none (fun hb=>Prod.rec (fun H' b=>OP none (k undef H' n [b] [b]) (On b n)) hb) (jU P t H v p)) (TE tr x)) (TE tr a)
def AY(s:TypeId)(x:Operand)(f:Nat):E9:=fun P _ _ _ _ tr _ H n k _=>Option.rec none (fun p=>pv k H n (Wl P s f p)) (TE tr x)
def MD(s:TypeId)(x:Operand)(f:Nat):E9:=fun P _ _ _ _ tr _ H n k _=>Option.rec none (fun p=>pv k H n (jW P s f p)) (TE tr x)
def AX(t:TypeId)(x i:Operand):E9:=fun P _ _ _ _ tr _ H n k _=>Option.rec none (fun p=>Option.rec none (fun j=>pv k H n (Jd P t p j)) (TE tr i)) (TE tr x)
def HR(x:Operand)(i:Nat):E9:=fun _ _ _ _ _ tr _ H n k _=>Option.rec none (fun p=>pv k H n (SS i p)) (TE tr x)
def NI(op:BinOp)(_:TypeId)(x y:Operand)(_:TypeId):E9:=fun P _ _ _ _ tr o H n k _=>Option.rec none (fun a=>Option.rec none (fun b=>Option.rec (pv k H n (Kd P (TE tr) o)) (fun v=>k v H n [] []) (AQ op a b)) (TE tr y)) (TE tr x)
def H4(v:Value)(r:CR)(k:KV)(H':Qy)(n':Nat)(R W:List Nat):oH:=List.rec (OP (k v H' n' (r.R++R) (r.W++[])) (k v r.H n' (r.R++R) (r.W++[])) (NN v)) (fun _ _ _=>k v H' n' (r.R++R) (r.W++W)) W
def BB(r:CR)(k kp:KV)(s:Option Rs):oH:=Option.rec none (fun s=>Rs.rec (fun out H' n' R W=>OO.rec (fun v=>H4 v r k H' n' R W) (fun v=>kp v H' n' (r.R++R) (r.W++W)) out) s) s
theorem HN(r:CR)(k kp:KV)(s:Option Rs):BB r k kp s=fin k kp (match s with|some s=>FO r s|none=>none):=by
 cases s with
 |none=>rfl
 |some s=>
  obtain⟨out,H',n',R,W⟩:=s;cases out with
  |Wp v=>
   cases W with
   |nil=>rfl
   |cons a b=>rfl
  |ret v=>
   show H4 v r k H' n' R W=_;unfold H4;cases W with
   |nil=>
    rw[M9];simp only[FO,Jj];cases af v <;> rfl
   |cons a b=>rfl
def so(P:Program)(Xx:Vf)(rec:CF->Qy->Nat->Option Rs)(g:FuncId)(args:Array Value)(r:CR)(k kp:KV):oH:=Option.rec (Option.rec none (fun c=>BB r k kp (rec c r.H r.n)) (ZW P g args)) (fun _=>fin k kp (qU P Xx rec g args r)) (Xx g args r.H r.n)
theorem Eu(P:Program)(Xx:Vf)(rec:CF->Qy->Nat->Option Rs)(g:FuncId)(args:Array Value)(r:CR)(k kp:KV):so P Xx rec g args r k kp=fin k kp (qU P Xx rec g args r):=by
 unfold so;cases ho:Xx g args r.H r.n with
 |some x=>rfl
 |none=>
  unfold qU;rw[ho];show(Option.rec none (fun c=>BB r k kp (rec c r.H r.n)) (ZW P g args):oH)=fin k kp (Mb P rec g args r);unfold Mb;cases ZW P g args with
  |none=>rfl
  |some c=>
   show BB r k kp (rec c r.H r.n)=_;rw[HN];rfl
def HE(P:Program)(Xx:Vf)(rec:CF->Qy->Nat->Option Rs)(n:Nat)(x:Option CR)(k kp:KV):oH:=Option.rec none (fun r=>CN.rec (fun _=>fin k kp (qR P Xx rec n (some r))) (fun g args=>OP none (so P Xx rec g args r k kp) (r.R.all (fun i=>On i n))) (fun _ _ _ _ _=>fin k kp (qR P Xx rec n (some r))) r.nx) x
theorem HD(P:Program)(Xx:Vf)(rec:CF->Qy->Nat->Option Rs)(n:Nat)(x:Option CR)(k kp:KV):HE P Xx rec n x k kp=fin k kp (qR P Xx rec n x):=by
 cases x with
 |none=>rfl
 |some r=>
  obtain⟨nx,H',n',R,W⟩:=r;cases nx with
  |val v=>rfl
  |round l fn tm a b=>rfl
  |enter g args=>
   show(OP none (so P Xx rec g args ⟨.enter g args,H',n',R,W⟩ k kp) (R.all (fun i=>On i n)):oH)=_;rw[Eu];simp only[qR];cases R.all (fun i=>On i n) <;> rfl
def Nv(c:Call):E9:=fun P F Xx rec _ tr o H n k kp=>HE P Xx rec n (dI P F (TE tr) o c H n) k kp
def K4:E9:=fun P F Xx rec len tr o H n k kp=>fin k kp (sR P F Xx rec ⟨len,tr⟩ o H n)
def NF(op:Op):E9:=Op.rec LC LC Nt (fun _=>K4) (fun _ _=>K4) (fun _ _=>K4) (fun _ _ _=>K4) (fun _ _ _ _=>K4) Nu MC (fun _=>K4) (fun _=>K4) (fun _=>K4) NI (fun _ _ _=>K4) (fun _ _ _=>K4) (fun _ _=>K4) (fun _ _=>K4)
 (fun _ _ _=>K4) (fun _ _=>K4) (fun _ _=>K4) (fun _ _ _=>K4) (fun _ _ _ _ _=>K4) AY MD AX (fun _ _ _=>K4) (fun _ _ _ _=>K4) (fun _ _ _ _=>K4) (fun _ _ _=>K4) (fun _ _ _ _=>K4) (fun _ _=>K4) (fun _ _=>K4) (fun _=>K4) (fun _ _ _ _=>K4)
 HR Nv (fun _=>K4) (fun _=>K4) (fun _=>K4) (fun _ _=>K4) (fun _ _ _=>K4) (fun _ _=>K4) op
theorem Mq(P:Program)(F:FuncId->Bool)(Xx:Vf)(rec:CF->Qy->Nat->Option Rs)(len:Nat)(tr:Tri)(o:Oper)(H:Qy)(n:Nat)(k kp:KV):NF o.op P F Xx rec len tr o H n k kp=fin k kp (sR P F Xx rec ⟨len,tr⟩ o H n):=by
 have e:=Hv len tr;cases hp:o.op with
 |move x=>show pv k H n (TE tr x)=_;rw[e];unfold sR;simp only[hp];exact(aW k kp H n _).symm
 |assign x=>show pv k H n (TE tr x)=_;rw[e];unfold sR;simp only[hp];exact(aW k kp H n _).symm
 |pick c a b=>
  show(Option.rec none (fun v=>Option.rec none (fun t=>OP (pv k H n (TE tr b)) (pv k H n (TE tr a)) t) (Sc v)) (TE tr c):oH)=_;rw[e];unfold sR;simp only[hp];cases Zl ⟨len,tr⟩ c with
  |none=>rfl
  |some v=>
   cases v with
   |bool t=>cases t <;> exact(aW k kp H n _).symm
   |_=>rfl
 |load t a=>
  show(Option.rec none (fun p=>Option.rec none (fun vb=>Prod.rec (fun v b=>OP none (k v H n [b] []) (On b n)) vb) (s7 P t H p)) (TE tr a):oH)=_;simp only[E0];rw[e];unfold sR;simp only[hp];cases Zl ⟨len,tr⟩ a with
  |none=>rfl
  |some p=>
   simp only[FK];cases SQ P t H p with
   |none=>rfl
   |some vb=>
    obtain⟨v,b⟩:=vb;cases hb:On b n <;> simp[qR,fin,Bp,hb]
 |store t a x=>
  show(Option.rec none (fun p=>Option.rec none (fun v=>Option.rec none (fun hb=>Prod.rec (fun H' b=>OP none (k undef H' n [b] [b]) (On b n)) hb) (jU P t H v p)) (TE tr x)) (TE tr a):oH)=_;simp only[AJ];rw[e];unfold sR;simp only[hp];cases Zl ⟨len,tr⟩ a with
  |none=>rfl
  |some p=>
   cases Zl ⟨len,tr⟩ x with
   |none=>rfl
   |some v=>
    simp only[yN];cases Sb P t H v p with
    |none=>rfl
    |some vb=>
     obtain⟨H',b⟩:=vb;cases hb:On b n <;> simp[qR,fin,Bp,hb]
 |fieldAddr s x f=>
  show(Option.rec none (fun p=>pv k H n (Wl P s f p)) (TE tr x):oH)=_;rw[e];unfold sR;simp only[hp];cases Zl ⟨len,tr⟩ x with
  |none=>rfl
  |some p=>simp only[c9,Rn];exact(aW k kp H n _).symm
 |field s x f=>
  show(Option.rec none (fun p=>pv k H n (jW P s f p)) (TE tr x):oH)=_;simp only[AO];rw[e];unfold sR;simp only[hp];cases Zl ⟨len,tr⟩ x with
  |none=>rfl
  |some p=>simp only[yO,Rn];exact(aW k kp H n _).symm
 |indexAddr t x i=>
  show(Option.rec none (fun p=>Option.rec none (fun j=>pv k H n (Jd P t p j)) (TE tr i)) (TE tr x):oH)=_;rw[e];unfold sR;simp only[hp];cases Zl ⟨len,tr⟩ x with
  |none=>rfl
  |some p=>
   cases Zl ⟨len,tr⟩ i with
   |none=>rfl
   |some j=>simp only[c8,Rn];exact(aW k kp H n _).symm
 |extract x i=>
  show(Option.rec none (fun p=>pv k H n (SS i p)) (TE tr x):oH)=_;rw[e];unfold sR;simp only[hp];cases Zl ⟨len,tr⟩ x with
  |none=>rfl
  |some p=>simp only[lu,Rn];exact(aW k kp H n _).symm
 |binOp op t x y t'=>
  show(Option.rec none (fun a=>Option.rec none (fun b=>Option.rec (pv k H n (Kd P (TE tr) o)) (fun v=>k v H n [] []) (AQ op a b)) (TE tr y)) (TE tr x):oH)=_;rw[e];unfold sR;simp only[hp];cases Zl ⟨len,tr⟩ x with
  |none=>rfl
  |some a=>
   cases Zl ⟨len,tr⟩ y with
   |none=>rfl
   |some b=>
    simp only[Me];cases AQ op a b with
    |none=>simp only[Rn];exact(aW k kp H n _).symm
    |some v=>rfl
 |call c=>show HE P Xx rec n (dI P F (TE tr) o c H n) k kp=_;rw[HD,e];unfold sR;simp only[hp]
 |_=>rfl
def B7(r:Rec)(x:oH):oH:=Option.rec none (fun p=>Prod.rec (fun rs f=>some (r::rs,f)) p) x
def Bj(P:Program)(F:FuncId->Bool)(Xx:Vf)(rec:CF->Qy->Nat->Option Rs)(len:Nat)(ops:Array Oper)(l:List Oper):Tri->Qy->Nat->oH:=
 List.rec (fun tr H n=>some ([],.ok ⟨len,tr⟩ H n)) (fun o _ ih tr H n=>OP
  (B7 ⟨o,false,undef,⟨len,tr⟩,H,H,n,n,[],[]⟩ (ih (FU tr o.dst undef) H n))
  (NF o.op P F Xx rec len tr o H n (fun v H' n' R W=>B7 ⟨o,true,v,⟨len,tr⟩,H,H',n,n',R,W⟩ (ih (FU tr o.dst v) H' n')) (fun v H' n' R W=>some ([],.Wp ⟨len,tr⟩ v H' n' R W)))
  (Bb ops tr o.guard)) l
def sq(len:Nat)(l:List Oper):Bool:=l.all fun o=>Rc ⟨len,.lf⟩ o.dst
theorem tA(P:Program)(F:FuncId->Bool)(Xx:Vf)(rec:CF->Qy->Nat->Option Rs)(len:Nat)(ops:Array Oper):∀(l:List Oper) (tr:Tri) (H:Qy) (n:Nat),sq len l=true->Bj P F Xx rec len ops l tr H n=PM P F Xx rec ops l ⟨len,tr⟩ H n
 |[],_,_,_,_=>rfl
 |o::l,tr,H,n,hd=>by
  simp only[sq,List.all_cons,YB]at hd;have hd1:Rc ⟨len,tr⟩ o.dst=true:=by
   have:=hd.1;cases hq:o.dst with
   |none=>rfl
   |some x=>rw[hq]at this;exact this
  have ih:=tA P F Xx rec len ops l;show(OP (B7 ⟨o,false,undef,⟨len,tr⟩,H,H,n,n,[],[]⟩ (Bj P F Xx rec len ops l (FU tr o.dst undef) H n))
   (NF o.op P F Xx rec len tr o H n (fun v H' n' R W=>B7 ⟨o,true,v,⟨len,tr⟩,H,H',n,n',R,W⟩ (Bj P F Xx rec len ops l (FU tr o.dst v) H' n')) (fun v H' n' R W=>some ([],.Wp ⟨len,tr⟩ v H' n' R W)))
   (Bb ops tr o.guard):oH)=_
  rw[EA len];simp only[PM,hd1,cond_true];cases Region.wanted o (XX ops ⟨len,tr⟩)with
  |false=>
   simp only[cond_false];rw[ih _ _ _ hd.2,Br];cases PM P F Xx rec ops l (VM ⟨len,tr⟩ o.dst undef) H n <;> rfl
  |true=>
   simp only[cond_true,Mq];cases sR P F Xx rec ⟨len,tr⟩ o H n with
   |none=>rfl
   |some s=>
    obtain⟨out,H',n',R,W⟩:=s;cases out with
    |Wp v=>rfl
    |ret v=>
     simp only[fin];rw[ih _ _ _ hd.2,Br];cases PM P F Xx rec ops l (VM ⟨len,tr⟩ o.dst v) H' n' <;> rfl
def TJ(ops:Array Oper)(o:Oper)(k:Nat):List Oper->List (List Nat)->Bool
 |x::l,b::bs=>(b.contains k || o.apart ops x) && TJ ops o k l bs
 |[],_=>true
 |_::_,[]=>false
def stat(ops:Array Oper):Nat->List Oper->List (List Nat)->Bool
 |k,o::l,_::bs=>TJ ops o k l bs && stat ops (k+1) l bs
 |_,[],_=>true
 |_,_::_,[]=>false
def cg(i:Nat)(l:List Nat):Bool:=List.rec false (fun j _ ih=>OP ih true (Of i j)) l
theorem fg(i:Nat):∀(l:List Nat),cg i l=l.contains i
 |[]=>rfl
 |j::l=>by
  show(OP (cg i l) true (Of i j):Bool)=_;rw[fg i l,List.contains_cons];by_cases e:i=j
  ·subst e;rw[Nat.beq_refl];simp
  ·rw[T9 e];simp[e]
def rO(W R:List Nat):Bool:=List.rec false (fun i _ ih=>OP ih true (cg i R)) W
theorem gx(R:List Nat):∀(W:List Nat),rO W R=W.any fun i=>R.contains i
 |[]=>rfl
 |i::W=>by
  show(OP (rO W R) true (cg i R):Bool)=_;rw[gx R W,fg,List.any_cons];cases R.contains i <;> rfl
def sE(lo hi:Nat)(R:List Nat):Bool:=List.rec false (fun i _ ih=>OP ih (OP ih true (On i hi)) (ON lo i)) R
theorem qD(lo hi:Nat):∀(R:List Nat),sE lo hi R=R.any fun i=>ON lo i && On i hi
 |[]=>rfl
 |i::R=>by
  show(OP (sE lo hi R) (OP (sE lo hi R) true (On i hi)) (ON lo i):Bool)=_;rw[qD lo hi R,List.any_cons];cases ON lo i <;> cases On i hi <;> rfl
def clear(r x:Rec):Bool:=OP (OP (OP true false (sE r.n r.n' x.R)) false (rO x.W r.R)) false (rO r.W x.R)
theorem AB{ops:Array Oper}{r x:Rec}(h:clear r x=true)(ha:r.o.apart ops x.o=true):tied ops r x=false:=by
 unfold clear at h;rw[qD,gx,gx]at h;unfold tied meets bears;rw[ha];revert h;cases r.W.any fun i=>x.R.contains i <;> cases x.W.any fun i=>r.R.contains i <;> cases x.R.any fun i=>ON r.n i && On i r.n' <;> simp
def T8(r:Rec)(k:Nat)(l:List Rec):List (List Nat)->Bool:=List.rec (fun _=>true) (fun x _ ih bs=>List.rec false (fun b bs' _=>OP (OP false (ih bs') (cg k b)) (ih bs') (clear r x)) bs) l
def dyn(l:List Rec):Nat->List (List Nat)->Bool:=List.rec (fun _ _=>true) (fun r l ih k bs=>List.rec false (fun _ bs' _=>OP false (ih (k+1) bs') (T8 r k l bs')) bs) l
theorem fD{ops:Array Oper}{r:Rec}(k:Nat):∀(l:List Rec) (bs:List (List Nat)),T8 r k l bs=true->TJ ops r.o k (l.map (·.o)) bs=true->Yk ops r k l bs=true
 |[],_,_,_=>by simp[Yk]
 |x::l,[],_,h=>by simp[TJ]at h
 |x::l,b::bs,hd,h=>by
  simp only[List.map_cons,TJ,YB,Bool.or_eq_true]at h;simp only[Yk,YB,Bool.or_eq_true,Bool.not_eq_true'];have hd:(OP (OP false (T8 r k l bs) (cg k b)) (T8 r k l bs) (clear r x):Bool)=true:=hd;cases hc:clear r x with
  |true=>
   rw[hc]at hd;exact⟨h.1.imp id fun ha=>AB hc ha,fD k l bs hd h.2⟩
  |false=>
   rw[hc]at hd;have hd:(OP false (T8 r k l bs) (cg k b):Bool)=true:=hd;cases he:cg k b with
   |false=>rw[he]at hd;cases hd
   |true=>
    rw[he]at hd;rw[fg]at he;exact⟨.inl he,fD k l bs hd h.2⟩
theorem kI{ops:Array Oper}:∀(l:List Rec) (bs:List (List Nat)) (k:Nat),dyn l k bs=true->stat ops k (l.map (·.o)) bs=true->indep ops k l bs=true
 |[],_,_,_,_=>by simp[indep]
 |x::l,[],_,_,h=>by simp[stat]at h
 |x::l,b::bs,k,hd,h=>by
  simp only[List.map_cons,stat,YB]at h;simp only[indep,YB];have hd:(OP false (dyn l (k+1) bs) (T8 x k l bs):Bool)=true:=hd;cases hc:T8 x k l bs with
  |false=>rw[hc]at hd;cases hd
  |true=>
   rw[hc]at hd;exact⟨fD k l bs hc h.1,kI l bs (k+1) hd h.2⟩
theorem fF{P:Program}{F:FuncId->Bool}{Xx:Vf}{rec:CF->Qy->Nat->Option Rs}{ops:Array Oper}:∀(l:List Oper) (T:Tm) (H:Qy) (n:Nat) (Q4:List Rec) (T':Tm) (H':Qy) (n':Nat),PM P F Xx rec ops l T H n=some (Q4,.ok T' H' n')->Q4.map (·.o)=l
 |[],T,H,n,Q4,T',H',n',h=>by
  simp only[PM,YO,YR]at h;rw[<-h.1];rfl
 |o::l,T,H,n,Q4,T',H',n',h=>by
  simp only[PM]at h;have h:=Je h;cases hw:Region.wanted o (XX ops T)with
  |true=>
   rw[hw]at h;simp only[cond_true]at h;split at h
   ·split at h
    ·split at h
     ·rename_i rs f hr;simp only[YO,YR]at h;obtain⟨rfl,rfl⟩:=h;simp[fF l _ _ _ _ _ _ _ hr]
     ·cases h
    ·simp only[YO,YR]at h;cases h.2
   ·cases h
  |false=>
   rw[hw]at h;simp only[cond_false]at h;split at h
   ·rename_i rs f hr;simp only[YO,YR]at h;obtain⟨rfl,rfl⟩:=h;simp[fF l _ _ _ _ _ _ _ hr]
   ·cases h
def qL(ops:Array Oper):Bool:=Ve 0 ops.toList && stat ops 0 ops.toList (Pq ops.toList [])
def chk(ops:Array Oper)(Q4:List Rec)(draw:Bool):Bool:=OP true (OP (Ve 0 ops.toList && indep ops 0 Q4 (Pq ops.toList [])) (OP (Ve 0 ops.toList && indep ops 0 Q4 (Pq ops.toList [])) true (dyn Q4 0 (Pq ops.toList []))) (qL ops)) draw
theorem M6{ops:Array Oper}{Q4:List Rec}{draw:Bool}(h:Q4.map (·.o)=ops.toList):chk ops Q4 draw=(!draw || (Ve 0 ops.toList && indep ops 0 Q4 (Pq ops.toList []))):=by
 unfold chk;cases draw with
 |false=>rfl
 |true=>
  simp only[Bool.not_true,Bool.false_or];cases hs:qL ops with
  |false=>rfl
  |true=>
   cases hc:dyn Q4 0 (Pq ops.toList [])with
   |false=>rfl
   |true=>
    unfold qL at hs;simp only[YB]at hs;rw[hs.1,kI Q4 _ 0 hc (by rw[h];exact hs.2)];rfl
def ja(b:Nat)(l:List Nat):List Nat->List Nat:=List.rec (fun acc=>acc) (fun x _ ih acc=>OP (ih acc) (OP (ih (x::acc)) (ih acc) (cg x acc)) (On x b)) l
theorem fw(b:Nat):∀(l acc:List Nat),ja b l acc=ZR b l acc
 |[],_=>rfl
 |x::l,acc=>by
  show(OP (ja b l acc) (OP (ja b l (x::acc)) (ja b l acc) (cg x acc)) (On x b):List Nat)=_;rw[fw b l,fw b l,fg,ZR];cases On x b <;> cases acc.contains x <;> rfl
theorem oD(b:Nat):∀(l m acc:List Nat),ZR b (l++m) acc=ZR b m (ZR b l acc)
 |[],_,_=>rfl
 |x::l,m,acc=>by simp only[List.cons_append,ZR];exact oD b l m _
def MB(b:Nat)(Q4:List Rec):List Nat->List Nat:=List.rec (fun acc=>acc) (fun r _ ih acc=>ih (ja b r.R acc)) Q4
theorem BE(b:Nat):∀(Q4:List Rec) (acc:List Nat),MB b Q4 acc=ZR b (Y9 Q4) acc
 |[],_=>rfl
 |r::l,acc=>by
  show MB b l (ja b r.R acc)=_;rw[BE b l,fw,show Y9 (r::l)=r.R++Y9 l from OX,oD]
def MA(b:Nat)(Q4:List Rec):List Nat->List Nat:=List.rec (fun acc=>acc) (fun r _ ih acc=>ih (ja b r.W acc)) Q4
theorem BD(b:Nat):∀(Q4:List Rec) (acc:List Nat),MA b Q4 acc=ZR b (Up Q4) acc
 |[],_=>rfl
 |r::l,acc=>by
  show MA b l (ja b r.W acc)=_;rw[BD b l,fw,show Up (r::l)=r.W++Up l from OX,oD]
def Fb(P:Program)(F:FuncId->Bool)(Xx:Vf)(rec:CF->Qy->Nat->Option Rs)(len:Nat)(tr:Tri)(ops:Array Oper)(H:Qy)(n:Nat):oH:=
 OP (PM P F Xx rec ops ops.toList ⟨len,tr⟩ H n) (Bj P F Xx rec len ops ops.toList tr H n) (sq len ops.toList)
theorem Fa(P:Program)(F:FuncId->Bool)(Xx:Vf)(rec:CF->Qy->Nat->Option Rs)(len:Nat)(tr:Tri)(ops:Array Oper)(H:Qy)(n:Nat):Fb P F Xx rec len tr ops H n=PM P F Xx rec ops ops.toList ⟨len,tr⟩ H n:=by
 unfold Fb;cases hd:sq len ops.toList with
 |false=>rfl
 |true=>exact tA P F Xx rec len ops _ _ _ _ hd
abbrev Nw:=Nat->FuncId->Nat->Tri->List Item->List Nat->Option Nat->Qy->Nat->List Nat->List Nat->Option Rs
def LW(P:Program)(F:FuncId->Bool)(Xx:Vf)(fuel:Nat)(ih:Nw)(c1:CF)(H1:Qy)(n1:Nat):Option Rs:=
 CF.rec (fun fn T todo ds mode ro=>CM.rec (Tm.rec (fun len tr=>ih n1 fn len tr todo ds ro H1 n1 [] []) T) (Pa P F Xx fuel n1 ⟨fn,T,todo,ds,.ret,ro⟩ H1 n1 [] []) (fun v=>Pa P F Xx fuel n1 ⟨fn,T,todo,ds,.Wp v,ro⟩ H1 n1 [] []) mode) c1
def NP(P:Program)(F:FuncId->Bool)(Xx:Vf)(fuel:Nat)(ih:Nw)(b:Nat)(c1:CF)(H1:Qy)(n1:Nat)(R W:List Nat):Option Rs:=
 CF.rec (fun fn T todo ds mode ro=>CM.rec (Tm.rec (fun len tr=>ih b fn len tr todo ds ro H1 n1 R W) T) (Pa P F Xx fuel b ⟨fn,T,todo,ds,.ret,ro⟩ H1 n1 R W) (fun v=>Pa P F Xx fuel b ⟨fn,T,todo,ds,.Wp v,ro⟩ H1 n1 R W) mode) c1
def resume(P:Program)(F:FuncId->Bool)(Xx:Vf)(fuel:Nat)(ih:Nw)(b:Nat)(R W:List Nat)(x:Option FS):Option Rs:=
 Option.rec none (fun fs=>FS.rec (fun c' H' n' R' W'=>NP P F Xx fuel ih b c' H' n' (ZR b R' R) (ZR b W' W)) (fun out H' n' R' W'=>some ⟨out,H',n',ZR b R' R,ZR b W' W⟩) fs) x
abbrev HU:=Program->(FuncId->Bool)->Vf->Nat->Nw->Nat->FuncId->Nat->Tri->List Item->List Nat->Option Nat->Qy->Nat->List Nat->List Nat->Option Rs
def SH(it:Item):HU:=fun P F Xx fuel ih b fn len tr k ds ro H n R W=>resume P F Xx fuel ih b R W (gE P F Xx (LW P F Xx fuel ih) ⟨fn,⟨len,tr⟩,it::k,ds,.run,ro⟩ H n)
def B3:HU:=fun _ _ _ _ ih b fn len tr k ds ro H n R W=>ih b fn len tr k ds ro H n R W
def NG(x y:Code):HU:=fun _ _ _ _ ih b fn len tr k ds ro H n R W=>ih b fn len tr (.code x::.code y::k) ds ro H n R W
def Np(q:Operand)(x y:Code):HU:=fun _ _ _ _ ih b fn len tr k ds ro H n R W=>Option.rec none (fun v=>Option.rec none (fun t=>OP (ih b fn len tr (.code y::k) ds ro H n R W) (ih b fn len tr (.code x::k) ds ro H n R W) t) (Sc v)) (TE tr q)
def My(id:Nat)(x:Code):HU:=fun _ _ _ _ ih b fn len tr k ds ro H n R W=>ih b fn len tr (.code x::.inBlock id::k) ds ro H n R W
def LA(x:Code):HU:=fun _ _ _ _ ih b fn len tr k ds ro H n R W=>ih b fn len tr (.code x::.inLoop x::k) ds ro H n R W
def Mx(x:Code):HU:=fun _ _ _ _ ih b fn len tr k ds ro H n R W=>ih b fn len tr (.code x::.inScope x::k) ds ro H n R W
def si(id:Nat)(ops:Array Oper)(draw:Bool):HU:=fun P F Xx fuel ih b fn len tr k ds ro H n R W=>
 Option.rec none (fun p=>Prod.rec (fun Q4 f=>RF.rec (fun T' H' n'=>OP none (Tm.rec (fun len' tr'=>ih b fn len' tr' k ds ro H' n' (MB b Q4 R) (MA b Q4 W)) T') (chk ops Q4 draw))
  (fun T' v H' n' R1 W1=>resume P F Xx fuel ih b R W (Ma ⟨fn,⟨len,tr⟩,.code (.region id ops draw)::k,ds,.run,ro⟩ ops draw k (some (Q4,.Wp T' v H' n' R1 W1)))) f) p) (Fb P F Xx (LW P F Xx fuel ih) len tr ops H n)
def codeF(cd:Code):HU:=Code.rec B3 si (fun x y _ _=>NG x y) (fun q x y _ _=>Np q x y) (fun id x _=>My id x) (fun x _=>LA x) (fun f ps x y _ _=>SH (.code (.rangeFunc f ps x y))) (fun id=>SH (.code (.exit id))) (fun x _=>Mx x) (fun _=>B3) (fun l=>SH (.code (.goto l))) (SH (.code .ret)) (fun w=>SH (.code (.refuse w))) cd
def L9(it:Item):HU:=Item.rec codeF (fun _=>B3) LA (fun _=>B3) (fun a b=>SH (.inRegion a b)) (fun l=>SH (.inRangeFunc l)) (fun l=>SH (.endRangeFunc l)) (SH .beginRound) (fun a b c d=>SH (.call a b c d)) (fun a b=>SH (.extern a b)) it
def aU(P:Program)(F:FuncId->Bool)(Xx:Vf)(fuel:Nat):Nw:=Nat.rec (fun _ _ _ _ _ _ _ _ _ _ _=>none) (fun fuel ih b fn len tr todo ds ro H n R W=>
 List.rec (resume P F Xx fuel ih b R W (RT ⟨fn,⟨len,tr⟩,[],ds,.run,ro⟩ H n none)) (fun it k _=>L9 it P F Xx fuel ih b fn len tr k ds ro H n R W) todo) fuel
theorem oe(P:Program)(F:FuncId->Bool)(Xx:Vf):∀(fuel b:Nat) (fn:FuncId) (len:Nat) (tr:Tri) (todo:List Item) (ds:List Nat) (ro:Option Nat) (H:Qy) (n:Nat) (R W:List Nat),aU P F Xx fuel b fn len tr todo ds ro H n R W=Pa P F Xx fuel b ⟨fn,⟨len,tr⟩,todo,ds,.run,ro⟩ H n R W
 |0,_,_,_,_,_,_,_,_,_,_,_=>rfl
 |fuel+1,b,fn,len,tr,todo,ds,ro,H,n,R,W=>by
  have hih:∀(b:Nat) (fn:FuncId) (len:Nat) (tr:Tri) (todo:List Item) (ds:List Nat) (ro:Option Nat) (H:Qy) (n:Nat) (R W:List Nat),aU P F Xx fuel b fn len tr todo ds ro H n R W=Pa P F Xx fuel b ⟨fn,⟨len,tr⟩,todo,ds,.run,ro⟩ H n R W:=oe P F Xx fuel;have V1:LW P F Xx fuel (aU P F Xx fuel)=fun c1 H1 n1=>Pa P F Xx fuel n1 c1 H1 n1 [] []:=by
   funext c1 H1 n1;obtain⟨fn,⟨len,tr⟩,todo,ds,mode,ro⟩:=c1;cases mode with
   |run=>exact hih _ _ _ _ _ _ _ _ _ _ _
   |ret=>rfl
   |Wp v=>rfl
  have hres:∀(R W:List Nat) (x:Option FS),resume P F Xx fuel (aU P F Xx fuel) b R W x=match x with
   |some (.go c' H' n' R' W')=>Pa P F Xx fuel b c' H' n' (ZR b R' R) (ZR b W' W)
   |some (.done out H' n' R' W')=>some ⟨out,H',n',ZR b R' R,ZR b W' W⟩
   |none=>none:=by
   intro R W x;cases x with
   |none=>rfl
   |some fs=>
    cases fs with
    |done out H' n' R' W'=>rfl
    |go c' H' n' R' W'=>
     obtain⟨fn,⟨len,tr⟩,todo,ds,mode,ro⟩:=c';cases mode with
     |run=>exact hih _ _ _ _ _ _ _ _ _ _ _
     |ret=>rfl
     |Wp v=>rfl
  have hslow:∀(it:Item) (k:List Item),SH it P F Xx fuel (aU P F Xx fuel) b fn len tr k ds ro H n R W=Pa P F Xx (fuel+1) b ⟨fn,⟨len,tr⟩,it::k,ds,.run,ro⟩ H n R W:=by
   intro it k;unfold SH;rw[hres,V1];rfl
  cases todo with
  |nil=>exact hres R W _
  |cons it k=>
   show L9 it P F Xx fuel (aU P F Xx fuel) b fn len tr k ds ro H n R W=_;cases it with
   |code cd=>
    cases cd with
    |skip=>exact hih _ _ _ _ _ _ _ _ _ _ _
    |label l=>exact hih _ _ _ _ _ _ _ _ _ _ _
    |seq x y=>exact hih _ _ _ _ _ _ _ _ _ _ _
    |block id x=>exact hih _ _ _ _ _ _ _ _ _ _ _
    |loop x=>exact hih _ _ _ _ _ _ _ _ _ _ _
    |scope x=>exact hih _ _ _ _ _ _ _ _ _ _ _
    |cond q x y=>
     show(Option.rec none (fun v=>Option.rec none (fun t=>OP (aU P F Xx fuel b fn len tr (.code y::k) ds ro H n R W) (aU P F Xx fuel b fn len tr (.code x::k) ds ro H n R W) t) (Sc v)) (TE tr q):Option Rs)=_;rw[Hv len tr,hih,hih];simp only[Pa,gE,gW,gX];cases Zl ⟨len,tr⟩ q with
     |none=>rfl
     |some v=>
      cases v with
      |bool t=>cases t <;> rfl
      |_=>rfl
    |region id ops draw=>
     show si id ops draw P F Xx fuel (aU P F Xx fuel) b fn len tr k ds ro H n R W=_;unfold si;rw[Fa,V1];simp only[Pa,gE,gW,gX,BE,BD];cases hrr:PM P F Xx (fun c1 H1 n1=>Pa P F Xx fuel n1 c1 H1 n1 [] []) ops ops.toList ⟨len,tr⟩ H n with
     |none=>rfl
     |some p=>
      obtain⟨Q4,f⟩:=p;cases f with
      |Wp v H' n' R1 W1=>exact hres R W _
      |ok T' H' n'=>
       have hck:=M6 (draw:=draw) (fF _ _ _ _ _ _ _ _ hrr);obtain⟨len',tr'⟩:=T';simp only[Ma];rw[hck];cases !draw || (Ve 0 ops.toList && indep ops 0 Q4 (Pq ops.toList []))with
       |false=>rfl
       |true=>exact hih _ _ _ _ _ _ _ _ _ _ _
    |rangeFunc f ps x y=>exact hslow _ k
    |exit id=>exact hslow _ k
    |goto id=>exact hslow _ k
    |ret=>exact hslow _ k
    |refuse w=>exact hslow (.code (.refuse w)) k
   |inBlock id=>exact hih _ _ _ _ _ _ _ _ _ _ _
   |inScope x=>exact hih _ _ _ _ _ _ _ _ _ _ _
   |inLoop x=>exact hih _ _ _ _ _ _ _ _ _ _ _
   |inRegion a b=>exact hslow _ k
   |inRangeFunc l=>exact hslow _ k
   |endRangeFunc l=>exact hslow _ k
   |beginRound=>exact hslow _ k
   |call a b c d=>exact hslow _ k
   |extern a b=>exact hslow _ k
end
end Go.CE
