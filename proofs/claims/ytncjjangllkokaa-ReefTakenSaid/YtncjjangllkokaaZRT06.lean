/- CE: the canonical machine a third time: by recursors alone where much time goes. -/
import Derived.Test.YtncjjangllkokaaZRT05
set_option linter.all false
namespace Go.CE
open Go Go.RowKit
noncomputable section

def ei(t:Tri):Nat->Value:=Tri.rec (fun _=>undef) (fun _ v _ gl gr k=>Nat.rec v (fun j _=>Bool.rec (gr (Nat.div j 2)) (gl (Nat.div j 2)) (Nat.beq (Nat.mod j 2) 0)) k) t
theorem TD:∀(t:Tri) (k:Nat),ei t k=t.get k
 | .lf,k=>by cases k <;> rfl
 | .nd l v r,0=>rfl
 | .nd l v r,k+1=>by
   show(Bool.rec (ei r (k / 2)) (ei l (k / 2)) (Nat.beq (k % 2) 0):Value)=bif Nat.beq (k % 2) 0 then l.get (k / 2)else r.get (k / 2);rw[TD l,TD r];cases Nat.beq (k % 2) 0 <;> rfl
def bj(f:Nat):Tri->Nat->Value->Tri:=Nat.rec (fun t _ _=>t) (fun _ ih t i x=>Tri.rec
 (Nat.rec (.nd .lf x .lf) (fun j _=>Bool.rec (.nd .lf undef (ih .lf (Nat.div j 2) x)) (.nd (ih .lf (Nat.div j 2) x) undef .lf) (Nat.beq (Nat.mod j 2) 0)) i)
 (fun l v r _ _=>Nat.rec (.nd l x r) (fun j _=>Bool.rec (.nd l v (ih r (Nat.div j 2) x)) (.nd (ih l (Nat.div j 2) x) v r) (Nat.beq (Nat.mod j 2) 0)) i) t) f
theorem TC:∀(f:Nat) (t:Tri) (i:Nat) (x:Value),bj f t i x=Tri.set f t i x
 |0,_,_,_=>rfl
 |f+1,.lf,0,x=>rfl
 |f+1,.nd l v r,0,x=>rfl
 |f+1,.lf,k+1,x=>by
  show(Bool.rec (Tri.nd .lf undef (bj f .lf (k / 2) x)) (Tri.nd (bj f .lf (k / 2) x) undef .lf) (Nat.beq (k % 2) 0):Tri)=bif Nat.beq (k % 2) 0 then .nd (Tri.set f .lf (k / 2) x) undef .lf else .nd .lf undef (Tri.set f .lf (k / 2) x);rw[TC f];cases Nat.beq (k % 2) 0 <;> rfl
 |f+1,.nd l v r,k+1,x=>by
  show(Bool.rec (Tri.nd l v (bj f r (k / 2) x)) (Tri.nd (bj f l (k / 2) x) v r) (Nat.beq (k % 2) 0):Tri)=bif Nat.beq (k % 2) 0 then .nd (Tri.set f l (k / 2) x) v r else .nd l v (Tri.set f r (k / 2) x);rw[TC f,TC f];cases Nat.beq (k % 2) 0 <;> rfl
def Sw(tr:Tri)(x:Operand):Option Value:=Operand.rec (fun t=>some (ei tr t)) (fun v=>Bool.rec none (some v) (af v)) (fun _=>none) (fun f=>some (.func (.func f) #[] #[])) x
theorem H7(len:Nat)(tr:Tri):Sw tr=XW ⟨len,tr⟩:=by
 funext x;cases x with
 |tmp t=>show some (ei tr t)=some (tr.get t);rw[TD]
 |const v=>show(Bool.rec none (some v) (af v):Option Value)=bif af v then some v else none;cases af v <;> rfl
 |global g=>rfl
 |func f=>rfl
def F8(tr:Tri)(d:Option Tmp)(v:Value):Tri:=Option.rec tr (fun d=>bj 14 tr d v) d
theorem Bf(len:Nat)(tr:Tri)(d:Option Tmp)(v:Value):(⟨len,F8 tr d v⟩:Tm)=Vn ⟨len,tr⟩ d v:=by
 cases d with
 |none=>rfl
 |some d=>show(⟨len,bj 14 tr d v⟩:Tm)=⟨len,tr.set 14 d v⟩;rw[TC]
def Lh{α:Type}(l:List α):Nat->Option α:=List.rec (fun _=>none) (fun x _ ih k=>Nat.rec (some x) (fun j _=>ih j) k) l
theorem Bj{α:Type}:∀(l:List α) (k:Nat),Lh l k=l[k]?
 |[],k=>by cases k <;> rfl
 |x::l,0=>rfl
 |x::l,k+1=>by show Lh l k=_;rw[Bj l k];rfl
def sU(P:Program)(t:TypeId)(cs:Array Value)(off:Nat):Option Value:=
 Option.rec none (fun g=>Bool.rec (Lh cs.toList off) (Option.rec none (fun s=>Bool.rec none (some (.agg (cs.extract off (off+s)))) (Nat.ble (off+s) cs.size)) (Ww P t)) g) (o8 P t)
theorem qW(P:Program)(t:TypeId)(cs:Array Value)(off:Nat):sU P t cs off=Ky P t cs off:=by
 unfold sU Ky;cases o8 P t with
 |none=>rfl
 |some g=>
  cases g with
  |false=>show Lh cs.toList off=_;rw[Bj,Array.getElem?_toList]
  |true=>
   cases Ww P t with
   |none=>rfl
   |some s=>simp only;cases Nat.ble (off+s) cs.size <;> rfl
def sX(P:Program)(t:TypeId)(H:Qo)(p:Value):Option (Value×Nat):=match p with
 | .pointer (some ⟨b,off,none⟩)=>match Qs H b with
   |some (.cells cs _ _)=>match sU P t cs off with
    |some v=>some (v,b)
    |none=>none
   |_=>none
 |_=>none
theorem Ec(P:Program)(t:TypeId)(H:Qo)(p:Value):sX P t H p=Rx P t H p:=by
 unfold sX Rx;simp only[qW];rfl
def tn(p:Value->Bool)(l:List Value):Bool:=List.rec true (fun x _ ih=>Bool.rec false ih (p x)) l
theorem dQ(p:Value->Bool):∀(l:List Value),tn p l=l.all p
 |[]=>rfl
 |x::l=>by
  show(Bool.rec false (tn p l) (p x):Bool)=_;rw[dQ p l,List.all_cons];cases p x <;> rfl
def GB(cs:Array Value):Bool:=tn (·.oneCell') cs.toList
theorem GA(cs:Array Value):GB cs=ones cs:=by
 unfold GB ones;rw[dQ,Array.all_toList]
def NK(v:Value):Bool:=match v with
 | .agg xs=>tn simple xs.toList
 |v=>simple v
theorem E0(v:Value):NK v=sa v:=by
 cases v <;> first|rfl|(show tn simple _=_;rw[dQ,Array.all_toList];rfl)
def OM(v:Value):Bool:=match v with
 | .agg xs=>tn simple xs.toList
 | .tuple xs=>tn NK xs.toList
 | .iface _ v=>NK v
 |v=>simple v
theorem N3(v:Value):OM v=af v:=by
 cases v with
 |iface t v=>exact E0 v
 |tuple xs=>show tn NK _=_;rw[show NK=sa from funext E0,dQ,Array.all_toList];rfl
 |_=>first|rfl|(show tn simple _=_;rw[dQ,Array.all_toList];rfl)
def j4(P:Program)(t:TypeId)(H:Qo)(v p:Value):Option (Qo×Nat):=match p with
 | .pointer (some ⟨b,off,none⟩)=>match Qs H b with
   |some (.cells cs te (0,0))=>match Ww P t with
    |some s=>bif Nat.beq v.cells.size s && GB v.cells && Nat.ble (off+s) cs.size then some (Vw H b (.cells (splice cs off v.cells) te (0,0)),b)else none
    |none=>none
   |_=>none
 |_=>none
theorem AA(P:Program)(t:TypeId)(H:Qo)(v p:Value):j4 P t H v p=Py P t H v p:=by
 unfold j4 Py;simp only[GA];rfl
def j6(P:Program)(t:TypeId)(f:Nat)(x:Value):Option Value:=match x with
 | .agg cs=>match YC P t with
   |some (.struct fields)=>match fields[f]? with
    |some fd=>sU P fd.type cs fd.offset
    |none=>none
   |_=>none
 |_=>none
theorem AG(P:Program)(t:TypeId)(f:Nat)(x:Value):j6 P t f x=fO P t f x:=by
 unfold j6 fO;simp only[qW];rfl
def yn(ops:Array Oper)(tr:Tri)(j:Nat):Option Bool:=match nth ops.toList j with
 |some o=>match o.dst with
  |some t=>Pz (ei tr t)
  |none=>none
 |none=>none
theorem B5(len:Nat)(ops:Array Oper)(tr:Tri)(j:Nat):yn ops tr j=XI ops ⟨len,tr⟩ j:=by
 unfold yn XI;simp only[TD,X7];rfl
def AS(ops:Array Oper)(tr:Tri)(g:Option (Nat×Bool)):Bool:=Option.rec true (fun jw=>Prod.rec (fun j w=>Option.rec false (fun b=>Bool.rec (Bool.rec true false w) (Bool.rec false true w) b) (yn ops tr j)) jw) g
theorem Em(len:Nat)(ops:Array Oper)(tr:Tri)(o:Oper):AS ops tr o.guard=Region.wanted o (XI ops ⟨len,tr⟩):=by
 unfold AS Region.wanted;cases o.guard with
 |none=>rfl
 |some jw=>
  obtain⟨j,w⟩:=jw;simp only[B5 len];cases XI ops ⟨len,tr⟩ j with
  |none=>rfl
  |some b=>cases b <;> cases w <;> rfl
abbrev oE:=Option (List Rec×RF)
abbrev KV:=Value->Qo->Nat->List Nat->List Nat->oE
abbrev El:=Program->(FuncId->Bool)->WW->(CF->Qo->Nat->Option Rs)->Nat->Tri->Oper->Qo->Nat->KV->KV->oE
def fin(k kp:KV)(s:Option Rs):oE:=match s with
 |some ⟨out,H,n,R,W⟩=>match out with
  | .ret v=>k v H n R W
  | .Z6 v=>kp v H n R W
 |none=>none
def pv(k:KV)(H:Qo)(n:Nat)(x:Option Value):oE:=Option.rec none (fun v=>k v H n [] []) x
theorem Ts(k kp:KV)(H:Qo)(n:Nat)(x:Option Value):fin k kp (qV x H n)=pv k H n x:=by cases x <;> rfl
def My(x:Operand):El:=fun _ _ _ _ _ tr _ H n k _=>pv k H n (Sw tr x)
def Ov(c a b:Operand):El:=fun _ _ _ _ _ tr _ H n k _=>Option.rec none (fun v=>Option.rec none (fun t=>Bool.rec (pv k H n (Sw tr b)) (pv k H n (Sw tr a)) t) (Pz v)) (Sw tr c)
def Ow(t:TypeId)(a:Operand):El:=fun P _ _ _ _ tr _ H n k _=>Option.rec none (fun p=>Option.rec none (fun vb=>Prod.rec (fun v b=>Bool.rec none (k v H n [b] []) (Nat.blt b n)) vb) (sX P t H p)) (Sw tr a)
def N6(t:TypeId)(a x:Operand):El:=fun P _ _ _ _ tr _ H n k _=>Option.rec none (fun p=>Option.rec none (fun v=>Option.rec none (fun hb=>Prod.rec (fun H' b=>Bool.rec none (k undef H' n [b] [b]) (Nat.blt b n)) hb) (j4 P t H v p)) (Sw tr x)) (Sw tr a)
def AP(s:TypeId)(x:Operand)(f:Nat):El:=fun P _ _ _ _ tr _ H n k _=>Option.rec none (fun p=>pv k H n (Wh P s f p)) (Sw tr x)
def N7(s:TypeId)(x:Operand)(f:Nat):El:=fun P _ _ _ _ tr _ H n k _=>Option.rec none (fun p=>pv k H n (j6 P s f p)) (Sw tr x)
def AO(t:TypeId)(x i:Operand):El:=fun P _ _ _ _ tr _ H n k _=>Option.rec none (fun p=>Option.rec none (fun j=>pv k H n (KJ P t p j)) (Sw tr i)) (Sw tr x)
def Ic(x:Operand)(i:Nat):El:=fun _ _ _ _ _ tr _ H n k _=>Option.rec none (fun p=>pv k H n (Ry i p)) (Sw tr x)
def OI(op:BinOp)(_:TypeId)(x y:Operand)(_:TypeId):El:=fun P _ _ _ _ tr o H n k _=>Option.rec none (fun a=>Option.rec none (fun b=>Option.rec (pv k H n (Uk P (Sw tr) o)) (fun v=>k v H n [] []) (AI op a b)) (Sw tr y)) (Sw tr x)
def HC(v:Value)(r:CR)(k:KV)(H':Qo)(n':Nat)(R W:List Nat):oE:=List.rec (Bool.rec (k v H' n' (r.R++R) (r.W++[])) (k v r.H n' (r.R++R) (r.W++[])) (OM v)) (fun _ _ _=>k v H' n' (r.R++R) (r.W++W)) W
def Bz(r:CR)(k kp:KV)(s:Option Rs):oE:=Option.rec none (fun s=>Rs.rec (fun out H' n' R W=>OO.rec (fun v=>HC v r k H' n' R W) (fun v=>kp v H' n' (r.R++R) (r.W++W)) out) s) s
theorem HX(r:CR)(k kp:KV)(s:Option Rs):Bz r k kp s=fin k kp (match s with|some s=>F3 r s|none=>none):=by
 cases s with
 |none=>rfl
 |some s=>
  obtain⟨out,H',n',R,W⟩:=s;cases out with
  |Z6 v=>
   cases W with
   |nil=>rfl
   |cons a b=>rfl
  |ret v=>
   show HC v r k H' n' R W=_;unfold HC;cases W with
   |nil=>
    rw[N3];simp only[F3,KN];cases af v <;> rfl
   |cons a b=>rfl
def sO(P:Program)(Xo:WW)(rec:CF->Qo->Nat->Option Rs)(g:FuncId)(args:Array Value)(r:CR)(k kp:KV):oE:=Option.rec (Option.rec none (fun c=>Bz r k kp (rec c r.H r.n)) (Wa P g args)) (fun _=>fin k kp (r5 P Xo rec g args r)) (Xo g args r.H r.n)
theorem DW(P:Program)(Xo:WW)(rec:CF->Qo->Nat->Option Rs)(g:FuncId)(args:Array Value)(r:CR)(k kp:KV):sO P Xo rec g args r k kp=fin k kp (r5 P Xo rec g args r):=by
 unfold sO;cases ho:Xo g args r.H r.n with
 |some x=>rfl
 |none=>
  unfold r5;rw[ho];show(Option.rec none (fun c=>Bz r k kp (rec c r.H r.n)) (Wa P g args):oE)=fin k kp (MO P rec g args r);unfold MO;cases Wa P g args with
  |none=>rfl
  |some c=>
   show Bz r k kp (rec c r.H r.n)=_;rw[HX];rfl
def HL(P:Program)(Xo:WW)(rec:CF->Qo->Nat->Option Rs)(n:Nat)(x:Option CR)(k kp:KV):oE:=Option.rec none (fun r=>CN.rec (fun _=>fin k kp (qR P Xo rec n (some r))) (fun g args=>Bool.rec none (sO P Xo rec g args r k kp) (r.R.all (fun i=>Nat.blt i n))) (fun _ _ _ _ _=>fin k kp (qR P Xo rec n (some r))) r.nx) x
theorem HK(P:Program)(Xo:WW)(rec:CF->Qo->Nat->Option Rs)(n:Nat)(x:Option CR)(k kp:KV):HL P Xo rec n x k kp=fin k kp (qR P Xo rec n x):=by
 cases x with
 |none=>rfl
 |some r=>
  obtain⟨nx,H',n',R,W⟩:=r;cases nx with
  |val v=>rfl
  |round l fn tm a b=>rfl
  |enter g args=>
   show(Bool.rec none (sO P Xo rec g args ⟨.enter g args,H',n',R,W⟩ k kp) (R.all (fun i=>Nat.blt i n)):oE)=_;rw[DW];simp only[qR];cases R.all (fun i=>Nat.blt i n) <;> rfl
def Ox(c:Call):El:=fun P F Xo rec _ tr o H n k kp=>HL P Xo rec n (cn P F (Sw tr) o c H n) k kp
def UB:El:=fun P F Xo rec len tr o H n k kp=>fin k kp (tA P F Xo rec ⟨len,tr⟩ o H n)
def OG(op:Op):El:=Op.rec My My Ov (fun _=>UB) (fun _ _=>UB) (fun _ _=>UB) (fun _ _ _=>UB) (fun _ _ _ _=>UB) Ow N6 (fun _=>UB) (fun _=>UB) (fun _=>UB) OI (fun _ _ _=>UB) (fun _ _ _=>UB) (fun _ _=>UB) (fun _ _=>UB)
 (fun _ _ _=>UB) (fun _ _=>UB) (fun _ _=>UB) (fun _ _ _=>UB) (fun _ _ _ _ _=>UB) AP N7 AO (fun _ _ _=>UB) (fun _ _ _ _=>UB) (fun _ _ _ _=>UB) (fun _ _ _=>UB) (fun _ _ _ _=>UB) (fun _ _=>UB) (fun _ _=>UB) (fun _=>UB) (fun _ _ _ _=>UB)
 Ic Ox (fun _=>UB) (fun _=>UB) (fun _=>UB) (fun _ _=>UB) (fun _ _ _=>UB) (fun _ _=>UB) op
theorem Nj(P:Program)(F:FuncId->Bool)(Xo:WW)(rec:CF->Qo->Nat->Option Rs)(len:Nat)(tr:Tri)(o:Oper)(H:Qo)(n:Nat)(k kp:KV):OG o.op P F Xo rec len tr o H n k kp=fin k kp (tA P F Xo rec ⟨len,tr⟩ o H n):=by
 have e:=H7 len tr;cases hp:o.op with
 |move x=>show pv k H n (Sw tr x)=_;rw[e];unfold tA;simp only[hp];exact(Ts k kp H n _).symm
 |assign x=>show pv k H n (Sw tr x)=_;rw[e];unfold tA;simp only[hp];exact(Ts k kp H n _).symm
 |pick c a b=>
  show(Option.rec none (fun v=>Option.rec none (fun t=>Bool.rec (pv k H n (Sw tr b)) (pv k H n (Sw tr a)) t) (Pz v)) (Sw tr c):oE)=_;rw[e];unfold tA;simp only[hp];cases XW ⟨len,tr⟩ c with
  |none=>rfl
  |some v=>
   cases v with
   |bool t=>cases t <;> exact(Ts k kp H n _).symm
   |_=>rfl
 |load t a=>
  show(Option.rec none (fun p=>Option.rec none (fun vb=>Prod.rec (fun v b=>Bool.rec none (k v H n [b] []) (Nat.blt b n)) vb) (sX P t H p)) (Sw tr a):oE)=_;simp only[Ec];rw[e];unfold tA;simp only[hp];cases XW ⟨len,tr⟩ a with
  |none=>rfl
  |some p=>
   simp only[Fy];cases Rx P t H p with
   |none=>rfl
   |some vb=>
    obtain⟨v,b⟩:=vb;cases hb:Nat.blt b n <;> simp[qR,fin,Bd,hb]
 |store t a x=>
  show(Option.rec none (fun p=>Option.rec none (fun v=>Option.rec none (fun hb=>Prod.rec (fun H' b=>Bool.rec none (k undef H' n [b] [b]) (Nat.blt b n)) hb) (j4 P t H v p)) (Sw tr x)) (Sw tr a):oE)=_;simp only[AA];rw[e];unfold tA;simp only[hp];cases XW ⟨len,tr⟩ a with
  |none=>rfl
  |some p=>
   cases XW ⟨len,tr⟩ x with
   |none=>rfl
   |some v=>
    simp only[zh];cases Py P t H v p with
    |none=>rfl
    |some vb=>
     obtain⟨H',b⟩:=vb;cases hb:Nat.blt b n <;> simp[qR,fin,Bd,hb]
 |fieldAddr s x f=>
  show(Option.rec none (fun p=>pv k H n (Wh P s f p)) (Sw tr x):oE)=_;rw[e];unfold tA;simp only[hp];cases XW ⟨len,tr⟩ x with
  |none=>rfl
  |some p=>simp only[bn,JN];exact(Ts k kp H n _).symm
 |field s x f=>
  show(Option.rec none (fun p=>pv k H n (j6 P s f p)) (Sw tr x):oE)=_;simp only[AG];rw[e];unfold tA;simp only[hp];cases XW ⟨len,tr⟩ x with
  |none=>rfl
  |some p=>simp only[zi,JN];exact(Ts k kp H n _).symm
 |indexAddr t x i=>
  show(Option.rec none (fun p=>Option.rec none (fun j=>pv k H n (KJ P t p j)) (Sw tr i)) (Sw tr x):oE)=_;rw[e];unfold tA;simp only[hp];cases XW ⟨len,tr⟩ x with
  |none=>rfl
  |some p=>
   cases XW ⟨len,tr⟩ i with
   |none=>rfl
   |some j=>simp only[bm,JN];exact(Ts k kp H n _).symm
 |extract x i=>
  show(Option.rec none (fun p=>pv k H n (Ry i p)) (Sw tr x):oE)=_;rw[e];unfold tA;simp only[hp];cases XW ⟨len,tr⟩ x with
  |none=>rfl
  |some p=>simp only[kX,JN];exact(Ts k kp H n _).symm
 |binOp op t x y t'=>
  show(Option.rec none (fun a=>Option.rec none (fun b=>Option.rec (pv k H n (Uk P (Sw tr) o)) (fun v=>k v H n [] []) (AI op a b)) (Sw tr y)) (Sw tr x):oE)=_;rw[e];unfold tA;simp only[hp];cases XW ⟨len,tr⟩ x with
  |none=>rfl
  |some a=>
   cases XW ⟨len,tr⟩ y with
   |none=>rfl
   |some b=>
    simp only[MT];cases AI op a b with
    |none=>simp only[JN];exact(Ts k kp H n _).symm
    |some v=>rfl
 |call c=>show HL P Xo rec n (cn P F (Sw tr) o c H n) k kp=_;rw[HK,e];unfold tA;simp only[hp]
 |_=>rfl
def Bv(r:Rec)(x:oE):oE:=Option.rec none (fun p=>Prod.rec (fun rs f=>some (r::rs,f)) p) x
def AZ(P:Program)(F:FuncId->Bool)(Xo:WW)(rec:CF->Qo->Nat->Option Rs)(len:Nat)(ops:Array Oper)(l:List Oper):Tri->Qo->Nat->oE:=
 List.rec (fun tr H n=>some ([],.ok ⟨len,tr⟩ H n)) (fun o _ ih tr H n=>Bool.rec
  (Bv ⟨o,false,undef,⟨len,tr⟩,H,H,n,n,[],[]⟩ (ih (F8 tr o.dst undef) H n))
  (OG o.op P F Xo rec len tr o H n (fun v H' n' R W=>Bv ⟨o,true,v,⟨len,tr⟩,H,H',n,n',R,W⟩ (ih (F8 tr o.dst v) H' n')) (fun v H' n' R W=>some ([],.Z6 ⟨len,tr⟩ v H' n' R W)))
  (AS ops tr o.guard)) l
def sP(len:Nat)(l:List Oper):Bool:=l.all fun o=>J7 ⟨len,.lf⟩ o.dst
theorem tW(P:Program)(F:FuncId->Bool)(Xo:WW)(rec:CF->Qo->Nat->Option Rs)(len:Nat)(ops:Array Oper):∀(l:List Oper) (tr:Tri) (H:Qo) (n:Nat),sP len l=true->AZ P F Xo rec len ops l tr H n=Jh P F Xo rec ops l ⟨len,tr⟩ H n
 |[],_,_,_,_=>rfl
 |o::l,tr,H,n,hd=>by
  simp only[sP,List.all_cons,YB]at hd;have hd1:J7 ⟨len,tr⟩ o.dst=true:=by
   have:=hd.1;cases hq:o.dst with
   |none=>rfl
   |some x=>rw[hq]at this;exact this
  have ih:=tW P F Xo rec len ops l;show(Bool.rec (Bv ⟨o,false,undef,⟨len,tr⟩,H,H,n,n,[],[]⟩ (AZ P F Xo rec len ops l (F8 tr o.dst undef) H n))
   (OG o.op P F Xo rec len tr o H n (fun v H' n' R W=>Bv ⟨o,true,v,⟨len,tr⟩,H,H',n,n',R,W⟩ (AZ P F Xo rec len ops l (F8 tr o.dst v) H' n')) (fun v H' n' R W=>some ([],.Z6 ⟨len,tr⟩ v H' n' R W)))
   (AS ops tr o.guard):oE)=_
  rw[Em len];simp only[Jh,hd1,cond_true];cases Region.wanted o (XI ops ⟨len,tr⟩)with
  |false=>
   simp only[cond_false];rw[ih _ _ _ hd.2,Bf];cases Jh P F Xo rec ops l (Vn ⟨len,tr⟩ o.dst undef) H n <;> rfl
  |true=>
   simp only[cond_true,Nj];cases tA P F Xo rec ⟨len,tr⟩ o H n with
   |none=>rfl
   |some s=>
    obtain⟨out,H',n',R,W⟩:=s;cases out with
    |Z6 v=>rfl
    |ret v=>
     simp only[fin];rw[ih _ _ _ hd.2,Bf];cases Jh P F Xo rec ops l (Vn ⟨len,tr⟩ o.dst v) H' n' <;> rfl
def S1(ops:Array Oper)(o:Oper)(k:Nat):List Oper->List (List Nat)->Bool
 |x::l,b::bs=>(b.contains k || o.apart ops x) && S1 ops o k l bs
 |[],_=>true
 |_::_,[]=>false
def stat(ops:Array Oper):Nat->List Oper->List (List Nat)->Bool
 |k,o::l,_::bs=>S1 ops o k l bs && stat ops (k+1) l bs
 |_,[],_=>true
 |_,_::_,[]=>false
def aM(i:Nat)(l:List Nat):Bool:=List.rec false (fun j _ ih=>Bool.rec ih true (Nat.beq i j)) l
theorem dK(i:Nat):∀(l:List Nat),aM i l=l.contains i
 |[]=>rfl
 |j::l=>by
  show(Bool.rec (aM i l) true (Nat.beq i j):Bool)=_;rw[dK i l,List.contains_cons];by_cases e:i=j
  ·subst e;rw[Nat.beq_refl];simp
  ·rw[Sq e];simp[e]
def rY(W R:List Nat):Bool:=List.rec false (fun i _ ih=>Bool.rec ih true (aM i R)) W
theorem fy(R:List Nat):∀(W:List Nat),rY W R=W.any fun i=>R.contains i
 |[]=>rfl
 |i::W=>by
  show(Bool.rec (rY W R) true (aM i R):Bool)=_;rw[fy R W,dK,List.any_cons];cases R.contains i <;> rfl
def ti(lo hi:Nat)(R:List Nat):Bool:=List.rec false (fun i _ ih=>Bool.rec ih (Bool.rec ih true (Nat.blt i hi)) (Nat.ble lo i)) R
theorem rh(lo hi:Nat):∀(R:List Nat),ti lo hi R=R.any fun i=>Nat.ble lo i && Nat.blt i hi
 |[]=>rfl
 |i::R=>by
  show(Bool.rec (ti lo hi R) (Bool.rec (ti lo hi R) true (Nat.blt i hi)) (Nat.ble lo i):Bool)=_;rw[rh lo hi R,List.any_cons];cases Nat.ble lo i <;> cases Nat.blt i hi <;> rfl
def clear(r x:Rec):Bool:=Bool.rec (Bool.rec (Bool.rec true false (ti r.n r.n' x.R)) false (rY x.W r.R)) false (rY r.W x.R)
theorem A4{ops:Array Oper}{r x:Rec}(h:clear r x=true)(ha:r.o.apart ops x.o=true):tied ops r x=false:=by
 unfold clear at h;rw[rh,fy,fy]at h;unfold tied meets bears;rw[ha];revert h;cases r.W.any fun i=>x.R.contains i <;> cases x.W.any fun i=>r.R.contains i <;> cases x.R.any fun i=>Nat.ble r.n i && Nat.blt i r.n' <;> simp
def Sl(r:Rec)(k:Nat)(l:List Rec):List (List Nat)->Bool:=List.rec (fun _=>true) (fun x _ ih bs=>List.rec false (fun b bs' _=>Bool.rec (Bool.rec false (ih bs') (aM k b)) (ih bs') (clear r x)) bs) l
def dyn(l:List Rec):Nat->List (List Nat)->Bool:=List.rec (fun _ _=>true) (fun r l ih k bs=>List.rec false (fun _ bs' _=>Bool.rec false (ih (k+1) bs') (Sl r k l bs')) bs) l
theorem eu{ops:Array Oper}{r:Rec}(k:Nat):∀(l:List Rec) (bs:List (List Nat)),Sl r k l bs=true->S1 ops r.o k (l.map (·.o)) bs=true->Kh ops r k l bs=true
 |[],_,_,_=>by simp[Kh]
 |x::l,[],_,h=>by simp[S1]at h
 |x::l,b::bs,hd,h=>by
  simp only[List.map_cons,S1,YB,Bool.or_eq_true]at h;simp only[Kh,YB,Bool.or_eq_true,Bool.not_eq_true'];have hd:(Bool.rec (Bool.rec false (Sl r k l bs) (aM k b)) (Sl r k l bs) (clear r x):Bool)=true:=hd;cases hc:clear r x with
  |true=>
   rw[hc]at hd;exact⟨h.1.imp id fun ha=>A4 hc ha,eu k l bs hd h.2⟩
  |false=>
   rw[hc]at hd;have hd:(Bool.rec false (Sl r k l bs) (aM k b):Bool)=true:=hd;cases he:aM k b with
   |false=>rw[he]at hd;cases hd
   |true=>
    rw[he]at hd;rw[dK]at he;exact⟨.inl he,eu k l bs hd h.2⟩
theorem ki{ops:Array Oper}:∀(l:List Rec) (bs:List (List Nat)) (k:Nat),dyn l k bs=true->stat ops k (l.map (·.o)) bs=true->indep ops k l bs=true
 |[],_,_,_,_=>by simp[indep]
 |x::l,[],_,_,h=>by simp[stat]at h
 |x::l,b::bs,k,hd,h=>by
  simp only[List.map_cons,stat,YB]at h;simp only[indep,YB];have hd:(Bool.rec false (dyn l (k+1) bs) (Sl x k l bs):Bool)=true:=hd;cases hc:Sl x k l bs with
  |false=>rw[hc]at hd;cases hd
  |true=>
   rw[hc]at hd;exact⟨eu k l bs hc h.1,ki l bs (k+1) hd h.2⟩
theorem ez{P:Program}{F:FuncId->Bool}{Xo:WW}{rec:CF->Qo->Nat->Option Rs}{ops:Array Oper}:∀(l:List Oper) (T:Tm) (H:Qo) (n:Nat) (Qw:List Rec) (T':Tm) (H':Qo) (n':Nat),Jh P F Xo rec ops l T H n=some (Qw,.ok T' H' n')->Qw.map (·.o)=l
 |[],T,H,n,Qw,T',H',n',h=>by
  simp only[Jh,YO,YR]at h;rw[<-h.1];rfl
 |o::l,T,H,n,Qw,T',H',n',h=>by
  simp only[Jh]at h;have h:=KK h;cases hw:Region.wanted o (XI ops T)with
  |true=>
   rw[hw]at h;simp only[cond_true]at h;split at h
   ·split at h
    ·split at h
     ·rename_i rs f hr;simp only[YO,YR]at h;obtain⟨rfl,rfl⟩:=h;simp[ez l _ _ _ _ _ _ _ hr]
     ·cases h
    ·simp only[YO,YR]at h;cases h.2
   ·cases h
  |false=>
   rw[hw]at h;simp only[cond_false]at h;split at h
   ·rename_i rs f hr;simp only[YO,YR]at h;obtain⟨rfl,rfl⟩:=h;simp[ez l _ _ _ _ _ _ _ hr]
   ·cases h
def rr(ops:Array Oper):Bool:=WV 0 ops.toList && stat ops 0 ops.toList (Y6 ops.toList [])
def chk(ops:Array Oper)(Qw:List Rec)(draw:Bool):Bool:=Bool.rec true (Bool.rec (WV 0 ops.toList && indep ops 0 Qw (Y6 ops.toList [])) (Bool.rec (WV 0 ops.toList && indep ops 0 Qw (Y6 ops.toList [])) true (dyn Qw 0 (Y6 ops.toList []))) (rr ops)) draw
theorem N0{ops:Array Oper}{Qw:List Rec}{draw:Bool}(h:Qw.map (·.o)=ops.toList):chk ops Qw draw=(!draw || (WV 0 ops.toList && indep ops 0 Qw (Y6 ops.toList []))):=by
 unfold chk;cases draw with
 |false=>rfl
 |true=>
  simp only[Bool.not_true,Bool.false_or];cases hs:rr ops with
  |false=>rfl
  |true=>
   cases hc:dyn Qw 0 (Y6 ops.toList [])with
   |false=>rfl
   |true=>
    unfold rr at hs;simp only[YB]at hs;rw[hs.1,ki Qw _ 0 hc (by rw[h];exact hs.2)];rfl
def iA(b:Nat)(l:List Nat):List Nat->List Nat:=List.rec (fun acc=>acc) (fun x _ ih acc=>Bool.rec (ih acc) (Bool.rec (ih (x::acc)) (ih acc) (aM x acc)) (Nat.blt x b)) l
theorem dR(b:Nat):∀(l acc:List Nat),iA b l acc=ZK b l acc
 |[],_=>rfl
 |x::l,acc=>by
  show(Bool.rec (iA b l acc) (Bool.rec (iA b l (x::acc)) (iA b l acc) (aM x acc)) (Nat.blt x b):List Nat)=_;rw[dR b l,dR b l,dK,ZK];cases Nat.blt x b <;> cases acc.contains x <;> rfl
theorem oA(b:Nat):∀(l m acc:List Nat),ZK b (l++m) acc=ZK b m (ZK b l acc)
 |[],_,_=>rfl
 |x::l,m,acc=>by simp only[List.cons_append,ZK];exact oA b l m _
def N5(b:Nat)(Qw:List Rec):List Nat->List Nat:=List.rec (fun acc=>acc) (fun r _ ih acc=>ih (iA b r.R acc)) Qw
theorem B3(b:Nat):∀(Qw:List Rec) (acc:List Nat),N5 b Qw acc=ZK b (Kz Qw) acc
 |[],_=>rfl
 |r::l,acc=>by
  show N5 b l (iA b r.R acc)=_;rw[B3 b l,dR,show Kz (r::l)=r.R++Kz l from List.flatMap_cons,oA]
def N4(b:Nat)(Qw:List Rec):List Nat->List Nat:=List.rec (fun acc=>acc) (fun r _ ih acc=>ih (iA b r.W acc)) Qw
theorem B2(b:Nat):∀(Qw:List Rec) (acc:List Nat),N4 b Qw acc=ZK b (VO Qw) acc
 |[],_=>rfl
 |r::l,acc=>by
  show N4 b l (iA b r.W acc)=_;rw[B2 b l,dR,show VO (r::l)=r.W++VO l from List.flatMap_cons,oA]
def E3(P:Program)(F:FuncId->Bool)(Xo:WW)(rec:CF->Qo->Nat->Option Rs)(len:Nat)(tr:Tri)(ops:Array Oper)(H:Qo)(n:Nat):oE:=
 Bool.rec (Jh P F Xo rec ops ops.toList ⟨len,tr⟩ H n) (AZ P F Xo rec len ops ops.toList tr H n) (sP len ops.toList)
theorem E2(P:Program)(F:FuncId->Bool)(Xo:WW)(rec:CF->Qo->Nat->Option Rs)(len:Nat)(tr:Tri)(ops:Array Oper)(H:Qo)(n:Nat):E3 P F Xo rec len tr ops H n=Jh P F Xo rec ops ops.toList ⟨len,tr⟩ H n:=by
 unfold E3;cases hd:sP len ops.toList with
 |false=>rfl
 |true=>exact tW P F Xo rec len ops _ _ _ _ hd
abbrev Oy:=Nat->FuncId->Nat->Tri->List Item->List Nat->Option Nat->Qo->Nat->List Nat->List Nat->Option Rs
def MI(P:Program)(F:FuncId->Bool)(Xo:WW)(fuel:Nat)(ih:Oy)(c1:CF)(H1:Qo)(n1:Nat):Option Rs:=
 CF.rec (fun fn T todo ds mode ro=>CM.rec (Tm.rec (fun len tr=>ih n1 fn len tr todo ds ro H1 n1 [] []) T) (Yy P F Xo fuel n1 ⟨fn,T,todo,ds,.ret,ro⟩ H1 n1 [] []) (fun v=>Yy P F Xo fuel n1 ⟨fn,T,todo,ds,.Z6 v,ro⟩ H1 n1 [] []) mode) c1
def OQ(P:Program)(F:FuncId->Bool)(Xo:WW)(fuel:Nat)(ih:Oy)(b:Nat)(c1:CF)(H1:Qo)(n1:Nat)(R W:List Nat):Option Rs:=
 CF.rec (fun fn T todo ds mode ro=>CM.rec (Tm.rec (fun len tr=>ih b fn len tr todo ds ro H1 n1 R W) T) (Yy P F Xo fuel b ⟨fn,T,todo,ds,.ret,ro⟩ H1 n1 R W) (fun v=>Yy P F Xo fuel b ⟨fn,T,todo,ds,.Z6 v,ro⟩ H1 n1 R W) mode) c1
def resume(P:Program)(F:FuncId->Bool)(Xo:WW)(fuel:Nat)(ih:Oy)(b:Nat)(R W:List Nat)(x:Option FS):Option Rs:=
 Option.rec none (fun fs=>FS.rec (fun c' H' n' R' W'=>OQ P F Xo fuel ih b c' H' n' (ZK b R' R) (ZK b W' W)) (fun out H' n' R' W'=>some ⟨out,H',n',ZK b R' R,ZK b W' W⟩) fs) x
abbrev Ik:=Program->(FuncId->Bool)->WW->Nat->Oy->Nat->FuncId->Nat->Tri->List Item->List Nat->Option Nat->Qo->Nat->List Nat->List Nat->Option Rs
def Rn(it:Item):Ik:=fun P F Xo fuel ih b fn len tr k ds ro H n R W=>resume P F Xo fuel ih b R W (fH P F Xo (MI P F Xo fuel ih) ⟨fn,⟨len,tr⟩,it::k,ds,.run,ro⟩ H n)
def Br:Ik:=fun _ _ _ _ ih b fn len tr k ds ro H n R W=>ih b fn len tr k ds ro H n R W
def OH(x y:Code):Ik:=fun _ _ _ _ ih b fn len tr k ds ro H n R W=>ih b fn len tr (.code x::.code y::k) ds ro H n R W
def Ol(q:Operand)(x y:Code):Ik:=fun _ _ _ _ ih b fn len tr k ds ro H n R W=>Option.rec none (fun v=>Option.rec none (fun t=>Bool.rec (ih b fn len tr (.code y::k) ds ro H n R W) (ih b fn len tr (.code x::k) ds ro H n R W) t) (Pz v)) (Sw tr q)
def Ns(id:Nat)(x:Code):Ik:=fun _ _ _ _ ih b fn len tr k ds ro H n R W=>ih b fn len tr (.code x::.inBlock id::k) ds ro H n R W
def Mt(x:Code):Ik:=fun _ _ _ _ ih b fn len tr k ds ro H n R W=>ih b fn len tr (.code x::.inLoop x::k) ds ro H n R W
def Nr(x:Code):Ik:=fun _ _ _ _ ih b fn len tr k ds ro H n R W=>ih b fn len tr (.code x::.inScope x::k) ds ro H n R W
def sJ(id:Nat)(ops:Array Oper)(draw:Bool):Ik:=fun P F Xo fuel ih b fn len tr k ds ro H n R W=>
 Option.rec none (fun p=>Prod.rec (fun Qw f=>RF.rec (fun T' H' n'=>Bool.rec none (Tm.rec (fun len' tr'=>ih b fn len' tr' k ds ro H' n' (N5 b Qw R) (N4 b Qw W)) T') (chk ops Qw draw))
  (fun T' v H' n' R1 W1=>resume P F Xo fuel ih b R W (MN ⟨fn,⟨len,tr⟩,.code (.region id ops draw)::k,ds,.run,ro⟩ ops draw k (some (Qw,.Z6 T' v H' n' R1 W1)))) f) p) (E3 P F Xo (MI P F Xo fuel ih) len tr ops H n)
def codeF(cd:Code):Ik:=Code.rec Br sJ (fun x y _ _=>OH x y) (fun q x y _ _=>Ol q x y) (fun id x _=>Ns id x) (fun x _=>Mt x) (fun f ps x y _ _=>Rn (.code (.rangeFunc f ps x y))) (fun id=>Rn (.code (.exit id))) (fun x _=>Nr x) (fun _=>Br) (fun l=>Rn (.code (.goto l))) (Rn (.code .ret)) (fun w=>Rn (.code (.refuse w))) cd
def Ms(it:Item):Ik:=Item.rec codeF (fun _=>Br) Mt (fun _=>Br) (fun a b=>Rn (.inRegion a b)) (fun l=>Rn (.inRangeFunc l)) (fun l=>Rn (.endRangeFunc l)) (Rn .beginRound) (fun a b c d=>Rn (.call a b c d)) (fun a b=>Rn (.extern a b)) it
def Tq(P:Program)(F:FuncId->Bool)(Xo:WW)(fuel:Nat):Oy:=Nat.rec (fun _ _ _ _ _ _ _ _ _ _ _=>none) (fun fuel ih b fn len tr todo ds ro H n R W=>
 List.rec (resume P F Xo fuel ih b R W (Pq ⟨fn,⟨len,tr⟩,[],ds,.run,ro⟩ H n none)) (fun it k _=>Ms it P F Xo fuel ih b fn len tr k ds ro H n R W) todo) fuel
theorem nV(P:Program)(F:FuncId->Bool)(Xo:WW):∀(fuel b:Nat) (fn:FuncId) (len:Nat) (tr:Tri) (todo:List Item) (ds:List Nat) (ro:Option Nat) (H:Qo) (n:Nat) (R W:List Nat),Tq P F Xo fuel b fn len tr todo ds ro H n R W=Yy P F Xo fuel b ⟨fn,⟨len,tr⟩,todo,ds,.run,ro⟩ H n R W
 |0,_,_,_,_,_,_,_,_,_,_,_=>rfl
 |fuel+1,b,fn,len,tr,todo,ds,ro,H,n,R,W=>by
  have hih:∀(b:Nat) (fn:FuncId) (len:Nat) (tr:Tri) (todo:List Item) (ds:List Nat) (ro:Option Nat) (H:Qo) (n:Nat) (R W:List Nat),Tq P F Xo fuel b fn len tr todo ds ro H n R W=Yy P F Xo fuel b ⟨fn,⟨len,tr⟩,todo,ds,.run,ro⟩ H n R W:=nV P F Xo fuel;have Vh:MI P F Xo fuel (Tq P F Xo fuel)=fun c1 H1 n1=>Yy P F Xo fuel n1 c1 H1 n1 [] []:=by
   funext c1 H1 n1;obtain⟨fn,⟨len,tr⟩,todo,ds,mode,ro⟩:=c1;cases mode with
   |run=>exact hih _ _ _ _ _ _ _ _ _ _ _
   |ret=>rfl
   |Z6 v=>rfl
  have hres:∀(R W:List Nat) (x:Option FS),resume P F Xo fuel (Tq P F Xo fuel) b R W x=match x with
   |some (.go c' H' n' R' W')=>Yy P F Xo fuel b c' H' n' (ZK b R' R) (ZK b W' W)
   |some (.done out H' n' R' W')=>some ⟨out,H',n',ZK b R' R,ZK b W' W⟩
   |none=>none:=by
   intro R W x;cases x with
   |none=>rfl
   |some fs=>
    cases fs with
    |done out H' n' R' W'=>rfl
    |go c' H' n' R' W'=>
     obtain⟨fn,⟨len,tr⟩,todo,ds,mode,ro⟩:=c';cases mode with
     |run=>exact hih _ _ _ _ _ _ _ _ _ _ _
     |ret=>rfl
     |Z6 v=>rfl
  have hslow:∀(it:Item) (k:List Item),Rn it P F Xo fuel (Tq P F Xo fuel) b fn len tr k ds ro H n R W=Yy P F Xo (fuel+1) b ⟨fn,⟨len,tr⟩,it::k,ds,.run,ro⟩ H n R W:=by
   intro it k;unfold Rn;rw[hres,Vh];rfl
  cases todo with
  |nil=>exact hres R W _
  |cons it k=>
   show Ms it P F Xo fuel (Tq P F Xo fuel) b fn len tr k ds ro H n R W=_;cases it with
   |code cd=>
    cases cd with
    |skip=>exact hih _ _ _ _ _ _ _ _ _ _ _
    |label l=>exact hih _ _ _ _ _ _ _ _ _ _ _
    |seq x y=>exact hih _ _ _ _ _ _ _ _ _ _ _
    |block id x=>exact hih _ _ _ _ _ _ _ _ _ _ _
    |loop x=>exact hih _ _ _ _ _ _ _ _ _ _ _
    |scope x=>exact hih _ _ _ _ _ _ _ _ _ _ _
    |cond q x y=>
     show(Option.rec none (fun v=>Option.rec none (fun t=>Bool.rec (Tq P F Xo fuel b fn len tr (.code y::k) ds ro H n R W) (Tq P F Xo fuel b fn len tr (.code x::k) ds ro H n R W) t) (Pz v)) (Sw tr q):Option Rs)=_;rw[H7 len tr,hih,hih];simp only[Yy,fH,fZ,ga];cases XW ⟨len,tr⟩ q with
     |none=>rfl
     |some v=>
      cases v with
      |bool t=>cases t <;> rfl
      |_=>rfl
    |region id ops draw=>
     show sJ id ops draw P F Xo fuel (Tq P F Xo fuel) b fn len tr k ds ro H n R W=_;unfold sJ;rw[E2,Vh];simp only[Yy,fH,fZ,ga,B3,B2];cases hrr:Jh P F Xo (fun c1 H1 n1=>Yy P F Xo fuel n1 c1 H1 n1 [] []) ops ops.toList ⟨len,tr⟩ H n with
     |none=>rfl
     |some p=>
      obtain⟨Qw,f⟩:=p;cases f with
      |Z6 v H' n' R1 W1=>exact hres R W _
      |ok T' H' n'=>
       have hck:=N0 (draw:=draw) (ez _ _ _ _ _ _ _ _ hrr);obtain⟨len',tr'⟩:=T';simp only[MN];rw[hck];cases !draw || (WV 0 ops.toList && indep ops 0 Qw (Y6 ops.toList []))with
       |false=>rfl
       |true=>exact hih _ _ _ _ _ _ _ _ _ _ _
    |rangeFunc f ps x y=>exact hslow _ k
    |exit id=>exact hslow _ k
    |goto id=>exact hslow _ k
    |ret=>exact hslow _ k
    |refuse w=>exact hslow (.code (.refuse w)) k
   |inBlock id=>exact hih _ _ _ _ _ _ _ _ _ _ _
   |inScope x=>exact hih _ _ _ _ _ _ _ _ _ _ _
   |inLoop x=>exact hih _ _ _ _ _ _ _ _ _ _ _
   |inRegion a b=>exact hslow _ k
   |inRangeFunc l=>exact hslow _ k
   |endRangeFunc l=>exact hslow _ k
   |beginRound=>exact hslow _ k
   |call a b c d=>exact hslow _ k
   |extern a b=>exact hslow _ k
end
end Go.CE
