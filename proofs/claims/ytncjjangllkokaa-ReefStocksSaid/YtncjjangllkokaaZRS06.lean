/- CE: the canonical machine a third time: by recursors alone where much time goes. -/
import Derived.Test.YtncjjangllkokaaZRS05
set_option linter.all false
open Bool renaming rec->LQ
open Nat renaming beq->Lf,ble->LR,blt->Lr
open Array renaming getElem?_toList->Lq
open List renaming flatMap_cons->LU
namespace Go.CE
open Go Go.RowKit
noncomputable section

def gg(t:Tri):Nat->Value:=Tri.rec (fun _=>undef) (fun _ v _ gl gr k=>Nat.rec v (fun j _=>LQ (gr (Nat.div j 2)) (gl (Nat.div j 2)) (Lf (Nat.mod j 2) 0)) k) t
theorem bp:∀(t:Tri) (k:Nat),gg t k=t.get k
 | .lf,k=>by cases k <;> rfl
 | .nd l v r,0=>rfl
 | .nd l v r,k+1=>by
   show(LQ (gg r (k / 2)) (gg l (k / 2)) (Lf (k % 2) 0):Value)=bif Lf (k % 2) 0 then l.get (k / 2)else r.get (k / 2);rw[bp l,bp r];cases Lf (k % 2) 0 <;> rfl
def cI(f:Nat):Tri->Nat->Value->Tri:=Nat.rec (fun t _ _=>t) (fun _ ih t i x=>Tri.rec
 (Nat.rec (.nd .lf x .lf) (fun j _=>LQ (.nd .lf undef (ih .lf (Nat.div j 2) x)) (.nd (ih .lf (Nat.div j 2) x) undef .lf) (Lf (Nat.mod j 2) 0)) i)
 (fun l v r _ _=>Nat.rec (.nd l x r) (fun j _=>LQ (.nd l v (ih r (Nat.div j 2) x)) (.nd (ih l (Nat.div j 2) x) v r) (Lf (Nat.mod j 2) 0)) i) t) f
theorem bo:∀(f:Nat) (t:Tri) (i:Nat) (x:Value),cI f t i x=Tri.set f t i x
 |0,_,_,_=>rfl
 |f+1,.lf,0,x=>rfl
 |f+1,.nd l v r,0,x=>rfl
 |f+1,.lf,k+1,x=>by
  show(LQ (Tri.nd .lf undef (cI f .lf (k / 2) x)) (Tri.nd (cI f .lf (k / 2) x) undef .lf) (Lf (k % 2) 0):Tri)=bif Lf (k % 2) 0 then .nd (Tri.set f .lf (k / 2) x) undef .lf else .nd .lf undef (Tri.set f .lf (k / 2) x);rw[bo f];cases Lf (k % 2) 0 <;> rfl
 |f+1,.nd l v r,k+1,x=>by
  show(LQ (Tri.nd l v (cI f r (k / 2) x)) (Tri.nd (cI f l (k / 2) x) v r) (Lf (k % 2) 0):Tri)=bif Lf (k % 2) 0 then .nd (Tri.set f l (k / 2) x) v r else .nd l v (Tri.set f r (k / 2) x);rw[bo f,bo f];cases Lf (k % 2) 0 <;> rfl
def ao(tr:Tri)(x:Operand):Option Value:=Operand.rec (fun t=>some (gg tr t)) (fun v=>LQ none (some v) (af v)) (fun _=>none) (fun f=>some (.func (.func f) #[] #[])) x
theorem Hz(len:Nat)(tr:Tri):ao tr=Zd ⟨len,tr⟩:=by
 funext x;cases x with
 |tmp t=>show some (gg tr t)=some (tr.get t);rw[bp]
 |const v=>show(LQ none (some v) (af v):Option Value)=bif af v then some v else none;cases af v <;> rfl
 |global g=>rfl
 |func f=>rfl
def Gk(tr:Tri)(d:Option Tmp)(v:Value):Tri:=Option.rec tr (fun d=>cI 14 tr d v) d
theorem Bs(len:Nat)(tr:Tri)(d:Option Tmp)(v:Value):(⟨len,Gk tr d v⟩:Tm)=VB ⟨len,tr⟩ d v:=by
 cases d with
 |none=>rfl
 |some d=>show(⟨len,cI 14 tr d v⟩:Tm)=⟨len,tr.set 14 d v⟩;rw[bo]
def Mo{α:Type}(l:List α):Nat->Option α:=List.rec (fun _=>none) (fun x _ ih k=>Nat.rec (some x) (fun j _=>ih j) k) l
theorem Bz{α:Type}:∀(l:List α) (k:Nat),Mo l k=l[k]?
 |[],k=>by cases k <;> rfl
 |x::l,0=>rfl
 |x::l,k+1=>by show Mo l k=_;rw[Bz l k];rfl
def sr(P:Program)(t:TypeId)(cs:Array Value)(off:Nat):Option Value:=
 Option.rec none (fun g=>LQ (Mo cs.toList off) (Option.rec none (fun s=>LQ none (some (.agg (cs.extract off (off+s)))) (LR (off+s) cs.size)) (Wz P t)) g) (o6 P t)
theorem qm(P:Program)(t:TypeId)(cs:Array Value)(off:Nat):sr P t cs off=Y4 P t cs off:=by
 unfold sr Y4;cases o6 P t with
 |none=>rfl
 |some g=>
  cases g with
  |false=>show Mo cs.toList off=_;rw[Bz,Lq]
  |true=>
   cases Wz P t with
   |none=>rfl
   |some s=>simp only;cases LR (off+s) cs.size <;> rfl
def sw(P:Program)(t:TypeId)(H:Qt)(p:Value):Option (Value×Nat):=match p with
 | .pointer (some ⟨b,off,none⟩)=>match Qw H b with
   |some (.cells cs _ _)=>match sr P t cs off with
    |some v=>some (v,b)
    |none=>none
   |_=>none
 |_=>none
theorem Eb(P:Program)(t:TypeId)(H:Qt)(p:Value):sw P t H p=Th P t H p:=by
 unfold sw Th;simp only[qm];rfl
def sD(p:Value->Bool)(l:List Value):Bool:=List.rec true (fun x _ ih=>LQ false ih (p x)) l
theorem fZ(p:Value->Bool):∀(l:List Value),sD p l=l.all p
 |[]=>rfl
 |x::l=>by
  show(LQ false (sD p l) (p x):Bool)=_;rw[fZ p l,List.all_cons];cases p x <;> rfl
def GV(cs:Array Value):Bool:=sD (·.oneCell') cs.toList
theorem GU(cs:Array Value):GV cs=ones cs:=by
 unfold GV ones;rw[fZ,Array.all_toList]
def Ou(v:Value):Bool:=match v with
 | .agg xs=>sD simple xs.toList
 |v=>simple v
theorem E1(v:Value):Ou v=sa v:=by
 cases v <;> first|rfl|(show sD simple _=_;rw[fZ,Array.all_toList];rfl)
def afF(v:Value):Bool:=match v with
 | .agg xs=>sD simple xs.toList
 | .tuple xs=>sD Ou xs.toList
 | .iface _ v=>Ou v
 |v=>simple v
theorem NZ(v:Value):afF v=af v:=by
 cases v with
 |iface t v=>exact E1 v
 |tuple xs=>show sD Ou _=_;rw[show Ou=sa from funext E1,fZ,Array.all_toList];rfl
 |_=>first|rfl|(show sD simple _=_;rw[fZ,Array.all_toList];rfl)
def jZ(P:Program)(t:TypeId)(H:Qt)(v p:Value):Option (Qt×Nat):=match p with
 | .pointer (some ⟨b,off,none⟩)=>match Qw H b with
   |some (.cells cs te (0,0))=>match Wz P t with
    |some s=>bif Lf v.cells.size s && GV v.cells && LR (off+s) cs.size then some (VA H b (.cells (splice cs off v.cells) te (0,0)),b)else none
    |none=>none
   |_=>none
 |_=>none
theorem AG(P:Program)(t:TypeId)(H:Qt)(v p:Value):jZ P t H v p=Su P t H v p:=by
 unfold jZ Su;simp only[GU];rfl
def kb(P:Program)(t:TypeId)(f:Nat)(x:Value):Option Value:=match x with
 | .agg cs=>match R5 P t with
   |some (.struct fields)=>match fields[f]? with
    |some fd=>sr P fd.type cs fd.offset
    |none=>none
   |_=>none
 |_=>none
theorem AL(P:Program)(t:TypeId)(f:Nat)(x:Value):kb P t f x=gY P t f x:=by
 unfold kb gY;simp only[qm];rfl
def ye(ops:Array Oper)(tr:Tri)(j:Nat):Option Bool:=match nth ops.toList j with
 |some o=>match o.dst with
  |some t=>Sv (gg tr t)
  |none=>none
 |none=>none
theorem BP(len:Nat)(ops:Array Oper)(tr:Tri)(j:Nat):ye ops tr j=XO ops ⟨len,tr⟩ j:=by
 unfold ye XO;simp only[bp,XT];rfl
def AZ(ops:Array Oper)(tr:Tri)(g:Option (Nat×Bool)):Bool:=Option.rec true (fun jw=>Prod.rec (fun j w=>Option.rec false (fun b=>LQ (LQ true false w) (LQ false true w) b) (ye ops tr j)) jw) g
theorem El(len:Nat)(ops:Array Oper)(tr:Tri)(o:Oper):AZ ops tr o.guard=Region.wanted o (XO ops ⟨len,tr⟩):=by
 unfold AZ Region.wanted;cases o.guard with
 |none=>rfl
 |some jw=>
  obtain⟨j,w⟩:=jw;simp only[BP len];cases XO ops ⟨len,tr⟩ j with
  |none=>rfl
  |some b=>cases b <;> cases w <;> rfl
abbrev oC:=Option (List Rec×RF)
abbrev KV:=Value->Qt->Nat->List Nat->List Nat->oC
abbrev Ek:=Program->(FuncId->Bool)->WW->(CF->Qt->Nat->Option Rs)->Nat->Tri->Oper->Qt->Nat->KV->KV->oC
def fin(k kp:KV)(s:Option Rs):oC:=match s with
 |some ⟨out,H,n,R,W⟩=>match out with
  | .ret v=>k v H n R W
  | .We v=>kp v H n R W
 |none=>none
def pv(k:KV)(H:Qt)(n:Nat)(x:Option Value):oC:=Option.rec none (fun v=>k v H n [] []) x
theorem bk(k kp:KV)(H:Qt)(n:Nat)(x:Option Value):fin k kp (qV x H n)=pv k H n x:=by cases x <;> rfl
def Nb(x:Operand):Ek:=fun _ _ _ _ _ tr _ H n k _=>pv k H n (ao tr x)
def OJ(c a b:Operand):Ek:=fun _ _ _ _ _ tr _ H n k _=>Option.rec none (fun v=>Option.rec none (fun t=>LQ (pv k H n (ao tr b)) (pv k H n (ao tr a)) t) (Sv v)) (ao tr c)
def OK(t:TypeId)(a:Operand):Ek:=fun P _ _ _ _ tr _ H n k _=>Option.rec none (fun p=>Option.rec none (fun vb=>Prod.rec (fun v b=>LQ none (k v H n [b] []) (Lr b n)) vb) (sw P t H p)) (ao tr a)
def Oc(t:TypeId)(a x:Operand):Ek:=fun P _ _ _ _ tr _ H n k _=>Option.rec none (fun p=>Option.rec none (fun v=>Option.rec none (fun hb=>Prod.rec (fun H' b=>LQ none (k undef H' n [b] [b]) (Lr b n)) hb) (jZ P t H v p)) (ao tr x)) (ao tr a)
def AW(s:TypeId)(x:Operand)(f:Nat):Ek:=fun P _ _ _ _ tr _ H n k _=>Option.rec none (fun p=>pv k H n (Wd P s f p)) (ao tr x)
def Od(s:TypeId)(x:Operand)(f:Nat):Ek:=fun P _ _ _ _ tr _ H n k _=>Option.rec none (fun p=>pv k H n (kb P s f p)) (ao tr x)
def AV(t:TypeId)(x i:Operand):Ek:=fun P _ _ _ _ tr _ H n k _=>Option.rec none (fun p=>Option.rec none (fun j=>pv k H n (Jd P t p j)) (ao tr i)) (ao tr x)
def HX(x:Operand)(i:Nat):Ek:=fun _ _ _ _ _ tr _ H n k _=>Option.rec none (fun p=>pv k H n (Ti i p)) (ao tr x)
def Qam(op:BinOp)(_:TypeId)(x y:Operand)(_:TypeId):Ek:=fun P _ _ _ _ tr o H n k _=>Option.rec none (fun a=>Option.rec none (fun b=>Option.rec (pv k H n (UN P (ao tr) o)) (fun v=>k v H n [] []) (AN op a b)) (ao tr y)) (ao tr x)
def H8(v:Value)(r:CR)(k:KV)(H':Qt)(n':Nat)(R W:List Nat):oC:=List.rec (LQ (k v H' n' (r.R++R) (r.W++[])) (k v r.H n' (r.R++R) (r.W++[])) (afF v)) (fun _ _ _=>k v H' n' (r.R++R) (r.W++W)) W
def BI(r:CR)(k kp:KV)(s:Option Rs):oC:=Option.rec none (fun s=>Rs.rec (fun out H' n' R W=>OO.rec (fun v=>H8 v r k H' n' R W) (fun v=>kp v H' n' (r.R++R) (r.W++W)) out) s) s
theorem HT(r:CR)(k kp:KV)(s:Option Rs):BI r k kp s=fin k kp (match s with|some s=>Gg r s|none=>none):=by
 cases s with
 |none=>rfl
 |some s=>
  obtain⟨out,H',n',R,W⟩:=s;cases out with
  |We v=>
   cases W with
   |nil=>rfl
   |cons a b=>rfl
  |ret v=>
   show H8 v r k H' n' R W=_;unfold H8;cases W with
   |nil=>
    rw[NZ];simp only[Gg,Jj];cases af v <;> rfl
   |cons a b=>rfl
def sh(P:Program)(Xu:WW)(rec:CF->Qt->Nat->Option Rs)(g:FuncId)(args:Array Value)(r:CR)(k kp:KV):oC:=Option.rec (Option.rec none (fun c=>BI r k kp (rec c r.H r.n)) (ZY P g args)) (fun _=>fin k kp (qN P Xu rec g args r)) (Xu g args r.H r.n)
theorem DV(P:Program)(Xu:WW)(rec:CF->Qt->Nat->Option Rs)(g:FuncId)(args:Array Value)(r:CR)(k kp:KV):sh P Xu rec g args r k kp=fin k kp (qN P Xu rec g args r):=by
 unfold sh;cases ho:Xu g args r.H r.n with
 |some x=>rfl
 |none=>
  unfold qN;rw[ho];show(Option.rec none (fun c=>BI r k kp (rec c r.H r.n)) (ZY P g args):oC)=fin k kp (N1 P rec g args r);unfold N1;cases ZY P g args with
  |none=>rfl
  |some c=>
   show BI r k kp (rec c r.H r.n)=_;rw[HT];rfl
def HK(P:Program)(Xu:WW)(rec:CF->Qt->Nat->Option Rs)(n:Nat)(x:Option CR)(k kp:KV):oC:=Option.rec none (fun r=>CN.rec (fun _=>fin k kp (qR P Xu rec n (some r))) (fun g args=>LQ none (sh P Xu rec g args r k kp) (r.R.all (fun i=>Lr i n))) (fun _ _ _ _ _=>fin k kp (qR P Xu rec n (some r))) r.nx) x
theorem HJ(P:Program)(Xu:WW)(rec:CF->Qt->Nat->Option Rs)(n:Nat)(x:Option CR)(k kp:KV):HK P Xu rec n x k kp=fin k kp (qR P Xu rec n x):=by
 cases x with
 |none=>rfl
 |some r=>
  obtain⟨nx,H',n',R,W⟩:=r;cases nx with
  |val v=>rfl
  |round l fn tm a b=>rfl
  |enter g args=>
   show(LQ none (sh P Xu rec g args ⟨.enter g args,H',n',R,W⟩ k kp) (R.all (fun i=>Lr i n)):oC)=_;rw[DV];simp only[qR];cases R.all (fun i=>Lr i n) <;> rfl
def OL(c:Call):Ek:=fun P F Xu rec _ tr o H n k kp=>HK P Xu rec n (eN P F (ao tr) o c H n) k kp
def Kp:Ek:=fun P F Xu rec len tr o H n k kp=>fin k kp (sJ P F Xu rec ⟨len,tr⟩ o H n)
def opF(op:Op):Ek:=Op.rec Nb Nb OJ (fun _=>Kp) (fun _ _=>Kp) (fun _ _=>Kp) (fun _ _ _=>Kp) (fun _ _ _ _=>Kp) OK Oc (fun _=>Kp) (fun _=>Kp) (fun _=>Kp) Qam (fun _ _ _=>Kp) (fun _ _ _=>Kp) (fun _ _=>Kp) (fun _ _=>Kp)
 (fun _ _ _=>Kp) (fun _ _=>Kp) (fun _ _=>Kp) (fun _ _ _=>Kp) (fun _ _ _ _ _=>Kp) AW Od AV (fun _ _ _=>Kp) (fun _ _ _ _=>Kp) (fun _ _ _ _=>Kp) (fun _ _ _=>Kp) (fun _ _ _ _=>Kp) (fun _ _=>Kp) (fun _ _=>Kp) (fun _=>Kp) (fun _ _ _ _=>Kp)
 HX OL (fun _=>Kp) (fun _=>Kp) (fun _=>Kp) (fun _ _=>Kp) (fun _ _ _=>Kp) (fun _ _=>Kp) op
theorem NH(P:Program)(F:FuncId->Bool)(Xu:WW)(rec:CF->Qt->Nat->Option Rs)(len:Nat)(tr:Tri)(o:Oper)(H:Qt)(n:Nat)(k kp:KV):opF o.op P F Xu rec len tr o H n k kp=fin k kp (sJ P F Xu rec ⟨len,tr⟩ o H n):=by
 have e:=Hz len tr;cases hp:o.op with
 |move x=>show pv k H n (ao tr x)=_;rw[e];unfold sJ;simp only[hp];exact(bk k kp H n _).symm
 |assign x=>show pv k H n (ao tr x)=_;rw[e];unfold sJ;simp only[hp];exact(bk k kp H n _).symm
 |pick c a b=>
  show(Option.rec none (fun v=>Option.rec none (fun t=>LQ (pv k H n (ao tr b)) (pv k H n (ao tr a)) t) (Sv v)) (ao tr c):oC)=_;rw[e];unfold sJ;simp only[hp];cases Zd ⟨len,tr⟩ c with
  |none=>rfl
  |some v=>
   cases v with
   |bool t=>cases t <;> exact(bk k kp H n _).symm
   |_=>rfl
 |load t a=>
  show(Option.rec none (fun p=>Option.rec none (fun vb=>Prod.rec (fun v b=>LQ none (k v H n [b] []) (Lr b n)) vb) (sw P t H p)) (ao tr a):oC)=_;simp only[Eb];rw[e];unfold sJ;simp only[hp];cases Zd ⟨len,tr⟩ a with
  |none=>rfl
  |some p=>
   simp only[Gb];cases Th P t H p with
   |none=>rfl
   |some vb=>
    obtain⟨v,b⟩:=vb;cases hb:Lr b n <;> simp[qR,fin,Bq,hb]
 |store t a x=>
  show(Option.rec none (fun p=>Option.rec none (fun v=>Option.rec none (fun hb=>Prod.rec (fun H' b=>LQ none (k undef H' n [b] [b]) (Lr b n)) hb) (jZ P t H v p)) (ao tr x)) (ao tr a):oC)=_;simp only[AG];rw[e];unfold sJ;simp only[hp];cases Zd ⟨len,tr⟩ a with
  |none=>rfl
  |some p=>
   cases Zd ⟨len,tr⟩ x with
   |none=>rfl
   |some v=>
    simp only[yN];cases Su P t H v p with
    |none=>rfl
    |some vb=>
     obtain⟨H',b⟩:=vb;cases hb:Lr b n <;> simp[qR,fin,Bq,hb]
 |fieldAddr s x f=>
  show(Option.rec none (fun p=>pv k H n (Wd P s f p)) (ao tr x):oC)=_;rw[e];unfold sJ;simp only[hp];cases Zd ⟨len,tr⟩ x with
  |none=>rfl
  |some p=>simp only[cQ,RG];exact(bk k kp H n _).symm
 |field s x f=>
  show(Option.rec none (fun p=>pv k H n (kb P s f p)) (ao tr x):oC)=_;simp only[AL];rw[e];unfold sJ;simp only[hp];cases Zd ⟨len,tr⟩ x with
  |none=>rfl
  |some p=>simp only[yO,RG];exact(bk k kp H n _).symm
 |indexAddr t x i=>
  show(Option.rec none (fun p=>Option.rec none (fun j=>pv k H n (Jd P t p j)) (ao tr i)) (ao tr x):oC)=_;rw[e];unfold sJ;simp only[hp];cases Zd ⟨len,tr⟩ x with
  |none=>rfl
  |some p=>
   cases Zd ⟨len,tr⟩ i with
   |none=>rfl
   |some j=>simp only[cP,RG];exact(bk k kp H n _).symm
 |extract x i=>
  show(Option.rec none (fun p=>pv k H n (Ti i p)) (ao tr x):oC)=_;rw[e];unfold sJ;simp only[hp];cases Zd ⟨len,tr⟩ x with
  |none=>rfl
  |some p=>simp only[l5,RG];exact(bk k kp H n _).symm
 |binOp op t x y t'=>
  show(Option.rec none (fun a=>Option.rec none (fun b=>Option.rec (pv k H n (UN P (ao tr) o)) (fun v=>k v H n [] []) (AN op a b)) (ao tr y)) (ao tr x):oC)=_;rw[e];unfold sJ;simp only[hp];cases Zd ⟨len,tr⟩ x with
  |none=>rfl
  |some a=>
   cases Zd ⟨len,tr⟩ y with
   |none=>rfl
   |some b=>
    simp only[N4];cases AN op a b with
    |none=>simp only[RG];exact(bk k kp H n _).symm
    |some v=>rfl
 |call c=>show HK P Xu rec n (eN P F (ao tr) o c H n) k kp=_;rw[HJ,e];unfold sJ;simp only[hp]
 |_=>rfl
def BE(r:Rec)(x:oC):oC:=Option.rec none (fun p=>Prod.rec (fun rs f=>some (r::rs,f)) p) x
def Bi(P:Program)(F:FuncId->Bool)(Xu:WW)(rec:CF->Qt->Nat->Option Rs)(len:Nat)(ops:Array Oper)(l:List Oper):Tri->Qt->Nat->oC:=
 List.rec (fun tr H n=>some ([],.ok ⟨len,tr⟩ H n)) (fun o _ ih tr H n=>LQ
  (BE ⟨o,false,undef,⟨len,tr⟩,H,H,n,n,[],[]⟩ (ih (Gk tr o.dst undef) H n))
  (opF o.op P F Xu rec len tr o H n (fun v H' n' R W=>BE ⟨o,true,v,⟨len,tr⟩,H,H',n,n',R,W⟩ (ih (Gk tr o.dst v) H' n')) (fun v H' n' R W=>some ([],.We ⟨len,tr⟩ v H' n' R W)))
  (AZ ops tr o.guard)) l
def si(len:Nat)(l:List Oper):Bool:=l.all fun o=>Rq ⟨len,.lf⟩ o.dst
theorem tj(P:Program)(F:FuncId->Bool)(Xu:WW)(rec:CF->Qt->Nat->Option Rs)(len:Nat)(ops:Array Oper):∀(l:List Oper) (tr:Tri) (H:Qt) (n:Nat),si len l=true->Bi P F Xu rec len ops l tr H n=PH P F Xu rec ops l ⟨len,tr⟩ H n
 |[],_,_,_,_=>rfl
 |o::l,tr,H,n,hd=>by
  simp only[si,List.all_cons,YB]at hd;have hd1:Rq ⟨len,tr⟩ o.dst=true:=by
   have:=hd.1;cases hq:o.dst with
   |none=>rfl
   |some x=>rw[hq]at this;exact this
  have ih:=tj P F Xu rec len ops l;show(LQ (BE ⟨o,false,undef,⟨len,tr⟩,H,H,n,n,[],[]⟩ (Bi P F Xu rec len ops l (Gk tr o.dst undef) H n))
   (opF o.op P F Xu rec len tr o H n (fun v H' n' R W=>BE ⟨o,true,v,⟨len,tr⟩,H,H',n,n',R,W⟩ (Bi P F Xu rec len ops l (Gk tr o.dst v) H' n')) (fun v H' n' R W=>some ([],.We ⟨len,tr⟩ v H' n' R W)))
   (AZ ops tr o.guard):oC)=_
  rw[El len];simp only[PH,hd1,cond_true];cases Region.wanted o (XO ops ⟨len,tr⟩)with
  |false=>
   simp only[cond_false];rw[ih _ _ _ hd.2,Bs];cases PH P F Xu rec ops l (VB ⟨len,tr⟩ o.dst undef) H n <;> rfl
  |true=>
   simp only[cond_true,NH];cases sJ P F Xu rec ⟨len,tr⟩ o H n with
   |none=>rfl
   |some s=>
    obtain⟨out,H',n',R,W⟩:=s;cases out with
    |We v=>rfl
    |ret v=>
     simp only[fin];rw[ih _ _ _ hd.2,Bs];cases PH P F Xu rec ops l (VB ⟨len,tr⟩ o.dst v) H' n' <;> rfl
def au(ops:Array Oper)(o:Oper)(k:Nat):List Oper->List (List Nat)->Bool
 |x::l,b::bs=>(b.contains k || o.apart ops x) && au ops o k l bs
 |[],_=>true
 |_::_,[]=>false
def stat(ops:Array Oper):Nat->List Oper->List (List Nat)->Bool
 |k,o::l,_::bs=>au ops o k l bs && stat ops (k+1) l bs
 |_,[],_=>true
 |_,_::_,[]=>false
def cv(i:Nat)(l:List Nat):Bool:=List.rec false (fun j _ ih=>LQ ih true (Lf i j)) l
theorem fV(i:Nat):∀(l:List Nat),cv i l=l.contains i
 |[]=>rfl
 |j::l=>by
  show(LQ (cv i l) true (Lf i j):Bool)=_;rw[fV i l,List.contains_cons];by_cases e:i=j
  ·subst e;rw[Nat.beq_refl];simp
  ·rw[ae e];simp[e]
def rH(W R:List Nat):Bool:=List.rec false (fun i _ ih=>LQ ih true (cv i R)) W
theorem gK(R:List Nat):∀(W:List Nat),rH W R=W.any fun i=>R.contains i
 |[]=>rfl
 |i::W=>by
  show(LQ (rH W R) true (cv i R):Bool)=_;rw[gK R W,fV,List.any_cons];cases R.contains i <;> rfl
def s9(lo hi:Nat)(R:List Nat):Bool:=List.rec false (fun i _ ih=>LQ ih (LQ ih true (Lr i hi)) (LR lo i)) R
theorem qu(lo hi:Nat):∀(R:List Nat),s9 lo hi R=R.any fun i=>LR lo i && Lr i hi
 |[]=>rfl
 |i::R=>by
  show(LQ (s9 lo hi R) (LQ (s9 lo hi R) true (Lr i hi)) (LR lo i):Bool)=_;rw[qu lo hi R,List.any_cons];cases LR lo i <;> cases Lr i hi <;> rfl
def clear(r x:Rec):Bool:=LQ (LQ (LQ true false (s9 r.n r.n' x.R)) false (rH x.W r.R)) false (rH r.W x.R)
theorem A9{ops:Array Oper}{r x:Rec}(h:clear r x=true)(ha:r.o.apart ops x.o=true):tied ops r x=false:=by
 unfold clear at h;rw[qu,gK,gK]at h;unfold tied meets bears;rw[ha];revert h;cases r.W.any fun i=>x.R.contains i <;> cases x.W.any fun i=>r.R.contains i <;> cases x.R.any fun i=>LR r.n i && Lr i r.n' <;> simp
def aa(r:Rec)(k:Nat)(l:List Rec):List (List Nat)->Bool:=List.rec (fun _=>true) (fun x _ ih bs=>List.rec false (fun b bs' _=>LQ (LQ false (ih bs') (cv k b)) (ih bs') (clear r x)) bs) l
def dyn(l:List Rec):Nat->List (List Nat)->Bool:=List.rec (fun _ _=>true) (fun r l ih k bs=>List.rec false (fun _ bs' _=>LQ false (ih (k+1) bs') (aa r k l bs')) bs) l
theorem gj{ops:Array Oper}{r:Rec}(k:Nat):∀(l:List Rec) (bs:List (List Nat)),aa r k l bs=true->au ops r.o k (l.map (·.o)) bs=true->KZ ops r k l bs=true
 |[],_,_,_=>by simp[KZ]
 |x::l,[],_,h=>by simp[au]at h
 |x::l,b::bs,hd,h=>by
  simp only[List.map_cons,au,YB,Bool.or_eq_true]at h;simp only[KZ,YB,Bool.or_eq_true,Bool.not_eq_true'];have hd:(LQ (LQ false (aa r k l bs) (cv k b)) (aa r k l bs) (clear r x):Bool)=true:=hd;cases hc:clear r x with
  |true=>
   rw[hc]at hd;exact⟨h.1.imp id fun ha=>A9 hc ha,gj k l bs hd h.2⟩
  |false=>
   rw[hc]at hd;have hd:(LQ false (aa r k l bs) (cv k b):Bool)=true:=hd;cases he:cv k b with
   |false=>rw[he]at hd;cases hd
   |true=>
    rw[he]at hd;rw[fV]at he;exact⟨.inl he,gj k l bs hd h.2⟩
theorem kE{ops:Array Oper}:∀(l:List Rec) (bs:List (List Nat)) (k:Nat),dyn l k bs=true->stat ops k (l.map (·.o)) bs=true->indep ops k l bs=true
 |[],_,_,_,_=>by simp[indep]
 |x::l,[],_,_,h=>by simp[stat]at h
 |x::l,b::bs,k,hd,h=>by
  simp only[List.map_cons,stat,YB]at h;simp only[indep,YB];have hd:(LQ false (dyn l (k+1) bs) (aa x k l bs):Bool)=true:=hd;cases hc:aa x k l bs with
  |false=>rw[hc]at hd;cases hd
  |true=>
   rw[hc]at hd;exact⟨gj k l bs hc h.1,kE l bs (k+1) hd h.2⟩
theorem gp{P:Program}{F:FuncId->Bool}{Xu:WW}{rec:CF->Qt->Nat->Option Rs}{ops:Array Oper}:∀(l:List Oper) (T:Tm) (H:Qt) (n:Nat) (Qz:List Rec) (T':Tm) (H':Qt) (n':Nat),PH P F Xu rec ops l T H n=some (Qz,.ok T' H' n')->Qz.map (·.o)=l
 |[],T,H,n,Qz,T',H',n',h=>by
  simp only[PH,YO,YR]at h;rw[<-h.1];rfl
 |o::l,T,H,n,Qz,T',H',n',h=>by
  simp only[PH]at h;have h:=Je h;cases hw:Region.wanted o (XO ops T)with
  |true=>
   rw[hw]at h;simp only[cond_true]at h;split at h
   ·split at h
    ·split at h
     ·rename_i rs f hr;simp only[YO,YR]at h;obtain⟨rfl,rfl⟩:=h;simp[gp l _ _ _ _ _ _ _ hr]
     ·cases h
    ·simp only[YO,YR]at h;cases h.2
   ·cases h
  |false=>
   rw[hw]at h;simp only[cond_false]at h;split at h
   ·rename_i rs f hr;simp only[YO,YR]at h;obtain⟨rfl,rfl⟩:=h;simp[gp l _ _ _ _ _ _ _ hr]
   ·cases h
def qC(ops:Array Oper):Bool:=WV 0 ops.toList && stat ops 0 ops.toList (Py ops.toList [])
def chk(ops:Array Oper)(Qz:List Rec)(draw:Bool):Bool:=LQ true (LQ (WV 0 ops.toList && indep ops 0 Qz (Py ops.toList [])) (LQ (WV 0 ops.toList && indep ops 0 Qz (Py ops.toList [])) true (dyn Qz 0 (Py ops.toList []))) (qC ops)) draw
theorem NW{ops:Array Oper}{Qz:List Rec}{draw:Bool}(h:Qz.map (·.o)=ops.toList):chk ops Qz draw=(!draw || (WV 0 ops.toList && indep ops 0 Qz (Py ops.toList []))):=by
 unfold chk;cases draw with
 |false=>rfl
 |true=>
  simp only[Bool.not_true,Bool.false_or];cases hs:qC ops with
  |false=>rfl
  |true=>
   cases hc:dyn Qz 0 (Py ops.toList [])with
   |false=>rfl
   |true=>
    unfold qC at hs;simp only[YB]at hs;rw[hs.1,kE Qz _ 0 hc (by rw[h];exact hs.2)];rfl
def iZ(b:Nat)(l:List Nat):List Nat->List Nat:=List.rec (fun acc=>acc) (fun x _ ih acc=>LQ (ih acc) (LQ (ih (x::acc)) (ih acc) (cv x acc)) (Lr x b)) l
theorem gf(b:Nat):∀(l acc:List Nat),iZ b l acc=ZT b l acc
 |[],_=>rfl
 |x::l,acc=>by
  show(LQ (iZ b l acc) (LQ (iZ b l (x::acc)) (iZ b l acc) (cv x acc)) (Lr x b):List Nat)=_;rw[gf b l,gf b l,fV,ZT];cases Lr x b <;> cases acc.contains x <;> rfl
theorem o8(b:Nat):∀(l m acc:List Nat),ZT b (l++m) acc=ZT b m (ZT b l acc)
 |[],_,_=>rfl
 |x::l,m,acc=>by simp only[List.cons_append,ZT];exact o8 b l m _
def Ob(b:Nat)(Qz:List Rec):List Nat->List Nat:=List.rec (fun acc=>acc) (fun r _ ih acc=>ih (iZ b r.R acc)) Qz
theorem BM(b:Nat):∀(Qz:List Rec) (acc:List Nat),Ob b Qz acc=ZT b (Y5 Qz) acc
 |[],_=>rfl
 |r::l,acc=>by
  show Ob b l (iZ b r.R acc)=_;rw[BM b l,gf,show Y5 (r::l)=r.R++Y5 l from LU,o8]
def Oa(b:Nat)(Qz:List Rec):List Nat->List Nat:=List.rec (fun acc=>acc) (fun r _ ih acc=>ih (iZ b r.W acc)) Qz
theorem BL(b:Nat):∀(Qz:List Rec) (acc:List Nat),Oa b Qz acc=ZT b (Ub Qz) acc
 |[],_=>rfl
 |r::l,acc=>by
  show Oa b l (iZ b r.W acc)=_;rw[BL b l,gf,show Ub (r::l)=r.W++Ub l from LU,o8]
def E3(P:Program)(F:FuncId->Bool)(Xu:WW)(rec:CF->Qt->Nat->Option Rs)(len:Nat)(tr:Tri)(ops:Array Oper)(H:Qt)(n:Nat):oC:=
 LQ (PH P F Xu rec ops ops.toList ⟨len,tr⟩ H n) (Bi P F Xu rec len ops ops.toList tr H n) (si len ops.toList)
theorem E2(P:Program)(F:FuncId->Bool)(Xu:WW)(rec:CF->Qt->Nat->Option Rs)(len:Nat)(tr:Tri)(ops:Array Oper)(H:Qt)(n:Nat):E3 P F Xu rec len tr ops H n=PH P F Xu rec ops ops.toList ⟨len,tr⟩ H n:=by
 unfold E3;cases hd:si len ops.toList with
 |false=>rfl
 |true=>exact tj P F Xu rec len ops _ _ _ _ hd
abbrev OM:=Nat->FuncId->Nat->Tri->List Item->List Nat->Option Nat->Qt->Nat->List Nat->List Nat->Option Rs
def Nu(P:Program)(F:FuncId->Bool)(Xu:WW)(fuel:Nat)(ih:OM)(c1:CF)(H1:Qt)(n1:Nat):Option Rs:=
 CF.rec (fun fn T todo ds mode ro=>CM.rec (Tm.rec (fun len tr=>ih n1 fn len tr todo ds ro H1 n1 [] []) T) (Pd P F Xu fuel n1 ⟨fn,T,todo,ds,.ret,ro⟩ H1 n1 [] []) (fun v=>Pd P F Xu fuel n1 ⟨fn,T,todo,ds,.We v,ro⟩ H1 n1 [] []) mode) c1
def goF(P:Program)(F:FuncId->Bool)(Xu:WW)(fuel:Nat)(ih:OM)(b:Nat)(c1:CF)(H1:Qt)(n1:Nat)(R W:List Nat):Option Rs:=
 CF.rec (fun fn T todo ds mode ro=>CM.rec (Tm.rec (fun len tr=>ih b fn len tr todo ds ro H1 n1 R W) T) (Pd P F Xu fuel b ⟨fn,T,todo,ds,.ret,ro⟩ H1 n1 R W) (fun v=>Pd P F Xu fuel b ⟨fn,T,todo,ds,.We v,ro⟩ H1 n1 R W) mode) c1
def resume(P:Program)(F:FuncId->Bool)(Xu:WW)(fuel:Nat)(ih:OM)(b:Nat)(R W:List Nat)(x:Option FS):Option Rs:=
 Option.rec none (fun fs=>FS.rec (fun c' H' n' R' W'=>goF P F Xu fuel ih b c' H' n' (ZT b R' R) (ZT b W' W)) (fun out H' n' R' W'=>some ⟨out,H',n',ZT b R' R,ZT b W' W⟩) fs) x
abbrev Ia:=Program->(FuncId->Bool)->WW->Nat->OM->Nat->FuncId->Nat->Tri->List Item->List Nat->Option Nat->Qt->Nat->List Nat->List Nat->Option Rs
def SY(it:Item):Ia:=fun P F Xu fuel ih b fn len tr k ds ro H n R W=>resume P F Xu fuel ih b R W (gP P F Xu (Nu P F Xu fuel ih) ⟨fn,⟨len,tr⟩,it::k,ds,.run,ro⟩ H n)
def B8:Ia:=fun _ _ _ _ ih b fn len tr k ds ro H n R W=>ih b fn len tr k ds ro H n R W
def Qaj(x y:Code):Ia:=fun _ _ _ _ ih b fn len tr k ds ro H n R W=>ih b fn len tr (.code x::.code y::k) ds ro H n R W
def OF(q:Operand)(x y:Code):Ia:=fun _ _ _ _ ih b fn len tr k ds ro H n R W=>Option.rec none (fun v=>Option.rec none (fun t=>LQ (ih b fn len tr (.code y::k) ds ro H n R W) (ih b fn len tr (.code x::k) ds ro H n R W) t) (Sv v)) (ao tr q)
def NP(id:Nat)(x:Code):Ia:=fun _ _ _ _ ih b fn len tr k ds ro H n R W=>ih b fn len tr (.code x::.inBlock id::k) ds ro H n R W
def MY(x:Code):Ia:=fun _ _ _ _ ih b fn len tr k ds ro H n R W=>ih b fn len tr (.code x::.inLoop x::k) ds ro H n R W
def NO(x:Code):Ia:=fun _ _ _ _ ih b fn len tr k ds ro H n R W=>ih b fn len tr (.code x::.inScope x::k) ds ro H n R W
def rZ(id:Nat)(ops:Array Oper)(draw:Bool):Ia:=fun P F Xu fuel ih b fn len tr k ds ro H n R W=>
 Option.rec none (fun p=>Prod.rec (fun Qz f=>RF.rec (fun T' H' n'=>LQ none (Tm.rec (fun len' tr'=>ih b fn len' tr' k ds ro H' n' (Ob b Qz R) (Oa b Qz W)) T') (chk ops Qz draw))
  (fun T' v H' n' R1 W1=>resume P F Xu fuel ih b R W (N0 ⟨fn,⟨len,tr⟩,.code (.region id ops draw)::k,ds,.run,ro⟩ ops draw k (some (Qz,.We T' v H' n' R1 W1)))) f) p) (E3 P F Xu (Nu P F Xu fuel ih) len tr ops H n)
def codeF(cd:Code):Ia:=Code.rec B8 rZ (fun x y _ _=>Qaj x y) (fun q x y _ _=>OF q x y) (fun id x _=>NP id x) (fun x _=>MY x) (fun f ps x y _ _=>SY (.code (.rangeFunc f ps x y))) (fun id=>SY (.code (.exit id))) (fun x _=>NO x) (fun _=>B8) (fun l=>SY (.code (.goto l))) (SY (.code .ret)) (fun w=>SY (.code (.refuse w))) cd
def MX(it:Item):Ia:=Item.rec codeF (fun _=>B8) MY (fun _=>B8) (fun a b=>SY (.inRegion a b)) (fun l=>SY (.inRangeFunc l)) (fun l=>SY (.endRangeFunc l)) (SY .beginRound) (fun a b c d=>SY (.call a b c d)) (fun a b=>SY (.extern a b)) it
def bh(P:Program)(F:FuncId->Bool)(Xu:WW)(fuel:Nat):OM:=Nat.rec (fun _ _ _ _ _ _ _ _ _ _ _=>none) (fun fuel ih b fn len tr todo ds ro H n R W=>
 List.rec (resume P F Xu fuel ih b R W (Sl ⟨fn,⟨len,tr⟩,[],ds,.run,ro⟩ H n none)) (fun it k _=>MX it P F Xu fuel ih b fn len tr k ds ro H n R W) todo) fuel
theorem nW(P:Program)(F:FuncId->Bool)(Xu:WW):∀(fuel b:Nat) (fn:FuncId) (len:Nat) (tr:Tri) (todo:List Item) (ds:List Nat) (ro:Option Nat) (H:Qt) (n:Nat) (R W:List Nat),bh P F Xu fuel b fn len tr todo ds ro H n R W=Pd P F Xu fuel b ⟨fn,⟨len,tr⟩,todo,ds,.run,ro⟩ H n R W
 |0,_,_,_,_,_,_,_,_,_,_,_=>rfl
 |fuel+1,b,fn,len,tr,todo,ds,ro,H,n,R,W=>by
  have hih:∀(b:Nat) (fn:FuncId) (len:Nat) (tr:Tri) (todo:List Item) (ds:List Nat) (ro:Option Nat) (H:Qt) (n:Nat) (R W:List Nat),bh P F Xu fuel b fn len tr todo ds ro H n R W=Pd P F Xu fuel b ⟨fn,⟨len,tr⟩,todo,ds,.run,ro⟩ H n R W:=nW P F Xu fuel;have Vs:Nu P F Xu fuel (bh P F Xu fuel)=fun c1 H1 n1=>Pd P F Xu fuel n1 c1 H1 n1 [] []:=by
   funext c1 H1 n1;obtain⟨fn,⟨len,tr⟩,todo,ds,mode,ro⟩:=c1;cases mode with
   |run=>exact hih _ _ _ _ _ _ _ _ _ _ _
   |ret=>rfl
   |We v=>rfl
  have hres:∀(R W:List Nat) (x:Option FS),resume P F Xu fuel (bh P F Xu fuel) b R W x=match x with
   |some (.go c' H' n' R' W')=>Pd P F Xu fuel b c' H' n' (ZT b R' R) (ZT b W' W)
   |some (.done out H' n' R' W')=>some ⟨out,H',n',ZT b R' R,ZT b W' W⟩
   |none=>none:=by
   intro R W x;cases x with
   |none=>rfl
   |some fs=>
    cases fs with
    |done out H' n' R' W'=>rfl
    |go c' H' n' R' W'=>
     obtain⟨fn,⟨len,tr⟩,todo,ds,mode,ro⟩:=c';cases mode with
     |run=>exact hih _ _ _ _ _ _ _ _ _ _ _
     |ret=>rfl
     |We v=>rfl
  have hslow:∀(it:Item) (k:List Item),SY it P F Xu fuel (bh P F Xu fuel) b fn len tr k ds ro H n R W=Pd P F Xu (fuel+1) b ⟨fn,⟨len,tr⟩,it::k,ds,.run,ro⟩ H n R W:=by
   intro it k;unfold SY;rw[hres,Vs];rfl
  cases todo with
  |nil=>exact hres R W _
  |cons it k=>
   show MX it P F Xu fuel (bh P F Xu fuel) b fn len tr k ds ro H n R W=_;cases it with
   |code cd=>
    cases cd with
    |skip=>exact hih _ _ _ _ _ _ _ _ _ _ _
    |label l=>exact hih _ _ _ _ _ _ _ _ _ _ _
    |seq x y=>exact hih _ _ _ _ _ _ _ _ _ _ _
    |block id x=>exact hih _ _ _ _ _ _ _ _ _ _ _
    |loop x=>exact hih _ _ _ _ _ _ _ _ _ _ _
    |scope x=>exact hih _ _ _ _ _ _ _ _ _ _ _
    |cond q x y=>
     show(Option.rec none (fun v=>Option.rec none (fun t=>LQ (bh P F Xu fuel b fn len tr (.code y::k) ds ro H n R W) (bh P F Xu fuel b fn len tr (.code x::k) ds ro H n R W) t) (Sv v)) (ao tr q):Option Rs)=_;rw[Hz len tr,hih,hih];simp only[Pd,gP,ig,ij];cases Zd ⟨len,tr⟩ q with
     |none=>rfl
     |some v=>
      cases v with
      |bool t=>cases t <;> rfl
      |_=>rfl
    |region id ops draw=>
     show rZ id ops draw P F Xu fuel (bh P F Xu fuel) b fn len tr k ds ro H n R W=_;unfold rZ;rw[E2,Vs];simp only[Pd,gP,ig,ij,BM,BL];cases hrr:PH P F Xu (fun c1 H1 n1=>Pd P F Xu fuel n1 c1 H1 n1 [] []) ops ops.toList ⟨len,tr⟩ H n with
     |none=>rfl
     |some p=>
      obtain⟨Qz,f⟩:=p;cases f with
      |We v H' n' R1 W1=>exact hres R W _
      |ok T' H' n'=>
       have hck:=NW (draw:=draw) (gp _ _ _ _ _ _ _ _ hrr);obtain⟨len',tr'⟩:=T';simp only[N0];rw[hck];cases !draw || (WV 0 ops.toList && indep ops 0 Qz (Py ops.toList []))with
       |false=>rfl
       |true=>exact hih _ _ _ _ _ _ _ _ _ _ _
    |rangeFunc f ps x y=>exact hslow _ k
    |exit id=>exact hslow _ k
    |goto id=>exact hslow _ k
    |ret=>exact hslow _ k
    |refuse w=>exact hslow (.code (.refuse w)) k
   |inBlock id=>exact hih _ _ _ _ _ _ _ _ _ _ _
   |inScope x=>exact hih _ _ _ _ _ _ _ _ _ _ _
   |inLoop x=>exact hih _ _ _ _ _ _ _ _ _ _ _
   |inRegion a b=>exact hslow _ k
   |inRangeFunc l=>exact hslow _ k
   |endRangeFunc l=>exact hslow _ k
   |beginRound=>exact hslow _ k
   |call a b c d=>exact hslow _ k
   |extern a b=>exact hslow _ k
end
end Go.CE
