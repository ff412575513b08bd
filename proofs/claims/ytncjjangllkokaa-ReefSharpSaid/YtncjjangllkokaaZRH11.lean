/- Reef: small functions, of the program and the reference. -/
import Derived.Test.YtncjjangllkokaaZRH10
set_option linter.all false
open List renaming getD_eq_getElem?_getD->Lq,getElem?_eq_getElem->LZ,replicate->Ln,append_assoc->LY,length->Lc
open Nat renaming strongRecOn->Lz,min->LU
open Int renaming tdiv->Le,tdiv_eq_ediv_of_nonneg->LO
open Array renaming extract->Lh,size->LG
open Inhabited renaming default->La
namespace Go.Proofs.Ytncjjangllkokaa
open Go Go.CE Go.RowKit
noncomputable section
set_option maxRecDepth 100000
def UI(x lo hi:Int):Bool:=decide (lo<=x) && decide (x<=hi)
theorem RY{x lo hi:Int}:UI x lo hi=true<->lo<=x/\x<=hi:=by simp[UI]
structure Span where
 lo:Int
 hi:Int
deriving Inhabited
def Qj(s:Span):List Value:=[YI s.lo,YI s.hi]
abbrev YK(xs:List Span):Value:=QC xs.length (Qe Qj xs)
def WJ(a b lo hi:Int):Bool:=decide (lo<=a) && (decide (a<=b) && decide (b<=hi))
theorem qT{a b lo hi:Int}:WJ a b lo hi=true<->lo<=a/\a<=b/\b<=hi:=by simp[WJ]
theorem iZ{α:Type}[Inhabited α]{l:List α}{i:Int}{p:α->Bool}(h0:0<=i)(h:i<l.length):(l.drop i.toNat).all p=(p (l.getD i.toNat La) && (l.drop (i+1).toNat).all p):=by
 obtain⟨k,rfl⟩:∃k:Nat,i=k:=⟨i.toNat,by omega⟩
 have hk:k<l.length:=by omega
 have e1:((k:Int)).toNat=k:=by omega
 have e2:((k:Int)+1).toNat=k+1:=by omega
 rw[e1,e2,List.drop_eq_getElem_cons hk,List.all_cons];simp[Lq,hk]
theorem sq{α:Type}{l:List α}{i:Int}{p:α->Bool}(h:l.length<=i):(l.drop i.toNat).all p=true:=by
 rw[List.drop_eq_nil_of_le (by omega)];rfl
theorem Mz{α:Type}[Inhabited α]{l:List α}{i:Int}(h0:0<=i)(h:i<l.length):l.getD i.toNat La∈l:=by
 have hk:i.toNat<l.length:=by omega
 rw[Lq,LZ hk];exact List.getElem_mem hk
theorem yM{α:Type}[Inhabited α]{l:List α}{x:α}(h:x∈l):∃i:Int,0<=i/\i<l.length/\l.getD i.toNat La=x:=by
 obtain⟨k,hk,rfl⟩:=List.getElem_of_mem h;exact⟨k,by omega,by omega,by simp[Lq,hk]⟩
theorem lQ{p:Int->Bool}{a b:Int}(h:(Yq a b).all p=true){k:Int}(h1:a<=k)(h2:k<b):p k=true:=by
 refine List.all_eq_true.1 h k ?_;unfold Yq;exact List.mem_map.2 ⟨(k-a).toNat,List.mem_range.2 (by omega),by omega⟩
def Sd{α β:Type}(f:α->β)(x0:β)(xs:List α)(i:Int):List β:=(xs.take i.toNat).map f++Ln (xs.length-i.toNat) x0
theorem ic{α β:Type}{f:α->β}{x0:β}{xs:List α}:Ln xs.length x0=Sd f x0 xs 0:=by simp[Sd]
theorem Tt{α β:Type}{f:α->β}{x0:β}{xs:List α}{i:Int}:(Sd f x0 xs i).length=xs.length:=by simp[Sd];omega
theorem Ts{α β:Type}[Inhabited α]{f:α->β}{x0:β}{xs:List α}{i:Int}(h0:0<=i)(h:i<xs.length):(Sd f x0 xs i).set i.toNat (f (xs.getD i.toNat La))=Sd f x0 xs (i+1):=by
 obtain⟨k,rfl⟩:∃k:Nat,i=k:=⟨i.toNat,by omega⟩
 have hk:k<xs.length:=by omega
 have e1:((k:Int)).toNat=k:=by omega
 have e2:((k:Int)+1).toNat=k+1:=by omega
 unfold Sd;rw[e1,e2];have hl:((xs.take k).map f).length=k:=by simp;omega
 rw[List.set_append_right _ _ (by omega),hl,Nat.sub_self];have er:xs.length-k=(xs.length-(k+1))+1:=by omega
 rw[er,List.replicate_succ,List.set_cons_zero];have et:xs.take (k+1)=xs.take k++[xs[k]]:=by rw[List.take_succ_eq_append_getElem hk]
 rw[et,List.map_append,LY];simp[Lq,hk]
theorem Tu{α β:Type}{f:α->β}{x0:β}{xs:List α}{i:Int}(h:xs.length<=i):Sd f x0 xs i=xs.map f:=by
 unfold Sd;rw[List.take_of_length_le (by omega),show xs.length-i.toNat=0 by omega];simp
theorem fG{β:Type}{e:β->List Value}{ys zs:List β}{n:Nat}(h:ys=zs)(hn:n=zs.length):QC n (Qe e ys)=QC zs.length (Qe e zs):=by subst h hn;rfl
def vw:List Int->Int
 |[]=>0
 |x::l=>x+vw l
def Bk(B:Lo)(x lo hi:Int):List Prop:=[(!XC x lo)=true]++([]:List Prop)
def GK(x lo hi:Int):Q7:=[(3,Z5)]
theorem OU(B:Lo)(x lo hi:Int):QO (Qo YP (Q1 YP) J0 B 6 1 (Qp YP 55 15 (([YI x,YI lo,YI hi]).map (Q2 0 4))) XW 1
 (GK x lo hi++[(7,Z5)]) 0 [] []) []=some (.bool true,
 [(!XC hi x)=true]++Bk B x lo hi):=by kernel_rfl
theorem OT(B:Lo)(x lo hi:Int):QO (Qo YP (Q1 YP) J0 B 6 1 (Qp YP 55 15 (([YI x,YI lo,YI hi]).map (Q2 0 4))) XW 1
 (GK x lo hi++[(7,ZW)]) 0 [] []) []=some (.bool false,
 [(!XC hi x)=false]++Bk B x lo hi):=by kernel_rfl
theorem OS(B:Lo)(x lo hi:Int):QO (Qo YP (Q1 YP) J0 B 6 1 (Qp YP 55 15 (([YI x,YI lo,YI hi]).map (Q2 0 4))) XW 1
 [(3,ZW)] 0 [] []) []=some (.bool false,
 [(!XC x lo)=false]):=by kernel_rfl
set_option maxHeartbeats 4000000 in
theorem QaN(x lo hi:Int)  {B:Lo}(hJ:∀w,B.has w->J0 w):EndsT YP B (Qp YP 55 15 (([YI x,YI lo,YI hi]).map (Q2 0 4))) (.bool (UI x lo hi)):=by
 by_cases q0:(lo:Int)<=(x)
 ·have Vw:Qr (Bk B x lo hi):=by
   exact⟨(UX q0),trivial⟩
  by_cases q1:(x:Int)<=(hi)
  ·exact(GoE.endsT okF hJ Qf GoE.start (OU B x lo hi)
    ⟨(UX q1),Vw⟩).cast (by(simp[UI, *];done))
  ·exact(GoE.endsT okF hJ Qf GoE.start (OT B x lo hi)
    ⟨(UY (Int.not_le.1 q1)),Vw⟩).cast (by(simp[UI, *];done))
 ·exact(GoE.endsT okF hJ Qf GoE.start (OS B x lo hi)
   ⟨(UY (Int.not_le.1 q0)),trivial⟩).cast (by(simp[UI, *];done))
theorem qU(x lo hi:Int)  :Qn YP J0 55 #[YI x,YI lo,YI hi] (.bool (UI x lo hi)):=
 Xb (ts:=[YI x,YI lo,YI hi]) XZ (c0:=Qp YP 55 15 (([YI x,YI lo,YI hi]).map (Q2 0 4))) (by kernel_rfl) (by kernel_rfl) fun B hJ=>QaN x lo hi  hJ
section
variable (B:Lo)(a b ZR:Int)
def mF(B:Lo)(a b ZR:Int):List Prop:=[(!XC a 0)=true]++([]:List Prop)
def vK(a b ZR:Int):Q7:=[(4,Z5)]
def mE:List Prop:=[(!XC b a)=true]++mF B a b ZR
def vJ:Q7:=vK a b ZR++[(10,Z5)]
theorem GQ:QO (Qo YP (Q1 YP) J0 B 6 1 (Qp YP 56 21 (([.agg #[YI a,YI b],YI ZR]).map (Q2 0 4))) XW 1
 (vJ a b ZR++[(16,Z5)]) 0 [] []) []=some (.bool true,
 [(!XC ZR b)=true]++mE B a b ZR):=by kernel_rfl
theorem GP:QO (Qo YP (Q1 YP) J0 B 6 1 (Qp YP 56 21 (([.agg #[YI a,YI b],YI ZR]).map (Q2 0 4))) XW 1
 (vJ a b ZR++[(16,ZW)]) 0 [] []) []=some (.bool false,
 [(!XC ZR b)=false]++mE B a b ZR):=by kernel_rfl
theorem GO:QO (Qo YP (Q1 YP) J0 B 6 1 (Qp YP 56 21 (([.agg #[YI a,YI b],YI ZR]).map (Q2 0 4))) XW 1
 (vK a b ZR++[(10,ZW)]) 0 [] []) []=some (.bool false,
 [(!XC b a)=false]++mF B a b ZR):=by kernel_rfl
theorem GN:QO (Qo YP (Q1 YP) J0 B 6 1 (Qp YP 56 21 (([.agg #[YI a,YI b],YI ZR]).map (Q2 0 4))) XW 1
 [(4,ZW)] 0 [] []) []=some (.bool false,
 [(!XC a 0)=false]):=by kernel_rfl
end
set_option maxHeartbeats 4000000 in
theorem Nr(a b ZR:Int)  {B:Lo}(hJ:∀w,B.has w->J0 w):EndsT YP B (Qp YP 56 21 (([.agg #[YI a,YI b],YI ZR]).map (Q2 0 4))) (.bool (WJ a b 0 ZR)):=by
 by_cases q0:(0:Int)<=(a)
 ·have Vw:Qr (mF B a b ZR):=by
   exact⟨(UX q0),trivial⟩
  by_cases q1:(a:Int)<=(b)
  ·have UP:Qr (mE B a b ZR):=by
    exact⟨(UX q1),Vw⟩
   by_cases q2:(b:Int)<=(ZR)
   ·exact(GoE.endsT okF hJ Qf GoE.start (GQ B a b ZR)
     ⟨(UX q2),UP⟩).cast (by(simp[WJ, *];done))
   ·exact(GoE.endsT okF hJ Qf GoE.start (GP B a b ZR)
     ⟨(UY (Int.not_le.1 q2)),UP⟩).cast (by(simp[WJ, *];done))
  ·exact(GoE.endsT okF hJ Qf GoE.start (GO B a b ZR)
    ⟨(UY (Int.not_le.1 q1)),Vw⟩).cast (by(simp[WJ, *];done))
 ·exact(GoE.endsT okF hJ Qf GoE.start (GN B a b ZR)
   ⟨(UY (Int.not_le.1 q0)),trivial⟩).cast (by(simp[WJ, *];done))
theorem qY(a b ZR:Int)  :Qn YP J0 56 #[.agg #[YI a,YI b],YI ZR] (.bool (WJ a b 0 ZR)):=
 Xb (ts:=[.agg #[YI a,YI b],YI ZR]) XZ (c0:=Qp YP 56 21 (([.agg #[YI a,YI b],YI ZR]).map (Q2 0 4))) (by kernel_rfl) (by kernel_rfl) fun B hJ=>Nr a b ZR  hJ
def Cl(B:Lo)(n lo hi:Int):List Prop:=[(!XC n lo)=true]++([]:List Prop)
def IP(n lo hi:Int):Q7:=[(3,Z5)]
theorem Qam(B:Lo)(n lo hi:Int):QO (Qo YP (Q1 YP) J0 B 6 1 (Qp YP 72 15 (([YI n,YI lo,YI hi]).map (Q2 0 4))) XW 1
 (IP n lo hi++[(7,Z5)]) 0 [] []) []=some (.bool true,
 [(!XC hi n)=true]++Cl B n lo hi):=by kernel_rfl
theorem Qal(B:Lo)(n lo hi:Int):QO (Qo YP (Q1 YP) J0 B 6 1 (Qp YP 72 15 (([YI n,YI lo,YI hi]).map (Q2 0 4))) XW 1
 (IP n lo hi++[(7,ZW)]) 0 [] []) []=some (.bool false,
 [(!XC hi n)=false]++Cl B n lo hi):=by kernel_rfl
theorem Qak(B:Lo)(n lo hi:Int):QO (Qo YP (Q1 YP) J0 B 6 1 (Qp YP 72 15 (([YI n,YI lo,YI hi]).map (Q2 0 4))) XW 1
 [(3,ZW)] 0 [] []) []=some (.bool false,
 [(!XC n lo)=false]):=by kernel_rfl
set_option maxHeartbeats 4000000 in
theorem Qbb(n lo hi:Int)  {B:Lo}(hJ:∀w,B.has w->J0 w):EndsT YP B (Qp YP 72 15 (([YI n,YI lo,YI hi]).map (Q2 0 4))) (.bool (UI n lo hi)):=by
 by_cases q0:(lo:Int)<=(n)
 ·have Vw:Qr (Cl B n lo hi):=by
   exact⟨(UX q0),trivial⟩
  by_cases q1:(n:Int)<=(hi)
  ·exact(GoE.endsT okF hJ Qf GoE.start (Qam B n lo hi)
    ⟨(UX q1),Vw⟩).cast (by(simp[UI, *];done))
  ·exact(GoE.endsT okF hJ Qf GoE.start (Qal B n lo hi)
    ⟨(UY (Int.not_le.1 q1)),Vw⟩).cast (by(simp[UI, *];done))
 ·exact(GoE.endsT okF hJ Qf GoE.start (Qak B n lo hi)
   ⟨(UY (Int.not_le.1 q0)),trivial⟩).cast (by(simp[UI, *];done))
theorem uN(n lo hi:Int)  :Qn YP J0 72 #[YI n,YI lo,YI hi] (.bool (UI n lo hi)):=
 Xb (ts:=[YI n,YI lo,YI hi]) XZ (c0:=Qp YP 72 15 (([YI n,YI lo,YI hi]).map (Q2 0 4))) (by kernel_rfl) (by kernel_rfl) fun B hJ=>Qbb n lo hi  hJ
section
variable (B:Lo)(c0:CF)(xs:List Int)(lo hi i:Int)(Qm:Nat->Value)
def PI:List Value:=[YI lo,YI hi,Qw 1 (QC xs.length (Qe Q5 xs)),YI (↑xs.length:Int),YI i]
def VP(xs:List Int)(lo hi:Int)(i:Int):List Obj:=[]
def PJ:List Item:=([.code [1,0,1,0,0],.inLoop [1,0,1,0,0],.inBlock 0,.code [1,1]]).map (it (QG YP 74))
def FM:Prop:=∃dJ:Nat->Value,(∀t,Xi (dJ t))/\GoE YP B c0 XW 1 (QA 74 21 (([1,2,9,10,11]:List Nat).zip (PI xs lo hi i)) dJ PJ) (Q9 (VP xs lo hi i)) (2+(VP xs lo hi i).length) []
def rW:Array Value:=#[YI (xs.getD i.toNat La),YI lo,YI hi]
def iQ(B:Lo)(xs:List Int)(lo hi:Int)(i:Int)(Qm:Nat->Value):List Prop:=[Kl i xs.length (Qe Q5 xs) Try.t3.size #[YI (xs.getD i.toNat La)],XC i (↑xs.length:Int)=true]++([]:List Prop)
def rX(lo hi:Int)(i:Int)(Qm:Nat->Value):Q7:=[(0,Z5),(1,Qh.tidx i.toNat #[YI (xs.getD i.toNat La)])]
theorem FK:landM (Qo YP (Q1 YP) J0 B 16 1 (QA 74 21 (([1,2,9,10,11]:List Nat).zip (PI xs lo hi i)) Qm PJ) (Q9 (VP xs lo hi i)) (2+(VP xs lo hi i).length)
 (rX xs lo hi i Qm++[(7,Qh.pure (.bool true) []),(9,Wy (i+1))]) 0 [] []) [1,2,9,10,11] [] []=some ⟨74,21,PJ,[],.run,none,PI xs lo hi (i+1),VP xs lo hi (i+1),
 [wq (i+1)=i+1,Qr []/\Qn YP J0 72 (rW xs lo hi i) (.bool true)]++iQ B xs lo hi i Qm⟩:=by kernel_rfl
theorem FI:QO (Qo YP (Q1 YP) J0 B 16 1 (QA 74 21 (([1,2,9,10,11]:List Nat).zip (PI xs lo hi i)) Qm PJ) (Q9 (VP xs lo hi i)) (2+(VP xs lo hi i).length)
 (rX xs lo hi i Qm++[(7,Qh.pure (.bool false) [])]) 0 [] []) []=some (.bool false,
 [Qr []/\Qn YP J0 72 (rW xs lo hi i) (.bool false)]++iQ B xs lo hi i Qm):=by kernel_rfl
theorem FH:QO (Qo YP (Q1 YP) J0 B 9 1 (QA 74 21 (([1,2,9,10,11]:List Nat).zip (PI xs lo hi i)) Qm PJ) (Q9 (VP xs lo hi i)) (2+(VP xs lo hi i).length)
 [(0,ZW)] 0 [] []) []=some (.bool true,
 [XC i (↑xs.length:Int)=false]):=by kernel_rfl
theorem FG:landM (Qo YP (Q1 YP) J0 B 7 1 (Qp YP 74 21 (([XH xs,YI lo,YI hi]).map (Q2 0 4))) XW 1
 [] 0 [] []) [1,2,9,10,11] [] []=some ⟨74,21,PJ,[],.run,none,PI xs lo hi (0),VP xs lo hi (0),
 []⟩:=by kernel_rfl
end
set_option maxHeartbeats 4000000 in
theorem FL(xs:List Int)(lo hi:Int)  (X2:xs.length<=9223372036854775807){B:Lo}(hJ:∀w,B.has w->J0 w){c0:CF}:∀m:Nat,(∀(i:Int),xs.length-i.toNat=m->∀(h0:0<=i),FM B c0 xs lo hi i->EndsT YP B c0 (.bool ((xs.drop i.toNat).all (fun x=>UI x lo hi)))):=by
 intro m0;induction m0 using Lz with
 |_ m0 ih0=>
  intro i YA h0 ⟨Qm,ZF,Xs⟩;by_cases q0:(i:Int)<((↑xs.length:Int))
  ·have Vw:Qr (iQ B xs lo hi i Qm):=by
    exact⟨⟨by omega,by omega,(Qs (z:=1) (fun _=>rfl) (by omega))⟩,⟨(Xd q0),trivial⟩⟩
   cases q1:UI (xs.getD i.toNat La) lo hi with
   |true=>
    exact((ih0 _ (by omega)) (i+1) rfl (by omega)
     (Xs.landM okF hJ Qf (FK B xs lo hi i Qm)
     ⟨(QY (by omega) (by omega)),⟨⟨trivial,(by have t_:=uN (xs.getD i.toNat La) (lo) (hi);rw[q1]at t_;exact t_)⟩,Vw⟩⟩ (by kernel_rfl) (by kernel_rfl))).cast (by(rw[Aj (i:=i)];(· simp_all);(· omega);(· omega)))
   |false=>
    exact(GoE.endsT okF hJ Qf Xs (FI B xs lo hi i Qm)
     ⟨⟨trivial,(by have t_:=uN (xs.getD i.toNat La) (lo) (hi);rw[q1]at t_;exact t_)⟩,Vw⟩).cast (by(rw[Aj (i:=i)];(· simp_all);(· omega);(· omega)))
  ·exact(GoE.endsT okF hJ Qf Xs (FH B xs lo hi i Qm)
    ⟨(X9 (Int.not_lt.1 q0)),trivial⟩).cast (by(rw[M7 (i:=i)];(· simp_all);(· omega)))
set_option maxHeartbeats 4000000 in
theorem IV(xs:List Int)(lo hi:Int)  (X2:xs.length<=9223372036854775807){B:Lo}(hJ:∀w,B.has w->J0 w):EndsT YP B (Qp YP 74 21 (([XH xs,YI lo,YI hi]).map (Q2 0 4))) (.bool (xs.all (fun x=>UI x lo hi))):=by
 exact((FL xs lo hi X2 hJ _) (0) rfl (by omega)
  (GoE.start.landM okF hJ Qf (FG B xs lo hi)
  trivial (by kernel_rfl) (by kernel_rfl))).cast (by rfl)
theorem IW(xs:List Int)(lo hi:Int)  :Qn YP J0 74 #[XH xs,YI lo,YI hi] (.bool (xs.all (fun x=>UI x lo hi))):=
 Vd (ts:=[XH xs,YI lo,YI hi]) (xs.length<=9223372036854775807) (fun _ _ ht=>ht.ln (i:=0) rfl) XZ (c0:=Qp YP 74 21 (([XH xs,YI lo,YI hi]).map (Q2 0 4))) (by kernel_rfl) (by kernel_rfl) fun X2 B hJ=>IV xs lo hi  X2 hJ
def oo(n a b:Int):Array Value:=#[YI n,YI a,YI b]
theorem Co(B:Lo)(n a b:Int):QO (Qo YP (Q1 YP) J0 B 6 1 (Qp YP 101 11 (([YI n,.agg #[YI a,YI b]]).map (Q2 0 4))) XW 1
 [(7,Qh.pure (.bool true) [])] 0 [] []) []=some (.bool true,
 [Qr []/\Qn YP J0 72 (oo n a b) (.bool true)]):=by kernel_rfl
theorem Cn(B:Lo)(n a b:Int):QO (Qo YP (Q1 YP) J0 B 6 1 (Qp YP 101 11 (([YI n,.agg #[YI a,YI b]]).map (Q2 0 4))) XW 1
 [(7,Qh.pure (.bool false) [])] 0 [] []) []=some (.bool false,
 [Qr []/\Qn YP J0 72 (oo n a b) (.bool false)]):=by kernel_rfl
set_option maxHeartbeats 4000000 in
theorem Fq(n a b:Int)  {B:Lo}(hJ:∀w,B.has w->J0 w):EndsT YP B (Qp YP 101 11 (([YI n,.agg #[YI a,YI b]]).map (Q2 0 4))) (.bool (UI n a b)):=by
 cases q0:UI n a b with
 |true=>
  exact(GoE.endsT okF hJ Qf GoE.start (Co B n a b)
   ⟨⟨trivial,(by have t_:=uN (n) (a) (b);rw[q0]at t_;exact t_)⟩,trivial⟩).cast (by rfl)
 |false=>
  exact(GoE.endsT okF hJ Qf GoE.start (Cn B n a b)
   ⟨⟨trivial,(by have t_:=uN (n) (a) (b);rw[q0]at t_;exact t_)⟩,trivial⟩).cast (by rfl)
theorem DL(n a b:Int)  :Qn YP J0 101 #[YI n,.agg #[YI a,YI b]] (.bool (UI n a b)):=
 Xb (ts:=[YI n,.agg #[YI a,YI b]]) XZ (c0:=Qp YP 101 11 (([YI n,.agg #[YI a,YI b]]).map (Q2 0 4))) (by kernel_rfl) (by kernel_rfl) fun B hJ=>Fq n a b  hJ
section
variable (B:Lo)(a b lo hi:Int)
def ak(B:Lo)(a b lo hi:Int):List Prop:=[(!XC a lo)=true]++([]:List Prop)
def gE(a b lo hi:Int):Q7:=[(5,Z5)]
def aj:List Prop:=[(!XC b a)=true]++ak B a b lo hi
def gC:Q7:=gE a b lo hi++[(11,Z5)]
theorem tK:QO (Qo YP (Q1 YP) J0 B 6 1 (Qp YP 114 24 (([.agg #[YI a,YI b],YI lo,YI hi]).map (Q2 0 4))) XW 1
 (gC a b lo hi++[(17,Z5)]) 0 [] []) []=some (.bool true,
 [(!XC hi b)=true]++aj B a b lo hi):=by kernel_rfl
theorem tJ:QO (Qo YP (Q1 YP) J0 B 6 1 (Qp YP 114 24 (([.agg #[YI a,YI b],YI lo,YI hi]).map (Q2 0 4))) XW 1
 (gC a b lo hi++[(17,ZW)]) 0 [] []) []=some (.bool false,
 [(!XC hi b)=false]++aj B a b lo hi):=by kernel_rfl
theorem tI:QO (Qo YP (Q1 YP) J0 B 6 1 (Qp YP 114 24 (([.agg #[YI a,YI b],YI lo,YI hi]).map (Q2 0 4))) XW 1
 (gE a b lo hi++[(11,ZW)]) 0 [] []) []=some (.bool false,
 [(!XC b a)=false]++ak B a b lo hi):=by kernel_rfl
theorem tH:QO (Qo YP (Q1 YP) J0 B 6 1 (Qp YP 114 24 (([.agg #[YI a,YI b],YI lo,YI hi]).map (Q2 0 4))) XW 1
 [(5,ZW)] 0 [] []) []=some (.bool false,
 [(!XC a lo)=false]):=by kernel_rfl
end
set_option maxHeartbeats 4000000 in
theorem yB(a b lo hi:Int)  {B:Lo}(hJ:∀w,B.has w->J0 w):EndsT YP B (Qp YP 114 24 (([.agg #[YI a,YI b],YI lo,YI hi]).map (Q2 0 4))) (.bool (WJ a b lo hi)):=by
 by_cases q0:(lo:Int)<=(a)
 ·have Vw:Qr (ak B a b lo hi):=by
   exact⟨(UX q0),trivial⟩
  by_cases q1:(a:Int)<=(b)
  ·have UP:Qr (aj B a b lo hi):=by
    exact⟨(UX q1),Vw⟩
   by_cases q2:(b:Int)<=(hi)
   ·exact(GoE.endsT okF hJ Qf GoE.start (tK B a b lo hi)
     ⟨(UX q2),UP⟩).cast (by(simp[WJ, *];done))
   ·exact(GoE.endsT okF hJ Qf GoE.start (tJ B a b lo hi)
     ⟨(UY (Int.not_le.1 q2)),UP⟩).cast (by(simp[WJ, *];done))
  ·exact(GoE.endsT okF hJ Qf GoE.start (tI B a b lo hi)
    ⟨(UY (Int.not_le.1 q1)),Vw⟩).cast (by(simp[WJ, *];done))
 ·exact(GoE.endsT okF hJ Qf GoE.start (tH B a b lo hi)
   ⟨(UY (Int.not_le.1 q0)),trivial⟩).cast (by(simp[WJ, *];done))
theorem rR(a b lo hi:Int)  :Qn YP J0 114 #[.agg #[YI a,YI b],YI lo,YI hi] (.bool (WJ a b lo hi)):=
 Xb (ts:=[.agg #[YI a,YI b],YI lo,YI hi]) XZ (c0:=Qp YP 114 24 (([.agg #[YI a,YI b],YI lo,YI hi]).map (Q2 0 4))) (by kernel_rfl) (by kernel_rfl) fun B hJ=>yB a b lo hi  hJ
def om(a b ZR:Int):Array Value:=#[.agg #[YI a,YI b],YI 0,YI ZR]
theorem Ck(B:Lo)(a b ZR:Int):QO (Qo YP (Q1 YP) J0 B 6 1 (Qp YP 96 8 (([.agg #[YI a,YI b],YI ZR]).map (Q2 0 4))) XW 1
 [(4,Qh.pure (.bool true) [])] 0 [] []) []=some (.bool true,
 [Qr []/\Qn YP J0 114 (om a b ZR) (.bool true)]):=by kernel_rfl
theorem Cj(B:Lo)(a b ZR:Int):QO (Qo YP (Q1 YP) J0 B 6 1 (Qp YP 96 8 (([.agg #[YI a,YI b],YI ZR]).map (Q2 0 4))) XW 1
 [(4,Qh.pure (.bool false) [])] 0 [] []) []=some (.bool false,
 [Qr []/\Qn YP J0 114 (om a b ZR) (.bool false)]):=by kernel_rfl
set_option maxHeartbeats 4000000 in
theorem Fp(a b ZR:Int)  {B:Lo}(hJ:∀w,B.has w->J0 w):EndsT YP B (Qp YP 96 8 (([.agg #[YI a,YI b],YI ZR]).map (Q2 0 4))) (.bool (WJ a b 0 ZR)):=by
 cases q0:WJ a b 0 ZR with
 |true=>
  exact(GoE.endsT okF hJ Qf GoE.start (Ck B a b ZR)
   ⟨⟨trivial,(by have t_:=rR (a) (b) (0) (ZR);rw[q0]at t_;exact t_)⟩,trivial⟩).cast (by rfl)
 |false=>
  exact(GoE.endsT okF hJ Qf GoE.start (Cj B a b ZR)
   ⟨⟨trivial,(by have t_:=rR (a) (b) (0) (ZR);rw[q0]at t_;exact t_)⟩,trivial⟩).cast (by rfl)
theorem cR(a b ZR:Int)  :Qn YP J0 96 #[.agg #[YI a,YI b],YI ZR] (.bool (WJ a b 0 ZR)):=
 Xb (ts:=[.agg #[YI a,YI b],YI ZR]) XZ (c0:=Qp YP 96 8 (([.agg #[YI a,YI b],YI ZR]).map (Q2 0 4))) (by kernel_rfl) (by kernel_rfl) fun B hJ=>Fp a b ZR  hJ
theorem IQ(B:Lo)(a b:Int):QO (Qo YP (Q1 YP) J0 B 6 1 (Qp YP 77 5 (([.agg #[YI a,YI b]]).map (Q2 0 4))) XW 1
 [] 0 [] []) []=some (YI b,
 []):=by kernel_rfl
set_option maxHeartbeats 4000000 in
theorem NL(a b:Int)  {B:Lo}(hJ:∀w,B.has w->J0 w):EndsT YP B (Qp YP 77 5 (([.agg #[YI a,YI b]]).map (Q2 0 4))) (YI b):=by
 exact(GoE.endsT okF hJ Qf GoE.start (IQ B a b)
  trivial).cast (by rfl)
theorem Qbc(a b:Int)  :Qn YP J0 77 #[.agg #[YI a,YI b]] (YI b):=
 Xb (ts:=[.agg #[YI a,YI b]]) XZ (c0:=Qp YP 77 5 (([.agg #[YI a,YI b]]).map (Q2 0 4))) (by kernel_rfl) (by kernel_rfl) fun B hJ=>NL a b  hJ
theorem NK(B:Lo)(a b:Int):QO (Qo YP (Q1 YP) J0 B 6 1 (Qp YP 76 5 (([.agg #[YI a,YI b]]).map (Q2 0 4))) XW 1
 [] 0 [] []) []=some (YI a,
 []):=by kernel_rfl
set_option maxHeartbeats 4000000 in
theorem Qaj(a b:Int)  {B:Lo}(hJ:∀w,B.has w->J0 w):EndsT YP B (Qp YP 76 5 (([.agg #[YI a,YI b]]).map (Q2 0 4))) (YI a):=by
 exact(GoE.endsT okF hJ Qf GoE.start (NK B a b)
  trivial).cast (by rfl)
theorem Qb7(a b:Int)  :Qn YP J0 76 #[.agg #[YI a,YI b]] (YI a):=
 Xb (ts:=[.agg #[YI a,YI b]]) XZ (c0:=Qp YP 76 5 (([.agg #[YI a,YI b]]).map (Q2 0 4))) (by kernel_rfl) (by kernel_rfl) fun B hJ=>Qaj a b  hJ
theorem IM(B:Lo)(a r:Int):let b:=Le (a*r) 1000;QO (Qo YP (Q1 YP) J0 B 6 1 (Qp YP 115 9 (([YI a,YI r]).map (Q2 0 4))) XW 1
 [(3,Wy (a*r)),(4,Wy b)] 0 [] []) []=some (YI b,
 [IntKind.wrap .i64 b=Le (a*r) 1000,wq (a*r)=a*r]):=by intro b;kernel_rfl
set_option maxHeartbeats 4000000 in
theorem NJ(a r:Int)(ha:0<=a/\a<=1000000000000)(hr:0<=r/\r<=1000000){B:Lo}(hJ:∀w,B.has w->J0 w):EndsT YP B (Qp YP 115 9 (([YI a,YI r]).map (Q2 0 4))) (YI ((a*r).tdiv 1000)):=by
 have e0:0<=a*r:=Int.mul_nonneg ha.1 hr.1;have e1:a*r<=1000000000000*1000000:=Int.mul_le_mul ha.2 hr.2 hr.1 (by omega);have e2:(a*r).tdiv 1000=(a*r) / 1000:=LO e0;exact(GoE.endsT okF hJ Qf GoE.start (IM B a r)
  ⟨(cg (by omega) (by omega)),⟨(QY (by omega) (by omega)),trivial⟩⟩).cast (by rfl)
theorem IN(a r:Int)(ha:0<=a/\a<=1000000000000)(hr:0<=r/\r<=1000000):Qn YP J0 115 #[YI a,YI r] (YI ((a*r).tdiv 1000)):=
 Xb (ts:=[YI a,YI r]) XZ (c0:=Qp YP 115 9 (([YI a,YI r]).map (Q2 0 4))) (by kernel_rfl) (by kernel_rfl) fun B hJ=>NJ a r ha hr hJ
section
variable (B:Lo)(c0:CF)(xs:List Int)(acc i:Int)(Qm:Nat->Value)
end
theorem qH(B:Lo)(a r:Int):let c:=YI (Le (a*r) 1000);let b:=a+Le (a*r) 1000;QO (Qo YP (Q1 YP) J0 B 6 1 (Qp YP 100 10 (([YI a,YI r]).map (Q2 0 4))) XW 1
 [(4,Qh.pure c []),(5,Wy b)] 0 [] []) []=some (YI b,
 [wq b=a+Le (a*r) 1000,Qr []/\Qn YP J0 115 #[YI a,YI r] c]):=by intro c b;kernel_rfl
set_option maxHeartbeats 4000000 in
theorem sX(a r:Int)(ha:0<=a/\a<=1000000000000)(hr:0<=r/\r<=1000000){B:Lo}(hJ:∀w,B.has w->J0 w):EndsT YP B (Qp YP 100 10 (([YI a,YI r]).map (Q2 0 4))) (YI (a+(a*r).tdiv 1000)):=by
 have e0:0<=a*r:=Int.mul_nonneg ha.1 hr.1;have e1:a*r<=1000000000000*1000000:=Int.mul_le_mul ha.2 hr.2 hr.1 (by omega);have e2:(a*r).tdiv 1000=(a*r) / 1000:=LO e0;exact(GoE.endsT okF hJ Qf GoE.start (qH B a r)
  ⟨(QY (by omega) (by omega)),⟨⟨trivial,IN (a) (r) (by with_reducible assumption) (by with_reducible assumption)⟩,trivial⟩⟩).cast (by rfl)
theorem eC(a r:Int)(ha:0<=a/\a<=1000000000000)(hr:0<=r/\r<=1000000):Qn YP J0 100 #[YI a,YI r] (YI (a+(a*r).tdiv 1000)):=
 Xb (ts:=[YI a,YI r]) XZ (c0:=Qp YP 100 10 (([YI a,YI r]).map (Q2 0 4))) (by kernel_rfl) (by kernel_rfl) fun B hJ=>sX a r ha hr hJ
def jZ(n:Int):Array Value:=#[YI n,YI 0,YI 1000000]
theorem y8(B:Lo)(n:Int):QO (Qo YP (Q1 YP) J0 B 6 1 (Qp YP 95 5 (([YI n]).map (Q2 0 4))) XW 1
 [(2,Qh.pure (.bool true) [])] 0 [] []) []=some (.bool true,
 [Qr []/\Qn YP J0 72 (jZ n) (.bool true)]):=by kernel_rfl
theorem y7(B:Lo)(n:Int):QO (Qo YP (Q1 YP) J0 B 6 1 (Qp YP 95 5 (([YI n]).map (Q2 0 4))) XW 1
 [(2,Qh.pure (.bool false) [])] 0 [] []) []=some (.bool false,
 [Qr []/\Qn YP J0 72 (jZ n) (.bool false)]):=by kernel_rfl
set_option maxHeartbeats 4000000 in
theorem Ce(n:Int)  {B:Lo}(hJ:∀w,B.has w->J0 w):EndsT YP B (Qp YP 95 5 (([YI n]).map (Q2 0 4))) (.bool (UI n 0 1000000)):=by
 cases q0:UI n 0 1000000 with
 |true=>
  exact(GoE.endsT okF hJ Qf GoE.start (y8 B n)
   ⟨⟨trivial,(by have t_:=uN (n) (0) (1000000);rw[q0]at t_;exact t_)⟩,trivial⟩).cast (by rfl)
 |false=>
  exact(GoE.endsT okF hJ Qf GoE.start (y7 B n)
   ⟨⟨trivial,(by have t_:=uN (n) (0) (1000000);rw[q0]at t_;exact t_)⟩,trivial⟩).cast (by rfl)
theorem Te(n:Int)  :Qn YP J0 95 #[YI n] (.bool (UI n 0 1000000)):=
 Xb (ts:=[YI n]) XZ (c0:=Qp YP 95 5 (([YI n]).map (Q2 0 4))) (by kernel_rfl) (by kernel_rfl) fun B hJ=>Ce n  hJ
end
end Go.Proofs.Ytncjjangllkokaa

namespace Go.Proofs.Ytncjjangllkokaa
open Go Go.CE Go.RowKit
noncomputable section
set_option maxRecDepth 100000
structure Qg where
 count:Int
 room:Int
 Ys:Int
 Yt:Int
 Xh:Int
 Zq:Int
 VZ:Int
 Ua:Int
 VV:Int
 VW:Int
 goal:Int
 VF:Int
deriving Inhabited
structure Ql where
 Qb:List Qg
 Qc:Int
 Qd:Int
deriving Inhabited
structure Ze where
 starts:List Int
 grows:List (List Int)
 takes:List (List Int)
deriving Inhabited
def Qi(c:Qg):List Value:=[YI c.count,YI c.room,YI c.Ys,YI c.Yt,YI c.Xh,YI c.Zq,YI c.VZ,YI c.Ua,YI c.VV,YI c.VW,YI c.goal,YI c.VF]
abbrev KJ(xs:List Qg):Value:=QC xs.length (Qe Qi xs)
def Qv(r:Ql):List Value:=[KJ r.Qb,YI r.Qc,YI r.Qd]
def Zn(x:Qg):Bool:=UI x.count 0 1000000 && (UI x.room 0 1000000 && (UI x.goal 0 1000000 && (UI x.VF 0 1000000 && (WJ x.Ys x.Yt 0 2000 && (UI x.Xh 0 1000 && (WJ x.VZ x.Ua 0 1000000 && (WJ x.VV x.VW 0 1000000 && (decide (x.VV<=x.VZ) && decide (x.VW<=x.Ua)))))))))
def Pk(n v:Int):Bool:=decide (v= -1) || UI v 0 (n-1)
theorem NW{n v:Int}(h:0<=n):UI v (-1) (n-1)=Pk n v:=by
 unfold Pk UI;by_cases e:v= -1
 ·subst e;simp;omega
 ·simp[e];by_cases h1:0<=v
  ·simp[h1];omega
  ·have:¬(-1<=v):=by omega
   simp[this,h1]
def ZJ(n i:Int)(x:Qg):Bool:=Zn x && (Pk n x.Zq && !decide (x.Zq=i))
def RG(ps:List Qg)(i:Int):Bool:=(Yq i ps.length).all fun k=>ZJ ps.length k (ps.getD k.toNat La)
def PQ(r:Ql):Bool:=UI r.Qb.length 1 4 && (UI r.Qc 0 2000 && UI r.Qd 1 4)
def QL(r:Ql):Bool:=PQ r && RG r.Qb 0
def Xo(r:Ql)(Qa:List Int):Bool:=decide (Qa.length=r.Qd) && Qa.all fun x=>UI x 0 (((VJ r.Qb.length:Nat):Int)-1)
theorem XN{ps:List Qg}{i:Int}(h:i<ps.length):RG ps i=(ZJ ps.length i (ps.getD i.toNat La) && RG ps (i+1)):=by
 unfold RG;rw[mr h,List.all_cons]
theorem YV{ps:List Qg}{i:Int}(h:ps.length<=i):RG ps i=true:=by
 unfold RG;rw[lu h];rfl
theorem RH{x:Qg}(h:Zn x=true):(0<=x.count/\x.count<=1000000)/\(0<=x.room/\x.room<=1000000)/\(0<=x.goal/\x.goal<=1000000)/\(0<=x.VF/\x.VF<=1000000)/\(0<=x.Ys/\x.Ys<=x.Yt/\x.Yt<=2000)/\(0<=x.Xh/\x.Xh<=1000)/\(0<=x.VZ/\x.VZ<=x.Ua/\x.Ua<=1000000)/\(0<=x.VV/\x.VV<=x.VW/\x.VW<=1000000)/\x.VV<=x.VZ/\x.VW<=x.Ua:=by
 simp only[Zn,YB,RY,qT,decide_eq_true_iff]at h;omega
theorem Q4{r:Ql}(h:PQ r=true):(1<=r.Qb.length/\r.Qb.length<=4)/\(0<=r.Qc/\r.Qc<=2000)/\(1<=r.Qd/\r.Qd<=4):=by
 simp only[PQ,YB,RY]at h;omega
theorem QR{r:Ql}(h:QL r=true):PQ r=true/\∀k:Int,0<=k->k<r.Qb.length->Zn (r.Qb.getD k.toNat La)=true/\Pk r.Qb.length (r.Qb.getD k.toNat La).Zq=true/\(r.Qb.getD k.toNat La).Zq≠k:=by
 simp only[QL,YB]at h;refine⟨h.1,fun k h0 h1=> ?_⟩;have:=lQ h.2 h0 h1;simp only[ZJ,YB,Bool.not_eq_true',decide_eq_false_iff_not]at this;exact⟨this.1,this.2.1,this.2.2⟩
def iM(x:Qg):Bool:=UI x.count 0 1000000 && (UI x.room 0 1000000 && (UI x.goal 0 1000000 && (UI x.VF 0 1000000 && (WJ x.Ys x.Yt 0 2000 && (UI x.Xh 0 1000 && (WJ x.VZ x.Ua 0 1000000 && WJ x.VV x.VW 0 1000000))))))
def XM(r:Ql):Bool:=PQ r && (Yq 0 r.Qb.length).all fun k=>iM (r.Qb.getD k.toNat La) && (Pk r.Qb.length (r.Qb.getD k.toNat La).Zq && !decide ((r.Qb.getD k.toNat La).Zq=k))
theorem ND{x:Qg}(h:Zn x=true):iM x=true:=by
 simp only[Zn,iM,YB]at h ⊢;exact⟨h.1,h.2.1,h.2.2.1,h.2.2.2.1,h.2.2.2.2.1,h.2.2.2.2.2.1,h.2.2.2.2.2.2.1,h.2.2.2.2.2.2.2.1⟩
theorem ZV{r:Ql}(h:QL r=true):XM r=true:=by
 obtain⟨h1,h2⟩:=QR h;unfold XM;rw[YB];refine⟨h1,List.all_eq_true.2 fun k hk=> ?_⟩;unfold Yq at hk;obtain⟨m,hm,rfl⟩:=List.mem_map.1 hk;have hm':=List.mem_range.1 hm;have:=h2 (0+(m:Int)) (by omega) (by omega);simp only[YB,Bool.not_eq_true',decide_eq_false_iff_not];exact⟨ND this.1,this.2.1,this.2.2⟩
theorem Zx{x:Qg}(h:iM x=true):(0<=x.count/\x.count<=1000000)/\(0<=x.room/\x.room<=1000000)/\(0<=x.goal/\x.goal<=1000000)/\(0<=x.VF/\x.VF<=1000000)/\(0<=x.Ys/\x.Ys<=x.Yt/\x.Yt<=2000)/\(0<=x.Xh/\x.Xh<=1000)/\(0<=x.VZ/\x.VZ<=x.Ua/\x.Ua<=1000000)/\(0<=x.VV/\x.VV<=x.VW/\x.VW<=1000000)/\True:=by
 simp only[iM,YB,RY,qT]at h;simp only[and_true];omega
theorem Q8{r:Ql}(h:XM r=true):PQ r=true/\∀k:Int,0<=k->k<r.Qb.length->iM (r.Qb.getD k.toNat La)=true/\Pk r.Qb.length (r.Qb.getD k.toNat La).Zq=true/\(r.Qb.getD k.toNat La).Zq≠k:=by
 simp only[XM,YB]at h;refine⟨h.1,fun k h0 h1=> ?_⟩;have:=lQ h.2 h0 h1;simp only[YB,Bool.not_eq_true',decide_eq_false_iff_not]at this;exact⟨this.1,this.2.1,this.2.2⟩
instance {r:Ql}:Coe (QL r=true) (XM r=true):=⟨ZV⟩
section
variable (B:Lo)(x:Qg)
def jO:Array Value:=#[.agg #[YI x.VZ,YI x.Ua],YI 1000000]
def jN:Array Value:=#[.agg #[YI x.VV,YI x.VW],YI 1000000]
def jM:Array Value:=#[.agg #[YI x.Ys,YI x.Yt],YI 2000]
def jL:Array Value:=#[YI x.VF,YI 0,YI 1000000]
def jK:Array Value:=#[YI x.Xh,YI 0,YI 1000]
def b8(B:Lo)(x:Qg):List Prop:=[Qr []/\Qn YP J0 95 #[YI x.count] (.bool true)]++([]:List Prop)
def jX(x:Qg):Q7:=[(4,Qh.pure (.bool true) [])]
def b6:List Prop:=[Qr []/\Qn YP J0 95 #[YI x.room] (.bool true)]++b8 B x
def jW:Q7:=jX x++[(8,Qh.pure (.bool true) [])]
def b5:List Prop:=[Qr []/\Qn YP J0 95 #[YI x.goal] (.bool true)]++b6 B x
def jV:Q7:=jW x++[(13,Qh.pure (.bool true) [])]
def bz:List Prop:=[Qr []/\Qn YP J0 72 (jL x) (.bool true)]++b5 B x
def jU:Q7:=jV x++[(18,Qh.pure (.bool true) [])]
def bw:List Prop:=[Qr []/\Qn YP J0 96 (jM x) (.bool true)]++bz B x
def jT:Q7:=jU x++[(23,Qh.pure (.bool true) [])]
def bu:List Prop:=[Qr []/\Qn YP J0 72 (jK x) (.bool true)]++bw B x
def jS:Q7:=jT x++[(28,Qh.pure (.bool true) [])]
def bt:List Prop:=[Qr []/\Qn YP J0 96 (jO x) (.bool true)]++bu B x
def jR:Q7:=jS x++[(33,Qh.pure (.bool true) [])]
def bq:List Prop:=[Qr []/\Qn YP J0 96 (jN x) (.bool true)]++bt B x
def jQ:Q7:=jR x++[(38,Qh.pure (.bool true) [])]
def bp:List Prop:=[(!XC x.VZ x.VV)=true]++bq B x
def jP:Q7:=jQ x++[(47,Z5)]
theorem xm:QO (Qo YP (Q1 YP) J0 B 6 1 (Qp YP 73 59 (([.agg (Qi x).toArray]).map (Q2 0 4))) XW 1
 (jP x++[(56,Z5)]) 0 [] []) []=some (.bool true,
 [(!XC x.Ua x.VW)=true]++bp B x):=by kernel_rfl
theorem xl:QO (Qo YP (Q1 YP) J0 B 6 1 (Qp YP 73 59 (([.agg (Qi x).toArray]).map (Q2 0 4))) XW 1
 (jP x++[(56,ZW)]) 0 [] []) []=some (.bool false,
 [(!XC x.Ua x.VW)=false]++bp B x):=by kernel_rfl
theorem xk:QO (Qo YP (Q1 YP) J0 B 6 1 (Qp YP 73 59 (([.agg (Qi x).toArray]).map (Q2 0 4))) XW 1
 (jQ x++[(47,ZW)]) 0 [] []) []=some (.bool false,
 [(!XC x.VZ x.VV)=false]++bq B x):=by kernel_rfl
theorem xj:QO (Qo YP (Q1 YP) J0 B 6 1 (Qp YP 73 59 (([.agg (Qi x).toArray]).map (Q2 0 4))) XW 1
 (jR x++[(38,Qh.pure (.bool false) [])]) 0 [] []) []=some (.bool false,
 [Qr []/\Qn YP J0 96 (jN x) (.bool false)]++bt B x):=by kernel_rfl
theorem xi:QO (Qo YP (Q1 YP) J0 B 6 1 (Qp YP 73 59 (([.agg (Qi x).toArray]).map (Q2 0 4))) XW 1
 (jS x++[(33,Qh.pure (.bool false) [])]) 0 [] []) []=some (.bool false,
 [Qr []/\Qn YP J0 96 (jO x) (.bool false)]++bu B x):=by kernel_rfl
theorem xh:QO (Qo YP (Q1 YP) J0 B 6 1 (Qp YP 73 59 (([.agg (Qi x).toArray]).map (Q2 0 4))) XW 1
 (jT x++[(28,Qh.pure (.bool false) [])]) 0 [] []) []=some (.bool false,
 [Qr []/\Qn YP J0 72 (jK x) (.bool false)]++bw B x):=by kernel_rfl
theorem xg:QO (Qo YP (Q1 YP) J0 B 6 1 (Qp YP 73 59 (([.agg (Qi x).toArray]).map (Q2 0 4))) XW 1
 (jU x++[(23,Qh.pure (.bool false) [])]) 0 [] []) []=some (.bool false,
 [Qr []/\Qn YP J0 96 (jM x) (.bool false)]++bz B x):=by kernel_rfl
theorem xf:QO (Qo YP (Q1 YP) J0 B 6 1 (Qp YP 73 59 (([.agg (Qi x).toArray]).map (Q2 0 4))) XW 1
 (jV x++[(18,Qh.pure (.bool false) [])]) 0 [] []) []=some (.bool false,
 [Qr []/\Qn YP J0 72 (jL x) (.bool false)]++b5 B x):=by kernel_rfl
theorem xe:QO (Qo YP (Q1 YP) J0 B 6 1 (Qp YP 73 59 (([.agg (Qi x).toArray]).map (Q2 0 4))) XW 1
 (jW x++[(13,Qh.pure (.bool false) [])]) 0 [] []) []=some (.bool false,
 [Qr []/\Qn YP J0 95 #[YI x.goal] (.bool false)]++b6 B x):=by kernel_rfl
theorem xd:QO (Qo YP (Q1 YP) J0 B 6 1 (Qp YP 73 59 (([.agg (Qi x).toArray]).map (Q2 0 4))) XW 1
 (jX x++[(8,Qh.pure (.bool false) [])]) 0 [] []) []=some (.bool false,
 [Qr []/\Qn YP J0 95 #[YI x.room] (.bool false)]++b8 B x):=by kernel_rfl
theorem tc:QO (Qo YP (Q1 YP) J0 B 6 1 (Qp YP 73 59 (([.agg (Qi x).toArray]).map (Q2 0 4))) XW 1
 [(4,Qh.pure (.bool false) [])] 0 [] []) []=some (.bool false,
 [Qr []/\Qn YP J0 95 #[YI x.count] (.bool false)]):=by kernel_rfl
end
set_option maxHeartbeats 4000000 in
theorem BQ(x:Qg)  {B:Lo}(hJ:∀w,B.has w->J0 w):EndsT YP B (Qp YP 73 59 (([.agg (Qi x).toArray]).map (Q2 0 4))) (.bool (Zn x)):=by
 cases q0:UI x.count 0 1000000 with
 |true=>
  have Vw:Qr (b8 B x):=by
   exact⟨⟨trivial,(by have t_:=Te x.count;rw[q0]at t_;exact t_)⟩,trivial⟩
  cases q1:UI x.room 0 1000000 with
  |true=>
   have UP:Qr (b6 B x):=by
    exact⟨⟨trivial,(by have t_:=Te x.room;rw[q1]at t_;exact t_)⟩,Vw⟩
   cases q2:UI x.goal 0 1000000 with
   |true=>
    have Pb:Qr (b5 B x):=by
     exact⟨⟨trivial,(by have t_:=Te x.goal;rw[q2]at t_;exact t_)⟩,UP⟩
    cases q3:UI x.VF 0 1000000 with
    |true=>
     have hp3:Qr (bz B x):=by
      exact⟨⟨trivial,(by have t_:=uN x.VF (0) (1000000);rw[q3]at t_;exact t_)⟩,Pb⟩
     cases q4:WJ x.Ys x.Yt 0 2000 with
     |true=>
      have T5:Qr (bw B x):=by
       exact⟨⟨trivial,(by have t_:=cR x.Ys x.Yt (2000);rw[q4]at t_;exact t_)⟩,hp3⟩
      cases q5:UI x.Xh 0 1000 with
      |true=>
       have hp5:Qr (bu B x):=by
        exact⟨⟨trivial,(by have t_:=uN x.Xh (0) (1000);rw[q5]at t_;exact t_)⟩,T5⟩
       cases q6:WJ x.VZ x.Ua 0 1000000 with
       |true=>
        have hp6:Qr (bt B x):=by
         exact⟨⟨trivial,(by have t_:=cR x.VZ x.Ua (1000000);rw[q6]at t_;exact t_)⟩,hp5⟩
        cases q7:WJ x.VV x.VW 0 1000000 with
        |true=>
         have hp7:Qr (bq B x):=by
          exact⟨⟨trivial,(by have t_:=cR x.VV x.VW (1000000);rw[q7]at t_;exact t_)⟩,hp6⟩
         by_cases q8:(x.VV:Int)<=x.VZ
         ·have hp8:Qr (bp B x):=by
           exact⟨(UX q8),hp7⟩
          by_cases q9:(x.VW:Int)<=x.Ua
          ·exact(GoE.endsT okF hJ Qf GoE.start (xm B x)
            ⟨(UX q9),hp8⟩).cast (by(simp[Zn, *];done))
          ·exact(GoE.endsT okF hJ Qf GoE.start (xl B x)
            ⟨(UY (Int.not_le.1 q9)),hp8⟩).cast (by(simp[Zn, *];done))
         ·exact(GoE.endsT okF hJ Qf GoE.start (xk B x)
           ⟨(UY (Int.not_le.1 q8)),hp7⟩).cast (by(simp[Zn, *];done))
        |false=>
         exact(GoE.endsT okF hJ Qf GoE.start (xj B x)
          ⟨⟨trivial,(by have t_:=cR x.VV x.VW (1000000);rw[q7]at t_;exact t_)⟩,hp6⟩).cast (by(simp[Zn, *];done))
       |false=>
        exact(GoE.endsT okF hJ Qf GoE.start (xi B x)
         ⟨⟨trivial,(by have t_:=cR x.VZ x.Ua (1000000);rw[q6]at t_;exact t_)⟩,hp5⟩).cast (by(simp[Zn, *];done))
      |false=>
       exact(GoE.endsT okF hJ Qf GoE.start (xh B x)
        ⟨⟨trivial,(by have t_:=uN x.Xh (0) (1000);rw[q5]at t_;exact t_)⟩,T5⟩).cast (by(simp[Zn, *];done))
     |false=>
      exact(GoE.endsT okF hJ Qf GoE.start (xg B x)
       ⟨⟨trivial,(by have t_:=cR x.Ys x.Yt (2000);rw[q4]at t_;exact t_)⟩,hp3⟩).cast (by(simp[Zn, *];done))
    |false=>
     exact(GoE.endsT okF hJ Qf GoE.start (xf B x)
      ⟨⟨trivial,(by have t_:=uN x.VF (0) (1000000);rw[q3]at t_;exact t_)⟩,Pb⟩).cast (by(simp[Zn, *];done))
   |false=>
    exact(GoE.endsT okF hJ Qf GoE.start (xe B x)
     ⟨⟨trivial,(by have t_:=Te x.goal;rw[q2]at t_;exact t_)⟩,UP⟩).cast (by(simp[Zn, *];done))
  |false=>
   exact(GoE.endsT okF hJ Qf GoE.start (xd B x)
    ⟨⟨trivial,(by have t_:=Te x.room;rw[q1]at t_;exact t_)⟩,Vw⟩).cast (by(simp[Zn, *];done))
 |false=>
  exact(GoE.endsT okF hJ Qf GoE.start (tc B x)
   ⟨⟨trivial,(by have t_:=Te x.count;rw[q0]at t_;exact t_)⟩,trivial⟩).cast (by(simp[Zn, *];done))
theorem xn(x:Qg)  :Qn YP J0 73 #[.agg (Qi x).toArray] (.bool (Zn x)):=
 Xb (ts:=[.agg (Qi x).toArray]) XZ (c0:=Qp YP 73 59 (([.agg (Qi x).toArray]).map (Q2 0 4))) (by kernel_rfl) (by kernel_rfl) fun B hJ=>BQ x  hJ
def g8(r:Ql)(k:Int):Array Value:=#[YI k,YI 0,YI ((↑r.Qb.length:Int)-1)]
def ae(B:Lo)(r:Ql)(k:Int):List Prop:=[wq ((↑r.Qb.length:Int)-1)=(↑r.Qb.length:Int)-1]++([]:List Prop)
def g9(r:Ql)(k:Int):Q7:=[(6,Wy ((↑r.Qb.length:Int)-1))]
theorem tf(B:Lo)(r:Ql)(k:Int):QO (Qo YP (Q1 YP) J0 B 6 1 (Qp YP 70 11 (([.agg (Qv r).toArray,YI k]).map (Q2 0 4))) XW 1
 (g9 r k++[(7,Qh.pure (.bool true) [])]) 0 [] []) []=some (.bool true,
 [Qr []/\Qn YP J0 72 (g8 r k) (.bool true)]++ae B r k):=by kernel_rfl
theorem td(B:Lo)(r:Ql)(k:Int):QO (Qo YP (Q1 YP) J0 B 6 1 (Qp YP 70 11 (([.agg (Qv r).toArray,YI k]).map (Q2 0 4))) XW 1
 (g9 r k++[(7,Qh.pure (.bool false) [])]) 0 [] []) []=some (.bool false,
 [Qr []/\Qn YP J0 72 (g8 r k) (.bool false)]++ae B r k):=by kernel_rfl
set_option maxHeartbeats 4000000 in
theorem xo(r:Ql)(k:Int)  (X2:r.Qb.length<=9223372036854775807){B:Lo}(hJ:∀w,B.has w->J0 w):EndsT YP B (Qp YP 70 11 (([.agg (Qv r).toArray,YI k]).map (Q2 0 4))) (.bool (UI k 0 (r.Qb.length-1))):=by
 have Vw:Qr (ae B r k):=by
  exact⟨(QY (by omega) (by omega)),trivial⟩
 cases q0:UI k 0 ((↑r.Qb.length:Int)-1)with
 |true=>
  exact(GoE.endsT okF hJ Qf GoE.start (tf B r k)
   ⟨⟨trivial,(by have t_:=uN (k) (0) ((↑r.Qb.length:Int)-1);rw[q0]at t_;exact t_)⟩,Vw⟩).cast (by rfl)
 |false=>
  exact(GoE.endsT okF hJ Qf GoE.start (td B r k)
   ⟨⟨trivial,(by have t_:=uN (k) (0) ((↑r.Qb.length:Int)-1);rw[q0]at t_;exact t_)⟩,Vw⟩).cast (by rfl)
theorem rK(r:Ql)(k:Int)  :Qn YP J0 70 #[.agg (Qv r).toArray,YI k] (.bool (UI k 0 (r.Qb.length-1))):=
 Vd (ts:=[.agg (Qv r).toArray,YI k]) (r.Qb.length<=9223372036854775807) (fun _ _ ht=>ht.ln2 (i:=0) (j:=0) rfl rfl) XZ (c0:=Qp YP 70 11 (([.agg (Qv r).toArray,YI k]).map (Q2 0 4))) (by kernel_rfl) (by kernel_rfl) fun X2 B hJ=>xo r k  X2 hJ
section
variable (x_:Qg)(B:Lo)(c0:CF)(r:Ql)(i:Int)(Qm:Nat->Value)
def aa:Array Value:=#[YI x_.count,YI x_.room,YI x_.Ys,YI x_.Yt,YI x_.Xh,YI x_.Zq,YI x_.VZ,YI x_.Ua,YI x_.VV,YI x_.VW,YI x_.goal,YI x_.VF]
def n6:Array Value:=#[.agg #[QC r.Qb.length (Qe Qi r.Qb),YI r.Qc,YI r.Qd],YI (Qg.Zq (r.Qb.getD i.toNat La))]
def n5:Array Value:=#[YI (↑r.Qb.length:Int),YI 1,YI 4]
def n4:Array Value:=#[YI r.Qc,YI 0,YI 2000]
def n3:Array Value:=#[YI r.Qd,YI 1,YI 4]
def W8:List Value:=[pA 2 0,Qw 1 (QC r.Qb.length (Qe Qi r.Qb)),YI (↑r.Qb.length:Int),YI i]
def Zb(i:Int):List Obj:=[Obj.cells #[Qw 1 (QC r.Qb.length (Qe Qi r.Qb)),YI r.Qc,YI r.Qd] 24]
def W9:List Item:=([.code [1,1,0,1,0,0],.inLoop [1,1,0,1,0,0],.inBlock 0,.code [1,1,1]]).map (it (QG YP 50))
def BM:Prop:=∃dJ:Nat->Value,(∀t,Xi (dJ t))/\GoE YP B c0 XW 1 (QA 50 52 (([1,23,24,25]:List Nat).zip (W8 r i)) dJ W9) (Q9 (Zb r i)) (2+(Zb r i).length) []
def eJ(B:Lo)(r:Ql)(i:Int)(Qm:Nat->Value):List Prop:=[Kl i r.Qb.length (Qe Qi r.Qb) Try.t54.size (aa (r.Qb.getD i.toNat La)),XC i (↑r.Qb.length:Int)=true]++([]:List Prop)
def nD(Qm:Nat->Value):Q7:=[(0,Z5),(2,Qh.tidx i.toNat (aa (r.Qb.getD i.toNat La)))]
def eI:List Prop:=[Qr []/\Qn YP J0 73 #[.agg (aa (r.Qb.getD i.toNat La))] (.bool true)]++eJ B r i Qm
def nC:Q7:=nD r i Qm++[(8,Qh.pure (.bool true) [])]
def eH:List Prop:=[(!Yo (Qg.Zq (r.Qb.getD i.toNat La)) (-1))=true]++eI B r i Qm
def nB:Q7:=nC r i Qm++[(13,Z5)]
def eG:List Prop:=[Qr []/\Qn YP J0 70 (n6 r i) (.bool true)]++eH B r i Qm
def nA:Q7:=nB r i Qm++[(18,Qh.pure (.bool true) [])]
theorem BK:QO (Qo YP (Q1 YP) J0 B 16 1 (QA 50 52 (([1,23,24,25]:List Nat).zip (W8 r i)) Qm W9) (Q9 (Zb r i)) (2+(Zb r i).length)
 (nA r i Qm++[(26,Z5)]) 0 [] []) []=some (.bool false,
 [Yo (Qg.Zq (r.Qb.getD i.toNat La)) i=true]++eG B r i Qm):=by kernel_rfl
theorem BJ:landM (Qo YP (Q1 YP) J0 B 16 1 (QA 50 52 (([1,23,24,25]:List Nat).zip (W8 r i)) Qm W9) (Q9 (Zb r i)) (2+(Zb r i).length)
 (nA r i Qm++[(26,ZW),(28,Wy (i+1))]) 0 [] []) [1,23,24,25] [(2,KS.auto)] []=some ⟨50,52,W9,[],.run,none,W8 r (i+1),Zb r (i+1),
 [wq (i+1)=i+1,Yo (Qg.Zq (r.Qb.getD i.toNat La)) i=false]++eG B r i Qm⟩:=by kernel_rfl
theorem BI:QO (Qo YP (Q1 YP) J0 B 16 1 (QA 50 52 (([1,23,24,25]:List Nat).zip (W8 r i)) Qm W9) (Q9 (Zb r i)) (2+(Zb r i).length)
 (nB r i Qm++[(18,Qh.pure (.bool false) [])]) 0 [] []) []=some (.bool false,
 [Qr []/\Qn YP J0 70 (n6 r i) (.bool false)]++eH B r i Qm):=by kernel_rfl
def eF:List Prop:=[(!Yo (Qg.Zq (r.Qb.getD i.toNat La)) (-1))=false]++eI B r i Qm
def n9:Q7:=nC r i Qm++[(13,ZW)]
theorem BH:QO (Qo YP (Q1 YP) J0 B 16 1 (QA 50 52 (([1,23,24,25]:List Nat).zip (W8 r i)) Qm W9) (Q9 (Zb r i)) (2+(Zb r i).length)
 (n9 r i Qm++[(26,Z5)]) 0 [] []) []=some (.bool false,
 [Yo (Qg.Zq (r.Qb.getD i.toNat La)) i=true]++eF B r i Qm):=by kernel_rfl
theorem BG:landM (Qo YP (Q1 YP) J0 B 16 1 (QA 50 52 (([1,23,24,25]:List Nat).zip (W8 r i)) Qm W9) (Q9 (Zb r i)) (2+(Zb r i).length)
 (n9 r i Qm++[(26,ZW),(28,Wy (i+1))]) 0 [] []) [1,23,24,25] [(2,KS.auto)] []=some ⟨50,52,W9,[],.run,none,W8 r (i+1),Zb r (i+1),
 [wq (i+1)=i+1,Yo (Qg.Zq (r.Qb.getD i.toNat La)) i=false]++eF B r i Qm⟩:=by kernel_rfl
theorem BF:QO (Qo YP (Q1 YP) J0 B 16 1 (QA 50 52 (([1,23,24,25]:List Nat).zip (W8 r i)) Qm W9) (Q9 (Zb r i)) (2+(Zb r i).length)
 (nD r i Qm++[(8,Qh.pure (.bool false) [])]) 0 [] []) []=some (.bool false,
 [Qr []/\Qn YP J0 73 #[.agg (aa (r.Qb.getD i.toNat La))] (.bool false)]++eJ B r i Qm):=by kernel_rfl
theorem BE:QO (Qo YP (Q1 YP) J0 B 9 1 (QA 50 52 (([1,23,24,25]:List Nat).zip (W8 r i)) Qm W9) (Q9 (Zb r i)) (2+(Zb r i).length)
 [(0,ZW)] 0 [] []) []=some (.bool true,
 [XC i (↑r.Qb.length:Int)=false]):=by kernel_rfl
def eE(B:Lo)(r:Ql):List Prop:=[Qr []/\Qn YP J0 72 (n5 r) (.bool true)]++([]:List Prop)
def n8(r:Ql):Q7:=[(5,Qh.pure (.bool true) [])]
def eD:List Prop:=[Qr []/\Qn YP J0 72 (n4 r) (.bool true)]++eE B r
def n7:Q7:=n8 r++[(10,Qh.pure (.bool true) [])]
theorem BD:landM (Qo YP (Q1 YP) J0 B 12 1 (Qp YP 50 52 (([.agg (Qv r).toArray]).map (Q2 0 4))) XW 1
 (n7 r++[(16,Qh.pure (.bool true) [])]) 0 [] []) [1,23,24,25] [(1,KS.auto)] []=some ⟨50,52,W9,[],.run,none,W8 r (0),Zb r (0),
 [Qr []/\Qn YP J0 72 (n3 r) (.bool true)]++eD B r⟩:=by kernel_rfl
theorem BC:QO (Qo YP (Q1 YP) J0 B 10 1 (Qp YP 50 52 (([.agg (Qv r).toArray]).map (Q2 0 4))) XW 1
 (n7 r++[(16,Qh.pure (.bool false) [])]) 0 [] []) []=some (.bool false,
 [Qr []/\Qn YP J0 72 (n3 r) (.bool false)]++eD B r):=by kernel_rfl
theorem BB:QO (Qo YP (Q1 YP) J0 B 10 1 (Qp YP 50 52 (([.agg (Qv r).toArray]).map (Q2 0 4))) XW 1
 (n8 r++[(10,Qh.pure (.bool false) [])]) 0 [] []) []=some (.bool false,
 [Qr []/\Qn YP J0 72 (n4 r) (.bool false)]++eE B r):=by kernel_rfl
theorem xc:QO (Qo YP (Q1 YP) J0 B 10 1 (Qp YP 50 52 (([.agg (Qv r).toArray]).map (Q2 0 4))) XW 1
 [(5,Qh.pure (.bool false) [])] 0 [] []) []=some (.bool false,
 [Qr []/\Qn YP J0 72 (n5 r) (.bool false)]):=by kernel_rfl
end
set_option maxHeartbeats 4000000 in
theorem BL(r:Ql)  (X2:r.Qb.length<=9223372036854775807){B:Lo}(hJ:∀w,B.has w->J0 w){c0:CF}:∀m:Nat,(∀(i:Int),r.Qb.length-i.toNat=m->∀(h0:0<=i),BM B c0 r i->EndsT YP B c0 (.bool (RG r.Qb i))):=by
 intro m0;induction m0 using Lz with
 |_ m0 ih0=>
  intro i YA h0 ⟨Qm,ZF,Xs⟩;by_cases q0:(i:Int)<((↑r.Qb.length:Int))
  ·have Vw:Qr (eJ B r i Qm):=by
    exact⟨⟨by omega,by omega,(Qs (z:=12) (fun _=>rfl) (by omega))⟩,⟨(Xd q0),trivial⟩⟩
   cases q1:Zn (r.Qb.getD i.toNat La)with
   |true=>
    have UP:Qr (eI B r i Qm):=by
     exact⟨⟨trivial,(by have t_:=xn (r.Qb.getD i.toNat La);rw[q1]at t_;exact t_)⟩,Vw⟩
    by_cases q2:(Qg.Zq (r.Qb.getD i.toNat La):Int)≠(-1)
    ·have Pb:Qr (eH B r i Qm):=by
      exact⟨(KE q2),UP⟩
     cases q3:UI (Qg.Zq (r.Qb.getD i.toNat La)) 0 ((↑r.Qb.length:Int)-1)with
     |true=>
      have hp3:Qr (eG B r i Qm):=by
       exact⟨⟨trivial,(by have t_:=rK (r) (Qg.Zq (r.Qb.getD i.toNat La));rw[q3]at t_;exact t_)⟩,Pb⟩
      by_cases q4:(Qg.Zq (r.Qb.getD i.toNat La):Int)=(i)
      ·have s2:=XN (ps:=r.Qb) q0;exact(GoE.endsT okF hJ Qf Xs (BK B r i Qm)
        ⟨(bY q4),hp3⟩).cast (by(rw[s2];simp_all[ZJ,Pk];done))
      ·have s2:=XN (ps:=r.Qb) q0;exact((ih0 _ (by omega)) (i+1) rfl (by omega)
        (Xs.landM okF hJ Qf (BJ B r i Qm)
        ⟨(QY (by omega) (by omega)),⟨(bZ q4),hp3⟩⟩ (by kernel_rfl) (by kernel_rfl))).cast (by(rw[s2];simp_all[ZJ,Pk];done))
     |false=>
      have s2:=XN (ps:=r.Qb) q0;exact(GoE.endsT okF hJ Qf Xs (BI B r i Qm)
       ⟨⟨trivial,(by have t_:=rK (r) (Qg.Zq (r.Qb.getD i.toNat La));rw[q3]at t_;exact t_)⟩,Pb⟩).cast (by(rw[s2];simp_all[ZJ,Pk];done))
    ·have T5:Qr (eF B r i Qm):=by
      exact⟨(KF (Decidable.of_not_not q2)),UP⟩
     by_cases q3:(Qg.Zq (r.Qb.getD i.toNat La):Int)=(i)
     ·have s2:=XN (ps:=r.Qb) q0;have s2:=YV (ps:=r.Qb) (i:=i) (by omega);exact(GoE.endsT okF hJ Qf Xs (BH B r i Qm)
       ⟨(bY q3),T5⟩).cast (by(rw[s2];simp_all[ZJ,Pk];done))
     ·have s2:=XN (ps:=r.Qb) q0;exact((ih0 _ (by omega)) (i+1) rfl (by omega)
       (Xs.landM okF hJ Qf (BG B r i Qm)
       ⟨(QY (by omega) (by omega)),⟨(bZ q3),T5⟩⟩ (by kernel_rfl) (by kernel_rfl))).cast (by(rw[s2];simp_all[ZJ,Pk];done))
   |false=>
    have s2:=XN (ps:=r.Qb) q0;exact(GoE.endsT okF hJ Qf Xs (BF B r i Qm)
     ⟨⟨trivial,(by have t_:=xn (r.Qb.getD i.toNat La);rw[q1]at t_;exact t_)⟩,Vw⟩).cast (by(rw[s2];simp_all[ZJ,Pk];done))
  ·have s2:=YV (ps:=r.Qb) (i:=i) (by omega);exact(GoE.endsT okF hJ Qf Xs (BE B r i Qm)
    ⟨(X9 (Int.not_lt.1 q0)),trivial⟩).cast (by(rw[s2];done))
set_option maxHeartbeats 4000000 in
theorem Fb(r:Ql)  (X2:r.Qb.length<=9223372036854775807){B:Lo}(hJ:∀w,B.has w->J0 w):EndsT YP B (Qp YP 50 52 (([.agg (Qv r).toArray]).map (Q2 0 4))) (.bool (QL r)):=by
 cases q0:UI (↑r.Qb.length:Int) 1 4 with
 |true=>
  have hp5:Qr (eE B r):=by
   exact⟨⟨trivial,(by have t_:=uN ((↑r.Qb.length:Int)) (1) (4);rw[q0]at t_;exact t_)⟩,trivial⟩
  cases q1:UI r.Qc 0 2000 with
  |true=>
   have hp6:Qr (eD B r):=by
    exact⟨⟨trivial,(by have t_:=uN r.Qc (0) (2000);rw[q1]at t_;exact t_)⟩,hp5⟩
   cases q2:UI r.Qd 1 4 with
   |true=>
    exact((BL r X2 hJ _) (0) rfl (by omega)
     (GoE.start.landM okF hJ Qf (BD B r)
     ⟨⟨trivial,(by have t_:=uN r.Qd (1) (4);rw[q2]at t_;exact t_)⟩,hp6⟩ (by kernel_rfl) (by kernel_rfl))).cast (by(simp only[QL,PQ];simp[*];done))
   |false=>
    exact(GoE.endsT okF hJ Qf GoE.start (BC B r)
     ⟨⟨trivial,(by have t_:=uN r.Qd (1) (4);rw[q2]at t_;exact t_)⟩,hp6⟩).cast (by(simp only[QL,PQ];simp[*];done))
  |false=>
   exact(GoE.endsT okF hJ Qf GoE.start (BB B r)
    ⟨⟨trivial,(by have t_:=uN r.Qc (0) (2000);rw[q1]at t_;exact t_)⟩,hp5⟩).cast (by(simp only[QL,PQ];simp[*];done))
 |false=>
  exact(GoE.endsT okF hJ Qf GoE.start (xc B r)
   ⟨⟨trivial,(by have t_:=uN ((↑r.Qb.length:Int)) (1) (4);rw[q0]at t_;exact t_)⟩,trivial⟩).cast (by(simp only[QL,PQ];simp[*];done))
theorem cL(r:Ql)  :Qn YP J0 50 #[.agg (Qv r).toArray] (.bool (QL r)):=
 Vd (ts:=[.agg (Qv r).toArray]) (r.Qb.length<=9223372036854775807) (fun _ _ ht=>ht.ln2 (i:=0) (j:=0) rfl rfl) XZ (c0:=Qp YP 50 52 (([.agg (Qv r).toArray]).map (Q2 0 4))) (by kernel_rfl) (by kernel_rfl) fun X2 B hJ=>Fb r  X2 hJ
section
variable (B:Lo)(c0:CF)(r:Ql)(i:Int)(Qm:Nat->Value)
def Z6(r:Ql)(i:Int):List Value:=[pA 2 0,YI i]
def Xv(i:Int):List Obj:=[Obj.cells #[Qw 1 (QC r.Qb.length (Qe Qi r.Qb)),YI r.Qc,YI r.Qd] 24]
def Z7:List Item:=([.code [1,0,1,0,0],.inLoop [1,0,1,0,0],.inBlock 0,.code [1,1]]).map (it (QG YP 20))
def Hk:Prop:=∃dJ:Nat->Value,(∀t,Xi (dJ t))/\GoE YP B c0 XW 1 (QA 20 111 (([1,3]:List Nat).zip (Z6 r i)) dJ Z7) (Q9 (Xv r i)) (2+(Xv r i).length) []
def P6:=(r.Qb.getD i.toNat La)
def PV:=(P6 r i)
def GX:=(PV r i)
def vS:Array Value:=let a:=GX r i;#[YI a.count,YI a.room,YI a.Ys,YI a.Yt,YI a.Xh,YI a.Zq,YI a.VZ,YI a.Ua,YI a.VV,YI a.VW,YI a.goal,YI a.VF]
def vR:Array Value:=#[.agg #[YI (Qg.VZ (PV r i)),YI (Qg.Ua (PV r i))],YI 1000000]
def vQ:Array Value:=#[.agg #[YI (Qg.VV (PV r i)),YI (Qg.VW (PV r i))],YI 1000000]
def vP:Array Value:=#[.agg #[YI (Qg.Ys (PV r i)),YI (Qg.Yt (PV r i))],YI 2000]
def vO:Array Value:=#[YI (Qg.Zq (P6 r i)),YI (-1),YI ((↑r.Qb.length:Int)-1)]
def vN:Array Value:=#[YI (Qg.count (P6 r i)),YI 0,YI 1000000]
def vM:Array Value:=#[YI (Qg.VF (P6 r i)),YI 0,YI 1000000]
def vL:Array Value:=#[YI (Qg.room (P6 r i)),YI 0,YI 1000000]
def rj:Array Value:=#[YI (Qg.goal (P6 r i)),YI 0,YI 1000000]
def ri:Array Value:=#[YI (Qg.Xh (r.Qb.getD i.toNat La)),YI 0,YI 1000]
def rh:Array Value:=#[YI (↑r.Qb.length:Int),YI 1,YI 4]
def re:Array Value:=#[YI r.Qc,YI 0,YI 2000]
def qZ:Array Value:=#[YI r.Qd,YI 1,YI 4]
def mP(B:Lo)(r:Ql)(i:Int)(Qm:Nat->Value):List Prop:=[Kl i r.Qb.length (Qe Qi r.Qb) Try.t54.size (vS r i),XC i (↑r.Qb.length:Int)=true]++([]:List Prop)
def wc(Qm:Nat->Value):Q7:=[(4,Z5),(8,Qh.tidx i.toNat (vS r i))]
def mO:List Prop:=[Qr []/\Qn YP J0 55 (vN r i) (.bool true)]++mP B r i Qm
def wb:Q7:=wc r i Qm++[(14,Qh.pure (.bool true) [])]
def mN:List Prop:=[Qr []/\Qn YP J0 55 (vL r i) (.bool true)]++mO B r i Qm
def wa:Q7:=wb r i Qm++[(19,Qh.pure (.bool true) [])]
def mM:List Prop:=[Qr []/\Qn YP J0 55 (rj r i) (.bool true)]++mN B r i Qm
def vZ:Q7:=wa r i Qm++[(25,Qh.pure (.bool true) [])]
def mL:List Prop:=[Qr []/\Qn YP J0 56 (vP r i) (.bool true)]++mM B r i Qm
def vY:Q7:=vZ r i Qm++[(31,Qh.pure (.bool true) [])]
def mK:List Prop:=[wq ((↑r.Qb.length:Int)-1)=(↑r.Qb.length:Int)-1,Qr []/\Qn YP J0 55 (ri r i) (.bool true)]++mL B r i Qm
def vX:Q7:=vY r i Qm++[(37,Qh.pure (.bool true) []),(46,Wy ((↑r.Qb.length:Int)-1))]
def mJ:List Prop:=[Qr []/\Qn YP J0 55 (vO r i) (.bool true)]++mK B r i Qm
def vW:Q7:=vX r i Qm++[(47,Qh.pure (.bool true) [])]
theorem Hi:QO (Qo YP (Q1 YP) J0 B 16 1 (QA 20 111 (([1,3]:List Nat).zip (Z6 r i)) Qm Z7) (Q9 (Xv r i)) (2+(Xv r i).length)
 (vW r i Qm++[(54,Z5)]) 0 [] []) []=some (.bool false,
 [Yo (Qg.Zq (r.Qb.getD i.toNat La)) i=true]++mJ B r i Qm):=by kernel_rfl
def mI:List Prop:=[Yo (Qg.Zq (r.Qb.getD i.toNat La)) i=false]++mJ B r i Qm
def vV:Q7:=vW r i Qm++[(54,ZW)]
def mH:List Prop:=[Qr []/\Qn YP J0 56 (vR r i) (.bool true)]++mI B r i Qm
def vU:Q7:=vV r i Qm++[(59,Qh.pure (.bool true) [])]
def mG:List Prop:=[Qr []/\Qn YP J0 56 (vQ r i) (.bool true)]++mH B r i Qm
def vT:Q7:=vU r i Qm++[(65,Qh.pure (.bool true) [])]
theorem Hh(B:Lo)(r:Ql)(i:Int)(Qm:Nat->Value):let a:=r.Qb.getD i.toNat La;QO (Qo YP (Q1 YP) J0 B 16 1 (QA 20 111 (([1,3]:List Nat).zip (Z6 r i)) Qm Z7) (Q9 (Xv r i)) (2+(Xv r i).length)
 (vT r i Qm++[(75,Z5)]) 0 [] []) []=some (.bool false,
 [XC a.VZ a.VV=true]++mG B r i Qm):=by intro a;kernel_rfl
def iF:List Prop:=[XC (Qg.VZ (r.Qb.getD i.toNat La)) (Qg.VV (r.Qb.getD i.toNat La))=false]++mG B r i Qm
def rp:Q7:=vT r i Qm++[(75,ZW)]
theorem Hg(B:Lo)(r:Ql)(i:Int)(Qm:Nat->Value):let a:=r.Qb.getD i.toNat La;QO (Qo YP (Q1 YP) J0 B 16 1 (QA 20 111 (([1,3]:List Nat).zip (Z6 r i)) Qm Z7) (Q9 (Xv r i)) (2+(Xv r i).length)
 (rp r i Qm++[(84,Z5)]) 0 [] []) []=some (.bool false,
 [XC a.Ua a.VW=true]++iF B r i Qm):=by intro a;kernel_rfl
def iE:List Prop:=[XC (Qg.Ua (r.Qb.getD i.toNat La)) (Qg.VW (r.Qb.getD i.toNat La))=false]++iF B r i Qm
def rn:Q7:=rp r i Qm++[(84,ZW)]
theorem Hf:landM (Qo YP (Q1 YP) J0 B 16 1 (QA 20 111 (([1,3]:List Nat).zip (Z6 r i)) Qm Z7) (Q9 (Xv r i)) (2+(Xv r i).length)
 (rn r i Qm++[(89,Qh.pure (.bool true) []),(93,Wy (i+1))]) 0 [] []) [1,3] [(2,KS.auto)] []=some ⟨20,111,Z7,[],.run,none,Z6 r (i+1),Xv r (i+1),
 [wq (i+1)=i+1,Qr []/\Qn YP J0 55 (vM r i) (.bool true)]++iE B r i Qm⟩:=by kernel_rfl
theorem He:QO (Qo YP (Q1 YP) J0 B 16 1 (QA 20 111 (([1,3]:List Nat).zip (Z6 r i)) Qm Z7) (Q9 (Xv r i)) (2+(Xv r i).length)
 (rn r i Qm++[(89,Qh.pure (.bool false) [])]) 0 [] []) []=some (.bool false,
 [Qr []/\Qn YP J0 55 (vM r i) (.bool false)]++iE B r i Qm):=by kernel_rfl
theorem Hd:QO (Qo YP (Q1 YP) J0 B 16 1 (QA 20 111 (([1,3]:List Nat).zip (Z6 r i)) Qm Z7) (Q9 (Xv r i)) (2+(Xv r i).length)
 (vU r i Qm++[(65,Qh.pure (.bool false) [])]) 0 [] []) []=some (.bool false,
 [Qr []/\Qn YP J0 56 (vQ r i) (.bool false)]++mH B r i Qm):=by kernel_rfl
theorem Hc:QO (Qo YP (Q1 YP) J0 B 16 1 (QA 20 111 (([1,3]:List Nat).zip (Z6 r i)) Qm Z7) (Q9 (Xv r i)) (2+(Xv r i).length)
 (vV r i Qm++[(59,Qh.pure (.bool false) [])]) 0 [] []) []=some (.bool false,
 [Qr []/\Qn YP J0 56 (vR r i) (.bool false)]++mI B r i Qm):=by kernel_rfl
theorem Ha:QO (Qo YP (Q1 YP) J0 B 16 1 (QA 20 111 (([1,3]:List Nat).zip (Z6 r i)) Qm Z7) (Q9 (Xv r i)) (2+(Xv r i).length)
 (vX r i Qm++[(47,Qh.pure (.bool false) [])]) 0 [] []) []=some (.bool false,
 [Qr []/\Qn YP J0 55 (vO r i) (.bool false)]++mK B r i Qm):=by kernel_rfl
theorem GZ:QO (Qo YP (Q1 YP) J0 B 16 1 (QA 20 111 (([1,3]:List Nat).zip (Z6 r i)) Qm Z7) (Q9 (Xv r i)) (2+(Xv r i).length)
 (vY r i Qm++[(37,Qh.pure (.bool false) [])]) 0 [] []) []=some (.bool false,
 [Qr []/\Qn YP J0 55 (ri r i) (.bool false)]++mL B r i Qm):=by kernel_rfl
theorem GY:QO (Qo YP (Q1 YP) J0 B 16 1 (QA 20 111 (([1,3]:List Nat).zip (Z6 r i)) Qm Z7) (Q9 (Xv r i)) (2+(Xv r i).length)
 (vZ r i Qm++[(31,Qh.pure (.bool false) [])]) 0 [] []) []=some (.bool false,
 [Qr []/\Qn YP J0 56 (vP r i) (.bool false)]++mM B r i Qm):=by kernel_rfl
theorem E6:QO (Qo YP (Q1 YP) J0 B 16 1 (QA 20 111 (([1,3]:List Nat).zip (Z6 r i)) Qm Z7) (Q9 (Xv r i)) (2+(Xv r i).length)
 (wa r i Qm++[(25,Qh.pure (.bool false) [])]) 0 [] []) []=some (.bool false,
 [Qr []/\Qn YP J0 55 (rj r i) (.bool false)]++mN B r i Qm):=by kernel_rfl
theorem E5:QO (Qo YP (Q1 YP) J0 B 16 1 (QA 20 111 (([1,3]:List Nat).zip (Z6 r i)) Qm Z7) (Q9 (Xv r i)) (2+(Xv r i).length)
 (wb r i Qm++[(19,Qh.pure (.bool false) [])]) 0 [] []) []=some (.bool false,
 [Qr []/\Qn YP J0 55 (vL r i) (.bool false)]++mO B r i Qm):=by kernel_rfl
theorem E4:QO (Qo YP (Q1 YP) J0 B 16 1 (QA 20 111 (([1,3]:List Nat).zip (Z6 r i)) Qm Z7) (Q9 (Xv r i)) (2+(Xv r i).length)
 (wc r i Qm++[(14,Qh.pure (.bool false) [])]) 0 [] []) []=some (.bool false,
 [Qr []/\Qn YP J0 55 (vN r i) (.bool false)]++mP B r i Qm):=by kernel_rfl
def iD(B:Lo)(r:Ql)(i:Int)(Qm:Nat->Value):List Prop:=[XC i (↑r.Qb.length:Int)=false]++([]:List Prop)
def rm(r:Ql)(i:Int)(Qm:Nat->Value):Q7:=[(4,ZW)]
def iC:List Prop:=[Qr []/\Qn YP J0 55 (rh r) (.bool true)]++iD B r i Qm
def rl:Q7:=rm r i Qm++[(8,Qh.pure (.bool true) [])]
def iB:List Prop:=[Qr []/\Qn YP J0 55 (re r) (.bool true)]++iC B r i Qm
def rk:Q7:=rl r i Qm++[(12,Qh.pure (.bool true) [])]
theorem E3:QO (Qo YP (Q1 YP) J0 B 9 1 (QA 20 111 (([1,3]:List Nat).zip (Z6 r i)) Qm Z7) (Q9 (Xv r i)) (2+(Xv r i).length)
 (rk r i Qm++[(17,Qh.pure (.bool true) [])]) 0 [] []) []=some (.bool true,
 [Qr []/\Qn YP J0 55 (qZ r) (.bool true)]++iB B r i Qm):=by kernel_rfl
theorem E2:QO (Qo YP (Q1 YP) J0 B 9 1 (QA 20 111 (([1,3]:List Nat).zip (Z6 r i)) Qm Z7) (Q9 (Xv r i)) (2+(Xv r i).length)
 (rk r i Qm++[(17,Qh.pure (.bool false) [])]) 0 [] []) []=some (.bool false,
 [Qr []/\Qn YP J0 55 (qZ r) (.bool false)]++iB B r i Qm):=by kernel_rfl
theorem E1:QO (Qo YP (Q1 YP) J0 B 9 1 (QA 20 111 (([1,3]:List Nat).zip (Z6 r i)) Qm Z7) (Q9 (Xv r i)) (2+(Xv r i).length)
 (rl r i Qm++[(12,Qh.pure (.bool false) [])]) 0 [] []) []=some (.bool false,
 [Qr []/\Qn YP J0 55 (re r) (.bool false)]++iC B r i Qm):=by kernel_rfl
theorem E0:QO (Qo YP (Q1 YP) J0 B 9 1 (QA 20 111 (([1,3]:List Nat).zip (Z6 r i)) Qm Z7) (Q9 (Xv r i)) (2+(Xv r i).length)
 (rm r i Qm++[(8,Qh.pure (.bool false) [])]) 0 [] []) []=some (.bool false,
 [Qr []/\Qn YP J0 55 (rh r) (.bool false)]++iD B r i Qm):=by kernel_rfl
theorem Ez:landM (Qo YP (Q1 YP) J0 B 7 1 (Qp YP 20 111 (([.agg (Qv r).toArray]).map (Q2 0 4))) XW 1
 [] 0 [] []) [1,3] [(1,KS.auto)] []=some ⟨20,111,Z7,[],.run,none,Z6 r (0),Xv r (0),
 []⟩:=by kernel_rfl
end
set_option maxHeartbeats 4000000 in
theorem Hj(r:Ql)  (X2:r.Qb.length<=9223372036854775807){B:Lo}(hJ:∀w,B.has w->J0 w){c0:CF}:∀m:Nat,(∀(i:Int),r.Qb.length-i.toNat=m->∀(h0:0<=i),Hk B c0 r i->EndsT YP B c0 (.bool (RG r.Qb i && PQ r))):=by
 intro m0;induction m0 using Lz with
 |_ m0 ih0=>
  intro i YA h0 ⟨Qm,ZF,Xs⟩;have s3:=NW (n:=r.Qb.length) (v:=(r.Qb.getD i.toNat La).Zq) (by omega);by_cases q0:(i:Int)<((↑r.Qb.length:Int))
  ·have Vw:Qr (mP B r i Qm):=by
    exact⟨⟨by omega,by omega,(Qs (z:=12) (fun _=>rfl) (by omega))⟩,⟨(Xd q0),trivial⟩⟩
   cases q1:UI (Qg.count (r.Qb.getD i.toNat La)) 0 1000000 with
   |true=>
    have UP:Qr (mO B r i Qm):=by
     exact⟨⟨trivial,(by have t_:=qU (Qg.count (r.Qb.getD i.toNat La)) (0) (1000000);rw[q1]at t_;exact t_)⟩,Vw⟩
    cases q2:UI (Qg.room (r.Qb.getD i.toNat La)) 0 1000000 with
    |true=>
     have Pb:Qr (mN B r i Qm):=by
      exact⟨⟨trivial,(by have t_:=qU (Qg.room (r.Qb.getD i.toNat La)) (0) (1000000);rw[q2]at t_;exact t_)⟩,UP⟩
     cases q3:UI (Qg.goal (r.Qb.getD i.toNat La)) 0 1000000 with
     |true=>
      have hp3:Qr (mM B r i Qm):=by
       exact⟨⟨trivial,(by have t_:=qU (Qg.goal (r.Qb.getD i.toNat La)) (0) (1000000);rw[q3]at t_;exact t_)⟩,Pb⟩
      cases q4:WJ (Qg.Ys (r.Qb.getD i.toNat La)) (Qg.Yt (r.Qb.getD i.toNat La)) 0 2000 with
      |true=>
       have T5:Qr (mL B r i Qm):=by
        exact⟨⟨trivial,(by have t_:=qY (Qg.Ys (r.Qb.getD i.toNat La)) (Qg.Yt (r.Qb.getD i.toNat La)) (2000);rw[q4]at t_;exact t_)⟩,hp3⟩
       cases q5:UI (Qg.Xh (r.Qb.getD i.toNat La)) 0 1000 with
       |true=>
        have hp5:Qr (mK B r i Qm):=by
         exact⟨(QY (by omega) (by omega)),⟨⟨trivial,(by have t_:=qU (Qg.Xh (r.Qb.getD i.toNat La)) (0) (1000);rw[q5]at t_;exact t_)⟩,T5⟩⟩
        cases q6:UI (Qg.Zq (r.Qb.getD i.toNat La)) (-1) ((↑r.Qb.length:Int)-1)with
        |true=>
         have hp6:Qr (mJ B r i Qm):=by
          exact⟨⟨trivial,(by have t_:=qU (Qg.Zq (r.Qb.getD i.toNat La)) (-1) ((↑r.Qb.length:Int)-1);rw[q6]at t_;exact t_)⟩,hp5⟩
         by_cases q7:(Qg.Zq (r.Qb.getD i.toNat La):Int)=(i)
         ·have s2:=XN (ps:=r.Qb) q0;exact(GoE.endsT okF hJ Qf Xs (Hi B r i Qm)
           ⟨(bY q7),hp6⟩).cast (by(rw[s2];rw[s3]at *;simp_all[ZJ,Zn];done))
         ·have hp7:Qr (mI B r i Qm):=by
           exact⟨(bZ q7),hp6⟩
          cases q8:WJ (Qg.VZ (r.Qb.getD i.toNat La)) (Qg.Ua (r.Qb.getD i.toNat La)) 0 1000000 with
          |true=>
           have hp8:Qr (mH B r i Qm):=by
            exact⟨⟨trivial,(by have t_:=qY (Qg.VZ (r.Qb.getD i.toNat La)) (Qg.Ua (r.Qb.getD i.toNat La)) (1000000);rw[q8]at t_;exact t_)⟩,hp7⟩
           cases q9:WJ (Qg.VV (r.Qb.getD i.toNat La)) (Qg.VW (r.Qb.getD i.toNat La)) 0 1000000 with
           |true=>
            have hp9:Qr (mG B r i Qm):=by
             exact⟨⟨trivial,(by have t_:=qY (Qg.VV (r.Qb.getD i.toNat La)) (Qg.VW (r.Qb.getD i.toNat La)) (1000000);rw[q9]at t_;exact t_)⟩,hp8⟩
            by_cases q10:(Qg.VZ (r.Qb.getD i.toNat La):Int)<(Qg.VV (r.Qb.getD i.toNat La))
            ·have s2:=XN (ps:=r.Qb) q0;exact(GoE.endsT okF hJ Qf Xs (Hh B r i Qm)
              ⟨(Xd q10),hp9⟩).cast (by(rw[s2];rw[s3]at *;simp_all[ZJ,Zn];omega))
            ·have hp10:Qr (iF B r i Qm):=by
              exact⟨(X9 (Int.not_lt.1 q10)),hp9⟩
             by_cases q11:(Qg.Ua (r.Qb.getD i.toNat La):Int)<(Qg.VW (r.Qb.getD i.toNat La))
             ·have s2:=XN (ps:=r.Qb) q0;exact(GoE.endsT okF hJ Qf Xs (Hg B r i Qm)
               ⟨(Xd q11),hp10⟩).cast (by(rw[s2];rw[s3]at *;simp_all[ZJ,Zn];omega))
             ·have hp11:Qr (iE B r i Qm):=by
               exact⟨(X9 (Int.not_lt.1 q11)),hp10⟩
              cases q12:UI (Qg.VF (r.Qb.getD i.toNat La)) 0 1000000 with
              |true=>
               have s2:=XN (ps:=r.Qb) q0;exact((ih0 _ (by omega)) (i+1) rfl (by omega)
                (Xs.landM okF hJ Qf (Hf B r i Qm)
                ⟨(QY (by omega) (by omega)),⟨⟨trivial,(by have t_:=qU (Qg.VF (r.Qb.getD i.toNat La)) (0) (1000000);rw[q12]at t_;exact t_)⟩,hp11⟩⟩ (by kernel_rfl) (by kernel_rfl))).cast (by(rw[s2];rw[s3]at *;simp_all[ZJ,Zn];done))
              |false=>
               have s2:=XN (ps:=r.Qb) q0;exact(GoE.endsT okF hJ Qf Xs (He B r i Qm)
                ⟨⟨trivial,(by have t_:=qU (Qg.VF (r.Qb.getD i.toNat La)) (0) (1000000);rw[q12]at t_;exact t_)⟩,hp11⟩).cast (by(rw[s2];rw[s3]at *;simp_all[ZJ,Zn];done))
           |false=>
            have s2:=XN (ps:=r.Qb) q0;exact(GoE.endsT okF hJ Qf Xs (Hd B r i Qm)
             ⟨⟨trivial,(by have t_:=qY (Qg.VV (r.Qb.getD i.toNat La)) (Qg.VW (r.Qb.getD i.toNat La)) (1000000);rw[q9]at t_;exact t_)⟩,hp8⟩).cast (by(rw[s2];rw[s3]at *;simp_all[ZJ,Zn];done))
          |false=>
           have s2:=XN (ps:=r.Qb) q0;exact(GoE.endsT okF hJ Qf Xs (Hc B r i Qm)
            ⟨⟨trivial,(by have t_:=qY (Qg.VZ (r.Qb.getD i.toNat La)) (Qg.Ua (r.Qb.getD i.toNat La)) (1000000);rw[q8]at t_;exact t_)⟩,hp7⟩).cast (by(rw[s2];rw[s3]at *;simp_all[ZJ,Zn];done))
        |false=>
         have s2:=XN (ps:=r.Qb) q0;exact(GoE.endsT okF hJ Qf Xs (Ha B r i Qm)
          ⟨⟨trivial,(by have t_:=qU (Qg.Zq (r.Qb.getD i.toNat La)) (-1) ((↑r.Qb.length:Int)-1);rw[q6]at t_;exact t_)⟩,hp5⟩).cast (by(rw[s2];rw[s3]at *;simp_all[ZJ,Zn];done))
       |false=>
        have s2:=XN (ps:=r.Qb) q0;exact(GoE.endsT okF hJ Qf Xs (GZ B r i Qm)
         ⟨⟨trivial,(by have t_:=qU (Qg.Xh (r.Qb.getD i.toNat La)) (0) (1000);rw[q5]at t_;exact t_)⟩,T5⟩).cast (by(rw[s2];rw[s3]at *;simp_all[ZJ,Zn];done))
      |false=>
       have s2:=XN (ps:=r.Qb) q0;exact(GoE.endsT okF hJ Qf Xs (GY B r i Qm)
        ⟨⟨trivial,(by have t_:=qY (Qg.Ys (r.Qb.getD i.toNat La)) (Qg.Yt (r.Qb.getD i.toNat La)) (2000);rw[q4]at t_;exact t_)⟩,hp3⟩).cast (by(rw[s2];rw[s3]at *;simp_all[ZJ,Zn];done))
     |false=>
      have s2:=XN (ps:=r.Qb) q0;exact(GoE.endsT okF hJ Qf Xs (E6 B r i Qm)
       ⟨⟨trivial,(by have t_:=qU (Qg.goal (r.Qb.getD i.toNat La)) (0) (1000000);rw[q3]at t_;exact t_)⟩,Pb⟩).cast (by(rw[s2];rw[s3]at *;simp_all[ZJ,Zn];done))
    |false=>
     have s2:=XN (ps:=r.Qb) q0;exact(GoE.endsT okF hJ Qf Xs (E5 B r i Qm)
      ⟨⟨trivial,(by have t_:=qU (Qg.room (r.Qb.getD i.toNat La)) (0) (1000000);rw[q2]at t_;exact t_)⟩,UP⟩).cast (by(rw[s2];rw[s3]at *;simp_all[ZJ,Zn];done))
   |false=>
    have s2:=XN (ps:=r.Qb) q0;exact(GoE.endsT okF hJ Qf Xs (E4 B r i Qm)
     ⟨⟨trivial,(by have t_:=qU (Qg.count (r.Qb.getD i.toNat La)) (0) (1000000);rw[q1]at t_;exact t_)⟩,Vw⟩).cast (by(rw[s2];rw[s3]at *;simp_all[ZJ,Zn];done))
  ·have hp12:Qr (iD B r i Qm):=by
    exact⟨(X9 (Int.not_lt.1 q0)),trivial⟩
   cases q1:UI (↑r.Qb.length:Int) 1 4 with
   |true=>
    have hp13:Qr (iC B r i Qm):=by
     exact⟨⟨trivial,(by have t_:=qU ((↑r.Qb.length:Int)) (1) (4);rw[q1]at t_;exact t_)⟩,hp12⟩
    cases q2:UI r.Qc 0 2000 with
    |true=>
     have hp14:Qr (iB B r i Qm):=by
      exact⟨⟨trivial,(by have t_:=qU r.Qc (0) (2000);rw[q2]at t_;exact t_)⟩,hp13⟩
     cases q3:UI r.Qd 1 4 with
     |true=>
      have s2:=YV (ps:=r.Qb) (i:=i) (by omega);exact(GoE.endsT okF hJ Qf Xs (E3 B r i Qm)
       ⟨⟨trivial,(by have t_:=qU r.Qd (1) (4);rw[q3]at t_;exact t_)⟩,hp14⟩).cast (by(rw[s2];simp_all[PQ];done))
     |false=>
      have s2:=YV (ps:=r.Qb) (i:=i) (by omega);exact(GoE.endsT okF hJ Qf Xs (E2 B r i Qm)
       ⟨⟨trivial,(by have t_:=qU r.Qd (1) (4);rw[q3]at t_;exact t_)⟩,hp14⟩).cast (by(rw[s2];simp_all[PQ];done))
    |false=>
     have s2:=YV (ps:=r.Qb) (i:=i) (by omega);exact(GoE.endsT okF hJ Qf Xs (E1 B r i Qm)
      ⟨⟨trivial,(by have t_:=qU r.Qc (0) (2000);rw[q2]at t_;exact t_)⟩,hp13⟩).cast (by(rw[s2];simp_all[PQ];done))
   |false=>
    have s2:=YV (ps:=r.Qb) (i:=i) (by omega);exact(GoE.endsT okF hJ Qf Xs (E0 B r i Qm)
     ⟨⟨trivial,(by have t_:=qU ((↑r.Qb.length:Int)) (1) (4);rw[q1]at t_;exact t_)⟩,hp12⟩).cast (by(rw[s2];simp_all[PQ];done))
set_option maxHeartbeats 4000000 in
theorem Nt(r:Ql)  (X2:r.Qb.length<=9223372036854775807){B:Lo}(hJ:∀w,B.has w->J0 w):EndsT YP B (Qp YP 20 111 (([.agg (Qv r).toArray]).map (Q2 0 4))) (.bool (QL r)):=by
 exact((Hj r X2 hJ _) (0) rfl (by omega)
  (GoE.start.landM okF hJ Qf (Ez B r)
  trivial (by kernel_rfl) (by kernel_rfl))).cast (by(simp only[QL];rw[Bool.and_comm];done))
theorem O3(r:Ql)  :Qn YP J0 20 #[.agg (Qv r).toArray] (.bool (QL r)):=
 Vd (ts:=[.agg (Qv r).toArray]) (r.Qb.length<=9223372036854775807) (fun _ _ ht=>ht.ln2 (i:=0) (j:=0) rfl rfl) XZ (c0:=Qp YP 20 111 (([.agg (Qv r).toArray]).map (Q2 0 4))) (by kernel_rfl) (by kernel_rfl) fun X2 B hJ=>Nt r  X2 hJ
end
end Go.Proofs.Ytncjjangllkokaa

namespace Go.Proofs.Ytncjjangllkokaa
open Go Go.CE Go.RowKit
noncomputable section
set_option maxRecDepth 100000
theorem Qag:((VJ 0:Nat):Int)=1:=rfl
theorem ET{i:Int}(h:0<=i):((VJ (i+1):Nat):Int)=2*((VJ i:Nat):Int):=by
 unfold VJ;rw[show(i+1).toNat=i.toNat+1 by omega,Nat.pow_succ];omega
def hasB(n k:Int):Bool:=n.toNat.testBit k.toNat
theorem Mq{n k:Int}(hn:0<=n)(hk:1<=k):hasB n k=hasB (n / 2) (k-1):=by
 unfold hasB;obtain⟨j,hj⟩:∃j,k.toNat=j+1:=⟨k.toNat-1,by omega⟩
 rw[hj,show(k-1).toNat=j by omega,Nat.testBit_succ,show(n / 2).toNat=n.toNat / 2 by omega]
theorem Qbk{n:Int}(hn:0<=n):hasB n 0=decide (n % 2=1):=by
 unfold hasB;rw[show(0:Int).toNat=0 from rfl,Nat.testBit_zero];exact decide_eq_decide.2 (by omega)
theorem sF{n k:Int}:decide (((uG ((ej n k:Nat):Int) 1:Nat):Int)=1)=hasB n k:=by
 unfold hasB uG ej;rw[Int.toNat_natCast,show(1:Int).toNat=1 from rfl,Nat.and_one_is_mod,Nat.shiftRight_eq_div_pow,Nat.testBit_eq_decide_div_mod_eq];exact decide_eq_decide.2 (by omega)
def QF(r:Ql)(Qa:List Int):List Value:=[KJ r.Qb,YI r.Qc,YI r.Qd,YI (Qa.getD 0 0),YI (Qa.getD 1 0),YI (Qa.getD 2 0),YI (Qa.getD 3 0)]
theorem XU{r:Ql}{Qa:List Int}(h:Xo r Qa=true):Qa.length=r.Qd/\∀x∈Qa,0<=x/\x<VJ r.Qb.length:=by
 simp only[Xo,YB,decide_eq_true_iff,List.all_eq_true,RY]at h;exact⟨h.1,fun x hx=>by have:=h.2 x hx;omega⟩
section
variable (B:Lo)(c0:CF)(r:Ql)(s i:Int)(Qm:Nat->Value)
def aV(r:Ql)(s i:Int):List Value:=[pA 2 0,YI s,YI i]
def Js(s i:Int):List Obj:=[Obj.cells #[Qw 1 (QC r.Qb.length (Qe Qi r.Qb)),YI r.Qc,YI r.Qd] 24]
def aW:List Item:=([.code [1,1,0,1,0,0],.inLoop [1,1,0,1,0,0],.inBlock 0,.code [1,1,1]]).map (it (QG YP 69))
def GW:Prop:=∃dJ:Nat->Value,(∀t,Xi (dJ t))/\GoE YP B c0 XW 1 (QA 69 15 (([1,3,4]:List Nat).zip (aV r s i)) dJ aW) (Q9 (Js r s i)) (2+(Js r s i).length) []
theorem GU:landM (Qo YP (Q1 YP) J0 B 11 1 (QA 69 15 (([1,3,4]:List Nat).zip (aV r s i)) Qm aW) (Q9 (Js r s i)) (2+(Js r s i).length)
 [(4,Z5),(6,Wy (2*s)),(9,Wy (i+1))] 0 [] []) [1,3,4] [(2,KS.auto)] []=some ⟨69,15,aW,[],.run,none,aV r (2*s) (i+1),Js r (2*s) (i+1),
 [wq (i+1)=i+1,wq (2*s)=2*s,XC i (↑r.Qb.length:Int)=true]⟩:=by kernel_rfl
theorem GS:QO (Qo YP (Q1 YP) J0 B 9 1 (QA 69 15 (([1,3,4]:List Nat).zip (aV r s i)) Qm aW) (Q9 (Js r s i)) (2+(Js r s i).length)
 [(4,ZW)] 0 [] []) []=some (YI s,
 [XC i (↑r.Qb.length:Int)=false]):=by kernel_rfl
theorem GR:landM (Qo YP (Q1 YP) J0 B 9 1 (Qp YP 69 15 (([.agg (Qv r).toArray]).map (Q2 0 4))) XW 1
 [] 0 [] []) [1,3,4] [(1,KS.auto)] []=some ⟨69,15,aW,[],.run,none,aV r (1) (0),Js r (1) (0),
 []⟩:=by kernel_rfl
end
set_option maxHeartbeats 4000000 in
theorem GV(r:Ql)(hn:r.Qb.length<=61){B:Lo}(hJ:∀w,B.has w->J0 w){c0:CF}:∀m:Nat,(∀(s i:Int),r.Qb.length-i.toNat=m->∀(h0:0<=i) (h1:i<=r.Qb.length) (hs:s=((VJ i:Nat):Int)),GW B c0 r s i->EndsT YP B c0 (YI ((VJ r.Qb.length:Nat):Int))):=by
 intro m0;induction m0 using Lz with
 |_ m0 ih0=>
  intro s i YA h0 h1 hs ⟨Qm,ZF,Xs⟩;have e1:=TU (n:=i) (by omega);have e2:=ET (i:=i) h0;by_cases q0:(i:Int)<((↑r.Qb.length:Int))
  ·have e3:=TU (n:=i+1) (by omega);exact((ih0 _ (by omega)) (2*s) (i+1) rfl (by omega) (by omega) (by omega)
    (Xs.landM okF hJ Qf (GU B r s i Qm)
    ⟨(QY (by omega) (by omega)),⟨(QY (by omega) (by omega)),⟨(Xd q0),trivial⟩⟩⟩ (by kernel_rfl) (by kernel_rfl))).cast (by rfl)
  ·have e3:=TU (n:=i+1) (by omega);exact(GoE.endsT okF hJ Qf Xs (GS B r s i Qm)
    ⟨(X9 (Int.not_lt.1 q0)),trivial⟩).cast (by(rw[hs,show i=r.Qb.length by omega];done))
set_option maxHeartbeats 4000000 in
theorem Ns(r:Ql)(hn:r.Qb.length<=61){B:Lo}(hJ:∀w,B.has w->J0 w):EndsT YP B (Qp YP 69 15 (([.agg (Qv r).toArray]).map (Q2 0 4))) (YI ((VJ r.Qb.length:Nat):Int)):=by
 exact((GV r hn hJ _) (1) (0) rfl (by omega) (by omega) (by exact Qag.symm)
  (GoE.start.landM okF hJ Qf (GR B r)
  trivial (by kernel_rfl) (by kernel_rfl))).cast (by rfl)
theorem QaO(r:Ql)(hn:r.Qb.length<=61):Qn YP J0 69 #[.agg (Qv r).toArray] (YI ((VJ r.Qb.length:Nat):Int)):=
 Xb (ts:=[.agg (Qv r).toArray]) XZ (c0:=Qp YP 69 15 (([.agg (Qv r).toArray]).map (Q2 0 4))) (by kernel_rfl) (by kernel_rfl) fun B hJ=>Ns r hn hJ
section
variable (B:Lo)(c0:CF)(r:Ql)(Qa:List Int)(i:Int)(Qm:Nat->Value)
def PW(r:Ql)(Qa:List Int)(i:Int):List Value:=[Qw 1 (QC Qa.length (Qe Q5 Qa)),pA 2 0,YI i]
def VH(Qa:List Int)(i:Int):List Obj:=[Obj.cells #[Qw 1 (QC r.Qb.length (Qe Qi r.Qb)),YI r.Qc,YI r.Qd] 24]
def PX:List Item:=([.code [1,0,1,0,0],.inLoop [1,0,1,0,0],.inBlock 0,.code [1,1]]).map (it (QG YP 41))
def Hr:Prop:=∃dJ:Nat->Value,(∀t,Xi (dJ t))/\GoE YP B c0 XW 1 (QA 41 26 (([1,2,5]:List Nat).zip (PW r Qa i)) dJ PX) (Q9 (VH r Qa i)) (2+(VH r Qa i).length) []
def wg:Array Value:=#[YI (Qa.getD i.toNat La),YI 0,YI ((↑(VJ (↑r.Qb.length:Int)):Int)-1)]
def we:Value:=(YI (↑(VJ (↑r.Qb.length:Int)):Int))
def mR(B:Lo)(r:Ql)(Qa:List Int)(i:Int)(Qm:Nat->Value):List Prop:=let a:=Lc r.Qb;[wq ((↑(VJ (↑a:Int)):Int)-1)=(↑(VJ (↑a:Int)):Int)-1,Qr []/\Qn YP J0 69 #[.agg #[QC a (Qe Qi r.Qb),YI r.Qc,YI r.Qd]] (we r),Kl i Qa.length (Qe Q5 Qa) Try.t3.size #[YI (Qa.getD i.toNat La)],XC i (↑Qa.length:Int)=true]++([]:List Prop)
def wi(Qm:Nat->Value):Q7:=[(3,Z5),(6,Qh.tidx i.toNat #[YI (Qa.getD i.toNat La)]),(9,Qh.pure (we r) []),(10,Wy ((↑(VJ (↑r.Qb.length:Int)):Int)-1))]
theorem Hp:landM (Qo YP (Q1 YP) J0 B 14 1 (QA 41 26 (([1,2,5]:List Nat).zip (PW r Qa i)) Qm PX) (Q9 (VH r Qa i)) (2+(VH r Qa i).length)
 (wi r Qa i Qm++[(11,Qh.pure (.bool true) []),(14,Wy (i+1))]) 0 [] []) [1,2,5] [(2,KS.auto)] []=some ⟨41,26,PX,[],.run,none,PW r Qa (i+1),VH r Qa (i+1),
 [wq (i+1)=i+1,Qr []/\Qn YP J0 55 (wg r Qa i) (.bool true)]++mR B r Qa i Qm⟩:=by kernel_rfl
theorem Ho:QO (Qo YP (Q1 YP) J0 B 14 1 (QA 41 26 (([1,2,5]:List Nat).zip (PW r Qa i)) Qm PX) (Q9 (VH r Qa i)) (2+(VH r Qa i).length)
 (wi r Qa i Qm++[(11,Qh.pure (.bool false) [])]) 0 [] []) []=some (.bool false,
 [Qr []/\Qn YP J0 55 (wg r Qa i) (.bool false)]++mR B r Qa i Qm):=by kernel_rfl
def mQ(B:Lo)(r:Ql)(Qa:List Int)(i:Int)(Qm:Nat->Value):List Prop:=[XC i (↑Qa.length:Int)=false]++([]:List Prop)
def wh(r:Ql)(Qa:List Int)(i:Int)(Qm:Nat->Value):Q7:=[(3,ZW)]
theorem Hn:QO (Qo YP (Q1 YP) J0 B 9 1 (QA 41 26 (([1,2,5]:List Nat).zip (PW r Qa i)) Qm PX) (Q9 (VH r Qa i)) (2+(VH r Qa i).length)
 (wh r Qa i Qm++[(8,Z5)]) 0 [] []) []=some (.bool true,
 [Yo (↑Qa.length:Int) r.Qd=true]++mQ B r Qa i Qm):=by kernel_rfl
theorem Hm:QO (Qo YP (Q1 YP) J0 B 9 1 (QA 41 26 (([1,2,5]:List Nat).zip (PW r Qa i)) Qm PX) (Q9 (VH r Qa i)) (2+(VH r Qa i).length)
 (wh r Qa i Qm++[(8,ZW)]) 0 [] []) []=some (.bool false,
 [Yo (↑Qa.length:Int) r.Qd=false]++mQ B r Qa i Qm):=by kernel_rfl
theorem Hl:landM (Qo YP (Q1 YP) J0 B 7 1 (Qp YP 41 26 (([.agg (Qv r).toArray,XH Qa]).map (Q2 0 4))) XW 1
 [] 0 [] []) [1,2,5] [(1,KS.auto)] []=some ⟨41,26,PX,[],.run,none,PW r Qa (0),VH r Qa (0),
 []⟩:=by kernel_rfl
end
set_option maxHeartbeats 4000000 in
theorem Hq(r:Ql)(Qa:List Int)(hn:r.Qb.length<=61)(X2:Qa.length<=9223372036854775807){B:Lo}(hJ:∀w,B.has w->J0 w){c0:CF}:∀m:Nat,(∀(i:Int),Qa.length-i.toNat=m->∀(h0:0<=i),Hr B c0 r Qa i->EndsT YP B c0 (.bool ((Qa.drop i.toNat).all (fun x=>UI x 0 (((VJ r.Qb.length:Nat):Int)-1)) && decide (Qa.length=r.Qd)))):=by
 intro m0;induction m0 using Lz with
 |_ m0 ih0=>
  intro i YA h0 ⟨Qm,ZF,Xs⟩;have e1:=TU (n:=r.Qb.length) (by omega);have e1:=TU (n:=r.Qb.length) (by omega);by_cases q0:(i:Int)<((↑Qa.length:Int))
  ·have Vw:Qr (mR B r Qa i Qm):=by
    have s2:=iZ (l:=Qa) (p:=fun x=>UI x 0 (((VJ r.Qb.length:Nat):Int)-1)) h0 q0;exact⟨(QY (by omega) (by omega)),⟨⟨trivial,QaO (r) (by with_reducible assumption)⟩,⟨⟨by omega,by omega,(Qs (z:=1) (fun _=>rfl) (by omega))⟩,⟨(Xd q0),trivial⟩⟩⟩⟩
   cases q1:UI (Qa.getD i.toNat La) 0 ((↑(VJ (↑r.Qb.length:Int)):Int)-1)with
   |true=>
    have s2:=iZ (l:=Qa) (p:=fun x=>UI x 0 (((VJ r.Qb.length:Nat):Int)-1)) h0 q0;exact((ih0 _ (by omega)) (i+1) rfl (by omega)
     (Xs.landM okF hJ Qf (Hp B r Qa i Qm)
     ⟨(QY (by omega) (by omega)),⟨⟨trivial,(by have t_:=qU (Qa.getD i.toNat La) (0) ((↑(VJ (↑r.Qb.length:Int)):Int)-1);rw[q1]at t_;exact t_)⟩,Vw⟩⟩ (by kernel_rfl) (by kernel_rfl))).cast (by(rw[s2];simp_all;done))
   |false=>
    have s2:=iZ (l:=Qa) (p:=fun x=>UI x 0 (((VJ r.Qb.length:Nat):Int)-1)) h0 q0;exact(GoE.endsT okF hJ Qf Xs (Ho B r Qa i Qm)
     ⟨⟨trivial,(by have t_:=qU (Qa.getD i.toNat La) (0) ((↑(VJ (↑r.Qb.length:Int)):Int)-1);rw[q1]at t_;exact t_)⟩,Vw⟩).cast (by(rw[s2];simp_all;done))
  ·have UP:Qr (mQ B r Qa i Qm):=by
    exact⟨(X9 (Int.not_lt.1 q0)),trivial⟩
   by_cases q1:((↑Qa.length:Int):Int)=r.Qd
   ·have s2:=sq (l:=Qa) (p:=fun x=>UI x 0 (((VJ r.Qb.length:Nat):Int)-1)) (i:=i) (by omega);exact(GoE.endsT okF hJ Qf Xs (Hn B r Qa i Qm)
     ⟨(bY q1),UP⟩).cast (by(rw[s2];simp[*];done))
   ·have s2:=sq (l:=Qa) (p:=fun x=>UI x 0 (((VJ r.Qb.length:Nat):Int)-1)) (i:=i) (by omega);exact(GoE.endsT okF hJ Qf Xs (Hm B r Qa i Qm)
     ⟨(bZ q1),UP⟩).cast (by(rw[s2];simp[*];done))
set_option maxHeartbeats 4000000 in
theorem Nu(r:Ql)(Qa:List Int)(hn:r.Qb.length<=61)(X2:Qa.length<=9223372036854775807){B:Lo}(hJ:∀w,B.has w->J0 w):EndsT YP B (Qp YP 41 26 (([.agg (Qv r).toArray,XH Qa]).map (Q2 0 4))) (.bool (Xo r Qa)):=by
 have e1:=TU (n:=r.Qb.length) (by omega);exact((Hq r Qa hn X2 hJ _) (0) rfl (by omega)
  (GoE.start.landM okF hJ Qf (Hl B r Qa)
  trivial (by kernel_rfl) (by kernel_rfl))).cast (by(simp[Xo,Bool.and_comm];done))
theorem O4(r:Ql)(Qa:List Int)(hn:r.Qb.length<=61):Qn YP J0 41 #[.agg (Qv r).toArray,XH Qa] (.bool (Xo r Qa)):=
 Vd (ts:=[.agg (Qv r).toArray,XH Qa]) (Qa.length<=9223372036854775807) (fun _ _ ht=>ht.ln (i:=1) rfl) XZ (c0:=Qp YP 41 26 (([.agg (Qv r).toArray,XH Qa]).map (Q2 0 4))) (by kernel_rfl) (by kernel_rfl) fun X2 B hJ=>Nu r Qa hn X2 hJ
section
variable (B:Lo)(c0:CF)(n k x i:Int)(Qm:Nat->Value)
def cw(n k:Int)(x i:Int):List Value:=[YI x,YI k,YI i]
def Jm(n k:Int)(x i:Int):List Obj:=[]
def cx:List Item:=([.code [1,0,1,0,0],.inLoop [1,0,1,0,0],.inBlock 0,.code [1,1]]).map (it (QG YP 47))
def N1:Prop:=∃dJ:Nat->Value,(∀t,Xi (dJ t))/\GoE YP B c0 XW 1 (QA 47 16 (([0,1,5]:List Nat).zip (cw n k x i)) dJ cx) (Q9 (Jm n k x i)) (2+(Jm n k x i).length) []
theorem Nz(B:Lo)(n k:Int)(x i:Int)(Qm:Nat->Value):let a:=Le x 2;landM (Qo YP (Q1 YP) J0 B 11 1 (QA 47 16 (([0,1,5]:List Nat).zip (cw n k x i)) Qm cx) (Q9 (Jm n k x i)) (2+(Jm n k x i).length)
 [(2,Z5),(4,Wy a),(7,Wy (i+1))] 0 [] []) [0,1,5] [] []=some ⟨47,16,cx,[],.run,none,cw n k a (i+1),Jm n k a (i+1),
 [wq (i+1)=i+1,IntKind.wrap .i64 a=Le x 2,XC i k=true]⟩:=by intro a;kernel_rfl
def sM(B:Lo)(n k:Int)(x i:Int)(Qm:Nat->Value):List Prop:=[XC i k=false]++([]:List Prop)
def DA(n k:Int)(x i:Int)(Qm:Nat->Value):Q7:=[(2,ZW)]
theorem Ny:QO (Qo YP (Q1 YP) J0 B 9 1 (QA 47 16 (([0,1,5]:List Nat).zip (cw n k x i)) Qm cx) (Q9 (Jm n k x i)) (2+(Jm n k x i).length)
 (DA n k x i Qm++[(5,Z5)]) 0 [] []) []=some (.bool true,
 [Yo (Int.tmod x 2) 1=true]++sM B n k x i Qm):=by kernel_rfl
theorem Nx:QO (Qo YP (Q1 YP) J0 B 9 1 (QA 47 16 (([0,1,5]:List Nat).zip (cw n k x i)) Qm cx) (Q9 (Jm n k x i)) (2+(Jm n k x i).length)
 (DA n k x i Qm++[(5,ZW)]) 0 [] []) []=some (.bool false,
 [Yo (Int.tmod x 2) 1=false]++sM B n k x i Qm):=by kernel_rfl
theorem Nw:landM (Qo YP (Q1 YP) J0 B 7 1 (Qp YP 47 16 (([YI n,YI k]).map (Q2 0 4))) XW 1
 [] 0 [] []) [0,1,5] [] []=some ⟨47,16,cx,[],.run,none,cw n k (n) (0),Jm n k (n) (0),
 []⟩:=by kernel_rfl
end
set_option maxHeartbeats 4000000 in
theorem N0(n k:Int)(hn:0<=n/\n<=1000000000)(hk:0<=k/\k<=1000000000){B:Lo}(hJ:∀w,B.has w->J0 w){c0:CF}:∀m:Nat,(∀(x i:Int),(k-i).toNat=m->∀(h0:0<=i) (h1:i<=k) (h2:0<=x/\x<=1000000000) (hx:hasB x (k-i)=hasB n k),N1 B c0 n k x i->EndsT YP B c0 (.bool (hasB n k))):=by
 intro m0;induction m0 using Lz with
 |_ m0 ih0=>
  intro x i YA h0 h1 h2 hx ⟨Qm,ZF,Xs⟩;have e1:x.tdiv 2=x / 2:=LO h2.1;have e2:x.tmod 2=x % 2:=Int.tmod_eq_emod_of_nonneg h2.1;have e4:=Qbk (n:=x) h2.1;by_cases q0:(i:Int)<(k)
  ·have e3:=Mq (n:=x) (k:=k-i) h2.1 (by omega);exact((ih0 _ (by omega)) (Le x 2) (i+1) rfl (by omega) (by omega) (by omega) (by(rw[<-hx,e3,e1,show k-(i+1)=k-i-1 by omega];done))
    (Xs.landM okF hJ Qf (Nz B n k x i Qm)
    ⟨(QY (by omega) (by omega)),⟨(cg (by omega) (by omega)),⟨(Xd q0),trivial⟩⟩⟩ (by kernel_rfl) (by kernel_rfl))).cast (by rfl)
  ·have Vw:Qr (sM B n k x i Qm):=by
    exact⟨(X9 (Int.not_lt.1 q0)),trivial⟩
   by_cases q1:(Int.tmod x 2:Int)=(1)
   ·exact(GoE.endsT okF hJ Qf Xs (Ny B n k x i Qm)
     ⟨(bY q1),Vw⟩).cast (by(rw[<-hx,show k-i=0 by omega,e4];simp[*];omega))
   ·exact(GoE.endsT okF hJ Qf Xs (Nx B n k x i Qm)
     ⟨(bZ q1),Vw⟩).cast (by(rw[<-hx,show k-i=0 by omega,e4];simp[*];omega))
set_option maxHeartbeats 4000000 in
theorem OW(n k:Int)(hn:0<=n/\n<=1000000000)(hk:0<=k/\k<=1000000000){B:Lo}(hJ:∀w,B.has w->J0 w):EndsT YP B (Qp YP 47 16 (([YI n,YI k]).map (Q2 0 4))) (.bool (hasB n k)):=by
 exact((N0 n k hn hk hJ _) (n) (0) rfl (by omega) (by omega) (by with_reducible assumption) (by(simp_all;done))
  (GoE.start.landM okF hJ Qf (Nw B n k)
  trivial (by kernel_rfl) (by kernel_rfl))).cast (by rfl)
theorem Pr(n k:Int)(hn:0<=n/\n<=1000000000)(hk:0<=k/\k<=1000000000):Qn YP J0 47 #[YI n,YI k] (.bool (hasB n k)):=
 Xb (ts:=[YI n,YI k]) XZ (c0:=Qp YP 47 16 (([YI n,YI k]).map (Q2 0 4))) (by kernel_rfl) (by kernel_rfl) fun B hJ=>OW n k hn hk hJ
section
variable (B:Lo)(r:Ql)(Qa:List Int)
def nF:Array Value:=#[QC Qa.length (Qe Q5 Qa),YI 0,YI ((↑(VJ (↑r.Qb.length:Int)):Int)-1)]
def nE:Value:=(YI (↑(VJ (↑r.Qb.length:Int)):Int))
def eK(B:Lo)(r:Ql)(Qa:List Int):List Prop:=let a:=Lc r.Qb;[wq ((↑(VJ (↑a:Int)):Int)-1)=(↑(VJ (↑a:Int)):Int)-1,qD YP BinOp.shl 3 (YI 1) (Zc {len:=16000,tr:=Tri.set 14 Tri.lf 14 (YI (↑a:Int))} 14) (nE r),Yo (↑Qa.length:Int) r.Qd=true]++([]:List Prop)
def nG(Qa:List Int):Q7:=[(6,Z5),(12,Qh.bin (nE r)),(13,Wy ((↑(VJ (↑r.Qb.length:Int)):Int)-1))]
theorem BP:QO (Qo YP (Q1 YP) J0 B 6 1 (Qp YP 51 19 (([.agg (Qv r).toArray,XH Qa]).map (Q2 0 4))) XW 1
 (nG r Qa++[(14,Qh.pure (.bool true) [])]) 0 [] []) []=some (.bool true,
 [Qr []/\Qn YP J0 74 (nF r Qa) (.bool true)]++eK B r Qa):=by kernel_rfl
theorem BO:QO (Qo YP (Q1 YP) J0 B 6 1 (Qp YP 51 19 (([.agg (Qv r).toArray,XH Qa]).map (Q2 0 4))) XW 1
 (nG r Qa++[(14,Qh.pure (.bool false) [])]) 0 [] []) []=some (.bool false,
 [Qr []/\Qn YP J0 74 (nF r Qa) (.bool false)]++eK B r Qa):=by kernel_rfl
theorem BN:QO (Qo YP (Q1 YP) J0 B 6 1 (Qp YP 51 19 (([.agg (Qv r).toArray,XH Qa]).map (Q2 0 4))) XW 1
 [(6,ZW)] 0 [] []) []=some (.bool false,
 [Yo (↑Qa.length:Int) r.Qd=false]):=by kernel_rfl
end
set_option maxHeartbeats 4000000 in
theorem Fc(r:Ql)(Qa:List Int)(hn:r.Qb.length<=61)(X2:Qa.length<=9223372036854775807){B:Lo}(hJ:∀w,B.has w->J0 w):EndsT YP B (Qp YP 51 19 (([.agg (Qv r).toArray,XH Qa]).map (Q2 0 4))) (.bool (Xo r Qa)):=by
 have e1:=TU (n:=r.Qb.length) (by omega);by_cases q0:((↑Qa.length:Int):Int)=r.Qd
 ·have Vw:Qr (eK B r Qa):=by
   exact⟨(QY (by omega) (by omega)),⟨(MP (by omega) (by omega)),⟨(bY q0),trivial⟩⟩⟩
  cases q1:List.all Qa fun x=>UI x 0 ((↑(VJ (↑r.Qb.length:Int)):Int)-1)with
  |true=>
   exact(GoE.endsT okF hJ Qf GoE.start (BP B r Qa)
    ⟨⟨trivial,(by have t_:=IW (Qa) (0) ((↑(VJ (↑r.Qb.length:Int)):Int)-1);rw[q1]at t_;exact t_)⟩,Vw⟩).cast (by(simp[Xo, *];done))
  |false=>
   exact(GoE.endsT okF hJ Qf GoE.start (BO B r Qa)
    ⟨⟨trivial,(by have t_:=IW (Qa) (0) ((↑(VJ (↑r.Qb.length:Int)):Int)-1);rw[q1]at t_;exact t_)⟩,Vw⟩).cast (by(simp[Xo, *];done))
 ·exact(GoE.endsT okF hJ Qf GoE.start (BN B r Qa)
   ⟨(bZ q0),trivial⟩).cast (by(simp[Xo, *];done))
theorem cM(r:Ql)(Qa:List Int)(hn:r.Qb.length<=61):Qn YP J0 51 #[.agg (Qv r).toArray,XH Qa] (.bool (Xo r Qa)):=
 Vd (ts:=[.agg (Qv r).toArray,XH Qa]) (Qa.length<=9223372036854775807) (fun _ _ ht=>ht.ln (i:=1) rfl) XZ (c0:=Qp YP 51 19 (([.agg (Qv r).toArray,XH Qa]).map (Q2 0 4))) (by kernel_rfl) (by kernel_rfl) fun X2 B hJ=>Fc r Qa hn X2 hJ
def fX(r:Ql):Value:=(QC r.Qb.length (Qe Qi r.Qb))
def fZ(r:Ql)(Qa:List Int):Array Value:=#[Qw 0 (fX r),YI r.Qc,YI r.Qd,YI (Qa.getD 0 La),YI (Qa.getD 1 La),YI (Qa.getD 2 La),YI (Qa.getD 3 La)]
def fY(r:Ql):Array Value:=#[Qw 0 (fX r),YI r.Qc,YI r.Qd,YI 0,YI 0,YI 0,YI 0]
theorem sO(B:Lo)(r:Ql)(Qa:List Int):let c:=Qe Q5 Qa;let b:=Lc Qa;let a:=Array.map (Wc 0) (Lh c 0 (LU b 4*TypeInfo.size Try.t3));QO (Qo YP (Q1 YP) J0 B 10 1 (Qp YP 52 13 (([.agg (Qv r).toArray,XH Qa]).map (Q2 0 4))) XW 1
 [(9,Qh.tcpy (fZ r Qa))] 0 [] []) []=some (.agg #[QC r.Qb.length (Qe Qi r.Qb),YI r.Qc,YI r.Qd,YI (Qa.getD 0 La),YI (Qa.getD 1 La),YI (Qa.getD 2 La),YI (Qa.getD 3 La)],
 [0<Lc Qa/\3+LU b 4*TypeInfo.size Try.t3<=LG (fY r)/\LU b 4*TypeInfo.size Try.t3<=LG c/\(Array.all c fun v=>simple v || WU v)=true/\ones a=true/\splice (fY r) 3 a=(fZ r Qa)]):=by intro c b a;kernel_rfl
set_option maxHeartbeats 4000000 in
theorem wF(r:Ql)(Qa:List Int)(h0:0<Qa.length)(hl:Qa.length<=4){B:Lo}(hJ:∀w,B.has w->J0 w):EndsT YP B (Qp YP 52 13 (([.agg (Qv r).toArray,XH Qa]).map (Q2 0 4))) (.agg (QF r Qa).toArray):=by
 exact(GoE.endsT okF hJ Qf GoE.start (sO B r Qa)
  ⟨(ig (fun _=>rfl) rfl (by omega) (by omega) rfl (YL rfl) rfl),trivial⟩).cast (by rfl)
theorem iG(r:Ql)(Qa:List Int)(h0:0<Qa.length)(hl:Qa.length<=4):Qn YP J0 52 #[.agg (Qv r).toArray,XH Qa] (.agg (QF r Qa).toArray):=
 Xb (ts:=[.agg (Qv r).toArray,XH Qa]) XZ (c0:=Qp YP 52 13 (([.agg (Qv r).toArray,XH Qa]).map (Q2 0 4))) (by kernel_rfl) (by kernel_rfl) fun B hJ=>wF r Qa h0 hl hJ
theorem FW(B:Lo)(r:Ql):QO (Qo YP (Q1 YP) J0 B 6 1 (Qp YP 15 7 (([.agg (Qv r).toArray]).map (Q2 0 4))) XW 1
 [(5,Z5)] 0 [] []) []=some (.bool true,
 [(!XC 8 (↑r.Qb.length:Int))=true]):=by kernel_rfl
theorem FV(B:Lo)(r:Ql):QO (Qo YP (Q1 YP) J0 B 6 1 (Qp YP 15 7 (([.agg (Qv r).toArray]).map (Q2 0 4))) XW 1
 [(5,ZW)] 0 [] []) []=some (.bool false,
 [(!XC 8 (↑r.Qb.length:Int))=false]):=by kernel_rfl
set_option maxHeartbeats 4000000 in
theorem Mg(r:Ql)  (X2:r.Qb.length<=9223372036854775807){B:Lo}(hJ:∀w,B.has w->J0 w):EndsT YP B (Qp YP 15 7 (([.agg (Qv r).toArray]).map (Q2 0 4))) (.bool (decide (r.Qb.length<=8))):=by
 by_cases q0:((↑r.Qb.length:Int):Int)<=(8)
 ·exact(GoE.endsT okF hJ Qf GoE.start (FW B r)
   ⟨(UX q0),trivial⟩).cast (by(simp_all[];omega))
 ·exact(GoE.endsT okF hJ Qf GoE.start (FV B r)
   ⟨(UY (Int.not_le.1 q0)),trivial⟩).cast (by(simp_all[];omega))
theorem ue(r:Ql)  :Qn YP J0 15 #[.agg (Qv r).toArray] (.bool (decide (r.Qb.length<=8))):=
 Vd (ts:=[.agg (Qv r).toArray]) (r.Qb.length<=9223372036854775807) (fun _ _ ht=>ht.ln2 (i:=0) (j:=0) rfl rfl) XZ (c0:=Qp YP 15 7 (([.agg (Qv r).toArray]).map (Q2 0 4))) (by kernel_rfl) (by kernel_rfl) fun X2 B hJ=>Mg r  X2 hJ
section
variable (B:Lo)(r:Ql)(Qa:List Int)
def cZ:Array Value:=#[QC r.Qb.length (Qe Qi r.Qb),YI r.Qc,YI r.Qd]
def iT(B:Lo)(r:Ql)(Qa:List Int):List Prop:=[Qr []/\Qn YP J0 20 #[.agg (cZ r)] (.bool true)]++([]:List Prop)
def sj(r:Ql)(Qa:List Int):Q7:=[(3,Qh.pure (.bool true) [])]
theorem Ge:QO (Qo YP (Q1 YP) J0 B 6 1 (Qp YP 21 12 (([.agg (Qv r).toArray,XH Qa]).map (Q2 0 4))) XW 1
 (sj r Qa++[(7,Qh.pure (.bool true) [])]) 0 [] []) []=some (.bool true,
 [Qr []/\Qn YP J0 41 #[.agg (cZ r),QC Qa.length (Qe Q5 Qa)] (.bool true)]++iT B r Qa):=by kernel_rfl
theorem Gd:QO (Qo YP (Q1 YP) J0 B 6 1 (Qp YP 21 12 (([.agg (Qv r).toArray,XH Qa]).map (Q2 0 4))) XW 1
 (sj r Qa++[(7,Qh.pure (.bool false) [])]) 0 [] []) []=some (.bool false,
 [Qr []/\Qn YP J0 41 #[.agg (cZ r),QC Qa.length (Qe Q5 Qa)] (.bool false)]++iT B r Qa):=by kernel_rfl
theorem Gb:QO (Qo YP (Q1 YP) J0 B 6 1 (Qp YP 21 12 (([.agg (Qv r).toArray,XH Qa]).map (Q2 0 4))) XW 1
 [(3,Qh.pure (.bool false) [])] 0 [] []) []=some (.bool false,
 [Qr []/\Qn YP J0 20 #[.agg (cZ r)] (.bool false)]):=by kernel_rfl
end
set_option maxHeartbeats 4000000 in
theorem Mj(r:Ql)(Qa:List Int)  {B:Lo}(hJ:∀w,B.has w->J0 w):EndsT YP B (Qp YP 21 12 (([.agg (Qv r).toArray,XH Qa]).map (Q2 0 4))) (.bool (QL r && Xo r Qa)):=by
 cases q0:QL r with
 |true=>
  have Vw:Qr (iT B r Qa):=by
   have ZA:=(Q4 (QR ‹QL r=true›).1).1;exact⟨⟨trivial,(by have t_:=O3 (r);rw[q0]at t_;exact t_)⟩,trivial⟩
  cases q1:Xo r Qa with
  |true=>
   have ZA:=(Q4 (QR ‹QL r=true›).1).1;exact(GoE.endsT okF hJ Qf GoE.start (Ge B r Qa)
    ⟨⟨trivial,(by have t_:=O4 (r) (Qa) (by omega);rw[q1]at t_;exact t_)⟩,Vw⟩).cast (by rfl)
  |false=>
   have ZA:=(Q4 (QR ‹QL r=true›).1).1;exact(GoE.endsT okF hJ Qf GoE.start (Gd B r Qa)
    ⟨⟨trivial,(by have t_:=O4 (r) (Qa) (by omega);rw[q1]at t_;exact t_)⟩,Vw⟩).cast (by rfl)
 |false=>
  exact(GoE.endsT okF hJ Qf GoE.start (Gb B r Qa)
   ⟨⟨trivial,(by have t_:=O3 (r);rw[q0]at t_;exact t_)⟩,trivial⟩).cast (by rfl)
theorem iU(r:Ql)(Qa:List Int)  :Qn YP J0 21 #[.agg (Qv r).toArray,XH Qa] (.bool (QL r && Xo r Qa)):=
 Xb (ts:=[.agg (Qv r).toArray,XH Qa]) XZ (c0:=Qp YP 21 12 (([.agg (Qv r).toArray,XH Qa]).map (Q2 0 4))) (by kernel_rfl) (by kernel_rfl) fun B hJ=>Mj r Qa  hJ
end
end Go.Proofs.Ytncjjangllkokaa

