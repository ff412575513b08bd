/- Reef: small functions, of the program and the reference. -/
import Derived.Test.YtncjjangllkokaaZRS10
set_option linter.all false
open List renaming getD_eq_getElem?_getD->Ly,replicate->Lz,map_append->LZ,append_assoc->LY,length->Ld
open Nat renaming strongRecOn->LB,min->LW
open Int renaming tdiv->Lc,tdiv_eq_ediv_of_nonneg->LP
open Array renaming extract->Lj,size->LA
open Inhabited renaming default->La
namespace Go.Proofs.Ytncjjangllkokaa
open Go Go.CE Go.RowKit
noncomputable section
set_option maxRecDepth 100000
def Kk(x lo hi:Int):Bool:=decide (lo<=x) && decide (x<=hi)
theorem cb{x lo hi:Int}:Kk x lo hi=true<->lo<=x/\x<=hi:=by simp[Kk]
structure Span where
 lo:Int
 hi:Int
deriving Inhabited
def Qk(s:Span):List Value:=[YI s.lo,YI s.hi]
abbrev Sf(xs:List Span):Value:=QH xs.length (Qe Qk xs)
def WB(a b lo hi:Int):Bool:=decide (lo<=a) && (decide (a<=b) && decide (b<=hi))
theorem oR{a b lo hi:Int}:WB a b lo hi=true<->lo<=a/\a<=b/\b<=hi:=by simp[WB]
theorem gQ{α:Type}[Inhabited α]{l:List α}{i:Int}{p:α->Bool}(h0:0<=i)(h:i<l.length):(l.drop i.toNat).all p=(p (l.getD i.toNat La) && (l.drop (i+1).toNat).all p):=by
 obtain⟨k,rfl⟩:∃k:Nat,i=k:=⟨i.toNat,by omega⟩
 have hk:k<l.length:=by omega
 have e1:((k:Int)).toNat=k:=by omega
 have e2:((k:Int)+1).toNat=k+1:=by omega
 rw[e1,e2,List.drop_eq_getElem_cons hk,List.all_cons];simp[Ly,hk]
theorem qj{α:Type}{l:List α}{i:Int}{p:α->Bool}(h:l.length<=i):(l.drop i.toNat).all p=true:=by
 rw[List.drop_eq_nil_of_le (by omega)];rfl
theorem BK{p:Int->Bool}{a b:Int}(h:(UZ a b).all p=true){k:Int}(h1:a<=k)(h2:k<b):p k=true:=by
 refine List.all_eq_true.1 h k ?_;unfold UZ;exact List.mem_map.2 ⟨(k-a).toNat,List.mem_range.2 (by omega),by omega⟩
def RY{α β:Type}(f:α->β)(x0:β)(xs:List α)(i:Int):List β:=(xs.take i.toNat).map f++Lz (xs.length-i.toNat) x0
theorem fW{α β:Type}{f:α->β}{x0:β}{xs:List α}:Lz xs.length x0=RY f x0 xs 0:=by simp[RY]
theorem Tb{α β:Type}{f:α->β}{x0:β}{xs:List α}{i:Int}:(RY f x0 xs i).length=xs.length:=by simp[RY];omega
theorem Ta{α β:Type}[Inhabited α]{f:α->β}{x0:β}{xs:List α}{i:Int}(h0:0<=i)(h:i<xs.length):(RY f x0 xs i).set i.toNat (f (xs.getD i.toNat La))=RY f x0 xs (i+1):=by
 obtain⟨k,rfl⟩:∃k:Nat,i=k:=⟨i.toNat,by omega⟩
 have hk:k<xs.length:=by omega
 have e1:((k:Int)).toNat=k:=by omega
 have e2:((k:Int)+1).toNat=k+1:=by omega
 unfold RY;rw[e1,e2];have hl:((xs.take k).map f).length=k:=by simp;omega
 rw[List.set_append_right _ _ (by omega),hl,Nat.sub_self];have er:xs.length-k=(xs.length-(k+1))+1:=by omega
 rw[er,List.replicate_succ,List.set_cons_zero];have et:xs.take (k+1)=xs.take k++[xs[k]]:=by rw[List.take_succ_eq_append_getElem hk]
 rw[et,LZ,LY];simp[Ly,hk]
theorem Tc{α β:Type}{f:α->β}{x0:β}{xs:List α}{i:Int}(h:xs.length<=i):RY f x0 xs i=xs.map f:=by
 unfold RY;rw[List.take_of_length_le (by omega),show xs.length-i.toNat=0 by omega];simp
theorem dO{β:Type}{e:β->List Value}{ys zs:List β}{n:Nat}(h:ys=zs)(hn:n=zs.length):QH n (Qe e ys)=QH zs.length (Qe e zs):=by subst h hn;rfl
def sW:List Int->Int
 |[]=>0
 |x::l=>x+sW l
def y2(B:Lo)(x lo hi:Int):List Prop:=[(!XA x lo)=true]++([]:List Prop)
def E4(x lo hi:Int):QI:=[(3,ZC)]
theorem Nt(B:Lo)(x lo hi:Int):Xq (Qq YP (Q6 YP) J0 B 6 1 (Qx YP 55 15 (([YI x,YI lo,YI hi]).map (Q7 0 4))) Zb 1
 (E4 x lo hi++[(7,ZC)]) 0 [] []) []=some (.bool true,
 [(!XA hi x)=true]++y2 B x lo hi):=by kernel_rfl
theorem Ns(B:Lo)(x lo hi:Int):Xq (Qq YP (Q6 YP) J0 B 6 1 (Qx YP 55 15 (([YI x,YI lo,YI hi]).map (Q7 0 4))) Zb 1
 (E4 x lo hi++[(7,Wi)]) 0 [] []) []=some (.bool false,
 [(!XA hi x)=false]++y2 B x lo hi):=by kernel_rfl
theorem Nr(B:Lo)(x lo hi:Int):Xq (Qq YP (Q6 YP) J0 B 6 1 (Qx YP 55 15 (([YI x,YI lo,YI hi]).map (Q7 0 4))) Zb 1
 [(3,Wi)] 0 [] []) []=some (.bool false,
 [(!XA x lo)=false]):=by kernel_rfl
set_option maxHeartbeats 4000000 in
theorem Ov(x lo hi:Int)  {B:Lo}(hJ:∀w,B.has w->J0 w):EndsT YP B (Qx YP 55 15 (([YI x,YI lo,YI hi]).map (Q7 0 4))) (.bool (Kk x lo hi)):=by
 by_cases q0:(lo:Int)<=(x)
 ·have Uc:Q3 (y2 B x lo hi):=by
   exact⟨(VS q0),trivial⟩
  by_cases q1:(x:Int)<=(hi)
  ·exact(GoE.endsT okF hJ Qf GoE.start (Nt B x lo hi)
    ⟨(VS q1),Uc⟩).cast (by(simp[Kk, *];done))
  ·exact(GoE.endsT okF hJ Qf GoE.start (Ns B x lo hi)
    ⟨(VT (Int.not_le.1 q1)),Uc⟩).cast (by(simp[Kk, *];done))
 ·exact(GoE.endsT okF hJ Qf GoE.start (Nr B x lo hi)
   ⟨(VT (Int.not_le.1 q0)),trivial⟩).cast (by(simp[Kk, *];done))
theorem oS(x lo hi:Int)  :Qr YP J0 55 #[YI x,YI lo,YI hi] (.bool (Kk x lo hi)):=
 Xi (ts:=[YI x,YI lo,YI hi]) Za (c0:=Qx YP 55 15 (([YI x,YI lo,YI hi]).map (Q7 0 4))) (by kernel_rfl) (by kernel_rfl) fun B hJ=>Ov x lo hi  hJ
section
variable (B:Lo)(a b ZP:Int)
def kO(B:Lo)(a b ZP:Int):List Prop:=[(!XA a 0)=true]++([]:List Prop)
def tv(a b ZP:Int):QI:=[(4,ZC)]
def kN:List Prop:=[(!XA b a)=true]++kO B a b ZP
def tu:QI:=tv a b ZP++[(10,ZC)]
theorem EA:Xq (Qq YP (Q6 YP) J0 B 6 1 (Qx YP 56 21 (([.agg #[YI a,YI b],YI ZP]).map (Q7 0 4))) Zb 1
 (tu a b ZP++[(16,ZC)]) 0 [] []) []=some (.bool true,
 [(!XA ZP b)=true]++kN B a b ZP):=by kernel_rfl
theorem E9:Xq (Qq YP (Q6 YP) J0 B 6 1 (Qx YP 56 21 (([.agg #[YI a,YI b],YI ZP]).map (Q7 0 4))) Zb 1
 (tu a b ZP++[(16,Wi)]) 0 [] []) []=some (.bool false,
 [(!XA ZP b)=false]++kN B a b ZP):=by kernel_rfl
theorem E8:Xq (Qq YP (Q6 YP) J0 B 6 1 (Qx YP 56 21 (([.agg #[YI a,YI b],YI ZP]).map (Q7 0 4))) Zb 1
 (tv a b ZP++[(10,Wi)]) 0 [] []) []=some (.bool false,
 [(!XA b a)=false]++kO B a b ZP):=by kernel_rfl
theorem E7:Xq (Qq YP (Q6 YP) J0 B 6 1 (Qx YP 56 21 (([.agg #[YI a,YI b],YI ZP]).map (Q7 0 4))) Zb 1
 [(4,Wi)] 0 [] []) []=some (.bool false,
 [(!XA a 0)=false]):=by kernel_rfl
end
set_option maxHeartbeats 4000000 in
theorem Iv(a b ZP:Int)  {B:Lo}(hJ:∀w,B.has w->J0 w):EndsT YP B (Qx YP 56 21 (([.agg #[YI a,YI b],YI ZP]).map (Q7 0 4))) (.bool (WB a b 0 ZP)):=by
 by_cases q0:(0:Int)<=(a)
 ·have Uc:Q3 (kO B a b ZP):=by
   exact⟨(VS q0),trivial⟩
  by_cases q1:(a:Int)<=(b)
  ·have Yi:Q3 (kN B a b ZP):=by
    exact⟨(VS q1),Uc⟩
   by_cases q2:(b:Int)<=(ZP)
   ·exact(GoE.endsT okF hJ Qf GoE.start (EA B a b ZP)
     ⟨(VS q2),Yi⟩).cast (by(simp[WB, *];done))
   ·exact(GoE.endsT okF hJ Qf GoE.start (E9 B a b ZP)
     ⟨(VT (Int.not_le.1 q2)),Yi⟩).cast (by(simp[WB, *];done))
  ·exact(GoE.endsT okF hJ Qf GoE.start (E8 B a b ZP)
    ⟨(VT (Int.not_le.1 q1)),Uc⟩).cast (by(simp[WB, *];done))
 ·exact(GoE.endsT okF hJ Qf GoE.start (E7 B a b ZP)
   ⟨(VT (Int.not_le.1 q0)),trivial⟩).cast (by(simp[WB, *];done))
theorem oV(a b ZP:Int)  :Qr YP J0 56 #[.agg #[YI a,YI b],YI ZP] (.bool (WB a b 0 ZP)):=
 Xi (ts:=[.agg #[YI a,YI b],YI ZP]) Za (c0:=Qx YP 56 21 (([.agg #[YI a,YI b],YI ZP]).map (Q7 0 4))) (by kernel_rfl) (by kernel_rfl) fun B hJ=>Iv a b ZP  hJ
def zN(B:Lo)(n lo hi:Int):List Prop:=[(!XA n lo)=true]++([]:List Prop)
def GI(n lo hi:Int):QI:=[(3,ZC)]
theorem ND(B:Lo)(n lo hi:Int):Xq (Qq YP (Q6 YP) J0 B 6 1 (Qx YP 72 15 (([YI n,YI lo,YI hi]).map (Q7 0 4))) Zb 1
 (GI n lo hi++[(7,ZC)]) 0 [] []) []=some (.bool true,
 [(!XA hi n)=true]++zN B n lo hi):=by kernel_rfl
theorem NC(B:Lo)(n lo hi:Int):Xq (Qq YP (Q6 YP) J0 B 6 1 (Qx YP 72 15 (([YI n,YI lo,YI hi]).map (Q7 0 4))) Zb 1
 (GI n lo hi++[(7,Wi)]) 0 [] []) []=some (.bool false,
 [(!XA hi n)=false]++zN B n lo hi):=by kernel_rfl
theorem NB(B:Lo)(n lo hi:Int):Xq (Qq YP (Q6 YP) J0 B 6 1 (Qx YP 72 15 (([YI n,YI lo,YI hi]).map (Q7 0 4))) Zb 1
 [(3,Wi)] 0 [] []) []=some (.bool false,
 [(!XA n lo)=false]):=by kernel_rfl
set_option maxHeartbeats 4000000 in
theorem O7(n lo hi:Int)  {B:Lo}(hJ:∀w,B.has w->J0 w):EndsT YP B (Qx YP 72 15 (([YI n,YI lo,YI hi]).map (Q7 0 4))) (.bool (Kk n lo hi)):=by
 by_cases q0:(lo:Int)<=(n)
 ·have Uc:Q3 (zN B n lo hi):=by
   exact⟨(VS q0),trivial⟩
  by_cases q1:(n:Int)<=(hi)
  ·exact(GoE.endsT okF hJ Qf GoE.start (ND B n lo hi)
    ⟨(VS q1),Uc⟩).cast (by(simp[Kk, *];done))
  ·exact(GoE.endsT okF hJ Qf GoE.start (NC B n lo hi)
    ⟨(VT (Int.not_le.1 q1)),Uc⟩).cast (by(simp[Kk, *];done))
 ·exact(GoE.endsT okF hJ Qf GoE.start (NB B n lo hi)
   ⟨(VT (Int.not_le.1 q0)),trivial⟩).cast (by(simp[Kk, *];done))
theorem yc(n lo hi:Int)  :Qr YP J0 72 #[YI n,YI lo,YI hi] (.bool (Kk n lo hi)):=
 Xi (ts:=[YI n,YI lo,YI hi]) Za (c0:=Qx YP 72 15 (([YI n,YI lo,YI hi]).map (Q7 0 4))) (by kernel_rfl) (by kernel_rfl) fun B hJ=>O7 n lo hi  hJ
section
variable (B:Lo)(c0:CF)(xs:List Int)(lo hi i:Int)(Qp:Nat->Value)
def PA:List Value:=[YI lo,YI hi,Q2 1 (QH xs.length (Qe Q0 xs)),YI (↑xs.length:Int),YI i]
def VL(xs:List Int)(lo hi:Int)(i:Int):List Obj:=[]
def PB:List Item:=([.code [1,0,1,0,0],.inLoop [1,0,1,0,0],.inBlock 0,.code [1,1]]).map (it (QG YP 74))
def D9:Prop:=∃dJ:Nat->Value,(∀t,Xe (dJ t))/\GoE YP B c0 Zb 1 (Q9 74 21 (([1,2,9,10,11]:List Nat).zip (PA xs lo hi i)) dJ PB) (Q8 (VL xs lo hi i)) (2+(VL xs lo hi i).length) []
def pU:Array Value:=#[YI (xs.getD i.toNat La),YI lo,YI hi]
def gJ(B:Lo)(xs:List Int)(lo hi:Int)(i:Int)(Qp:Nat->Value):List Prop:=[Vr i xs.length (Qe Q0 xs) Try.t3.size #[YI (xs.getD i.toNat La)],XA i (↑xs.length:Int)=true]++([]:List Prop)
def pV(lo hi:Int)(i:Int)(Qp:Nat->Value):QI:=[(0,ZC),(1,Qh.tidx i.toNat #[YI (xs.getD i.toNat La)])]
theorem D7:landM (Qq YP (Q6 YP) J0 B 16 1 (Q9 74 21 (([1,2,9,10,11]:List Nat).zip (PA xs lo hi i)) Qp PB) (Q8 (VL xs lo hi i)) (2+(VL xs lo hi i).length)
 (pV xs lo hi i Qp++[(7,Qh.pure (.bool true) []),(9,Z4 (i+1))]) 0 [] []) [1,2,9,10,11] [] []=some ⟨74,21,PB,[],.run,none,PA xs lo hi (i+1),VL xs lo hi (i+1),
 [wq (i+1)=i+1,Q3 []/\Qr YP J0 72 (pU xs lo hi i) (.bool true)]++gJ B xs lo hi i Qp⟩:=by kernel_rfl
theorem D6:Xq (Qq YP (Q6 YP) J0 B 16 1 (Q9 74 21 (([1,2,9,10,11]:List Nat).zip (PA xs lo hi i)) Qp PB) (Q8 (VL xs lo hi i)) (2+(VL xs lo hi i).length)
 (pV xs lo hi i Qp++[(7,Qh.pure (.bool false) [])]) 0 [] []) []=some (.bool false,
 [Q3 []/\Qr YP J0 72 (pU xs lo hi i) (.bool false)]++gJ B xs lo hi i Qp):=by kernel_rfl
theorem D5:Xq (Qq YP (Q6 YP) J0 B 9 1 (Q9 74 21 (([1,2,9,10,11]:List Nat).zip (PA xs lo hi i)) Qp PB) (Q8 (VL xs lo hi i)) (2+(VL xs lo hi i).length)
 [(0,Wi)] 0 [] []) []=some (.bool true,
 [XA i (↑xs.length:Int)=false]):=by kernel_rfl
theorem D4:landM (Qq YP (Q6 YP) J0 B 7 1 (Qx YP 74 21 (([Zk xs,YI lo,YI hi]).map (Q7 0 4))) Zb 1
 [] 0 [] []) [1,2,9,10,11] [] []=some ⟨74,21,PB,[],.run,none,PA xs lo hi (0),VL xs lo hi (0),
 []⟩:=by kernel_rfl
end
set_option maxHeartbeats 4000000 in
theorem D8(xs:List Int)(lo hi:Int)  (XV:xs.length<=9223372036854775807){B:Lo}(hJ:∀w,B.has w->J0 w){c0:CF}:∀m:Nat,(∀(i:Int),xs.length-i.toNat=m->∀(h0:0<=i),D9 B c0 xs lo hi i->EndsT YP B c0 (.bool ((xs.drop i.toNat).all (fun x=>Kk x lo hi)))):=by
 intro m0;induction m0 using LB with
 |_ m0 ih0=>
  intro i UX h0 ⟨Qp,Zr,Xo⟩;by_cases q0:(i:Int)<((↑xs.length:Int))
  ·have Uc:Q3 (gJ B xs lo hi i Qp):=by
    exact⟨⟨by omega,by omega,(Qu (z:=1) (fun _=>rfl) (by omega))⟩,⟨(Xh q0),trivial⟩⟩
   cases q1:Kk (xs.getD i.toNat La) lo hi with
   |true=>
    exact((ih0 _ (by omega)) (i+1) rfl (by omega)
     (Xo.landM okF hJ Qf (D7 B xs lo hi i Qp)
     ⟨(QP (by omega) (by omega)),⟨⟨trivial,(by have t_:=yc (xs.getD i.toNat La) (lo) (hi);rw[q1]at t_;exact t_)⟩,Uc⟩⟩ (by kernel_rfl) (by kernel_rfl))).cast (by(rw[xN (i:=i)];(· simp_all);(· omega);(· omega)))
   |false=>
    exact(GoE.endsT okF hJ Qf Xo (D6 B xs lo hi i Qp)
     ⟨⟨trivial,(by have t_:=yc (xs.getD i.toNat La) (lo) (hi);rw[q1]at t_;exact t_)⟩,Uc⟩).cast (by(rw[xN (i:=i)];(· simp_all);(· omega);(· omega)))
  ·exact(GoE.endsT okF hJ Qf Xo (D5 B xs lo hi i Qp)
    ⟨(X7 (Int.not_lt.1 q0)),trivial⟩).cast (by(rw[H7 (i:=i)];(· simp_all);(· omega)))
set_option maxHeartbeats 4000000 in
theorem GP(xs:List Int)(lo hi:Int)  (XV:xs.length<=9223372036854775807){B:Lo}(hJ:∀w,B.has w->J0 w):EndsT YP B (Qx YP 74 21 (([Zk xs,YI lo,YI hi]).map (Q7 0 4))) (.bool (xs.all (fun x=>Kk x lo hi))):=by
 exact((D8 xs lo hi XV hJ _) (0) rfl (by omega)
  (GoE.start.landM okF hJ Qf (D4 B xs lo hi)
  trivial (by kernel_rfl) (by kernel_rfl))).cast (by rfl)
theorem GQ(xs:List Int)(lo hi:Int)  :Qr YP J0 74 #[Zk xs,YI lo,YI hi] (.bool (xs.all (fun x=>Kk x lo hi))):=
 UQ (ts:=[Zk xs,YI lo,YI hi]) (xs.length<=9223372036854775807) (fun _ _ ht=>ht.ln (i:=0) rfl) Za (c0:=Qx YP 74 21 (([Zk xs,YI lo,YI hi]).map (Q7 0 4))) (by kernel_rfl) (by kernel_rfl) fun XV B hJ=>GP xs lo hi  XV hJ
section
variable (B:Lo)(a b lo hi:Int)
def TK(B:Lo)(a b lo hi:Int):List Prop:=[(!XA a lo)=true]++([]:List Prop)
def fe(a b lo hi:Int):QI:=[(5,ZC)]
def TJ:List Prop:=[(!XA b a)=true]++TK B a b lo hi
def eZ:QI:=fe a b lo hi++[(11,ZC)]
theorem rD:Xq (Qq YP (Q6 YP) J0 B 6 1 (Qx YP 114 24 (([.agg #[YI a,YI b],YI lo,YI hi]).map (Q7 0 4))) Zb 1
 (eZ a b lo hi++[(17,ZC)]) 0 [] []) []=some (.bool true,
 [(!XA hi b)=true]++TJ B a b lo hi):=by kernel_rfl
theorem rC:Xq (Qq YP (Q6 YP) J0 B 6 1 (Qx YP 114 24 (([.agg #[YI a,YI b],YI lo,YI hi]).map (Q7 0 4))) Zb 1
 (eZ a b lo hi++[(17,Wi)]) 0 [] []) []=some (.bool false,
 [(!XA hi b)=false]++TJ B a b lo hi):=by kernel_rfl
theorem rB:Xq (Qq YP (Q6 YP) J0 B 6 1 (Qx YP 114 24 (([.agg #[YI a,YI b],YI lo,YI hi]).map (Q7 0 4))) Zb 1
 (fe a b lo hi++[(11,Wi)]) 0 [] []) []=some (.bool false,
 [(!XA b a)=false]++TK B a b lo hi):=by kernel_rfl
theorem rA:Xq (Qq YP (Q6 YP) J0 B 6 1 (Qx YP 114 24 (([.agg #[YI a,YI b],YI lo,YI hi]).map (Q7 0 4))) Zb 1
 [(5,Wi)] 0 [] []) []=some (.bool false,
 [(!XA a lo)=false]):=by kernel_rfl
end
set_option maxHeartbeats 4000000 in
theorem we(a b lo hi:Int)  {B:Lo}(hJ:∀w,B.has w->J0 w):EndsT YP B (Qx YP 114 24 (([.agg #[YI a,YI b],YI lo,YI hi]).map (Q7 0 4))) (.bool (WB a b lo hi)):=by
 by_cases q0:(lo:Int)<=(a)
 ·have Uc:Q3 (TK B a b lo hi):=by
   exact⟨(VS q0),trivial⟩
  by_cases q1:(a:Int)<=(b)
  ·have Yi:Q3 (TJ B a b lo hi):=by
    exact⟨(VS q1),Uc⟩
   by_cases q2:(b:Int)<=(hi)
   ·exact(GoE.endsT okF hJ Qf GoE.start (rD B a b lo hi)
     ⟨(VS q2),Yi⟩).cast (by(simp[WB, *];done))
   ·exact(GoE.endsT okF hJ Qf GoE.start (rC B a b lo hi)
     ⟨(VT (Int.not_le.1 q2)),Yi⟩).cast (by(simp[WB, *];done))
  ·exact(GoE.endsT okF hJ Qf GoE.start (rB B a b lo hi)
    ⟨(VT (Int.not_le.1 q1)),Uc⟩).cast (by(simp[WB, *];done))
 ·exact(GoE.endsT okF hJ Qf GoE.start (rA B a b lo hi)
   ⟨(VT (Int.not_le.1 q0)),trivial⟩).cast (by(simp[WB, *];done))
theorem pP(a b lo hi:Int)  :Qr YP J0 114 #[.agg #[YI a,YI b],YI lo,YI hi] (.bool (WB a b lo hi)):=
 Xi (ts:=[.agg #[YI a,YI b],YI lo,YI hi]) Za (c0:=Qx YP 114 24 (([.agg #[YI a,YI b],YI lo,YI hi]).map (Q7 0 4))) (by kernel_rfl) (by kernel_rfl) fun B hJ=>we a b lo hi  hJ
def my(a b ZP:Int):Array Value:=#[.agg #[YI a,YI b],YI 0,YI ZP]
theorem zM(B:Lo)(a b ZP:Int):Xq (Qq YP (Q6 YP) J0 B 6 1 (Qx YP 96 8 (([.agg #[YI a,YI b],YI ZP]).map (Q7 0 4))) Zb 1
 [(4,Qh.pure (.bool true) [])] 0 [] []) []=some (.bool true,
 [Q3 []/\Qr YP J0 114 (my a b ZP) (.bool true)]):=by kernel_rfl
theorem zL(B:Lo)(a b ZP:Int):Xq (Qq YP (Q6 YP) J0 B 6 1 (Qx YP 96 8 (([.agg #[YI a,YI b],YI ZP]).map (Q7 0 4))) Zb 1
 [(4,Qh.pure (.bool false) [])] 0 [] []) []=some (.bool false,
 [Q3 []/\Qr YP J0 114 (my a b ZP) (.bool false)]):=by kernel_rfl
set_option maxHeartbeats 4000000 in
theorem De(a b ZP:Int)  {B:Lo}(hJ:∀w,B.has w->J0 w):EndsT YP B (Qx YP 96 8 (([.agg #[YI a,YI b],YI ZP]).map (Q7 0 4))) (.bool (WB a b 0 ZP)):=by
 cases q0:WB a b 0 ZP with
 |true=>
  exact(GoE.endsT okF hJ Qf GoE.start (zM B a b ZP)
   ⟨⟨trivial,(by have t_:=pP (a) (b) (0) (ZP);rw[q0]at t_;exact t_)⟩,trivial⟩).cast (by rfl)
 |false=>
  exact(GoE.endsT okF hJ Qf GoE.start (zL B a b ZP)
   ⟨⟨trivial,(by have t_:=pP (a) (b) (0) (ZP);rw[q0]at t_;exact t_)⟩,trivial⟩).cast (by rfl)
theorem bS(a b ZP:Int)  :Qr YP J0 96 #[.agg #[YI a,YI b],YI ZP] (.bool (WB a b 0 ZP)):=
 Xi (ts:=[.agg #[YI a,YI b],YI ZP]) Za (c0:=Qx YP 96 8 (([.agg #[YI a,YI b],YI ZP]).map (Q7 0 4))) (by kernel_rfl) (by kernel_rfl) fun B hJ=>De a b ZP  hJ
theorem GJ(B:Lo)(a b:Int):Xq (Qq YP (Q6 YP) J0 B 6 1 (Qx YP 77 5 (([.agg #[YI a,YI b]]).map (Q7 0 4))) Zb 1
 [] 0 [] []) []=some (YI b,
 []):=by kernel_rfl
set_option maxHeartbeats 4000000 in
theorem Mj(a b:Int)  {B:Lo}(hJ:∀w,B.has w->J0 w):EndsT YP B (Qx YP 77 5 (([.agg #[YI a,YI b]]).map (Q7 0 4))) (YI b):=by
 exact(GoE.endsT okF hJ Qf GoE.start (GJ B a b)
  trivial).cast (by rfl)
theorem O8(a b:Int)  :Qr YP J0 77 #[.agg #[YI a,YI b]] (YI b):=
 Xi (ts:=[.agg #[YI a,YI b]]) Za (c0:=Qx YP 77 5 (([.agg #[YI a,YI b]]).map (Q7 0 4))) (by kernel_rfl) (by kernel_rfl) fun B hJ=>Mj a b  hJ
theorem Mi(B:Lo)(a b:Int):Xq (Qq YP (Q6 YP) J0 B 6 1 (Qx YP 76 5 (([.agg #[YI a,YI b]]).map (Q7 0 4))) Zb 1
 [] 0 [] []) []=some (YI a,
 []):=by kernel_rfl
set_option maxHeartbeats 4000000 in
theorem NA(a b:Int)  {B:Lo}(hJ:∀w,B.has w->J0 w):EndsT YP B (Qx YP 76 5 (([.agg #[YI a,YI b]]).map (Q7 0 4))) (YI a):=by
 exact(GoE.endsT okF hJ Qf GoE.start (Mi B a b)
  trivial).cast (by rfl)
theorem Qag(a b:Int)  :Qr YP J0 76 #[.agg #[YI a,YI b]] (YI a):=
 Xi (ts:=[.agg #[YI a,YI b]]) Za (c0:=Qx YP 76 5 (([.agg #[YI a,YI b]]).map (Q7 0 4))) (by kernel_rfl) (by kernel_rfl) fun B hJ=>NA a b  hJ
theorem GG(B:Lo)(a r:Int):let b:=Lc (a*r) 1000;Xq (Qq YP (Q6 YP) J0 B 6 1 (Qx YP 115 9 (([YI a,YI r]).map (Q7 0 4))) Zb 1
 [(3,Z4 (a*r)),(4,Z4 b)] 0 [] []) []=some (YI b,
 [IntKind.wrap .i64 b=Lc (a*r) 1000,wq (a*r)=a*r]):=by intro b;kernel_rfl
set_option maxHeartbeats 4000000 in
theorem Mh(a r:Int)(ha:0<=a/\a<=1000000000000)(hr:0<=r/\r<=1000000){B:Lo}(hJ:∀w,B.has w->J0 w):EndsT YP B (Qx YP 115 9 (([YI a,YI r]).map (Q7 0 4))) (YI ((a*r).tdiv 1000)):=by
 have e0:0<=a*r:=Int.mul_nonneg ha.1 hr.1;have e1:a*r<=1000000000000*1000000:=Int.mul_le_mul ha.2 hr.2 hr.1 (by omega);have e2:(a*r).tdiv 1000=(a*r) / 1000:=LP e0;exact(GoE.endsT okF hJ Qf GoE.start (GG B a r)
  ⟨(Jf (by omega) (by omega)),⟨(QP (by omega) (by omega)),trivial⟩⟩).cast (by rfl)
theorem GH(a r:Int)(ha:0<=a/\a<=1000000000000)(hr:0<=r/\r<=1000000):Qr YP J0 115 #[YI a,YI r] (YI ((a*r).tdiv 1000)):=
 Xi (ts:=[YI a,YI r]) Za (c0:=Qx YP 115 9 (([YI a,YI r]).map (Q7 0 4))) (by kernel_rfl) (by kernel_rfl) fun B hJ=>Mh a r ha hr hJ
section
variable (B:Lo)(c0:CF)(xs:List Int)(acc i:Int)(Qp:Nat->Value)
end
theorem oF(B:Lo)(a r:Int):let c:=YI (Lc (a*r) 1000);let b:=a+Lc (a*r) 1000;Xq (Qq YP (Q6 YP) J0 B 6 1 (Qx YP 100 10 (([YI a,YI r]).map (Q7 0 4))) Zb 1
 [(4,Qh.pure c []),(5,Z4 b)] 0 [] []) []=some (YI b,
 [wq b=a+Lc (a*r) 1000,Q3 []/\Qr YP J0 115 #[YI a,YI r] c]):=by intro c b;kernel_rfl
set_option maxHeartbeats 4000000 in
theorem qX(a r:Int)(ha:0<=a/\a<=1000000000000)(hr:0<=r/\r<=1000000){B:Lo}(hJ:∀w,B.has w->J0 w):EndsT YP B (Qx YP 100 10 (([YI a,YI r]).map (Q7 0 4))) (YI (a+(a*r).tdiv 1000)):=by
 have e0:0<=a*r:=Int.mul_nonneg ha.1 hr.1;have e1:a*r<=1000000000000*1000000:=Int.mul_le_mul ha.2 hr.2 hr.1 (by omega);have e2:(a*r).tdiv 1000=(a*r) / 1000:=LP e0;exact(GoE.endsT okF hJ Qf GoE.start (oF B a r)
  ⟨(QP (by omega) (by omega)),⟨⟨trivial,GH (a) (r) (by with_reducible assumption) (by with_reducible assumption)⟩,trivial⟩⟩).cast (by rfl)
theorem cV(a r:Int)(ha:0<=a/\a<=1000000000000)(hr:0<=r/\r<=1000000):Qr YP J0 100 #[YI a,YI r] (YI (a+(a*r).tdiv 1000)):=
 Xi (ts:=[YI a,YI r]) Za (c0:=Qx YP 100 10 (([YI a,YI r]).map (Q7 0 4))) (by kernel_rfl) (by kernel_rfl) fun B hJ=>qX a r ha hr hJ
def iI(n:Int):Array Value:=#[YI n,YI 0,YI 1000000]
theorem wc(B:Lo)(n:Int):Xq (Qq YP (Q6 YP) J0 B 6 1 (Qx YP 95 5 (([YI n]).map (Q7 0 4))) Zb 1
 [(2,Qh.pure (.bool true) [])] 0 [] []) []=some (.bool true,
 [Q3 []/\Qr YP J0 72 (iI n) (.bool true)]):=by kernel_rfl
theorem wb(B:Lo)(n:Int):Xq (Qq YP (Q6 YP) J0 B 6 1 (Qx YP 95 5 (([YI n]).map (Q7 0 4))) Zb 1
 [(2,Qh.pure (.bool false) [])] 0 [] []) []=some (.bool false,
 [Q3 []/\Qr YP J0 72 (iI n) (.bool false)]):=by kernel_rfl
set_option maxHeartbeats 4000000 in
theorem zG(n:Int)  {B:Lo}(hJ:∀w,B.has w->J0 w):EndsT YP B (Qx YP 95 5 (([YI n]).map (Q7 0 4))) (.bool (Kk n 0 1000000)):=by
 cases q0:Kk n 0 1000000 with
 |true=>
  exact(GoE.endsT okF hJ Qf GoE.start (wc B n)
   ⟨⟨trivial,(by have t_:=yc (n) (0) (1000000);rw[q0]at t_;exact t_)⟩,trivial⟩).cast (by rfl)
 |false=>
  exact(GoE.endsT okF hJ Qf GoE.start (wb B n)
   ⟨⟨trivial,(by have t_:=yc (n) (0) (1000000);rw[q0]at t_;exact t_)⟩,trivial⟩).cast (by rfl)
theorem SM(n:Int)  :Qr YP J0 95 #[YI n] (.bool (Kk n 0 1000000)):=
 Xi (ts:=[YI n]) Za (c0:=Qx YP 95 5 (([YI n]).map (Q7 0 4))) (by kernel_rfl) (by kernel_rfl) fun B hJ=>zG n  hJ
end
end Go.Proofs.Ytncjjangllkokaa

namespace Go.Proofs.Ytncjjangllkokaa
open Go Go.CE Go.RowKit
noncomputable section
set_option maxRecDepth 100000
structure Qg where
 count:Int
 room:Int
 Yj:Int
 Yk:Int
 QN:Int
 X9:Int
 VW:Int
 VX:Int
 VP:Int
 VQ:Int
 goal:Int
 Vt:Int
deriving Inhabited
structure Qo where
 Qb:List Qg
 Qc:Int
 Qd:Int
deriving Inhabited
structure XD where
 Qn:List Int
 Qs:List (List Int)
 Q5:List (List Int)
deriving Inhabited
def Qi(c:Qg):List Value:=[YI c.count,YI c.room,YI c.Yj,YI c.Yk,YI c.QN,YI c.X9,YI c.VW,YI c.VX,YI c.VP,YI c.VQ,YI c.goal,YI c.Vt]
abbrev Yh(xs:List Qg):Value:=QH xs.length (Qe Qi xs)
def Q1(r:Qo):List Value:=[Yh r.Qb,YI r.Qc,YI r.Qd]
def Zs(x:Qg):Bool:=Kk x.count 0 1000000 && (Kk x.room 0 1000000 && (Kk x.goal 0 1000000 && (Kk x.Vt 0 1000000 && (WB x.Yj x.Yk 0 2000 && (Kk x.QN 0 1000 && (WB x.VW x.VX 0 1000000 && (WB x.VP x.VQ 0 1000000 && (decide (x.VP<=x.VW) && decide (x.VQ<=x.VX)))))))))
def Pc(n v:Int):Bool:=decide (v= -1) || Kk v 0 (n-1)
theorem Mv{n v:Int}(h:0<=n):Kk v (-1) (n-1)=Pc n v:=by
 unfold Pc Kk;by_cases e:v= -1
 ·subst e;simp;omega
 ·simp[e];by_cases h1:0<=v
  ·simp[h1];omega
  ·have:¬(-1<=v):=by omega
   simp[this,h1]
def ZK(n i:Int)(x:Qg):Bool:=Zs x && (Pc n x.X9 && !decide (x.X9=i))
def RI(ps:List Qg)(i:Int):Bool:=(UZ i ps.length).all fun k=>ZK ps.length k (ps.getD k.toNat La)
def PE(r:Qo):Bool:=Kk r.Qb.length 1 4 && (Kk r.Qc 0 2000 && Kk r.Qd 1 4)
def XW(r:Qo):Bool:=PE r && RI r.Qb 0
def XZ(r:Qo)(Qa:List Int):Bool:=decide (Qa.length=r.Qd) && Qa.all fun x=>Kk x 0 (((VE r.Qb.length:Nat):Int)-1)
theorem XK{ps:List Qg}{i:Int}(h:i<ps.length):RI ps i=(ZK ps.length i (ps.getD i.toNat La) && RI ps (i+1)):=by
 unfold RI;rw[En h,List.all_cons]
theorem YS{ps:List Qg}{i:Int}(h:ps.length<=i):RI ps i=true:=by
 unfold RI;rw[Bc h];rfl
theorem MV{x:Qg}(h:Zs x=true):(0<=x.count/\x.count<=1000000)/\(0<=x.room/\x.room<=1000000)/\(0<=x.goal/\x.goal<=1000000)/\(0<=x.Vt/\x.Vt<=1000000)/\(0<=x.Yj/\x.Yj<=x.Yk/\x.Yk<=2000)/\(0<=x.QN/\x.QN<=1000)/\(0<=x.VW/\x.VW<=x.VX/\x.VX<=1000000)/\(0<=x.VP/\x.VP<=x.VQ/\x.VQ<=1000000)/\x.VP<=x.VW/\x.VQ<=x.VX:=by
 simp only[Zs,YB,cb,oR,decide_eq_true_iff]at h;omega
theorem QC{r:Qo}(h:PE r=true):(1<=r.Qb.length/\r.Qb.length<=4)/\(0<=r.Qc/\r.Qc<=2000)/\(1<=r.Qd/\r.Qd<=4):=by
 simp only[PE,YB,cb]at h;omega
theorem Zy{r:Qo}(h:XW r=true):PE r=true/\∀k:Int,0<=k->k<r.Qb.length->Zs (r.Qb.getD k.toNat La)=true/\Pc r.Qb.length (r.Qb.getD k.toNat La).X9=true/\(r.Qb.getD k.toNat La).X9≠k:=by
 simp only[XW,YB]at h;refine⟨h.1,fun k h0 h1=> ?_⟩;have:=BK h.2 h0 h1;simp only[ZK,YB,Bool.not_eq_true',decide_eq_false_iff_not]at this;exact⟨this.1,this.2.1,this.2.2⟩
def gF(x:Qg):Bool:=Kk x.count 0 1000000 && (Kk x.room 0 1000000 && (Kk x.goal 0 1000000 && (Kk x.Vt 0 1000000 && (WB x.Yj x.Yk 0 2000 && (Kk x.QN 0 1000 && (WB x.VW x.VX 0 1000000 && WB x.VP x.VQ 0 1000000))))))
def XG(r:Qo):Bool:=PE r && (UZ 0 r.Qb.length).all fun k=>gF (r.Qb.getD k.toNat La) && (Pc r.Qb.length (r.Qb.getD k.toNat La).X9 && !decide ((r.Qb.getD k.toNat La).X9=k))
theorem Md{x:Qg}(h:Zs x=true):gF x=true:=by
 simp only[Zs,gF,YB]at h ⊢;exact⟨h.1,h.2.1,h.2.2.1,h.2.2.2.1,h.2.2.2.2.1,h.2.2.2.2.2.1,h.2.2.2.2.2.2.1,h.2.2.2.2.2.2.2.1⟩
theorem PJ{r:Qo}(h:XW r=true):XG r=true:=by
 obtain⟨h1,h2⟩:=Zy h;unfold XG;rw[YB];refine⟨h1,List.all_eq_true.2 fun k hk=> ?_⟩;unfold UZ at hk;obtain⟨m,hm,rfl⟩:=List.mem_map.1 hk;have hm':=List.mem_range.1 hm;have:=h2 (0+(m:Int)) (by omega) (by omega);simp only[YB,Bool.not_eq_true',decide_eq_false_iff_not];exact⟨Md this.1,this.2.1,this.2.2⟩
theorem Wl{x:Qg}(h:gF x=true):(0<=x.count/\x.count<=1000000)/\(0<=x.room/\x.room<=1000000)/\(0<=x.goal/\x.goal<=1000000)/\(0<=x.Vt/\x.Vt<=1000000)/\(0<=x.Yj/\x.Yj<=x.Yk/\x.Yk<=2000)/\(0<=x.QN/\x.QN<=1000)/\(0<=x.VW/\x.VW<=x.VX/\x.VX<=1000000)/\(0<=x.VP/\x.VP<=x.VQ/\x.VQ<=1000000)/\True:=by
 simp only[gF,YB,cb,oR]at h;simp only[and_true];omega
theorem QB{r:Qo}(h:XG r=true):PE r=true/\∀k:Int,0<=k->k<r.Qb.length->gF (r.Qb.getD k.toNat La)=true/\Pc r.Qb.length (r.Qb.getD k.toNat La).X9=true/\(r.Qb.getD k.toNat La).X9≠k:=by
 simp only[XG,YB]at h;refine⟨h.1,fun k h0 h1=> ?_⟩;have:=BK h.2 h0 h1;simp only[YB,Bool.not_eq_true',decide_eq_false_iff_not]at this;exact⟨this.1,this.2.1,this.2.2⟩
instance {r:Qo}:Coe (XW r=true) (XG r=true):=⟨PJ⟩
section
variable (B:Lo)(x:Qg)
def ix:Array Value:=#[.agg #[YI x.VW,YI x.VX],YI 1000000]
def iw:Array Value:=#[.agg #[YI x.VP,YI x.VQ],YI 1000000]
def iv:Array Value:=#[.agg #[YI x.Yj,YI x.Yk],YI 2000]
def iu:Array Value:=#[YI x.Vt,YI 0,YI 1000000]
def ir:Array Value:=#[YI x.QN,YI 0,YI 1000]
def aH(B:Lo)(x:Qg):List Prop:=[Q3 []/\Qr YP J0 95 #[YI x.count] (.bool true)]++([]:List Prop)
def iG(x:Qg):QI:=[(4,Qh.pure (.bool true) [])]
def aG:List Prop:=[Q3 []/\Qr YP J0 95 #[YI x.room] (.bool true)]++aH B x
def iF:QI:=iG x++[(8,Qh.pure (.bool true) [])]
def aF:List Prop:=[Q3 []/\Qr YP J0 95 #[YI x.goal] (.bool true)]++aG B x
def iE:QI:=iF x++[(13,Qh.pure (.bool true) [])]
def aE:List Prop:=[Q3 []/\Qr YP J0 72 (iu x) (.bool true)]++aF B x
def iD:QI:=iE x++[(18,Qh.pure (.bool true) [])]
def aD:List Prop:=[Q3 []/\Qr YP J0 96 (iv x) (.bool true)]++aE B x
def iC:QI:=iD x++[(23,Qh.pure (.bool true) [])]
def aC:List Prop:=[Q3 []/\Qr YP J0 72 (ir x) (.bool true)]++aD B x
def iB:QI:=iC x++[(28,Qh.pure (.bool true) [])]
def aB:List Prop:=[Q3 []/\Qr YP J0 96 (ix x) (.bool true)]++aC B x
def iA:QI:=iB x++[(33,Qh.pure (.bool true) [])]
def aA:List Prop:=[Q3 []/\Qr YP J0 96 (iw x) (.bool true)]++aB B x
def iz:QI:=iA x++[(38,Qh.pure (.bool true) [])]
def a9:List Prop:=[(!XA x.VW x.VP)=true]++aA B x
def iy:QI:=iz x++[(47,ZC)]
theorem uK:Xq (Qq YP (Q6 YP) J0 B 6 1 (Qx YP 73 59 (([.agg (Qi x).toArray]).map (Q7 0 4))) Zb 1
 (iy x++[(56,ZC)]) 0 [] []) []=some (.bool true,
 [(!XA x.VX x.VQ)=true]++a9 B x):=by kernel_rfl
theorem uJ:Xq (Qq YP (Q6 YP) J0 B 6 1 (Qx YP 73 59 (([.agg (Qi x).toArray]).map (Q7 0 4))) Zb 1
 (iy x++[(56,Wi)]) 0 [] []) []=some (.bool false,
 [(!XA x.VX x.VQ)=false]++a9 B x):=by kernel_rfl
theorem uI:Xq (Qq YP (Q6 YP) J0 B 6 1 (Qx YP 73 59 (([.agg (Qi x).toArray]).map (Q7 0 4))) Zb 1
 (iz x++[(47,Wi)]) 0 [] []) []=some (.bool false,
 [(!XA x.VW x.VP)=false]++aA B x):=by kernel_rfl
theorem uH:Xq (Qq YP (Q6 YP) J0 B 6 1 (Qx YP 73 59 (([.agg (Qi x).toArray]).map (Q7 0 4))) Zb 1
 (iA x++[(38,Qh.pure (.bool false) [])]) 0 [] []) []=some (.bool false,
 [Q3 []/\Qr YP J0 96 (iw x) (.bool false)]++aB B x):=by kernel_rfl
theorem uG:Xq (Qq YP (Q6 YP) J0 B 6 1 (Qx YP 73 59 (([.agg (Qi x).toArray]).map (Q7 0 4))) Zb 1
 (iB x++[(33,Qh.pure (.bool false) [])]) 0 [] []) []=some (.bool false,
 [Q3 []/\Qr YP J0 96 (ix x) (.bool false)]++aC B x):=by kernel_rfl
theorem uF:Xq (Qq YP (Q6 YP) J0 B 6 1 (Qx YP 73 59 (([.agg (Qi x).toArray]).map (Q7 0 4))) Zb 1
 (iC x++[(28,Qh.pure (.bool false) [])]) 0 [] []) []=some (.bool false,
 [Q3 []/\Qr YP J0 72 (ir x) (.bool false)]++aD B x):=by kernel_rfl
theorem uE:Xq (Qq YP (Q6 YP) J0 B 6 1 (Qx YP 73 59 (([.agg (Qi x).toArray]).map (Q7 0 4))) Zb 1
 (iD x++[(23,Qh.pure (.bool false) [])]) 0 [] []) []=some (.bool false,
 [Q3 []/\Qr YP J0 96 (iv x) (.bool false)]++aE B x):=by kernel_rfl
theorem uD:Xq (Qq YP (Q6 YP) J0 B 6 1 (Qx YP 73 59 (([.agg (Qi x).toArray]).map (Q7 0 4))) Zb 1
 (iE x++[(18,Qh.pure (.bool false) [])]) 0 [] []) []=some (.bool false,
 [Q3 []/\Qr YP J0 72 (iu x) (.bool false)]++aF B x):=by kernel_rfl
theorem uC:Xq (Qq YP (Q6 YP) J0 B 6 1 (Qx YP 73 59 (([.agg (Qi x).toArray]).map (Q7 0 4))) Zb 1
 (iF x++[(13,Qh.pure (.bool false) [])]) 0 [] []) []=some (.bool false,
 [Q3 []/\Qr YP J0 95 #[YI x.goal] (.bool false)]++aG B x):=by kernel_rfl
theorem uB:Xq (Qq YP (Q6 YP) J0 B 6 1 (Qx YP 73 59 (([.agg (Qi x).toArray]).map (Q7 0 4))) Zb 1
 (iG x++[(8,Qh.pure (.bool false) [])]) 0 [] []) []=some (.bool false,
 [Q3 []/\Qr YP J0 95 #[YI x.room] (.bool false)]++aH B x):=by kernel_rfl
theorem qZ:Xq (Qq YP (Q6 YP) J0 B 6 1 (Qx YP 73 59 (([.agg (Qi x).toArray]).map (Q7 0 4))) Zb 1
 [(4,Qh.pure (.bool false) [])] 0 [] []) []=some (.bool false,
 [Q3 []/\Qr YP J0 95 #[YI x.count] (.bool false)]):=by kernel_rfl
end
set_option maxHeartbeats 4000000 in
theorem z2(x:Qg)  {B:Lo}(hJ:∀w,B.has w->J0 w):EndsT YP B (Qx YP 73 59 (([.agg (Qi x).toArray]).map (Q7 0 4))) (.bool (Zs x)):=by
 cases q0:Kk x.count 0 1000000 with
 |true=>
  have Uc:Q3 (aH B x):=by
   exact⟨⟨trivial,(by have t_:=SM x.count;rw[q0]at t_;exact t_)⟩,trivial⟩
  cases q1:Kk x.room 0 1000000 with
  |true=>
   have Yi:Q3 (aG B x):=by
    exact⟨⟨trivial,(by have t_:=SM x.room;rw[q1]at t_;exact t_)⟩,Uc⟩
   cases q2:Kk x.goal 0 1000000 with
   |true=>
    have Sm:Q3 (aF B x):=by
     exact⟨⟨trivial,(by have t_:=SM x.goal;rw[q2]at t_;exact t_)⟩,Yi⟩
    cases q3:Kk x.Vt 0 1000000 with
    |true=>
     have hp3:Q3 (aE B x):=by
      exact⟨⟨trivial,(by have t_:=yc x.Vt (0) (1000000);rw[q3]at t_;exact t_)⟩,Sm⟩
     cases q4:WB x.Yj x.Yk 0 2000 with
     |true=>
      have hp4:Q3 (aD B x):=by
       exact⟨⟨trivial,(by have t_:=bS x.Yj x.Yk (2000);rw[q4]at t_;exact t_)⟩,hp3⟩
      cases q5:Kk x.QN 0 1000 with
      |true=>
       have hp5:Q3 (aC B x):=by
        exact⟨⟨trivial,(by have t_:=yc x.QN (0) (1000);rw[q5]at t_;exact t_)⟩,hp4⟩
       cases q6:WB x.VW x.VX 0 1000000 with
       |true=>
        have hp6:Q3 (aB B x):=by
         exact⟨⟨trivial,(by have t_:=bS x.VW x.VX (1000000);rw[q6]at t_;exact t_)⟩,hp5⟩
        cases q7:WB x.VP x.VQ 0 1000000 with
        |true=>
         have hp7:Q3 (aA B x):=by
          exact⟨⟨trivial,(by have t_:=bS x.VP x.VQ (1000000);rw[q7]at t_;exact t_)⟩,hp6⟩
         by_cases q8:(x.VP:Int)<=x.VW
         ·have hp8:Q3 (a9 B x):=by
           exact⟨(VS q8),hp7⟩
          by_cases q9:(x.VQ:Int)<=x.VX
          ·exact(GoE.endsT okF hJ Qf GoE.start (uK B x)
            ⟨(VS q9),hp8⟩).cast (by(simp[Zs, *];done))
          ·exact(GoE.endsT okF hJ Qf GoE.start (uJ B x)
            ⟨(VT (Int.not_le.1 q9)),hp8⟩).cast (by(simp[Zs, *];done))
         ·exact(GoE.endsT okF hJ Qf GoE.start (uI B x)
           ⟨(VT (Int.not_le.1 q8)),hp7⟩).cast (by(simp[Zs, *];done))
        |false=>
         exact(GoE.endsT okF hJ Qf GoE.start (uH B x)
          ⟨⟨trivial,(by have t_:=bS x.VP x.VQ (1000000);rw[q7]at t_;exact t_)⟩,hp6⟩).cast (by(simp[Zs, *];done))
       |false=>
        exact(GoE.endsT okF hJ Qf GoE.start (uG B x)
         ⟨⟨trivial,(by have t_:=bS x.VW x.VX (1000000);rw[q6]at t_;exact t_)⟩,hp5⟩).cast (by(simp[Zs, *];done))
      |false=>
       exact(GoE.endsT okF hJ Qf GoE.start (uF B x)
        ⟨⟨trivial,(by have t_:=yc x.QN (0) (1000);rw[q5]at t_;exact t_)⟩,hp4⟩).cast (by(simp[Zs, *];done))
     |false=>
      exact(GoE.endsT okF hJ Qf GoE.start (uE B x)
       ⟨⟨trivial,(by have t_:=bS x.Yj x.Yk (2000);rw[q4]at t_;exact t_)⟩,hp3⟩).cast (by(simp[Zs, *];done))
    |false=>
     exact(GoE.endsT okF hJ Qf GoE.start (uD B x)
      ⟨⟨trivial,(by have t_:=yc x.Vt (0) (1000000);rw[q3]at t_;exact t_)⟩,Sm⟩).cast (by(simp[Zs, *];done))
   |false=>
    exact(GoE.endsT okF hJ Qf GoE.start (uC B x)
     ⟨⟨trivial,(by have t_:=SM x.goal;rw[q2]at t_;exact t_)⟩,Yi⟩).cast (by(simp[Zs, *];done))
  |false=>
   exact(GoE.endsT okF hJ Qf GoE.start (uB B x)
    ⟨⟨trivial,(by have t_:=SM x.room;rw[q1]at t_;exact t_)⟩,Uc⟩).cast (by(simp[Zs, *];done))
 |false=>
  exact(GoE.endsT okF hJ Qf GoE.start (qZ B x)
   ⟨⟨trivial,(by have t_:=SM x.count;rw[q0]at t_;exact t_)⟩,trivial⟩).cast (by(simp[Zs, *];done))
theorem uL(x:Qg)  :Qr YP J0 73 #[.agg (Qi x).toArray] (.bool (Zs x)):=
 Xi (ts:=[.agg (Qi x).toArray]) Za (c0:=Qx YP 73 59 (([.agg (Qi x).toArray]).map (Q7 0 4))) (by kernel_rfl) (by kernel_rfl) fun B hJ=>z2 x  hJ
def eX(r:Qo)(k:Int):Array Value:=#[YI k,YI 0,YI ((↑r.Qb.length:Int)-1)]
def TF(B:Lo)(r:Qo)(k:Int):List Prop:=[wq ((↑r.Qb.length:Int)-1)=(↑r.Qb.length:Int)-1]++([]:List Prop)
def eY(r:Qo)(k:Int):QI:=[(6,Z4 ((↑r.Qb.length:Int)-1))]
theorem rh(B:Lo)(r:Qo)(k:Int):Xq (Qq YP (Q6 YP) J0 B 6 1 (Qx YP 70 11 (([.agg (Q1 r).toArray,YI k]).map (Q7 0 4))) Zb 1
 (eY r k++[(7,Qh.pure (.bool true) [])]) 0 [] []) []=some (.bool true,
 [Q3 []/\Qr YP J0 72 (eX r k) (.bool true)]++TF B r k):=by kernel_rfl
theorem re(B:Lo)(r:Qo)(k:Int):Xq (Qq YP (Q6 YP) J0 B 6 1 (Qx YP 70 11 (([.agg (Q1 r).toArray,YI k]).map (Q7 0 4))) Zb 1
 (eY r k++[(7,Qh.pure (.bool false) [])]) 0 [] []) []=some (.bool false,
 [Q3 []/\Qr YP J0 72 (eX r k) (.bool false)]++TF B r k):=by kernel_rfl
set_option maxHeartbeats 4000000 in
theorem uM(r:Qo)(k:Int)  (XV:r.Qb.length<=9223372036854775807){B:Lo}(hJ:∀w,B.has w->J0 w):EndsT YP B (Qx YP 70 11 (([.agg (Q1 r).toArray,YI k]).map (Q7 0 4))) (.bool (Kk k 0 (r.Qb.length-1))):=by
 have Uc:Q3 (TF B r k):=by
  exact⟨(QP (by omega) (by omega)),trivial⟩
 cases q0:Kk k 0 ((↑r.Qb.length:Int)-1)with
 |true=>
  exact(GoE.endsT okF hJ Qf GoE.start (rh B r k)
   ⟨⟨trivial,(by have t_:=yc (k) (0) ((↑r.Qb.length:Int)-1);rw[q0]at t_;exact t_)⟩,Uc⟩).cast (by rfl)
 |false=>
  exact(GoE.endsT okF hJ Qf GoE.start (re B r k)
   ⟨⟨trivial,(by have t_:=yc (k) (0) ((↑r.Qb.length:Int)-1);rw[q0]at t_;exact t_)⟩,Uc⟩).cast (by rfl)
theorem pI(r:Qo)(k:Int)  :Qr YP J0 70 #[.agg (Q1 r).toArray,YI k] (.bool (Kk k 0 (r.Qb.length-1))):=
 UQ (ts:=[.agg (Q1 r).toArray,YI k]) (r.Qb.length<=9223372036854775807) (fun _ _ ht=>ht.ln2 (i:=0) (j:=0) rfl rfl) Za (c0:=Qx YP 70 11 (([.agg (Q1 r).toArray,YI k]).map (Q7 0 4))) (by kernel_rfl) (by kernel_rfl) fun XV B hJ=>uM r k  XV hJ
section
variable (x_:Qg)(B:Lo)(c0:CF)(r:Qo)(i:Int)(Qp:Nat->Value)
def TE:Array Value:=#[YI x_.count,YI x_.room,YI x_.Yj,YI x_.Yk,YI x_.QN,YI x_.X9,YI x_.VW,YI x_.VX,YI x_.VP,YI x_.VQ,YI x_.goal,YI x_.Vt]
def lN:Array Value:=#[.agg #[QH r.Qb.length (Qe Qi r.Qb),YI r.Qc,YI r.Qd],YI (Qg.X9 (r.Qb.getD i.toNat La))]
def lM:Array Value:=#[YI (↑r.Qb.length:Int),YI 1,YI 4]
def lL:Array Value:=#[YI r.Qc,YI 0,YI 2000]
def lK:Array Value:=#[YI r.Qd,YI 1,YI 4]
def Wt:List Value:=[pA 2 0,Q2 1 (QH r.Qb.length (Qe Qi r.Qb)),YI (↑r.Qb.length:Int),YI i]
def XY(i:Int):List Obj:=[Obj.cells #[Q2 1 (QH r.Qb.length (Qe Qi r.Qb)),YI r.Qc,YI r.Qd] 24]
def Wu:List Item:=([.code [1,1,0,1,0,0],.inLoop [1,1,0,1,0,0],.inBlock 0,.code [1,1,1]]).map (it (QG YP 50))
def zy:Prop:=∃dJ:Nat->Value,(∀t,Xe (dJ t))/\GoE YP B c0 Zb 1 (Q9 50 52 (([1,23,24,25]:List Nat).zip (Wt r i)) dJ Wu) (Q8 (XY r i)) (2+(XY r i).length) []
def dc(B:Lo)(r:Qo)(i:Int)(Qp:Nat->Value):List Prop:=[Vr i r.Qb.length (Qe Qi r.Qb) Try.t54.size (TE (r.Qb.getD i.toNat La)),XA i (↑r.Qb.length:Int)=true]++([]:List Prop)
def lU(Qp:Nat->Value):QI:=[(0,ZC),(2,Qh.tidx i.toNat (TE (r.Qb.getD i.toNat La)))]
def db:List Prop:=[Q3 []/\Qr YP J0 73 #[.agg (TE (r.Qb.getD i.toNat La))] (.bool true)]++dc B r i Qp
def lT:QI:=lU r i Qp++[(8,Qh.pure (.bool true) [])]
def da:List Prop:=[(!Rx (Qg.X9 (r.Qb.getD i.toNat La)) (-1))=true]++db B r i Qp
def lS:QI:=lT r i Qp++[(13,ZC)]
def cZ:List Prop:=[Q3 []/\Qr YP J0 70 (lN r i) (.bool true)]++da B r i Qp
def lR:QI:=lS r i Qp++[(18,Qh.pure (.bool true) [])]
theorem zw:Xq (Qq YP (Q6 YP) J0 B 16 1 (Q9 50 52 (([1,23,24,25]:List Nat).zip (Wt r i)) Qp Wu) (Q8 (XY r i)) (2+(XY r i).length)
 (lR r i Qp++[(26,ZC)]) 0 [] []) []=some (.bool false,
 [Rx (Qg.X9 (r.Qb.getD i.toNat La)) i=true]++cZ B r i Qp):=by kernel_rfl
theorem zu:landM (Qq YP (Q6 YP) J0 B 16 1 (Q9 50 52 (([1,23,24,25]:List Nat).zip (Wt r i)) Qp Wu) (Q8 (XY r i)) (2+(XY r i).length)
 (lR r i Qp++[(26,Wi),(28,Z4 (i+1))]) 0 [] []) [1,23,24,25] [(2,KS.auto)] []=some ⟨50,52,Wu,[],.run,none,Wt r (i+1),XY r (i+1),
 [wq (i+1)=i+1,Rx (Qg.X9 (r.Qb.getD i.toNat La)) i=false]++cZ B r i Qp⟩:=by kernel_rfl
theorem zt:Xq (Qq YP (Q6 YP) J0 B 16 1 (Q9 50 52 (([1,23,24,25]:List Nat).zip (Wt r i)) Qp Wu) (Q8 (XY r i)) (2+(XY r i).length)
 (lS r i Qp++[(18,Qh.pure (.bool false) [])]) 0 [] []) []=some (.bool false,
 [Q3 []/\Qr YP J0 70 (lN r i) (.bool false)]++da B r i Qp):=by kernel_rfl
def cY:List Prop:=[(!Rx (Qg.X9 (r.Qb.getD i.toNat La)) (-1))=false]++db B r i Qp
def lQ:QI:=lT r i Qp++[(13,Wi)]
theorem zr:Xq (Qq YP (Q6 YP) J0 B 16 1 (Q9 50 52 (([1,23,24,25]:List Nat).zip (Wt r i)) Qp Wu) (Q8 (XY r i)) (2+(XY r i).length)
 (lQ r i Qp++[(26,ZC)]) 0 [] []) []=some (.bool false,
 [Rx (Qg.X9 (r.Qb.getD i.toNat La)) i=true]++cY B r i Qp):=by kernel_rfl
theorem zq:landM (Qq YP (Q6 YP) J0 B 16 1 (Q9 50 52 (([1,23,24,25]:List Nat).zip (Wt r i)) Qp Wu) (Q8 (XY r i)) (2+(XY r i).length)
 (lQ r i Qp++[(26,Wi),(28,Z4 (i+1))]) 0 [] []) [1,23,24,25] [(2,KS.auto)] []=some ⟨50,52,Wu,[],.run,none,Wt r (i+1),XY r (i+1),
 [wq (i+1)=i+1,Rx (Qg.X9 (r.Qb.getD i.toNat La)) i=false]++cY B r i Qp⟩:=by kernel_rfl
theorem zp:Xq (Qq YP (Q6 YP) J0 B 16 1 (Q9 50 52 (([1,23,24,25]:List Nat).zip (Wt r i)) Qp Wu) (Q8 (XY r i)) (2+(XY r i).length)
 (lU r i Qp++[(8,Qh.pure (.bool false) [])]) 0 [] []) []=some (.bool false,
 [Q3 []/\Qr YP J0 73 #[.agg (TE (r.Qb.getD i.toNat La))] (.bool false)]++dc B r i Qp):=by kernel_rfl
theorem zo:Xq (Qq YP (Q6 YP) J0 B 9 1 (Q9 50 52 (([1,23,24,25]:List Nat).zip (Wt r i)) Qp Wu) (Q8 (XY r i)) (2+(XY r i).length)
 [(0,Wi)] 0 [] []) []=some (.bool true,
 [XA i (↑r.Qb.length:Int)=false]):=by kernel_rfl
def cX(B:Lo)(r:Qo):List Prop:=[Q3 []/\Qr YP J0 72 (lM r) (.bool true)]++([]:List Prop)
def lP(r:Qo):QI:=[(5,Qh.pure (.bool true) [])]
def cW:List Prop:=[Q3 []/\Qr YP J0 72 (lL r) (.bool true)]++cX B r
def lO:QI:=lP r++[(10,Qh.pure (.bool true) [])]
theorem zm:landM (Qq YP (Q6 YP) J0 B 12 1 (Qx YP 50 52 (([.agg (Q1 r).toArray]).map (Q7 0 4))) Zb 1
 (lO r++[(16,Qh.pure (.bool true) [])]) 0 [] []) [1,23,24,25] [(1,KS.auto)] []=some ⟨50,52,Wu,[],.run,none,Wt r (0),XY r (0),
 [Q3 []/\Qr YP J0 72 (lK r) (.bool true)]++cW B r⟩:=by kernel_rfl
theorem zl:Xq (Qq YP (Q6 YP) J0 B 10 1 (Qx YP 50 52 (([.agg (Q1 r).toArray]).map (Q7 0 4))) Zb 1
 (lO r++[(16,Qh.pure (.bool false) [])]) 0 [] []) []=some (.bool false,
 [Q3 []/\Qr YP J0 72 (lK r) (.bool false)]++cW B r):=by kernel_rfl
theorem zk:Xq (Qq YP (Q6 YP) J0 B 10 1 (Qx YP 50 52 (([.agg (Q1 r).toArray]).map (Q7 0 4))) Zb 1
 (lP r++[(10,Qh.pure (.bool false) [])]) 0 [] []) []=some (.bool false,
 [Q3 []/\Qr YP J0 72 (lL r) (.bool false)]++cX B r):=by kernel_rfl
theorem uA:Xq (Qq YP (Q6 YP) J0 B 10 1 (Qx YP 50 52 (([.agg (Q1 r).toArray]).map (Q7 0 4))) Zb 1
 [(5,Qh.pure (.bool false) [])] 0 [] []) []=some (.bool false,
 [Q3 []/\Qr YP J0 72 (lM r) (.bool false)]):=by kernel_rfl
end
set_option maxHeartbeats 4000000 in
theorem zx(r:Qo)  (XV:r.Qb.length<=9223372036854775807){B:Lo}(hJ:∀w,B.has w->J0 w){c0:CF}:∀m:Nat,(∀(i:Int),r.Qb.length-i.toNat=m->∀(h0:0<=i),zy B c0 r i->EndsT YP B c0 (.bool (RI r.Qb i))):=by
 intro m0;induction m0 using LB with
 |_ m0 ih0=>
  intro i UX h0 ⟨Qp,Zr,Xo⟩;by_cases q0:(i:Int)<((↑r.Qb.length:Int))
  ·have Uc:Q3 (dc B r i Qp):=by
    exact⟨⟨by omega,by omega,(Qu (z:=12) (fun _=>rfl) (by omega))⟩,⟨(Xh q0),trivial⟩⟩
   cases q1:Zs (r.Qb.getD i.toNat La)with
   |true=>
    have Yi:Q3 (db B r i Qp):=by
     exact⟨⟨trivial,(by have t_:=uL (r.Qb.getD i.toNat La);rw[q1]at t_;exact t_)⟩,Uc⟩
    by_cases q2:(Qg.X9 (r.Qb.getD i.toNat La):Int)≠(-1)
    ·have Sm:Q3 (da B r i Qp):=by
      exact⟨(zX q2),Yi⟩
     cases q3:Kk (Qg.X9 (r.Qb.getD i.toNat La)) 0 ((↑r.Qb.length:Int)-1)with
     |true=>
      have hp3:Q3 (cZ B r i Qp):=by
       exact⟨⟨trivial,(by have t_:=pI (r) (Qg.X9 (r.Qb.getD i.toNat La));rw[q3]at t_;exact t_)⟩,Sm⟩
      by_cases q4:(Qg.X9 (r.Qb.getD i.toNat La):Int)=(i)
      ·have s2:=XK (ps:=r.Qb) q0;exact(GoE.endsT okF hJ Qf Xo (zw B r i Qp)
        ⟨(bl q4),hp3⟩).cast (by(rw[s2];simp_all[ZK,Pc];done))
      ·have s2:=XK (ps:=r.Qb) q0;exact((ih0 _ (by omega)) (i+1) rfl (by omega)
        (Xo.landM okF hJ Qf (zu B r i Qp)
        ⟨(QP (by omega) (by omega)),⟨(cu q4),hp3⟩⟩ (by kernel_rfl) (by kernel_rfl))).cast (by(rw[s2];simp_all[ZK,Pc];done))
     |false=>
      have s2:=XK (ps:=r.Qb) q0;exact(GoE.endsT okF hJ Qf Xo (zt B r i Qp)
       ⟨⟨trivial,(by have t_:=pI (r) (Qg.X9 (r.Qb.getD i.toNat La));rw[q3]at t_;exact t_)⟩,Sm⟩).cast (by(rw[s2];simp_all[ZK,Pc];done))
    ·have hp4:Q3 (cY B r i Qp):=by
      exact⟨(m9 (Decidable.of_not_not q2)),Yi⟩
     by_cases q3:(Qg.X9 (r.Qb.getD i.toNat La):Int)=(i)
     ·have s2:=XK (ps:=r.Qb) q0;have s2:=YS (ps:=r.Qb) (i:=i) (by omega);exact(GoE.endsT okF hJ Qf Xo (zr B r i Qp)
       ⟨(bl q3),hp4⟩).cast (by(rw[s2];simp_all[ZK,Pc];done))
     ·have s2:=XK (ps:=r.Qb) q0;exact((ih0 _ (by omega)) (i+1) rfl (by omega)
       (Xo.landM okF hJ Qf (zq B r i Qp)
       ⟨(QP (by omega) (by omega)),⟨(cu q3),hp4⟩⟩ (by kernel_rfl) (by kernel_rfl))).cast (by(rw[s2];simp_all[ZK,Pc];done))
   |false=>
    have s2:=XK (ps:=r.Qb) q0;exact(GoE.endsT okF hJ Qf Xo (zp B r i Qp)
     ⟨⟨trivial,(by have t_:=uL (r.Qb.getD i.toNat La);rw[q1]at t_;exact t_)⟩,Uc⟩).cast (by(rw[s2];simp_all[ZK,Pc];done))
  ·have s2:=YS (ps:=r.Qb) (i:=i) (by omega);exact(GoE.endsT okF hJ Qf Xo (zo B r i Qp)
    ⟨(X7 (Int.not_lt.1 q0)),trivial⟩).cast (by(rw[s2];done))
set_option maxHeartbeats 4000000 in
theorem CS(r:Qo)  (XV:r.Qb.length<=9223372036854775807){B:Lo}(hJ:∀w,B.has w->J0 w):EndsT YP B (Qx YP 50 52 (([.agg (Q1 r).toArray]).map (Q7 0 4))) (.bool (XW r)):=by
 cases q0:Kk (↑r.Qb.length:Int) 1 4 with
 |true=>
  have hp5:Q3 (cX B r):=by
   exact⟨⟨trivial,(by have t_:=yc ((↑r.Qb.length:Int)) (1) (4);rw[q0]at t_;exact t_)⟩,trivial⟩
  cases q1:Kk r.Qc 0 2000 with
  |true=>
   have hp6:Q3 (cW B r):=by
    exact⟨⟨trivial,(by have t_:=yc r.Qc (0) (2000);rw[q1]at t_;exact t_)⟩,hp5⟩
   cases q2:Kk r.Qd 1 4 with
   |true=>
    exact((zx r XV hJ _) (0) rfl (by omega)
     (GoE.start.landM okF hJ Qf (zm B r)
     ⟨⟨trivial,(by have t_:=yc r.Qd (1) (4);rw[q2]at t_;exact t_)⟩,hp6⟩ (by kernel_rfl) (by kernel_rfl))).cast (by(simp only[XW,PE];simp[*];done))
   |false=>
    exact(GoE.endsT okF hJ Qf GoE.start (zl B r)
     ⟨⟨trivial,(by have t_:=yc r.Qd (1) (4);rw[q2]at t_;exact t_)⟩,hp6⟩).cast (by(simp only[XW,PE];simp[*];done))
  |false=>
   exact(GoE.endsT okF hJ Qf GoE.start (zk B r)
    ⟨⟨trivial,(by have t_:=yc r.Qc (0) (2000);rw[q1]at t_;exact t_)⟩,hp5⟩).cast (by(simp only[XW,PE];simp[*];done))
 |false=>
  exact(GoE.endsT okF hJ Qf GoE.start (uA B r)
   ⟨⟨trivial,(by have t_:=yc ((↑r.Qb.length:Int)) (1) (4);rw[q0]at t_;exact t_)⟩,trivial⟩).cast (by(simp only[XW,PE];simp[*];done))
theorem bN(r:Qo)  :Qr YP J0 50 #[.agg (Q1 r).toArray] (.bool (XW r)):=
 UQ (ts:=[.agg (Q1 r).toArray]) (r.Qb.length<=9223372036854775807) (fun _ _ ht=>ht.ln2 (i:=0) (j:=0) rfl rfl) Za (c0:=Qx YP 50 52 (([.agg (Q1 r).toArray]).map (Q7 0 4))) (by kernel_rfl) (by kernel_rfl) fun XV B hJ=>CS r  XV hJ
section
variable (B:Lo)(c0:CF)(r:Qo)(i:Int)(Qp:Nat->Value)
def Z0(r:Qo)(i:Int):List Value:=[pA 2 0,YI i]
def Xx(i:Int):List Obj:=[Obj.cells #[Q2 1 (QH r.Qb.length (Qe Qi r.Qb)),YI r.Qc,YI r.Qd] 24]
def Z1:List Item:=([.code [1,0,1,0,0],.inLoop [1,0,1,0,0],.inBlock 0,.code [1,1]]).map (it (QG YP 20))
def Fl:Prop:=∃dJ:Nat->Value,(∀t,Xe (dJ t))/\GoE YP B c0 Zb 1 (Q9 20 111 (([1,3]:List Nat).zip (Z0 r i)) dJ Z1) (Q8 (Xx r i)) (2+(Xx r i).length) []
def P3:=(r.Qb.getD i.toNat La)
def PW:=(P3 r i)
def EY:=(PW r i)
def tF:Array Value:=let a:=EY r i;#[YI a.count,YI a.room,YI a.Yj,YI a.Yk,YI a.QN,YI a.X9,YI a.VW,YI a.VX,YI a.VP,YI a.VQ,YI a.goal,YI a.Vt]
def tE:Array Value:=#[.agg #[YI (Qg.VW (PW r i)),YI (Qg.VX (PW r i))],YI 1000000]
def tC:Array Value:=#[.agg #[YI (Qg.VP (PW r i)),YI (Qg.VQ (PW r i))],YI 1000000]
def tB:Array Value:=#[.agg #[YI (Qg.Yj (PW r i)),YI (Qg.Yk (PW r i))],YI 2000]
def tA:Array Value:=#[YI (Qg.X9 (P3 r i)),YI (-1),YI ((↑r.Qb.length:Int)-1)]
def tz:Array Value:=#[YI (Qg.count (P3 r i)),YI 0,YI 1000000]
def tx:Array Value:=#[YI (Qg.Vt (P3 r i)),YI 0,YI 1000000]
def tw:Array Value:=#[YI (Qg.room (P3 r i)),YI 0,YI 1000000]
def pc:Array Value:=#[YI (Qg.goal (P3 r i)),YI 0,YI 1000000]
def oZ:Array Value:=#[YI (Qg.QN (r.Qb.getD i.toNat La)),YI 0,YI 1000]
def oY:Array Value:=#[YI (↑r.Qb.length:Int),YI 1,YI 4]
def oX:Array Value:=#[YI r.Qc,YI 0,YI 2000]
def oW:Array Value:=#[YI r.Qd,YI 1,YI 4]
def lh(B:Lo)(r:Qo)(i:Int)(Qp:Nat->Value):List Prop:=[Vr i r.Qb.length (Qe Qi r.Qb) Try.t54.size (tF r i),XA i (↑r.Qb.length:Int)=true]++([]:List Prop)
def tP(Qp:Nat->Value):QI:=[(4,ZC),(8,Qh.tidx i.toNat (tF r i))]
def kZ:List Prop:=[Q3 []/\Qr YP J0 55 (tz r i) (.bool true)]++lh B r i Qp
def tO:QI:=tP r i Qp++[(14,Qh.pure (.bool true) [])]
def kY:List Prop:=[Q3 []/\Qr YP J0 55 (tw r i) (.bool true)]++kZ B r i Qp
def tN:QI:=tO r i Qp++[(19,Qh.pure (.bool true) [])]
def kX:List Prop:=[Q3 []/\Qr YP J0 55 (pc r i) (.bool true)]++kY B r i Qp
def tM:QI:=tN r i Qp++[(25,Qh.pure (.bool true) [])]
def kW:List Prop:=[Q3 []/\Qr YP J0 56 (tB r i) (.bool true)]++kX B r i Qp
def tL:QI:=tM r i Qp++[(31,Qh.pure (.bool true) [])]
def kU:List Prop:=[wq ((↑r.Qb.length:Int)-1)=(↑r.Qb.length:Int)-1,Q3 []/\Qr YP J0 55 (oZ r i) (.bool true)]++kW B r i Qp
def tK:QI:=tL r i Qp++[(37,Qh.pure (.bool true) []),(46,Z4 ((↑r.Qb.length:Int)-1))]
def kT:List Prop:=[Q3 []/\Qr YP J0 55 (tA r i) (.bool true)]++kU B r i Qp
def tJ:QI:=tK r i Qp++[(47,Qh.pure (.bool true) [])]
theorem Fj:Xq (Qq YP (Q6 YP) J0 B 16 1 (Q9 20 111 (([1,3]:List Nat).zip (Z0 r i)) Qp Z1) (Q8 (Xx r i)) (2+(Xx r i).length)
 (tJ r i Qp++[(54,ZC)]) 0 [] []) []=some (.bool false,
 [Rx (Qg.X9 (r.Qb.getD i.toNat La)) i=true]++kT B r i Qp):=by kernel_rfl
def kS:List Prop:=[Rx (Qg.X9 (r.Qb.getD i.toNat La)) i=false]++kT B r i Qp
def tI:QI:=tJ r i Qp++[(54,Wi)]
def kR:List Prop:=[Q3 []/\Qr YP J0 56 (tE r i) (.bool true)]++kS B r i Qp
def tH:QI:=tI r i Qp++[(59,Qh.pure (.bool true) [])]
def kQ:List Prop:=[Q3 []/\Qr YP J0 56 (tC r i) (.bool true)]++kR B r i Qp
def tG:QI:=tH r i Qp++[(65,Qh.pure (.bool true) [])]
theorem Fi(B:Lo)(r:Qo)(i:Int)(Qp:Nat->Value):let a:=r.Qb.getD i.toNat La;Xq (Qq YP (Q6 YP) J0 B 16 1 (Q9 20 111 (([1,3]:List Nat).zip (Z0 r i)) Qp Z1) (Q8 (Xx r i)) (2+(Xx r i).length)
 (tG r i Qp++[(75,ZC)]) 0 [] []) []=some (.bool false,
 [XA a.VW a.VP=true]++kQ B r i Qp):=by intro a;kernel_rfl
def gz:List Prop:=[XA (Qg.VW (r.Qb.getD i.toNat La)) (Qg.VP (r.Qb.getD i.toNat La))=false]++kQ B r i Qp
def pk:QI:=tG r i Qp++[(75,Wi)]
theorem Fh(B:Lo)(r:Qo)(i:Int)(Qp:Nat->Value):let a:=r.Qb.getD i.toNat La;Xq (Qq YP (Q6 YP) J0 B 16 1 (Q9 20 111 (([1,3]:List Nat).zip (Z0 r i)) Qp Z1) (Q8 (Xx r i)) (2+(Xx r i).length)
 (pk r i Qp++[(84,ZC)]) 0 [] []) []=some (.bool false,
 [XA a.VX a.VQ=true]++gz B r i Qp):=by intro a;kernel_rfl
def gy:List Prop:=[XA (Qg.VX (r.Qb.getD i.toNat La)) (Qg.VQ (r.Qb.getD i.toNat La))=false]++gz B r i Qp
def pj:QI:=pk r i Qp++[(84,Wi)]
theorem Fg:landM (Qq YP (Q6 YP) J0 B 16 1 (Q9 20 111 (([1,3]:List Nat).zip (Z0 r i)) Qp Z1) (Q8 (Xx r i)) (2+(Xx r i).length)
 (pj r i Qp++[(89,Qh.pure (.bool true) []),(93,Z4 (i+1))]) 0 [] []) [1,3] [(2,KS.auto)] []=some ⟨20,111,Z1,[],.run,none,Z0 r (i+1),Xx r (i+1),
 [wq (i+1)=i+1,Q3 []/\Qr YP J0 55 (tx r i) (.bool true)]++gy B r i Qp⟩:=by kernel_rfl
theorem Ff:Xq (Qq YP (Q6 YP) J0 B 16 1 (Q9 20 111 (([1,3]:List Nat).zip (Z0 r i)) Qp Z1) (Q8 (Xx r i)) (2+(Xx r i).length)
 (pj r i Qp++[(89,Qh.pure (.bool false) [])]) 0 [] []) []=some (.bool false,
 [Q3 []/\Qr YP J0 55 (tx r i) (.bool false)]++gy B r i Qp):=by kernel_rfl
theorem Fe:Xq (Qq YP (Q6 YP) J0 B 16 1 (Q9 20 111 (([1,3]:List Nat).zip (Z0 r i)) Qp Z1) (Q8 (Xx r i)) (2+(Xx r i).length)
 (tH r i Qp++[(65,Qh.pure (.bool false) [])]) 0 [] []) []=some (.bool false,
 [Q3 []/\Qr YP J0 56 (tC r i) (.bool false)]++kR B r i Qp):=by kernel_rfl
theorem Fc:Xq (Qq YP (Q6 YP) J0 B 16 1 (Q9 20 111 (([1,3]:List Nat).zip (Z0 r i)) Qp Z1) (Q8 (Xx r i)) (2+(Xx r i).length)
 (tI r i Qp++[(59,Qh.pure (.bool false) [])]) 0 [] []) []=some (.bool false,
 [Q3 []/\Qr YP J0 56 (tE r i) (.bool false)]++kS B r i Qp):=by kernel_rfl
theorem Fb:Xq (Qq YP (Q6 YP) J0 B 16 1 (Q9 20 111 (([1,3]:List Nat).zip (Z0 r i)) Qp Z1) (Q8 (Xx r i)) (2+(Xx r i).length)
 (tK r i Qp++[(47,Qh.pure (.bool false) [])]) 0 [] []) []=some (.bool false,
 [Q3 []/\Qr YP J0 55 (tA r i) (.bool false)]++kU B r i Qp):=by kernel_rfl
theorem Fa:Xq (Qq YP (Q6 YP) J0 B 16 1 (Q9 20 111 (([1,3]:List Nat).zip (Z0 r i)) Qp Z1) (Q8 (Xx r i)) (2+(Xx r i).length)
 (tL r i Qp++[(37,Qh.pure (.bool false) [])]) 0 [] []) []=some (.bool false,
 [Q3 []/\Qr YP J0 55 (oZ r i) (.bool false)]++kW B r i Qp):=by kernel_rfl
theorem EZ:Xq (Qq YP (Q6 YP) J0 B 16 1 (Q9 20 111 (([1,3]:List Nat).zip (Z0 r i)) Qp Z1) (Q8 (Xx r i)) (2+(Xx r i).length)
 (tM r i Qp++[(31,Qh.pure (.bool false) [])]) 0 [] []) []=some (.bool false,
 [Q3 []/\Qr YP J0 56 (tB r i) (.bool false)]++kX B r i Qp):=by kernel_rfl
theorem Cm:Xq (Qq YP (Q6 YP) J0 B 16 1 (Q9 20 111 (([1,3]:List Nat).zip (Z0 r i)) Qp Z1) (Q8 (Xx r i)) (2+(Xx r i).length)
 (tN r i Qp++[(25,Qh.pure (.bool false) [])]) 0 [] []) []=some (.bool false,
 [Q3 []/\Qr YP J0 55 (pc r i) (.bool false)]++kY B r i Qp):=by kernel_rfl
theorem Cl:Xq (Qq YP (Q6 YP) J0 B 16 1 (Q9 20 111 (([1,3]:List Nat).zip (Z0 r i)) Qp Z1) (Q8 (Xx r i)) (2+(Xx r i).length)
 (tO r i Qp++[(19,Qh.pure (.bool false) [])]) 0 [] []) []=some (.bool false,
 [Q3 []/\Qr YP J0 55 (tw r i) (.bool false)]++kZ B r i Qp):=by kernel_rfl
theorem Ck:Xq (Qq YP (Q6 YP) J0 B 16 1 (Q9 20 111 (([1,3]:List Nat).zip (Z0 r i)) Qp Z1) (Q8 (Xx r i)) (2+(Xx r i).length)
 (tP r i Qp++[(14,Qh.pure (.bool false) [])]) 0 [] []) []=some (.bool false,
 [Q3 []/\Qr YP J0 55 (tz r i) (.bool false)]++lh B r i Qp):=by kernel_rfl
def gx(B:Lo)(r:Qo)(i:Int)(Qp:Nat->Value):List Prop:=[XA i (↑r.Qb.length:Int)=false]++([]:List Prop)
def ph(r:Qo)(i:Int)(Qp:Nat->Value):QI:=[(4,Wi)]
def gv:List Prop:=[Q3 []/\Qr YP J0 55 (oY r) (.bool true)]++gx B r i Qp
def pf:QI:=ph r i Qp++[(8,Qh.pure (.bool true) [])]
def gu:List Prop:=[Q3 []/\Qr YP J0 55 (oX r) (.bool true)]++gv B r i Qp
def pd:QI:=pf r i Qp++[(12,Qh.pure (.bool true) [])]
theorem Cj:Xq (Qq YP (Q6 YP) J0 B 9 1 (Q9 20 111 (([1,3]:List Nat).zip (Z0 r i)) Qp Z1) (Q8 (Xx r i)) (2+(Xx r i).length)
 (pd r i Qp++[(17,Qh.pure (.bool true) [])]) 0 [] []) []=some (.bool true,
 [Q3 []/\Qr YP J0 55 (oW r) (.bool true)]++gu B r i Qp):=by kernel_rfl
theorem Ci:Xq (Qq YP (Q6 YP) J0 B 9 1 (Q9 20 111 (([1,3]:List Nat).zip (Z0 r i)) Qp Z1) (Q8 (Xx r i)) (2+(Xx r i).length)
 (pd r i Qp++[(17,Qh.pure (.bool false) [])]) 0 [] []) []=some (.bool false,
 [Q3 []/\Qr YP J0 55 (oW r) (.bool false)]++gu B r i Qp):=by kernel_rfl
theorem Ch:Xq (Qq YP (Q6 YP) J0 B 9 1 (Q9 20 111 (([1,3]:List Nat).zip (Z0 r i)) Qp Z1) (Q8 (Xx r i)) (2+(Xx r i).length)
 (pf r i Qp++[(12,Qh.pure (.bool false) [])]) 0 [] []) []=some (.bool false,
 [Q3 []/\Qr YP J0 55 (oX r) (.bool false)]++gv B r i Qp):=by kernel_rfl
theorem Cg:Xq (Qq YP (Q6 YP) J0 B 9 1 (Q9 20 111 (([1,3]:List Nat).zip (Z0 r i)) Qp Z1) (Q8 (Xx r i)) (2+(Xx r i).length)
 (ph r i Qp++[(8,Qh.pure (.bool false) [])]) 0 [] []) []=some (.bool false,
 [Q3 []/\Qr YP J0 55 (oY r) (.bool false)]++gx B r i Qp):=by kernel_rfl
theorem Cf:landM (Qq YP (Q6 YP) J0 B 7 1 (Qx YP 20 111 (([.agg (Q1 r).toArray]).map (Q7 0 4))) Zb 1
 [] 0 [] []) [1,3] [(1,KS.auto)] []=some ⟨20,111,Z1,[],.run,none,Z0 r (0),Xx r (0),
 []⟩:=by kernel_rfl
end
set_option maxHeartbeats 4000000 in
theorem Fk(r:Qo)  (XV:r.Qb.length<=9223372036854775807){B:Lo}(hJ:∀w,B.has w->J0 w){c0:CF}:∀m:Nat,(∀(i:Int),r.Qb.length-i.toNat=m->∀(h0:0<=i),Fl B c0 r i->EndsT YP B c0 (.bool (RI r.Qb i && PE r))):=by
 intro m0;induction m0 using LB with
 |_ m0 ih0=>
  intro i UX h0 ⟨Qp,Zr,Xo⟩;have s3:=Mv (n:=r.Qb.length) (v:=(r.Qb.getD i.toNat La).X9) (by omega);by_cases q0:(i:Int)<((↑r.Qb.length:Int))
  ·have Uc:Q3 (lh B r i Qp):=by
    exact⟨⟨by omega,by omega,(Qu (z:=12) (fun _=>rfl) (by omega))⟩,⟨(Xh q0),trivial⟩⟩
   cases q1:Kk (Qg.count (r.Qb.getD i.toNat La)) 0 1000000 with
   |true=>
    have Yi:Q3 (kZ B r i Qp):=by
     exact⟨⟨trivial,(by have t_:=oS (Qg.count (r.Qb.getD i.toNat La)) (0) (1000000);rw[q1]at t_;exact t_)⟩,Uc⟩
    cases q2:Kk (Qg.room (r.Qb.getD i.toNat La)) 0 1000000 with
    |true=>
     have Sm:Q3 (kY B r i Qp):=by
      exact⟨⟨trivial,(by have t_:=oS (Qg.room (r.Qb.getD i.toNat La)) (0) (1000000);rw[q2]at t_;exact t_)⟩,Yi⟩
     cases q3:Kk (Qg.goal (r.Qb.getD i.toNat La)) 0 1000000 with
     |true=>
      have hp3:Q3 (kX B r i Qp):=by
       exact⟨⟨trivial,(by have t_:=oS (Qg.goal (r.Qb.getD i.toNat La)) (0) (1000000);rw[q3]at t_;exact t_)⟩,Sm⟩
      cases q4:WB (Qg.Yj (r.Qb.getD i.toNat La)) (Qg.Yk (r.Qb.getD i.toNat La)) 0 2000 with
      |true=>
       have hp4:Q3 (kW B r i Qp):=by
        exact⟨⟨trivial,(by have t_:=oV (Qg.Yj (r.Qb.getD i.toNat La)) (Qg.Yk (r.Qb.getD i.toNat La)) (2000);rw[q4]at t_;exact t_)⟩,hp3⟩
       cases q5:Kk (Qg.QN (r.Qb.getD i.toNat La)) 0 1000 with
       |true=>
        have hp5:Q3 (kU B r i Qp):=by
         exact⟨(QP (by omega) (by omega)),⟨⟨trivial,(by have t_:=oS (Qg.QN (r.Qb.getD i.toNat La)) (0) (1000);rw[q5]at t_;exact t_)⟩,hp4⟩⟩
        cases q6:Kk (Qg.X9 (r.Qb.getD i.toNat La)) (-1) ((↑r.Qb.length:Int)-1)with
        |true=>
         have hp6:Q3 (kT B r i Qp):=by
          exact⟨⟨trivial,(by have t_:=oS (Qg.X9 (r.Qb.getD i.toNat La)) (-1) ((↑r.Qb.length:Int)-1);rw[q6]at t_;exact t_)⟩,hp5⟩
         by_cases q7:(Qg.X9 (r.Qb.getD i.toNat La):Int)=(i)
         ·have s2:=XK (ps:=r.Qb) q0;exact(GoE.endsT okF hJ Qf Xo (Fj B r i Qp)
           ⟨(bl q7),hp6⟩).cast (by(rw[s2];rw[s3]at *;simp_all[ZK,Zs];done))
         ·have hp7:Q3 (kS B r i Qp):=by
           exact⟨(cu q7),hp6⟩
          cases q8:WB (Qg.VW (r.Qb.getD i.toNat La)) (Qg.VX (r.Qb.getD i.toNat La)) 0 1000000 with
          |true=>
           have hp8:Q3 (kR B r i Qp):=by
            exact⟨⟨trivial,(by have t_:=oV (Qg.VW (r.Qb.getD i.toNat La)) (Qg.VX (r.Qb.getD i.toNat La)) (1000000);rw[q8]at t_;exact t_)⟩,hp7⟩
           cases q9:WB (Qg.VP (r.Qb.getD i.toNat La)) (Qg.VQ (r.Qb.getD i.toNat La)) 0 1000000 with
           |true=>
            have hp9:Q3 (kQ B r i Qp):=by
             exact⟨⟨trivial,(by have t_:=oV (Qg.VP (r.Qb.getD i.toNat La)) (Qg.VQ (r.Qb.getD i.toNat La)) (1000000);rw[q9]at t_;exact t_)⟩,hp8⟩
            by_cases q10:(Qg.VW (r.Qb.getD i.toNat La):Int)<(Qg.VP (r.Qb.getD i.toNat La))
            ·have s2:=XK (ps:=r.Qb) q0;exact(GoE.endsT okF hJ Qf Xo (Fi B r i Qp)
              ⟨(Xh q10),hp9⟩).cast (by(rw[s2];rw[s3]at *;simp_all[ZK,Zs];omega))
            ·have hp10:Q3 (gz B r i Qp):=by
              exact⟨(X7 (Int.not_lt.1 q10)),hp9⟩
             by_cases q11:(Qg.VX (r.Qb.getD i.toNat La):Int)<(Qg.VQ (r.Qb.getD i.toNat La))
             ·have s2:=XK (ps:=r.Qb) q0;exact(GoE.endsT okF hJ Qf Xo (Fh B r i Qp)
               ⟨(Xh q11),hp10⟩).cast (by(rw[s2];rw[s3]at *;simp_all[ZK,Zs];omega))
             ·have hp11:Q3 (gy B r i Qp):=by
               exact⟨(X7 (Int.not_lt.1 q11)),hp10⟩
              cases q12:Kk (Qg.Vt (r.Qb.getD i.toNat La)) 0 1000000 with
              |true=>
               have s2:=XK (ps:=r.Qb) q0;exact((ih0 _ (by omega)) (i+1) rfl (by omega)
                (Xo.landM okF hJ Qf (Fg B r i Qp)
                ⟨(QP (by omega) (by omega)),⟨⟨trivial,(by have t_:=oS (Qg.Vt (r.Qb.getD i.toNat La)) (0) (1000000);rw[q12]at t_;exact t_)⟩,hp11⟩⟩ (by kernel_rfl) (by kernel_rfl))).cast (by(rw[s2];rw[s3]at *;simp_all[ZK,Zs];done))
              |false=>
               have s2:=XK (ps:=r.Qb) q0;exact(GoE.endsT okF hJ Qf Xo (Ff B r i Qp)
                ⟨⟨trivial,(by have t_:=oS (Qg.Vt (r.Qb.getD i.toNat La)) (0) (1000000);rw[q12]at t_;exact t_)⟩,hp11⟩).cast (by(rw[s2];rw[s3]at *;simp_all[ZK,Zs];done))
           |false=>
            have s2:=XK (ps:=r.Qb) q0;exact(GoE.endsT okF hJ Qf Xo (Fe B r i Qp)
             ⟨⟨trivial,(by have t_:=oV (Qg.VP (r.Qb.getD i.toNat La)) (Qg.VQ (r.Qb.getD i.toNat La)) (1000000);rw[q9]at t_;exact t_)⟩,hp8⟩).cast (by(rw[s2];rw[s3]at *;simp_all[ZK,Zs];done))
          |false=>
           have s2:=XK (ps:=r.Qb) q0;exact(GoE.endsT okF hJ Qf Xo (Fc B r i Qp)
            ⟨⟨trivial,(by have t_:=oV (Qg.VW (r.Qb.getD i.toNat La)) (Qg.VX (r.Qb.getD i.toNat La)) (1000000);rw[q8]at t_;exact t_)⟩,hp7⟩).cast (by(rw[s2];rw[s3]at *;simp_all[ZK,Zs];done))
        |false=>
         have s2:=XK (ps:=r.Qb) q0;exact(GoE.endsT okF hJ Qf Xo (Fb B r i Qp)
          ⟨⟨trivial,(by have t_:=oS (Qg.X9 (r.Qb.getD i.toNat La)) (-1) ((↑r.Qb.length:Int)-1);rw[q6]at t_;exact t_)⟩,hp5⟩).cast (by(rw[s2];rw[s3]at *;simp_all[ZK,Zs];done))
       |false=>
        have s2:=XK (ps:=r.Qb) q0;exact(GoE.endsT okF hJ Qf Xo (Fa B r i Qp)
         ⟨⟨trivial,(by have t_:=oS (Qg.QN (r.Qb.getD i.toNat La)) (0) (1000);rw[q5]at t_;exact t_)⟩,hp4⟩).cast (by(rw[s2];rw[s3]at *;simp_all[ZK,Zs];done))
      |false=>
       have s2:=XK (ps:=r.Qb) q0;exact(GoE.endsT okF hJ Qf Xo (EZ B r i Qp)
        ⟨⟨trivial,(by have t_:=oV (Qg.Yj (r.Qb.getD i.toNat La)) (Qg.Yk (r.Qb.getD i.toNat La)) (2000);rw[q4]at t_;exact t_)⟩,hp3⟩).cast (by(rw[s2];rw[s3]at *;simp_all[ZK,Zs];done))
     |false=>
      have s2:=XK (ps:=r.Qb) q0;exact(GoE.endsT okF hJ Qf Xo (Cm B r i Qp)
       ⟨⟨trivial,(by have t_:=oS (Qg.goal (r.Qb.getD i.toNat La)) (0) (1000000);rw[q3]at t_;exact t_)⟩,Sm⟩).cast (by(rw[s2];rw[s3]at *;simp_all[ZK,Zs];done))
    |false=>
     have s2:=XK (ps:=r.Qb) q0;exact(GoE.endsT okF hJ Qf Xo (Cl B r i Qp)
      ⟨⟨trivial,(by have t_:=oS (Qg.room (r.Qb.getD i.toNat La)) (0) (1000000);rw[q2]at t_;exact t_)⟩,Yi⟩).cast (by(rw[s2];rw[s3]at *;simp_all[ZK,Zs];done))
   |false=>
    have s2:=XK (ps:=r.Qb) q0;exact(GoE.endsT okF hJ Qf Xo (Ck B r i Qp)
     ⟨⟨trivial,(by have t_:=oS (Qg.count (r.Qb.getD i.toNat La)) (0) (1000000);rw[q1]at t_;exact t_)⟩,Uc⟩).cast (by(rw[s2];rw[s3]at *;simp_all[ZK,Zs];done))
  ·have hp12:Q3 (gx B r i Qp):=by
    exact⟨(X7 (Int.not_lt.1 q0)),trivial⟩
   cases q1:Kk (↑r.Qb.length:Int) 1 4 with
   |true=>
    have hp13:Q3 (gv B r i Qp):=by
     exact⟨⟨trivial,(by have t_:=oS ((↑r.Qb.length:Int)) (1) (4);rw[q1]at t_;exact t_)⟩,hp12⟩
    cases q2:Kk r.Qc 0 2000 with
    |true=>
     have hp14:Q3 (gu B r i Qp):=by
      exact⟨⟨trivial,(by have t_:=oS r.Qc (0) (2000);rw[q2]at t_;exact t_)⟩,hp13⟩
     cases q3:Kk r.Qd 1 4 with
     |true=>
      have s2:=YS (ps:=r.Qb) (i:=i) (by omega);exact(GoE.endsT okF hJ Qf Xo (Cj B r i Qp)
       ⟨⟨trivial,(by have t_:=oS r.Qd (1) (4);rw[q3]at t_;exact t_)⟩,hp14⟩).cast (by(rw[s2];simp_all[PE];done))
     |false=>
      have s2:=YS (ps:=r.Qb) (i:=i) (by omega);exact(GoE.endsT okF hJ Qf Xo (Ci B r i Qp)
       ⟨⟨trivial,(by have t_:=oS r.Qd (1) (4);rw[q3]at t_;exact t_)⟩,hp14⟩).cast (by(rw[s2];simp_all[PE];done))
    |false=>
     have s2:=YS (ps:=r.Qb) (i:=i) (by omega);exact(GoE.endsT okF hJ Qf Xo (Ch B r i Qp)
      ⟨⟨trivial,(by have t_:=oS r.Qc (0) (2000);rw[q2]at t_;exact t_)⟩,hp13⟩).cast (by(rw[s2];simp_all[PE];done))
   |false=>
    have s2:=YS (ps:=r.Qb) (i:=i) (by omega);exact(GoE.endsT okF hJ Qf Xo (Cg B r i Qp)
     ⟨⟨trivial,(by have t_:=oS ((↑r.Qb.length:Int)) (1) (4);rw[q1]at t_;exact t_)⟩,hp12⟩).cast (by(rw[s2];simp_all[PE];done))
set_option maxHeartbeats 4000000 in
theorem IJ(r:Qo)  (XV:r.Qb.length<=9223372036854775807){B:Lo}(hJ:∀w,B.has w->J0 w):EndsT YP B (Qx YP 20 111 (([.agg (Q1 r).toArray]).map (Q7 0 4))) (.bool (XW r)):=by
 exact((Fk r XV hJ _) (0) rfl (by omega)
  (GoE.start.landM okF hJ Qf (Cf B r)
  trivial (by kernel_rfl) (by kernel_rfl))).cast (by(simp only[XW];rw[Bool.and_comm];done))
theorem tQ(r:Qo)  :Qr YP J0 20 #[.agg (Q1 r).toArray] (.bool (XW r)):=
 UQ (ts:=[.agg (Q1 r).toArray]) (r.Qb.length<=9223372036854775807) (fun _ _ ht=>ht.ln2 (i:=0) (j:=0) rfl rfl) Za (c0:=Qx YP 20 111 (([.agg (Q1 r).toArray]).map (Q7 0 4))) (by kernel_rfl) (by kernel_rfl) fun XV B hJ=>IJ r  XV hJ
end
end Go.Proofs.Ytncjjangllkokaa

namespace Go.Proofs.Ytncjjangllkokaa
open Go Go.CE Go.RowKit
noncomputable section
set_option maxRecDepth 100000
theorem N7:((VE 0:Nat):Int)=1:=rfl
theorem CG{i:Int}(h:0<=i):((VE (i+1):Nat):Int)=2*((VE i:Nat):Int):=by
 unfold VE;rw[show(i+1).toNat=i.toNat+1 by omega,Nat.pow_succ];omega
def hasB(n k:Int):Bool:=n.toNat.testBit k.toNat
theorem Ho{n k:Int}(hn:0<=n)(hk:1<=k):hasB n k=hasB (n / 2) (k-1):=by
 unfold hasB;obtain⟨j,hj⟩:∃j,k.toNat=j+1:=⟨k.toNat-1,by omega⟩
 rw[hj,show(k-1).toNat=j by omega,Nat.testBit_succ,show(n / 2).toNat=n.toNat / 2 by omega]
theorem OG{n:Int}(hn:0<=n):hasB n 0=decide (n % 2=1):=by
 unfold hasB;rw[show(0:Int).toNat=0 from rfl,Nat.testBit_zero];exact decide_eq_decide.2 (by omega)
theorem qD{n k:Int}:decide (((sC ((cK n k:Nat):Int) 1:Nat):Int)=1)=hasB n k:=by
 unfold hasB sC cK;rw[Int.toNat_natCast,show(1:Int).toNat=1 from rfl,Nat.and_one_is_mod,Nat.shiftRight_eq_div_pow,Nat.testBit_eq_decide_div_mod_eq];exact decide_eq_decide.2 (by omega)
def QQ(r:Qo)(Qa:List Int):List Value:=[Yh r.Qb,YI r.Qc,YI r.Qd,YI (Qa.getD 0 0),YI (Qa.getD 1 0),YI (Qa.getD 2 0),YI (Qa.getD 3 0)]
theorem XM{r:Qo}{Qa:List Int}(h:XZ r Qa=true):Qa.length=r.Qd/\∀x∈Qa,0<=x/\x<VE r.Qb.length:=by
 simp only[XZ,YB,decide_eq_true_iff,List.all_eq_true,cb]at h;exact⟨h.1,fun x hx=>by have:=h.2 x hx;omega⟩
section
variable (B:Lo)(c0:CF)(r:Qo)(s i:Int)(Qp:Nat->Value)
def av(r:Qo)(s i:Int):List Value:=[pA 2 0,YI s,YI i]
def Jo(s i:Int):List Obj:=[Obj.cells #[Q2 1 (QH r.Qb.length (Qe Qi r.Qb)),YI r.Qc,YI r.Qd] 24]
def aw:List Item:=([.code [1,1,0,1,0,0],.inLoop [1,1,0,1,0,0],.inBlock 0,.code [1,1,1]]).map (it (QG YP 69))
def EF:Prop:=∃dJ:Nat->Value,(∀t,Xe (dJ t))/\GoE YP B c0 Zb 1 (Q9 69 15 (([1,3,4]:List Nat).zip (av r s i)) dJ aw) (Q8 (Jo r s i)) (2+(Jo r s i).length) []
theorem ED:landM (Qq YP (Q6 YP) J0 B 11 1 (Q9 69 15 (([1,3,4]:List Nat).zip (av r s i)) Qp aw) (Q8 (Jo r s i)) (2+(Jo r s i).length)
 [(4,ZC),(6,Z4 (2*s)),(9,Z4 (i+1))] 0 [] []) [1,3,4] [(2,KS.auto)] []=some ⟨69,15,aw,[],.run,none,av r (2*s) (i+1),Jo r (2*s) (i+1),
 [wq (i+1)=i+1,wq (2*s)=2*s,XA i (↑r.Qb.length:Int)=true]⟩:=by kernel_rfl
theorem EC:Xq (Qq YP (Q6 YP) J0 B 9 1 (Q9 69 15 (([1,3,4]:List Nat).zip (av r s i)) Qp aw) (Q8 (Jo r s i)) (2+(Jo r s i).length)
 [(4,Wi)] 0 [] []) []=some (YI s,
 [XA i (↑r.Qb.length:Int)=false]):=by kernel_rfl
theorem EB:landM (Qq YP (Q6 YP) J0 B 9 1 (Qx YP 69 15 (([.agg (Q1 r).toArray]).map (Q7 0 4))) Zb 1
 [] 0 [] []) [1,3,4] [(1,KS.auto)] []=some ⟨69,15,aw,[],.run,none,av r (1) (0),Jo r (1) (0),
 []⟩:=by kernel_rfl
end
set_option maxHeartbeats 4000000 in
theorem EE(r:Qo)(hn:r.Qb.length<=61){B:Lo}(hJ:∀w,B.has w->J0 w){c0:CF}:∀m:Nat,(∀(s i:Int),r.Qb.length-i.toNat=m->∀(h0:0<=i) (h1:i<=r.Qb.length) (hs:s=((VE i:Nat):Int)),EF B c0 r s i->EndsT YP B c0 (YI ((VE r.Qb.length:Nat):Int))):=by
 intro m0;induction m0 using LB with
 |_ m0 ih0=>
  intro s i UX h0 h1 hs ⟨Qp,Zr,Xo⟩;have e1:=TC (n:=i) (by omega);have e2:=CG (i:=i) h0;by_cases q0:(i:Int)<((↑r.Qb.length:Int))
  ·have e3:=TC (n:=i+1) (by omega);exact((ih0 _ (by omega)) (2*s) (i+1) rfl (by omega) (by omega) (by omega)
    (Xo.landM okF hJ Qf (ED B r s i Qp)
    ⟨(QP (by omega) (by omega)),⟨(QP (by omega) (by omega)),⟨(Xh q0),trivial⟩⟩⟩ (by kernel_rfl) (by kernel_rfl))).cast (by rfl)
  ·have e3:=TC (n:=i+1) (by omega);exact(GoE.endsT okF hJ Qf Xo (EC B r s i Qp)
    ⟨(X7 (Int.not_lt.1 q0)),trivial⟩).cast (by(rw[hs,show i=r.Qb.length by omega];done))
set_option maxHeartbeats 4000000 in
theorem Iw(r:Qo)(hn:r.Qb.length<=61){B:Lo}(hJ:∀w,B.has w->J0 w):EndsT YP B (Qx YP 69 15 (([.agg (Q1 r).toArray]).map (Q7 0 4))) (YI ((VE r.Qb.length:Nat):Int)):=by
 exact((EE r hn hJ _) (1) (0) rfl (by omega) (by omega) (by exact N7.symm)
  (GoE.start.landM okF hJ Qf (EB B r)
  trivial (by kernel_rfl) (by kernel_rfl))).cast (by rfl)
theorem Ow(r:Qo)(hn:r.Qb.length<=61):Qr YP J0 69 #[.agg (Q1 r).toArray] (YI ((VE r.Qb.length:Nat):Int)):=
 Xi (ts:=[.agg (Q1 r).toArray]) Za (c0:=Qx YP 69 15 (([.agg (Q1 r).toArray]).map (Q7 0 4))) (by kernel_rfl) (by kernel_rfl) fun B hJ=>Iw r hn hJ
section
variable (B:Lo)(c0:CF)(r:Qo)(Qa:List Int)(i:Int)(Qp:Nat->Value)
def PX(r:Qo)(Qa:List Int)(i:Int):List Value:=[Q2 1 (QH Qa.length (Qe Q0 Qa)),pA 2 0,YI i]
def VC(Qa:List Int)(i:Int):List Obj:=[Obj.cells #[Q2 1 (QH r.Qb.length (Qe Qi r.Qb)),YI r.Qc,YI r.Qd] 24]
def PY:List Item:=([.code [1,0,1,0,0],.inLoop [1,0,1,0,0],.inBlock 0,.code [1,1]]).map (it (QG YP 41))
def Fu:Prop:=∃dJ:Nat->Value,(∀t,Xe (dJ t))/\GoE YP B c0 Zb 1 (Q9 41 26 (([1,2,5]:List Nat).zip (PX r Qa i)) dJ PY) (Q8 (VC r Qa i)) (2+(VC r Qa i).length) []
def tS:Array Value:=#[YI (Qa.getD i.toNat La),YI 0,YI ((↑(VE (↑r.Qb.length:Int)):Int)-1)]
def tR:Value:=(YI (↑(VE (↑r.Qb.length:Int)):Int))
def lk(B:Lo)(r:Qo)(Qa:List Int)(i:Int)(Qp:Nat->Value):List Prop:=let a:=Ld r.Qb;[wq ((↑(VE (↑a:Int)):Int)-1)=(↑(VE (↑a:Int)):Int)-1,Q3 []/\Qr YP J0 69 #[.agg #[QH a (Qe Qi r.Qb),YI r.Qc,YI r.Qd]] (tR r),Vr i Qa.length (Qe Q0 Qa) Try.t3.size #[YI (Qa.getD i.toNat La)],XA i (↑Qa.length:Int)=true]++([]:List Prop)
def tU(Qp:Nat->Value):QI:=[(3,ZC),(6,Qh.tidx i.toNat #[YI (Qa.getD i.toNat La)]),(9,Qh.pure (tR r) []),(10,Z4 ((↑(VE (↑r.Qb.length:Int)):Int)-1))]
theorem Fs:landM (Qq YP (Q6 YP) J0 B 14 1 (Q9 41 26 (([1,2,5]:List Nat).zip (PX r Qa i)) Qp PY) (Q8 (VC r Qa i)) (2+(VC r Qa i).length)
 (tU r Qa i Qp++[(11,Qh.pure (.bool true) []),(14,Z4 (i+1))]) 0 [] []) [1,2,5] [(2,KS.auto)] []=some ⟨41,26,PY,[],.run,none,PX r Qa (i+1),VC r Qa (i+1),
 [wq (i+1)=i+1,Q3 []/\Qr YP J0 55 (tS r Qa i) (.bool true)]++lk B r Qa i Qp⟩:=by kernel_rfl
theorem Fq:Xq (Qq YP (Q6 YP) J0 B 14 1 (Q9 41 26 (([1,2,5]:List Nat).zip (PX r Qa i)) Qp PY) (Q8 (VC r Qa i)) (2+(VC r Qa i).length)
 (tU r Qa i Qp++[(11,Qh.pure (.bool false) [])]) 0 [] []) []=some (.bool false,
 [Q3 []/\Qr YP J0 55 (tS r Qa i) (.bool false)]++lk B r Qa i Qp):=by kernel_rfl
def lj(B:Lo)(r:Qo)(Qa:List Int)(i:Int)(Qp:Nat->Value):List Prop:=[XA i (↑Qa.length:Int)=false]++([]:List Prop)
def tT(r:Qo)(Qa:List Int)(i:Int)(Qp:Nat->Value):QI:=[(3,Wi)]
theorem Fp:Xq (Qq YP (Q6 YP) J0 B 9 1 (Q9 41 26 (([1,2,5]:List Nat).zip (PX r Qa i)) Qp PY) (Q8 (VC r Qa i)) (2+(VC r Qa i).length)
 (tT r Qa i Qp++[(8,ZC)]) 0 [] []) []=some (.bool true,
 [Rx (↑Qa.length:Int) r.Qd=true]++lj B r Qa i Qp):=by kernel_rfl
theorem Fo:Xq (Qq YP (Q6 YP) J0 B 9 1 (Q9 41 26 (([1,2,5]:List Nat).zip (PX r Qa i)) Qp PY) (Q8 (VC r Qa i)) (2+(VC r Qa i).length)
 (tT r Qa i Qp++[(8,Wi)]) 0 [] []) []=some (.bool false,
 [Rx (↑Qa.length:Int) r.Qd=false]++lj B r Qa i Qp):=by kernel_rfl
theorem Fm:landM (Qq YP (Q6 YP) J0 B 7 1 (Qx YP 41 26 (([.agg (Q1 r).toArray,Zk Qa]).map (Q7 0 4))) Zb 1
 [] 0 [] []) [1,2,5] [(1,KS.auto)] []=some ⟨41,26,PY,[],.run,none,PX r Qa (0),VC r Qa (0),
 []⟩:=by kernel_rfl
end
set_option maxHeartbeats 4000000 in
theorem Ft(r:Qo)(Qa:List Int)(hn:r.Qb.length<=61)(XV:Qa.length<=9223372036854775807){B:Lo}(hJ:∀w,B.has w->J0 w){c0:CF}:∀m:Nat,(∀(i:Int),Qa.length-i.toNat=m->∀(h0:0<=i),Fu B c0 r Qa i->EndsT YP B c0 (.bool ((Qa.drop i.toNat).all (fun x=>Kk x 0 (((VE r.Qb.length:Nat):Int)-1)) && decide (Qa.length=r.Qd)))):=by
 intro m0;induction m0 using LB with
 |_ m0 ih0=>
  intro i UX h0 ⟨Qp,Zr,Xo⟩;have e1:=TC (n:=r.Qb.length) (by omega);have e1:=TC (n:=r.Qb.length) (by omega);by_cases q0:(i:Int)<((↑Qa.length:Int))
  ·have Uc:Q3 (lk B r Qa i Qp):=by
    have s2:=gQ (l:=Qa) (p:=fun x=>Kk x 0 (((VE r.Qb.length:Nat):Int)-1)) h0 q0;exact⟨(QP (by omega) (by omega)),⟨⟨trivial,Ow (r) (by with_reducible assumption)⟩,⟨⟨by omega,by omega,(Qu (z:=1) (fun _=>rfl) (by omega))⟩,⟨(Xh q0),trivial⟩⟩⟩⟩
   cases q1:Kk (Qa.getD i.toNat La) 0 ((↑(VE (↑r.Qb.length:Int)):Int)-1)with
   |true=>
    have s2:=gQ (l:=Qa) (p:=fun x=>Kk x 0 (((VE r.Qb.length:Nat):Int)-1)) h0 q0;exact((ih0 _ (by omega)) (i+1) rfl (by omega)
     (Xo.landM okF hJ Qf (Fs B r Qa i Qp)
     ⟨(QP (by omega) (by omega)),⟨⟨trivial,(by have t_:=oS (Qa.getD i.toNat La) (0) ((↑(VE (↑r.Qb.length:Int)):Int)-1);rw[q1]at t_;exact t_)⟩,Uc⟩⟩ (by kernel_rfl) (by kernel_rfl))).cast (by(rw[s2];simp_all;done))
   |false=>
    have s2:=gQ (l:=Qa) (p:=fun x=>Kk x 0 (((VE r.Qb.length:Nat):Int)-1)) h0 q0;exact(GoE.endsT okF hJ Qf Xo (Fq B r Qa i Qp)
     ⟨⟨trivial,(by have t_:=oS (Qa.getD i.toNat La) (0) ((↑(VE (↑r.Qb.length:Int)):Int)-1);rw[q1]at t_;exact t_)⟩,Uc⟩).cast (by(rw[s2];simp_all;done))
  ·have Yi:Q3 (lj B r Qa i Qp):=by
    exact⟨(X7 (Int.not_lt.1 q0)),trivial⟩
   by_cases q1:((↑Qa.length:Int):Int)=r.Qd
   ·have s2:=qj (l:=Qa) (p:=fun x=>Kk x 0 (((VE r.Qb.length:Nat):Int)-1)) (i:=i) (by omega);exact(GoE.endsT okF hJ Qf Xo (Fp B r Qa i Qp)
     ⟨(bl q1),Yi⟩).cast (by(rw[s2];simp[*];done))
   ·have s2:=qj (l:=Qa) (p:=fun x=>Kk x 0 (((VE r.Qb.length:Nat):Int)-1)) (i:=i) (by omega);exact(GoE.endsT okF hJ Qf Xo (Fo B r Qa i Qp)
     ⟨(cu q1),Yi⟩).cast (by(rw[s2];simp[*];done))
set_option maxHeartbeats 4000000 in
theorem IK(r:Qo)(Qa:List Int)(hn:r.Qb.length<=61)(XV:Qa.length<=9223372036854775807){B:Lo}(hJ:∀w,B.has w->J0 w):EndsT YP B (Qx YP 41 26 (([.agg (Q1 r).toArray,Zk Qa]).map (Q7 0 4))) (.bool (XZ r Qa)):=by
 have e1:=TC (n:=r.Qb.length) (by omega);exact((Ft r Qa hn XV hJ _) (0) rfl (by omega)
  (GoE.start.landM okF hJ Qf (Fm B r Qa)
  trivial (by kernel_rfl) (by kernel_rfl))).cast (by(simp[XZ,Bool.and_comm];done))
theorem MP(r:Qo)(Qa:List Int)(hn:r.Qb.length<=61):Qr YP J0 41 #[.agg (Q1 r).toArray,Zk Qa] (.bool (XZ r Qa)):=
 UQ (ts:=[.agg (Q1 r).toArray,Zk Qa]) (Qa.length<=9223372036854775807) (fun _ _ ht=>ht.ln (i:=1) rfl) Za (c0:=Qx YP 41 26 (([.agg (Q1 r).toArray,Zk Qa]).map (Q7 0 4))) (by kernel_rfl) (by kernel_rfl) fun XV B hJ=>IK r Qa hn XV hJ
section
variable (B:Lo)(c0:CF)(n k x i:Int)(Qp:Nat->Value)
def bA(n k:Int)(x i:Int):List Value:=[YI x,YI k,YI i]
def Ji(n k:Int)(x i:Int):List Obj:=[]
def bB:List Item:=([.code [1,0,1,0,0],.inLoop [1,0,1,0,0],.inBlock 0,.code [1,1]]).map (it (QG YP 47))
def IT:Prop:=∃dJ:Nat->Value,(∀t,Xe (dJ t))/\GoE YP B c0 Zb 1 (Q9 47 16 (([0,1,5]:List Nat).zip (bA n k x i)) dJ bB) (Q8 (Ji n k x i)) (2+(Ji n k x i).length) []
theorem IQ(B:Lo)(n k:Int)(x i:Int)(Qp:Nat->Value):let a:=Lc x 2;landM (Qq YP (Q6 YP) J0 B 11 1 (Q9 47 16 (([0,1,5]:List Nat).zip (bA n k x i)) Qp bB) (Q8 (Ji n k x i)) (2+(Ji n k x i).length)
 [(2,ZC),(4,Z4 a),(7,Z4 (i+1))] 0 [] []) [0,1,5] [] []=some ⟨47,16,bB,[],.run,none,bA n k a (i+1),Ji n k a (i+1),
 [wq (i+1)=i+1,IntKind.wrap .i64 a=Lc x 2,XA i k=true]⟩:=by intro a;kernel_rfl
def qM(B:Lo)(n k:Int)(x i:Int)(Qp:Nat->Value):List Prop:=[XA i k=false]++([]:List Prop)
def Bo(n k:Int)(x i:Int)(Qp:Nat->Value):QI:=[(2,Wi)]
theorem IP:Xq (Qq YP (Q6 YP) J0 B 9 1 (Q9 47 16 (([0,1,5]:List Nat).zip (bA n k x i)) Qp bB) (Q8 (Ji n k x i)) (2+(Ji n k x i).length)
 (Bo n k x i Qp++[(5,ZC)]) 0 [] []) []=some (.bool true,
 [Rx (Int.tmod x 2) 1=true]++qM B n k x i Qp):=by kernel_rfl
theorem IN:Xq (Qq YP (Q6 YP) J0 B 9 1 (Q9 47 16 (([0,1,5]:List Nat).zip (bA n k x i)) Qp bB) (Q8 (Ji n k x i)) (2+(Ji n k x i).length)
 (Bo n k x i Qp++[(5,Wi)]) 0 [] []) []=some (.bool false,
 [Rx (Int.tmod x 2) 1=false]++qM B n k x i Qp):=by kernel_rfl
theorem IM:landM (Qq YP (Q6 YP) J0 B 7 1 (Qx YP 47 16 (([YI n,YI k]).map (Q7 0 4))) Zb 1
 [] 0 [] []) [0,1,5] [] []=some ⟨47,16,bB,[],.run,none,bA n k (n) (0),Ji n k (n) (0),
 []⟩:=by kernel_rfl
end
set_option maxHeartbeats 4000000 in
theorem IS(n k:Int)(hn:0<=n/\n<=1000000000)(hk:0<=k/\k<=1000000000){B:Lo}(hJ:∀w,B.has w->J0 w){c0:CF}:∀m:Nat,(∀(x i:Int),(k-i).toNat=m->∀(h0:0<=i) (h1:i<=k) (h2:0<=x/\x<=1000000000) (hx:hasB x (k-i)=hasB n k),IT B c0 n k x i->EndsT YP B c0 (.bool (hasB n k))):=by
 intro m0;induction m0 using LB with
 |_ m0 ih0=>
  intro x i UX h0 h1 h2 hx ⟨Qp,Zr,Xo⟩;have e1:x.tdiv 2=x / 2:=LP h2.1;have e2:x.tmod 2=x % 2:=Int.tmod_eq_emod_of_nonneg h2.1;have e4:=OG (n:=x) h2.1;by_cases q0:(i:Int)<(k)
  ·have e3:=Ho (n:=x) (k:=k-i) h2.1 (by omega);exact((ih0 _ (by omega)) (Lc x 2) (i+1) rfl (by omega) (by omega) (by omega) (by(rw[<-hx,e3,e1,show k-(i+1)=k-i-1 by omega];done))
    (Xo.landM okF hJ Qf (IQ B n k x i Qp)
    ⟨(QP (by omega) (by omega)),⟨(Jf (by omega) (by omega)),⟨(Xh q0),trivial⟩⟩⟩ (by kernel_rfl) (by kernel_rfl))).cast (by rfl)
  ·have Uc:Q3 (qM B n k x i Qp):=by
    exact⟨(X7 (Int.not_lt.1 q0)),trivial⟩
   by_cases q1:(Int.tmod x 2:Int)=(1)
   ·exact(GoE.endsT okF hJ Qf Xo (IP B n k x i Qp)
     ⟨(bl q1),Uc⟩).cast (by(rw[<-hx,show k-i=0 by omega,e4];simp[*];omega))
   ·exact(GoE.endsT okF hJ Qf Xo (IN B n k x i Qp)
     ⟨(cu q1),Uc⟩).cast (by(rw[<-hx,show k-i=0 by omega,e4];simp[*];omega))
set_option maxHeartbeats 4000000 in
theorem Nx(n k:Int)(hn:0<=n/\n<=1000000000)(hk:0<=k/\k<=1000000000){B:Lo}(hJ:∀w,B.has w->J0 w):EndsT YP B (Qx YP 47 16 (([YI n,YI k]).map (Q7 0 4))) (.bool (hasB n k)):=by
 exact((IS n k hn hk hJ _) (n) (0) rfl (by omega) (by omega) (by with_reducible assumption) (by(simp_all;done))
  (GoE.start.landM okF hJ Qf (IM B n k)
  trivial (by kernel_rfl) (by kernel_rfl))).cast (by rfl)
theorem Pm(n k:Int)(hn:0<=n/\n<=1000000000)(hk:0<=k/\k<=1000000000):Qr YP J0 47 #[YI n,YI k] (.bool (hasB n k)):=
 Xi (ts:=[YI n,YI k]) Za (c0:=Qx YP 47 16 (([YI n,YI k]).map (Q7 0 4))) (by kernel_rfl) (by kernel_rfl) fun B hJ=>Nx n k hn hk hJ
section
variable (B:Lo)(r:Qo)(Qa:List Int)
def lW:Array Value:=#[QH Qa.length (Qe Q0 Qa),YI 0,YI ((↑(VE (↑r.Qb.length:Int)):Int)-1)]
def lV:Value:=(YI (↑(VE (↑r.Qb.length:Int)):Int))
def dd(B:Lo)(r:Qo)(Qa:List Int):List Prop:=let a:=Ld r.Qb;[wq ((↑(VE (↑a:Int)):Int)-1)=(↑(VE (↑a:Int)):Int)-1,oB YP BinOp.shl 3 (YI 1) (XT {len:=16000,tr:=Tri.set 14 Tri.lf 14 (YI (↑a:Int))} 14) (lV r),Rx (↑Qa.length:Int) r.Qd=true]++([]:List Prop)
def lX(Qa:List Int):QI:=[(6,ZC),(12,Qh.bin (lV r)),(13,Z4 ((↑(VE (↑r.Qb.length:Int)):Int)-1))]
theorem z1:Xq (Qq YP (Q6 YP) J0 B 6 1 (Qx YP 51 19 (([.agg (Q1 r).toArray,Zk Qa]).map (Q7 0 4))) Zb 1
 (lX r Qa++[(14,Qh.pure (.bool true) [])]) 0 [] []) []=some (.bool true,
 [Q3 []/\Qr YP J0 74 (lW r Qa) (.bool true)]++dd B r Qa):=by kernel_rfl
theorem z0:Xq (Qq YP (Q6 YP) J0 B 6 1 (Qx YP 51 19 (([.agg (Q1 r).toArray,Zk Qa]).map (Q7 0 4))) Zb 1
 (lX r Qa++[(14,Qh.pure (.bool false) [])]) 0 [] []) []=some (.bool false,
 [Q3 []/\Qr YP J0 74 (lW r Qa) (.bool false)]++dd B r Qa):=by kernel_rfl
theorem zz:Xq (Qq YP (Q6 YP) J0 B 6 1 (Qx YP 51 19 (([.agg (Q1 r).toArray,Zk Qa]).map (Q7 0 4))) Zb 1
 [(6,Wi)] 0 [] []) []=some (.bool false,
 [Rx (↑Qa.length:Int) r.Qd=false]):=by kernel_rfl
end
set_option maxHeartbeats 4000000 in
theorem CT(r:Qo)(Qa:List Int)(hn:r.Qb.length<=61)(XV:Qa.length<=9223372036854775807){B:Lo}(hJ:∀w,B.has w->J0 w):EndsT YP B (Qx YP 51 19 (([.agg (Q1 r).toArray,Zk Qa]).map (Q7 0 4))) (.bool (XZ r Qa)):=by
 have e1:=TC (n:=r.Qb.length) (by omega);by_cases q0:((↑Qa.length:Int):Int)=r.Qd
 ·have Uc:Q3 (dd B r Qa):=by
   exact⟨(QP (by omega) (by omega)),⟨(HR (by omega) (by omega)),⟨(bl q0),trivial⟩⟩⟩
  cases q1:List.all Qa fun x=>Kk x 0 ((↑(VE (↑r.Qb.length:Int)):Int)-1)with
  |true=>
   exact(GoE.endsT okF hJ Qf GoE.start (z1 B r Qa)
    ⟨⟨trivial,(by have t_:=GQ (Qa) (0) ((↑(VE (↑r.Qb.length:Int)):Int)-1);rw[q1]at t_;exact t_)⟩,Uc⟩).cast (by(simp[XZ, *];done))
  |false=>
   exact(GoE.endsT okF hJ Qf GoE.start (z0 B r Qa)
    ⟨⟨trivial,(by have t_:=GQ (Qa) (0) ((↑(VE (↑r.Qb.length:Int)):Int)-1);rw[q1]at t_;exact t_)⟩,Uc⟩).cast (by(simp[XZ, *];done))
 ·exact(GoE.endsT okF hJ Qf GoE.start (zz B r Qa)
   ⟨(cu q0),trivial⟩).cast (by(simp[XZ, *];done))
theorem jH(r:Qo)(Qa:List Int)(hn:r.Qb.length<=61):Qr YP J0 51 #[.agg (Q1 r).toArray,Zk Qa] (.bool (XZ r Qa)):=
 UQ (ts:=[.agg (Q1 r).toArray,Zk Qa]) (Qa.length<=9223372036854775807) (fun _ _ ht=>ht.ln (i:=1) rfl) Za (c0:=Qx YP 51 19 (([.agg (Q1 r).toArray,Zk Qa]).map (Q7 0 4))) (by kernel_rfl) (by kernel_rfl) fun XV B hJ=>CT r Qa hn XV hJ
def eO(r:Qo):Value:=(QH r.Qb.length (Qe Qi r.Qb))
def eQ(r:Qo)(Qa:List Int):Array Value:=#[Q2 0 (eO r),YI r.Qc,YI r.Qd,YI (Qa.getD 0 La),YI (Qa.getD 1 La),YI (Qa.getD 2 La),YI (Qa.getD 3 La)]
def eP(r:Qo):Array Value:=#[Q2 0 (eO r),YI r.Qc,YI r.Qd,YI 0,YI 0,YI 0,YI 0]
theorem qO(B:Lo)(r:Qo)(Qa:List Int):let c:=Qe Q0 Qa;let b:=Ld Qa;let a:=Array.map (ZV 0) (Lj c 0 (LW b 4*TypeInfo.size Try.t3));Xq (Qq YP (Q6 YP) J0 B 10 1 (Qx YP 52 13 (([.agg (Q1 r).toArray,Zk Qa]).map (Q7 0 4))) Zb 1
 [(9,Qh.tcpy (eQ r Qa))] 0 [] []) []=some (.agg #[QH r.Qb.length (Qe Qi r.Qb),YI r.Qc,YI r.Qd,YI (Qa.getD 0 La),YI (Qa.getD 1 La),YI (Qa.getD 2 La),YI (Qa.getD 3 La)],
 [0<Ld Qa/\3+LW b 4*TypeInfo.size Try.t3<=LA (eP r)/\LW b 4*TypeInfo.size Try.t3<=LA c/\(Array.all c fun v=>simple v || WI v)=true/\ones a=true/\splice (eP r) 3 a=(eQ r Qa)]):=by intro c b a;kernel_rfl
set_option maxHeartbeats 4000000 in
theorem uu(r:Qo)(Qa:List Int)(h0:0<Qa.length)(hl:Qa.length<=4){B:Lo}(hJ:∀w,B.has w->J0 w):EndsT YP B (Qx YP 52 13 (([.agg (Q1 r).toArray,Zk Qa]).map (Q7 0 4))) (.agg (QQ r Qa).toArray):=by
 exact(GoE.endsT okF hJ Qf GoE.start (qO B r Qa)
  ⟨(oh (fun _=>rfl) rfl (by omega) (by omega) rfl (YL rfl) rfl),trivial⟩).cast (by rfl)
theorem pD(r:Qo)(Qa:List Int)(h0:0<Qa.length)(hl:Qa.length<=4):Qr YP J0 52 #[.agg (Q1 r).toArray,Zk Qa] (.agg (QQ r Qa).toArray):=
 Xi (ts:=[.agg (Q1 r).toArray,Zk Qa]) Za (c0:=Qx YP 52 13 (([.agg (Q1 r).toArray,Zk Qa]).map (Q7 0 4))) (by kernel_rfl) (by kernel_rfl) fun B hJ=>uu r Qa h0 hl hJ
theorem DG(B:Lo)(r:Qo):Xq (Qq YP (Q6 YP) J0 B 6 1 (Qx YP 15 7 (([.agg (Q1 r).toArray]).map (Q7 0 4))) Zb 1
 [(5,ZC)] 0 [] []) []=some (.bool true,
 [(!XA 8 (↑r.Qb.length:Int))=true]):=by kernel_rfl
theorem DF(B:Lo)(r:Qo):Xq (Qq YP (Q6 YP) J0 B 6 1 (Qx YP 15 7 (([.agg (Q1 r).toArray]).map (Q7 0 4))) Zb 1
 [(5,Wi)] 0 [] []) []=some (.bool false,
 [(!XA 8 (↑r.Qb.length:Int))=false]):=by kernel_rfl
set_option maxHeartbeats 4000000 in
theorem Hd(r:Qo)  (XV:r.Qb.length<=9223372036854775807){B:Lo}(hJ:∀w,B.has w->J0 w):EndsT YP B (Qx YP 15 7 (([.agg (Q1 r).toArray]).map (Q7 0 4))) (.bool (decide (r.Qb.length<=8))):=by
 by_cases q0:((↑r.Qb.length:Int):Int)<=(8)
 ·exact(GoE.endsT okF hJ Qf GoE.start (DG B r)
   ⟨(VS q0),trivial⟩).cast (by(simp_all[];omega))
 ·exact(GoE.endsT okF hJ Qf GoE.start (DF B r)
   ⟨(VT (Int.not_le.1 q0)),trivial⟩).cast (by(simp_all[];omega))
theorem He(r:Qo)  :Qr YP J0 15 #[.agg (Q1 r).toArray] (.bool (decide (r.Qb.length<=8))):=
 UQ (ts:=[.agg (Q1 r).toArray]) (r.Qb.length<=9223372036854775807) (fun _ _ ht=>ht.ln2 (i:=0) (j:=0) rfl rfl) Za (c0:=Qx YP 15 7 (([.agg (Q1 r).toArray]).map (Q7 0 4))) (by kernel_rfl) (by kernel_rfl) fun XV B hJ=>Hd r  XV hJ
section
variable (B:Lo)(r:Qo)(Qa:List Int)
def ca:Array Value:=#[QH r.Qb.length (Qe Qi r.Qb),YI r.Qc,YI r.Qd]
def gM(B:Lo)(r:Qo)(Qa:List Int):List Prop:=[Q3 []/\Qr YP J0 20 #[.agg (ca r)] (.bool true)]++([]:List Prop)
def qf(r:Qo)(Qa:List Int):QI:=[(3,Qh.pure (.bool true) [])]
theorem DN:Xq (Qq YP (Q6 YP) J0 B 6 1 (Qx YP 21 12 (([.agg (Q1 r).toArray,Zk Qa]).map (Q7 0 4))) Zb 1
 (qf r Qa++[(7,Qh.pure (.bool true) [])]) 0 [] []) []=some (.bool true,
 [Q3 []/\Qr YP J0 41 #[.agg (ca r),QH Qa.length (Qe Q0 Qa)] (.bool true)]++gM B r Qa):=by kernel_rfl
theorem DM:Xq (Qq YP (Q6 YP) J0 B 6 1 (Qx YP 21 12 (([.agg (Q1 r).toArray,Zk Qa]).map (Q7 0 4))) Zb 1
 (qf r Qa++[(7,Qh.pure (.bool false) [])]) 0 [] []) []=some (.bool false,
 [Q3 []/\Qr YP J0 41 #[.agg (ca r),QH Qa.length (Qe Q0 Qa)] (.bool false)]++gM B r Qa):=by kernel_rfl
theorem DL:Xq (Qq YP (Q6 YP) J0 B 6 1 (Qx YP 21 12 (([.agg (Q1 r).toArray,Zk Qa]).map (Q7 0 4))) Zb 1
 [(3,Qh.pure (.bool false) [])] 0 [] []) []=some (.bool false,
 [Q3 []/\Qr YP J0 20 #[.agg (ca r)] (.bool false)]):=by kernel_rfl
end
set_option maxHeartbeats 4000000 in
theorem Hh(r:Qo)(Qa:List Int)  {B:Lo}(hJ:∀w,B.has w->J0 w):EndsT YP B (Qx YP 21 12 (([.agg (Q1 r).toArray,Zk Qa]).map (Q7 0 4))) (.bool (XW r && XZ r Qa)):=by
 cases q0:XW r with
 |true=>
  have Uc:Q3 (gM B r Qa):=by
   have ZW:=(QC (Zy ‹XW r=true›).1).1;exact⟨⟨trivial,(by have t_:=tQ (r);rw[q0]at t_;exact t_)⟩,trivial⟩
  cases q1:XZ r Qa with
  |true=>
   have ZW:=(QC (Zy ‹XW r=true›).1).1;exact(GoE.endsT okF hJ Qf GoE.start (DN B r Qa)
    ⟨⟨trivial,(by have t_:=MP (r) (Qa) (by omega);rw[q1]at t_;exact t_)⟩,Uc⟩).cast (by rfl)
  |false=>
   have ZW:=(QC (Zy ‹XW r=true›).1).1;exact(GoE.endsT okF hJ Qf GoE.start (DM B r Qa)
    ⟨⟨trivial,(by have t_:=MP (r) (Qa) (by omega);rw[q1]at t_;exact t_)⟩,Uc⟩).cast (by rfl)
 |false=>
  exact(GoE.endsT okF hJ Qf GoE.start (DL B r Qa)
   ⟨⟨trivial,(by have t_:=tQ (r);rw[q0]at t_;exact t_)⟩,trivial⟩).cast (by rfl)
theorem Av(r:Qo)(Qa:List Int)  :Qr YP J0 21 #[.agg (Q1 r).toArray,Zk Qa] (.bool (XW r && XZ r Qa)):=
 Xi (ts:=[.agg (Q1 r).toArray,Zk Qa]) Za (c0:=Qx YP 21 12 (([.agg (Q1 r).toArray,Zk Qa]).map (Q7 0 4))) (by kernel_rfl) (by kernel_rfl) fun B hJ=>Hh r Qa  hJ
end
end Go.Proofs.Ytncjjangllkokaa

