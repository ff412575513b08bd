/- Reef: plans. -/
import Derived.Test.YtncjjangllkokaaZRB11
set_option linter.all false
open Int renaming toNat_natCast->LR,tdiv->Lc,tdiv_eq_ediv_of_nonneg->L4,toNat->Lb,le_refl->LH
open Nat renaming strongRecOn->LB,lt_of_lt_of_eq->LO
open List renaming set->LM,replicate->Lu,range->Le,length->Ld,length_set->LS,length_replicate->LN,getElem?_map->Lx,getD_eq_getElem?_getD->Li,getElem?_eq_none->LA,getElem?_eq_getElem->L7
open Array renaming size->LQ,extract->Lh
open Inhabited renaming default->La
namespace Go.Proofs.Ytncjjangllkokaa
open Go Go.CE Go.RowKit
noncomputable section
set_option maxRecDepth 100000
theorem Qa9:((XR 0:Nat):Int)=1:=rfl
theorem CT{i:Int}(h:0<=i):((XR (i+1):Nat):Int)=2*((XR i:Nat):Int):=by
 unfold XR;rw[show(i+1).toNat=i.toNat+1 by omega,Nat.pow_succ];omega
def hasB(n k:Int):Bool:=n.toNat.testBit k.toNat
theorem ID{n k:Int}(hn:0<=n)(hk:1<=k):hasB n k=hasB (n / 2) (k-1):=by
 unfold hasB;obtain⟨j,hj⟩:∃j,k.toNat=j+1:=⟨k.toNat-1,by omega⟩
 rw[hj,show(k-1).toNat=j by omega,Nat.testBit_succ,show(n / 2).toNat=n.toNat / 2 by omega]
theorem QbU{n:Int}(hn:0<=n):hasB n 0=decide (n % 2=1):=by
 unfold hasB;rw[show(0:Int).toNat=0 from rfl,Nat.testBit_zero];exact decide_eq_decide.2 (by omega)
theorem V2{n k:Int}:decide (((VH ((ZT n k:Nat):Int) 1:Nat):Int)=1)=hasB n k:=by
 unfold hasB VH ZT;rw[LR,show(1:Int).toNat=1 from rfl,Nat.and_one_is_mod,Nat.shiftRight_eq_div_pow,Nat.testBit_eq_decide_div_mod_eq];exact decide_eq_decide.2 (by omega)
def QN(r:Qc)(plan:List Int):List Value:=[Xp r.Qa,YI r.Qh,YI r.Qb,YI (plan.getD 0 0),YI (plan.getD 1 0),YI (plan.getD 2 0),YI (plan.getD 3 0)]
theorem Xz{r:Qc}{plan:List Int}(h:XJ r plan=true):plan.length=r.Qb/\∀x∈plan,0<=x/\x<XR r.Qa.length:=by
 simp only[XJ,YB,decide_eq_true_iff,List.all_eq_true,Rk]at h;exact⟨h.1,fun x hx=>by have:=h.2 x hx;omega⟩
section
variable (B:Lo)(c0:CF)(r:Qc)(s i:Int)(Ql:Nat->Value)
def ae(r:Qc)(s i:Int):List Value:=[pA 2 0,YI s,YI i]
def YM(s i:Int):List Obj:=[Obj.cells #[Qk 1 (Xo r.Qa.length (Qe Qt r.Qa)),YI r.Qh,YI r.Qb] 24]
def ag:List Item:=([.code [1,1,0,1,0,0],.inLoop [1,1,0,1,0,0],.inBlock 0,.code [1,1,1]]).map (it (Q8 YP 69))
def Ff:Prop:=∃dJ:Nat->Value,(∀t,Xh (dJ t))/\GoE YP B c0 Zd 1 (QC 69 15 (([1,3,4]:List Nat).zip (ae r s i)) dJ ag) (Q9 (YM r s i)) (2+(YM r s i).length) []
theorem Fc:landM (Qn YP (Q0 YP) J0 B 11 1 (QC 69 15 (([1,3,4]:List Nat).zip (ae r s i)) Ql ag) (Q9 (YM r s i)) (2+(YM r s i).length)
 [(4,Wj),(6,Zu (2*s)),(9,Zu (i+1))] 0 [] []) [1,3,4] [(2,KS.auto)] []=some ⟨69,15,ag,[],.run,none,ae r (2*s) (i+1),YM r (2*s) (i+1),
 [wq (i+1)=i+1,wq (2*s)=2*s,XB i (↑r.Qa.length:Int)=true]⟩:=by kernel_rfl
theorem Fb:Xv (Qn YP (Q0 YP) J0 B 9 1 (QC 69 15 (([1,3,4]:List Nat).zip (ae r s i)) Ql ag) (Q9 (YM r s i)) (2+(YM r s i).length)
 [(4,WC)] 0 [] []) []=some (YI s,
 [XB i (↑r.Qa.length:Int)=false]):=by kernel_rfl
theorem Fa:landM (Qn YP (Q0 YP) J0 B 9 1 (Qu YP 69 15 (([.agg (Q1 r).toArray]).map (Q4 0 4))) Zd 1
 [] 0 [] []) [1,3,4] [(1,KS.auto)] []=some ⟨69,15,ag,[],.run,none,ae r (1) (0),YM r (1) (0),
 []⟩:=by kernel_rfl
end
set_option maxHeartbeats 4000000 in
theorem Fe(r:Qc)(hn:r.Qa.length<=61){B:Lo}(hJ:∀w,B.has w->J0 w){c0:CF}:∀m:Nat,(∀(s i:Int),r.Qa.length-i.toNat=m->∀(h0:0<=i) (h1:i<=r.Qa.length) (hs:s=((XR i:Nat):Int)),Ff B c0 r s i->EndsT YP B c0 (YI ((XR r.Qa.length:Nat):Int))):=by
 intro m0;induction m0 using LB with
 |_ m0 ih0=>
  intro s i Jw h0 h1 hs ⟨Ql,Wl,X0⟩;have e1:=bK (n:=i) (by omega);have e2:=CT (i:=i) h0;by_cases q0:(i:Int)<((↑r.Qa.length:Int))
  ·have e3:=bK (n:=i+1) (by omega);exact((ih0 _ (by omega)) (2*s) (i+1) rfl (by omega) (by omega) (by omega)
    (X0.lM (Fc B r s i Ql)
    ⟨wI,⟨wI,⟨(Xs q0),trivial⟩⟩⟩)).cR
  ·have e3:=bK (n:=i+1) (by omega);exact(GoE.eT X0 (Fb B r s i Ql)
    ⟨(nL q0),trivial⟩).cast (by(rw[hs,show i=r.Qa.length by omega];done))
set_option maxHeartbeats 4000000 in
theorem MC(r:Qc)(hn:r.Qa.length<=61){B:Lo}(hJ:∀w,B.has w->J0 w):EndsT YP B (Qu YP 69 15 (([.agg (Q1 r).toArray]).map (Q4 0 4))) (YI ((XR r.Qa.length:Nat):Int)):=by
 exact((Fe r hn hJ _) (1) (0) rfl (by omega) (by omega) (by exact Qa9.symm)
  (GoE.start.lM (Fa B r)
  trivial)).cR
theorem OJ(r:Qc)(hn:r.Qa.length<=61):Qv YP J0 69 #[.agg (Q1 r).toArray] (YI ((XR r.Qa.length:Nat):Int)):=
 Xd (ts:=[.agg (Q1 r).toArray]) Zc (c0:=Qu YP 69 15 (([.agg (Q1 r).toArray]).map (Q4 0 4))) (by kernel_rfl) (by kernel_rfl) fun B hJ=>MC r hn hJ
section
variable (B:Lo)(c0:CF)(r:Qc)(plan:List Int)(i:Int)(Ql:Nat->Value)
end
section
variable (B:Lo)(c0:CF)(n k x i:Int)(Ql:Nat->Value)
def b5(n k:Int)(x i:Int):List Value:=[YI x,YI k,YI i]
def YC(n k:Int)(x i:Int):List Obj:=[]
def b6:List Item:=([.code [1,0,1,0,0],.inLoop [1,0,1,0,0],.inBlock 0,.code [1,1]]).map (it (Q8 YP 47))
def Ni:Prop:=∃dJ:Nat->Value,(∀t,Xh (dJ t))/\GoE YP B c0 Zd 1 (QC 47 16 (([0,1,5]:List Nat).zip (b5 n k x i)) dJ b6) (Q9 (YC n k x i)) (2+(YC n k x i).length) []
theorem Ng(B:Lo)(n k:Int)(x i:Int)(Ql:Nat->Value):let a:=Lc x 2;landM (Qn YP (Q0 YP) J0 B 11 1 (QC 47 16 (([0,1,5]:List Nat).zip (b5 n k x i)) Ql b6) (Q9 (YC n k x i)) (2+(YC n k x i).length)
 [(2,Wj),(4,Zu a),(7,Zu (i+1))] 0 [] []) [0,1,5] [] []=some ⟨47,16,b6,[],.run,none,b5 n k a (i+1),YC n k a (i+1),
 [wq (i+1)=i+1,IntKind.wrap .i64 a=Lc x 2,XB i k=true]⟩:=by intro a;kernel_rfl
def rJ(B:Lo)(n k:Int)(x i:Int)(Ql:Nat->Value):List Prop:=[XB i k=false]++([]:List Prop)
def Be(n k:Int)(x i:Int)(Ql:Nat->Value):QA:=[(2,WC)]
theorem Nf:Xv (Qn YP (Q0 YP) J0 B 9 1 (QC 47 16 (([0,1,5]:List Nat).zip (b5 n k x i)) Ql b6) (Q9 (YC n k x i)) (2+(YC n k x i).length)
 (Be n k x i Ql++[(5,Wj)]) 0 [] []) []=some (.bool true,
 [TO (Int.tmod x 2) 1=true]++rJ B n k x i Ql):=by kernel_rfl
theorem Nd:Xv (Qn YP (Q0 YP) J0 B 9 1 (QC 47 16 (([0,1,5]:List Nat).zip (b5 n k x i)) Ql b6) (Q9 (YC n k x i)) (2+(YC n k x i).length)
 (Be n k x i Ql++[(5,WC)]) 0 [] []) []=some (.bool false,
 [TO (Int.tmod x 2) 1=false]++rJ B n k x i Ql):=by kernel_rfl
theorem Nc:landM (Qn YP (Q0 YP) J0 B 7 1 (Qu YP 47 16 (([YI n,YI k]).map (Q4 0 4))) Zd 1
 [] 0 [] []) [0,1,5] [] []=some ⟨47,16,b6,[],.run,none,b5 n k (n) (0),YC n k (n) (0),
 []⟩:=by kernel_rfl
end
set_option maxHeartbeats 4000000 in
theorem Nh(n k:Int)(hn:0<=n/\n<=1000000000)(hk:0<=k/\k<=1000000000){B:Lo}(hJ:∀w,B.has w->J0 w){c0:CF}:∀m:Nat,(∀(x i:Int),(k-i).toNat=m->∀(h0:0<=i) (h1:i<=k) (h2:0<=x/\x<=1000000000) (hx:hasB x (k-i)=hasB n k),Ni B c0 n k x i->EndsT YP B c0 (.bool (hasB n k))):=by
 intro m0;induction m0 using LB with
 |_ m0 ih0=>
  intro x i Jw h0 h1 h2 hx ⟨Ql,Wl,X0⟩;have e1:x.tdiv 2=x / 2:=L4 h2.1;have e2:x.tmod 2=x % 2:=Int.tmod_eq_emod_of_nonneg h2.1;have e4:=QbU (n:=x) h2.1;by_cases q0:(i:Int)<(k)
  ·have e3:=ID (n:=x) (k:=k-i) h2.1 (by omega);exact((ih0 _ (by omega)) (Lc x 2) (i+1) rfl (by omega) (by omega) (by omega) (by(rw[<-hx,e3,e1,show k-(i+1)=k-i-1 by omega];done))
    (X0.lM (Ng B n k x i Ql)
    ⟨wI,⟨(PX (by omega) (by omega)),⟨(Xs q0),trivial⟩⟩⟩)).cR
  ·have VO:Qz (rJ B n k x i Ql):=by
    exact⟨(nL q0),trivial⟩
   by_cases q1:(Int.tmod x 2:Int)=(1)
   ·exact(GoE.eT X0 (Nf B n k x i Ql)
     ⟨(TI q1),VO⟩).cast (by(rw[<-hx,show k-i=0 by omega,e4];simp[*];omega))
   ·exact(GoE.eT X0 (Nd B n k x i Ql)
     ⟨(TJ q1),VO⟩).cast (by(rw[<-hx,show k-i=0 by omega,e4];simp[*];omega))
set_option maxHeartbeats 4000000 in
theorem Qay(n k:Int)(hn:0<=n/\n<=1000000000)(hk:0<=k/\k<=1000000000){B:Lo}(hJ:∀w,B.has w->J0 w):EndsT YP B (Qu YP 47 16 (([YI n,YI k]).map (Q4 0 4))) (.bool (hasB n k)):=by
 exact((Nh n k hn hk hJ _) (n) (0) rfl (by omega) (by omega) ‹_› (by(simp_all;done))
  (GoE.start.lM (Nc B n k)
  trivial)).cR
theorem YN(n k:Int)(hn:0<=n/\n<=1000000000)(hk:0<=k/\k<=1000000000):Qv YP J0 47 #[YI n,YI k] (.bool (hasB n k)):=
 Xd (ts:=[YI n,YI k]) Zc (c0:=Qu YP 47 16 (([YI n,YI k]).map (Q4 0 4))) (by kernel_rfl) (by kernel_rfl) fun B hJ=>Qay n k hn hk hJ
section
variable (B:Lo)(r:Qc)(plan:List Int)
end
theorem DW(B:Lo)(r:Qc):Xv (Qn YP (Q0 YP) J0 B 6 1 (Qu YP 15 7 (([.agg (Q1 r).toArray]).map (Q4 0 4))) Zd 1
 [(5,Wj)] 0 [] []) []=some (.bool true,
 [(!XB 8 (↑r.Qa.length:Int))=true]):=by kernel_rfl
theorem DV(B:Lo)(r:Qc):Xv (Qn YP (Q0 YP) J0 B 6 1 (Qu YP 15 7 (([.agg (Q1 r).toArray]).map (Q4 0 4))) Zd 1
 [(5,WC)] 0 [] []) []=some (.bool false,
 [(!XB 8 (↑r.Qa.length:Int))=false]):=by kernel_rfl
set_option maxHeartbeats 4000000 in
theorem Ik(r:Qc)  (WH:r.Qa.length<=9223372036854775807){B:Lo}(hJ:∀w,B.has w->J0 w):EndsT YP B (Qu YP 15 7 (([.agg (Q1 r).toArray]).map (Q4 0 4))) (.bool (decide (r.Qa.length<=8))):=by
 by_cases q0:((↑r.Qa.length:Int):Int)<=(8)
 ·exact(GoE.eT GoE.start (DW B r)
   ⟨(VZ q0),trivial⟩).cast (by(simp_all[];omega))
 ·exact(GoE.eT GoE.start (DV B r)
   ⟨(Ua (Int.not_le.1 q0)),trivial⟩).cast (by(simp_all[];omega))
theorem Il(r:Qc)  :Qv YP J0 15 #[.agg (Q1 r).toArray] (.bool (decide (r.Qa.length<=8))):=
 Sf (ts:=[.agg (Q1 r).toArray]) (r.Qa.length<=9223372036854775807) (fun _ _ ht=>ht.ln2 (i:=0) (j:=0) rfl rfl) Zc (c0:=Qu YP 15 7 (([.agg (Q1 r).toArray]).map (Q4 0 4))) (by kernel_rfl) (by kernel_rfl) fun WH B hJ=>Ik r  WH hJ
section
variable (B:Lo)(r:Qc)(plan:List Int)
end
end
end Go.Proofs.Ytncjjangllkokaa

namespace Go.Proofs.Ytncjjangllkokaa
open Go Go.CE Go.RowKit
noncomputable section
set_option maxRecDepth 100000
def J8(Qh n:Int):Int:=n+(n*Qh).tdiv 1000
def Wg(room f g:Int):Int:=if room<=f then 0 else if(f*g).tdiv 1000<room-f then(f*g).tdiv 1000 else room-f
theorem Yh{a r:Int}(ha:0<=a/\a<=1000000000000)(hr:0<=r/\r<=2000):0<=a*r/\a*r<=2000000000000000/\0<=(a*r).tdiv 1000/\(a*r).tdiv 1000<=2000000000000:=by
 have e0:0<=a*r:=Int.mul_nonneg ha.1 hr.1;have e1:a*r<=1000000000000*2000:=Int.mul_le_mul ha.2 hr.2 hr.1 (by omega);have e2:(a*r).tdiv 1000=(a*r) / 1000:=L4 e0;omega
theorem FF(B:Lo)(r:Qc)(n:Int):let a:=n*r.Qh;let b:=n+Lc a 1000;Xv (Qn YP (Q0 YP) J0 B 6 1 (Qu YP 60 12 (([.agg (Q1 r).toArray,YI n]).map (Q4 0 4))) Zd 1
 [(6,Zu a),(7,Zu (Lc a 1000)),(8,Zu b)] 0 [] []) []=some (YI b,
 [wq b=n+Lc a 1000,IntKind.wrap .i64 (Lc a 1000)=Lc a 1000,wq a=n*r.Qh]):=by intro a b;kernel_rfl
set_option maxHeartbeats 4000000 in
theorem Nb(r:Qc)(n:Int)(hm:0<=r.Qh/\r.Qh<=2000)(hn:0<=n/\n<=1000000000000){B:Lo}(hJ:∀w,B.has w->J0 w):EndsT YP B (Qu YP 60 12 (([.agg (Q1 r).toArray,YI n]).map (Q4 0 4))) (YI (J8 r.Qh n)):=by
 have e0:=Yh hn hm;exact(GoE.eT GoE.start (FF B r n)
  ⟨wI,⟨(PX (by omega) (by omega)),⟨wI,trivial⟩⟩⟩).cR
theorem OL(r:Qc)(n:Int)(hm:0<=r.Qh/\r.Qh<=2000)(hn:0<=n/\n<=1000000000000):Qv YP J0 60 #[.agg (Q1 r).toArray,YI n] (YI (J8 r.Qh n)):=
 Xd (ts:=[.agg (Q1 r).toArray,YI n]) Zc (c0:=Qu YP 60 12 (([.agg (Q1 r).toArray,YI n]).map (Q4 0 4))) (by kernel_rfl) (by kernel_rfl) fun B hJ=>Nb r n hm hn hJ
theorem BT(B:Lo)(x:Qd)  :Xv (Qn YP (Q0 YP) J0 B 10 1 (Qu YP 61 10 (([.agg (Qt x).toArray,.bool true]).map (Q4 0 4))) Zd 1
 [] 0 [] []) []=some (.agg #[YI x.Vr,YI x.Vs],
 []):=by kernel_rfl
theorem BS(B:Lo)(x:Qd)  :Xv (Qn YP (Q0 YP) J0 B 11 1 (Qu YP 61 10 (([.agg (Qt x).toArray,.bool false]).map (Q4 0 4))) Zd 1
 [] 0 [] []) []=some (.agg #[YI x.VB,YI x.VC],
 []):=by kernel_rfl
set_option maxHeartbeats 4000000 in
theorem EU(x:Qd)(b:Bool)  {B:Lo}(hJ:∀w,B.has w->J0 w):EndsT YP B (Qu YP 61 10 (([.agg (Qt x).toArray,.bool b]).map (Q4 0 4))) (.agg #[YI (if b then x.Vr else x.VB),YI (if b then x.Vs else x.VC)]):=by
 cases b with
 |true=>
  exact(GoE.eT GoE.start (BT B x)
   trivial).cR
 |false=>
  exact(GoE.eT GoE.start (BS B x)
   trivial).cR
theorem Wu(x:Qd)(b:Bool)  :Qv YP J0 61 #[.agg (Qt x).toArray,.bool b] (.agg #[YI (if b then x.Vr else x.VB),YI (if b then x.Vs else x.VC)]):=
 Xd (ts:=[.agg (Qt x).toArray,.bool b]) Zc (c0:=Qu YP 61 10 (([.agg (Qt x).toArray,.bool b]).map (Q4 0 4))) (by kernel_rfl) (by kernel_rfl) fun B hJ=>EU x b  hJ
theorem C2(B:Lo)(x:Qd)(f g:Int):Xv (Qn YP (Q0 YP) J0 B 10 1 (Qu YP 62 20 (([.agg (Qt x).toArray,YI f,YI g]).map (Q4 0 4))) Zd 1
 [(5,Wj)] 0 [] []) []=some (YI 0,
 [(!XB f x.room)=true]):=by kernel_rfl
theorem C1(B:Lo)(x:Qd)(f g:Int):Xv (Qn YP (Q0 YP) J0 B 11 1 (Qu YP 62 20 (([.agg (Qt x).toArray,YI f,YI g]).map (Q4 0 4))) Zd 1
 [(5,WC),(9,Zu (x.room-f)),(12,Zu (f*g)),(13,Zu (Lc (f*g) 1000))] 0 [] []) []=some (YI (if Lc (f*g) 1000<x.room-f then Lc (f*g) 1000 else x.room-f),
 [IntKind.wrap .i64 (Lc (f*g) 1000)=Lc (f*g) 1000,wq (f*g)=f*g,wq (x.room-f)=x.room-f,(!XB f x.room)=false]):=by kernel_rfl
set_option maxHeartbeats 4000000 in
theorem FG(x:Qd)(f g:Int)(hf:0<=f/\f<=1000000000000)(hg:0<=g/\g<=2000)(hx:0<=x.room/\x.room<=1000000){B:Lo}(hJ:∀w,B.has w->J0 w):EndsT YP B (Qu YP 62 20 (([.agg (Qt x).toArray,YI f,YI g]).map (Q4 0 4))) (YI (Wg x.room f g)):=by
 have e0:=Yh hf hg;by_cases q0:(x.room:Int)<=(f)
 ·exact(GoE.eT GoE.start (C2 B x f g)
   ⟨(VZ q0),trivial⟩).cast (by(simp only[Wg];rw[if_pos q0];done))
 ·exact(GoE.eT GoE.start (C1 B x f g)
   ⟨(PX (by omega) (by omega)),⟨wI,⟨wI,⟨(Ua (Int.not_le.1 q0)),trivial⟩⟩⟩⟩).cast (by(simp only[Wg];rw[if_neg q0];done))
theorem FH(x:Qd)(f g:Int)(hf:0<=f/\f<=1000000000000)(hg:0<=g/\g<=2000)(hx:0<=x.room/\x.room<=1000000):Qv YP J0 62 #[.agg (Qt x).toArray,YI f,YI g] (YI (Wg x.room f g)):=
 Xd (ts:=[.agg (Qt x).toArray,YI f,YI g]) Zc (c0:=Qu YP 62 20 (([.agg (Qt x).toArray,YI f,YI g]).map (Q4 0 4))) (by kernel_rfl) (by kernel_rfl) fun B hJ=>FG x f g hf hg hx hJ
section
variable (B:Lo)(c0:CF)(r:Qc)(n a b:Int)(Ql:Nat->Value)
end
def Wh(x:Qd):Span:=⟨x.UR,x.US⟩
def Yg(x:Qd):Span:=⟨x.VB,x.VC⟩
def Z7(Qh:Int)(x:Qd):Span:=⟨x.count,J8 Qh x.count⟩
section
variable (x_:Qd)(B:Lo)(c0:CF)(xs:List Qd)(i:Int)(ys:List Span)(Ql:Nat->Value)
def bW:Array Value:=#[YI x_.count,YI x_.room,YI x_.UR,YI x_.US,YI x_.QI,YI x_.Xw,YI x_.VB,YI x_.VC,YI x_.Vr,YI x_.Vs,YI x_.goal,YI x_.XF]
def Sy:=(xs.getD i.toNat La)
def qN:Value:=(.agg #[YI (Qd.UR (Sy xs i)),YI (Qd.US (Sy xs i))])
def DD:Array Value:=(Qe QQ (LM ys i.toNat {lo:=Qd.UR (Sy xs i),hi:=Qd.US (Sy xs i)}))
def qM:Array Value:=(Qe (Yq [YI 0,YI 0]) (Lu xs.length ()))
def Sz(ys:List Span):List Value:=[Value.func (Fn.func 104) #[] #[],.slice (some {block:=2,off:=0}) xs.length 2,Qk 1 (Xo xs.length (Qe Qt xs)),YI (↑xs.length:Int),YI i]
def KF(xs:List Qd)(i:Int)(ys:List Span):List Obj:=[.cells (Qe QQ ys) 38 (0,0)]
def S0:List Item:=([.code [1,1,0,1,0,0],.inLoop [1,1,0,1,0,0],.inBlock 0,.code [1,1,1]]).map (it (Q8 YP 102))
def DJ:Prop:=∃dJ:Nat->Value,(∀t,Xh (dJ t))/\GoE YP B c0 Zd 1 (QC 102 26 (([1,5,11,12,13]:List Nat).zip (Sz xs i ys)) dJ S0) (Q9 (KF xs i ys)) (2+(KF xs i ys).length) []
def S1(Ql:Nat->Value):Qm:=[(3,Obj.cells (bW (xs.getD i.toNat La)) 54),(0,Obj.coro none),(1,Obj.coro none),(2,Obj.cells (Qe QQ ys) 38)]
def bX(ys:List Span)(Ql:Nat->Value):CF:=⟨104,ofList 5 [.agg (bW (xs.getD i.toNat La))],[Item.code (Q8 YP 104)],[],.run,none⟩
theorem DH:CE.finK 4 (Qn YP (Q0 YP) J0 B 6 4 (bX xs i ys Ql) (S1 xs i ys Ql) 4
 [] 0 [] []) [] [] []=some (OO.ret (qN xs i),[],[],
 []):=by kernel_rfl
theorem DG(B:Lo)(xs:List Qd)(i:Int)(ys:List Span)(Ql:Nat->Value):let f:=qN xs i;let e:=Sy xs i;let c:=DD xs i ys;let b:=Lb i;let d:=xs.getD b La;let a:=LM ys b {lo:=e.UR,hi:=e.US};landM (Qn YP (Q0 YP) J0 B 13 1 (QC 102 26 (([1,5,11,12,13]:List Nat).zip (Sz xs i ys)) Ql S0) (Q9 (KF xs i ys)) (2+(KF xs i ys).length)
 [(0,Wj),(2,Qf.tidx b (bW e)),(11,Qf.call (Le 4) (OO.ret f) ([]++(4,QV)::QL 5 []) 5 []),(12,Qf.XO (Hint.idx b)),(13,Qf.XO (Hint.st c)),(14,Zu (i+1))] 0 [] []) [1,5,11,12,13] [(2,KS.cells [] c)] []=some ⟨102,26,S0,[],.run,none,Sz xs (i+1) a,KF xs (i+1) a,
 [QE 1 [] c c,wq (i+1)=i+1,0+Lb i*2+TypeInfo.size Try.t38<=LQ (Qe QQ ys)/\splice (Qe QQ ys) (0+Lb i*2) (Value.cells (Xx {len:=16000,tr:=Tri.set 14 (Tri.set 14 Tri.lf 22 f) 23 (.pointer (some {block:=2,off:=0+Lb i*2}))} 22))=Qe QQ (LM ys b {lo:=d.UR,hi:=d.US}),i=(↑b:Int)/\Lb i<Ld xs,FJ YP B (bX xs i ys Ql) (S1 xs i ys Ql) 4 (OO.ret f) (([]++((4,QV)::QL (4+1) []))++S1 xs i ys Ql) 5 (Le 4) [],VN i xs.length (Qe Qt xs) Try.t54.size (bW d),XB i (↑xs.length:Int)=true]⟩:=by intro f e c b d a;kernel_rfl
theorem DF(B:Lo)(xs:List Qd)(i:Int)(ys:List Span)(Ql:Nat->Value):let a:=Fz.cs {k:=2,rs:=[],cs:=Qe QQ ys};Xv (Qn YP (Q0 YP) J0 B 9 1 (QC 102 26 (([1,5,11,12,13]:List Nat).zip (Sz xs i ys)) Ql S0) (Q9 (KF xs i ys)) (2+(KF xs i ys).length)
 [(0,WC)] 0 [] []) [{k:=2,rs:=[],cs:=Qe QQ ys}]=some (Xo xs.length a,
 [X1 (Fz.rs {k:=2,rs:=[],cs:=Qe QQ ys}) (Qe QQ ys) a,XB i (↑xs.length:Int)=false]):=by intro a;kernel_rfl
theorem DE(B:Lo)(xs:List Qd):let c:=Ld xs;let b:=Xx {len:=16000,tr:=Tri.set 14 Tri.lf 9 (YI (↑c:Int))} 9;let a:=Lu c {lo:=0,hi:=0};landM (Qn YP (Q0 YP) J0 B 9 1 (Qu YP 102 26 (([Xp xs,.func (.func 104) #[] #[]]).map (Q4 0 4))) Zd 1
 [(3,Qf.XO (Hint.mk c (qM xs)))] 0 [] []) [1,5,11,12,13] [(1,KS.rows [] [] [] (Qe QQ a))] []=some ⟨102,26,S0,[],.run,none,Sz xs (0) a,KF xs (0) a,
 [QX 1 [] [] [] (qM xs) (Qe QQ a),TK YP 36 b b=some (38,Qe (Yq [YI 0,YI 0]) (Lu c ()),Ld xs,TypeInfo.size Try.t38)]⟩:=by intro c b a;kernel_rfl
end
set_option maxHeartbeats 4000000 in
theorem DI(xs:List Qd)(hn:xs.length<=1000000){B:Lo}(hJ:∀w,B.has w->J0 w){c0:CF}:∀m:Nat,(∀(i:Int) (ys:List Span),(xs.length-i.toNat)=m->∀(h0:0<=i) (hy:ys=Ro Wh ⟨0,0⟩ xs i),DJ B c0 xs i ys->EndsT YP B c0 (Rw (xs.map Wh))):=by
 intro m0;induction m0 using LB with
 |_ m0 ih0=>
  intro i ys Jw h0 hy ⟨Ql,Wl,X0⟩;have hyl:ys.length=xs.length:=by rw[hy];exact SD
  by_cases q0:(i:Int)<((↑xs.length:Int))
  ·have rj0:FJ YP B (bX xs i ys Ql) (S1 xs i ys Ql) 4 (OO.ret (.agg #[YI (Qd.UR (xs.getD i.toNat La)),YI (Qd.US (xs.getD i.toNat La))])) (([]++((4,QV)::QL (4+1) []))++S1 xs i ys Ql) 5 (Le 4) []:=by
    exact FinK.fjB (GoE.fK ((GoE.refl (P:=YP) (B:=B) (c0:=bX xs i ys Ql) uA).widen (Wf:=((([]):List (Nat×KS)).map (·.1))) (by simp) wO) (DH B xs i ys Ql)
     trivial) (ex:=[2]) (by kernel_rfl) ⟨trivial,⟨trivial,⟨trivial,⟨(PC (t:=38) (fl:=(0,0)) (fun x=>List.all_eq_true.1 (by rfl))),trivial⟩⟩⟩⟩
   exact((ih0 _ (by omega)) (i+1) (LM ys i.toNat {lo:=Qd.UR (xs.getD i.toNat La),hi:=Qd.US (xs.getD i.toNat La)}) rfl (by omega) (by(subst hy;exact SC (f:=Wh) h0 q0))
    (X0.lM (DG B xs i ys Ql)
    (by exact⟨cS,⟨wI,⟨(by exact WQ (z:=2) (k:=Lb i) (fun _=>rfl) (by first|omega|(rw[LS];omega)|(rw[LN];omega)) rfl rfl),⟨⟨by omega,by omega⟩,⟨rj0,⟨(iX (lX 12)),⟨(Xs q0),trivial⟩⟩⟩⟩⟩⟩⟩))).cR
  ·exact(GoE.eT X0 (DF B xs i ys Ql)
    ⟨(X2 (fun x=>List.all_eq_true.1 (by rfl))),⟨(nL q0),trivial⟩⟩).cast (by exact bo (hy.trans (SF (by omega))) (by simp))
set_option maxHeartbeats 4000000 in
theorem HR(xs:List Qd)(hn:xs.length<=1000000){B:Lo}(hJ:∀w,B.has w->J0 w):EndsT YP B (Qu YP 102 26 (([Xp xs,.func (.func 104) #[] #[]]).map (Q4 0 4))) (Rw (xs.map Wh)):=by
 exact((DI xs hn hJ _) (0) (Lu xs.length {lo:=0,hi:=0}) rfl (by omega) (by exact gf)
  (GoE.start.lM (DE B xs)
  (by exact⟨(by exact(KJ (by exact⟨(.simple rfl),⟨(.simple rfl),trivial⟩⟩) _)),⟨(oU (bytes:=16) (by kernel_rfl) (by omega) (by omega) (by omega)),trivial⟩⟩))).cR
theorem QaM(xs:List Qd)(hn:xs.length<=1000000):Qv YP J0 102 #[Xp xs,.func (.func 104) #[] #[]] (Rw (xs.map Wh)):=
 Xd (ts:=[Xp xs,.func (.func 104) #[] #[]]) Zc (c0:=Qu YP 102 26 (([Xp xs,.func (.func 104) #[] #[]]).map (Q4 0 4))) (by kernel_rfl) (by kernel_rfl) fun B hJ=>HR xs hn hJ
def bM(rf:Qc):=(List.map Wh rf.Qa)
def qB(rf:Qc):Value:=(Xo (Ld (bM rf)) (Qe QQ (bM rf)))
theorem CW(B:Lo)(rf:Qc)(plan:List Int):Xv (Qn YP (Q0 YP) J0 B 6 1 (Qu YP 83 7 (([.agg (QN rf plan).toArray]).map (Q4 0 4))) Zd 1
 [(5,Qf.pure (qB rf) [])] 0 [] []) []=some (Xo (Ld (bM rf)) (Qe QQ (bM rf)),
 [Qz []/\Qv YP J0 102 #[Xp rf.Qa,Value.func (Fn.func 104) #[] #[]] (qB rf)]):=by kernel_rfl
set_option maxHeartbeats 4000000 in
theorem Hg(rf:Qc)(plan:List Int)(hn:rf.Qa.length<=1000000){B:Lo}(hJ:∀w,B.has w->J0 w):EndsT YP B (Qu YP 83 7 (([.agg (QN rf plan).toArray]).map (Q4 0 4))) (Rw (rf.Qa.map Wh)):=by
 exact(GoE.eT GoE.start (CW B rf plan)
  ⟨⟨trivial,QaM rf.Qa ‹_›⟩,trivial⟩).cR
theorem QaB(rf:Qc)(plan:List Int)(hn:rf.Qa.length<=1000000):Qv YP J0 83 #[.agg (QN rf plan).toArray] (Rw (rf.Qa.map Wh)):=
 Xd (ts:=[.agg (QN rf plan).toArray]) Zc (c0:=Qu YP 83 7 (([.agg (QN rf plan).toArray]).map (Q4 0 4))) (by kernel_rfl) (by kernel_rfl) fun B hJ=>Hg rf plan hn hJ
section
variable (x_:Qd)(rf:Qc)(plan:List Int)(i:Int)(ys:List Span)
def Tk:Array Value:=#[YI x_.count,YI x_.room,YI x_.UR,YI x_.US,YI x_.QI,YI x_.Xw,YI x_.VB,YI x_.VC,YI x_.Vr,YI x_.Vs,YI x_.goal,YI x_.XF]
def Kw:=(rf.Qa.getD i.toNat La)
def Kx:=(Kw rf i)
def lL:Value:=(.agg #[YI (Qd.count (Kw rf i)),YI (Qd.count (Kw rf i)+Lc (Qd.count (Kw rf i)*rf.Qh) 1000)])
def Tj:=(Qd.count (Kx rf i)*rf.Qh)
def lK:Array Value:=(Qe QQ (LM ys i.toNat {lo:=Qd.count (Kw rf i),hi:=Qd.count (Kw rf i)+Lc (Qd.count (Kw rf i)*rf.Qh) 1000}))
def Ti:=(List.map (Z7 rf.Qh) rf.Qa)
def zm:Value:=(Qk 2 (Xo (Ld (Ti rf)) (Qe QQ (Ti rf))))
def lJ:Value:=(.agg #[YI (Qd.count (Kx rf i)),YI (Qd.count (Kx rf i)+Lc (Tj rf i) 1000)])
def lI:Array Value:=(Qe (Yq [YI 0,YI 0]) (Lu rf.Qa.length ()))
def lH:Array Value:=(Qe QQ (LM ys i.toNat {lo:=Qd.count (Kx rf i),hi:=Qd.count (Kx rf i)+Lc (Tj rf i) 1000}))
def iI:Array Value:=(Qe QQ (Lu rf.Qa.length {lo:=0,hi:=0}))
def WZ:Qm:=[(1,Obj.cells #[Qk 0 (Xp rf.Qa),YI rf.Qh,YI rf.Qb,YI (plan.getD 0 0),YI (plan.getD 1 0),YI (plan.getD 2 0),YI (plan.getD 3 0)] 84),(0,Obj.coro none)]
def Yx(plan:List Int):CF:=⟨102,ofList 26 [Qk 0 (Xp rf.Qa),Value.func (Fn.func 103) #[] #[pA 1 0]],[Item.code (Q8 YP 102)],[],.run,none⟩
def UY(plan:List Int)(i:Int)(ys:List Span):List Value:=[Value.func (Fn.func 103) #[] #[pA 1 0],.slice (some {block:=3,off:=0}) rf.Qa.length 2,Qk 0 (Xp rf.Qa),YI (↑rf.Qa.length:Int),YI i]
def UX(rf:Qc)(plan:List Int)(i:Int)(ys:List Span):List Obj:=[]
def VV(rf:Qc)(plan:List Int)(i:Int)(ys:List Span):List Obj:=[.cells (Qe QQ ys) 38 (0,0)]
def UZ:List Item:=([.code [1,1,0,1,0,0],.inLoop [1,1,0,1,0,0],.inBlock 0,.code [1,1,1]]).map (it (Q8 YP 102))
def P3(Ql:Nat->Value):Qm:=[(4,Obj.cells (Tk (rf.Qa.getD i.toNat La)) 54),(2,Obj.coro none),(3,Obj.cells (Qe QQ ys) 38),(1,Obj.cells #[Qk 0 (Xp rf.Qa),YI rf.Qh,YI rf.Qb,YI (plan.getD 0 0),YI (plan.getD 1 0),YI (plan.getD 2 0),YI (plan.getD 3 0)] 84),(0,Obj.coro none)]
def Tl(plan:List Int)(i:Int)(ys:List Span)(Ql:Nat->Value):CF:=⟨103,ofList 13 [.agg (Tk (rf.Qa.getD i.toNat La)),pA 1 0],[Item.code (Q8 YP 103)],[],.run,none⟩
theorem zr(B:Lo)(rf:Qc)(plan:List Int)(i:Int)(ys:List Span)(Ql:Nat->Value):let a:=rf.Qa.getD i.toNat La;CE.finK 5 (Qn YP (Q0 YP) J0 B 6 5 (Tl rf plan i ys Ql) (P3 rf plan i ys Ql) 5
 [(9,Qf.pure (YI (Qd.count (Kx rf i)+Lc (Tj rf i) 1000)) [])] 0 [] []) [] [] []=some (OO.ret (lJ rf i),[],[],
 [Qz []/\Qv YP J0 100 #[YI a.count,YI rf.Qh] (YI (a.count+Lc (a.count*rf.Qh) 1000))]):=by intro a;kernel_rfl
theorem zq(B:Lo)(rf:Qc)(plan:List Int)(i:Int)(ys:List Span)(Ql:Nat->Value):let f:=VV rf plan i ys;let e:=Kx rf i;let d:=Lb i;let c:=rf.Qa;let b:=c.getD d La;let a:=LM ys d {lo:=e.count,hi:=e.count+Lc (Tj rf i) 1000};CE.landA 2 (Qn YP (Q0 YP) J0 B 13 2 (XU (none) 102 26 (([1,5,11,12,13]:List Nat).zip (UY rf plan i ys)) Ql UZ) (X9 (WZ rf plan) 2 (([]:List Nat).zip (UX rf plan i ys)) f) (2+1+f.length)
 [(0,Wj),(2,Qf.tidx d (Tk e)),(11,Qf.call (Le 5) (OO.ret (lJ rf i)) ([]++(5,QV)::QL 6 []) 6 []),(12,Qf.XO (Hint.idx d)),(13,Qf.XO (Hint.st (lH rf i ys))),(14,Zu (i+1))] 0 [] []) [1,5,11,12,13] [] [(3,KS.cells [] (lH rf i ys))] []=some ⟨102,26,UZ,[],.run,none,UY rf plan (i+1) a,([]:List Nat).zip (UX rf plan (i+1) a),VV rf plan (i+1) a,
 [QE 2 [] (lK rf i ys) (lK rf i ys),wq (i+1)=i+1,0+Lb i*2+TypeInfo.size Try.t38<=LQ (Qe QQ ys)/\splice (Qe QQ ys) (0+Lb i*2) (Value.cells (Xx {len:=16000,tr:=Tri.set 14 (Tri.set 14 Tri.lf 22 (lL rf i)) 23 (.pointer (some {block:=3,off:=0+Lb i*2}))} 22))=Qe QQ (LM ys d {lo:=b.count,hi:=b.count+Lc (b.count*rf.Qh) 1000}),i=(↑d:Int)/\Lb i<Ld c,FJ YP B (Tl rf plan i ys Ql) (P3 rf plan i ys Ql) 5 (OO.ret (lL rf i)) (([]++((5,QV)::QL (5+1) []))++P3 rf plan i ys Ql) 6 (Le 5) [],VN i c.length (Qe Qt c) Try.t54.size (Tk b),XB i (↑c.length:Int)=true]⟩:=by intro f e d c b a;kernel_rfl
theorem zp(B:Lo)(rf:Qc)(plan:List Int)(i:Int)(ys:List Span)(Ql:Nat->Value):let c:=VV rf plan i ys;let b:=Ld rf.Qa;let a:=Fz.cs {k:=3,rs:=[],cs:=Qe QQ ys};CE.finK 2 (Qn YP (Q0 YP) J0 B 9 2 (XU (none) 102 26 (([1,5,11,12,13]:List Nat).zip (UY rf plan i ys)) Ql UZ) (X9 (WZ rf plan) 2 (([]:List Nat).zip (UX rf plan i ys)) c) (2+1+c.length)
 [(0,WC)] 0 [] []) [] [] [{k:=3,rs:=[],cs:=Qe QQ ys}]=some (OO.ret (Qk 2 (Xo b a)),[],[],
 [X1 (Fz.rs {k:=3,rs:=[],cs:=Qe QQ ys}) (Qe QQ ys) a,XB i (↑b:Int)=false]):=by intro c b a;kernel_rfl
end
set_option maxHeartbeats 4000000 in
theorem pr(rf:Qc)(plan:List Int)(hn:rf.Qa.length<=1000000)(hm:0<=rf.Qh/\rf.Qh<=2000)(hc:∀k:Int,0<=k->k<rf.Qa.length->0<=(rf.Qa.getD k.toNat La).count/\(rf.Qa.getD k.toNat La).count<=1000000){B:Lo}(hJ:∀w,B.has w->J0 w):∀m:Nat,(∀(i:Int) (ys:List Span),(rf.Qa.length-i.toNat)=m->∀(h0:0<=i) (hy:ys=Ro (Z7 rf.Qh) ⟨0,0⟩ rf.Qa i),(∃Ql:Nat->Value,(∀t,Xh (Ql t))/\GoE YP B (Yx rf plan) (WZ rf plan) 2 (XU (none) 102 26 (([1,5,11,12,13]:List Nat).zip (UY rf plan i ys)) Ql UZ) (X9 (WZ rf plan) 2 (([]:List Nat).zip (UX rf plan i ys)) (VV rf plan i ys)) (2+1+(VV rf plan i ys).length) ([]:List Nat))->FinK YP B (Yx rf plan) (WZ rf plan) 2 (.ret (Qk 2 (Rw (rf.Qa.map (Z7 rf.Qh))))) (([]:List Nat).zip ([])) ([]) ([]:List Nat)):=by
 intro m0;induction m0 using LB with
 |_ m0 ih0=>
  intro i ys Jw h0 hy ⟨Ql,Wl,X0⟩;have hyl:ys.length=rf.Qa.length:=by rw[hy];exact SD
  by_cases q0:(i:Int)<((↑rf.Qa.length:Int))
  ·have rj1:FJ YP B (Tl rf plan i ys Ql) (P3 rf plan i ys Ql) 5 (OO.ret (.agg #[YI (Qd.count (rf.Qa.getD i.toNat La)),YI (Qd.count (rf.Qa.getD i.toNat La)+Lc (Qd.count (rf.Qa.getD i.toNat La)*rf.Qh) 1000)])) (([]++((5,QV)::QL (5+1) []))++P3 rf plan i ys Ql) 6 (Le 5) []:=by
    have hc1:=hc i h0 q0;exact FinK.fjB (GoE.fK ((GoE.refl (P:=YP) (B:=B) (c0:=Tl rf plan i ys Ql) uA).widen (Wf:=((([]):List (Nat×KS)).map (·.1))) (by simp) wO) (zr B rf plan i ys Ql)
     ⟨⟨trivial,zu (Qd.count (rf.Qa.getD i.toNat La)) rf.Qh (by omega) (by omega)⟩,trivial⟩) (ex:=[3]) (by kernel_rfl) ⟨trivial,⟨trivial,⟨(PC (t:=38) (fl:=(0,0)) (fun x=>List.all_eq_true.1 (by rfl))),⟨trivial,⟨trivial,trivial⟩⟩⟩⟩⟩
   have hc1:=hc i h0 q0;exact((ih0 _ (by omega)) (i+1) (LM ys i.toNat {lo:=Qd.count (rf.Qa.getD i.toNat La),hi:=Qd.count (rf.Qa.getD i.toNat La)+Lc (Qd.count (rf.Qa.getD i.toNat La)*rf.Qh) 1000}) rfl (by omega) (by(subst hy;exact SC (f:=Z7 rf.Qh) h0 q0))
    (GoE.lA X0 (zq B rf plan i ys Ql)
    (by exact⟨cS,⟨wI,⟨(by exact WQ (z:=2) (k:=Lb i) (fun _=>rfl) (by first|omega|(rw[LS];omega)|(rw[LN];omega)) rfl rfl),⟨⟨by omega,by omega⟩,⟨rj1,⟨(iX (lX 12)),⟨(Xs q0),trivial⟩⟩⟩⟩⟩⟩⟩) (by kernel_rfl) (by kernel_rfl) (fun l hl=>by cases hl <;> decide))).cast (by rfl) (by rfl) (by rfl)
  ·exact(GoE.fK X0 (zp B rf plan i ys Ql)
    ⟨(X2 (fun x=>List.all_eq_true.1 (by rfl))),⟨(nL q0),trivial⟩⟩).cast (by exact congrArg (fun v=>OO.ret (Qk _ v)) (bo (hy.trans (SF (by omega))) (by simp))) (by rfl) (by rfl)

theorem zt(B:Lo)(rf:Qc)(plan:List Int):let a:=Ld rf.Qa;let c:=Lu a {lo:=0,hi:=0};let b:=Xx {len:=16000,tr:=Tri.set 14 Tri.lf 9 (YI (↑a:Int))} 9;CE.landA 2 (Qn YP (Q0 YP) J0 B 9 2 (Yx rf plan) (WZ rf plan) 2
 [(3,Qf.XO (Hint.mk a (lI rf)))] 0 [] []) [1,5,11,12,13] [] [(2,KS.rows [] [] [] (iI rf))] []=some ⟨102,26,UZ,[],.run,none,UY rf plan (0) c,([]:List Nat).zip (UX rf plan (0) c),VV rf plan (0) c,
 [QX 2 [] [] [] (lI rf) (iI rf),TK YP 36 b b=some (38,Qe (Yq [YI 0,YI 0]) (Lu a ()),Ld rf.Qa,TypeInfo.size Try.t38)]⟩:=by intro a c b;kernel_rfl
theorem zo(B:Lo)(rf:Qc)(plan:List Int):let a:=OO.ret (zm rf);Xv (Qn YP (Q0 YP) J0 B 6 1 (Qu YP 82 8 (([.agg (QN rf plan).toArray]).map (Q4 0 4))) Zd 1
 [(6,Qf.call (Le 2) a ([]++(2,QV)::QL 3 []) 3 [])] 0 [] []) []=some (Xo (Ld (Ti rf)) (Qe QQ (Ti rf)),
 [FJ YP B (Yx rf plan) (WZ rf plan) 2 a (([]++((2,QV)::QL (2+1) []))++WZ rf plan) 3 (Le 2) []]):=by intro a;kernel_rfl
set_option maxHeartbeats 4000000 in
theorem CP(rf:Qc)(plan:List Int)(hn:rf.Qa.length<=1000000)(hm:0<=rf.Qh/\rf.Qh<=2000)(hc:∀k:Int,0<=k->k<rf.Qa.length->0<=(rf.Qa.getD k.toNat La).count/\(rf.Qa.getD k.toNat La).count<=1000000){B:Lo}(hJ:∀w,B.has w->J0 w):EndsT YP B (Qu YP 82 8 (([.agg (QN rf plan).toArray]).map (Q4 0 4))) (Rw (rf.Qa.map (Z7 rf.Qh))):=by
 have rj0:FJ YP B (Yx rf plan) (WZ rf plan) 2 (OO.ret (Qk 2 (Xo (Ld (List.map (Z7 rf.Qh) rf.Qa)) (Qe QQ (List.map (Z7 rf.Qh) rf.Qa))))) (([]++((2,QV)::QL (2+1) []))++WZ rf plan) 3 (Le 2) []:=by
  exact FinK.fjB ((pr rf plan hn hm hc hJ _) (0) (Lu rf.Qa.length {lo:=0,hi:=0}) rfl (by omega) (by exact gf)
   (GoE.lA ((GoE.refl (P:=YP) (B:=B) (c0:=Yx rf plan) uA).widen (Wf:=((([]):List (Nat×KS)).map (·.1))) (by simp) wO) (zt B rf plan)
   ⟨(by exact(KJ (by exact⟨(.simple rfl),⟨(.simple rfl),trivial⟩⟩) _)),⟨(oU (bytes:=16) (by kernel_rfl) (by omega) (by omega) (by omega)),trivial⟩⟩ (by kernel_rfl) (by kernel_rfl) (fun l hl=>by cases hl <;> decide))) (ex:=[]) (by kernel_rfl) (Zb _)
 exact(GoE.eT GoE.start (zo B rf plan)
  ⟨rj0,trivial⟩).cR
theorem Nr(rf:Qc)(plan:List Int)(hn:rf.Qa.length<=1000000)(hm:0<=rf.Qh/\rf.Qh<=2000)(hc:∀k:Int,0<=k->k<rf.Qa.length->0<=(rf.Qa.getD k.toNat La).count/\(rf.Qa.getD k.toNat La).count<=1000000):Qv YP J0 82 #[.agg (QN rf plan).toArray] (Rw (rf.Qa.map (Z7 rf.Qh))):=
 Xd (ts:=[.agg (QN rf plan).toArray]) Zc (c0:=Qu YP 82 8 (([.agg (QN rf plan).toArray]).map (Q4 0 4))) (by kernel_rfl) (by kernel_rfl) fun B hJ=>CP rf plan hn hm hc hJ
end
end Go.Proofs.Ytncjjangllkokaa

namespace Go.Proofs.Ytncjjangllkokaa
open Go Go.CE Go.RowKit
noncomputable section
set_option maxRecDepth 100000
def Ze{β:Type}(n:Int)(f:Int->β):List β:=(PQ 0 n).map f
theorem Xa{β:Type}{n:Int}{f:Int->β}:(Ze n f).length=n.toNat:=by simp[Ze,PQ]
theorem Pe{β:Type}{n:Int}{f:Int->β}{k:Nat}(h:k<n.toNat):(Ze n f)[k]? =some (f k):=by
 unfold Ze PQ;rw[Lx,Lx,List.getElem?_range (by omega)];simp
theorem Xc{β:Type}[Inhabited β]{n k:Int}{f:Int->β}(h0:0<=k)(h:k<n):(Ze n f).getD k.toNat La=f k:=by
 rw[Li,Pe (by omega),show((k.toNat:Nat):Int)=k by omega];rfl
theorem Zx{β:Type}{n:Int}{f g:Int->β}(h:∀k,0<=k->k<n->f k=g k):Ze n f=Ze n g:=by
 refine List.ext_getElem? fun k=> ?_
 by_cases hk:k<n.toNat
 ·rw[Pe hk,Pe hk,h k (by omega) (by omega)]
 ·rw[LA (by rw[Xa];omega),LA (by rw[Xa];omega)]
theorem du{β:Type}{n i:Int}{f:Int->β}{v:β}(h0:0<=i)(h:i<n):(Ze n f).set i.toNat v=Ze n (fun k=>if k=i then v else f k):=by
 refine List.ext_getElem? fun k=> ?_
 by_cases hk:k<n.toNat
 ·rw[List.getElem?_set,Xa,Pe hk,Pe hk];by_cases e:i.toNat=k
  ·rw[if_pos e,if_pos (by omega),if_pos (by omega)]
  ·rw[if_neg e,if_neg (by omega)]
 ·rw[LA (by rw[LS,Xa];omega),LA (by rw[Xa];omega)]
theorem cc{α β:Type}[Inhabited α]{xs:List α}{f:α->β}:xs.map f=Ze xs.length (fun k=>f (xs.getD k.toNat La)):=by
 refine List.ext_getElem? fun k=> ?_
 by_cases hk:k<xs.length
 ·rw[Pe (by omega),Lx,L7 hk];simp[Li,hk]
 ·rw[LA (by simp;omega),LA (by rw[Xa];omega)]
def EI(x:Qd):Span:=⟨x.Vr,x.Vs⟩
def Ul(p k:Int)(x:Qd):Span:=if hasB p k then EI x else Yg x
def ZH(ps:List Qd)(p:Int):List Span:=Ze ps.length fun k=>Ul p k (ps.getD k.toNat La)
def SQ(ps:List Qd)(p i:Int):List Span:=Ze ps.length fun k=>if k<i then Ul p k (ps.getD k.toNat La)else Yg (ps.getD k.toNat La)
theorem EA{ps:List Qd}{p:Int}:ps.map Yg=SQ ps p 0:=by
 rw[cc];exact Zx fun k h0 _=>by rw[if_neg (by omega)]
theorem yS{ps:List Qd}{p i:Int}(h:ps.length<=i):SQ ps p i=ZH ps p:=Zx fun k h0 h1=>by rw[if_pos (by omega)]
theorem BL{ps:List Qd}{p i:Int}(h0:0<=i)(h:hasB p i=false):SQ ps p i=SQ ps p (i+1):=Zx fun k g0 g1=>by
 by_cases e:k=i
 ·subst e;rw[if_neg (by omega),if_pos (by omega),Ul,h];rfl
 ·by_cases e2:k<i
  ·rw[if_pos e2,if_pos (by omega)]
  ·rw[if_neg e2,if_neg (by omega)]
theorem kK{ps:List Qd}{p i:Int}(h0:0<=i)(h1:i<ps.length)(h:hasB p i=true):(SQ ps p i).set i.toNat (EI (ps.getD i.toNat La))=SQ ps p (i+1):=by
 unfold SQ;rw[du h0 h1];refine Zx fun k g0 g1=> ?_
 by_cases e:k=i
 ·subst e;rw[if_pos rfl,if_pos (by omega),Ul,h];rfl
 ·rw[if_neg e];by_cases e2:k<i
  ·rw[if_pos e2,if_pos (by omega)]
  ·rw[if_neg e2,if_neg (by omega)]
theorem cA{n k:Int}(hn:0<=n):0<=((ZT n k:Nat):Int)/\((ZT n k:Nat):Int)<=n:=by
 have:=M5 (a:=n) (n:=k);omega
section
variable (x_:Qd)(rf:Qc)(plan:List Int)(k i:Int)
def JU:Array Value:=#[YI x_.count,YI x_.room,YI x_.UR,YI x_.US,YI x_.QI,YI x_.Xw,YI x_.VB,YI x_.VC,YI x_.Vr,YI x_.Vs,YI x_.goal,YI x_.XF]
def bF:Array Value:=let i:=rf.Qh;let g:=rf.Qb;let f:=plan.getD 3 0;let e:=plan.getD 2 0;let d:=plan.getD 1 0;let c:=plan.getD 0 0;let b:=rf.Qa;let h:=Ld b;let a:=Xo h (Qe Qt b);#[.agg #[Qk 0 a,YI i,YI g,YI c,YI d,YI e,YI f],YI k,pA 1 0,.tuple #[],.slice none 0 0,pA 4 0,.tuple #[],pA 1 0,pA 1 0,Qk 0 a,.slice (some {block:=3,off:=0}) h 2,.agg #[Qk 0 a,YI i,YI g,YI c,YI d,YI e,YI f],YI k,Value.func (Fn.func 112) #[] #[Qk 5 (ZU 0 #[Xo h (Qe Qt b),YI i,YI g,YI c,YI d,YI e,YI f]),Qk 5 (ZU 0 #[YI k])],.tuple #[],.tuple #[],.tuple #[],.tuple #[],.tuple #[],.tuple #[],.tuple #[],.tuple #[],.tuple #[],.tuple #[],.tuple #[],.tuple #[]]
def bE:Array Value:=#[Xp rf.Qa,YI rf.Qh,YI rf.Qb,YI (plan.getD 0 0),YI (plan.getD 1 0),YI (plan.getD 2 0),YI (plan.getD 3 0)]
def C9:Value:=(.agg #[YI (Qd.VB (rf.Qa.getD i.toNat La)),YI (Qd.VC (rf.Qa.getD i.toNat La))])
def VU(k:Int):Qm:=[(1,Obj.cells #[Qk 0 (Xp rf.Qa),YI rf.Qh,YI rf.Qb,YI (plan.getD 0 0),YI (plan.getD 1 0),YI (plan.getD 2 0),YI (plan.getD 3 0)] 84),(0,Obj.coro none)]
def JW(plan:List Int)(k:Int):CF:=⟨102,ofList 26 [Qk 0 (Xp rf.Qa),Value.func (Fn.func 105) #[] #[]],[Item.code (Q8 YP 102)],[],.run,none⟩
def KZ(plan:List Int)(k:Int)(i:Int)(ys:List Span):List Value:=[Value.func (Fn.func 105) #[] #[],.slice (some {block:=3,off:=0}) rf.Qa.length 2,Qk 0 (Xp rf.Qa),YI (↑rf.Qa.length:Int),YI i]
def KY(rf:Qc)(plan:List Int)(k:Int)(i:Int)(ys:List Span):List Obj:=[]
def UG(rf:Qc)(plan:List Int)(k:Int)(i:Int)(ys:List Span):List Obj:=[.cells (Qe QQ ys) 38 (0,0)]
def Ya:List Item:=([.code [1,1,0,1,0,0],.inLoop [1,1,0,1,0,0],.inBlock 0,.code [1,1,1]]).map (it (Q8 YP 102))
def Sj(k:Int)(i:Int)(ys:List Span)(Ql:Nat->Value):Qm:=[(4,Obj.cells (JU (rf.Qa.getD i.toNat La)) 54),(2,Obj.coro none),(3,Obj.cells (Qe QQ ys) 38),(1,Obj.cells #[Qk 0 (Xp rf.Qa),YI rf.Qh,YI rf.Qb,YI (plan.getD 0 0),YI (plan.getD 1 0),YI (plan.getD 2 0),YI (plan.getD 3 0)] 84),(0,Obj.coro none)]
def bI(plan:List Int)(k:Int)(i:Int)(ys:List Span)(Ql:Nat->Value):CF:=⟨105,ofList 5 [.agg (JU (rf.Qa.getD i.toNat La))],[Item.code (Q8 YP 105)],[],.run,none⟩
theorem CL(B:Lo)(rf:Qc)(plan:List Int)(k:Int)(i:Int)(ys:List Span)(Ql:Nat->Value):let a:=rf.Qa.getD i.toNat La;CE.finK 5 (Qn YP (Q0 YP) J0 B 6 5 (bI rf plan k i ys Ql) (Sj rf plan k i ys Ql) 5
 [] 0 [] []) [] [] []=some (OO.ret (.agg #[YI a.VB,YI a.VC]),[],[],
 []):=by intro a;kernel_rfl
theorem CK(B:Lo)(rf:Qc)(plan:List Int)(k:Int)(i:Int)(ys:List Span)(Ql:Nat->Value):let g:=UG rf plan k i ys;let f:=C9 rf i;let d:=Lb i;let c:=rf.Qa;let b:=c.getD d La;let a:=LM ys d {lo:=b.VB,hi:=b.VC};let e:=Qe QQ a;CE.landA 2 (Qn YP (Q0 YP) J0 B 13 2 (XU (none) 102 26 (([1,5,11,12,13]:List Nat).zip (KZ rf plan k i ys)) Ql Ya) (X9 (VU rf plan k) 2 (([]:List Nat).zip (KY rf plan k i ys)) g) (2+1+g.length)
 [(0,Wj),(2,Qf.tidx d (JU b)),(11,Qf.call (Le 5) (OO.ret f) ([]++(5,QV)::QL 6 []) 6 []),(12,Qf.XO (Hint.idx d)),(13,Qf.XO (Hint.st e)),(14,Zu (i+1))] 0 [] []) [1,5,11,12,13] [] [(3,KS.cells [] e)] []=some ⟨102,26,Ya,[],.run,none,KZ rf plan k (i+1) a,([]:List Nat).zip (KY rf plan k (i+1) a),UG rf plan k (i+1) a,
 [QE 2 [] e e,wq (i+1)=i+1,0+Lb i*2+TypeInfo.size Try.t38<=LQ (Qe QQ ys)/\splice (Qe QQ ys) (0+Lb i*2) (Value.cells (Xx {len:=16000,tr:=Tri.set 14 (Tri.set 14 Tri.lf 22 f) 23 (.pointer (some {block:=3,off:=0+Lb i*2}))} 22))=Qe QQ a,i=(↑d:Int)/\Lb i<Ld c,FJ YP B (bI rf plan k i ys Ql) (Sj rf plan k i ys Ql) 5 (OO.ret f) (([]++((5,QV)::QL (5+1) []))++Sj rf plan k i ys Ql) 6 (Le 5) [],i=(↑d:Int)/\Lb i<Ld c/\Lh (Qe Qt c) (Lb i*TypeInfo.size Try.t54) (Lb i*TypeInfo.size Try.t54+TypeInfo.size Try.t54)=(JU b),XB i (↑c.length:Int)=true]⟩:=by intro g f d c b a e;kernel_rfl
theorem CI(B:Lo)(rf:Qc)(plan:List Int)(k:Int)(i:Int)(ys:List Span)(Ql:Nat->Value):let c:=UG rf plan k i ys;let b:=Ld rf.Qa;let a:=Qe QQ ys;CE.finK 2 (Qn YP (Q0 YP) J0 B 9 2 (XU (none) 102 26 (([1,5,11,12,13]:List Nat).zip (KZ rf plan k i ys)) Ql Ya) (X9 (VU rf plan k) 2 (([]:List Nat).zip (KY rf plan k i ys)) c) (2+1+c.length)
 [(0,WC)] 0 [] []) [] [(3,KS.cells [] a)] []=some (OO.ret (.slice (some {block:=3,off:=0}) b 2),[],[Obj.cells a 38],
 [QE 2 [] a a,XB i (↑b:Int)=false]):=by intro c b a;kernel_rfl
end
set_option maxHeartbeats 4000000 in
theorem rO(rf:Qc)(plan:List Int)(k:Int)(hn:rf.Qa.length<=4)(hl:plan.length<=4)(k0:0<=k)(k1:k<4)(hp:∀j:Nat,0<=plan.getD j 0/\plan.getD j 0<=1000000){B:Lo}(hJ:∀w,B.has w->J0 w):∀m:Nat,(∀(i:Int) (ys:List Span),(rf.Qa.length-i.toNat)=m->∀(h0:0<=i) (hy:ys=Ro Yg ⟨0,0⟩ rf.Qa i),(∃Ql:Nat->Value,(∀t,Xh (Ql t))/\GoE YP B (JW rf plan k) (VU rf plan k) 2 (XU (none) 102 26 (([1,5,11,12,13]:List Nat).zip (KZ rf plan k i ys)) Ql Ya) (X9 (VU rf plan k) 2 (([]:List Nat).zip (KY rf plan k i ys)) (UG rf plan k i ys)) (2+1+(UG rf plan k i ys).length) ([]:List Nat))->FinK YP B (JW rf plan k) (VU rf plan k) 2 (.ret (.slice (some ⟨3,0,none⟩) rf.Qa.length 2)) (([]:List Nat).zip ([])) ([.cells (Qe QQ (rf.Qa.map Yg)) 38 (0,0)]) ([]:List Nat)):=by
 intro m0;induction m0 using LB with
 |_ m0 ih0=>
  intro i ys Jw h0 hy ⟨Ql,Wl,X0⟩;have hyl:ys.length=rf.Qa.length:=by rw[hy];exact SD
  by_cases q0:(i:Int)<((↑rf.Qa.length:Int))
  ·have rj1:FJ YP B (bI rf plan k i ys Ql) (Sj rf plan k i ys Ql) 5 (OO.ret (.agg #[YI (Qd.VB (rf.Qa.getD i.toNat La)),YI (Qd.VC (rf.Qa.getD i.toNat La))])) (([]++((5,QV)::QL (5+1) []))++Sj rf plan k i ys Ql) 6 (Le 5) []:=by
    exact FinK.fjB (GoE.fK ((GoE.refl (P:=YP) (B:=B) (c0:=bI rf plan k i ys Ql) uA).widen (Wf:=((([]):List (Nat×KS)).map (·.1))) (by simp) wO) (CL B rf plan k i ys Ql)
     trivial) (ex:=[3]) (by kernel_rfl) ⟨trivial,⟨trivial,⟨(PC (t:=38) (fl:=(0,0)) (fun x=>List.all_eq_true.1 (by rfl))),⟨trivial,⟨trivial,trivial⟩⟩⟩⟩⟩
   exact((ih0 _ (by omega)) (i+1) (LM ys i.toNat {lo:=Qd.VB (rf.Qa.getD i.toNat La),hi:=Qd.VC (rf.Qa.getD i.toNat La)}) rfl (by omega) (by(subst hy;exact SC (f:=Yg) h0 q0))
    (GoE.lA X0 (CK B rf plan k i ys Ql)
    (by exact⟨cS,⟨wI,⟨(by exact WQ (z:=2) (k:=Lb i) (fun _=>rfl) (by first|omega|(rw[LS];omega)|(rw[LN];omega)) rfl rfl),⟨⟨by omega,by omega⟩,⟨rj1,⟨(iX (lX 12)),⟨(Xs q0),trivial⟩⟩⟩⟩⟩⟩⟩) (by kernel_rfl) (by kernel_rfl) (fun l hl=>by cases hl <;> decide))).cast (by rfl) (by rfl) (by rfl)
  ·exact(GoE.fK X0 (CI B rf plan k i ys Ql)
    ⟨cS,⟨(nL q0),trivial⟩⟩).cast (by rfl) (by rfl) (by(rw[hy,SF (by omega)];done))

section
variable (rf:Qc)(plan:List Int)(k i:Int)
theorem CO(B:Lo)(rf:Qc)(plan:List Int)(k:Int):let c:=Yq [YI 0,YI 0];let a:=Ld rf.Qa;let e:=Lu a ();let d:=Xx {len:=16000,tr:=Tri.set 14 Tri.lf 9 (YI (↑a:Int))} 9;let b:=Lu a {lo:=0,hi:=0};CE.landA 2 (Qn YP (Q0 YP) J0 B 9 2 (JW rf plan k) (VU rf plan k) 2
 [(3,Qf.XO (Hint.mk a (Qe c e)))] 0 [] []) [1,5,11,12,13] [] [(2,KS.rows [] [] [] (Qe QQ b))] []=some ⟨102,26,Ya,[],.run,none,KZ rf plan k (0) b,([]:List Nat).zip (KY rf plan k (0) b),UG rf plan k (0) b,
 [QX 2 [] [] [] (Qe c e) (Qe QQ b),TK YP 36 d d=some (38,Qe c e,Ld rf.Qa,TypeInfo.size Try.t38)]⟩:=by intro c a e d b;kernel_rfl
def Si(k:Int):Qm:=[(4,Obj.cells #[.slice (some {block:=3,off:=0}) rf.Qa.length 2] 36),(2,Obj.coro none),(3,Obj.cells (Qe QQ (List.map Yg rf.Qa)) 38),(1,Obj.cells #[Qk 0 (Xp rf.Qa),YI rf.Qh,YI rf.Qb,YI (plan.getD 0 0),YI (plan.getD 1 0),YI (plan.getD 2 0),YI (plan.getD 3 0)] 84),(0,Obj.coro none)]
def bH:CF:=⟨91,ofList 6 [.agg #[Qk 0 (Xp rf.Qa),YI rf.Qh,YI rf.Qb,YI (plan.getD 0 0),YI (plan.getD 1 0),YI (plan.getD 2 0),YI (plan.getD 3 0)],YI k],[Item.code (Q8 YP 91)],[],.run,none⟩
theorem CH(B:Lo)(rf:Qc)(plan:List Int)(k:Int):let i:=rf.Qh;let g:=rf.Qb;let e:=plan.getD 3 0;let d:=plan.getD 2 0;let c:=plan.getD 1 0;let b:=plan.getD 0 0;let a:=rf.Qa;let h:=Ld a;let f:=Qe Qt a;CE.finK 5 (Qn YP (Q0 YP) J0 B 6 5 (bH rf plan k) (Si rf plan k) 5
 [] 0 [] []) [] [] [{k:=5,rs:=[0],cs:=#[Xo h f,YI i,YI g,YI b,YI c,YI d,YI e]},{k:=6,rs:=[],cs:=#[YI k]}]=some (OO.ret (Value.func (Fn.func 112) #[] #[Qk 5 (ZU 0 #[Xo h f,YI i,YI g,YI b,YI c,YI d,YI e]),Qk 5 (ZU 0 #[YI k])]),[],[],
 [X1 (Fz.rs {k:=5,rs:=[0],cs:=(bE rf plan)}) #[Qk 0 (Xo h f),YI i,YI g,YI b,YI c,YI d,YI e] (Fz.cs {k:=5,rs:=[0],cs:=(bE rf plan)}),X1 (Fz.rs {k:=6,rs:=[],cs:=#[YI k]}) #[YI k] (Fz.cs {k:=6,rs:=[],cs:=#[YI k]})]):=by intro i g e d c b a h f;kernel_rfl
def Vl:Qm:=[(7,Obj.loop {state:=LoopState.ready,pending:=none,fn:=84,tmps:=#[.agg #[Qk 0 (Xp rf.Qa),YI rf.Qh,YI rf.Qb,YI (plan.getD 0 0),YI (plan.getD 1 0),YI (plan.getD 2 0),YI (plan.getD 3 0)],YI k,pA 1 0,.tuple #[],.slice none 0 0,pA 4 0,.tuple #[],pA 1 0,pA 1 0,Qk 0 (Xp rf.Qa),.slice (some {block:=3,off:=0}) rf.Qa.length 2,.agg #[Qk 0 (Xp rf.Qa),YI rf.Qh,YI rf.Qb,YI (plan.getD 0 0),YI (plan.getD 1 0),YI (plan.getD 2 0),YI (plan.getD 3 0)],YI k,Value.func (Fn.func 112) #[] #[Qk 5 (ZU 0 #[Xp rf.Qa,YI rf.Qh,YI rf.Qb,YI (plan.getD 0 0),YI (plan.getD 1 0),YI (plan.getD 2 0),YI (plan.getD 3 0)]),Qk 5 (ZU 0 #[YI k])],.tuple #[],.tuple #[],.tuple #[],.tuple #[],.tuple #[],.tuple #[],.tuple #[],.tuple #[],.tuple #[],.tuple #[],.tuple #[],.tuple #[]],params:=#[14],assign:=UD (Q8 YP 84) [1,1,0,1,0,0],body:=UD (Q8 YP 84) [1,1,0,1,0,1],defers:=6}),(6,Obj.deferred (some [])),(5,Obj.coro none),(4,Obj.cells #[.slice (some {block:=3,off:=0}) rf.Qa.length 2] 36),(2,Obj.coro none),(3,Obj.cells (Qe QQ (List.map Yg rf.Qa)) 38),(1,Obj.cells #[Qk 0 (Xp rf.Qa),YI rf.Qh,YI rf.Qb,YI (plan.getD 0 0),YI (plan.getD 1 0),YI (plan.getD 2 0),YI (plan.getD 3 0)] 84),(0,Obj.coro none)]
def JV:CF:=⟨112,ofList 27 [Value.func (Fn.yield 7) #[] #[],Qk 5 (ZU 0 #[Xp rf.Qa,YI rf.Qh,YI rf.Qb,YI (plan.getD 0 0),YI (plan.getD 1 0),YI (plan.getD 2 0),YI (plan.getD 3 0)]),Qk 5 (ZU 0 #[YI k])],[Item.code (Q8 YP 112)],[],.run,none⟩
def V4(ys:List Span):List Value:=let a:=rf.Qa;[Value.func (Fn.yield 7) #[] #[],Qk 5 (ZU 0 #[Xo a.length (Qe Qt a),YI rf.Qh,YI rf.Qb,YI (plan.getD 0 0),YI (plan.getD 1 0),YI (plan.getD 2 0),YI (plan.getD 3 0)]),Qk 5 (ZU 0 #[YI k]),YI (↑a.length:Int),YI i]
def V3(i:Int)(ys:List Span):List Obj:=let j:=rf.Qh;let g:=rf.Qb;let f:=plan.getD 3 0;let e:=plan.getD 2 0;let d:=plan.getD 1 0;let c:=plan.getD 0 0;let b:=rf.Qa;let h:=Ld b;let a:=Xo h (Qe Qt b);[Obj.loop {state:=LoopState.ready,pending:=none,fn:=84,tmps:=#[.agg #[Qk 0 a,YI j,YI g,YI c,YI d,YI e,YI f],YI k,pA 1 0,.tuple #[],.slice none 0 0,pA 4 0,.tuple #[],pA 1 0,pA 1 0,Qk 0 a,.slice (some {block:=3,off:=0}) h 2,.agg #[Qk 0 a,YI j,YI g,YI c,YI d,YI e,YI f],YI k,Value.func (Fn.func 112) #[] #[Qk 5 (ZU 0 #[Xo h (Qe Qt b),YI j,YI g,YI c,YI d,YI e,YI f]),Qk 5 (ZU 0 #[YI k])],.tuple #[],.tuple #[],.tuple #[],.tuple #[],.tuple #[],.tuple #[],.tuple #[],.tuple #[],.tuple #[],.tuple #[],.tuple #[],.tuple #[]],params:=#[14],assign:=UD (Q8 YP 84) [1,1,0,1,0,0],body:=UD (Q8 YP 84) [1,1,0,1,0,1],defers:=6},.cells (Qe QQ ys) 38 (0,0)]
def WS(rf:Qc)(plan:List Int)(k:Int)(i:Int)(ys:List Span):List Obj:=[]
def V5:List Item:=([.code [1,0,0],.inLoop [1,0,0],.inBlock 0]).map (it (Q8 YP 112))
def gR(B:Lo)(rf:Qc)(plan:List Int)(k:Int)(i:Int)(ys:List Span)(Ql:Nat->Value):List Prop:=let b:=Tri.set 14 Tri.lf 16 (YI i);let a:=Qj [plan.getD 0 0,plan.getD 1 0,plan.getD 2 0,plan.getD 3 0] k.toNat;let d:=YI a;let c:=YI (↑(ZT a i):Int);[Yr YP BinOp.and 3 (Xx {len:=16000,tr:=Tri.set 14 Tri.lf 17 c} 17) (YI 1) (YI (↑(VH (↑(ZT a i):Int) 1):Int)),Yr YP BinOp.shr 3 (Xx {len:=16000,tr:=Tri.set 14 b 15 d} 15) (Xx {len:=16000,tr:=Tri.set 14 b 15 d} 16) c,k=(↑k.toNat:Int)/\Lb k<4/\Lh (bE rf plan) (3+Lb k*TypeInfo.size Try.t3) (3+Lb k*TypeInfo.size Try.t3+TypeInfo.size Try.t3)=#[YI a],XB i (↑rf.Qa.length:Int)=true]++([]:List Prop)
def qu(rf:Qc)(plan:List Int)(k:Int)(i:Int)(ys:List Span)(Ql:Nat->Value):QA:=let a:=Qj [plan.getD 0 0,plan.getD 1 0,plan.getD 2 0,plan.getD 3 0] k.toNat;[(0,Wj),(5,Qf.tarr k.toNat #[YI a]),(8,Qf.bin (YI (↑(ZT a i):Int))),(9,Qf.bin (YI (↑(VH (↑(ZT a i):Int) 1):Int)))]
def Sg(i:Int)(ys:List Span)(Ql:Nat->Value):Qm:=[(7,Obj.loop {state:=LoopState.ready,pending:=none,fn:=84,tmps:=#[.agg #[Qk 0 (Xp rf.Qa),YI rf.Qh,YI rf.Qb,YI (plan.getD 0 0),YI (plan.getD 1 0),YI (plan.getD 2 0),YI (plan.getD 3 0)],YI k,pA 1 0,.tuple #[],.slice none 0 0,pA 4 0,.tuple #[],pA 1 0,pA 1 0,Qk 0 (Xp rf.Qa),.slice (some {block:=3,off:=0}) rf.Qa.length 2,.agg #[Qk 0 (Xp rf.Qa),YI rf.Qh,YI rf.Qb,YI (plan.getD 0 0),YI (plan.getD 1 0),YI (plan.getD 2 0),YI (plan.getD 3 0)],YI k,Value.func (Fn.func 112) #[] #[Qk 5 (ZU 0 #[Xp rf.Qa,YI rf.Qh,YI rf.Qb,YI (plan.getD 0 0),YI (plan.getD 1 0),YI (plan.getD 2 0),YI (plan.getD 3 0)]),Qk 5 (ZU 0 #[YI k])],.tuple #[],.tuple #[],.tuple #[],.tuple #[],.tuple #[],.tuple #[],.tuple #[],.tuple #[],.tuple #[],.tuple #[],.tuple #[],.tuple #[]],params:=#[14],assign:=UD (Q8 YP 84) [1,1,0,1,0,0],body:=UD (Q8 YP 84) [1,1,0,1,0,1],defers:=6}),(3,Obj.cells (Qe QQ ys) 38),(8,Obj.coro none),(7,Obj.loop {state:=LoopState.ready,pending:=none,fn:=84,tmps:=#[.agg #[Qk 0 (Xp rf.Qa),YI rf.Qh,YI rf.Qb,YI (plan.getD 0 0),YI (plan.getD 1 0),YI (plan.getD 2 0),YI (plan.getD 3 0)],YI k,pA 1 0,.tuple #[],.slice none 0 0,pA 4 0,.tuple #[],pA 1 0,pA 1 0,Qk 0 (Xp rf.Qa),.slice (some {block:=3,off:=0}) rf.Qa.length 2,.agg #[Qk 0 (Xp rf.Qa),YI rf.Qh,YI rf.Qb,YI (plan.getD 0 0),YI (plan.getD 1 0),YI (plan.getD 2 0),YI (plan.getD 3 0)],YI k,Value.func (Fn.func 112) #[] #[Qk 5 (ZU 0 #[Xp rf.Qa,YI rf.Qh,YI rf.Qb,YI (plan.getD 0 0),YI (plan.getD 1 0),YI (plan.getD 2 0),YI (plan.getD 3 0)]),Qk 5 (ZU 0 #[YI k])],.tuple #[],.tuple #[],.tuple #[],.tuple #[],.tuple #[],.tuple #[],.tuple #[],.tuple #[],.tuple #[],.tuple #[],.tuple #[],.tuple #[]],params:=#[14],assign:=UD (Q8 YP 84) [1,1,0,1,0,0],body:=UD (Q8 YP 84) [1,1,0,1,0,1],defers:=6}),(6,Obj.deferred (some [])),(5,Obj.coro none),(4,Obj.cells #[.slice (some {block:=3,off:=0}) rf.Qa.length 2] 36),(2,Obj.coro none),(3,Obj.cells (Qe QQ (List.map Yg rf.Qa)) 38),(1,Obj.cells #[Qk 0 (Xp rf.Qa),YI rf.Qh,YI rf.Qb,YI (plan.getD 0 0),YI (plan.getD 1 0),YI (plan.getD 2 0),YI (plan.getD 3 0)] 84),(0,Obj.coro none)]
def bG(ys:List Span)(Ql:Nat->Value):CF:=⟨84,ofList 26 [.agg #[Qk 0 (Xp rf.Qa),YI rf.Qh,YI rf.Qb,YI (plan.getD 0 0),YI (plan.getD 1 0),YI (plan.getD 2 0),YI (plan.getD 3 0)],YI k,pA 1 0,.tuple #[],.slice none 0 0,pA 4 0,.tuple #[],pA 1 0,pA 1 0,Qk 0 (Xp rf.Qa),.slice (some {block:=3,off:=0}) rf.Qa.length 2,.agg #[Qk 0 (Xp rf.Qa),YI rf.Qh,YI rf.Qb,YI (plan.getD 0 0),YI (plan.getD 1 0),YI (plan.getD 2 0),YI (plan.getD 3 0)],YI k,Value.func (Fn.func 112) #[] #[Qk 5 (ZU 0 #[Xp rf.Qa,YI rf.Qh,YI rf.Qb,YI (plan.getD 0 0),YI (plan.getD 1 0),YI (plan.getD 2 0),YI (plan.getD 3 0)]),Qk 5 (ZU 0 #[YI k])],YI i,.tuple #[],.tuple #[],.tuple #[],.tuple #[],.tuple #[],.tuple #[],.tuple #[],.tuple #[],.tuple #[],.tuple #[],.tuple #[]],[Item.code (UD (Q8 YP 84) [1,1,0,1,0,0]),Item.beginRound,Item.code (UD (Q8 YP 84) [1,1,0,1,0,1])],[],.run,some 7⟩
theorem CD(B:Lo)(rf:Qc)(plan:List Int)(k:Int)(i:Int)(ys:List Span)(Ql:Nat->Value):let p:=rf.Qh;let n:=rf.Qb;let l:=plan.getD 3 0;let j:=plan.getD 2 0;let h:=plan.getD 1 0;let g:=plan.getD 0 0;let e:=Lb i;let b:=rf.Qa;let o:=Ld b;let m:=Qe Qt b;let d:=Xo o m;let c:=b.getD e La;let a:=LM ys e {lo:=c.Vr,hi:=c.Vs};let f:=Qe QQ a;CE.finK 9 (Qn YP (Q0 YP) J0 B 6 9 (bG rf plan k i ys Ql) (Sg rf plan k i ys Ql) 9
 [(7,Qf.tidx e (JU c)),(10,Qf.XO (Hint.idx e)),(11,Qf.XO (Hint.st f))] 0 [] []) [(7,KS.auto),(3,KS.cells [] f)] [] []=some (OO.ret (.bool true),[(7,Obj.loop {state:=LoopState.ready,pending:=none,fn:=84,tmps:=#[.agg #[Qk 0 d,YI p,YI n,YI g,YI h,YI j,YI l],YI k,pA 1 0,.tuple #[],.slice none 0 0,pA 4 0,.tuple #[],pA 1 0,pA 1 0,Qk 0 d,.slice (some {block:=3,off:=0}) o 2,.agg #[Qk 0 d,YI p,YI n,YI g,YI h,YI j,YI l],YI k,Value.func (Fn.func 112) #[] #[Qk 5 (ZU 0 #[Xo o m,YI p,YI n,YI g,YI h,YI j,YI l]),Qk 5 (ZU 0 #[YI k])],.tuple #[],.tuple #[],.tuple #[],.tuple #[],.tuple #[],.tuple #[],.tuple #[],.tuple #[],.tuple #[],.tuple #[],.tuple #[],.tuple #[]],params:=#[14],assign:=UD (Q8 YP 84) [1,1,0,1,0,0],body:=UD (Q8 YP 84) [1,1,0,1,0,1],defers:=6}),(3,Obj.cells f 38)],[],
 [QE 9 [] f f,0+Lb i*2+TypeInfo.size Try.t38<=LQ (Qe QQ ys)/\splice (Qe QQ ys) (0+Lb i*2) (Value.cells (Xx {len:=16000,tr:=Tri.set 14 (Tri.set 14 Tri.lf 23 (.agg #[YI c.Vr,YI c.Vs])) 24 (.pointer (some {block:=3,off:=0+Lb i*2}))} 23))=Qe QQ a,i=(↑e:Int)/\Lb i<Ld b,i=(↑e:Int)/\Lb i<Ld b/\Lh m (Lb i*TypeInfo.size Try.t54) (Lb i*TypeInfo.size Try.t54+TypeInfo.size Try.t54)=(JU c)]):=by intro p n l j h g e b o m d c a f;kernel_rfl
theorem CC(B:Lo)(rf:Qc)(plan:List Int)(k:Int)(i:Int)(ys:List Span)(Ql:Nat->Value):let f:=OO.ret (.bool true);let e:=WS rf plan k i ys;let d:=rf.Qa.getD i.toNat La;let b:=Q8 YP 84;let a:=LM ys i.toNat {lo:=d.Vr,hi:=d.Vs};let c:=Qe QQ a;CE.landA 8 (Qn YP (Q0 YP) J0 B 16 8 (XU (none) 112 27 (([0,1,2,8,9]:List Nat).zip (V4 rf plan k i ys)) Ql V5) (X9 (Vl rf plan k) 8 (([7,3]:List Nat).zip (V3 rf plan k i ys)) e) (8+1+e.length)
 (qu rf plan k i ys Ql++[(10,Wj),(14,Qf.call (Le 9) f ([(7,Obj.loop {state:=LoopState.ready,pending:=none,fn:=84,tmps:=(bF rf plan k),params:=#[14],assign:=UD b [1,1,0,1,0,0],body:=UD b [1,1,0,1,0,1],defers:=6}),(3,Obj.cells c 38)]++(9,QV)::QL 10 []) 10 [7,3]),(17,Zu (i+1))]) 0 [] []) [0,1,2,8,9] [(7,KS.auto),(3,KS.cells [] c)] [] []=some ⟨112,27,V5,[],.run,none,V4 rf plan k (i+1) a,([7,3]:List Nat).zip (V3 rf plan k (i+1) a),WS rf plan k (i+1) a,
 [QE 8 [] c c,wq (i+1)=i+1,FJ YP B (bG rf plan k i ys Ql) (Sg rf plan k i ys Ql) 9 f (([(7,Obj.loop {state:=LoopState.ready,pending:=none,fn:=84,tmps:=(bF rf plan k),params:=#[14],assign:=UD b [1,1,0,1,0,0],body:=UD b [1,1,0,1,0,1],defers:=6}),(3,Obj.cells c 38)]++((9,QV)::QL (9+1) []))++Sg rf plan k i ys Ql) 10 (Le 9) [7,3],TO (↑(VH (↑(ZT (Qj [plan.getD 0 0,plan.getD 1 0,plan.getD 2 0,plan.getD 3 0] k.toNat) i):Int) 1):Int) 1=true]++gR B rf plan k i ys Ql⟩:=by intro f e d b a c;kernel_rfl
theorem CB(B:Lo)(rf:Qc)(plan:List Int)(k:Int)(i:Int)(ys:List Span)(Ql:Nat->Value):let b:=Qe QQ ys;let a:=WS rf plan k i ys;CE.landA 8 (Qn YP (Q0 YP) J0 B 16 8 (XU (none) 112 27 (([0,1,2,8,9]:List Nat).zip (V4 rf plan k i ys)) Ql V5) (X9 (Vl rf plan k) 8 (([7,3]:List Nat).zip (V3 rf plan k i ys)) a) (8+1+a.length)
 (qu rf plan k i ys Ql++[(10,WC),(17,Zu (i+1))]) 0 [] []) [0,1,2,8,9] [(7,KS.auto),(3,KS.cells [] b)] [] []=some ⟨112,27,V5,[],.run,none,V4 rf plan k (i+1) (ys),([7,3]:List Nat).zip (V3 rf plan k (i+1) (ys)),WS rf plan k (i+1) (ys),
 [QE 8 [] b b,wq (i+1)=i+1,TO (↑(VH (↑(ZT (Qj [plan.getD 0 0,plan.getD 1 0,plan.getD 2 0,plan.getD 3 0] k.toNat) i):Int) 1):Int) 1=false]++gR B rf plan k i ys Ql⟩:=by intro b a;kernel_rfl
theorem CA(B:Lo)(rf:Qc)(plan:List Int)(k:Int)(i:Int)(ys:List Span)(Ql:Nat->Value):let l:=rf.Qh;let j:=WS rf plan k i ys;let h:=rf.Qb;let g:=plan.getD 3 0;let f:=plan.getD 2 0;let e:=plan.getD 1 0;let d:=plan.getD 0 0;let c:=Qe QQ ys;let b:=Qe Qt rf.Qa;let a:=Ld rf.Qa;CE.finK 8 (Qn YP (Q0 YP) J0 B 7 8 (XU (none) 112 27 (([0,1,2,8,9]:List Nat).zip (V4 rf plan k i ys)) Ql V5) (X9 (Vl rf plan k) 8 (([7,3]:List Nat).zip (V3 rf plan k i ys)) j) (8+1+j.length)
 [(0,WC)] 0 [] []) [(7,KS.auto),(3,KS.cells [] c)] [] []=some (OO.ret (.tuple #[]),[(7,Obj.loop {state:=LoopState.ready,pending:=none,fn:=84,tmps:=#[.agg #[Qk 0 (Xo a b),YI l,YI h,YI d,YI e,YI f,YI g],YI k,pA 1 0,.tuple #[],.slice none 0 0,pA 4 0,.tuple #[],pA 1 0,pA 1 0,Qk 0 (Xo a b),.slice (some {block:=3,off:=0}) a 2,.agg #[Qk 0 (Xo a b),YI l,YI h,YI d,YI e,YI f,YI g],YI k,Value.func (Fn.func 112) #[] #[Qk 5 (ZU 0 #[Xo a b,YI l,YI h,YI d,YI e,YI f,YI g]),Qk 5 (ZU 0 #[YI k])],.tuple #[],.tuple #[],.tuple #[],.tuple #[],.tuple #[],.tuple #[],.tuple #[],.tuple #[],.tuple #[],.tuple #[],.tuple #[],.tuple #[]],params:=#[14],assign:=UD (Q8 YP 84) [1,1,0,1,0,0],body:=UD (Q8 YP 84) [1,1,0,1,0,1],defers:=6}),(3,Obj.cells c 38)],[],
 [QE 8 [] c c,XB i (↑a:Int)=false]):=by intro l j h g f e d c b a;kernel_rfl
end
set_option maxHeartbeats 4000000 in
theorem rN(rf:Qc)(plan:List Int)(k:Int)(hn:rf.Qa.length<=4)(hl:plan.length<=4)(k0:0<=k)(k1:k<4)(hp:∀j:Nat,0<=plan.getD j 0/\plan.getD j 0<=1000000){B:Lo}(hJ:∀w,B.has w->J0 w):∀m:Nat,(∀(i:Int) (ys:List Span),rf.Qa.length-i.toNat=m->∀(i0:0<=i) (hy:ys=SQ rf.Qa (plan.getD k.toNat 0) i),(∃Ql:Nat->Value,(∀t,Xh (Ql t))/\GoE YP B (JV rf plan k) (Vl rf plan k) 8 (XU (none) 112 27 (([0,1,2,8,9]:List Nat).zip (V4 rf plan k i ys)) Ql V5) (X9 (Vl rf plan k) 8 (([7,3]:List Nat).zip (V3 rf plan k i ys)) (WS rf plan k i ys)) (8+1+(WS rf plan k i ys).length) ([7,3]:List Nat))->FinK YP B (JV rf plan k) (Vl rf plan k) 8 (.ret (.tuple #[])) (([7,3]:List Nat).zip ([Obj.loop {state:=LoopState.ready,pending:=none,fn:=84,tmps:=#[.agg #[Qk 0 (Xp rf.Qa),YI rf.Qh,YI rf.Qb,YI (plan.getD 0 0),YI (plan.getD 1 0),YI (plan.getD 2 0),YI (plan.getD 3 0)],YI k,pA 1 0,.tuple #[],.slice none 0 0,pA 4 0,.tuple #[],pA 1 0,pA 1 0,Qk 0 (Xp rf.Qa),.slice (some {block:=3,off:=0}) rf.Qa.length 2,.agg #[Qk 0 (Xp rf.Qa),YI rf.Qh,YI rf.Qb,YI (plan.getD 0 0),YI (plan.getD 1 0),YI (plan.getD 2 0),YI (plan.getD 3 0)],YI k,Value.func (Fn.func 112) #[] #[Qk 5 (ZU 0 #[Xp rf.Qa,YI rf.Qh,YI rf.Qb,YI (plan.getD 0 0),YI (plan.getD 1 0),YI (plan.getD 2 0),YI (plan.getD 3 0)]),Qk 5 (ZU 0 #[YI k])],.tuple #[],.tuple #[],.tuple #[],.tuple #[],.tuple #[],.tuple #[],.tuple #[],.tuple #[],.tuple #[],.tuple #[],.tuple #[],.tuple #[]],params:=#[14],assign:=UD (Q8 YP 84) [1,1,0,1,0,0],body:=UD (Q8 YP 84) [1,1,0,1,0,1],defers:=6},.cells (Qe QQ (ZH rf.Qa (plan.getD k.toNat 0))) 38 (0,0)])) ([]) ([7,3]:List Nat)):=by
 intro m0;induction m0 using LB with
 |_ m0 ih0=>
  intro i ys Jw i0 hy ⟨Ql,Wl,X0⟩;have hyl:ys.length=rf.Qa.length:=by rw[hy];simp[SQ,Xa]
  have hpk:=hp k.toNat;have hse:=u5 (k:=k.toNat) hl;have JF:=cA (n:=Qj [plan.getD 0 0,plan.getD 1 0,plan.getD 2 0,plan.getD 3 0] k.toNat) (k:=i) (by omega);by_cases q0:(i:Int)<((↑rf.Qa.length:Int))
  ·have VO:Qz (gR B rf plan k i ys Ql):=by
    exact⟨(cq (by omega) (by omega) (by omega) (by omega)),⟨(cn (by omega) (by omega) (by omega)),⟨⟨by omega,by omega,bf (fs:=[plan.getD 0 0,plan.getD 1 0,plan.getD 2 0,plan.getD 3 0]) rfl (LO (m:=4) (by omega) rfl)⟩,⟨(Xs q0),trivial⟩⟩⟩⟩
   by_cases q1:((↑(VH (↑(ZT (Qj [plan.getD 0 0,plan.getD 1 0,plan.getD 2 0,plan.getD 3 0] k.toNat) i):Int) 1):Int):Int)=(1)
   ·have rj3:FJ YP B (bG rf plan k i ys Ql) (Sg rf plan k i ys Ql) 9 (OO.ret (.bool true)) (([(7,Obj.loop {state:=LoopState.ready,pending:=none,fn:=84,tmps:=#[.agg #[Qk 0 (Xp rf.Qa),YI rf.Qh,YI rf.Qb,YI (plan.getD 0 0),YI (plan.getD 1 0),YI (plan.getD 2 0),YI (plan.getD 3 0)],YI k,pA 1 0,.tuple #[],.slice none 0 0,pA 4 0,.tuple #[],pA 1 0,pA 1 0,Qk 0 (Xp rf.Qa),.slice (some {block:=3,off:=0}) rf.Qa.length 2,.agg #[Qk 0 (Xp rf.Qa),YI rf.Qh,YI rf.Qb,YI (plan.getD 0 0),YI (plan.getD 1 0),YI (plan.getD 2 0),YI (plan.getD 3 0)],YI k,Value.func (Fn.func 112) #[] #[Qk 5 (ZU 0 #[Xp rf.Qa,YI rf.Qh,YI rf.Qb,YI (plan.getD 0 0),YI (plan.getD 1 0),YI (plan.getD 2 0),YI (plan.getD 3 0)]),Qk 5 (ZU 0 #[YI k])],.tuple #[],.tuple #[],.tuple #[],.tuple #[],.tuple #[],.tuple #[],.tuple #[],.tuple #[],.tuple #[],.tuple #[],.tuple #[],.tuple #[]],params:=#[14],assign:=UD (Q8 YP 84) [1,1,0,1,0,0],body:=UD (Q8 YP 84) [1,1,0,1,0,1],defers:=6}),(3,Obj.cells (Qe QQ (LM ys i.toNat {lo:=Qd.Vr (rf.Qa.getD i.toNat La),hi:=Qd.Vs (rf.Qa.getD i.toNat La)})) 38)]++((9,QV)::QL (9+1) []))++Sg rf plan k i ys Ql) 10 (Le 9) [7,3]:=by
     have hyes:=kK (ps:=rf.Qa) (p:=plan.getD k.toNat 0) i0 q0 (by rw[<-V2,<-hse];exact decide_eq_true q1);exact FinK.fjB (GoE.fK ((GoE.refl (P:=YP) (B:=B) (c0:=bG rf plan k i ys Ql) uA).widen (Wf:=((([(7,KS.auto),(3,KS.cells [] (Qe QQ (LM ys i.toNat {lo:=Qd.Vr (rf.Qa.getD i.toNat La),hi:=Qd.Vs (rf.Qa.getD i.toNat La)})))]):List (Nat×KS)).map (·.1))) (by simp) wO) (CD B rf plan k i ys Ql)
      ⟨cS,⟨(by exact WQ (z:=2) (k:=Lb i) (fun _=>rfl) (by first|omega|(rw[LS];omega)|(rw[LN];omega)) rfl rfl),⟨⟨by omega,by omega⟩,⟨(iX (lX 12)),trivial⟩⟩⟩⟩) (ex:=[3]) (by kernel_rfl) ⟨trivial,⟨(PC (t:=38) (fl:=(0,0)) (fun x=>List.all_eq_true.1 (by rfl))),⟨trivial,⟨trivial,⟨trivial,⟨trivial,⟨trivial,⟨trivial,⟨(PC (t:=38) (fl:=(0,0)) (fun x=>List.all_eq_true.1 (by rfl))),⟨trivial,⟨trivial,trivial⟩⟩⟩⟩⟩⟩⟩⟩⟩⟩⟩
    have hyes:=kK (ps:=rf.Qa) (p:=plan.getD k.toNat 0) i0 q0 (by rw[<-V2,<-hse];exact decide_eq_true q1);exact((ih0 _ (by omega)) (i+1) (LM ys i.toNat {lo:=Qd.Vr (rf.Qa.getD i.toNat La),hi:=Qd.Vs (rf.Qa.getD i.toNat La)}) rfl (by omega) (by(rw[hy];exact hyes))
     (GoE.lA X0 (CC B rf plan k i ys Ql)
     (by exact⟨cS,⟨wI,⟨rj3,⟨(TI q1),VO⟩⟩⟩⟩) (by kernel_rfl) (by kernel_rfl) (fun l hl=>by cases hl <;> decide))).cast (by rfl) (by rfl) (by rfl)
   ·have hno:=BL (ps:=rf.Qa) (p:=plan.getD k.toNat 0) i0 (by rw[<-V2,<-hse];exact decide_eq_false q1);exact((ih0 _ (by omega)) (i+1) (ys) rfl (by omega) (by(rw[hy];exact hno))
     (GoE.lA X0 (CB B rf plan k i ys Ql)
     ⟨cS,⟨wI,⟨(TJ q1),VO⟩⟩⟩ (by kernel_rfl) (by kernel_rfl) (fun l hl=>by cases hl <;> decide))).cast (by rfl) (by rfl) (by rfl)
  ·exact(GoE.fK X0 (CA B rf plan k i ys Ql)
    ⟨cS,⟨(nL q0),trivial⟩⟩).cast (by rfl) (by(rw[hy,yS (by omega)];rfl)) (by rfl)

theorem CG(B:Lo)(rf:Qc)(plan:List Int)(k:Int):let a:=List.map Yg rf.Qa;let b:=Qe QQ a;CE.landA 8 (Qn YP (Q0 YP) J0 B 4 8 (JV rf plan k) (Vl rf plan k) 8
 [] 0 [] []) [0,1,2,8,9] [(7,KS.auto),(3,KS.cells [] b)] [] []=some ⟨112,27,V5,[],.run,none,V4 rf plan k (0) a,([7,3]:List Nat).zip (V3 rf plan k (0) a),WS rf plan k (0) a,
 [QE 8 [] b b]⟩:=by intro a b;kernel_rfl
theorem zl(B:Lo)(rf:Qc)(plan:List Int)(k:Int):let i:=OO.ret (.tuple #[]);let e:=Q8 YP 84;let d:=rf.Qa;let g:=Qe QQ (List.map Yg d);let c:=OO.ret (.slice (some {block:=3,off:=0}) d.length 2);let b:=OO.ret (Value.func (Fn.func 112) #[] #[Qk 5 (ZU 0 (bE rf plan)),Qk 5 (ZU 0 #[YI k])]);let a:=ZH d (plan.getD k.toNat 0);let h:=Qe QQ a;let f:=Fz.cs {k:=3,rs:=[],cs:=Qe QQ a};Xv (Qn YP (Q0 YP) J0 B 16 1 (Qu YP 84 26 (([.agg (QN rf plan).toArray,YI k]).map (Q4 0 4))) Zd 1
 [(5,Qf.call (Le 2) c ([]++(2,QV)::QL 3 [Obj.cells g 38]) 4 []),(10,Qf.call (Le 5) b ([]++(5,QV)::QL 6 []) 6 []),(11,Qf.call (Le 8) i ([(7,Obj.loop {state:=LoopState.ready,pending:=none,fn:=84,tmps:=(bF rf plan k),params:=#[14],assign:=UD e [1,1,0,1,0,0],body:=UD e [1,1,0,1,0,1],defers:=6}),(3,Obj.cells h 38)]++(8,QV)::QL 9 []) 9 [7,3])] 0 [] []) [{k:=3,rs:=[],cs:=Qe QQ a}]=some (Xo d.length f,
 [X1 (Fz.rs {k:=3,rs:=[],cs:=Qe QQ a}) h f,FJ YP B (JV rf plan k) (Vl rf plan k) 8 i (([(7,Obj.loop {state:=LoopState.ready,pending:=none,fn:=84,tmps:=(bF rf plan k),params:=#[14],assign:=UD e [1,1,0,1,0,0],body:=UD e [1,1,0,1,0,1],defers:=6}),(3,Obj.cells h 38)]++((8,QV)::QL (8+1) []))++Vl rf plan k) 9 (Le 8) [7,3],FJ YP B (bH rf plan k) (Si rf plan k) 5 b (([]++((5,QV)::QL (5+1) []))++Si rf plan k) 6 (Le 5) [],FJ YP B (JW rf plan k) (VU rf plan k) 2 c (([]++((2,QV)::QL (2+1) [Obj.cells g 38]))++VU rf plan k) 4 (Le 2) []]):=by intro i e d g c b a h f;kernel_rfl
set_option maxHeartbeats 4000000 in
theorem GP(rf:Qc)(plan:List Int)(k:Int)(hn:rf.Qa.length<=4)(hl:plan.length<=4)(k0:0<=k)(k1:k<4)(hp:∀j:Nat,0<=plan.getD j 0/\plan.getD j 0<=1000000){B:Lo}(hJ:∀w,B.has w->J0 w):EndsT YP B (Qu YP 84 26 (([.agg (QN rf plan).toArray,YI k]).map (Q4 0 4))) (Rw (ZH rf.Qa (plan.getD k.toNat 0))):=by
 have rj0:FJ YP B (JW rf plan k) (VU rf plan k) 2 (OO.ret (.slice (some {block:=3,off:=0}) rf.Qa.length 2)) (([]++((2,QV)::QL (2+1) [Obj.cells (Qe QQ (List.map Yg rf.Qa)) 38]))++VU rf plan k) 4 (Le 2) []:=by
  exact FinK.fjB ((rO rf plan k hn hl k0 k1 hp hJ _) (0) (Lu rf.Qa.length {lo:=0,hi:=0}) rfl (by omega) (by exact gf)
   (GoE.lA ((GoE.refl (P:=YP) (B:=B) (c0:=JW rf plan k) uA).widen (Wf:=((([]):List (Nat×KS)).map (·.1))) (by simp) wO) (CO B rf plan k)
   ⟨(by exact(KJ (by exact⟨(.simple rfl),⟨(.simple rfl),trivial⟩⟩) _)),⟨(oU (bytes:=16) (by kernel_rfl) (by omega) (by omega) (by omega)),trivial⟩⟩ (by kernel_rfl) (by kernel_rfl) (fun l hl=>by cases hl <;> decide))) (ex:=[]) (by kernel_rfl) (Zb _)
 have rj1:FJ YP B (bH rf plan k) (Si rf plan k) 5 (OO.ret (Value.func (Fn.func 112) #[] #[Qk 5 (ZU 0 #[Xp rf.Qa,YI rf.Qh,YI rf.Qb,YI (plan.getD 0 0),YI (plan.getD 1 0),YI (plan.getD 2 0),YI (plan.getD 3 0)]),Qk 5 (ZU 0 #[YI k])])) (([]++((5,QV)::QL (5+1) []))++Si rf plan k) 6 (Le 5) []:=by
  exact FinK.fjB (GoE.fK ((GoE.refl (P:=YP) (B:=B) (c0:=bH rf plan k) uA).widen (Wf:=((([]):List (Nat×KS)).map (·.1))) (by simp) wO) (CH B rf plan k)
   ⟨(SI (by kernel_rfl)),⟨(Wy (by kernel_rfl)),trivial⟩⟩) (ex:=[3]) (by kernel_rfl) ⟨trivial,⟨trivial,⟨(PC (t:=38) (fl:=(0,0)) (fun x=>List.all_eq_true.1 (by rfl))),⟨trivial,⟨trivial,trivial⟩⟩⟩⟩⟩
 have rj2:FJ YP B (JV rf plan k) (Vl rf plan k) 8 (OO.ret (.tuple #[])) (([(7,Obj.loop {state:=LoopState.ready,pending:=none,fn:=84,tmps:=#[.agg #[Qk 0 (Xp rf.Qa),YI rf.Qh,YI rf.Qb,YI (plan.getD 0 0),YI (plan.getD 1 0),YI (plan.getD 2 0),YI (plan.getD 3 0)],YI k,pA 1 0,.tuple #[],.slice none 0 0,pA 4 0,.tuple #[],pA 1 0,pA 1 0,Qk 0 (Xp rf.Qa),.slice (some {block:=3,off:=0}) rf.Qa.length 2,.agg #[Qk 0 (Xp rf.Qa),YI rf.Qh,YI rf.Qb,YI (plan.getD 0 0),YI (plan.getD 1 0),YI (plan.getD 2 0),YI (plan.getD 3 0)],YI k,Value.func (Fn.func 112) #[] #[Qk 5 (ZU 0 #[Xp rf.Qa,YI rf.Qh,YI rf.Qb,YI (plan.getD 0 0),YI (plan.getD 1 0),YI (plan.getD 2 0),YI (plan.getD 3 0)]),Qk 5 (ZU 0 #[YI k])],.tuple #[],.tuple #[],.tuple #[],.tuple #[],.tuple #[],.tuple #[],.tuple #[],.tuple #[],.tuple #[],.tuple #[],.tuple #[],.tuple #[]],params:=#[14],assign:=UD (Q8 YP 84) [1,1,0,1,0,0],body:=UD (Q8 YP 84) [1,1,0,1,0,1],defers:=6}),(3,Obj.cells (Qe QQ (ZH rf.Qa (plan.getD k.toNat 0))) 38)]++((8,QV)::QL (8+1) []))++Vl rf plan k) 9 (Le 8) [7,3]:=by
  exact FinK.fjB ((rN rf plan k hn hl k0 k1 hp hJ _) (0) (List.map Yg rf.Qa) rfl (by omega) (by exact EA)
   (GoE.lA ((GoE.refl (P:=YP) (B:=B) (c0:=JV rf plan k) uA).widen (Wf:=((([(7,KS.auto),(3,KS.cells [] (Qe QQ (List.map Yg rf.Qa)))]):List (Nat×KS)).map (·.1))) (by simp) wO) (CG B rf plan k)
   ⟨cS,trivial⟩ (by kernel_rfl) (by kernel_rfl) (fun l hl=>by cases hl <;> decide))) (ex:=[3]) (by kernel_rfl) ⟨trivial,⟨trivial,⟨trivial,⟨trivial,⟨trivial,⟨(PC (t:=38) (fl:=(0,0)) (fun x=>List.all_eq_true.1 (by rfl))),⟨trivial,⟨trivial,trivial⟩⟩⟩⟩⟩⟩⟩⟩
 exact(GoE.eT GoE.start (zl B rf plan k)
  ⟨(X2 (fun x=>List.all_eq_true.1 (by rfl))),⟨rj2,⟨rj1,⟨rj0,trivial⟩⟩⟩⟩).cast (by exact bo rfl (by rw[ZH,Xa];omega))
theorem Qa7(rf:Qc)(plan:List Int)(k:Int)(hn:rf.Qa.length<=4)(hl:plan.length<=4)(k0:0<=k)(k1:k<4)(hp:∀j:Nat,0<=plan.getD j 0/\plan.getD j 0<=1000000):Qv YP J0 84 #[.agg (QN rf plan).toArray,YI k] (Rw (ZH rf.Qa (plan.getD k.toNat 0))):=
 Xd (ts:=[.agg (QN rf plan).toArray,YI k]) Zc (c0:=Qu YP 84 26 (([.agg (QN rf plan).toArray,YI k]).map (Q4 0 4))) (by kernel_rfl) (by kernel_rfl) fun B hJ=>GP rf plan k hn hl k0 k1 hp hJ
end
end Go.Proofs.Ytncjjangllkokaa

namespace Go.Proofs.Ytncjjangllkokaa
open Go Go.CE Go.RowKit
def Xj(a b:Int)(g:Int->Int):Int:=uo ((PQ a b).map g)
theorem Wq{a b:Int}{g:Int->Int}(h:b<=a):Xj a b g=0:=by
 unfold Xj;rw[AS h];rfl
theorem um:∀(l m:List Int),uo (l++m)=uo l+uo m
 |[],m=>by simp[uo]
 |x::l,m=>by simp only[List.cons_append,uo,um l m];omega
theorem QJ{i:Int}{g:Int->Int}(h:0<=i):Xj 0 (i+1) g=Xj 0 i g+g i:=by
 have e:PQ 0 (i+1)=PQ 0 i++[i]:=by
  unfold PQ;rw[show(i+1-0).toNat=(i-0).toNat+1 by omega,List.range_succ,List.map_append];congr 1;simp;omega
 unfold Xj;rw[e,List.map_append,um];simp[uo]
theorem ZX{g:Int->Int}{K:Int}:∀(k:Nat),(∀m:Int,0<=m->m<k->0<=g m/\g m<=K)->0<=Xj 0 k g/\Xj 0 k g<=K*k
 |0,_=>by rw[Wq (by omega)];omega
 |k+1,h=>by
  have ih:=ZX k fun m h0 h1=>h m h0 (by omega)
  have h2:=h k (by omega) (by omega);rw[show((k+1:Nat):Int)=(k:Int)+1 by omega,QJ (by omega),Int.mul_add,Int.mul_one];omega
structure F4 where
 a:Int
 b:Int
 c:Int
 d:Int
deriving Inhabited
def F4.at(f:F4)(k:Int):Int:=Qj [f.a,f.b,f.c,f.d] k.toNat
def F4.sum(f:F4):Int:=f.a+f.b+f.c+f.d
def M3(g:Int->Int):F4:=⟨g 0,g 1,g 2,g 3⟩
theorem dd{i:Int}(h0:0<=i)(h:i<4):i=0\/i=1\/i=2\/i=3:=by omega
theorem Kk{g:Int->Int}{k:Int}(h0:0<=k)(h:k<4):(M3 g).at k=g k:=by
 rcases dd h0 h with rfl|rfl|rfl|rfl <;> rfl
def PW(f:F4):Prop:=(0<=f.a/\0<=f.b/\0<=f.c/\0<=f.d)/\f.sum<=100000000000
theorem ZC{f:F4}(hf:PW f){i:Int}(h0:0<=i)(h:i<4):0<=f.at i/\f.at i<=f.sum/\f.sum<=100000000000:=by
 obtain⟨⟨h1,h2,h3,h4⟩,h5⟩:=hf;have e:f.sum=f.a+f.b+f.c+f.d:=rfl;have h5':=h5;rw[e]at h5' ⊢;rcases dd h0 h with rfl|rfl|rfl|rfl
 ·have:f.at 0=f.a:=rfl;omega
 ·have:f.at 1=f.b:=rfl;omega
 ·have:f.at 2=f.c:=rfl;omega
 ·have:f.at 3=f.d:=rfl;omega
abbrev YD(ps:List Qd)(k:Int):Qd:=ps.getD k.toNat La
abbrev nth(xs:List Int)(k:Int):Int:=xs.getD k.toNat La
def Jy(ps:List Qd):Prop:=ps.length<=4/\∀k:Int,0<=k->k<ps.length->(0<=(YD ps k).room/\(YD ps k).room<=1000000)/\(0<=(YD ps k).QI/\(YD ps k).QI<=1000)/\JA ps.length (YD ps k).Xw=true/\(YD ps k).Xw≠k
def Ky(n:Nat)(xs:List Int)(m:Int):Prop:=xs.length=n/\∀k:Int,0<=k->k<n->0<=nth xs k/\nth xs k<=m
def ZN(gs:List Int)(ps:List Qd)(f:F4)(k:Int):Int:=Wg (YD ps k).room (f.at k) (nth gs k)
def X6(gs:List Int)(ps:List Qd)(f:F4)(i j:Int):Int:=if j<i then f.at j+ZN gs ps f j else f.at j
def Vb(gs:List Int)(ps:List Qd)(f:F4):F4:=M3 (X6 gs ps f ps.length)
def Wn(ps:List Qd)(b:F4)(k:Int):Int:=(b.at k*(YD ps k).QI).tdiv 1000
def Wp(ps:List Qd)(b:F4)(i j:Int):Int:=b.at j-(if j<i then Wn ps b j else 0)+Xj 0 i (fun m=>if(YD ps m).Xw=j then Wn ps b m else 0)
def cl(ps:List Qd)(b:F4):F4:=M3 (Wp ps b ps.length)
def Zv(ps:List Qd)(b:F4)(j:Int):Int:=if(YD ps j).Xw= -1 then Wn ps b j else 0
def Za(ts:List Int)(b:F4)(k:Int):Int:=if nth ts k<b.at k then nth ts k else b.at k
def J6(ts:List Int)(b:F4)(i j:Int):Int:=if j<i then b.at j-Za ts b j else b.at j
def Ez(ts:List Int)(ps:List Qd)(b:F4):F4:=M3 (J6 ts b ps.length)
def XT(gs ts:List Int)(ps:List Qd)(f:F4):F4:=Ez ts ps (cl ps (Vb gs ps f))
theorem dx{g:Int->Int}{i:Int}(h0:0<=i)(h:i<4):Qj [g 0,g 1,g 2,g 3] i.toNat=g i:=by
 rcases dd h0 h with rfl|rfl|rfl|rfl <;> rfl
theorem As{gs:List Int}{ps:List Qd}{f:F4}{i:Int}:X6 gs ps f i i=f.at i:=by
 unfold X6;rw[if_neg (by omega)]
theorem IG{gs:List Int}{ps:List Qd}{f:F4}{i:Int}{j:Nat}:(if i.toNat=j then f.at i+ZN gs ps f i else X6 gs ps f i j)=X6 gs ps f (i+1) j\/i<0:=by
 by_cases h0:0<=i
 ·refine .inl ?_;unfold X6;by_cases h:i.toNat=j
  ·have e1:i=(j:Int):=by omega
   rw[if_pos h,if_pos (by omega),e1]
  ·rw[if_neg h];by_cases h2:(j:Int)<i
   ·rw[if_pos h2,if_pos (by omega)]
   ·rw[if_neg h2,if_neg (by omega)]
 ·exact .inr (by omega)
theorem kf{gs:List Int}{ps:List Qd}{f:F4}{i:Int}{j:Nat}(h0:0<=i):(if i.toNat=j then f.at i+ZN gs ps f i else X6 gs ps f i j)=X6 gs ps f (i+1) j:=IG.resolve_right (by omega)
theorem Mj{room s t:Int}{w:Int}(ht:t=w.tdiv 1000)(h:0<=t):(if(if room-s > 0 then room-s else 0)<t then(if room-s > 0 then room-s else 0)else t)=if room<=s then 0 else if t<room-s then t else room-s:=by
 by_cases h1:room<=s
 ·rw[if_pos h1,if_neg (show ¬room-s > 0 by omega)];by_cases h2:0<t
  ·rw[if_pos h2]
  ·rw[if_neg h2];omega
 ·rw[if_neg h1,if_pos (show room-s > 0 by omega)];by_cases h2:room-s<t
  ·rw[if_pos h2,if_neg (by omega)]
  ·by_cases h3:t<room-s
   ·rw[if_neg h2,if_pos h3]
   ·rw[if_neg h2,if_neg h3];omega
theorem Rt{gs:List Int}{ps:List Qd}{f:F4}{i:Int}(hp:Jy ps)(hg:Ky ps.length gs 2000)(hf:PW f)(h0:0<=i)(h:i<ps.length):0<=ZN gs ps f i/\ZN gs ps f i<=1000000:=by
 have h1:=hp.2 i h0 h;have h2:=hg.2 i h0 h;have ha:=ZC hf h0 (by have:=hp.1;omega);have hm:=Yh (a:=f.at i) (r:=nth gs i) (by omega) (by omega);unfold ZN Wg;split
 ·omega
 ·split <;> omega
theorem Js{ps:List Qd}{b:F4}{i j:Int}(h:0<=i):Wp ps b (i+1) j=Wp ps b i j-(if j=i then Wn ps b i else 0)+(if(YD ps i).Xw=j then Wn ps b i else 0):=by
 unfold Wp;rw[QJ h];by_cases e:j=i
 ·subst e;rw[if_pos (show j<j+1 by omega),if_neg (show ¬j<j by omega),if_pos rfl];omega
 ·rw[if_neg e];by_cases e2:j<i
  ·rw[if_pos e2,if_pos (by omega)];omega
  ·rw[if_neg e2,if_neg (by omega)];omega
theorem c6{ps:List Qd}{b:F4}{j:Int}(h:0<=j):Wp ps b 0 j=b.at j:=by
 unfold Wp;rw[if_neg (by omega),Wq (by omega)];omega
theorem yR{ts:List Int}{b:F4}{i:Int}:J6 ts b i i=b.at i:=by
 unfold J6;rw[if_neg (by omega)]
theorem jP{ts:List Int}{b:F4}{i:Int}{j:Nat}(h0:0<=i):(if i.toNat=j then b.at i-Za ts b i else J6 ts b i j)=J6 ts b (i+1) j:=by
 unfold J6;by_cases h:i.toNat=j
 ·have e1:i=(j:Int):=by omega
  rw[if_pos h,if_pos (by omega),e1]
 ·rw[if_neg h];by_cases h2:(j:Int)<i
  ·rw[if_pos h2,if_pos (by omega)]
  ·rw[if_neg h2,if_neg (by omega)]
theorem kq{ps:List Qd}{b:F4}{i:Int}{j:Nat}(h0:0<=i)(h:(YD ps i).Xw= -1):(if i.toNat=j then Wp ps b i i-Wn ps b i else Wp ps b i j)=Wp ps b (i+1) j:=by
 rw[Js h0,h,if_neg (show ¬(-1:Int)=(j:Int)by omega)];by_cases h1:i.toNat=j
 ·have e1:i=(j:Int):=by omega
  rw[if_pos h1,if_pos (by omega),e1];omega
 ·rw[if_neg h1,if_neg (by omega)];omega
theorem ku{ps:List Qd}{b:F4}{i v:Int}{j:Nat}(h0:0<=i)(hv:(YD ps i).Xw=v)(v0:0<=v)(hn:v≠i):(if v.toNat=j then Wp ps b i v+Wn ps b i else if i.toNat=j then Wp ps b i i-Wn ps b i else Wp ps b i j)=Wp ps b (i+1) j:=by
 rw[Js h0,hv];by_cases h1:v.toNat=j
 ·have e1:v=(j:Int):=by omega
  rw[if_pos h1,if_neg (show ¬(j:Int)=i by omega),if_pos e1,e1];omega
 ·rw[if_neg h1,if_neg (show ¬v=(j:Int)by omega)];by_cases h2:i.toNat=j
  ·have e1:i=(j:Int):=by omega
   rw[if_pos h2,if_pos (by omega),e1];omega
  ·rw[if_neg h2,if_neg (by omega)];omega
theorem Kq{ps:List Qd}{b:F4}{i:Int}(hp:Jy ps)(hf:PW b)(h0:0<=i)(h:i<ps.length):0<=Wn ps b i/\Wn ps b i<=b.at i:=by
 have h1:=hp.2 i h0 h;have ha:=ZC hf h0 (by have:=hp.1;omega);have e0:0<=b.at i*(YD ps i).QI:=Int.mul_nonneg ha.1 h1.2.1.1;have e1:b.at i*(YD ps i).QI<=b.at i*1000:=Int.mul_le_mul_of_nonneg_left h1.2.1.2 ha.1;have e2:(b.at i*(YD ps i).QI).tdiv 1000=(b.at i*(YD ps i).QI) / 1000:=L4 e0;unfold Wn;rw[e2];omega
theorem Yk{ps:List Qd}{b:F4}{i j:Int}(hp:Jy ps)(hf:PW b)(h0:0<=i)(h:i<=ps.length)(j0:0<=j)(j1:j<4):0<=Wp ps b i j/\Wp ps b i j<=500000000000:=by
 have ha:=ZC hf j0 j1;have hs:=ZX (g:=fun m=>if(YD ps m).Xw=j then Wn ps b m else 0) (K:=100000000000) i.toNat fun m m0 m1=>by
  have h9:=hp.1;have:=Kq hp hf (i:=m) m0 (by omega);have hm:=ZC hf (i:=m) m0 (by omega);split <;> omega
 rw[show((i.toNat:Nat):Int)=i by omega]at hs;have h4:=hp.1;unfold Wp;split
 ·have:=Kq hp hf j0 (by omega);omega
 ·omega
theorem YJ{ts:List Int}{b:F4}{n:Nat}{m i:Int}(ht:Ky n ts m)(hf:PW b)(h0:0<=i)(h:i<n)(h4:n<=4):0<=Za ts b i/\Za ts b i<=b.at i/\Za ts b i<=m:=by
 have ha:=ZC hf h0 (by omega);have h1:=ht.2 i h0 h;unfold Za;split <;> omega
theorem Bw{gs:List Int}{ps:List Qd}{f:F4}{i j:Int}(hp:Jy ps)(hg:Ky ps.length gs 2000)(hf:PW f)(h:i<=ps.length)(j0:0<=j)(j1:j<4):0<=X6 gs ps f i j/\X6 gs ps f i j<=f.at j+1000000:=by
 have ha:=ZC hf j0 j1;unfold X6;split
 ·have:=Rt hp hg hf j0 (show j<ps.length by omega);omega
 ·omega
theorem IE{gs:List Int}{ps:List Qd}{f:F4}(hp:Jy ps)(hg:Ky ps.length gs 2000)(hf:PW f):(0<=(Vb gs ps f).a/\0<=(Vb gs ps f).b/\0<=(Vb gs ps f).c/\0<=(Vb gs ps f).d)/\(Vb gs ps f).sum<=f.sum+4000000:=by
 have h0:=Bw hp hg hf (LH _) (j:=0) (by omega) (by omega);have h1:=Bw hp hg hf (LH _) (j:=1) (by omega) (by omega);have h2:=Bw hp hg hf (LH _) (j:=2) (by omega) (by omega);have h3:=Bw hp hg hf (LH _) (j:=3) (by omega) (by omega);refine⟨⟨h0.1,h1.1,h2.1,h3.1⟩, ?_⟩;show X6 gs ps f ps.length 0+X6 gs ps f ps.length 1+X6 gs ps f ps.length 2+X6 gs ps f ps.length 3<=f.a+f.b+f.c+f.d+4000000;have e0:f.at 0=f.a:=rfl;have e1:f.at 1=f.b:=rfl;have e2:f.at 2=f.c:=rfl;have e3:f.at 3=f.d:=rfl;omega
def drS(ps:List Qd)(b:F4)(i:Int):Int:=Wp ps b i 0+Wp ps b i 1+Wp ps b i 2+Wp ps b i 3
theorem IW{ps:List Qd}{b:F4}{i:Int}(hp:Jy ps)(h0:0<=i)(h:i<ps.length):drS ps b (i+1)=drS ps b i-Zv ps b i:=by
 have h1:=hp.1;have h2:=(hp.2 i h0 h).2.2.1;unfold drS Zv;rw[Js h0,Js h0,Js h0,Js h0];simp only[JA,Bool.or_eq_true,decide_eq_true_iff,Rk]at h2;generalize (YD ps i).Xw=v at *;generalize Wn ps b i=w at *;have hi:=dd h0 (show i<4 by omega);by_cases hv:v= -1
 ·subst hv;rcases hi with rfl|rfl|rfl|rfl <;> simp <;> omega
 ·have ZW:=dd (show 0<=v by omega) (show v<4 by omega);rcases hi with rfl|rfl|rfl|rfl <;> rcases ZW with rfl|rfl|rfl|rfl <;> simp <;> omega
theorem B0{ps:List Qd}{b:F4}(hp:Jy ps):∀k:Nat,k<=ps.length->drS ps b k=b.sum-Xj 0 k (Zv ps b)
 |0,_=>by
  rw[show((0:Nat):Int)=0 from rfl,Wq (by omega)];unfold drS;rw[c6 (by omega),c6 (by omega),c6 (by omega),c6 (by omega)];have e:b.sum=b.at 0+b.at 1+b.at 2+b.at 3:=rfl;omega
 |k+1,h=>by
  rw[show((k+1:Nat):Int)=(k:Int)+1 by omega,IW hp (by omega) (by omega),B0 hp k (by omega),QJ (by omega)];omega
end Go.Proofs.Ytncjjangllkokaa
