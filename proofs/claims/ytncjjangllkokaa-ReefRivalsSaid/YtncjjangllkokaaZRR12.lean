/- Reef: what is as defined. -/
import Derived.Test.YtncjjangllkokaaZRR11
set_option linter.all false
open Nat renaming strongRecOn->LA,min->LL
open Int renaming toNat_natCast->LK,tdiv->Lc,tdiv_eq_ediv_of_nonneg->LQ,mul_nonneg->LG,mul_le_mul->LH,toNat->Lb
open List renaming length->Lf,replicate->Lq,range->Ld
open Array renaming extract->LO
open Inhabited renaming default->La
namespace Go.Proofs.Ytncjjangllkokaa
open Go Go.CE Go.RowKit
noncomputable section
set_option maxRecDepth 100000
structure Qe where
 count:Int
 room:Int
 glo:Int
 ghi:Int
 QR:Int
 XE:Int
 JX:Int
 JY:Int
 Jz:Int
 J1:Int
 goal:Int
 Xz:Int
deriving Inhabited
structure Qc where
 Qa:List Qe
 Qi:Int
 Qb:Int
deriving Inhabited
def Qf(c:Qe):List Value:=[.int .i64 c.count,.int .i64 c.room,.int .i64 c.glo,.int .i64 c.ghi,.int .i64 c.QR,.int .i64 c.XE,.int .i64 c.JX,.int .i64 c.JY,.int .i64 c.Jz,.int .i64 c.J1,.int .i64 c.goal,.int .i64 c.Xz]
abbrev Vb(xs:List Qe):Value:=QJ xs.length (Qm Qf xs)
def Qv(r:Qc):List Value:=[Vb r.Qa,.int .i64 r.Qi,.int .i64 r.Qb]
def XJ(x:Qe):Bool:=Ug x.count 0 1000000 && (Ug x.room 0 1000000 && (Ug x.goal 0 1000000 && (Ug x.Xz 0 1000000 && (ZW x.glo x.ghi 0 2000 && (Ug x.QR 0 1000 && (ZW x.JX x.JY 0 1000000 && (ZW x.Jz x.J1 0 1000000 && (decide (x.Jz<=x.JX) && decide (x.J1<=x.JY)))))))))
def KP(n v:Int):Bool:=decide (v= -1) || Ug v 0 (n-1)
theorem EF{n v:Int}(h:0<=n):Ug v (-1) (n-1)=KP n v:=by
 unfold KP Ug;by_cases e:v= -1
 ·subst e;simp;omega
 ·simp[e];by_cases h1:0<=v
  ·simp[h1];omega
  ·have:¬(-1<=v):=by omega
   simp[this,h1]
def Zq(n i:Int)(x:Qe):Bool:=XJ x && (KP n x.XE && !decide (x.XE=i))
def YY(ps:List Qe)(i:Int):Bool:=(pC i ps.length).all fun k=>Zq ps.length k (ps.getD k.toNat La)
def Yt(r:Qc):Bool:=Ug r.Qa.length 1 4 && (Ug r.Qi 0 2000 && Ug r.Qb 1 4)
def QC(r:Qc):Bool:=Yt r && YY r.Qa 0
def QP(r:Qc)(plan:List Int):Bool:=decide (plan.length=r.Qb) && plan.all fun x=>Ug x 0 (((Xx r.Qa.length:Nat):Int)-1)
theorem QQ{ps:List Qe}{i:Int}(h:i<ps.length):YY ps i=(Zq ps.length i (ps.getD i.toNat La) && YY ps (i+1)):=by
 unfold YY;rw[zQ h,List.all_cons]
theorem Vr{ps:List Qe}{i:Int}(h:ps.length<=i):YY ps i=true:=by
 unfold YY;rw[wJ h];rfl
theorem qE{x:Qe}(h:XJ x=true):(0<=x.count/\x.count<=1000000)/\(0<=x.room/\x.room<=1000000)/\(0<=x.goal/\x.goal<=1000000)/\(0<=x.Xz/\x.Xz<=1000000)/\(0<=x.glo/\x.glo<=x.ghi/\x.ghi<=2000)/\(0<=x.QR/\x.QR<=1000)/\(0<=x.JX/\x.JX<=x.JY/\x.JY<=1000000)/\(0<=x.Jz/\x.Jz<=x.J1/\x.J1<=1000000)/\x.Jz<=x.JX/\x.J1<=x.JY:=by
 simp only[XJ,YB,Jb,lE,decide_eq_true_iff]at h;omega
theorem Qz{r:Qc}(h:Yt r=true):(1<=r.Qa.length/\r.Qa.length<=4)/\(0<=r.Qi/\r.Qi<=2000)/\(1<=r.Qb/\r.Qb<=4):=by
 simp only[Yt,YB,Jb]at h;omega
theorem QN{r:Qc}(h:QC r=true):Yt r=true/\∀k:Int,0<=k->k<r.Qa.length->XJ (r.Qa.getD k.toNat La)=true/\KP r.Qa.length (r.Qa.getD k.toNat La).XE=true/\(r.Qa.getD k.toNat La).XE≠k:=by
 simp only[QC,YB]at h;refine⟨h.1,fun k h0 h1=> ?_⟩;have:=xo h.2 h0 h1;simp only[Zq,YB,Bool.not_eq_true',decide_eq_false_iff_not]at this;exact⟨this.1,this.2.1,this.2.2⟩
def cm(x:Qe):Bool:=Ug x.count 0 1000000 && (Ug x.room 0 1000000 && (Ug x.goal 0 1000000 && (Ug x.Xz 0 1000000 && (ZW x.glo x.ghi 0 2000 && (Ug x.QR 0 1000 && (ZW x.JX x.JY 0 1000000 && ZW x.Jz x.J1 0 1000000))))))
def X5(r:Qc):Bool:=Yt r && (pC 0 r.Qa.length).all fun k=>cm (r.Qa.getD k.toNat La) && (KP r.Qa.length (r.Qa.getD k.toNat La).XE && !decide ((r.Qa.getD k.toNat La).XE=k))
theorem DX{x:Qe}(h:XJ x=true):cm x=true:=by
 simp only[XJ,cm,YB]at h ⊢;exact⟨h.1,h.2.1,h.2.2.1,h.2.2.2.1,h.2.2.2.2.1,h.2.2.2.2.2.1,h.2.2.2.2.2.2.1,h.2.2.2.2.2.2.2.1⟩
theorem Ze{r:Qc}(h:QC r=true):X5 r=true:=by
 obtain⟨h1,h2⟩:=QN h;unfold X5;rw[YB];refine⟨h1,List.all_eq_true.2 fun k hk=> ?_⟩;unfold pC at hk;obtain⟨m,hm,rfl⟩:=List.mem_map.1 hk;have hm':=List.mem_range.1 hm;have:=h2 (0+(m:Int)) (by omega) (by omega);simp only[YB,Bool.not_eq_true',decide_eq_false_iff_not];exact⟨DX this.1,this.2.1,this.2.2⟩
theorem ZY{x:Qe}(h:cm x=true):(0<=x.count/\x.count<=1000000)/\(0<=x.room/\x.room<=1000000)/\(0<=x.goal/\x.goal<=1000000)/\(0<=x.Xz/\x.Xz<=1000000)/\(0<=x.glo/\x.glo<=x.ghi/\x.ghi<=2000)/\(0<=x.QR/\x.QR<=1000)/\(0<=x.JX/\x.JX<=x.JY/\x.JY<=1000000)/\(0<=x.Jz/\x.Jz<=x.J1/\x.J1<=1000000)/\True:=by
 simp only[cm,YB,Jb,lE]at h;simp only[and_true];omega
theorem Q6{r:Qc}(h:X5 r=true):Yt r=true/\∀k:Int,0<=k->k<r.Qa.length->cm (r.Qa.getD k.toNat La)=true/\KP r.Qa.length (r.Qa.getD k.toNat La).XE=true/\(r.Qa.getD k.toNat La).XE≠k:=by
 simp only[X5,YB]at h;refine⟨h.1,fun k h0 h1=> ?_⟩;have:=xo h.2 h0 h1;simp only[YB,Bool.not_eq_true',decide_eq_false_iff_not]at this;exact⟨this.1,this.2.1,this.2.2⟩
instance {r:Qc}:Coe (QC r=true) (X5 r=true):=⟨Ze⟩
def dn(x:Qe):Array Value:=#[.agg #[.int .i64 x.JX,.int .i64 x.JY],.int .i64 1000000]
def dm(x:Qe):Array Value:=#[.agg #[.int .i64 x.Jz,.int .i64 x.J1],.int .i64 1000000]
def dj(x:Qe):Array Value:=#[.agg #[.int .i64 x.glo,.int .i64 x.ghi],.int .i64 2000]
def di(x:Qe):Array Value:=#[.int .i64 x.Xz,.int .i64 0,.int .i64 1000000]
def dh(x:Qe):Array Value:=#[.int .i64 x.QR,.int .i64 0,.int .i64 1000]
def RG(B:Lo)(x:Qe):List Prop:=[Qw []/\Qx YP J0 95 #[.int .i64 x.count] (.bool true)]++([]:List Prop)
def dy(x:Qe):Q2:=[(4,Ql.pure (.bool true) [])]
def RE(B:Lo)(x:Qe):List Prop:=[Qw []/\Qx YP J0 95 #[.int .i64 x.room] (.bool true)]++RG B x
def dx(x:Qe):Q2:=dy x++[(8,Ql.pure (.bool true) [])]
def RD(B:Lo)(x:Qe):List Prop:=[Qw []/\Qx YP J0 95 #[.int .i64 x.goal] (.bool true)]++RE B x
def dw(x:Qe):Q2:=dx x++[(13,Ql.pure (.bool true) [])]
def RC(B:Lo)(x:Qe):List Prop:=[Qw []/\Qx YP J0 72 (di x) (.bool true)]++RD B x
def dv(x:Qe):Q2:=dw x++[(18,Ql.pure (.bool true) [])]
def RB(B:Lo)(x:Qe):List Prop:=[Qw []/\Qx YP J0 96 (dj x) (.bool true)]++RC B x
def du(x:Qe):Q2:=dv x++[(23,Ql.pure (.bool true) [])]
def RA(B:Lo)(x:Qe):List Prop:=[Qw []/\Qx YP J0 72 (dh x) (.bool true)]++RB B x
def dt(x:Qe):Q2:=du x++[(28,Ql.pure (.bool true) [])]
def R9(B:Lo)(x:Qe):List Prop:=[Qw []/\Qx YP J0 96 (dn x) (.bool true)]++RA B x
def dr(x:Qe):Q2:=dt x++[(33,Ql.pure (.bool true) [])]
def R8(B:Lo)(x:Qe):List Prop:=[Qw []/\Qx YP J0 96 (dm x) (.bool true)]++R9 B x
def dq(x:Qe):Q2:=dr x++[(38,Ql.pure (.bool true) [])]
def R6(B:Lo)(x:Qe):List Prop:=[(!Zm x.JX x.Jz)=true]++R8 B x
def dp(x:Qe):Q2:=dq x++[(47,VT)]
theorem qP(B:Lo)(x:Qe):QW (Qs YP (Q0 YP) J0 B 6 1 (Qr YP 73 59 (([.agg (Qf x).toArray]).map (Qy 0 4))) Za 1
 (dp x++[(56,VT)]) 0 [] []) []=some (.bool true,
 [(!Zm x.JY x.J1)=true]++R6 B x):=by kernel_rfl
theorem qO(B:Lo)(x:Qe):QW (Qs YP (Q0 YP) J0 B 6 1 (Qr YP 73 59 (([.agg (Qf x).toArray]).map (Qy 0 4))) Za 1
 (dp x++[(56,VI)]) 0 [] []) []=some (.bool false,
 [(!Zm x.JY x.J1)=false]++R6 B x):=by kernel_rfl
theorem qN(B:Lo)(x:Qe):QW (Qs YP (Q0 YP) J0 B 6 1 (Qr YP 73 59 (([.agg (Qf x).toArray]).map (Qy 0 4))) Za 1
 (dq x++[(47,VI)]) 0 [] []) []=some (.bool false,
 [(!Zm x.JX x.Jz)=false]++R8 B x):=by kernel_rfl
theorem qM(B:Lo)(x:Qe):QW (Qs YP (Q0 YP) J0 B 6 1 (Qr YP 73 59 (([.agg (Qf x).toArray]).map (Qy 0 4))) Za 1
 (dr x++[(38,Ql.pure (.bool false) [])]) 0 [] []) []=some (.bool false,
 [Qw []/\Qx YP J0 96 (dm x) (.bool false)]++R9 B x):=by kernel_rfl
theorem qL(B:Lo)(x:Qe):QW (Qs YP (Q0 YP) J0 B 6 1 (Qr YP 73 59 (([.agg (Qf x).toArray]).map (Qy 0 4))) Za 1
 (dt x++[(33,Ql.pure (.bool false) [])]) 0 [] []) []=some (.bool false,
 [Qw []/\Qx YP J0 96 (dn x) (.bool false)]++RA B x):=by kernel_rfl
theorem qK(B:Lo)(x:Qe):QW (Qs YP (Q0 YP) J0 B 6 1 (Qr YP 73 59 (([.agg (Qf x).toArray]).map (Qy 0 4))) Za 1
 (du x++[(28,Ql.pure (.bool false) [])]) 0 [] []) []=some (.bool false,
 [Qw []/\Qx YP J0 72 (dh x) (.bool false)]++RB B x):=by kernel_rfl
theorem qJ(B:Lo)(x:Qe):QW (Qs YP (Q0 YP) J0 B 6 1 (Qr YP 73 59 (([.agg (Qf x).toArray]).map (Qy 0 4))) Za 1
 (dv x++[(23,Ql.pure (.bool false) [])]) 0 [] []) []=some (.bool false,
 [Qw []/\Qx YP J0 96 (dj x) (.bool false)]++RC B x):=by kernel_rfl
theorem qI(B:Lo)(x:Qe):QW (Qs YP (Q0 YP) J0 B 6 1 (Qr YP 73 59 (([.agg (Qf x).toArray]).map (Qy 0 4))) Za 1
 (dw x++[(18,Ql.pure (.bool false) [])]) 0 [] []) []=some (.bool false,
 [Qw []/\Qx YP J0 72 (di x) (.bool false)]++RD B x):=by kernel_rfl
theorem qH(B:Lo)(x:Qe):QW (Qs YP (Q0 YP) J0 B 6 1 (Qr YP 73 59 (([.agg (Qf x).toArray]).map (Qy 0 4))) Za 1
 (dx x++[(13,Ql.pure (.bool false) [])]) 0 [] []) []=some (.bool false,
 [Qw []/\Qx YP J0 95 #[.int .i64 x.goal] (.bool false)]++RE B x):=by kernel_rfl
theorem qG(B:Lo)(x:Qe):QW (Qs YP (Q0 YP) J0 B 6 1 (Qr YP 73 59 (([.agg (Qf x).toArray]).map (Qy 0 4))) Za 1
 (dy x++[(8,Ql.pure (.bool false) [])]) 0 [] []) []=some (.bool false,
 [Qw []/\Qx YP J0 95 #[.int .i64 x.room] (.bool false)]++RG B x):=by kernel_rfl
theorem nD(B:Lo)(x:Qe):QW (Qs YP (Q0 YP) J0 B 6 1 (Qr YP 73 59 (([.agg (Qf x).toArray]).map (Qy 0 4))) Za 1
 [(4,Ql.pure (.bool false) [])] 0 [] []) []=some (.bool false,
 [Qw []/\Qx YP J0 95 #[.int .i64 x.count] (.bool false)]):=by kernel_rfl
set_option maxHeartbeats 4000000 in
theorem vo(x:Qe)  {B:Lo}(hJ:∀w,B.has w->J0 w):EndsT YP B (Qr YP 73 59 (([.agg (Qf x).toArray]).map (Qy 0 4))) (.bool (XJ x)):=by
 cases q0:Ug x.count 0 1000000 with
 |true=>
  have WL:Qw (RG B x):=by
   exact⟨⟨trivial,(by have t_:=JL x.count;rw[q0]at t_;exact t_)⟩,trivial⟩
  cases q1:Ug x.room 0 1000000 with
  |true=>
   have hp1:Qw (RE B x):=by
    exact⟨⟨trivial,(by have t_:=JL x.room;rw[q1]at t_;exact t_)⟩,WL⟩
   cases q2:Ug x.goal 0 1000000 with
   |true=>
    have KT:Qw (RD B x):=by
     exact⟨⟨trivial,(by have t_:=JL x.goal;rw[q2]at t_;exact t_)⟩,hp1⟩
    cases q3:Ug x.Xz 0 1000000 with
    |true=>
     have hp3:Qw (RC B x):=by
      exact⟨⟨trivial,(by have t_:=uo x.Xz (0) (1000000);rw[q3]at t_;exact t_)⟩,KT⟩
     cases q4:ZW x.glo x.ghi 0 2000 with
     |true=>
      have hp4:Qw (RB B x):=by
       exact⟨⟨trivial,(by have t_:=SI x.glo x.ghi (2000);rw[q4]at t_;exact t_)⟩,hp3⟩
      cases q5:Ug x.QR 0 1000 with
      |true=>
       have hp5:Qw (RA B x):=by
        exact⟨⟨trivial,(by have t_:=uo x.QR (0) (1000);rw[q5]at t_;exact t_)⟩,hp4⟩
       cases q6:ZW x.JX x.JY 0 1000000 with
       |true=>
        have hp6:Qw (R9 B x):=by
         exact⟨⟨trivial,(by have t_:=SI x.JX x.JY (1000000);rw[q6]at t_;exact t_)⟩,hp5⟩
        cases q7:ZW x.Jz x.J1 0 1000000 with
        |true=>
         have hp7:Qw (R8 B x):=by
          exact⟨⟨trivial,(by have t_:=SI x.Jz x.J1 (1000000);rw[q7]at t_;exact t_)⟩,hp6⟩
         by_cases q8:(x.Jz:Int)<=x.JX
         ·have hp8:Qw (R6 B x):=by
           exact⟨(UW q8),hp7⟩
          by_cases q9:(x.J1:Int)<=x.JY
          ·exact(GoE.endsT okF hJ Qd GoE.start (qP B x)
            ⟨(UW q9),hp8⟩).cast (by(simp[XJ, *];done))
          ·exact(GoE.endsT okF hJ Qd GoE.start (qO B x)
            ⟨(UX (Int.not_le.1 q9)),hp8⟩).cast (by(simp[XJ, *];done))
         ·exact(GoE.endsT okF hJ Qd GoE.start (qN B x)
           ⟨(UX (Int.not_le.1 q8)),hp7⟩).cast (by(simp[XJ, *];done))
        |false=>
         exact(GoE.endsT okF hJ Qd GoE.start (qM B x)
          ⟨⟨trivial,(by have t_:=SI x.Jz x.J1 (1000000);rw[q7]at t_;exact t_)⟩,hp6⟩).cast (by(simp[XJ, *];done))
       |false=>
        exact(GoE.endsT okF hJ Qd GoE.start (qL B x)
         ⟨⟨trivial,(by have t_:=SI x.JX x.JY (1000000);rw[q6]at t_;exact t_)⟩,hp5⟩).cast (by(simp[XJ, *];done))
      |false=>
       exact(GoE.endsT okF hJ Qd GoE.start (qK B x)
        ⟨⟨trivial,(by have t_:=uo x.QR (0) (1000);rw[q5]at t_;exact t_)⟩,hp4⟩).cast (by(simp[XJ, *];done))
     |false=>
      exact(GoE.endsT okF hJ Qd GoE.start (qJ B x)
       ⟨⟨trivial,(by have t_:=SI x.glo x.ghi (2000);rw[q4]at t_;exact t_)⟩,hp3⟩).cast (by(simp[XJ, *];done))
    |false=>
     exact(GoE.endsT okF hJ Qd GoE.start (qI B x)
      ⟨⟨trivial,(by have t_:=uo x.Xz (0) (1000000);rw[q3]at t_;exact t_)⟩,KT⟩).cast (by(simp[XJ, *];done))
   |false=>
    exact(GoE.endsT okF hJ Qd GoE.start (qH B x)
     ⟨⟨trivial,(by have t_:=JL x.goal;rw[q2]at t_;exact t_)⟩,hp1⟩).cast (by(simp[XJ, *];done))
  |false=>
   exact(GoE.endsT okF hJ Qd GoE.start (qG B x)
    ⟨⟨trivial,(by have t_:=JL x.room;rw[q1]at t_;exact t_)⟩,WL⟩).cast (by(simp[XJ, *];done))
 |false=>
  exact(GoE.endsT okF hJ Qd GoE.start (nD B x)
   ⟨⟨trivial,(by have t_:=JL x.count;rw[q0]at t_;exact t_)⟩,trivial⟩).cast (by(simp[XJ, *];done))
theorem qQ(x:Qe)  :Qx YP J0 73 #[.agg (Qf x).toArray] (.bool (XJ x)):=
 Xn (ts:=[.agg (Qf x).toArray]) XQ (c0:=Qr YP 73 59 (([.agg (Qf x).toArray]).map (Qy 0 4))) (by kernel_rfl) (by kernel_rfl) fun B hJ=>vo x  hJ
def aD(r:Qc)(k:Int):Array Value:=#[.int .i64 k,.int .i64 0,.int .i64 ((↑r.Qa.length:Int)-1)]
def PF(B:Lo)(r:Qc)(k:Int):List Prop:=[wq ((↑r.Qa.length:Int)-1)=(↑r.Qa.length:Int)-1]++([]:List Prop)
def aE(r:Qc)(k:Int):Q2:=[(6,VU ((↑r.Qa.length:Int)-1))]
theorem nF(B:Lo)(r:Qc)(k:Int):QW (Qs YP (Q0 YP) J0 B 6 1 (Qr YP 70 11 (([.agg (Qv r).toArray,.int .i64 k]).map (Qy 0 4))) Za 1
 (aE r k++[(7,Ql.pure (.bool true) [])]) 0 [] []) []=some (.bool true,
 [Qw []/\Qx YP J0 72 (aD r k) (.bool true)]++PF B r k):=by kernel_rfl
theorem nE(B:Lo)(r:Qc)(k:Int):QW (Qs YP (Q0 YP) J0 B 6 1 (Qr YP 70 11 (([.agg (Qv r).toArray,.int .i64 k]).map (Qy 0 4))) Za 1
 (aE r k++[(7,Ql.pure (.bool false) [])]) 0 [] []) []=some (.bool false,
 [Qw []/\Qx YP J0 72 (aD r k) (.bool false)]++PF B r k):=by kernel_rfl
set_option maxHeartbeats 4000000 in
theorem qS(r:Qc)(k:Int)  (X7:r.Qa.length<=9223372036854775807){B:Lo}(hJ:∀w,B.has w->J0 w):EndsT YP B (Qr YP 70 11 (([.agg (Qv r).toArray,.int .i64 k]).map (Qy 0 4))) (.bool (Ug k 0 (r.Qa.length-1))):=by
 have WL:Qw (PF B r k):=by
  exact⟨(Xq (by omega) (by omega)),trivial⟩
 cases q0:Ug k 0 ((↑r.Qa.length:Int)-1)with
 |true=>
  exact(GoE.endsT okF hJ Qd GoE.start (nF B r k)
   ⟨⟨trivial,(by have t_:=uo (k) (0) ((↑r.Qa.length:Int)-1);rw[q0]at t_;exact t_)⟩,WL⟩).cast (by rfl)
 |false=>
  exact(GoE.endsT okF hJ Qd GoE.start (nE B r k)
   ⟨⟨trivial,(by have t_:=uo (k) (0) ((↑r.Qa.length:Int)-1);rw[q0]at t_;exact t_)⟩,WL⟩).cast (by rfl)
theorem ma(r:Qc)(k:Int)  :Qx YP J0 70 #[.agg (Qv r).toArray,.int .i64 k] (.bool (Ug k 0 (r.Qa.length-1))):=
 VJ (ts:=[.agg (Qv r).toArray,.int .i64 k]) (r.Qa.length<=9223372036854775807) (fun _ _ ht=>ht.ln2 (i:=0) (j:=0) rfl rfl) XQ (c0:=Qr YP 70 11 (([.agg (Qv r).toArray,.int .i64 k]).map (Qy 0 4))) (by kernel_rfl) (by kernel_rfl) fun X7 B hJ=>qS r k  X7 hJ
def PE(x_:Qe):Array Value:=#[.int .i64 x_.count,.int .i64 x_.room,.int .i64 x_.glo,.int .i64 x_.ghi,.int .i64 x_.QR,.int .i64 x_.XE,.int .i64 x_.JX,.int .i64 x_.JY,.int .i64 x_.Jz,.int .i64 x_.J1,.int .i64 x_.goal,.int .i64 x_.Xz]
def gQ(r:Qc)(i:Int):Array Value:=#[.agg #[QJ r.Qa.length (Qm Qf r.Qa),.int .i64 r.Qi,.int .i64 r.Qb],.int .i64 (Qe.XE (r.Qa.getD i.toNat La))]
def gP(r:Qc):Array Value:=#[.int .i64 (↑r.Qa.length:Int),.int .i64 1,.int .i64 4]
def gO(r:Qc):Array Value:=#[.int .i64 r.Qi,.int .i64 0,.int .i64 2000]
def gN(r:Qc):Array Value:=#[.int .i64 r.Qb,.int .i64 1,.int .i64 4]
def ZN(r:Qc)(i:Int):List Value:=[pA 2 0,Qn 1 (QJ r.Qa.length (Qm Qf r.Qa)),.int .i64 (↑r.Qa.length:Int),.int .i64 i]
def X4(r:Qc)(i:Int):List Obj:=[Obj.cells #[Qn 1 (QJ r.Qa.length (Qm Qf r.Qa)),.int .i64 r.Qi,.int .i64 r.Qb] 24]
def ZO:List Item:=([.code [1,1,0,1,0,0],.inLoop [1,1,0,1,0,0],.inBlock 0,.code [1,1,1]]).map (it (Q9 YP 50))
def vk(B:Lo)(c0:CF)(r:Qc)(i:Int):Prop:=∃dJ:Nat->Value,(∀t,X0 (dJ t))/\GoE YP B c0 Za 1 (Xl 50 52 (([1,23,24,25]:List Nat).zip (ZN r i)) dJ ZO) (Xj (X4 r i)) (2+(X4 r i).length) []
def TJ(B:Lo)(r:Qc)(i:Int)(Qt:Nat->Value):List Prop:=[eJ i r.Qa.length (Qm Qf r.Qa) Try.t54.size (PE (r.Qa.getD i.toNat La)),Zm i (↑r.Qa.length:Int)=true]++([]:List Prop)
def gX(r:Qc)(i:Int)(Qt:Nat->Value):Q2:=[(0,VT),(2,Ql.tidx i.toNat (PE (r.Qa.getD i.toNat La)))]
def TI(B:Lo)(r:Qc)(i:Int)(Qt:Nat->Value):List Prop:=[Qw []/\Qx YP J0 73 #[.agg (PE (r.Qa.getD i.toNat La))] (.bool true)]++TJ B r i Qt
def gW(r:Qc)(i:Int)(Qt:Nat->Value):Q2:=gX r i Qt++[(8,Ql.pure (.bool true) [])]
def TH(B:Lo)(r:Qc)(i:Int)(Qt:Nat->Value):List Prop:=[(!Jv (Qe.XE (r.Qa.getD i.toNat La)) (-1))=true]++TI B r i Qt
def gV(r:Qc)(i:Int)(Qt:Nat->Value):Q2:=gW r i Qt++[(13,VT)]
def TG(B:Lo)(r:Qc)(i:Int)(Qt:Nat->Value):List Prop:=[Qw []/\Qx YP J0 70 (gQ r i) (.bool true)]++TH B r i Qt
def gU(r:Qc)(i:Int)(Qt:Nat->Value):Q2:=gV r i Qt++[(18,Ql.pure (.bool true) [])]
theorem vi(B:Lo)(r:Qc)(i:Int)(Qt:Nat->Value):QW (Qs YP (Q0 YP) J0 B 16 1 (Xl 50 52 (([1,23,24,25]:List Nat).zip (ZN r i)) Qt ZO) (Xj (X4 r i)) (2+(X4 r i).length)
 (gU r i Qt++[(26,VT)]) 0 [] []) []=some (.bool false,
 [Jv (Qe.XE (r.Qa.getD i.toNat La)) i=true]++TG B r i Qt):=by kernel_rfl
theorem vh(B:Lo)(r:Qc)(i:Int)(Qt:Nat->Value):landM (Qs YP (Q0 YP) J0 B 16 1 (Xl 50 52 (([1,23,24,25]:List Nat).zip (ZN r i)) Qt ZO) (Xj (X4 r i)) (2+(X4 r i).length)
 (gU r i Qt++[(26,VI),(28,VU (i+1))]) 0 [] []) [1,23,24,25] [(2,KS.auto)] []=some ⟨50,52,ZO,[],.run,none,ZN r (i+1),X4 r (i+1),
 [wq (i+1)=i+1,Jv (Qe.XE (r.Qa.getD i.toNat La)) i=false]++TG B r i Qt⟩:=by kernel_rfl
theorem vg(B:Lo)(r:Qc)(i:Int)(Qt:Nat->Value):QW (Qs YP (Q0 YP) J0 B 16 1 (Xl 50 52 (([1,23,24,25]:List Nat).zip (ZN r i)) Qt ZO) (Xj (X4 r i)) (2+(X4 r i).length)
 (gV r i Qt++[(18,Ql.pure (.bool false) [])]) 0 [] []) []=some (.bool false,
 [Qw []/\Qx YP J0 70 (gQ r i) (.bool false)]++TH B r i Qt):=by kernel_rfl
def TF(B:Lo)(r:Qc)(i:Int)(Qt:Nat->Value):List Prop:=[(!Jv (Qe.XE (r.Qa.getD i.toNat La)) (-1))=false]++TI B r i Qt
def gT(r:Qc)(i:Int)(Qt:Nat->Value):Q2:=gW r i Qt++[(13,VI)]
theorem vf(B:Lo)(r:Qc)(i:Int)(Qt:Nat->Value):QW (Qs YP (Q0 YP) J0 B 16 1 (Xl 50 52 (([1,23,24,25]:List Nat).zip (ZN r i)) Qt ZO) (Xj (X4 r i)) (2+(X4 r i).length)
 (gT r i Qt++[(26,VT)]) 0 [] []) []=some (.bool false,
 [Jv (Qe.XE (r.Qa.getD i.toNat La)) i=true]++TF B r i Qt):=by kernel_rfl
theorem vd(B:Lo)(r:Qc)(i:Int)(Qt:Nat->Value):landM (Qs YP (Q0 YP) J0 B 16 1 (Xl 50 52 (([1,23,24,25]:List Nat).zip (ZN r i)) Qt ZO) (Xj (X4 r i)) (2+(X4 r i).length)
 (gT r i Qt++[(26,VI),(28,VU (i+1))]) 0 [] []) [1,23,24,25] [(2,KS.auto)] []=some ⟨50,52,ZO,[],.run,none,ZN r (i+1),X4 r (i+1),
 [wq (i+1)=i+1,Jv (Qe.XE (r.Qa.getD i.toNat La)) i=false]++TF B r i Qt⟩:=by kernel_rfl
theorem va(B:Lo)(r:Qc)(i:Int)(Qt:Nat->Value):QW (Qs YP (Q0 YP) J0 B 16 1 (Xl 50 52 (([1,23,24,25]:List Nat).zip (ZN r i)) Qt ZO) (Xj (X4 r i)) (2+(X4 r i).length)
 (gX r i Qt++[(8,Ql.pure (.bool false) [])]) 0 [] []) []=some (.bool false,
 [Qw []/\Qx YP J0 73 #[.agg (PE (r.Qa.getD i.toNat La))] (.bool false)]++TJ B r i Qt):=by kernel_rfl
theorem uZ(B:Lo)(r:Qc)(i:Int)(Qt:Nat->Value):QW (Qs YP (Q0 YP) J0 B 9 1 (Xl 50 52 (([1,23,24,25]:List Nat).zip (ZN r i)) Qt ZO) (Xj (X4 r i)) (2+(X4 r i).length)
 [(0,VI)] 0 [] []) []=some (.bool true,
 [Zm i (↑r.Qa.length:Int)=false]):=by kernel_rfl
def TE(B:Lo)(r:Qc):List Prop:=[Qw []/\Qx YP J0 72 (gP r) (.bool true)]++([]:List Prop)
def gS(r:Qc):Q2:=[(5,Ql.pure (.bool true) [])]
def TD(B:Lo)(r:Qc):List Prop:=[Qw []/\Qx YP J0 72 (gO r) (.bool true)]++TE B r
def gR(r:Qc):Q2:=gS r++[(10,Ql.pure (.bool true) [])]
theorem uY(B:Lo)(r:Qc):landM (Qs YP (Q0 YP) J0 B 12 1 (Qr YP 50 52 (([.agg (Qv r).toArray]).map (Qy 0 4))) Za 1
 (gR r++[(16,Ql.pure (.bool true) [])]) 0 [] []) [1,23,24,25] [(1,KS.auto)] []=some ⟨50,52,ZO,[],.run,none,ZN r (0),X4 r (0),
 [Qw []/\Qx YP J0 72 (gN r) (.bool true)]++TD B r⟩:=by kernel_rfl
theorem uX(B:Lo)(r:Qc):QW (Qs YP (Q0 YP) J0 B 10 1 (Qr YP 50 52 (([.agg (Qv r).toArray]).map (Qy 0 4))) Za 1
 (gR r++[(16,Ql.pure (.bool false) [])]) 0 [] []) []=some (.bool false,
 [Qw []/\Qx YP J0 72 (gN r) (.bool false)]++TD B r):=by kernel_rfl
theorem uW(B:Lo)(r:Qc):QW (Qs YP (Q0 YP) J0 B 10 1 (Qr YP 50 52 (([.agg (Qv r).toArray]).map (Qy 0 4))) Za 1
 (gS r++[(10,Ql.pure (.bool false) [])]) 0 [] []) []=some (.bool false,
 [Qw []/\Qx YP J0 72 (gO r) (.bool false)]++TE B r):=by kernel_rfl
theorem qF(B:Lo)(r:Qc):QW (Qs YP (Q0 YP) J0 B 10 1 (Qr YP 50 52 (([.agg (Qv r).toArray]).map (Qy 0 4))) Za 1
 [(5,Ql.pure (.bool false) [])] 0 [] []) []=some (.bool false,
 [Qw []/\Qx YP J0 72 (gP r) (.bool false)]):=by kernel_rfl
set_option maxHeartbeats 4000000 in
theorem vj(r:Qc)  (X7:r.Qa.length<=9223372036854775807){B:Lo}(hJ:∀w,B.has w->J0 w){c0:CF}:∀m:Nat,(∀(i:Int),r.Qa.length-i.toNat=m->∀(h0:0<=i),vk B c0 r i->EndsT YP B c0 (.bool (YY r.Qa i))):=by
 intro m0;induction m0 using LA with
 |_ m0 ih0=>
  intro i hm0 h0 ⟨Qt,KF,XW⟩;by_cases q0:(i:Int)<((↑r.Qa.length:Int))
  ·have WL:Qw (TJ B r i Qt):=by
    have s2:=QQ (ps:=r.Qa) q0;exact⟨⟨by omega,by omega,(QT (z:=12) (fun _=>rfl) (by omega))⟩,⟨(XY q0),trivial⟩⟩
   cases q1:XJ (r.Qa.getD i.toNat La)with
   |true=>
    have hp1:Qw (TI B r i Qt):=by
     have s2:=QQ (ps:=r.Qa) q0;exact⟨⟨trivial,(by have t_:=qQ (r.Qa.getD i.toNat La);rw[q1]at t_;exact t_)⟩,WL⟩
    by_cases q2:(Qe.XE (r.Qa.getD i.toNat La):Int)≠(-1)
    ·have KT:Qw (TH B r i Qt):=by
      exact⟨(Cg q2),hp1⟩
     cases q3:Ug (Qe.XE (r.Qa.getD i.toNat La)) 0 ((↑r.Qa.length:Int)-1)with
     |true=>
      have hp3:Qw (TG B r i Qt):=by
       have s2:=QQ (ps:=r.Qa) q0;exact⟨⟨trivial,(by have t_:=ma (r) (Qe.XE (r.Qa.getD i.toNat La));rw[q3]at t_;exact t_)⟩,KT⟩
      by_cases q4:(Qe.XE (r.Qa.getD i.toNat La):Int)=(i)
      ·have s2:=QQ (ps:=r.Qa) q0;exact(GoE.endsT okF hJ Qd XW (vi B r i Qt)
        ⟨(Jg q4),hp3⟩).cast (by(rw[s2];simp_all[Zq,KP];done))
      ·have s2:=QQ (ps:=r.Qa) q0;exact((ih0 _ (by omega)) (i+1) rfl (by omega)
        (XW.landM okF hJ Qd (vh B r i Qt)
        ⟨(Xq (by omega) (by omega)),⟨(Jh q4),hp3⟩⟩ (by kernel_rfl) (by kernel_rfl))).cast (by(rw[s2];simp_all[Zq,KP];done))
     |false=>
      have s2:=QQ (ps:=r.Qa) q0;exact(GoE.endsT okF hJ Qd XW (vg B r i Qt)
       ⟨⟨trivial,(by have t_:=ma (r) (Qe.XE (r.Qa.getD i.toNat La));rw[q3]at t_;exact t_)⟩,KT⟩).cast (by(rw[s2];simp_all[Zq,KP];done))
    ·have hp4:Qw (TF B r i Qt):=by
      exact⟨(nQ (Decidable.of_not_not q2)),hp1⟩
     by_cases q3:(Qe.XE (r.Qa.getD i.toNat La):Int)=(i)
     ·have s2:=QQ (ps:=r.Qa) q0;have s2:=Vr (ps:=r.Qa) (i:=i) (by omega);exact(GoE.endsT okF hJ Qd XW (vf B r i Qt)
       ⟨(Jg q3),hp4⟩).cast (by(rw[s2];simp_all[Zq,KP];done))
     ·have s2:=QQ (ps:=r.Qa) q0;exact((ih0 _ (by omega)) (i+1) rfl (by omega)
       (XW.landM okF hJ Qd (vd B r i Qt)
       ⟨(Xq (by omega) (by omega)),⟨(Jh q3),hp4⟩⟩ (by kernel_rfl) (by kernel_rfl))).cast (by(rw[s2];simp_all[Zq,KP];done))
   |false=>
    have s2:=QQ (ps:=r.Qa) q0;exact(GoE.endsT okF hJ Qd XW (va B r i Qt)
     ⟨⟨trivial,(by have t_:=qQ (r.Qa.getD i.toNat La);rw[q1]at t_;exact t_)⟩,WL⟩).cast (by(rw[s2];simp_all[Zq,KP];done))
  ·have s2:=Vr (ps:=r.Qa) (i:=i) (by omega);exact(GoE.endsT okF hJ Qd XW (uZ B r i Qt)
    ⟨(XZ (Int.not_lt.1 q0)),trivial⟩).cast (by(rw[s2];done))
set_option maxHeartbeats 4000000 in
theorem yb(r:Qc)  (X7:r.Qa.length<=9223372036854775807){B:Lo}(hJ:∀w,B.has w->J0 w):EndsT YP B (Qr YP 50 52 (([.agg (Qv r).toArray]).map (Qy 0 4))) (.bool (QC r)):=by
 cases q0:Ug (↑r.Qa.length:Int) 1 4 with
 |true=>
  have hp5:Qw (TE B r):=by
   exact⟨⟨trivial,(by have t_:=uo ((↑r.Qa.length:Int)) (1) (4);rw[q0]at t_;exact t_)⟩,trivial⟩
  cases q1:Ug r.Qi 0 2000 with
  |true=>
   have hp6:Qw (TD B r):=by
    exact⟨⟨trivial,(by have t_:=uo r.Qi (0) (2000);rw[q1]at t_;exact t_)⟩,hp5⟩
   cases q2:Ug r.Qb 1 4 with
   |true=>
    exact((vj r X7 hJ _) (0) rfl (by omega)
     (GoE.start.landM okF hJ Qd (uY B r)
     ⟨⟨trivial,(by have t_:=uo r.Qb (1) (4);rw[q2]at t_;exact t_)⟩,hp6⟩ (by kernel_rfl) (by kernel_rfl))).cast (by(simp only[QC,Yt];simp[*];done))
   |false=>
    exact(GoE.endsT okF hJ Qd GoE.start (uX B r)
     ⟨⟨trivial,(by have t_:=uo r.Qb (1) (4);rw[q2]at t_;exact t_)⟩,hp6⟩).cast (by(simp only[QC,Yt];simp[*];done))
  |false=>
   exact(GoE.endsT okF hJ Qd GoE.start (uW B r)
    ⟨⟨trivial,(by have t_:=uo r.Qi (0) (2000);rw[q1]at t_;exact t_)⟩,hp5⟩).cast (by(simp only[QC,Yt];simp[*];done))
 |false=>
  exact(GoE.endsT okF hJ Qd GoE.start (qF B r)
   ⟨⟨trivial,(by have t_:=uo ((↑r.Qa.length:Int)) (1) (4);rw[q0]at t_;exact t_)⟩,trivial⟩).cast (by(simp only[QC,Yt];simp[*];done))
theorem aC(r:Qc)  :Qx YP J0 50 #[.agg (Qv r).toArray] (.bool (QC r)):=
 VJ (ts:=[.agg (Qv r).toArray]) (r.Qa.length<=9223372036854775807) (fun _ _ ht=>ht.ln2 (i:=0) (j:=0) rfl rfl) XQ (c0:=Qr YP 50 52 (([.agg (Qv r).toArray]).map (Qy 0 4))) (by kernel_rfl) (by kernel_rfl) fun X7 B hJ=>yb r  X7 hJ
def XT(r:Qc)(i:Int):List Value:=[pA 2 0,.int .i64 i]
def Xe(r:Qc)(i:Int):List Obj:=[Obj.cells #[Qn 1 (QJ r.Qa.length (Qm Qf r.Qa)),.int .i64 r.Qi,.int .i64 r.Qb] 24]
def XU:List Item:=([.code [1,0,1,0,0],.inLoop [1,0,1,0,0],.inBlock 0,.code [1,1]]).map (it (Q9 YP 20))
def A3(B:Lo)(c0:CF)(r:Qc)(i:Int):Prop:=∃dJ:Nat->Value,(∀t,X0 (dJ t))/\GoE YP B c0 Za 1 (Xl 20 111 (([1,3]:List Nat).zip (XT r i)) dJ XU) (Xj (Xe r i)) (2+(Xe r i).length) []
def Yd(r:Qc)(i:Int):=(r.Qa.getD i.toNat La)
def Yw(r:Qc)(i:Int):=(Yd r i)
def Ap(r:Qc)(i:Int):=(Yw r i)
def qe(r:Qc)(i:Int):Array Value:=let a:=Ap r i;#[.int .i64 a.count,.int .i64 a.room,.int .i64 a.glo,.int .i64 a.ghi,.int .i64 a.QR,.int .i64 a.XE,.int .i64 a.JX,.int .i64 a.JY,.int .i64 a.Jz,.int .i64 a.J1,.int .i64 a.goal,.int .i64 a.Xz]
def qd(r:Qc)(i:Int):Array Value:=#[.agg #[.int .i64 (Qe.JX (Yw r i)),.int .i64 (Qe.JY (Yw r i))],.int .i64 1000000]
def qc(r:Qc)(i:Int):Array Value:=#[.agg #[.int .i64 (Qe.Jz (Yw r i)),.int .i64 (Qe.J1 (Yw r i))],.int .i64 1000000]
def qb(r:Qc)(i:Int):Array Value:=#[.agg #[.int .i64 (Qe.glo (Yw r i)),.int .i64 (Qe.ghi (Yw r i))],.int .i64 2000]
def qa(r:Qc)(i:Int):Array Value:=#[.int .i64 (Qe.XE (Yd r i)),.int .i64 (-1),.int .i64 ((↑r.Qa.length:Int)-1)]
def pZ(r:Qc)(i:Int):Array Value:=#[.int .i64 (Qe.count (Yd r i)),.int .i64 0,.int .i64 1000000]
def pY(r:Qc)(i:Int):Array Value:=#[.int .i64 (Qe.Xz (Yd r i)),.int .i64 0,.int .i64 1000000]
def pX(r:Qc)(i:Int):Array Value:=#[.int .i64 (Qe.room (Yd r i)),.int .i64 0,.int .i64 1000000]
def lN(r:Qc)(i:Int):Array Value:=#[.int .i64 (Qe.goal (Yd r i)),.int .i64 0,.int .i64 1000000]
def lM(r:Qc)(i:Int):Array Value:=#[.int .i64 (Qe.QR (r.Qa.getD i.toNat La)),.int .i64 0,.int .i64 1000]
def lL(r:Qc):Array Value:=#[.int .i64 (↑r.Qa.length:Int),.int .i64 1,.int .i64 4]
def lK(r:Qc):Array Value:=#[.int .i64 r.Qi,.int .i64 0,.int .i64 2000]
def lJ(r:Qc):Array Value:=#[.int .i64 r.Qb,.int .i64 1,.int .i64 4]
def gy(B:Lo)(r:Qc)(i:Int)(Qt:Nat->Value):List Prop:=[eJ i r.Qa.length (Qm Qf r.Qa) Try.t54.size (qe r i),Zm i (↑r.Qa.length:Int)=true]++([]:List Prop)
def qo(r:Qc)(i:Int)(Qt:Nat->Value):Q2:=[(4,VT),(8,Ql.tidx i.toNat (qe r i))]
def gx(B:Lo)(r:Qc)(i:Int)(Qt:Nat->Value):List Prop:=[Qw []/\Qx YP J0 55 (pZ r i) (.bool true)]++gy B r i Qt
def qn(r:Qc)(i:Int)(Qt:Nat->Value):Q2:=qo r i Qt++[(14,Ql.pure (.bool true) [])]
def gv(B:Lo)(r:Qc)(i:Int)(Qt:Nat->Value):List Prop:=[Qw []/\Qx YP J0 55 (pX r i) (.bool true)]++gx B r i Qt
def qm(r:Qc)(i:Int)(Qt:Nat->Value):Q2:=qn r i Qt++[(19,Ql.pure (.bool true) [])]
def gu(B:Lo)(r:Qc)(i:Int)(Qt:Nat->Value):List Prop:=[Qw []/\Qx YP J0 55 (lN r i) (.bool true)]++gv B r i Qt
def ql(r:Qc)(i:Int)(Qt:Nat->Value):Q2:=qm r i Qt++[(25,Ql.pure (.bool true) [])]
def gq(B:Lo)(r:Qc)(i:Int)(Qt:Nat->Value):List Prop:=[Qw []/\Qx YP J0 56 (qb r i) (.bool true)]++gu B r i Qt
def qk(r:Qc)(i:Int)(Qt:Nat->Value):Q2:=ql r i Qt++[(31,Ql.pure (.bool true) [])]
def gp(B:Lo)(r:Qc)(i:Int)(Qt:Nat->Value):List Prop:=[wq ((↑r.Qa.length:Int)-1)=(↑r.Qa.length:Int)-1,Qw []/\Qx YP J0 55 (lM r i) (.bool true)]++gq B r i Qt
def qj(r:Qc)(i:Int)(Qt:Nat->Value):Q2:=qk r i Qt++[(37,Ql.pure (.bool true) []),(46,VU ((↑r.Qa.length:Int)-1))]
def gm(B:Lo)(r:Qc)(i:Int)(Qt:Nat->Value):List Prop:=[Qw []/\Qx YP J0 55 (qa r i) (.bool true)]++gp B r i Qt
def qi(r:Qc)(i:Int)(Qt:Nat->Value):Q2:=qj r i Qt++[(47,Ql.pure (.bool true) [])]
theorem Az(B:Lo)(r:Qc)(i:Int)(Qt:Nat->Value):QW (Qs YP (Q0 YP) J0 B 16 1 (Xl 20 111 (([1,3]:List Nat).zip (XT r i)) Qt XU) (Xj (Xe r i)) (2+(Xe r i).length)
 (qi r i Qt++[(54,VT)]) 0 [] []) []=some (.bool false,
 [Jv (Qe.XE (r.Qa.getD i.toNat La)) i=true]++gm B r i Qt):=by kernel_rfl
def gj(B:Lo)(r:Qc)(i:Int)(Qt:Nat->Value):List Prop:=[Jv (Qe.XE (r.Qa.getD i.toNat La)) i=false]++gm B r i Qt
def qh(r:Qc)(i:Int)(Qt:Nat->Value):Q2:=qi r i Qt++[(54,VI)]
def gi(B:Lo)(r:Qc)(i:Int)(Qt:Nat->Value):List Prop:=[Qw []/\Qx YP J0 56 (qd r i) (.bool true)]++gj B r i Qt
def qg(r:Qc)(i:Int)(Qt:Nat->Value):Q2:=qh r i Qt++[(59,Ql.pure (.bool true) [])]
def gh(B:Lo)(r:Qc)(i:Int)(Qt:Nat->Value):List Prop:=[Qw []/\Qx YP J0 56 (qc r i) (.bool true)]++gi B r i Qt
def qf(r:Qc)(i:Int)(Qt:Nat->Value):Q2:=qg r i Qt++[(65,Ql.pure (.bool true) [])]
theorem Ay(B:Lo)(r:Qc)(i:Int)(Qt:Nat->Value):let a:=r.Qa.getD i.toNat La;QW (Qs YP (Q0 YP) J0 B 16 1 (Xl 20 111 (([1,3]:List Nat).zip (XT r i)) Qt XU) (Xj (Xe r i)) (2+(Xe r i).length)
 (qf r i Qt++[(75,VT)]) 0 [] []) []=some (.bool false,
 [Zm a.JX a.Jz=true]++gh B r i Qt):=by intro a;kernel_rfl
def ca(B:Lo)(r:Qc)(i:Int)(Qt:Nat->Value):List Prop:=[Zm (Qe.JX (r.Qa.getD i.toNat La)) (Qe.Jz (r.Qa.getD i.toNat La))=false]++gh B r i Qt
def lS(r:Qc)(i:Int)(Qt:Nat->Value):Q2:=qf r i Qt++[(75,VI)]
theorem Ax(B:Lo)(r:Qc)(i:Int)(Qt:Nat->Value):let a:=r.Qa.getD i.toNat La;QW (Qs YP (Q0 YP) J0 B 16 1 (Xl 20 111 (([1,3]:List Nat).zip (XT r i)) Qt XU) (Xj (Xe r i)) (2+(Xe r i).length)
 (lS r i Qt++[(84,VT)]) 0 [] []) []=some (.bool false,
 [Zm a.JY a.J1=true]++ca B r i Qt):=by intro a;kernel_rfl
def bZ(B:Lo)(r:Qc)(i:Int)(Qt:Nat->Value):List Prop:=[Zm (Qe.JY (r.Qa.getD i.toNat La)) (Qe.J1 (r.Qa.getD i.toNat La))=false]++ca B r i Qt
def lR(r:Qc)(i:Int)(Qt:Nat->Value):Q2:=lS r i Qt++[(84,VI)]
theorem Aw(B:Lo)(r:Qc)(i:Int)(Qt:Nat->Value):landM (Qs YP (Q0 YP) J0 B 16 1 (Xl 20 111 (([1,3]:List Nat).zip (XT r i)) Qt XU) (Xj (Xe r i)) (2+(Xe r i).length)
 (lR r i Qt++[(89,Ql.pure (.bool true) []),(93,VU (i+1))]) 0 [] []) [1,3] [(2,KS.auto)] []=some ⟨20,111,XU,[],.run,none,XT r (i+1),Xe r (i+1),
 [wq (i+1)=i+1,Qw []/\Qx YP J0 55 (pY r i) (.bool true)]++bZ B r i Qt⟩:=by kernel_rfl
theorem Av(B:Lo)(r:Qc)(i:Int)(Qt:Nat->Value):QW (Qs YP (Q0 YP) J0 B 16 1 (Xl 20 111 (([1,3]:List Nat).zip (XT r i)) Qt XU) (Xj (Xe r i)) (2+(Xe r i).length)
 (lR r i Qt++[(89,Ql.pure (.bool false) [])]) 0 [] []) []=some (.bool false,
 [Qw []/\Qx YP J0 55 (pY r i) (.bool false)]++bZ B r i Qt):=by kernel_rfl
theorem Au(B:Lo)(r:Qc)(i:Int)(Qt:Nat->Value):QW (Qs YP (Q0 YP) J0 B 16 1 (Xl 20 111 (([1,3]:List Nat).zip (XT r i)) Qt XU) (Xj (Xe r i)) (2+(Xe r i).length)
 (qg r i Qt++[(65,Ql.pure (.bool false) [])]) 0 [] []) []=some (.bool false,
 [Qw []/\Qx YP J0 56 (qc r i) (.bool false)]++gi B r i Qt):=by kernel_rfl
theorem At(B:Lo)(r:Qc)(i:Int)(Qt:Nat->Value):QW (Qs YP (Q0 YP) J0 B 16 1 (Xl 20 111 (([1,3]:List Nat).zip (XT r i)) Qt XU) (Xj (Xe r i)) (2+(Xe r i).length)
 (qh r i Qt++[(59,Ql.pure (.bool false) [])]) 0 [] []) []=some (.bool false,
 [Qw []/\Qx YP J0 56 (qd r i) (.bool false)]++gj B r i Qt):=by kernel_rfl
theorem As(B:Lo)(r:Qc)(i:Int)(Qt:Nat->Value):QW (Qs YP (Q0 YP) J0 B 16 1 (Xl 20 111 (([1,3]:List Nat).zip (XT r i)) Qt XU) (Xj (Xe r i)) (2+(Xe r i).length)
 (qj r i Qt++[(47,Ql.pure (.bool false) [])]) 0 [] []) []=some (.bool false,
 [Qw []/\Qx YP J0 55 (qa r i) (.bool false)]++gp B r i Qt):=by kernel_rfl
theorem Ar(B:Lo)(r:Qc)(i:Int)(Qt:Nat->Value):QW (Qs YP (Q0 YP) J0 B 16 1 (Xl 20 111 (([1,3]:List Nat).zip (XT r i)) Qt XU) (Xj (Xe r i)) (2+(Xe r i).length)
 (qk r i Qt++[(37,Ql.pure (.bool false) [])]) 0 [] []) []=some (.bool false,
 [Qw []/\Qx YP J0 55 (lM r i) (.bool false)]++gq B r i Qt):=by kernel_rfl
theorem Aq(B:Lo)(r:Qc)(i:Int)(Qt:Nat->Value):QW (Qs YP (Q0 YP) J0 B 16 1 (Xl 20 111 (([1,3]:List Nat).zip (XT r i)) Qt XU) (Xj (Xe r i)) (2+(Xe r i).length)
 (ql r i Qt++[(31,Ql.pure (.bool false) [])]) 0 [] []) []=some (.bool false,
 [Qw []/\Qx YP J0 56 (qb r i) (.bool false)]++gu B r i Qt):=by kernel_rfl
theorem xJ(B:Lo)(r:Qc)(i:Int)(Qt:Nat->Value):QW (Qs YP (Q0 YP) J0 B 16 1 (Xl 20 111 (([1,3]:List Nat).zip (XT r i)) Qt XU) (Xj (Xe r i)) (2+(Xe r i).length)
 (qm r i Qt++[(25,Ql.pure (.bool false) [])]) 0 [] []) []=some (.bool false,
 [Qw []/\Qx YP J0 55 (lN r i) (.bool false)]++gv B r i Qt):=by kernel_rfl
theorem xI(B:Lo)(r:Qc)(i:Int)(Qt:Nat->Value):QW (Qs YP (Q0 YP) J0 B 16 1 (Xl 20 111 (([1,3]:List Nat).zip (XT r i)) Qt XU) (Xj (Xe r i)) (2+(Xe r i).length)
 (qn r i Qt++[(19,Ql.pure (.bool false) [])]) 0 [] []) []=some (.bool false,
 [Qw []/\Qx YP J0 55 (pX r i) (.bool false)]++gx B r i Qt):=by kernel_rfl
theorem xH(B:Lo)(r:Qc)(i:Int)(Qt:Nat->Value):QW (Qs YP (Q0 YP) J0 B 16 1 (Xl 20 111 (([1,3]:List Nat).zip (XT r i)) Qt XU) (Xj (Xe r i)) (2+(Xe r i).length)
 (qo r i Qt++[(14,Ql.pure (.bool false) [])]) 0 [] []) []=some (.bool false,
 [Qw []/\Qx YP J0 55 (pZ r i) (.bool false)]++gy B r i Qt):=by kernel_rfl
def bY(B:Lo)(r:Qc)(i:Int)(Qt:Nat->Value):List Prop:=[Zm i (↑r.Qa.length:Int)=false]++([]:List Prop)
def lQ(r:Qc)(i:Int)(Qt:Nat->Value):Q2:=[(4,VI)]
def bX(B:Lo)(r:Qc)(i:Int)(Qt:Nat->Value):List Prop:=[Qw []/\Qx YP J0 55 (lL r) (.bool true)]++bY B r i Qt
def lP(r:Qc)(i:Int)(Qt:Nat->Value):Q2:=lQ r i Qt++[(8,Ql.pure (.bool true) [])]
def bW(B:Lo)(r:Qc)(i:Int)(Qt:Nat->Value):List Prop:=[Qw []/\Qx YP J0 55 (lK r) (.bool true)]++bX B r i Qt
def lO(r:Qc)(i:Int)(Qt:Nat->Value):Q2:=lP r i Qt++[(12,Ql.pure (.bool true) [])]
theorem xG(B:Lo)(r:Qc)(i:Int)(Qt:Nat->Value):QW (Qs YP (Q0 YP) J0 B 9 1 (Xl 20 111 (([1,3]:List Nat).zip (XT r i)) Qt XU) (Xj (Xe r i)) (2+(Xe r i).length)
 (lO r i Qt++[(17,Ql.pure (.bool true) [])]) 0 [] []) []=some (.bool true,
 [Qw []/\Qx YP J0 55 (lJ r) (.bool true)]++bW B r i Qt):=by kernel_rfl
theorem xF(B:Lo)(r:Qc)(i:Int)(Qt:Nat->Value):QW (Qs YP (Q0 YP) J0 B 9 1 (Xl 20 111 (([1,3]:List Nat).zip (XT r i)) Qt XU) (Xj (Xe r i)) (2+(Xe r i).length)
 (lO r i Qt++[(17,Ql.pure (.bool false) [])]) 0 [] []) []=some (.bool false,
 [Qw []/\Qx YP J0 55 (lJ r) (.bool false)]++bW B r i Qt):=by kernel_rfl
theorem xE(B:Lo)(r:Qc)(i:Int)(Qt:Nat->Value):QW (Qs YP (Q0 YP) J0 B 9 1 (Xl 20 111 (([1,3]:List Nat).zip (XT r i)) Qt XU) (Xj (Xe r i)) (2+(Xe r i).length)
 (lP r i Qt++[(12,Ql.pure (.bool false) [])]) 0 [] []) []=some (.bool false,
 [Qw []/\Qx YP J0 55 (lK r) (.bool false)]++bX B r i Qt):=by kernel_rfl
theorem xD(B:Lo)(r:Qc)(i:Int)(Qt:Nat->Value):QW (Qs YP (Q0 YP) J0 B 9 1 (Xl 20 111 (([1,3]:List Nat).zip (XT r i)) Qt XU) (Xj (Xe r i)) (2+(Xe r i).length)
 (lQ r i Qt++[(8,Ql.pure (.bool false) [])]) 0 [] []) []=some (.bool false,
 [Qw []/\Qx YP J0 55 (lL r) (.bool false)]++bY B r i Qt):=by kernel_rfl
theorem xC(B:Lo)(r:Qc):landM (Qs YP (Q0 YP) J0 B 7 1 (Qr YP 20 111 (([.agg (Qv r).toArray]).map (Qy 0 4))) Za 1
 [] 0 [] []) [1,3] [(1,KS.auto)] []=some ⟨20,111,XU,[],.run,none,XT r (0),Xe r (0),
 []⟩:=by kernel_rfl
set_option maxHeartbeats 4000000 in
theorem A0(r:Qc)  (X7:r.Qa.length<=9223372036854775807){B:Lo}(hJ:∀w,B.has w->J0 w){c0:CF}:∀m:Nat,(∀(i:Int),r.Qa.length-i.toNat=m->∀(h0:0<=i),A3 B c0 r i->EndsT YP B c0 (.bool (YY r.Qa i && Yt r))):=by
 intro m0;induction m0 using LA with
 |_ m0 ih0=>
  intro i hm0 h0 ⟨Qt,KF,XW⟩;have s3:=EF (n:=r.Qa.length) (v:=(r.Qa.getD i.toNat La).XE) (by omega);by_cases q0:(i:Int)<((↑r.Qa.length:Int))
  ·have WL:Qw (gy B r i Qt):=by
    have s2:=QQ (ps:=r.Qa) q0;exact⟨⟨by omega,by omega,(QT (z:=12) (fun _=>rfl) (by omega))⟩,⟨(XY q0),trivial⟩⟩
   cases q1:Ug (Qe.count (r.Qa.getD i.toNat La)) 0 1000000 with
   |true=>
    have hp1:Qw (gx B r i Qt):=by
     have s2:=QQ (ps:=r.Qa) q0;exact⟨⟨trivial,(by have t_:=lF (Qe.count (r.Qa.getD i.toNat La)) (0) (1000000);rw[q1]at t_;exact t_)⟩,WL⟩
    cases q2:Ug (Qe.room (r.Qa.getD i.toNat La)) 0 1000000 with
    |true=>
     have KT:Qw (gv B r i Qt):=by
      have s2:=QQ (ps:=r.Qa) q0;exact⟨⟨trivial,(by have t_:=lF (Qe.room (r.Qa.getD i.toNat La)) (0) (1000000);rw[q2]at t_;exact t_)⟩,hp1⟩
     cases q3:Ug (Qe.goal (r.Qa.getD i.toNat La)) 0 1000000 with
     |true=>
      have hp3:Qw (gu B r i Qt):=by
       have s2:=QQ (ps:=r.Qa) q0;exact⟨⟨trivial,(by have t_:=lF (Qe.goal (r.Qa.getD i.toNat La)) (0) (1000000);rw[q3]at t_;exact t_)⟩,KT⟩
      cases q4:ZW (Qe.glo (r.Qa.getD i.toNat La)) (Qe.ghi (r.Qa.getD i.toNat La)) 0 2000 with
      |true=>
       have hp4:Qw (gq B r i Qt):=by
        have s2:=QQ (ps:=r.Qa) q0;exact⟨⟨trivial,(by have t_:=lI (Qe.glo (r.Qa.getD i.toNat La)) (Qe.ghi (r.Qa.getD i.toNat La)) (2000);rw[q4]at t_;exact t_)⟩,hp3⟩
       cases q5:Ug (Qe.QR (r.Qa.getD i.toNat La)) 0 1000 with
       |true=>
        have hp5:Qw (gp B r i Qt):=by
         have s2:=QQ (ps:=r.Qa) q0;exact⟨(Xq (by omega) (by omega)),⟨⟨trivial,(by have t_:=lF (Qe.QR (r.Qa.getD i.toNat La)) (0) (1000);rw[q5]at t_;exact t_)⟩,hp4⟩⟩
        cases q6:Ug (Qe.XE (r.Qa.getD i.toNat La)) (-1) ((↑r.Qa.length:Int)-1)with
        |true=>
         have hp6:Qw (gm B r i Qt):=by
          have s2:=QQ (ps:=r.Qa) q0;exact⟨⟨trivial,(by have t_:=lF (Qe.XE (r.Qa.getD i.toNat La)) (-1) ((↑r.Qa.length:Int)-1);rw[q6]at t_;exact t_)⟩,hp5⟩
         by_cases q7:(Qe.XE (r.Qa.getD i.toNat La):Int)=(i)
         ·have s2:=QQ (ps:=r.Qa) q0;exact(GoE.endsT okF hJ Qd XW (Az B r i Qt)
           ⟨(Jg q7),hp6⟩).cast (by(rw[s2];rw[s3]at *;simp_all[Zq,XJ];done))
         ·have hp7:Qw (gj B r i Qt):=by
           exact⟨(Jh q7),hp6⟩
          cases q8:ZW (Qe.JX (r.Qa.getD i.toNat La)) (Qe.JY (r.Qa.getD i.toNat La)) 0 1000000 with
          |true=>
           have hp8:Qw (gi B r i Qt):=by
            have s2:=QQ (ps:=r.Qa) q0;exact⟨⟨trivial,(by have t_:=lI (Qe.JX (r.Qa.getD i.toNat La)) (Qe.JY (r.Qa.getD i.toNat La)) (1000000);rw[q8]at t_;exact t_)⟩,hp7⟩
           cases q9:ZW (Qe.Jz (r.Qa.getD i.toNat La)) (Qe.J1 (r.Qa.getD i.toNat La)) 0 1000000 with
           |true=>
            have hp9:Qw (gh B r i Qt):=by
             have s2:=QQ (ps:=r.Qa) q0;exact⟨⟨trivial,(by have t_:=lI (Qe.Jz (r.Qa.getD i.toNat La)) (Qe.J1 (r.Qa.getD i.toNat La)) (1000000);rw[q9]at t_;exact t_)⟩,hp8⟩
            by_cases q10:(Qe.JX (r.Qa.getD i.toNat La):Int)<(Qe.Jz (r.Qa.getD i.toNat La))
            ·have s2:=QQ (ps:=r.Qa) q0;exact(GoE.endsT okF hJ Qd XW (Ay B r i Qt)
              ⟨(XY q10),hp9⟩).cast (by(rw[s2];rw[s3]at *;simp_all[Zq,XJ];omega))
            ·have hp10:Qw (ca B r i Qt):=by
              exact⟨(XZ (Int.not_lt.1 q10)),hp9⟩
             by_cases q11:(Qe.JY (r.Qa.getD i.toNat La):Int)<(Qe.J1 (r.Qa.getD i.toNat La))
             ·have s2:=QQ (ps:=r.Qa) q0;exact(GoE.endsT okF hJ Qd XW (Ax B r i Qt)
               ⟨(XY q11),hp10⟩).cast (by(rw[s2];rw[s3]at *;simp_all[Zq,XJ];omega))
             ·have hp11:Qw (bZ B r i Qt):=by
               exact⟨(XZ (Int.not_lt.1 q11)),hp10⟩
              cases q12:Ug (Qe.Xz (r.Qa.getD i.toNat La)) 0 1000000 with
              |true=>
               have s2:=QQ (ps:=r.Qa) q0;exact((ih0 _ (by omega)) (i+1) rfl (by omega)
                (XW.landM okF hJ Qd (Aw B r i Qt)
                ⟨(Xq (by omega) (by omega)),⟨⟨trivial,(by have t_:=lF (Qe.Xz (r.Qa.getD i.toNat La)) (0) (1000000);rw[q12]at t_;exact t_)⟩,hp11⟩⟩ (by kernel_rfl) (by kernel_rfl))).cast (by(rw[s2];rw[s3]at *;simp_all[Zq,XJ];done))
              |false=>
               have s2:=QQ (ps:=r.Qa) q0;exact(GoE.endsT okF hJ Qd XW (Av B r i Qt)
                ⟨⟨trivial,(by have t_:=lF (Qe.Xz (r.Qa.getD i.toNat La)) (0) (1000000);rw[q12]at t_;exact t_)⟩,hp11⟩).cast (by(rw[s2];rw[s3]at *;simp_all[Zq,XJ];done))
           |false=>
            have s2:=QQ (ps:=r.Qa) q0;exact(GoE.endsT okF hJ Qd XW (Au B r i Qt)
             ⟨⟨trivial,(by have t_:=lI (Qe.Jz (r.Qa.getD i.toNat La)) (Qe.J1 (r.Qa.getD i.toNat La)) (1000000);rw[q9]at t_;exact t_)⟩,hp8⟩).cast (by(rw[s2];rw[s3]at *;simp_all[Zq,XJ];done))
          |false=>
           have s2:=QQ (ps:=r.Qa) q0;exact(GoE.endsT okF hJ Qd XW (At B r i Qt)
            ⟨⟨trivial,(by have t_:=lI (Qe.JX (r.Qa.getD i.toNat La)) (Qe.JY (r.Qa.getD i.toNat La)) (1000000);rw[q8]at t_;exact t_)⟩,hp7⟩).cast (by(rw[s2];rw[s3]at *;simp_all[Zq,XJ];done))
        |false=>
         have s2:=QQ (ps:=r.Qa) q0;exact(GoE.endsT okF hJ Qd XW (As B r i Qt)
          ⟨⟨trivial,(by have t_:=lF (Qe.XE (r.Qa.getD i.toNat La)) (-1) ((↑r.Qa.length:Int)-1);rw[q6]at t_;exact t_)⟩,hp5⟩).cast (by(rw[s2];rw[s3]at *;simp_all[Zq,XJ];done))
       |false=>
        have s2:=QQ (ps:=r.Qa) q0;exact(GoE.endsT okF hJ Qd XW (Ar B r i Qt)
         ⟨⟨trivial,(by have t_:=lF (Qe.QR (r.Qa.getD i.toNat La)) (0) (1000);rw[q5]at t_;exact t_)⟩,hp4⟩).cast (by(rw[s2];rw[s3]at *;simp_all[Zq,XJ];done))
      |false=>
       have s2:=QQ (ps:=r.Qa) q0;exact(GoE.endsT okF hJ Qd XW (Aq B r i Qt)
        ⟨⟨trivial,(by have t_:=lI (Qe.glo (r.Qa.getD i.toNat La)) (Qe.ghi (r.Qa.getD i.toNat La)) (2000);rw[q4]at t_;exact t_)⟩,hp3⟩).cast (by(rw[s2];rw[s3]at *;simp_all[Zq,XJ];done))
     |false=>
      have s2:=QQ (ps:=r.Qa) q0;exact(GoE.endsT okF hJ Qd XW (xJ B r i Qt)
       ⟨⟨trivial,(by have t_:=lF (Qe.goal (r.Qa.getD i.toNat La)) (0) (1000000);rw[q3]at t_;exact t_)⟩,KT⟩).cast (by(rw[s2];rw[s3]at *;simp_all[Zq,XJ];done))
    |false=>
     have s2:=QQ (ps:=r.Qa) q0;exact(GoE.endsT okF hJ Qd XW (xI B r i Qt)
      ⟨⟨trivial,(by have t_:=lF (Qe.room (r.Qa.getD i.toNat La)) (0) (1000000);rw[q2]at t_;exact t_)⟩,hp1⟩).cast (by(rw[s2];rw[s3]at *;simp_all[Zq,XJ];done))
   |false=>
    have s2:=QQ (ps:=r.Qa) q0;exact(GoE.endsT okF hJ Qd XW (xH B r i Qt)
     ⟨⟨trivial,(by have t_:=lF (Qe.count (r.Qa.getD i.toNat La)) (0) (1000000);rw[q1]at t_;exact t_)⟩,WL⟩).cast (by(rw[s2];rw[s3]at *;simp_all[Zq,XJ];done))
  ·have hp12:Qw (bY B r i Qt):=by
    exact⟨(XZ (Int.not_lt.1 q0)),trivial⟩
   cases q1:Ug (↑r.Qa.length:Int) 1 4 with
   |true=>
    have hp13:Qw (bX B r i Qt):=by
     have s2:=Vr (ps:=r.Qa) (i:=i) (by omega);exact⟨⟨trivial,(by have t_:=lF ((↑r.Qa.length:Int)) (1) (4);rw[q1]at t_;exact t_)⟩,hp12⟩
    cases q2:Ug r.Qi 0 2000 with
    |true=>
     have hp14:Qw (bW B r i Qt):=by
      have s2:=Vr (ps:=r.Qa) (i:=i) (by omega);exact⟨⟨trivial,(by have t_:=lF r.Qi (0) (2000);rw[q2]at t_;exact t_)⟩,hp13⟩
     cases q3:Ug r.Qb 1 4 with
     |true=>
      have s2:=Vr (ps:=r.Qa) (i:=i) (by omega);exact(GoE.endsT okF hJ Qd XW (xG B r i Qt)
       ⟨⟨trivial,(by have t_:=lF r.Qb (1) (4);rw[q3]at t_;exact t_)⟩,hp14⟩).cast (by(rw[s2];simp_all[Yt];done))
     |false=>
      have s2:=Vr (ps:=r.Qa) (i:=i) (by omega);exact(GoE.endsT okF hJ Qd XW (xF B r i Qt)
       ⟨⟨trivial,(by have t_:=lF r.Qb (1) (4);rw[q3]at t_;exact t_)⟩,hp14⟩).cast (by(rw[s2];simp_all[Yt];done))
    |false=>
     have s2:=Vr (ps:=r.Qa) (i:=i) (by omega);exact(GoE.endsT okF hJ Qd XW (xE B r i Qt)
      ⟨⟨trivial,(by have t_:=lF r.Qi (0) (2000);rw[q2]at t_;exact t_)⟩,hp13⟩).cast (by(rw[s2];simp_all[Yt];done))
   |false=>
    have s2:=Vr (ps:=r.Qa) (i:=i) (by omega);exact(GoE.endsT okF hJ Qd XW (xD B r i Qt)
     ⟨⟨trivial,(by have t_:=lF ((↑r.Qa.length:Int)) (1) (4);rw[q1]at t_;exact t_)⟩,hp12⟩).cast (by(rw[s2];simp_all[Yt];done))
set_option maxHeartbeats 4000000 in
theorem DF(r:Qc)  (X7:r.Qa.length<=9223372036854775807){B:Lo}(hJ:∀w,B.has w->J0 w):EndsT YP B (Qr YP 20 111 (([.agg (Qv r).toArray]).map (Qy 0 4))) (.bool (QC r)):=by
 exact((A0 r X7 hJ _) (0) rfl (by omega)
  (GoE.start.landM okF hJ Qd (xC B r)
  trivial (by kernel_rfl) (by kernel_rfl))).cast (by(simp only[QC];rw[Bool.and_comm];done))
theorem Fl(r:Qc)  :Qx YP J0 20 #[.agg (Qv r).toArray] (.bool (QC r)):=
 VJ (ts:=[.agg (Qv r).toArray]) (r.Qa.length<=9223372036854775807) (fun _ _ ht=>ht.ln2 (i:=0) (j:=0) rfl rfl) XQ (c0:=Qr YP 20 111 (([.agg (Qv r).toArray]).map (Qy 0 4))) (by kernel_rfl) (by kernel_rfl) fun X7 B hJ=>DF r  X7 hJ
end
end Go.Proofs.Ytncjjangllkokaa

namespace Go.Proofs.Ytncjjangllkokaa
open Go Go.CE Go.RowKit
noncomputable section
set_option maxRecDepth 100000
theorem FY:((Xx 0:Nat):Int)=1:=rfl
theorem ya{i:Int}(h:0<=i):((Xx (i+1):Nat):Int)=2*((Xx i:Nat):Int):=by
 unfold Xx;rw[show(i+1).toNat=i.toNat+1 by omega,Nat.pow_succ];omega
def hasB(n k:Int):Bool:=n.toNat.testBit k.toNat
theorem CD{n k:Int}(hn:0<=n)(hk:1<=k):hasB n k=hasB (n / 2) (k-1):=by
 unfold hasB;obtain⟨j,hj⟩:∃j,k.toNat=j+1:=⟨k.toNat-1,by omega⟩
 rw[hj,show(k-1).toNat=j by omega,Nat.testBit_succ,show(n / 2).toNat=n.toNat / 2 by omega]
theorem Hv{n:Int}(hn:0<=n):hasB n 0=decide (n % 2=1):=by
 unfold hasB;rw[show(0:Int).toNat=0 from rfl,Nat.testBit_zero];exact decide_eq_decide.2 (by omega)
theorem W8{n k:Int}:decide (((WM ((Zx n k:Nat):Int) 1:Nat):Int)=1)=hasB n k:=by
 unfold hasB WM Zx;rw[LK,show(1:Int).toNat=1 from rfl,Nat.and_one_is_mod,Nat.shiftRight_eq_div_pow,Nat.testBit_eq_decide_div_mod_eq];exact decide_eq_decide.2 (by omega)
def QB(r:Qc)(plan:List Int):List Value:=[Vb r.Qa,.int .i64 r.Qi,.int .i64 r.Qb,.int .i64 (plan.getD 0 0),.int .i64 (plan.getD 1 0),.int .i64 (plan.getD 2 0),.int .i64 (plan.getD 3 0)]
theorem QK{r:Qc}{plan:List Int}(h:QP r plan=true):plan.length=r.Qb/\∀x∈plan,0<=x/\x<Xx r.Qa.length:=by
 simp only[QP,YB,decide_eq_true_iff,List.all_eq_true,Jb]at h;exact⟨h.1,fun x hx=>by have:=h.2 x hx;omega⟩
def Rt(r:Qc)(s i:Int):List Value:=[pA 2 0,.int .i64 s,.int .i64 i]
def K0(r:Qc)(s i:Int):List Obj:=[Obj.cells #[Qn 1 (QJ r.Qa.length (Qm Qf r.Qa)),.int .i64 r.Qi,.int .i64 r.Qb] 24]
def Ru:List Item:=([.code [1,1,0,1,0,0],.inLoop [1,1,0,1,0,0],.inBlock 0,.code [1,1,1]]).map (it (Q9 YP 69))
def Ao(B:Lo)(c0:CF)(r:Qc)(s i:Int):Prop:=∃dJ:Nat->Value,(∀t,X0 (dJ t))/\GoE YP B c0 Za 1 (Xl 69 15 (([1,3,4]:List Nat).zip (Rt r s i)) dJ Ru) (Xj (K0 r s i)) (2+(K0 r s i).length) []
theorem Am(B:Lo)(r:Qc)(s i:Int)(Qt:Nat->Value):landM (Qs YP (Q0 YP) J0 B 11 1 (Xl 69 15 (([1,3,4]:List Nat).zip (Rt r s i)) Qt Ru) (Xj (K0 r s i)) (2+(K0 r s i).length)
 [(4,VT),(6,VU (2*s)),(9,VU (i+1))] 0 [] []) [1,3,4] [(2,KS.auto)] []=some ⟨69,15,Ru,[],.run,none,Rt r (2*s) (i+1),K0 r (2*s) (i+1),
 [wq (i+1)=i+1,wq (2*s)=2*s,Zm i (↑r.Qa.length:Int)=true]⟩:=by kernel_rfl
theorem Al(B:Lo)(r:Qc)(s i:Int)(Qt:Nat->Value):QW (Qs YP (Q0 YP) J0 B 9 1 (Xl 69 15 (([1,3,4]:List Nat).zip (Rt r s i)) Qt Ru) (Xj (K0 r s i)) (2+(K0 r s i).length)
 [(4,VI)] 0 [] []) []=some (.int .i64 s,
 [Zm i (↑r.Qa.length:Int)=false]):=by kernel_rfl
theorem Ak(B:Lo)(r:Qc):landM (Qs YP (Q0 YP) J0 B 9 1 (Qr YP 69 15 (([.agg (Qv r).toArray]).map (Qy 0 4))) Za 1
 [] 0 [] []) [1,3,4] [(1,KS.auto)] []=some ⟨69,15,Ru,[],.run,none,Rt r (1) (0),K0 r (1) (0),
 []⟩:=by kernel_rfl
set_option maxHeartbeats 4000000 in
theorem An(r:Qc)(hn:r.Qa.length<=61){B:Lo}(hJ:∀w,B.has w->J0 w){c0:CF}:∀m:Nat,(∀(s i:Int),r.Qa.length-i.toNat=m->∀(h0:0<=i) (h1:i<=r.Qa.length) (hs:s=((Xx i:Nat):Int)),Ao B c0 r s i->EndsT YP B c0 (.int .i64 ((Xx r.Qa.length:Nat):Int))):=by
 intro m0;induction m0 using LA with
 |_ m0 ih0=>
  intro s i hm0 h0 h1 hs ⟨Qt,KF,XW⟩;have e1:=Kv (n:=i) (by omega);have e2:=ya (i:=i) h0;by_cases q0:(i:Int)<((↑r.Qa.length:Int))
  ·have e3:=Kv (n:=i+1) (by omega);exact((ih0 _ (by omega)) (2*s) (i+1) rfl (by omega) (by omega) (by omega)
    (XW.landM okF hJ Qd (Am B r s i Qt)
    ⟨(Xq (by omega) (by omega)),⟨(Xq (by omega) (by omega)),⟨(XY q0),trivial⟩⟩⟩ (by kernel_rfl) (by kernel_rfl))).cast (by rfl)
  ·have e3:=Kv (n:=i+1) (by omega);exact(GoE.endsT okF hJ Qd XW (Al B r s i Qt)
    ⟨(XZ (Int.not_lt.1 q0)),trivial⟩).cast (by(rw[hs,show i=r.Qa.length by omega];done))
set_option maxHeartbeats 4000000 in
theorem DE(r:Qc)(hn:r.Qa.length<=61){B:Lo}(hJ:∀w,B.has w->J0 w):EndsT YP B (Qr YP 69 15 (([.agg (Qv r).toArray]).map (Qy 0 4))) (.int .i64 ((Xx r.Qa.length:Nat):Int)):=by
 exact((An r hn hJ _) (1) (0) rfl (by omega) (by omega) (by exact FY.symm)
  (GoE.start.landM okF hJ Qd (Ak B r)
  trivial (by kernel_rfl) (by kernel_rfl))).cast (by rfl)
theorem GV(r:Qc)(hn:r.Qa.length<=61):Qx YP J0 69 #[.agg (Qv r).toArray] (.int .i64 ((Xx r.Qa.length:Nat):Int)):=
 Xn (ts:=[.agg (Qv r).toArray]) XQ (c0:=Qr YP 69 15 (([.agg (Qv r).toArray]).map (Qy 0 4))) (by kernel_rfl) (by kernel_rfl) fun B hJ=>DE r hn hJ
def Yx(r:Qc)(plan:List Int)(i:Int):List Value:=[Qn 1 (QJ plan.length (Qm Xv plan)),pA 2 0,.int .i64 i]
def WN(r:Qc)(plan:List Int)(i:Int):List Obj:=[Obj.cells #[Qn 1 (QJ r.Qa.length (Qm Qf r.Qa)),.int .i64 r.Qi,.int .i64 r.Qb] 24]
def Yy:List Item:=([.code [1,0,1,0,0],.inLoop [1,0,1,0,0],.inBlock 0,.code [1,1]]).map (it (Q9 YP 41))
def AA(B:Lo)(c0:CF)(r:Qc)(plan:List Int)(i:Int):Prop:=∃dJ:Nat->Value,(∀t,X0 (dJ t))/\GoE YP B c0 Za 1 (Xl 41 26 (([1,2,5]:List Nat).zip (Yx r plan i)) dJ Yy) (Xj (WN r plan i)) (2+(WN r plan i).length) []
def qq(r:Qc)(plan:List Int)(i:Int):Array Value:=#[.int .i64 (plan.getD i.toNat La),.int .i64 0,.int .i64 ((↑(Xx (↑r.Qa.length:Int)):Int)-1)]
def qp(r:Qc):Value:=(.int .i64 (↑(Xx (↑r.Qa.length:Int)):Int))
def g8(B:Lo)(r:Qc)(plan:List Int)(i:Int)(Qt:Nat->Value):List Prop:=let a:=Lf r.Qa;[wq ((↑(Xx (↑a:Int)):Int)-1)=(↑(Xx (↑a:Int)):Int)-1,Qw []/\Qx YP J0 69 #[.agg #[QJ a (Qm Qf r.Qa),.int .i64 r.Qi,.int .i64 r.Qb]] (qp r),eJ i plan.length (Qm Xv plan) Try.t3.size #[.int .i64 (plan.getD i.toNat La)],Zm i (↑plan.length:Int)=true]++([]:List Prop)
def qu(r:Qc)(plan:List Int)(i:Int)(Qt:Nat->Value):Q2:=[(3,VT),(6,Ql.tidx i.toNat #[.int .i64 (plan.getD i.toNat La)]),(9,Ql.pure (qp r) []),(10,VU ((↑(Xx (↑r.Qa.length:Int)):Int)-1))]
theorem A8(B:Lo)(r:Qc)(plan:List Int)(i:Int)(Qt:Nat->Value):landM (Qs YP (Q0 YP) J0 B 14 1 (Xl 41 26 (([1,2,5]:List Nat).zip (Yx r plan i)) Qt Yy) (Xj (WN r plan i)) (2+(WN r plan i).length)
 (qu r plan i Qt++[(11,Ql.pure (.bool true) []),(14,VU (i+1))]) 0 [] []) [1,2,5] [(2,KS.auto)] []=some ⟨41,26,Yy,[],.run,none,Yx r plan (i+1),WN r plan (i+1),
 [wq (i+1)=i+1,Qw []/\Qx YP J0 55 (qq r plan i) (.bool true)]++g8 B r plan i Qt⟩:=by kernel_rfl
theorem A7(B:Lo)(r:Qc)(plan:List Int)(i:Int)(Qt:Nat->Value):QW (Qs YP (Q0 YP) J0 B 14 1 (Xl 41 26 (([1,2,5]:List Nat).zip (Yx r plan i)) Qt Yy) (Xj (WN r plan i)) (2+(WN r plan i).length)
 (qu r plan i Qt++[(11,Ql.pure (.bool false) [])]) 0 [] []) []=some (.bool false,
 [Qw []/\Qx YP J0 55 (qq r plan i) (.bool false)]++g8 B r plan i Qt):=by kernel_rfl
def gz(B:Lo)(r:Qc)(plan:List Int)(i:Int)(Qt:Nat->Value):List Prop:=[Zm i (↑plan.length:Int)=false]++([]:List Prop)
def qt(r:Qc)(plan:List Int)(i:Int)(Qt:Nat->Value):Q2:=[(3,VI)]
theorem A6(B:Lo)(r:Qc)(plan:List Int)(i:Int)(Qt:Nat->Value):QW (Qs YP (Q0 YP) J0 B 9 1 (Xl 41 26 (([1,2,5]:List Nat).zip (Yx r plan i)) Qt Yy) (Xj (WN r plan i)) (2+(WN r plan i).length)
 (qt r plan i Qt++[(8,VT)]) 0 [] []) []=some (.bool true,
 [Jv (↑plan.length:Int) r.Qb=true]++gz B r plan i Qt):=by kernel_rfl
theorem A5(B:Lo)(r:Qc)(plan:List Int)(i:Int)(Qt:Nat->Value):QW (Qs YP (Q0 YP) J0 B 9 1 (Xl 41 26 (([1,2,5]:List Nat).zip (Yx r plan i)) Qt Yy) (Xj (WN r plan i)) (2+(WN r plan i).length)
 (qt r plan i Qt++[(8,VI)]) 0 [] []) []=some (.bool false,
 [Jv (↑plan.length:Int) r.Qb=false]++gz B r plan i Qt):=by kernel_rfl
theorem A4(B:Lo)(r:Qc)(plan:List Int):landM (Qs YP (Q0 YP) J0 B 7 1 (Qr YP 41 26 (([.agg (Qv r).toArray,XA plan]).map (Qy 0 4))) Za 1
 [] 0 [] []) [1,2,5] [(1,KS.auto)] []=some ⟨41,26,Yy,[],.run,none,Yx r plan (0),WN r plan (0),
 []⟩:=by kernel_rfl
set_option maxHeartbeats 4000000 in
theorem A9(r:Qc)(plan:List Int)(hn:r.Qa.length<=61)(X7:plan.length<=9223372036854775807){B:Lo}(hJ:∀w,B.has w->J0 w){c0:CF}:∀m:Nat,(∀(i:Int),plan.length-i.toNat=m->∀(h0:0<=i),AA B c0 r plan i->EndsT YP B c0 (.bool ((plan.drop i.toNat).all (fun x=>Ug x 0 (((Xx r.Qa.length:Nat):Int)-1)) && decide (plan.length=r.Qb)))):=by
 intro m0;induction m0 using LA with
 |_ m0 ih0=>
  intro i hm0 h0 ⟨Qt,KF,XW⟩;have e1:=Kv (n:=r.Qa.length) (by omega);have e1:=Kv (n:=r.Qa.length) (by omega);by_cases q0:(i:Int)<((↑plan.length:Int))
  ·have WL:Qw (g8 B r plan i Qt):=by
    have s2:=cE (l:=plan) (p:=fun x=>Ug x 0 (((Xx r.Qa.length:Nat):Int)-1)) h0 q0;exact⟨(Xq (by omega) (by omega)),⟨⟨trivial,GV (r) (by with_reducible assumption)⟩,⟨⟨by omega,by omega,(QT (z:=1) (fun _=>rfl) (by omega))⟩,⟨(XY q0),trivial⟩⟩⟩⟩
   cases q1:Ug (plan.getD i.toNat La) 0 ((↑(Xx (↑r.Qa.length:Int)):Int)-1)with
   |true=>
    have s2:=cE (l:=plan) (p:=fun x=>Ug x 0 (((Xx r.Qa.length:Nat):Int)-1)) h0 q0;exact((ih0 _ (by omega)) (i+1) rfl (by omega)
     (XW.landM okF hJ Qd (A8 B r plan i Qt)
     ⟨(Xq (by omega) (by omega)),⟨⟨trivial,(by have t_:=lF (plan.getD i.toNat La) (0) ((↑(Xx (↑r.Qa.length:Int)):Int)-1);rw[q1]at t_;exact t_)⟩,WL⟩⟩ (by kernel_rfl) (by kernel_rfl))).cast (by(rw[s2];simp_all;done))
   |false=>
    have s2:=cE (l:=plan) (p:=fun x=>Ug x 0 (((Xx r.Qa.length:Nat):Int)-1)) h0 q0;exact(GoE.endsT okF hJ Qd XW (A7 B r plan i Qt)
     ⟨⟨trivial,(by have t_:=lF (plan.getD i.toNat La) (0) ((↑(Xx (↑r.Qa.length:Int)):Int)-1);rw[q1]at t_;exact t_)⟩,WL⟩).cast (by(rw[s2];simp_all;done))
  ·have hp1:Qw (gz B r plan i Qt):=by
    exact⟨(XZ (Int.not_lt.1 q0)),trivial⟩
   by_cases q1:((↑plan.length:Int):Int)=r.Qb
   ·have s2:=mG (l:=plan) (p:=fun x=>Ug x 0 (((Xx r.Qa.length:Nat):Int)-1)) (i:=i) (by omega);exact(GoE.endsT okF hJ Qd XW (A6 B r plan i Qt)
     ⟨(Jg q1),hp1⟩).cast (by(rw[s2];simp[*];done))
   ·have s2:=mG (l:=plan) (p:=fun x=>Ug x 0 (((Xx r.Qa.length:Nat):Int)-1)) (i:=i) (by omega);exact(GoE.endsT okF hJ Qd XW (A5 B r plan i Qt)
     ⟨(Jh q1),hp1⟩).cast (by(rw[s2];simp[*];done))
set_option maxHeartbeats 4000000 in
theorem DG(r:Qc)(plan:List Int)(hn:r.Qa.length<=61)(X7:plan.length<=9223372036854775807){B:Lo}(hJ:∀w,B.has w->J0 w):EndsT YP B (Qr YP 41 26 (([.agg (Qv r).toArray,XA plan]).map (Qy 0 4))) (.bool (QP r plan)):=by
 have e1:=Kv (n:=r.Qa.length) (by omega);exact((A9 r plan hn X7 hJ _) (0) rfl (by omega)
  (GoE.start.landM okF hJ Qd (A4 B r plan)
  trivial (by kernel_rfl) (by kernel_rfl))).cast (by(simp[QP,Bool.and_comm];done))
theorem lT(r:Qc)(plan:List Int)(hn:r.Qa.length<=61):Qx YP J0 41 #[.agg (Qv r).toArray,XA plan] (.bool (QP r plan)):=
 VJ (ts:=[.agg (Qv r).toArray,XA plan]) (plan.length<=9223372036854775807) (fun _ _ ht=>ht.ln (i:=1) rfl) XQ (c0:=Qr YP 41 26 (([.agg (Qv r).toArray,XA plan]).map (Qy 0 4))) (by kernel_rfl) (by kernel_rfl) fun X7 B hJ=>DG r plan hn X7 hJ
def Sx(n k:Int)(x i:Int):List Value:=[.int .i64 x,.int .i64 k,.int .i64 i]
def Ku(n k:Int)(x i:Int):List Obj:=[]
def Sy:List Item:=([.code [1,0,1,0,0],.inLoop [1,0,1,0,0],.inBlock 0,.code [1,1]]).map (it (Q9 YP 47))
def DM(B:Lo)(c0:CF)(n k:Int)(x i:Int):Prop:=∃dJ:Nat->Value,(∀t,X0 (dJ t))/\GoE YP B c0 Za 1 (Xl 47 16 (([0,1,5]:List Nat).zip (Sx n k x i)) dJ Sy) (Xj (Ku n k x i)) (2+(Ku n k x i).length) []
theorem DK(B:Lo)(n k:Int)(x i:Int)(Qt:Nat->Value):let a:=Lc x 2;landM (Qs YP (Q0 YP) J0 B 11 1 (Xl 47 16 (([0,1,5]:List Nat).zip (Sx n k x i)) Qt Sy) (Xj (Ku n k x i)) (2+(Ku n k x i).length)
 [(2,VT),(4,VU a),(7,VU (i+1))] 0 [] []) [0,1,5] [] []=some ⟨47,16,Sy,[],.run,none,Sx n k a (i+1),Ku n k a (i+1),
 [wq (i+1)=i+1,IntKind.wrap .i64 a=Lc x 2,Zm i k=true]⟩:=by intro a;kernel_rfl
def ng(B:Lo)(n k:Int)(x i:Int)(Qt:Nat->Value):List Prop:=[Zm i k=false]++([]:List Prop)
def wQ(n k:Int)(x i:Int)(Qt:Nat->Value):Q2:=[(2,VI)]
theorem DJ(B:Lo)(n k:Int)(x i:Int)(Qt:Nat->Value):QW (Qs YP (Q0 YP) J0 B 9 1 (Xl 47 16 (([0,1,5]:List Nat).zip (Sx n k x i)) Qt Sy) (Xj (Ku n k x i)) (2+(Ku n k x i).length)
 (wQ n k x i Qt++[(5,VT)]) 0 [] []) []=some (.bool true,
 [Jv (Int.tmod x 2) 1=true]++ng B n k x i Qt):=by kernel_rfl
theorem DI(B:Lo)(n k:Int)(x i:Int)(Qt:Nat->Value):QW (Qs YP (Q0 YP) J0 B 9 1 (Xl 47 16 (([0,1,5]:List Nat).zip (Sx n k x i)) Qt Sy) (Xj (Ku n k x i)) (2+(Ku n k x i).length)
 (wQ n k x i Qt++[(5,VI)]) 0 [] []) []=some (.bool false,
 [Jv (Int.tmod x 2) 1=false]++ng B n k x i Qt):=by kernel_rfl
theorem DH(B:Lo)(n k:Int):landM (Qs YP (Q0 YP) J0 B 7 1 (Qr YP 47 16 (([.int .i64 n,.int .i64 k]).map (Qy 0 4))) Za 1
 [] 0 [] []) [0,1,5] [] []=some ⟨47,16,Sy,[],.run,none,Sx n k (n) (0),Ku n k (n) (0),
 []⟩:=by kernel_rfl
set_option maxHeartbeats 4000000 in
theorem DL(n k:Int)(hn:0<=n/\n<=1000000000)(hk:0<=k/\k<=1000000000){B:Lo}(hJ:∀w,B.has w->J0 w){c0:CF}:∀m:Nat,(∀(x i:Int),(k-i).toNat=m->∀(h0:0<=i) (h1:i<=k) (h2:0<=x/\x<=1000000000) (hx:hasB x (k-i)=hasB n k),DM B c0 n k x i->EndsT YP B c0 (.bool (hasB n k))):=by
 intro m0;induction m0 using LA with
 |_ m0 ih0=>
  intro x i hm0 h0 h1 h2 hx ⟨Qt,KF,XW⟩;have e1:x.tdiv 2=x / 2:=LQ h2.1;have e2:x.tmod 2=x % 2:=Int.tmod_eq_emod_of_nonneg h2.1;have e4:=Hv (n:=x) h2.1;by_cases q0:(i:Int)<(k)
  ·have e3:=CD (n:=x) (k:=k-i) h2.1 (by omega);exact((ih0 _ (by omega)) (Lc x 2) (i+1) rfl (by omega) (by omega) (by omega) (by(rw[<-hx,e3,e1,show k-(i+1)=k-i-1 by omega];done))
    (XW.landM okF hJ Qd (DK B n k x i Qt)
    ⟨(Xq (by omega) (by omega)),⟨(eL (by omega) (by omega)),⟨(XY q0),trivial⟩⟩⟩ (by kernel_rfl) (by kernel_rfl))).cast (by rfl)
  ·have WL:Qw (ng B n k x i Qt):=by
    exact⟨(XZ (Int.not_lt.1 q0)),trivial⟩
   by_cases q1:(Int.tmod x 2:Int)=(1)
   ·exact(GoE.endsT okF hJ Qd XW (DJ B n k x i Qt)
     ⟨(Jg q1),WL⟩).cast (by(rw[<-hx,show k-i=0 by omega,e4];simp[*];omega))
   ·exact(GoE.endsT okF hJ Qd XW (DI B n k x i Qt)
     ⟨(Jh q1),WL⟩).cast (by(rw[<-hx,show k-i=0 by omega,e4];simp[*];omega))
set_option maxHeartbeats 4000000 in
theorem FL(n k:Int)(hn:0<=n/\n<=1000000000)(hk:0<=k/\k<=1000000000){B:Lo}(hJ:∀w,B.has w->J0 w):EndsT YP B (Qr YP 47 16 (([.int .i64 n,.int .i64 k]).map (Qy 0 4))) (.bool (hasB n k)):=by
 exact((DL n k hn hk hJ _) (n) (0) rfl (by omega) (by omega) (by with_reducible assumption) (by(simp_all;done))
  (GoE.start.landM okF hJ Qd (DH B n k)
  trivial (by kernel_rfl) (by kernel_rfl))).cast (by rfl)
theorem GW(n k:Int)(hn:0<=n/\n<=1000000000)(hk:0<=k/\k<=1000000000):Qx YP J0 47 #[.int .i64 n,.int .i64 k] (.bool (hasB n k)):=
 Xn (ts:=[.int .i64 n,.int .i64 k]) XQ (c0:=Qr YP 47 16 (([.int .i64 n,.int .i64 k]).map (Qy 0 4))) (by kernel_rfl) (by kernel_rfl) fun B hJ=>FL n k hn hk hJ
def gZ(r:Qc)(plan:List Int):Array Value:=#[QJ plan.length (Qm Xv plan),.int .i64 0,.int .i64 ((↑(Xx (↑r.Qa.length:Int)):Int)-1)]
def gY(r:Qc):Value:=(.int .i64 (↑(Xx (↑r.Qa.length:Int)):Int))
def TK(B:Lo)(r:Qc)(plan:List Int):List Prop:=let a:=Lf r.Qa;[wq ((↑(Xx (↑a:Int)):Int)-1)=(↑(Xx (↑a:Int)):Int)-1,Kd YP BinOp.shl 3 (.int .i64 1) (Xm {len:=16000,tr:=Tri.set 14 Tri.lf 14 (.int .i64 (↑a:Int))} 14) (gY r),Jv (↑plan.length:Int) r.Qb=true]++([]:List Prop)
def h8(r:Qc)(plan:List Int):Q2:=[(6,VT),(12,Ql.bin (gY r)),(13,VU ((↑(Xx (↑r.Qa.length:Int)):Int)-1))]
theorem vn(B:Lo)(r:Qc)(plan:List Int):QW (Qs YP (Q0 YP) J0 B 6 1 (Qr YP 51 19 (([.agg (Qv r).toArray,XA plan]).map (Qy 0 4))) Za 1
 (h8 r plan++[(14,Ql.pure (.bool true) [])]) 0 [] []) []=some (.bool true,
 [Qw []/\Qx YP J0 74 (gZ r plan) (.bool true)]++TK B r plan):=by kernel_rfl
theorem vm(B:Lo)(r:Qc)(plan:List Int):QW (Qs YP (Q0 YP) J0 B 6 1 (Qr YP 51 19 (([.agg (Qv r).toArray,XA plan]).map (Qy 0 4))) Za 1
 (h8 r plan++[(14,Ql.pure (.bool false) [])]) 0 [] []) []=some (.bool false,
 [Qw []/\Qx YP J0 74 (gZ r plan) (.bool false)]++TK B r plan):=by kernel_rfl
theorem vl(B:Lo)(r:Qc)(plan:List Int):QW (Qs YP (Q0 YP) J0 B 6 1 (Qr YP 51 19 (([.agg (Qv r).toArray,XA plan]).map (Qy 0 4))) Za 1
 [(6,VI)] 0 [] []) []=some (.bool false,
 [Jv (↑plan.length:Int) r.Qb=false]):=by kernel_rfl
set_option maxHeartbeats 4000000 in
theorem yc(r:Qc)(plan:List Int)(hn:r.Qa.length<=61)(X7:plan.length<=9223372036854775807){B:Lo}(hJ:∀w,B.has w->J0 w):EndsT YP B (Qr YP 51 19 (([.agg (Qv r).toArray,XA plan]).map (Qy 0 4))) (.bool (QP r plan)):=by
 have e1:=Kv (n:=r.Qa.length) (by omega);by_cases q0:((↑plan.length:Int):Int)=r.Qb
 ·have WL:Qw (TK B r plan):=by
   exact⟨(Xq (by omega) (by omega)),⟨(kZ (by omega) (by omega)),⟨(Jg q0),trivial⟩⟩⟩
  cases q1:List.all plan fun x=>Ug x 0 ((↑(Xx (↑r.Qa.length:Int)):Int)-1)with
  |true=>
   exact(GoE.endsT okF hJ Qd GoE.start (vn B r plan)
    ⟨⟨trivial,(by have t_:=BW (plan) (0) ((↑(Xx (↑r.Qa.length:Int)):Int)-1);rw[q1]at t_;exact t_)⟩,WL⟩).cast (by(simp[QP, *];done))
  |false=>
   exact(GoE.endsT okF hJ Qd GoE.start (vm B r plan)
    ⟨⟨trivial,(by have t_:=BW (plan) (0) ((↑(Xx (↑r.Qa.length:Int)):Int)-1);rw[q1]at t_;exact t_)⟩,WL⟩).cast (by(simp[QP, *];done))
 ·exact(GoE.endsT okF hJ Qd GoE.start (vl B r plan)
   ⟨(Jh q0),trivial⟩).cast (by(simp[QP, *];done))
theorem wW(r:Qc)(plan:List Int)(hn:r.Qa.length<=61):Qx YP J0 51 #[.agg (Qv r).toArray,XA plan] (.bool (QP r plan)):=
 VJ (ts:=[.agg (Qv r).toArray,XA plan]) (plan.length<=9223372036854775807) (fun _ _ ht=>ht.ln (i:=1) rfl) XQ (c0:=Qr YP 51 19 (([.agg (Qv r).toArray,XA plan]).map (Qy 0 4))) (by kernel_rfl) (by kernel_rfl) fun X7 B hJ=>yc r plan hn X7 hJ
def az(r:Qc):Value:=(QJ r.Qa.length (Qm Qf r.Qa))
def a8(r:Qc)(plan:List Int):Array Value:=#[Qn 0 (az r),.int .i64 r.Qi,.int .i64 r.Qb,.int .i64 (plan.getD 0 La),.int .i64 (plan.getD 1 La),.int .i64 (plan.getD 2 La),.int .i64 (plan.getD 3 La)]
def a6(r:Qc):Array Value:=#[Qn 0 (az r),.int .i64 r.Qi,.int .i64 r.Qb,.int .i64 0,.int .i64 0,.int .i64 0,.int .i64 0]
theorem ni(B:Lo)(r:Qc)(plan:List Int):let c:=Qm Xv plan;let b:=Lf plan;let a:=Array.map (Vp 0) (LO c 0 (LL b 4*TypeInfo.size Try.t3));QW (Qs YP (Q0 YP) J0 B 10 1 (Qr YP 52 13 (([.agg (Qv r).toArray,XA plan]).map (Qy 0 4))) Za 1
 [(9,Ql.tcpy (a8 r plan))] 0 [] []) []=some (.agg #[QJ r.Qa.length (Qm Qf r.Qa),.int .i64 r.Qi,.int .i64 r.Qb,.int .i64 (plan.getD 0 La),.int .i64 (plan.getD 1 La),.int .i64 (plan.getD 2 La),.int .i64 (plan.getD 3 La)],
 [0<Lf plan/\3+LL b 4*TypeInfo.size Try.t3<=Array.size (a6 r)/\LL b 4*TypeInfo.size Try.t3<=Array.size c/\(Array.all c fun v=>simple v || VB v)=true/\ones a=true/\splice (a6 r) 3 a=(a8 r plan)]):=by intro c b a;kernel_rfl
set_option maxHeartbeats 4000000 in
theorem qx(r:Qc)(plan:List Int)(h0:0<plan.length)(hl:plan.length<=4){B:Lo}(hJ:∀w,B.has w->J0 w):EndsT YP B (Qr YP 52 13 (([.agg (Qv r).toArray,XA plan]).map (Qy 0 4))) (.agg (QB r plan).toArray):=by
 exact(GoE.endsT okF hJ Qd GoE.start (ni B r plan)
  ⟨(tS (fun _=>rfl) rfl (by omega) (by omega) rfl (YL rfl) rfl),trivial⟩).cast (by rfl)
theorem xL(r:Qc)(plan:List Int)(h0:0<plan.length)(hl:plan.length<=4):Qx YP J0 52 #[.agg (Qv r).toArray,XA plan] (.agg (QB r plan).toArray):=
 Xn (ts:=[.agg (Qv r).toArray,XA plan]) XQ (c0:=Qr YP 52 13 (([.agg (Qv r).toArray,XA plan]).map (Qy 0 4))) (by kernel_rfl) (by kernel_rfl) fun B hJ=>qx r plan h0 hl hJ
theorem zt(B:Lo)(r:Qc):QW (Qs YP (Q0 YP) J0 B 6 1 (Qr YP 15 7 (([.agg (Qv r).toArray]).map (Qy 0 4))) Za 1
 [(5,VT)] 0 [] []) []=some (.bool true,
 [(!Zm 8 (↑r.Qa.length:Int))=true]):=by kernel_rfl
theorem zr(B:Lo)(r:Qc):QW (Qs YP (Q0 YP) J0 B 6 1 (Qr YP 15 7 (([.agg (Qv r).toArray]).map (Qy 0 4))) Za 1
 [(5,VI)] 0 [] []) []=some (.bool false,
 [(!Zm 8 (↑r.Qa.length:Int))=false]):=by kernel_rfl
set_option maxHeartbeats 4000000 in
theorem Cl(r:Qc)  (X7:r.Qa.length<=9223372036854775807){B:Lo}(hJ:∀w,B.has w->J0 w):EndsT YP B (Qr YP 15 7 (([.agg (Qv r).toArray]).map (Qy 0 4))) (.bool (decide (r.Qa.length<=8))):=by
 by_cases q0:((↑r.Qa.length:Int):Int)<=(8)
 ·exact(GoE.endsT okF hJ Qd GoE.start (zt B r)
   ⟨(UW q0),trivial⟩).cast (by(simp_all[];omega))
 ·exact(GoE.endsT okF hJ Qd GoE.start (zr B r)
   ⟨(UX (Int.not_le.1 q0)),trivial⟩).cast (by(simp_all[];omega))
theorem Cm(r:Qc)  :Qx YP J0 15 #[.agg (Qv r).toArray] (.bool (decide (r.Qa.length<=8))):=
 VJ (ts:=[.agg (Qv r).toArray]) (r.Qa.length<=9223372036854775807) (fun _ _ ht=>ht.ln2 (i:=0) (j:=0) rfl rfl) XQ (c0:=Qr YP 15 7 (([.agg (Qv r).toArray]).map (Qy 0 4))) (by kernel_rfl) (by kernel_rfl) fun X7 B hJ=>Cl r  X7 hJ
def SS(r:Qc):Array Value:=#[QJ r.Qa.length (Qm Qf r.Qa),.int .i64 r.Qi,.int .i64 r.Qb]
def c9(B:Lo)(r:Qc)(plan:List Int):List Prop:=[Qw []/\Qx YP J0 20 #[.agg (SS r)] (.bool true)]++([]:List Prop)
def mC(r:Qc)(plan:List Int):Q2:=[(3,Ql.pure (.bool true) [])]
theorem z0(B:Lo)(r:Qc)(plan:List Int):QW (Qs YP (Q0 YP) J0 B 6 1 (Qr YP 21 12 (([.agg (Qv r).toArray,XA plan]).map (Qy 0 4))) Za 1
 (mC r plan++[(7,Ql.pure (.bool true) [])]) 0 [] []) []=some (.bool true,
 [Qw []/\Qx YP J0 41 #[.agg (SS r),QJ plan.length (Qm Xv plan)] (.bool true)]++c9 B r plan):=by kernel_rfl
theorem zz(B:Lo)(r:Qc)(plan:List Int):QW (Qs YP (Q0 YP) J0 B 6 1 (Qr YP 21 12 (([.agg (Qv r).toArray,XA plan]).map (Qy 0 4))) Za 1
 (mC r plan++[(7,Ql.pure (.bool false) [])]) 0 [] []) []=some (.bool false,
 [Qw []/\Qx YP J0 41 #[.agg (SS r),QJ plan.length (Qm Xv plan)] (.bool false)]++c9 B r plan):=by kernel_rfl
theorem zy(B:Lo)(r:Qc)(plan:List Int):QW (Qs YP (Q0 YP) J0 B 6 1 (Qr YP 21 12 (([.agg (Qv r).toArray,XA plan]).map (Qy 0 4))) Za 1
 [(3,Ql.pure (.bool false) [])] 0 [] []) []=some (.bool false,
 [Qw []/\Qx YP J0 20 #[.agg (SS r)] (.bool false)]):=by kernel_rfl
set_option maxHeartbeats 4000000 in
theorem C6(r:Qc)(plan:List Int)  {B:Lo}(hJ:∀w,B.has w->J0 w):EndsT YP B (Qr YP 21 12 (([.agg (Qv r).toArray,XA plan]).map (Qy 0 4))) (.bool (QC r && QP r plan)):=by
 cases q0:QC r with
 |true=>
  have WL:Qw (c9 B r plan):=by
   have Zc:=(Qz (QN ‹QC r=true›).1).1;exact⟨⟨trivial,(by have t_:=Fl (r);rw[q0]at t_;exact t_)⟩,trivial⟩
  cases q1:QP r plan with
  |true=>
   have Zc:=(Qz (QN ‹QC r=true›).1).1;exact(GoE.endsT okF hJ Qd GoE.start (z0 B r plan)
    ⟨⟨trivial,(by have t_:=lT (r) (plan) (by omega);rw[q1]at t_;exact t_)⟩,WL⟩).cast (by rfl)
  |false=>
   have Zc:=(Qz (QN ‹QC r=true›).1).1;exact(GoE.endsT okF hJ Qd GoE.start (zz B r plan)
    ⟨⟨trivial,(by have t_:=lT (r) (plan) (by omega);rw[q1]at t_;exact t_)⟩,WL⟩).cast (by rfl)
 |false=>
  exact(GoE.endsT okF hJ Qd GoE.start (zy B r plan)
   ⟨⟨trivial,(by have t_:=Fl (r);rw[q0]at t_;exact t_)⟩,trivial⟩).cast (by rfl)
theorem vX(r:Qc)(plan:List Int)  :Qx YP J0 21 #[.agg (Qv r).toArray,XA plan] (.bool (QC r && QP r plan)):=
 Xn (ts:=[.agg (Qv r).toArray,XA plan]) XQ (c0:=Qr YP 21 12 (([.agg (Qv r).toArray,XA plan]).map (Qy 0 4))) (by kernel_rfl) (by kernel_rfl) fun B hJ=>C6 r plan  hJ
end
end Go.Proofs.Ytncjjangllkokaa

namespace Go.Proofs.Ytncjjangllkokaa
open Go Go.CE Go.RowKit
noncomputable section
set_option maxRecDepth 100000
def Fq(Qi n:Int):Int:=n+(n*Qi).tdiv 1000
def kB(room f g:Int):Int:=if room<=f then 0 else if(f*g).tdiv 1000<room-f then(f*g).tdiv 1000 else room-f
theorem c6{a r:Int}(ha:0<=a/\a<=1000000000000)(hr:0<=r/\r<=2000):0<=a*r/\a*r<=2000000000000000/\0<=(a*r).tdiv 1000/\(a*r).tdiv 1000<=2000000000000:=by
 have e0:0<=a*r:=LG ha.1 hr.1;have e1:a*r<=1000000000000*2000:=LH ha.2 hr.2 hr.1 (by omega);have e2:(a*r).tdiv 1000=(a*r) / 1000:=LQ e0;omega
def ZF(x:Qe):Span:=⟨x.glo,x.ghi⟩
def UU(x:Qe):Span:=⟨x.JX,x.JY⟩
def Z8(Qi:Int)(x:Qe):Span:=⟨x.count,Fq Qi x.count⟩
def SL(x_:Qe):Array Value:=#[.int .i64 x_.count,.int .i64 x_.room,.int .i64 x_.glo,.int .i64 x_.ghi,.int .i64 x_.QR,.int .i64 x_.XE,.int .i64 x_.JX,.int .i64 x_.JY,.int .i64 x_.Jz,.int .i64 x_.J1,.int .i64 x_.goal,.int .i64 x_.Xz]
def JR(xs:List Qe)(i:Int):=(xs.getD i.toNat La)
def mw(xs:List Qe)(i:Int):Value:=(.agg #[.int .i64 (Qe.glo (JR xs i)),.int .i64 (Qe.ghi (JR xs i))])
def yR(xs:List Qe)(i:Int)(ys:List Span):Array Value:=(Qm Xf (List.set ys i.toNat {lo:=Qe.glo (JR xs i),hi:=Qe.ghi (JR xs i)}))
def mr(xs:List Qe):Array Value:=(Qm (Kf [.int .i64 0,.int .i64 0]) (Lq xs.length ()))
def JS(xs:List Qe)(i:Int)(ys:List Span):List Value:=[Value.func (Fn.func 104) #[] #[],.slice (some {block:=2,off:=0}) xs.length 2,Qn 1 (QJ xs.length (Qm Qf xs)),.int .i64 (↑xs.length:Int),.int .i64 i]
def UB(xs:List Qe)(i:Int)(ys:List Span):List Obj:=[.cells (Qm Xf ys) 38 (0,0)]
def JT:List Item:=([.code [1,1,0,1,0,0],.inLoop [1,1,0,1,0,0],.inBlock 0,.code [1,1,1]]).map (it (Q9 YP 102))
def yX(B:Lo)(c0:CF)(xs:List Qe)(i:Int)(ys:List Span):Prop:=∃dJ:Nat->Value,(∀t,X0 (dJ t))/\GoE YP B c0 Za 1 (Xl 102 26 (([1,5,11,12,13]:List Nat).zip (JS xs i ys)) dJ JT) (Xj (UB xs i ys)) (2+(UB xs i ys).length) []
def JU(xs:List Qe)(i:Int)(ys:List Span)(Qt:Nat->Value):Qj:=[(3,Obj.cells (SL (xs.getD i.toNat La)) 54),(0,Obj.coro none),(1,Obj.coro none),(2,Obj.cells (Qm Xf ys) 38)]
def SM(xs:List Qe)(i:Int)(ys:List Span)(Qt:Nat->Value):CF:=⟨104,ofList 5 [.agg (SL (xs.getD i.toNat La))],[Item.code (Q9 YP 104)],[],.run,none⟩
theorem yV(B:Lo)(xs:List Qe)(i:Int)(ys:List Span)(Qt:Nat->Value):CE.finK 4 (Qs YP (Q0 YP) J0 B 6 4 (SM xs i ys Qt) (JU xs i ys Qt) 4
 [] 0 [] []) [] [] []=some (OO.ret (mw xs i),[],[],
 []):=by kernel_rfl
theorem yU(B:Lo)(xs:List Qe)(i:Int)(ys:List Span)(Qt:Nat->Value):let f:=mw xs i;let e:=JR xs i;let c:=yR xs i ys;let b:=Lb i;let d:=xs.getD b La;let a:=List.set ys b {lo:=e.glo,hi:=e.ghi};landM (Qs YP (Q0 YP) J0 B 13 1 (Xl 102 26 (([1,5,11,12,13]:List Nat).zip (JS xs i ys)) Qt JT) (Xj (UB xs i ys)) (2+(UB xs i ys).length)
 [(0,VT),(2,Ql.tidx b (SL e)),(11,Ql.call (Ld 4) (OO.ret f) ([]++(4,QM)::QD 5 []) 5 []),(12,Ql.WJ (Hint.idx b)),(13,Ql.WJ (Hint.st c)),(14,VU (i+1))] 0 [] []) [1,5,11,12,13] [(2,KS.cells [] c)] []=some ⟨102,26,JT,[],.run,none,JS xs (i+1) a,UB xs (i+1) a,
 [Ks 1 [] c c,wq (i+1)=i+1,0+Lb i*2+TypeInfo.size Try.t38<=Array.size (Qm Xf ys)/\splice (Qm Xf ys) (0+Lb i*2) (Value.cells (Xm {len:=16000,tr:=Tri.set 14 (Tri.set 14 Tri.lf 22 f) 23 (.pointer (some {block:=2,off:=0+Lb i*2}))} 22))=Qm Xf (List.set ys b {lo:=d.glo,hi:=d.ghi}),i=(↑b:Int)/\Lb i<Lf xs,FJ YP B (SM xs i ys Qt) (JU xs i ys Qt) 4 (OO.ret f) (([]++((4,QM)::QD (4+1) []))++JU xs i ys Qt) 5 (Ld 4) [],eJ i xs.length (Qm Qf xs) Try.t54.size (SL d),Zm i (↑xs.length:Int)=true]⟩:=by intro f e c b d a;kernel_rfl
theorem yT(B:Lo)(xs:List Qe)(i:Int)(ys:List Span)(Qt:Nat->Value):let a:=Fz.cs {k:=2,rs:=[],cs:=Qm Xf ys};QW (Qs YP (Q0 YP) J0 B 9 1 (Xl 102 26 (([1,5,11,12,13]:List Nat).zip (JS xs i ys)) Qt JT) (Xj (UB xs i ys)) (2+(UB xs i ys).length)
 [(0,VI)] 0 [] []) [{k:=2,rs:=[],cs:=Qm Xf ys}]=some (QJ xs.length a,
 [Z7 (Fz.rs {k:=2,rs:=[],cs:=Qm Xf ys}) (Qm Xf ys) a,Zm i (↑xs.length:Int)=false]):=by intro a;kernel_rfl
theorem yS(B:Lo)(xs:List Qe):let c:=Lf xs;let b:=Xm {len:=16000,tr:=Tri.set 14 Tri.lf 9 (.int .i64 (↑c:Int))} 9;let a:=Lq c {lo:=0,hi:=0};landM (Qs YP (Q0 YP) J0 B 9 1 (Qr YP 102 26 (([Vb xs,.func (.func 104) #[] #[]]).map (Qy 0 4))) Za 1
 [(3,Ql.WJ (Hint.mk c (mr xs)))] 0 [] []) [1,5,11,12,13] [(1,KS.rows [] [] [] (Qm Xf a))] []=some ⟨102,26,JT,[],.run,none,JS xs (0) a,UB xs (0) a,
 [Jy 1 [] [] [] (mr xs) (Qm Xf a),Rf YP 36 b b=some (38,Qm (Kf [.int .i64 0,.int .i64 0]) (Lq c ()),Lf xs,TypeInfo.size Try.t38)]⟩:=by intro c b a;kernel_rfl
set_option maxHeartbeats 4000000 in
theorem yW(xs:List Qe)(hn:xs.length<=1000000){B:Lo}(hJ:∀w,B.has w->J0 w){c0:CF}:∀m:Nat,(∀(i:Int) (ys:List Span),(xs.length-i.toNat)=m->∀(h0:0<=i) (hy:ys=Ji ZF ⟨0,0⟩ xs i),yX B c0 xs i ys->EndsT YP B c0 (J4 (xs.map ZF))):=by
 intro m0;induction m0 using LA with
 |_ m0 ih0=>
  intro i ys hm0 h0 hy ⟨Qt,KF,XW⟩;have hyl:ys.length=xs.length:=by rw[hy];exact Ph
  by_cases q0:(i:Int)<((↑xs.length:Int))
  ·have rj0:FJ YP B (SM xs i ys Qt) (JU xs i ys Qt) 4 (OO.ret (.agg #[.int .i64 (Qe.glo (xs.getD i.toNat La)),.int .i64 (Qe.ghi (xs.getD i.toNat La))])) (([]++((4,QM)::QD (4+1) []))++JU xs i ys Qt) 5 (Ld 4) []:=by
    exact FinK.fjB (GoE.finK okF hJ Qd (Qk (by kernel_rfl)) (Qg (by kernel_rfl)) ((GoE.refl (P:=YP) (B:=B) (c0:=SM xs i ys Qt) (Qk (by kernel_rfl))).widen (Wf:=((([]):List (Nat×KS)).map (·.1))) (by simp) (Qg (by kernel_rfl))) (yV B xs i ys Qt)
     trivial) (ex:=[2]) (by kernel_rfl) ⟨trivial,⟨trivial,⟨trivial,⟨(YC (t:=38) (fl:=(0,0)) (fun x=>List.all_eq_true.1 (by rfl))),trivial⟩⟩⟩⟩
   exact((ih0 _ (by omega)) (i+1) (List.set ys i.toNat {lo:=Qe.glo (xs.getD i.toNat La),hi:=Qe.ghi (xs.getD i.toNat La)}) rfl (by omega) (by(subst hy;exact Pg (f:=ZF) h0 q0))
    (XW.landM okF hJ Qd (yU B xs i ys Qt)
    (by exact⟨(XP (XK (fun x=>List.all_eq_true.1 (by rfl)))),⟨(Xq (by omega) (by omega)),⟨(by exact J6 (z:=2) (k:=Lb i) (fun _=>rfl) (by first|omega|(rw[List.length_set];omega)|(rw[List.length_replicate];omega)) rfl rfl),⟨⟨by omega,by omega⟩,⟨rj0,⟨⟨by omega,by omega,(QT (z:=12) (fun _=>rfl) (by omega))⟩,⟨(XY q0),trivial⟩⟩⟩⟩⟩⟩⟩) (by kernel_rfl) (by kernel_rfl))).cast (by rfl)
  ·exact(GoE.endsT okF hJ Qd XW (yT B xs i ys Qt)
    ⟨(U2 (fun x=>List.all_eq_true.1 (by rfl))),⟨(XZ (Int.not_lt.1 q0)),trivial⟩⟩).cast (by exact Sv (hy.trans (Pj (by omega))) (by simp))
set_option maxHeartbeats 4000000 in
theorem BR(xs:List Qe)(hn:xs.length<=1000000){B:Lo}(hJ:∀w,B.has w->J0 w):EndsT YP B (Qr YP 102 26 (([Vb xs,.func (.func 104) #[] #[]]).map (Qy 0 4))) (J4 (xs.map ZF)):=by
 exact((yW xs hn hJ _) (0) (Lq xs.length {lo:=0,hi:=0}) rfl (by omega) (by exact bK)
  (GoE.start.landM okF hJ Qd (yS B xs)
  (by exact⟨(by exact(UF (by exact⟨(.simple rfl),⟨(.simple rfl),trivial⟩⟩) _)),⟨(kV (bytes:=16) (by kernel_rfl) (by omega) (by omega) (by omega)),trivial⟩⟩) (by kernel_rfl) (by kernel_rfl))).cast (by rfl)
theorem Gl(xs:List Qe)(hn:xs.length<=1000000):Qx YP J0 102 #[Vb xs,.func (.func 104) #[] #[]] (J4 (xs.map ZF)):=
 Xn (ts:=[Vb xs,.func (.func 104) #[] #[]]) XQ (c0:=Qr YP 102 26 (([Vb xs,.func (.func 104) #[] #[]]).map (Qy 0 4))) (by kernel_rfl) (by kernel_rfl) fun B hJ=>BR xs hn hJ
def S8(rf:Qc):=(List.map ZF rf.Qa)
def mb(rf:Qc):Value:=(QJ (Lf (S8 rf)) (Qm Xf (S8 rf)))
theorem yd(B:Lo)(rf:Qc)(plan:List Int):QW (Qs YP (Q0 YP) J0 B 6 1 (Qr YP 83 7 (([.agg (QB rf plan).toArray]).map (Qy 0 4))) Za 1
 [(5,Ql.pure (mb rf) [])] 0 [] []) []=some (QJ (Lf (S8 rf)) (Qm Xf (S8 rf)),
 [Qw []/\Qx YP J0 102 #[QJ rf.Qa.length (Qm Qf rf.Qa),Value.func (Fn.func 104) #[] #[]] (mb rf)]):=by kernel_rfl
set_option maxHeartbeats 4000000 in
theorem Bj(rf:Qc)(plan:List Int)(hn:rf.Qa.length<=1000000){B:Lo}(hJ:∀w,B.has w->J0 w):EndsT YP B (Qr YP 83 7 (([.agg (QB rf plan).toArray]).map (Qy 0 4))) (J4 (rf.Qa.map ZF)):=by
 exact(GoE.endsT okF hJ Qd GoE.start (yd B rf plan)
  ⟨⟨trivial,Gl rf.Qa (by with_reducible assumption)⟩,trivial⟩).cast (by rfl)
theorem FZ(rf:Qc)(plan:List Int)(hn:rf.Qa.length<=1000000):Qx YP J0 83 #[.agg (QB rf plan).toArray] (J4 (rf.Qa.map ZF)):=
 Xn (ts:=[.agg (QB rf plan).toArray]) XQ (c0:=Qr YP 83 7 (([.agg (QB rf plan).toArray]).map (Qy 0 4))) (by kernel_rfl) (by kernel_rfl) fun B hJ=>Bj rf plan hn hJ
def PB(x_:Qe):Array Value:=#[.int .i64 x_.count,.int .i64 x_.room,.int .i64 x_.glo,.int .i64 x_.ghi,.int .i64 x_.QR,.int .i64 x_.XE,.int .i64 x_.JX,.int .i64 x_.JY,.int .i64 x_.Jz,.int .i64 x_.J1,.int .i64 x_.goal,.int .i64 x_.Xz]
def Ut(rf:Qc)(i:Int):=(rf.Qa.getD i.toNat La)
def Uu(rf:Qc)(i:Int):=(Ut rf i)
def gK(rf:Qc)(i:Int):Value:=(.agg #[.int .i64 (Qe.count (Ut rf i)),.int .i64 (Qe.count (Ut rf i)+Lc (Qe.count (Ut rf i)*rf.Qi) 1000)])
def PA(rf:Qc)(i:Int):=(Qe.count (Uu rf i)*rf.Qi)
def gJ(rf:Qc)(i:Int)(ys:List Span):Array Value:=(Qm Xf (List.set ys i.toNat {lo:=Qe.count (Ut rf i),hi:=Qe.count (Ut rf i)+Lc (Qe.count (Ut rf i)*rf.Qi) 1000}))
def P9(rf:Qc):=(List.map (Z8 rf.Qi) rf.Qa)
def uP(rf:Qc):Value:=(Qn 2 (QJ (Lf (P9 rf)) (Qm Xf (P9 rf))))
def gI(rf:Qc)(i:Int):Value:=(.agg #[.int .i64 (Qe.count (Uu rf i)),.int .i64 (Qe.count (Uu rf i)+Lc (PA rf i) 1000)])
def gH(rf:Qc):Array Value:=(Qm (Kf [.int .i64 0,.int .i64 0]) (Lq rf.Qa.length ()))
def gG(rf:Qc)(i:Int)(ys:List Span):Array Value:=(Qm Xf (List.set ys i.toNat {lo:=Qe.count (Uu rf i),hi:=Qe.count (Uu rf i)+Lc (PA rf i) 1000}))
def dg(rf:Qc):Array Value:=(Qm Xf (Lq rf.Qa.length {lo:=0,hi:=0}))
def Wh(rf:Qc)(plan:List Int):Qj:=[(1,Obj.cells #[Qn 0 (QJ rf.Qa.length (Qm Qf rf.Qa)),.int .i64 rf.Qi,.int .i64 rf.Qb,.int .i64 (plan.getD 0 0),.int .i64 (plan.getD 1 0),.int .i64 (plan.getD 2 0),.int .i64 (plan.getD 3 0)] 84),(0,Obj.coro none)]
def Kh(rf:Qc)(plan:List Int):CF:=⟨102,ofList 26 [Qn 0 (QJ rf.Qa.length (Qm Qf rf.Qa)),Value.func (Fn.func 103) #[] #[pA 1 0]],[Item.code (Q9 YP 102)],[],.run,none⟩
def VY(rf:Qc)(plan:List Int)(i:Int)(ys:List Span):List Value:=[Value.func (Fn.func 103) #[] #[pA 1 0],.slice (some {block:=3,off:=0}) rf.Qa.length 2,Qn 0 (QJ rf.Qa.length (Qm Qf rf.Qa)),.int .i64 (↑rf.Qa.length:Int),.int .i64 i]
def VX(rf:Qc)(plan:List Int)(i:Int)(ys:List Span):List Obj:=[]
def WT(rf:Qc)(plan:List Int)(i:Int)(ys:List Span):List Obj:=[.cells (Qm Xf ys) 38 (0,0)]
def VZ:List Item:=([.code [1,1,0,1,0,0],.inLoop [1,1,0,1,0,0],.inBlock 0,.code [1,1,1]]).map (it (Q9 YP 102))
def Y1(rf:Qc)(plan:List Int)(i:Int)(ys:List Span)(Qt:Nat->Value):Qj:=[(4,Obj.cells (PB (rf.Qa.getD i.toNat La)) 54),(2,Obj.coro none),(3,Obj.cells (Qm Xf ys) 38),(1,Obj.cells #[Qn 0 (QJ rf.Qa.length (Qm Qf rf.Qa)),.int .i64 rf.Qi,.int .i64 rf.Qb,.int .i64 (plan.getD 0 0),.int .i64 (plan.getD 1 0),.int .i64 (plan.getD 2 0),.int .i64 (plan.getD 3 0)] 84),(0,Obj.coro none)]
def PC(rf:Qc)(plan:List Int)(i:Int)(ys:List Span)(Qt:Nat->Value):CF:=⟨103,ofList 13 [.agg (PB (rf.Qa.getD i.toNat La)),pA 1 0],[Item.code (Q9 YP 103)],[],.run,none⟩
theorem uT(B:Lo)(rf:Qc)(plan:List Int)(i:Int)(ys:List Span)(Qt:Nat->Value):let a:=rf.Qa.getD i.toNat La;CE.finK 5 (Qs YP (Q0 YP) J0 B 6 5 (PC rf plan i ys Qt) (Y1 rf plan i ys Qt) 5
 [(9,Ql.pure (.int .i64 (Qe.count (Uu rf i)+Lc (PA rf i) 1000)) [])] 0 [] []) [] [] []=some (OO.ret (gI rf i),[],[],
 [Qw []/\Qx YP J0 100 #[.int .i64 a.count,.int .i64 rf.Qi] (.int .i64 (a.count+Lc (a.count*rf.Qi) 1000))]):=by intro a;kernel_rfl
theorem uS(B:Lo)(rf:Qc)(plan:List Int)(i:Int)(ys:List Span)(Qt:Nat->Value):let f:=WT rf plan i ys;let e:=Uu rf i;let d:=Lb i;let c:=rf.Qa;let b:=c.getD d La;let a:=List.set ys d {lo:=e.count,hi:=e.count+Lc (PA rf i) 1000};CE.landA 2 (Qs YP (Q0 YP) J0 B 13 2 (X9 (none) 102 26 (([1,5,11,12,13]:List Nat).zip (VY rf plan i ys)) Qt VZ) (Xs (Wh rf plan) 2 (([]:List Nat).zip (VX rf plan i ys)) f) (2+1+f.length)
 [(0,VT),(2,Ql.tidx d (PB e)),(11,Ql.call (Ld 5) (OO.ret (gI rf i)) ([]++(5,QM)::QD 6 []) 6 []),(12,Ql.WJ (Hint.idx d)),(13,Ql.WJ (Hint.st (gG rf i ys))),(14,VU (i+1))] 0 [] []) [1,5,11,12,13] [] [(3,KS.cells [] (gG rf i ys))] []=some ⟨102,26,VZ,[],.run,none,VY rf plan (i+1) a,([]:List Nat).zip (VX rf plan (i+1) a),WT rf plan (i+1) a,
 [Ks 2 [] (gJ rf i ys) (gJ rf i ys),wq (i+1)=i+1,0+Lb i*2+TypeInfo.size Try.t38<=Array.size (Qm Xf ys)/\splice (Qm Xf ys) (0+Lb i*2) (Value.cells (Xm {len:=16000,tr:=Tri.set 14 (Tri.set 14 Tri.lf 22 (gK rf i)) 23 (.pointer (some {block:=3,off:=0+Lb i*2}))} 22))=Qm Xf (List.set ys d {lo:=b.count,hi:=b.count+Lc (b.count*rf.Qi) 1000}),i=(↑d:Int)/\Lb i<Lf c,FJ YP B (PC rf plan i ys Qt) (Y1 rf plan i ys Qt) 5 (OO.ret (gK rf i)) (([]++((5,QM)::QD (5+1) []))++Y1 rf plan i ys Qt) 6 (Ld 5) [],eJ i c.length (Qm Qf c) Try.t54.size (PB b),Zm i (↑c.length:Int)=true]⟩:=by intro f e d c b a;kernel_rfl
theorem uR(B:Lo)(rf:Qc)(plan:List Int)(i:Int)(ys:List Span)(Qt:Nat->Value):let c:=WT rf plan i ys;let b:=Lf rf.Qa;let a:=Fz.cs {k:=3,rs:=[],cs:=Qm Xf ys};CE.finK 2 (Qs YP (Q0 YP) J0 B 9 2 (X9 (none) 102 26 (([1,5,11,12,13]:List Nat).zip (VY rf plan i ys)) Qt VZ) (Xs (Wh rf plan) 2 (([]:List Nat).zip (VX rf plan i ys)) c) (2+1+c.length)
 [(0,VI)] 0 [] []) [] [] [{k:=3,rs:=[],cs:=Qm Xf ys}]=some (OO.ret (Qn 2 (QJ b a)),[],[],
 [Z7 (Fz.rs {k:=3,rs:=[],cs:=Qm Xf ys}) (Qm Xf ys) a,Zm i (↑b:Int)=false]):=by intro c b a;kernel_rfl
set_option maxHeartbeats 4000000 in
theorem lx(rf:Qc)(plan:List Int)(hn:rf.Qa.length<=1000000)(hm:0<=rf.Qi/\rf.Qi<=2000)(hc:∀k:Int,0<=k->k<rf.Qa.length->0<=(rf.Qa.getD k.toNat La).count/\(rf.Qa.getD k.toNat La).count<=1000000){B:Lo}(hJ:∀w,B.has w->J0 w):∀m:Nat,(∀(i:Int) (ys:List Span),(rf.Qa.length-i.toNat)=m->∀(h0:0<=i) (hy:ys=Ji (Z8 rf.Qi) ⟨0,0⟩ rf.Qa i),(∃Qt:Nat->Value,(∀t,X0 (Qt t))/\GoE YP B (Kh rf plan) (Wh rf plan) 2 (X9 (none) 102 26 (([1,5,11,12,13]:List Nat).zip (VY rf plan i ys)) Qt VZ) (Xs (Wh rf plan) 2 (([]:List Nat).zip (VX rf plan i ys)) (WT rf plan i ys)) (2+1+(WT rf plan i ys).length) ([]:List Nat))->FinK YP B (Kh rf plan) (Wh rf plan) 2 (.ret (Qn 2 (J4 (rf.Qa.map (Z8 rf.Qi))))) (([]:List Nat).zip ([])) ([]) ([]:List Nat)):=by
 intro m0;induction m0 using LA with
 |_ m0 ih0=>
  intro i ys hm0 h0 hy ⟨Qt,KF,XW⟩;have hyl:ys.length=rf.Qa.length:=by rw[hy];exact Ph
  by_cases q0:(i:Int)<((↑rf.Qa.length:Int))
  ·have rj1:FJ YP B (PC rf plan i ys Qt) (Y1 rf plan i ys Qt) 5 (OO.ret (.agg #[.int .i64 (Qe.count (rf.Qa.getD i.toNat La)),.int .i64 (Qe.count (rf.Qa.getD i.toNat La)+Lc (Qe.count (rf.Qa.getD i.toNat La)*rf.Qi) 1000)])) (([]++((5,QM)::QD (5+1) []))++Y1 rf plan i ys Qt) 6 (Ld 5) []:=by
    have hc1:=hc i h0 q0;exact FinK.fjB (GoE.finK okF hJ Qd (Qk (by kernel_rfl)) (Qg (by kernel_rfl)) ((GoE.refl (P:=YP) (B:=B) (c0:=PC rf plan i ys Qt) (Qk (by kernel_rfl))).widen (Wf:=((([]):List (Nat×KS)).map (·.1))) (by simp) (Qg (by kernel_rfl))) (uT B rf plan i ys Qt)
     ⟨⟨trivial,uV (Qe.count (rf.Qa.getD i.toNat La)) rf.Qi (by omega) (by omega)⟩,trivial⟩) (ex:=[3]) (by kernel_rfl) ⟨trivial,⟨trivial,⟨(YC (t:=38) (fl:=(0,0)) (fun x=>List.all_eq_true.1 (by rfl))),⟨trivial,⟨trivial,trivial⟩⟩⟩⟩⟩
   have hc1:=hc i h0 q0;exact((ih0 _ (by omega)) (i+1) (List.set ys i.toNat {lo:=Qe.count (rf.Qa.getD i.toNat La),hi:=Qe.count (rf.Qa.getD i.toNat La)+Lc (Qe.count (rf.Qa.getD i.toNat La)*rf.Qi) 1000}) rfl (by omega) (by(subst hy;exact Pg (f:=Z8 rf.Qi) h0 q0))
    (GoE.landA okF hJ Qd (Qk (by kernel_rfl)) (Qg (by kernel_rfl)) XW (uS B rf plan i ys Qt)
    (by exact⟨(XP (XK (fun x=>List.all_eq_true.1 (by rfl)))),⟨(Xq (by omega) (by omega)),⟨(by exact J6 (z:=2) (k:=Lb i) (fun _=>rfl) (by first|omega|(rw[List.length_set];omega)|(rw[List.length_replicate];omega)) rfl rfl),⟨⟨by omega,by omega⟩,⟨rj1,⟨⟨by omega,by omega,(QT (z:=12) (fun _=>rfl) (by omega))⟩,⟨(XY q0),trivial⟩⟩⟩⟩⟩⟩⟩) (by kernel_rfl) (by kernel_rfl) (fun l hl=>by cases hl <;> decide))).cast (by rfl) (by rfl) (by rfl)
  ·exact(GoE.finK okF hJ Qd (Qk (by kernel_rfl)) (Qg (by kernel_rfl)) XW (uR B rf plan i ys Qt)
    ⟨(U2 (fun x=>List.all_eq_true.1 (by rfl))),⟨(XZ (Int.not_lt.1 q0)),trivial⟩⟩).cast (by exact congrArg (fun v=>OO.ret (Qn _ v)) (Sv (hy.trans (Pj (by omega))) (by simp))) (by rfl) (by rfl)

theorem uU(B:Lo)(rf:Qc)(plan:List Int):let a:=Lf rf.Qa;let c:=Lq a {lo:=0,hi:=0};let b:=Xm {len:=16000,tr:=Tri.set 14 Tri.lf 9 (.int .i64 (↑a:Int))} 9;CE.landA 2 (Qs YP (Q0 YP) J0 B 9 2 (Kh rf plan) (Wh rf plan) 2
 [(3,Ql.WJ (Hint.mk a (gH rf)))] 0 [] []) [1,5,11,12,13] [] [(2,KS.rows [] [] [] (dg rf))] []=some ⟨102,26,VZ,[],.run,none,VY rf plan (0) c,([]:List Nat).zip (VX rf plan (0) c),WT rf plan (0) c,
 [Jy 2 [] [] [] (gH rf) (dg rf),Rf YP 36 b b=some (38,Qm (Kf [.int .i64 0,.int .i64 0]) (Lq a ()),Lf rf.Qa,TypeInfo.size Try.t38)]⟩:=by intro a c b;kernel_rfl
theorem uQ(B:Lo)(rf:Qc)(plan:List Int):let a:=OO.ret (uP rf);QW (Qs YP (Q0 YP) J0 B 6 1 (Qr YP 82 8 (([.agg (QB rf plan).toArray]).map (Qy 0 4))) Za 1
 [(6,Ql.call (Ld 2) a ([]++(2,QM)::QD 3 []) 3 [])] 0 [] []) []=some (QJ (Lf (P9 rf)) (Qm Xf (P9 rf)),
 [FJ YP B (Kh rf plan) (Wh rf plan) 2 a (([]++((2,QM)::QD (2+1) []))++Wh rf plan) 3 (Ld 2) []]):=by intro a;kernel_rfl
set_option maxHeartbeats 4000000 in
theorem xX(rf:Qc)(plan:List Int)(hn:rf.Qa.length<=1000000)(hm:0<=rf.Qi/\rf.Qi<=2000)(hc:∀k:Int,0<=k->k<rf.Qa.length->0<=(rf.Qa.getD k.toNat La).count/\(rf.Qa.getD k.toNat La).count<=1000000){B:Lo}(hJ:∀w,B.has w->J0 w):EndsT YP B (Qr YP 82 8 (([.agg (QB rf plan).toArray]).map (Qy 0 4))) (J4 (rf.Qa.map (Z8 rf.Qi))):=by
 have rj0:FJ YP B (Kh rf plan) (Wh rf plan) 2 (OO.ret (Qn 2 (QJ (Lf (List.map (Z8 rf.Qi) rf.Qa)) (Qm Xf (List.map (Z8 rf.Qi) rf.Qa))))) (([]++((2,QM)::QD (2+1) []))++Wh rf plan) 3 (Ld 2) []:=by
  exact FinK.fjB ((lx rf plan hn hm hc hJ _) (0) (Lq rf.Qa.length {lo:=0,hi:=0}) rfl (by omega) (by exact bK)
   (GoE.landA okF hJ Qd (Qk (by kernel_rfl)) (Qg (by kernel_rfl)) ((GoE.refl (P:=YP) (B:=B) (c0:=Kh rf plan) (Qk (by kernel_rfl))).widen (Wf:=((([]):List (Nat×KS)).map (·.1))) (by simp) (Qg (by kernel_rfl))) (uU B rf plan)
   ⟨(by exact(UF (by exact⟨(.simple rfl),⟨(.simple rfl),trivial⟩⟩) _)),⟨(kV (bytes:=16) (by kernel_rfl) (by omega) (by omega) (by omega)),trivial⟩⟩ (by kernel_rfl) (by kernel_rfl) (fun l hl=>by cases hl <;> decide))) (ex:=[]) (by kernel_rfl) (XD _)
 exact(GoE.endsT okF hJ Qd GoE.start (uQ B rf plan)
  ⟨rj0,trivial⟩).cast (by rfl)
theorem DS(rf:Qc)(plan:List Int)(hn:rf.Qa.length<=1000000)(hm:0<=rf.Qi/\rf.Qi<=2000)(hc:∀k:Int,0<=k->k<rf.Qa.length->0<=(rf.Qa.getD k.toNat La).count/\(rf.Qa.getD k.toNat La).count<=1000000):Qx YP J0 82 #[.agg (QB rf plan).toArray] (J4 (rf.Qa.map (Z8 rf.Qi))):=
 Xn (ts:=[.agg (QB rf plan).toArray]) XQ (c0:=Qr YP 82 8 (([.agg (QB rf plan).toArray]).map (Qy 0 4))) (by kernel_rfl) (by kernel_rfl) fun B hJ=>xX rf plan hn hm hc hJ
end
end Go.Proofs.Ytncjjangllkokaa

