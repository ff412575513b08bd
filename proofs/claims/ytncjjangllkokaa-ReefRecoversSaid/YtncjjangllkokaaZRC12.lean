/- Reef: what is as defined. -/
import Derived.Test.YtncjjangllkokaaZRC11
set_option linter.all false
open Nat renaming strongRecOn->No,min->Nw
open List renaming length_set->Ny,length_replicate->Nv,length->MO,set->Np,replicate->MT,range->MP
open Int renaming tdiv->MN,tdiv_eq_ediv_of_nonneg->ND,toNat->MM
open Array renaming extract->Nu
open Inhabited renaming default->ML
namespace Go.Proofs.Ytncjjangllkokaa
open Go Go.CE Go.RowKit
noncomputable section
set_option maxRecDepth 100000
structure Qd where
 count:Int
 room:Int
 WO:Int
 Sa:Int
 QM:Int
 XM:Int
 K3:Int
 ZT:Int
 UI:Int
 ZD:Int
 goal:Int
 Vh:Int
deriving Inhabited
structure Qe where
 Qa:List Qd
 Qk:Int
 Qc:Int
deriving Inhabited
structure Qn where
 starts:List Int
 grows:List (List Int)
 takes:List (List Int)
deriving Inhabited
def Qj(c:Qd):List Value:=[.int .i64 c.count,.int .i64 c.room,.int .i64 c.WO,.int .i64 c.Sa,.int .i64 c.QM,.int .i64 c.XM,.int .i64 c.K3,.int .i64 c.ZT,.int .i64 c.UI,.int .i64 c.ZD,.int .i64 c.goal,.int .i64 c.Vh]
abbrev Kj(xs:List Qd):Value:=QJ xs.length (Qg Qj xs)
def Q1(r:Qe):List Value:=[Kj r.Qa,.int .i64 r.Qk,.int .i64 r.Qc]
def Zv(x:Qd):Bool:=WK x.count 0 1000000 && (WK x.room 0 1000000 && (WK x.goal 0 1000000 && (WK x.Vh 0 1000000 && (Zg x.WO x.Sa 0 2000 && (WK x.QM 0 1000 && (Zg x.K3 x.ZT 0 1000000 && (Zg x.UI x.ZD 0 1000000 && (decide (x.UI<=x.K3) && decide (x.ZD<=x.ZT)))))))))
def YN(n v:Int):Bool:=decide (v= -1) || WK v 0 (n-1)
theorem H7{n v:Int}(h:0<=n):WK v (-1) (n-1)=YN n v:=by
 unfold YN WK;by_cases e:v= -1
 ·subst e;simp;omega
 ·simp[e];by_cases h1:0<=v
  ·simp[h1];omega
  ·have:¬(-1<=v):=by omega
   simp[this,h1]
def ZZ(n i:Int)(x:Qd):Bool:=Zv x && (YN n x.XM && !decide (x.XM=i))
def Pr(ps:List Qd)(i:Int):Bool:=(aj i ps.length).all fun k=>ZZ ps.length k (ps.getD k.toNat ML)
def J8(r:Qe):Bool:=WK r.Qa.length 1 4 && (WK r.Qk 0 2000 && WK r.Qc 1 4)
def Qy(r:Qe):Bool:=J8 r && Pr r.Qa 0
def QQ(r:Qe)(Qb:List Int):Bool:=decide (Qb.length=r.Qc) && Qb.all fun x=>WK x 0 (((Vd r.Qa.length:Nat):Int)-1)
theorem Xk{ps:List Qd}{i:Int}(h:i<ps.length):Pr ps i=(ZZ ps.length i (ps.getD i.toNat ML) && Pr ps (i+1)):=by
 unfold Pr;rw[jH h,List.all_cons]
theorem Uo{ps:List Qd}{i:Int}(h:ps.length<=i):Pr ps i=true:=by
 unfold Pr;rw[jd h];rfl
theorem Za{x:Qd}(h:Zv x=true):(0<=x.count/\x.count<=1000000)/\(0<=x.room/\x.room<=1000000)/\(0<=x.goal/\x.goal<=1000000)/\(0<=x.Vh/\x.Vh<=1000000)/\(0<=x.WO/\x.WO<=x.Sa/\x.Sa<=2000)/\(0<=x.QM/\x.QM<=1000)/\(0<=x.K3/\x.K3<=x.ZT/\x.ZT<=1000000)/\(0<=x.UI/\x.UI<=x.ZD/\x.ZD<=1000000)/\x.UI<=x.K3/\x.ZD<=x.ZT:=by
 simp only[Zv,YB,P0,pc,decide_eq_true_iff]at h;omega
theorem Q6{r:Qe}(h:J8 r=true):(1<=r.Qa.length/\r.Qa.length<=4)/\(0<=r.Qk/\r.Qk<=2000)/\(1<=r.Qc/\r.Qc<=4):=by
 simp only[J8,YB,P0]at h;omega
theorem QD{r:Qe}(h:Qy r=true):J8 r=true/\∀k:Int,0<=k->k<r.Qa.length->Zv (r.Qa.getD k.toNat ML)=true/\YN r.Qa.length (r.Qa.getD k.toNat ML).XM=true/\(r.Qa.getD k.toNat ML).XM≠k:=by
 simp only[Qy,YB]at h;refine⟨h.1,fun k h0 h1=> ?_⟩;have:=j7 h.2 h0 h1;simp only[ZZ,YB,Bool.not_eq_true',decide_eq_false_iff_not]at this;exact⟨this.1,this.2.1,this.2.2⟩
def fw(x:Qd):Bool:=WK x.count 0 1000000 && (WK x.room 0 1000000 && (WK x.goal 0 1000000 && (WK x.Vh 0 1000000 && (Zg x.WO x.Sa 0 2000 && (WK x.QM 0 1000 && (Zg x.K3 x.ZT 0 1000000 && Zg x.UI x.ZD 0 1000000))))))
def ZE(r:Qe):Bool:=J8 r && (aj 0 r.Qa.length).all fun k=>fw (r.Qa.getD k.toNat ML) && (YN r.Qa.length (r.Qa.getD k.toNat ML).XM && !decide ((r.Qa.getD k.toNat ML).XM=k))
theorem GO{x:Qd}(h:Zv x=true):fw x=true:=by
 simp only[Zv,fw,YB]at h ⊢;exact⟨h.1,h.2.1,h.2.2.1,h.2.2.2.1,h.2.2.2.2.1,h.2.2.2.2.2.1,h.2.2.2.2.2.2.1,h.2.2.2.2.2.2.2.1⟩
theorem QC{r:Qe}(h:Qy r=true):ZE r=true:=by
 obtain⟨h1,h2⟩:=QD h;unfold ZE;rw[YB];refine⟨h1,List.all_eq_true.2 fun k hk=> ?_⟩;unfold aj at hk;obtain⟨m,hm,rfl⟩:=List.mem_map.1 hk;have hm':=List.mem_range.1 hm;have:=h2 (0+(m:Int)) (by omega) (by omega);simp only[YB,Bool.not_eq_true',decide_eq_false_iff_not];exact⟨GO this.1,this.2.1,this.2.2⟩
theorem XG{x:Qd}(h:fw x=true):(0<=x.count/\x.count<=1000000)/\(0<=x.room/\x.room<=1000000)/\(0<=x.goal/\x.goal<=1000000)/\(0<=x.Vh/\x.Vh<=1000000)/\(0<=x.WO/\x.WO<=x.Sa/\x.Sa<=2000)/\(0<=x.QM/\x.QM<=1000)/\(0<=x.K3/\x.K3<=x.ZT/\x.ZT<=1000000)/\(0<=x.UI/\x.UI<=x.ZD/\x.ZD<=1000000)/\True:=by
 simp only[fw,YB,P0,pc]at h;simp only[and_true];omega
theorem QH{r:Qe}(h:ZE r=true):J8 r=true/\∀k:Int,0<=k->k<r.Qa.length->fw (r.Qa.getD k.toNat ML)=true/\YN r.Qa.length (r.Qa.getD k.toNat ML).XM=true/\(r.Qa.getD k.toNat ML).XM≠k:=by
 simp only[ZE,YB]at h;refine⟨h.1,fun k h0 h1=> ?_⟩;have:=j7 h.2 h0 h1;simp only[YB,Bool.not_eq_true',decide_eq_false_iff_not]at this;exact⟨this.1,this.2.1,this.2.2⟩
instance {r:Qe}:Coe (Qy r=true) (ZE r=true):=⟨QC⟩
def gM(x:Qd):Array Value:=#[.agg #[.int .i64 x.K3,.int .i64 x.ZT],.int .i64 1000000]
def gL(x:Qd):Array Value:=#[.agg #[.int .i64 x.UI,.int .i64 x.ZD],.int .i64 1000000]
def gK(x:Qd):Array Value:=#[.agg #[.int .i64 x.WO,.int .i64 x.Sa],.int .i64 2000]
def gJ(x:Qd):Array Value:=#[.int .i64 x.Vh,.int .i64 0,.int .i64 1000000]
def gI(x:Qd):Array Value:=#[.int .i64 x.QM,.int .i64 0,.int .i64 1000]
def TD(B:Lo)(x:Qd):List Prop:=[Q3 []/\Q0 YP J0 95 #[.int .i64 x.count] (.bool true)]++([]:List Prop)
def gW(x:Qd):QB:=[(4,Ql.pure (.bool true) [])]
def TC(B:Lo)(x:Qd):List Prop:=[Q3 []/\Q0 YP J0 95 #[.int .i64 x.room] (.bool true)]++TD B x
def gU(x:Qd):QB:=gW x++[(8,Ql.pure (.bool true) [])]
def TB(B:Lo)(x:Qd):List Prop:=[Q3 []/\Q0 YP J0 95 #[.int .i64 x.goal] (.bool true)]++TC B x
def gT(x:Qd):QB:=gU x++[(13,Ql.pure (.bool true) [])]
def TA(B:Lo)(x:Qd):List Prop:=[Q3 []/\Q0 YP J0 72 (gJ x) (.bool true)]++TB B x
def gS(x:Qd):QB:=gT x++[(18,Ql.pure (.bool true) [])]
def T9(B:Lo)(x:Qd):List Prop:=[Q3 []/\Q0 YP J0 96 (gK x) (.bool true)]++TA B x
def gR(x:Qd):QB:=gS x++[(23,Ql.pure (.bool true) [])]
def T8(B:Lo)(x:Qd):List Prop:=[Q3 []/\Q0 YP J0 72 (gI x) (.bool true)]++T9 B x
def gQ(x:Qd):QB:=gR x++[(28,Ql.pure (.bool true) [])]
def T7(B:Lo)(x:Qd):List Prop:=[Q3 []/\Q0 YP J0 96 (gM x) (.bool true)]++T8 B x
def gP(x:Qd):QB:=gQ x++[(33,Ql.pure (.bool true) [])]
def T6(B:Lo)(x:Qd):List Prop:=[Q3 []/\Q0 YP J0 96 (gL x) (.bool true)]++T7 B x
def gO(x:Qd):QB:=gP x++[(38,Ql.pure (.bool true) [])]
def T5(B:Lo)(x:Qd):List Prop:=[(!Zq x.K3 x.UI)=true]++T6 B x
def gN(x:Qd):QB:=gO x++[(47,WR)]
theorem vj(B:Lo)(x:Qd):Xd (Qu YP (Q8 YP) J0 B 6 1 (Qq YP 73 59 (([.agg (Qj x).toArray]).map (Q5 0 4))) Zn 1
 (gN x++[(56,WR)]) 0 [] []) []=some (.bool true,
 [(!Zq x.ZT x.ZD)=true]++T5 B x):=by kernel_rfl
theorem vi(B:Lo)(x:Qd):Xd (Qu YP (Q8 YP) J0 B 6 1 (Qq YP 73 59 (([.agg (Qj x).toArray]).map (Q5 0 4))) Zn 1
 (gN x++[(56,Vs)]) 0 [] []) []=some (.bool false,
 [(!Zq x.ZT x.ZD)=false]++T5 B x):=by kernel_rfl
theorem vh(B:Lo)(x:Qd):Xd (Qu YP (Q8 YP) J0 B 6 1 (Qq YP 73 59 (([.agg (Qj x).toArray]).map (Q5 0 4))) Zn 1
 (gO x++[(47,Vs)]) 0 [] []) []=some (.bool false,
 [(!Zq x.K3 x.UI)=false]++T6 B x):=by kernel_rfl
theorem vg(B:Lo)(x:Qd):Xd (Qu YP (Q8 YP) J0 B 6 1 (Qq YP 73 59 (([.agg (Qj x).toArray]).map (Q5 0 4))) Zn 1
 (gP x++[(38,Ql.pure (.bool false) [])]) 0 [] []) []=some (.bool false,
 [Q3 []/\Q0 YP J0 96 (gL x) (.bool false)]++T7 B x):=by kernel_rfl
theorem vf(B:Lo)(x:Qd):Xd (Qu YP (Q8 YP) J0 B 6 1 (Qq YP 73 59 (([.agg (Qj x).toArray]).map (Q5 0 4))) Zn 1
 (gQ x++[(33,Ql.pure (.bool false) [])]) 0 [] []) []=some (.bool false,
 [Q3 []/\Q0 YP J0 96 (gM x) (.bool false)]++T8 B x):=by kernel_rfl
theorem vd(B:Lo)(x:Qd):Xd (Qu YP (Q8 YP) J0 B 6 1 (Qq YP 73 59 (([.agg (Qj x).toArray]).map (Q5 0 4))) Zn 1
 (gR x++[(28,Ql.pure (.bool false) [])]) 0 [] []) []=some (.bool false,
 [Q3 []/\Q0 YP J0 72 (gI x) (.bool false)]++T9 B x):=by kernel_rfl
theorem va(B:Lo)(x:Qd):Xd (Qu YP (Q8 YP) J0 B 6 1 (Qq YP 73 59 (([.agg (Qj x).toArray]).map (Q5 0 4))) Zn 1
 (gS x++[(23,Ql.pure (.bool false) [])]) 0 [] []) []=some (.bool false,
 [Q3 []/\Q0 YP J0 96 (gK x) (.bool false)]++TA B x):=by kernel_rfl
theorem uZ(B:Lo)(x:Qd):Xd (Qu YP (Q8 YP) J0 B 6 1 (Qq YP 73 59 (([.agg (Qj x).toArray]).map (Q5 0 4))) Zn 1
 (gT x++[(18,Ql.pure (.bool false) [])]) 0 [] []) []=some (.bool false,
 [Q3 []/\Q0 YP J0 72 (gJ x) (.bool false)]++TB B x):=by kernel_rfl
theorem uY(B:Lo)(x:Qd):Xd (Qu YP (Q8 YP) J0 B 6 1 (Qq YP 73 59 (([.agg (Qj x).toArray]).map (Q5 0 4))) Zn 1
 (gU x++[(13,Ql.pure (.bool false) [])]) 0 [] []) []=some (.bool false,
 [Q3 []/\Q0 YP J0 95 #[.int .i64 x.goal] (.bool false)]++TC B x):=by kernel_rfl
theorem uX(B:Lo)(x:Qd):Xd (Qu YP (Q8 YP) J0 B 6 1 (Qq YP 73 59 (([.agg (Qj x).toArray]).map (Q5 0 4))) Zn 1
 (gW x++[(8,Ql.pure (.bool false) [])]) 0 [] []) []=some (.bool false,
 [Q3 []/\Q0 YP J0 95 #[.int .i64 x.room] (.bool false)]++TD B x):=by kernel_rfl
theorem rL(B:Lo)(x:Qd):Xd (Qu YP (Q8 YP) J0 B 6 1 (Qq YP 73 59 (([.agg (Qj x).toArray]).map (Q5 0 4))) Zn 1
 [(4,Ql.pure (.bool false) [])] 0 [] []) []=some (.bool false,
 [Q3 []/\Q0 YP J0 95 #[.int .i64 x.count] (.bool false)]):=by kernel_rfl
set_option maxHeartbeats 4000000 in
theorem yI(x:Qd)  {B:Lo}(hJ:∀w,B.has w->J0 w):EndsT YP B (Qq YP 73 59 (([.agg (Qj x).toArray]).map (Q5 0 4))) (.bool (Zv x)):=by
 cases q0:WK x.count 0 1000000 with
 |true=>
  have Vb:Q3 (TD B x):=by
   exact⟨⟨trivial,(by have t_:=R9 x.count;rw[q0]at t_;exact t_)⟩,trivial⟩
  cases q1:WK x.room 0 1000000 with
  |true=>
   have PV:Q3 (TC B x):=by
    exact⟨⟨trivial,(by have t_:=R9 x.room;rw[q1]at t_;exact t_)⟩,Vb⟩
   cases q2:WK x.goal 0 1000000 with
   |true=>
    have KY:Q3 (TB B x):=by
     exact⟨⟨trivial,(by have t_:=R9 x.goal;rw[q2]at t_;exact t_)⟩,PV⟩
    cases q3:WK x.Vh 0 1000000 with
    |true=>
     have hp3:Q3 (TA B x):=by
      exact⟨⟨trivial,(by have t_:=tz x.Vh (0) (1000000);rw[q3]at t_;exact t_)⟩,KY⟩
     cases q4:Zg x.WO x.Sa 0 2000 with
     |true=>
      have hp4:Q3 (T9 B x):=by
       exact⟨⟨trivial,(by have t_:=aM x.WO x.Sa (2000);rw[q4]at t_;exact t_)⟩,hp3⟩
      cases q5:WK x.QM 0 1000 with
      |true=>
       have hp5:Q3 (T8 B x):=by
        exact⟨⟨trivial,(by have t_:=tz x.QM (0) (1000);rw[q5]at t_;exact t_)⟩,hp4⟩
       cases q6:Zg x.K3 x.ZT 0 1000000 with
       |true=>
        have hp6:Q3 (T7 B x):=by
         exact⟨⟨trivial,(by have t_:=aM x.K3 x.ZT (1000000);rw[q6]at t_;exact t_)⟩,hp5⟩
        cases q7:Zg x.UI x.ZD 0 1000000 with
        |true=>
         have hp7:Q3 (T6 B x):=by
          exact⟨⟨trivial,(by have t_:=aM x.UI x.ZD (1000000);rw[q7]at t_;exact t_)⟩,hp6⟩
         by_cases q8:(x.UI:Int)<=x.K3
         ·have hp8:Q3 (T5 B x):=by
           exact⟨(Vn q8),hp7⟩
          by_cases q9:(x.ZD:Int)<=x.ZT
          ·exact(GoE.endsT okF hJ Qf GoE.start (vj B x)
            ⟨(Vn q9),hp8⟩).cast (by(simp[Zv, *];done))
          ·exact(GoE.endsT okF hJ Qf GoE.start (vi B x)
            ⟨(UK (Int.not_le.1 q9)),hp8⟩).cast (by(simp[Zv, *];done))
         ·exact(GoE.endsT okF hJ Qf GoE.start (vh B x)
           ⟨(UK (Int.not_le.1 q8)),hp7⟩).cast (by(simp[Zv, *];done))
        |false=>
         exact(GoE.endsT okF hJ Qf GoE.start (vg B x)
          ⟨⟨trivial,(by have t_:=aM x.UI x.ZD (1000000);rw[q7]at t_;exact t_)⟩,hp6⟩).cast (by(simp[Zv, *];done))
       |false=>
        exact(GoE.endsT okF hJ Qf GoE.start (vf B x)
         ⟨⟨trivial,(by have t_:=aM x.K3 x.ZT (1000000);rw[q6]at t_;exact t_)⟩,hp5⟩).cast (by(simp[Zv, *];done))
      |false=>
       exact(GoE.endsT okF hJ Qf GoE.start (vd B x)
        ⟨⟨trivial,(by have t_:=tz x.QM (0) (1000);rw[q5]at t_;exact t_)⟩,hp4⟩).cast (by(simp[Zv, *];done))
     |false=>
      exact(GoE.endsT okF hJ Qf GoE.start (va B x)
       ⟨⟨trivial,(by have t_:=aM x.WO x.Sa (2000);rw[q4]at t_;exact t_)⟩,hp3⟩).cast (by(simp[Zv, *];done))
    |false=>
     exact(GoE.endsT okF hJ Qf GoE.start (uZ B x)
      ⟨⟨trivial,(by have t_:=tz x.Vh (0) (1000000);rw[q3]at t_;exact t_)⟩,KY⟩).cast (by(simp[Zv, *];done))
   |false=>
    exact(GoE.endsT okF hJ Qf GoE.start (uY B x)
     ⟨⟨trivial,(by have t_:=R9 x.goal;rw[q2]at t_;exact t_)⟩,PV⟩).cast (by(simp[Zv, *];done))
  |false=>
   exact(GoE.endsT okF hJ Qf GoE.start (uX B x)
    ⟨⟨trivial,(by have t_:=R9 x.room;rw[q1]at t_;exact t_)⟩,Vb⟩).cast (by(simp[Zv, *];done))
 |false=>
  exact(GoE.endsT okF hJ Qf GoE.start (rL B x)
   ⟨⟨trivial,(by have t_:=R9 x.count;rw[q0]at t_;exact t_)⟩,trivial⟩).cast (by(simp[Zv, *];done))
theorem vk(x:Qd)  :Q0 YP J0 73 #[.agg (Qj x).toArray] (.bool (Zv x)):=
 XD (ts:=[.agg (Qj x).toArray]) Zs (c0:=Qq YP 73 59 (([.agg (Qj x).toArray]).map (Q5 0 4))) (by kernel_rfl) (by kernel_rfl) fun B hJ=>yI x  hJ
def dd(r:Qe)(k:Int):Array Value:=#[.int .i64 k,.int .i64 0,.int .i64 ((↑r.Qa.length:Int)-1)]
def SC(B:Lo)(r:Qe)(k:Int):List Prop:=[wq ((↑r.Qa.length:Int)-1)=(↑r.Qa.length:Int)-1]++([]:List Prop)
def de(r:Qe)(k:Int):QB:=[(6,U2 ((↑r.Qa.length:Int)-1))]
theorem rN(B:Lo)(r:Qe)(k:Int):Xd (Qu YP (Q8 YP) J0 B 6 1 (Qq YP 70 11 (([.agg (Q1 r).toArray,.int .i64 k]).map (Q5 0 4))) Zn 1
 (de r k++[(7,Ql.pure (.bool true) [])]) 0 [] []) []=some (.bool true,
 [Q3 []/\Q0 YP J0 72 (dd r k) (.bool true)]++SC B r k):=by kernel_rfl
theorem rM(B:Lo)(r:Qe)(k:Int):Xd (Qu YP (Q8 YP) J0 B 6 1 (Qq YP 70 11 (([.agg (Q1 r).toArray,.int .i64 k]).map (Q5 0 4))) Zn 1
 (de r k++[(7,Ql.pure (.bool false) [])]) 0 [] []) []=some (.bool false,
 [Q3 []/\Q0 YP J0 72 (dd r k) (.bool false)]++SC B r k):=by kernel_rfl
set_option maxHeartbeats 4000000 in
theorem vl(r:Qe)(k:Int)  (XB:r.Qa.length<=9223372036854775807){B:Lo}(hJ:∀w,B.has w->J0 w):EndsT YP B (Qq YP 70 11 (([.agg (Q1 r).toArray,.int .i64 k]).map (Q5 0 4))) (.bool (WK k 0 (r.Qa.length-1))):=by
 have Vb:Q3 (SC B r k):=by
  exact⟨(XH (by omega) (by omega)),trivial⟩
 cases q0:WK k 0 ((↑r.Qa.length:Int)-1)with
 |true=>
  exact(GoE.endsT okF hJ Qf GoE.start (rN B r k)
   ⟨⟨trivial,(by have t_:=tz (k) (0) ((↑r.Qa.length:Int)-1);rw[q0]at t_;exact t_)⟩,Vb⟩).cast (by rfl)
 |false=>
  exact(GoE.endsT okF hJ Qf GoE.start (rM B r k)
   ⟨⟨trivial,(by have t_:=tz (k) (0) ((↑r.Qa.length:Int)-1);rw[q0]at t_;exact t_)⟩,Vb⟩).cast (by rfl)
theorem pZ(r:Qe)(k:Int)  :Q0 YP J0 70 #[.agg (Q1 r).toArray,.int .i64 k] (.bool (WK k 0 (r.Qa.length-1))):=
 Vk (ts:=[.agg (Q1 r).toArray,.int .i64 k]) (r.Qa.length<=9223372036854775807) (fun _ _ ht=>ht.ln2 (i:=0) (j:=0) rfl rfl) Zs (c0:=Qq YP 70 11 (([.agg (Q1 r).toArray,.int .i64 k]).map (Q5 0 4))) (by kernel_rfl) (by kernel_rfl) fun XB B hJ=>vl r k  XB hJ
def SB(x_:Qd):Array Value:=#[.int .i64 x_.count,.int .i64 x_.room,.int .i64 x_.WO,.int .i64 x_.Sa,.int .i64 x_.QM,.int .i64 x_.XM,.int .i64 x_.K3,.int .i64 x_.ZT,.int .i64 x_.UI,.int .i64 x_.ZD,.int .i64 x_.goal,.int .i64 x_.Vh]
def lh(r:Qe)(i:Int):Array Value:=#[.agg #[QJ r.Qa.length (Qg Qj r.Qa),.int .i64 r.Qk,.int .i64 r.Qc],.int .i64 (Qd.XM (r.Qa.getD i.toNat ML))]
def kZ(r:Qe):Array Value:=#[.int .i64 (↑r.Qa.length:Int),.int .i64 1,.int .i64 4]
def kY(r:Qe):Array Value:=#[.int .i64 r.Qk,.int .i64 0,.int .i64 2000]
def kX(r:Qe):Array Value:=#[.int .i64 r.Qc,.int .i64 1,.int .i64 4]
def WI(r:Qe)(i:Int):List Value:=[pA 2 0,Qv 1 (QJ r.Qa.length (Qg Qj r.Qa)),.int .i64 (↑r.Qa.length:Int),.int .i64 i]
def Zd(r:Qe)(i:Int):List Obj:=[Obj.cells #[Qv 1 (QJ r.Qa.length (Qg Qj r.Qa)),.int .i64 r.Qk,.int .i64 r.Qc] 24]
def WJ:List Item:=([.code [1,1,0,1,0,0],.inLoop [1,1,0,1,0,0],.inBlock 0,.code [1,1,1]]).map (it (Xf YP 50))
def yE(B:Lo)(c0:CF)(r:Qe)(i:Int):Prop:=∃dJ:Nat->Value,(∀t,XP (dJ t))/\GoE YP B c0 Zn 1 (QO 50 52 (([1,23,24,25]:List Nat).zip (WI r i)) dJ WJ) (QN (Zd r i)) (2+(Zd r i).length) []
def bK(B:Lo)(r:Qe)(i:Int)(Qt:Nat->Value):List Prop:=[Ug i r.Qa.length (Qg Qj r.Qa) Try.t54.size (SB (r.Qa.getD i.toNat ML)),Zq i (↑r.Qa.length:Int)=true]++([]:List Prop)
def lu(r:Qe)(i:Int)(Qt:Nat->Value):QB:=[(0,WR),(2,Ql.tidx i.toNat (SB (r.Qa.getD i.toNat ML)))]
def bJ(B:Lo)(r:Qe)(i:Int)(Qt:Nat->Value):List Prop:=[Q3 []/\Q0 YP J0 73 #[.agg (SB (r.Qa.getD i.toNat ML))] (.bool true)]++bK B r i Qt
def lr(r:Qe)(i:Int)(Qt:Nat->Value):QB:=lu r i Qt++[(8,Ql.pure (.bool true) [])]
def bI(B:Lo)(r:Qe)(i:Int)(Qt:Nat->Value):List Prop:=[(!YI (Qd.XM (r.Qa.getD i.toNat ML)) (-1))=true]++bJ B r i Qt
def lq(r:Qe)(i:Int)(Qt:Nat->Value):QB:=lr r i Qt++[(13,WR)]
def bH(B:Lo)(r:Qe)(i:Int)(Qt:Nat->Value):List Prop:=[Q3 []/\Q0 YP J0 70 (lh r i) (.bool true)]++bI B r i Qt
def lp(r:Qe)(i:Int)(Qt:Nat->Value):QB:=lq r i Qt++[(18,Ql.pure (.bool true) [])]
theorem yC(B:Lo)(r:Qe)(i:Int)(Qt:Nat->Value):Xd (Qu YP (Q8 YP) J0 B 16 1 (QO 50 52 (([1,23,24,25]:List Nat).zip (WI r i)) Qt WJ) (QN (Zd r i)) (2+(Zd r i).length)
 (lp r i Qt++[(26,WR)]) 0 [] []) []=some (.bool false,
 [YI (Qd.XM (r.Qa.getD i.toNat ML)) i=true]++bH B r i Qt):=by kernel_rfl
theorem yB(B:Lo)(r:Qe)(i:Int)(Qt:Nat->Value):landM (Qu YP (Q8 YP) J0 B 16 1 (QO 50 52 (([1,23,24,25]:List Nat).zip (WI r i)) Qt WJ) (QN (Zd r i)) (2+(Zd r i).length)
 (lp r i Qt++[(26,Vs),(28,U2 (i+1))]) 0 [] []) [1,23,24,25] [(2,KS.auto)] []=some ⟨50,52,WJ,[],.run,none,WI r (i+1),Zd r (i+1),
 [wq (i+1)=i+1,YI (Qd.XM (r.Qa.getD i.toNat ML)) i=false]++bH B r i Qt⟩:=by kernel_rfl
theorem yA(B:Lo)(r:Qe)(i:Int)(Qt:Nat->Value):Xd (Qu YP (Q8 YP) J0 B 16 1 (QO 50 52 (([1,23,24,25]:List Nat).zip (WI r i)) Qt WJ) (QN (Zd r i)) (2+(Zd r i).length)
 (lq r i Qt++[(18,Ql.pure (.bool false) [])]) 0 [] []) []=some (.bool false,
 [Q3 []/\Q0 YP J0 70 (lh r i) (.bool false)]++bI B r i Qt):=by kernel_rfl
def bG(B:Lo)(r:Qe)(i:Int)(Qt:Nat->Value):List Prop:=[(!YI (Qd.XM (r.Qa.getD i.toNat ML)) (-1))=false]++bJ B r i Qt
def ll(r:Qe)(i:Int)(Qt:Nat->Value):QB:=lr r i Qt++[(13,Vs)]
theorem y9(B:Lo)(r:Qe)(i:Int)(Qt:Nat->Value):Xd (Qu YP (Q8 YP) J0 B 16 1 (QO 50 52 (([1,23,24,25]:List Nat).zip (WI r i)) Qt WJ) (QN (Zd r i)) (2+(Zd r i).length)
 (ll r i Qt++[(26,WR)]) 0 [] []) []=some (.bool false,
 [YI (Qd.XM (r.Qa.getD i.toNat ML)) i=true]++bG B r i Qt):=by kernel_rfl
theorem y8(B:Lo)(r:Qe)(i:Int)(Qt:Nat->Value):landM (Qu YP (Q8 YP) J0 B 16 1 (QO 50 52 (([1,23,24,25]:List Nat).zip (WI r i)) Qt WJ) (QN (Zd r i)) (2+(Zd r i).length)
 (ll r i Qt++[(26,Vs),(28,U2 (i+1))]) 0 [] []) [1,23,24,25] [(2,KS.auto)] []=some ⟨50,52,WJ,[],.run,none,WI r (i+1),Zd r (i+1),
 [wq (i+1)=i+1,YI (Qd.XM (r.Qa.getD i.toNat ML)) i=false]++bG B r i Qt⟩:=by kernel_rfl
theorem y7(B:Lo)(r:Qe)(i:Int)(Qt:Nat->Value):Xd (Qu YP (Q8 YP) J0 B 16 1 (QO 50 52 (([1,23,24,25]:List Nat).zip (WI r i)) Qt WJ) (QN (Zd r i)) (2+(Zd r i).length)
 (lu r i Qt++[(8,Ql.pure (.bool false) [])]) 0 [] []) []=some (.bool false,
 [Q3 []/\Q0 YP J0 73 #[.agg (SB (r.Qa.getD i.toNat ML))] (.bool false)]++bK B r i Qt):=by kernel_rfl
theorem y6(B:Lo)(r:Qe)(i:Int)(Qt:Nat->Value):Xd (Qu YP (Q8 YP) J0 B 9 1 (QO 50 52 (([1,23,24,25]:List Nat).zip (WI r i)) Qt WJ) (QN (Zd r i)) (2+(Zd r i).length)
 [(0,Vs)] 0 [] []) []=some (.bool true,
 [Zq i (↑r.Qa.length:Int)=false]):=by kernel_rfl
def bF(B:Lo)(r:Qe):List Prop:=[Q3 []/\Q0 YP J0 72 (kZ r) (.bool true)]++([]:List Prop)
def lk(r:Qe):QB:=[(5,Ql.pure (.bool true) [])]
def bE(B:Lo)(r:Qe):List Prop:=[Q3 []/\Q0 YP J0 72 (kY r) (.bool true)]++bF B r
def lj(r:Qe):QB:=lk r++[(10,Ql.pure (.bool true) [])]
theorem y5(B:Lo)(r:Qe):landM (Qu YP (Q8 YP) J0 B 12 1 (Qq YP 50 52 (([.agg (Q1 r).toArray]).map (Q5 0 4))) Zn 1
 (lj r++[(16,Ql.pure (.bool true) [])]) 0 [] []) [1,23,24,25] [(1,KS.auto)] []=some ⟨50,52,WJ,[],.run,none,WI r (0),Zd r (0),
 [Q3 []/\Q0 YP J0 72 (kX r) (.bool true)]++bE B r⟩:=by kernel_rfl
theorem y4(B:Lo)(r:Qe):Xd (Qu YP (Q8 YP) J0 B 10 1 (Qq YP 50 52 (([.agg (Q1 r).toArray]).map (Q5 0 4))) Zn 1
 (lj r++[(16,Ql.pure (.bool false) [])]) 0 [] []) []=some (.bool false,
 [Q3 []/\Q0 YP J0 72 (kX r) (.bool false)]++bE B r):=by kernel_rfl
theorem y3(B:Lo)(r:Qe):Xd (Qu YP (Q8 YP) J0 B 10 1 (Qq YP 50 52 (([.agg (Q1 r).toArray]).map (Q5 0 4))) Zn 1
 (lk r++[(10,Ql.pure (.bool false) [])]) 0 [] []) []=some (.bool false,
 [Q3 []/\Q0 YP J0 72 (kY r) (.bool false)]++bF B r):=by kernel_rfl
theorem uW(B:Lo)(r:Qe):Xd (Qu YP (Q8 YP) J0 B 10 1 (Qq YP 50 52 (([.agg (Q1 r).toArray]).map (Q5 0 4))) Zn 1
 [(5,Ql.pure (.bool false) [])] 0 [] []) []=some (.bool false,
 [Q3 []/\Q0 YP J0 72 (kZ r) (.bool false)]):=by kernel_rfl
set_option maxHeartbeats 4000000 in
theorem yD(r:Qe)  (XB:r.Qa.length<=9223372036854775807){B:Lo}(hJ:∀w,B.has w->J0 w){c0:CF}:∀m:Nat,(∀(i:Int),r.Qa.length-i.toNat=m->∀(h0:0<=i),yE B c0 r i->EndsT YP B c0 (.bool (Pr r.Qa i))):=by
 intro m0;induction m0 using No with
 |_ m0 ih0=>
  intro i hm0 h0 ⟨Qt,Kn,Zk⟩;by_cases q0:(i:Int)<((↑r.Qa.length:Int))
  ·have Vb:Q3 (bK B r i Qt):=by
    have s2:=Xk (ps:=r.Qa) q0;exact⟨⟨by omega,by omega,(QA (z:=12) (fun _=>rfl) (by omega))⟩,⟨(Zh q0),trivial⟩⟩
   cases q1:Zv (r.Qa.getD i.toNat ML)with
   |true=>
    have PV:Q3 (bJ B r i Qt):=by
     have s2:=Xk (ps:=r.Qa) q0;exact⟨⟨trivial,(by have t_:=vk (r.Qa.getD i.toNat ML);rw[q1]at t_;exact t_)⟩,Vb⟩
    by_cases q2:(Qd.XM (r.Qa.getD i.toNat ML):Int)≠(-1)
    ·have KY:Q3 (bI B r i Qt):=by
      exact⟨(JO q2),PV⟩
     cases q3:WK (Qd.XM (r.Qa.getD i.toNat ML)) 0 ((↑r.Qa.length:Int)-1)with
     |true=>
      have hp3:Q3 (bH B r i Qt):=by
       have s2:=Xk (ps:=r.Qa) q0;exact⟨⟨trivial,(by have t_:=pZ (r) (Qd.XM (r.Qa.getD i.toNat ML));rw[q3]at t_;exact t_)⟩,KY⟩
      by_cases q4:(Qd.XM (r.Qa.getD i.toNat ML):Int)=(i)
      ·have s2:=Xk (ps:=r.Qa) q0;exact(GoE.endsT okF hJ Qf Zk (yC B r i Qt)
        ⟨(bn q4),hp3⟩).cast (by(rw[s2];simp_all[ZZ,YN];done))
      ·have s2:=Xk (ps:=r.Qa) q0;exact((ih0 _ (by omega)) (i+1) rfl (by omega)
        (Zk.landM okF hJ Qf (yB B r i Qt)
        ⟨(XH (by omega) (by omega)),⟨(bo q4),hp3⟩⟩ (by kernel_rfl) (by kernel_rfl))).cast (by(rw[s2];simp_all[ZZ,YN];done))
     |false=>
      have s2:=Xk (ps:=r.Qa) q0;exact(GoE.endsT okF hJ Qf Zk (yA B r i Qt)
       ⟨⟨trivial,(by have t_:=pZ (r) (Qd.XM (r.Qa.getD i.toNat ML));rw[q3]at t_;exact t_)⟩,KY⟩).cast (by(rw[s2];simp_all[ZZ,YN];done))
    ·have hp4:Q3 (bG B r i Qt):=by
      exact⟨(JP (Decidable.of_not_not q2)),PV⟩
     by_cases q3:(Qd.XM (r.Qa.getD i.toNat ML):Int)=(i)
     ·have s2:=Xk (ps:=r.Qa) q0;have s2:=Uo (ps:=r.Qa) (i:=i) (by omega);exact(GoE.endsT okF hJ Qf Zk (y9 B r i Qt)
       ⟨(bn q3),hp4⟩).cast (by(rw[s2];simp_all[ZZ,YN];done))
     ·have s2:=Xk (ps:=r.Qa) q0;exact((ih0 _ (by omega)) (i+1) rfl (by omega)
       (Zk.landM okF hJ Qf (y8 B r i Qt)
       ⟨(XH (by omega) (by omega)),⟨(bo q3),hp4⟩⟩ (by kernel_rfl) (by kernel_rfl))).cast (by(rw[s2];simp_all[ZZ,YN];done))
   |false=>
    have s2:=Xk (ps:=r.Qa) q0;exact(GoE.endsT okF hJ Qf Zk (y7 B r i Qt)
     ⟨⟨trivial,(by have t_:=vk (r.Qa.getD i.toNat ML);rw[q1]at t_;exact t_)⟩,Vb⟩).cast (by(rw[s2];simp_all[ZZ,YN];done))
  ·have s2:=Uo (ps:=r.Qa) (i:=i) (by omega);exact(GoE.endsT okF hJ Qf Zk (y6 B r i Qt)
    ⟨(Zr (Int.not_lt.1 q0)),trivial⟩).cast (by(rw[s2];done))
set_option maxHeartbeats 4000000 in
theorem Bv(r:Qe)  (XB:r.Qa.length<=9223372036854775807){B:Lo}(hJ:∀w,B.has w->J0 w):EndsT YP B (Qq YP 50 52 (([.agg (Q1 r).toArray]).map (Q5 0 4))) (.bool (Qy r)):=by
 cases q0:WK (↑r.Qa.length:Int) 1 4 with
 |true=>
  have hp5:Q3 (bF B r):=by
   exact⟨⟨trivial,(by have t_:=tz ((↑r.Qa.length:Int)) (1) (4);rw[q0]at t_;exact t_)⟩,trivial⟩
  cases q1:WK r.Qk 0 2000 with
  |true=>
   have hp6:Q3 (bE B r):=by
    exact⟨⟨trivial,(by have t_:=tz r.Qk (0) (2000);rw[q1]at t_;exact t_)⟩,hp5⟩
   cases q2:WK r.Qc 1 4 with
   |true=>
    exact((yD r XB hJ _) (0) rfl (by omega)
     (GoE.start.landM okF hJ Qf (y5 B r)
     ⟨⟨trivial,(by have t_:=tz r.Qc (1) (4);rw[q2]at t_;exact t_)⟩,hp6⟩ (by kernel_rfl) (by kernel_rfl))).cast (by(simp only[Qy,J8];simp[*];done))
   |false=>
    exact(GoE.endsT okF hJ Qf GoE.start (y4 B r)
     ⟨⟨trivial,(by have t_:=tz r.Qc (1) (4);rw[q2]at t_;exact t_)⟩,hp6⟩).cast (by(simp only[Qy,J8];simp[*];done))
  |false=>
   exact(GoE.endsT okF hJ Qf GoE.start (y3 B r)
    ⟨⟨trivial,(by have t_:=tz r.Qk (0) (2000);rw[q1]at t_;exact t_)⟩,hp5⟩).cast (by(simp only[Qy,J8];simp[*];done))
 |false=>
  exact(GoE.endsT okF hJ Qf GoE.start (uW B r)
   ⟨⟨trivial,(by have t_:=tz ((↑r.Qa.length:Int)) (1) (4);rw[q0]at t_;exact t_)⟩,trivial⟩).cast (by(simp only[Qy,J8];simp[*];done))
theorem jh(r:Qe)  :Q0 YP J0 50 #[.agg (Q1 r).toArray] (.bool (Qy r)):=
 Vk (ts:=[.agg (Q1 r).toArray]) (r.Qa.length<=9223372036854775807) (fun _ _ ht=>ht.ln2 (i:=0) (j:=0) rfl rfl) Zs (c0:=Qq YP 50 52 (([.agg (Q1 r).toArray]).map (Q5 0 4))) (by kernel_rfl) (by kernel_rfl) fun XB B hJ=>Bv r  XB hJ
def Z7(r:Qe)(i:Int):List Value:=[pA 2 0,.int .i64 i]
def X6(r:Qe)(i:Int):List Obj:=[Obj.cells #[Qv 1 (QJ r.Qa.length (Qg Qj r.Qa)),.int .i64 r.Qk,.int .i64 r.Qc] 24]
def Z8:List Item:=([.code [1,0,1,0,0],.inLoop [1,0,1,0,0],.inBlock 0,.code [1,1]]).map (it (Xf YP 20))
def D7(B:Lo)(c0:CF)(r:Qe)(i:Int):Prop:=∃dJ:Nat->Value,(∀t,XP (dJ t))/\GoE YP B c0 Zn 1 (QO 20 111 (([1,3]:List Nat).zip (Z7 r i)) dJ Z8) (QN (X6 r i)) (2+(X6 r i).length) []
def Jk(r:Qe)(i:Int):=(r.Qa.getD i.toNat ML)
def JB(r:Qe)(i:Int):=(Jk r i)
def VG(r:Qe)(i:Int):=(JB r i)
def uf(r:Qe)(i:Int):Array Value:=#[.int .i64 (Qd.count (VG r i)),.int .i64 (Qd.room (VG r i)),.int .i64 (Qd.WO (VG r i)),.int .i64 (Qd.Sa (VG r i)),.int .i64 (Qd.QM (VG r i)),.int .i64 (Qd.XM (VG r i)),.int .i64 (Qd.K3 (VG r i)),.int .i64 (Qd.ZT (VG r i)),.int .i64 (Qd.UI (VG r i)),.int .i64 (Qd.ZD (VG r i)),.int .i64 (Qd.goal (VG r i)),.int .i64 (Qd.Vh (VG r i))]
def ue(r:Qe)(i:Int):Array Value:=#[.agg #[.int .i64 (Qd.K3 (JB r i)),.int .i64 (Qd.ZT (JB r i))],.int .i64 1000000]
def ud(r:Qe)(i:Int):Array Value:=#[.agg #[.int .i64 (Qd.UI (JB r i)),.int .i64 (Qd.ZD (JB r i))],.int .i64 1000000]
def uc(r:Qe)(i:Int):Array Value:=#[.agg #[.int .i64 (Qd.WO (JB r i)),.int .i64 (Qd.Sa (JB r i))],.int .i64 2000]
def ub(r:Qe)(i:Int):Array Value:=#[.int .i64 (Qd.XM (Jk r i)),.int .i64 (-1),.int .i64 ((↑r.Qa.length:Int)-1)]
def ua(r:Qe)(i:Int):Array Value:=#[.int .i64 (Qd.count (Jk r i)),.int .i64 0,.int .i64 1000000]
def tZ(r:Qe)(i:Int):Array Value:=#[.int .i64 (Qd.Vh (Jk r i)),.int .i64 0,.int .i64 1000000]
def tY(r:Qe)(i:Int):Array Value:=#[.int .i64 (Qd.room (Jk r i)),.int .i64 0,.int .i64 1000000]
def pC(r:Qe)(i:Int):Array Value:=#[.int .i64 (Qd.goal (Jk r i)),.int .i64 0,.int .i64 1000000]
def pB(r:Qe)(i:Int):Array Value:=#[.int .i64 (Qd.QM (r.Qa.getD i.toNat ML)),.int .i64 0,.int .i64 1000]
def p9(r:Qe):Array Value:=#[.int .i64 (↑r.Qa.length:Int),.int .i64 1,.int .i64 4]
def p8(r:Qe):Array Value:=#[.int .i64 r.Qk,.int .i64 0,.int .i64 2000]
def pz(r:Qe):Array Value:=#[.int .i64 r.Qc,.int .i64 1,.int .i64 4]
def kA(B:Lo)(r:Qe)(i:Int)(Qt:Nat->Value):List Prop:=[Ug i r.Qa.length (Qg Qj r.Qa) Try.t54.size (uf r i),Zq i (↑r.Qa.length:Int)=true]++([]:List Prop)
def uv(r:Qe)(i:Int)(Qt:Nat->Value):QB:=[(4,WR),(8,Ql.tidx i.toNat (uf r i))]
def k9(B:Lo)(r:Qe)(i:Int)(Qt:Nat->Value):List Prop:=[Q3 []/\Q0 YP J0 55 (ua r i) (.bool true)]++kA B r i Qt
def uu(r:Qe)(i:Int)(Qt:Nat->Value):QB:=uv r i Qt++[(14,Ql.pure (.bool true) [])]
def k8(B:Lo)(r:Qe)(i:Int)(Qt:Nat->Value):List Prop:=[Q3 []/\Q0 YP J0 55 (tY r i) (.bool true)]++k9 B r i Qt
def ur(r:Qe)(i:Int)(Qt:Nat->Value):QB:=uu r i Qt++[(19,Ql.pure (.bool true) [])]
def kz(B:Lo)(r:Qe)(i:Int)(Qt:Nat->Value):List Prop:=[Q3 []/\Q0 YP J0 55 (pC r i) (.bool true)]++k8 B r i Qt
def uq(r:Qe)(i:Int)(Qt:Nat->Value):QB:=ur r i Qt++[(25,Ql.pure (.bool true) [])]
def ky(B:Lo)(r:Qe)(i:Int)(Qt:Nat->Value):List Prop:=[Q3 []/\Q0 YP J0 56 (uc r i) (.bool true)]++kz B r i Qt
def uo(r:Qe)(i:Int)(Qt:Nat->Value):QB:=uq r i Qt++[(31,Ql.pure (.bool true) [])]
def kx(B:Lo)(r:Qe)(i:Int)(Qt:Nat->Value):List Prop:=[wq ((↑r.Qa.length:Int)-1)=(↑r.Qa.length:Int)-1,Q3 []/\Q0 YP J0 55 (pB r i) (.bool true)]++ky B r i Qt
def um(r:Qe)(i:Int)(Qt:Nat->Value):QB:=uo r i Qt++[(37,Ql.pure (.bool true) []),(46,U2 ((↑r.Qa.length:Int)-1))]
def ku(B:Lo)(r:Qe)(i:Int)(Qt:Nat->Value):List Prop:=[Q3 []/\Q0 YP J0 55 (ub r i) (.bool true)]++kx B r i Qt
def uk(r:Qe)(i:Int)(Qt:Nat->Value):QB:=um r i Qt++[(47,Ql.pure (.bool true) [])]
theorem D5(B:Lo)(r:Qe)(i:Int)(Qt:Nat->Value):Xd (Qu YP (Q8 YP) J0 B 16 1 (QO 20 111 (([1,3]:List Nat).zip (Z7 r i)) Qt Z8) (QN (X6 r i)) (2+(X6 r i).length)
 (uk r i Qt++[(54,WR)]) 0 [] []) []=some (.bool false,
 [YI (Qd.XM (r.Qa.getD i.toNat ML)) i=true]++ku B r i Qt):=by kernel_rfl
def kq(B:Lo)(r:Qe)(i:Int)(Qt:Nat->Value):List Prop:=[YI (Qd.XM (r.Qa.getD i.toNat ML)) i=false]++ku B r i Qt
def ui(r:Qe)(i:Int)(Qt:Nat->Value):QB:=uk r i Qt++[(54,Vs)]
def kj(B:Lo)(r:Qe)(i:Int)(Qt:Nat->Value):List Prop:=[Q3 []/\Q0 YP J0 56 (ue r i) (.bool true)]++kq B r i Qt
def uh(r:Qe)(i:Int)(Qt:Nat->Value):QB:=ui r i Qt++[(59,Ql.pure (.bool true) [])]
def ki(B:Lo)(r:Qe)(i:Int)(Qt:Nat->Value):List Prop:=[Q3 []/\Q0 YP J0 56 (ud r i) (.bool true)]++kj B r i Qt
def ug(r:Qe)(i:Int)(Qt:Nat->Value):QB:=uh r i Qt++[(65,Ql.pure (.bool true) [])]
theorem D4(B:Lo)(r:Qe)(i:Int)(Qt:Nat->Value):Xd (Qu YP (Q8 YP) J0 B 16 1 (QO 20 111 (([1,3]:List Nat).zip (Z7 r i)) Qt Z8) (QN (X6 r i)) (2+(X6 r i).length)
 (ug r i Qt++[(75,WR)]) 0 [] []) []=some (.bool false,
 [Zq (Qd.K3 (r.Qa.getD i.toNat ML)) (Qd.UI (r.Qa.getD i.toNat ML))=true]++ki B r i Qt):=by kernel_rfl
def eZ(B:Lo)(r:Qe)(i:Int)(Qt:Nat->Value):List Prop:=[Zq (Qd.K3 (r.Qa.getD i.toNat ML)) (Qd.UI (r.Qa.getD i.toNat ML))=false]++ki B r i Qt
def pH(r:Qe)(i:Int)(Qt:Nat->Value):QB:=ug r i Qt++[(75,Vs)]
theorem D3(B:Lo)(r:Qe)(i:Int)(Qt:Nat->Value):Xd (Qu YP (Q8 YP) J0 B 16 1 (QO 20 111 (([1,3]:List Nat).zip (Z7 r i)) Qt Z8) (QN (X6 r i)) (2+(X6 r i).length)
 (pH r i Qt++[(84,WR)]) 0 [] []) []=some (.bool false,
 [Zq (Qd.ZT (r.Qa.getD i.toNat ML)) (Qd.ZD (r.Qa.getD i.toNat ML))=true]++eZ B r i Qt):=by kernel_rfl
def eY(B:Lo)(r:Qe)(i:Int)(Qt:Nat->Value):List Prop:=[Zq (Qd.ZT (r.Qa.getD i.toNat ML)) (Qd.ZD (r.Qa.getD i.toNat ML))=false]++eZ B r i Qt
def pG(r:Qe)(i:Int)(Qt:Nat->Value):QB:=pH r i Qt++[(84,Vs)]
theorem D2(B:Lo)(r:Qe)(i:Int)(Qt:Nat->Value):landM (Qu YP (Q8 YP) J0 B 16 1 (QO 20 111 (([1,3]:List Nat).zip (Z7 r i)) Qt Z8) (QN (X6 r i)) (2+(X6 r i).length)
 (pG r i Qt++[(89,Ql.pure (.bool true) []),(93,U2 (i+1))]) 0 [] []) [1,3] [(2,KS.auto)] []=some ⟨20,111,Z8,[],.run,none,Z7 r (i+1),X6 r (i+1),
 [wq (i+1)=i+1,Q3 []/\Q0 YP J0 55 (tZ r i) (.bool true)]++eY B r i Qt⟩:=by kernel_rfl
theorem D1(B:Lo)(r:Qe)(i:Int)(Qt:Nat->Value):Xd (Qu YP (Q8 YP) J0 B 16 1 (QO 20 111 (([1,3]:List Nat).zip (Z7 r i)) Qt Z8) (QN (X6 r i)) (2+(X6 r i).length)
 (pG r i Qt++[(89,Ql.pure (.bool false) [])]) 0 [] []) []=some (.bool false,
 [Q3 []/\Q0 YP J0 55 (tZ r i) (.bool false)]++eY B r i Qt):=by kernel_rfl
theorem D0(B:Lo)(r:Qe)(i:Int)(Qt:Nat->Value):Xd (Qu YP (Q8 YP) J0 B 16 1 (QO 20 111 (([1,3]:List Nat).zip (Z7 r i)) Qt Z8) (QN (X6 r i)) (2+(X6 r i).length)
 (uh r i Qt++[(65,Ql.pure (.bool false) [])]) 0 [] []) []=some (.bool false,
 [Q3 []/\Q0 YP J0 56 (ud r i) (.bool false)]++kj B r i Qt):=by kernel_rfl
theorem Dz(B:Lo)(r:Qe)(i:Int)(Qt:Nat->Value):Xd (Qu YP (Q8 YP) J0 B 16 1 (QO 20 111 (([1,3]:List Nat).zip (Z7 r i)) Qt Z8) (QN (X6 r i)) (2+(X6 r i).length)
 (ui r i Qt++[(59,Ql.pure (.bool false) [])]) 0 [] []) []=some (.bool false,
 [Q3 []/\Q0 YP J0 56 (ue r i) (.bool false)]++kq B r i Qt):=by kernel_rfl
theorem Dy(B:Lo)(r:Qe)(i:Int)(Qt:Nat->Value):Xd (Qu YP (Q8 YP) J0 B 16 1 (QO 20 111 (([1,3]:List Nat).zip (Z7 r i)) Qt Z8) (QN (X6 r i)) (2+(X6 r i).length)
 (um r i Qt++[(47,Ql.pure (.bool false) [])]) 0 [] []) []=some (.bool false,
 [Q3 []/\Q0 YP J0 55 (ub r i) (.bool false)]++kx B r i Qt):=by kernel_rfl
theorem Dx(B:Lo)(r:Qe)(i:Int)(Qt:Nat->Value):Xd (Qu YP (Q8 YP) J0 B 16 1 (QO 20 111 (([1,3]:List Nat).zip (Z7 r i)) Qt Z8) (QN (X6 r i)) (2+(X6 r i).length)
 (uo r i Qt++[(37,Ql.pure (.bool false) [])]) 0 [] []) []=some (.bool false,
 [Q3 []/\Q0 YP J0 55 (pB r i) (.bool false)]++ky B r i Qt):=by kernel_rfl
theorem Dw(B:Lo)(r:Qe)(i:Int)(Qt:Nat->Value):Xd (Qu YP (Q8 YP) J0 B 16 1 (QO 20 111 (([1,3]:List Nat).zip (Z7 r i)) Qt Z8) (QN (X6 r i)) (2+(X6 r i).length)
 (uq r i Qt++[(31,Ql.pure (.bool false) [])]) 0 [] []) []=some (.bool false,
 [Q3 []/\Q0 YP J0 56 (uc r i) (.bool false)]++kz B r i Qt):=by kernel_rfl
theorem Bc(B:Lo)(r:Qe)(i:Int)(Qt:Nat->Value):Xd (Qu YP (Q8 YP) J0 B 16 1 (QO 20 111 (([1,3]:List Nat).zip (Z7 r i)) Qt Z8) (QN (X6 r i)) (2+(X6 r i).length)
 (ur r i Qt++[(25,Ql.pure (.bool false) [])]) 0 [] []) []=some (.bool false,
 [Q3 []/\Q0 YP J0 55 (pC r i) (.bool false)]++k8 B r i Qt):=by kernel_rfl
theorem Bb(B:Lo)(r:Qe)(i:Int)(Qt:Nat->Value):Xd (Qu YP (Q8 YP) J0 B 16 1 (QO 20 111 (([1,3]:List Nat).zip (Z7 r i)) Qt Z8) (QN (X6 r i)) (2+(X6 r i).length)
 (uu r i Qt++[(19,Ql.pure (.bool false) [])]) 0 [] []) []=some (.bool false,
 [Q3 []/\Q0 YP J0 55 (tY r i) (.bool false)]++k9 B r i Qt):=by kernel_rfl
theorem Ba(B:Lo)(r:Qe)(i:Int)(Qt:Nat->Value):Xd (Qu YP (Q8 YP) J0 B 16 1 (QO 20 111 (([1,3]:List Nat).zip (Z7 r i)) Qt Z8) (QN (X6 r i)) (2+(X6 r i).length)
 (uv r i Qt++[(14,Ql.pure (.bool false) [])]) 0 [] []) []=some (.bool false,
 [Q3 []/\Q0 YP J0 55 (ua r i) (.bool false)]++kA B r i Qt):=by kernel_rfl
def eX(B:Lo)(r:Qe)(i:Int)(Qt:Nat->Value):List Prop:=[Zq i (↑r.Qa.length:Int)=false]++([]:List Prop)
def pF(r:Qe)(i:Int)(Qt:Nat->Value):QB:=[(4,Vs)]
def eV(B:Lo)(r:Qe)(i:Int)(Qt:Nat->Value):List Prop:=[Q3 []/\Q0 YP J0 55 (p9 r) (.bool true)]++eX B r i Qt
def pE(r:Qe)(i:Int)(Qt:Nat->Value):QB:=pF r i Qt++[(8,Ql.pure (.bool true) [])]
def eU(B:Lo)(r:Qe)(i:Int)(Qt:Nat->Value):List Prop:=[Q3 []/\Q0 YP J0 55 (p8 r) (.bool true)]++eV B r i Qt
def pD(r:Qe)(i:Int)(Qt:Nat->Value):QB:=pE r i Qt++[(12,Ql.pure (.bool true) [])]
theorem AZ(B:Lo)(r:Qe)(i:Int)(Qt:Nat->Value):Xd (Qu YP (Q8 YP) J0 B 9 1 (QO 20 111 (([1,3]:List Nat).zip (Z7 r i)) Qt Z8) (QN (X6 r i)) (2+(X6 r i).length)
 (pD r i Qt++[(17,Ql.pure (.bool true) [])]) 0 [] []) []=some (.bool true,
 [Q3 []/\Q0 YP J0 55 (pz r) (.bool true)]++eU B r i Qt):=by kernel_rfl
theorem AY(B:Lo)(r:Qe)(i:Int)(Qt:Nat->Value):Xd (Qu YP (Q8 YP) J0 B 9 1 (QO 20 111 (([1,3]:List Nat).zip (Z7 r i)) Qt Z8) (QN (X6 r i)) (2+(X6 r i).length)
 (pD r i Qt++[(17,Ql.pure (.bool false) [])]) 0 [] []) []=some (.bool false,
 [Q3 []/\Q0 YP J0 55 (pz r) (.bool false)]++eU B r i Qt):=by kernel_rfl
theorem AX(B:Lo)(r:Qe)(i:Int)(Qt:Nat->Value):Xd (Qu YP (Q8 YP) J0 B 9 1 (QO 20 111 (([1,3]:List Nat).zip (Z7 r i)) Qt Z8) (QN (X6 r i)) (2+(X6 r i).length)
 (pE r i Qt++[(12,Ql.pure (.bool false) [])]) 0 [] []) []=some (.bool false,
 [Q3 []/\Q0 YP J0 55 (p8 r) (.bool false)]++eV B r i Qt):=by kernel_rfl
theorem AW(B:Lo)(r:Qe)(i:Int)(Qt:Nat->Value):Xd (Qu YP (Q8 YP) J0 B 9 1 (QO 20 111 (([1,3]:List Nat).zip (Z7 r i)) Qt Z8) (QN (X6 r i)) (2+(X6 r i).length)
 (pF r i Qt++[(8,Ql.pure (.bool false) [])]) 0 [] []) []=some (.bool false,
 [Q3 []/\Q0 YP J0 55 (p9 r) (.bool false)]++eX B r i Qt):=by kernel_rfl
theorem AV(B:Lo)(r:Qe):landM (Qu YP (Q8 YP) J0 B 7 1 (Qq YP 20 111 (([.agg (Q1 r).toArray]).map (Q5 0 4))) Zn 1
 [] 0 [] []) [1,3] [(1,KS.auto)] []=some ⟨20,111,Z8,[],.run,none,Z7 r (0),X6 r (0),
 []⟩:=by kernel_rfl
set_option maxHeartbeats 4000000 in
theorem D6(r:Qe)  (XB:r.Qa.length<=9223372036854775807){B:Lo}(hJ:∀w,B.has w->J0 w){c0:CF}:∀m:Nat,(∀(i:Int),r.Qa.length-i.toNat=m->∀(h0:0<=i),D7 B c0 r i->EndsT YP B c0 (.bool (Pr r.Qa i && J8 r))):=by
 intro m0;induction m0 using No with
 |_ m0 ih0=>
  intro i hm0 h0 ⟨Qt,Kn,Zk⟩;have s3:=H7 (n:=r.Qa.length) (v:=(r.Qa.getD i.toNat ML).XM) (by omega);by_cases q0:(i:Int)<((↑r.Qa.length:Int))
  ·have Vb:Q3 (kA B r i Qt):=by
    have s2:=Xk (ps:=r.Qa) q0;exact⟨⟨by omega,by omega,(QA (z:=12) (fun _=>rfl) (by omega))⟩,⟨(Zh q0),trivial⟩⟩
   cases q1:WK (Qd.count (r.Qa.getD i.toNat ML)) 0 1000000 with
   |true=>
    have PV:Q3 (k9 B r i Qt):=by
     have s2:=Xk (ps:=r.Qa) q0;exact⟨⟨trivial,(by have t_:=jg (Qd.count (r.Qa.getD i.toNat ML)) (0) (1000000);rw[q1]at t_;exact t_)⟩,Vb⟩
    cases q2:WK (Qd.room (r.Qa.getD i.toNat ML)) 0 1000000 with
    |true=>
     have KY:Q3 (k8 B r i Qt):=by
      have s2:=Xk (ps:=r.Qa) q0;exact⟨⟨trivial,(by have t_:=jg (Qd.room (r.Qa.getD i.toNat ML)) (0) (1000000);rw[q2]at t_;exact t_)⟩,PV⟩
     cases q3:WK (Qd.goal (r.Qa.getD i.toNat ML)) 0 1000000 with
     |true=>
      have hp3:Q3 (kz B r i Qt):=by
       have s2:=Xk (ps:=r.Qa) q0;exact⟨⟨trivial,(by have t_:=jg (Qd.goal (r.Qa.getD i.toNat ML)) (0) (1000000);rw[q3]at t_;exact t_)⟩,KY⟩
      cases q4:Zg (Qd.WO (r.Qa.getD i.toNat ML)) (Qd.Sa (r.Qa.getD i.toNat ML)) 0 2000 with
      |true=>
       have hp4:Q3 (ky B r i Qt):=by
        have s2:=Xk (ps:=r.Qa) q0;exact⟨⟨trivial,(by have t_:=py (Qd.WO (r.Qa.getD i.toNat ML)) (Qd.Sa (r.Qa.getD i.toNat ML)) (2000);rw[q4]at t_;exact t_)⟩,hp3⟩
       cases q5:WK (Qd.QM (r.Qa.getD i.toNat ML)) 0 1000 with
       |true=>
        have hp5:Q3 (kx B r i Qt):=by
         have s2:=Xk (ps:=r.Qa) q0;exact⟨(XH (by omega) (by omega)),⟨⟨trivial,(by have t_:=jg (Qd.QM (r.Qa.getD i.toNat ML)) (0) (1000);rw[q5]at t_;exact t_)⟩,hp4⟩⟩
        cases q6:WK (Qd.XM (r.Qa.getD i.toNat ML)) (-1) ((↑r.Qa.length:Int)-1)with
        |true=>
         have hp6:Q3 (ku B r i Qt):=by
          have s2:=Xk (ps:=r.Qa) q0;exact⟨⟨trivial,(by have t_:=jg (Qd.XM (r.Qa.getD i.toNat ML)) (-1) ((↑r.Qa.length:Int)-1);rw[q6]at t_;exact t_)⟩,hp5⟩
         by_cases q7:(Qd.XM (r.Qa.getD i.toNat ML):Int)=(i)
         ·have s2:=Xk (ps:=r.Qa) q0;exact(GoE.endsT okF hJ Qf Zk (D5 B r i Qt)
           ⟨(bn q7),hp6⟩).cast (by(rw[s2];rw[s3]at *;simp_all[ZZ,Zv];done))
         ·have hp7:Q3 (kq B r i Qt):=by
           exact⟨(bo q7),hp6⟩
          cases q8:Zg (Qd.K3 (r.Qa.getD i.toNat ML)) (Qd.ZT (r.Qa.getD i.toNat ML)) 0 1000000 with
          |true=>
           have hp8:Q3 (kj B r i Qt):=by
            have s2:=Xk (ps:=r.Qa) q0;exact⟨⟨trivial,(by have t_:=py (Qd.K3 (r.Qa.getD i.toNat ML)) (Qd.ZT (r.Qa.getD i.toNat ML)) (1000000);rw[q8]at t_;exact t_)⟩,hp7⟩
           cases q9:Zg (Qd.UI (r.Qa.getD i.toNat ML)) (Qd.ZD (r.Qa.getD i.toNat ML)) 0 1000000 with
           |true=>
            have hp9:Q3 (ki B r i Qt):=by
             have s2:=Xk (ps:=r.Qa) q0;exact⟨⟨trivial,(by have t_:=py (Qd.UI (r.Qa.getD i.toNat ML)) (Qd.ZD (r.Qa.getD i.toNat ML)) (1000000);rw[q9]at t_;exact t_)⟩,hp8⟩
            by_cases q10:(Qd.K3 (r.Qa.getD i.toNat ML):Int)<(Qd.UI (r.Qa.getD i.toNat ML))
            ·have s2:=Xk (ps:=r.Qa) q0;exact(GoE.endsT okF hJ Qf Zk (D4 B r i Qt)
              ⟨(Zh q10),hp9⟩).cast (by(rw[s2];rw[s3]at *;simp_all[ZZ,Zv];omega))
            ·have hp10:Q3 (eZ B r i Qt):=by
              exact⟨(Zr (Int.not_lt.1 q10)),hp9⟩
             by_cases q11:(Qd.ZT (r.Qa.getD i.toNat ML):Int)<(Qd.ZD (r.Qa.getD i.toNat ML))
             ·have s2:=Xk (ps:=r.Qa) q0;exact(GoE.endsT okF hJ Qf Zk (D3 B r i Qt)
               ⟨(Zh q11),hp10⟩).cast (by(rw[s2];rw[s3]at *;simp_all[ZZ,Zv];omega))
             ·have hp11:Q3 (eY B r i Qt):=by
               exact⟨(Zr (Int.not_lt.1 q11)),hp10⟩
              cases q12:WK (Qd.Vh (r.Qa.getD i.toNat ML)) 0 1000000 with
              |true=>
               have s2:=Xk (ps:=r.Qa) q0;exact((ih0 _ (by omega)) (i+1) rfl (by omega)
                (Zk.landM okF hJ Qf (D2 B r i Qt)
                ⟨(XH (by omega) (by omega)),⟨⟨trivial,(by have t_:=jg (Qd.Vh (r.Qa.getD i.toNat ML)) (0) (1000000);rw[q12]at t_;exact t_)⟩,hp11⟩⟩ (by kernel_rfl) (by kernel_rfl))).cast (by(rw[s2];rw[s3]at *;simp_all[ZZ,Zv];done))
              |false=>
               have s2:=Xk (ps:=r.Qa) q0;exact(GoE.endsT okF hJ Qf Zk (D1 B r i Qt)
                ⟨⟨trivial,(by have t_:=jg (Qd.Vh (r.Qa.getD i.toNat ML)) (0) (1000000);rw[q12]at t_;exact t_)⟩,hp11⟩).cast (by(rw[s2];rw[s3]at *;simp_all[ZZ,Zv];done))
           |false=>
            have s2:=Xk (ps:=r.Qa) q0;exact(GoE.endsT okF hJ Qf Zk (D0 B r i Qt)
             ⟨⟨trivial,(by have t_:=py (Qd.UI (r.Qa.getD i.toNat ML)) (Qd.ZD (r.Qa.getD i.toNat ML)) (1000000);rw[q9]at t_;exact t_)⟩,hp8⟩).cast (by(rw[s2];rw[s3]at *;simp_all[ZZ,Zv];done))
          |false=>
           have s2:=Xk (ps:=r.Qa) q0;exact(GoE.endsT okF hJ Qf Zk (Dz B r i Qt)
            ⟨⟨trivial,(by have t_:=py (Qd.K3 (r.Qa.getD i.toNat ML)) (Qd.ZT (r.Qa.getD i.toNat ML)) (1000000);rw[q8]at t_;exact t_)⟩,hp7⟩).cast (by(rw[s2];rw[s3]at *;simp_all[ZZ,Zv];done))
        |false=>
         have s2:=Xk (ps:=r.Qa) q0;exact(GoE.endsT okF hJ Qf Zk (Dy B r i Qt)
          ⟨⟨trivial,(by have t_:=jg (Qd.XM (r.Qa.getD i.toNat ML)) (-1) ((↑r.Qa.length:Int)-1);rw[q6]at t_;exact t_)⟩,hp5⟩).cast (by(rw[s2];rw[s3]at *;simp_all[ZZ,Zv];done))
       |false=>
        have s2:=Xk (ps:=r.Qa) q0;exact(GoE.endsT okF hJ Qf Zk (Dx B r i Qt)
         ⟨⟨trivial,(by have t_:=jg (Qd.QM (r.Qa.getD i.toNat ML)) (0) (1000);rw[q5]at t_;exact t_)⟩,hp4⟩).cast (by(rw[s2];rw[s3]at *;simp_all[ZZ,Zv];done))
      |false=>
       have s2:=Xk (ps:=r.Qa) q0;exact(GoE.endsT okF hJ Qf Zk (Dw B r i Qt)
        ⟨⟨trivial,(by have t_:=py (Qd.WO (r.Qa.getD i.toNat ML)) (Qd.Sa (r.Qa.getD i.toNat ML)) (2000);rw[q4]at t_;exact t_)⟩,hp3⟩).cast (by(rw[s2];rw[s3]at *;simp_all[ZZ,Zv];done))
     |false=>
      have s2:=Xk (ps:=r.Qa) q0;exact(GoE.endsT okF hJ Qf Zk (Bc B r i Qt)
       ⟨⟨trivial,(by have t_:=jg (Qd.goal (r.Qa.getD i.toNat ML)) (0) (1000000);rw[q3]at t_;exact t_)⟩,KY⟩).cast (by(rw[s2];rw[s3]at *;simp_all[ZZ,Zv];done))
    |false=>
     have s2:=Xk (ps:=r.Qa) q0;exact(GoE.endsT okF hJ Qf Zk (Bb B r i Qt)
      ⟨⟨trivial,(by have t_:=jg (Qd.room (r.Qa.getD i.toNat ML)) (0) (1000000);rw[q2]at t_;exact t_)⟩,PV⟩).cast (by(rw[s2];rw[s3]at *;simp_all[ZZ,Zv];done))
   |false=>
    have s2:=Xk (ps:=r.Qa) q0;exact(GoE.endsT okF hJ Qf Zk (Ba B r i Qt)
     ⟨⟨trivial,(by have t_:=jg (Qd.count (r.Qa.getD i.toNat ML)) (0) (1000000);rw[q1]at t_;exact t_)⟩,Vb⟩).cast (by(rw[s2];rw[s3]at *;simp_all[ZZ,Zv];done))
  ·have hp12:Q3 (eX B r i Qt):=by
    exact⟨(Zr (Int.not_lt.1 q0)),trivial⟩
   cases q1:WK (↑r.Qa.length:Int) 1 4 with
   |true=>
    have hp13:Q3 (eV B r i Qt):=by
     have s2:=Uo (ps:=r.Qa) (i:=i) (by omega);exact⟨⟨trivial,(by have t_:=jg ((↑r.Qa.length:Int)) (1) (4);rw[q1]at t_;exact t_)⟩,hp12⟩
    cases q2:WK r.Qk 0 2000 with
    |true=>
     have hp14:Q3 (eU B r i Qt):=by
      have s2:=Uo (ps:=r.Qa) (i:=i) (by omega);exact⟨⟨trivial,(by have t_:=jg r.Qk (0) (2000);rw[q2]at t_;exact t_)⟩,hp13⟩
     cases q3:WK r.Qc 1 4 with
     |true=>
      have s2:=Uo (ps:=r.Qa) (i:=i) (by omega);exact(GoE.endsT okF hJ Qf Zk (AZ B r i Qt)
       ⟨⟨trivial,(by have t_:=jg r.Qc (1) (4);rw[q3]at t_;exact t_)⟩,hp14⟩).cast (by(rw[s2];simp_all[J8];done))
     |false=>
      have s2:=Uo (ps:=r.Qa) (i:=i) (by omega);exact(GoE.endsT okF hJ Qf Zk (AY B r i Qt)
       ⟨⟨trivial,(by have t_:=jg r.Qc (1) (4);rw[q3]at t_;exact t_)⟩,hp14⟩).cast (by(rw[s2];simp_all[J8];done))
    |false=>
     have s2:=Uo (ps:=r.Qa) (i:=i) (by omega);exact(GoE.endsT okF hJ Qf Zk (AX B r i Qt)
      ⟨⟨trivial,(by have t_:=jg r.Qk (0) (2000);rw[q2]at t_;exact t_)⟩,hp13⟩).cast (by(rw[s2];simp_all[J8];done))
   |false=>
    have s2:=Uo (ps:=r.Qa) (i:=i) (by omega);exact(GoE.endsT okF hJ Qf Zk (AW B r i Qt)
     ⟨⟨trivial,(by have t_:=jg ((↑r.Qa.length:Int)) (1) (4);rw[q1]at t_;exact t_)⟩,hp12⟩).cast (by(rw[s2];simp_all[J8];done))
set_option maxHeartbeats 4000000 in
theorem G5(r:Qe)  (XB:r.Qa.length<=9223372036854775807){B:Lo}(hJ:∀w,B.has w->J0 w):EndsT YP B (Qq YP 20 111 (([.agg (Q1 r).toArray]).map (Q5 0 4))) (.bool (Qy r)):=by
 exact((D6 r XB hJ _) (0) rfl (by omega)
  (GoE.start.landM okF hJ Qf (AV B r)
  trivial (by kernel_rfl) (by kernel_rfl))).cast (by(simp only[Qy];rw[Bool.and_comm];done))
theorem Ib(r:Qe)  :Q0 YP J0 20 #[.agg (Q1 r).toArray] (.bool (Qy r)):=
 Vk (ts:=[.agg (Q1 r).toArray]) (r.Qa.length<=9223372036854775807) (fun _ _ ht=>ht.ln2 (i:=0) (j:=0) rfl rfl) Zs (c0:=Qq YP 20 111 (([.agg (Q1 r).toArray]).map (Q5 0 4))) (by kernel_rfl) (by kernel_rfl) fun XB B hJ=>G5 r  XB hJ
end
end Go.Proofs.Ytncjjangllkokaa

namespace Go.Proofs.Ytncjjangllkokaa
open Go Go.CE Go.RowKit
noncomputable section
theorem fo:((Vd 0:Nat):Int)=1:=rfl
theorem Bu{i:Int}(h:0<=i):((Vd (i+1):Nat):Int)=2*((Vd i:Nat):Int):=by
 unfold Vd;rw[show(i+1).toNat=i.toNat+1 by omega,Nat.pow_succ];omega
def hasB(n k:Int):Bool:=n.toNat.testBit k.toNat
theorem nG{n k:Int}(hn:0<=n)(hk:1<=k):hasB n k=hasB (n / 2) (k-1):=by
 unfold hasB;obtain⟨j,hj⟩:∃j,k.toNat=j+1:=⟨k.toNat-1,by omega⟩
 rw[hj,show(k-1).toNat=j by omega,Nat.testBit_succ,show(n / 2).toNat=n.toNat / 2 by omega]
theorem Me{n:Int}(hn:0<=n):hasB n 0=decide (n % 2=1):=by
 unfold hasB;rw[show(0:Int).toNat=0 from rfl,Nat.testBit_zero];exact decide_eq_decide.2 (by omega)
theorem ry{n k:Int}:decide (((tn ((bf n k:Nat):Int) 1:Nat):Int)=1)=hasB n k:=by
 unfold hasB tn bf;rw[Int.toNat_natCast,show(1:Int).toNat=1 from rfl,Nat.and_one_is_mod,Nat.shiftRight_eq_div_pow,Nat.testBit_eq_decide_div_mod_eq];exact decide_eq_decide.2 (by omega)
def Xm(r:Qe)(Qb:List Int):List Value:=[Kj r.Qa,.int .i64 r.Qk,.int .i64 r.Qc,.int .i64 (Qb.getD 0 0),.int .i64 (Qb.getD 1 0),.int .i64 (Qb.getD 2 0),.int .i64 (Qb.getD 3 0)]
theorem Xa{r:Qe}{Qb:List Int}(h:QQ r Qb=true):Qb.length=r.Qc/\∀x∈Qb,0<=x/\x<Vd r.Qa.length:=by
 simp only[QQ,YB,decide_eq_true_iff,List.all_eq_true,P0]at h;exact⟨h.1,fun x hx=>by have:=h.2 x hx;omega⟩
def Tl(r:Qe)(s i:Int):List Value:=[pA 2 0,.int .i64 s,.int .i64 i]
def Ym(r:Qe)(s i:Int):List Obj:=[Obj.cells #[Qv 1 (QJ r.Qa.length (Qg Qj r.Qa)),.int .i64 r.Qk,.int .i64 r.Qc] 24]
def Tn:List Item:=([.code [1,1,0,1,0,0],.inLoop [1,1,0,1,0,0],.inBlock 0,.code [1,1,1]]).map (it (Xf YP 69))
def Dv(B:Lo)(c0:CF)(r:Qe)(s i:Int):Prop:=∃dJ:Nat->Value,(∀t,XP (dJ t))/\GoE YP B c0 Zn 1 (QO 69 15 (([1,3,4]:List Nat).zip (Tl r s i)) dJ Tn) (QN (Ym r s i)) (2+(Ym r s i).length) []
set_option maxRecDepth 100000 in
theorem Dt(B:Lo)(r:Qe)(s i:Int)(Qt:Nat->Value):landM (Qu YP (Q8 YP) J0 B 11 1 (QO 69 15 (([1,3,4]:List Nat).zip (Tl r s i)) Qt Tn) (QN (Ym r s i)) (2+(Ym r s i).length)
 [(4,WR),(6,U2 (2*s)),(9,U2 (i+1))] 0 [] []) [1,3,4] [(2,KS.auto)] []=some ⟨69,15,Tn,[],.run,none,Tl r (2*s) (i+1),Ym r (2*s) (i+1),
 [wq (i+1)=i+1,wq (2*s)=2*s,Zq i (↑r.Qa.length:Int)=true]⟩:=by kernel_rfl
set_option maxRecDepth 100000 in
theorem Ds(B:Lo)(r:Qe)(s i:Int)(Qt:Nat->Value):Xd (Qu YP (Q8 YP) J0 B 9 1 (QO 69 15 (([1,3,4]:List Nat).zip (Tl r s i)) Qt Tn) (QN (Ym r s i)) (2+(Ym r s i).length)
 [(4,Vs)] 0 [] []) []=some (.int .i64 s,
 [Zq i (↑r.Qa.length:Int)=false]):=by kernel_rfl
set_option maxRecDepth 100000 in
theorem Dr(B:Lo)(r:Qe):landM (Qu YP (Q8 YP) J0 B 9 1 (Qq YP 69 15 (([.agg (Q1 r).toArray]).map (Q5 0 4))) Zn 1
 [] 0 [] []) [1,3,4] [(1,KS.auto)] []=some ⟨69,15,Tn,[],.run,none,Tl r (1) (0),Ym r (1) (0),
 []⟩:=by kernel_rfl
set_option maxHeartbeats 4000000 in
theorem Du(r:Qe)(hn:r.Qa.length<=61){B:Lo}(hJ:∀w,B.has w->J0 w){c0:CF}:∀m:Nat,(∀(s i:Int),r.Qa.length-i.toNat=m->∀(h0:0<=i) (h1:i<=r.Qa.length) (hs:s=((Vd i:Nat):Int)),Dv B c0 r s i->EndsT YP B c0 (.int .i64 ((Vd r.Qa.length:Nat):Int))):=by
 intro m0;induction m0 using No with
 |_ m0 ih0=>
  intro s i hm0 h0 h1 hs ⟨Qt,Kn,Zk⟩;have e1:=S9 (n:=i) (by omega);have e2:=Bu (i:=i) h0;by_cases q0:(i:Int)<((↑r.Qa.length:Int))
  ·try have e3:=S9 (n:=i+1) (by omega)
   exact((ih0 _ (by omega)) (2*s) (i+1) rfl (by first|with_reducible assumption|omega|exact fo.symm|(rw[e2,hs];done)|(simp_all;done)) (by first|with_reducible assumption|omega|exact fo.symm|(rw[e2,hs];done)|(simp_all;done)) (by first|with_reducible assumption|omega|exact fo.symm|(rw[e2,hs];done)|(simp_all;done))
    (Zk.landM okF hJ Qf (Dt B r s i Qt)
    ⟨(XH (by omega) (by omega)),⟨(XH (by omega) (by omega)),⟨(Zh q0),trivial⟩⟩⟩ (by kernel_rfl) (by kernel_rfl))).cast (by first|rfl|(rw[hs,show i=r.Qa.length by omega];done))
  ·try have e3:=S9 (n:=i+1) (by omega)
   exact(GoE.endsT okF hJ Qf Zk (Ds B r s i Qt)
    ⟨(Zr (Int.not_lt.1 q0)),trivial⟩).cast (by first|rfl|(rw[hs,show i=r.Qa.length by omega];done))
set_option maxHeartbeats 4000000 in
theorem G4(r:Qe)(hn:r.Qa.length<=61){B:Lo}(hJ:∀w,B.has w->J0 w):EndsT YP B (Qq YP 69 15 (([.agg (Q1 r).toArray]).map (Q5 0 4))) (.int .i64 ((Vd r.Qa.length:Nat):Int)):=by
 exact((Du r hn hJ _) (1) (0) rfl (by first|with_reducible assumption|omega|exact fo.symm|(rw[e2,hs];done)|(simp_all;done)) (by first|with_reducible assumption|omega|exact fo.symm|(rw[e2,hs];done)|(simp_all;done)) (by first|with_reducible assumption|omega|exact fo.symm|(rw[e2,hs];done)|(simp_all;done))
  (GoE.start.landM okF hJ Qf (Dr B r)
  trivial (by kernel_rfl) (by kernel_rfl))).cast (by first|rfl|(simp[*];done)|(simp_all[];done)|(simp_all[];omega))
theorem LF(r:Qe)(hn:r.Qa.length<=61):Q0 YP J0 69 #[.agg (Q1 r).toArray] (.int .i64 ((Vd r.Qa.length:Nat):Int)):=
 XD (ts:=[.agg (Q1 r).toArray]) Zs (c0:=Qq YP 69 15 (([.agg (Q1 r).toArray]).map (Q5 0 4))) (by kernel_rfl) (by kernel_rfl) fun B hJ=>G4 r hn hJ
def JC(r:Qe)(Qb:List Int)(i:Int):List Value:=[Qv 1 (QJ Qb.length (Qg Q9 Qb)),pA 2 0,.int .i64 i]
def VH(r:Qe)(Qb:List Int)(i:Int):List Obj:=[Obj.cells #[Qv 1 (QJ r.Qa.length (Qg Qj r.Qa)),.int .i64 r.Qk,.int .i64 r.Qc] 24]
def JD:List Item:=([.code [1,0,1,0,0],.inLoop [1,0,1,0,0],.inBlock 0,.code [1,1]]).map (it (Xf YP 41))
def DE(B:Lo)(c0:CF)(r:Qe)(Qb:List Int)(i:Int):Prop:=∃dJ:Nat->Value,(∀t,XP (dJ t))/\GoE YP B c0 Zn 1 (QO 41 26 (([1,2,5]:List Nat).zip (JC r Qb i)) dJ JD) (QN (VH r Qb i)) (2+(VH r Qb i).length) []
def uy(r:Qe)(Qb:List Int)(i:Int):Array Value:=#[.int .i64 (Qb.getD i.toNat ML),.int .i64 0,.int .i64 ((↑(Vd (↑r.Qa.length:Int)):Int)-1)]
def uw(r:Qe):Value:=(.int .i64 (↑(Vd (↑r.Qa.length:Int)):Int))
def kC(B:Lo)(r:Qe)(Qb:List Int)(i:Int)(Qt:Nat->Value):List Prop:=[wq ((↑(Vd (↑r.Qa.length:Int)):Int)-1)=(↑(Vd (↑r.Qa.length:Int)):Int)-1,Q3 []/\Q0 YP J0 69 #[.agg #[QJ r.Qa.length (Qg Qj r.Qa),.int .i64 r.Qk,.int .i64 r.Qc]] (uw r),Ug i Qb.length (Qg Q9 Qb) Try.t3.size #[.int .i64 (Qb.getD i.toNat ML)],Zq i (↑Qb.length:Int)=true]++([]:List Prop)
def u0(r:Qe)(Qb:List Int)(i:Int)(Qt:Nat->Value):QB:=[(3,WR),(6,Ql.tidx i.toNat #[.int .i64 (Qb.getD i.toNat ML)]),(9,Ql.pure (uw r) []),(10,U2 ((↑(Vd (↑r.Qa.length:Int)):Int)-1))]
set_option maxRecDepth 100000 in
theorem DC(B:Lo)(r:Qe)(Qb:List Int)(i:Int)(Qt:Nat->Value):landM (Qu YP (Q8 YP) J0 B 14 1 (QO 41 26 (([1,2,5]:List Nat).zip (JC r Qb i)) Qt JD) (QN (VH r Qb i)) (2+(VH r Qb i).length)
 (u0 r Qb i Qt++[(11,Ql.pure (.bool true) []),(14,U2 (i+1))]) 0 [] []) [1,2,5] [(2,KS.auto)] []=some ⟨41,26,JD,[],.run,none,JC r Qb (i+1),VH r Qb (i+1),
 [wq (i+1)=i+1,Q3 []/\Q0 YP J0 55 (uy r Qb i) (.bool true)]++kC B r Qb i Qt⟩:=by kernel_rfl
set_option maxRecDepth 100000 in
theorem DB(B:Lo)(r:Qe)(Qb:List Int)(i:Int)(Qt:Nat->Value):Xd (Qu YP (Q8 YP) J0 B 14 1 (QO 41 26 (([1,2,5]:List Nat).zip (JC r Qb i)) Qt JD) (QN (VH r Qb i)) (2+(VH r Qb i).length)
 (u0 r Qb i Qt++[(11,Ql.pure (.bool false) [])]) 0 [] []) []=some (.bool false,
 [Q3 []/\Q0 YP J0 55 (uy r Qb i) (.bool false)]++kC B r Qb i Qt):=by kernel_rfl
def kB(B:Lo)(r:Qe)(Qb:List Int)(i:Int)(Qt:Nat->Value):List Prop:=[Zq i (↑Qb.length:Int)=false]++([]:List Prop)
def uz(r:Qe)(Qb:List Int)(i:Int)(Qt:Nat->Value):QB:=[(3,Vs)]
set_option maxRecDepth 100000 in
theorem DA(B:Lo)(r:Qe)(Qb:List Int)(i:Int)(Qt:Nat->Value):Xd (Qu YP (Q8 YP) J0 B 9 1 (QO 41 26 (([1,2,5]:List Nat).zip (JC r Qb i)) Qt JD) (QN (VH r Qb i)) (2+(VH r Qb i).length)
 (uz r Qb i Qt++[(8,WR)]) 0 [] []) []=some (.bool true,
 [YI (↑Qb.length:Int) r.Qc=true]++kB B r Qb i Qt):=by kernel_rfl
set_option maxRecDepth 100000 in
theorem D9(B:Lo)(r:Qe)(Qb:List Int)(i:Int)(Qt:Nat->Value):Xd (Qu YP (Q8 YP) J0 B 9 1 (QO 41 26 (([1,2,5]:List Nat).zip (JC r Qb i)) Qt JD) (QN (VH r Qb i)) (2+(VH r Qb i).length)
 (uz r Qb i Qt++[(8,Vs)]) 0 [] []) []=some (.bool false,
 [YI (↑Qb.length:Int) r.Qc=false]++kB B r Qb i Qt):=by kernel_rfl
set_option maxRecDepth 100000 in
theorem D8(B:Lo)(r:Qe)(Qb:List Int):landM (Qu YP (Q8 YP) J0 B 7 1 (Qq YP 41 26 (([.agg (Q1 r).toArray,XF Qb]).map (Q5 0 4))) Zn 1
 [] 0 [] []) [1,2,5] [(1,KS.auto)] []=some ⟨41,26,JD,[],.run,none,JC r Qb (0),VH r Qb (0),
 []⟩:=by kernel_rfl
set_option maxHeartbeats 4000000 in
theorem DD(r:Qe)(Qb:List Int)(hn:r.Qa.length<=61)(XB:Qb.length<=9223372036854775807){B:Lo}(hJ:∀w,B.has w->J0 w){c0:CF}:∀m:Nat,(∀(i:Int),Qb.length-i.toNat=m->∀(h0:0<=i),DE B c0 r Qb i->EndsT YP B c0 (.bool ((Qb.drop i.toNat).all (fun x=>WK x 0 (((Vd r.Qa.length:Nat):Int)-1)) && decide (Qb.length=r.Qc)))):=by
 intro m0;induction m0 using No with
 |_ m0 ih0=>
  intro i hm0 h0 ⟨Qt,Kn,Zk⟩;have e1:=S9 (n:=r.Qa.length) (by omega);have e1:=S9 (n:=r.Qa.length) (by omega);by_cases q0:(i:Int)<((↑Qb.length:Int))
  ·have Vb:Q3 (kC B r Qb i Qt):=by
    try have s2:=Vq (l:=Qb) (p:=fun x=>WK x 0 (((Vd r.Qa.length:Nat):Int)-1)) h0 q0
    try have s2:=Yc (l:=Qb) (p:=fun x=>WK x 0 (((Vd r.Qa.length:Nat):Int)-1)) (i:=i) (by omega)
    exact⟨(XH (by omega) (by omega)),⟨⟨trivial,LF (r) (by first|with_reducible assumption|omega|simp_all)⟩,⟨⟨by omega,by omega,(QA (z:=1) (fun _=>rfl) (by first|omega|(rw[Ny];omega)|(rw[Nv];omega)))⟩,⟨(Zh q0),trivial⟩⟩⟩⟩
   cases q1:WK (Qb.getD i.toNat ML) 0 ((↑(Vd (↑r.Qa.length:Int)):Int)-1)with
   |true=>
    try have s2:=Vq (l:=Qb) (p:=fun x=>WK x 0 (((Vd r.Qa.length:Nat):Int)-1)) h0 q0
    try have s2:=Yc (l:=Qb) (p:=fun x=>WK x 0 (((Vd r.Qa.length:Nat):Int)-1)) (i:=i) (by omega)
    exact((ih0 _ (by omega)) (i+1) rfl (by first|with_reducible assumption|omega|(simp_all;done))
     (Zk.landM okF hJ Qf (DC B r Qb i Qt)
     ⟨(XH (by omega) (by omega)),⟨⟨trivial,(by have t_:=jg (Qb.getD i.toNat ML) (0) ((↑(Vd (↑r.Qa.length:Int)):Int)-1);rw[q1]at t_;exact t_)⟩,Vb⟩⟩ (by kernel_rfl) (by kernel_rfl))).cast (by first|rfl|(rw[s2];simp[*];done)|(rw[s2];simp_all;done)|(rw[s2];done))
   |false=>
    try have s2:=Vq (l:=Qb) (p:=fun x=>WK x 0 (((Vd r.Qa.length:Nat):Int)-1)) h0 q0
    try have s2:=Yc (l:=Qb) (p:=fun x=>WK x 0 (((Vd r.Qa.length:Nat):Int)-1)) (i:=i) (by omega)
    exact(GoE.endsT okF hJ Qf Zk (DB B r Qb i Qt)
     ⟨⟨trivial,(by have t_:=jg (Qb.getD i.toNat ML) (0) ((↑(Vd (↑r.Qa.length:Int)):Int)-1);rw[q1]at t_;exact t_)⟩,Vb⟩).cast (by first|rfl|(rw[s2];simp[*];done)|(rw[s2];simp_all;done)|(rw[s2];done))
  ·have PV:Q3 (kB B r Qb i Qt):=by
    exact⟨(Zr (Int.not_lt.1 q0)),trivial⟩
   by_cases q1:((↑Qb.length:Int):Int)=r.Qc
   ·try have s2:=Vq (l:=Qb) (p:=fun x=>WK x 0 (((Vd r.Qa.length:Nat):Int)-1)) h0 q0
    try have s2:=Yc (l:=Qb) (p:=fun x=>WK x 0 (((Vd r.Qa.length:Nat):Int)-1)) (i:=i) (by omega)
    exact(GoE.endsT okF hJ Qf Zk (DA B r Qb i Qt)
     ⟨(bn q1),PV⟩).cast (by first|rfl|(rw[s2];simp[*];done)|(rw[s2];simp_all;done)|(rw[s2];done))
   ·try have s2:=Vq (l:=Qb) (p:=fun x=>WK x 0 (((Vd r.Qa.length:Nat):Int)-1)) h0 q0
    try have s2:=Yc (l:=Qb) (p:=fun x=>WK x 0 (((Vd r.Qa.length:Nat):Int)-1)) (i:=i) (by omega)
    exact(GoE.endsT okF hJ Qf Zk (D9 B r Qb i Qt)
     ⟨(bo q1),PV⟩).cast (by first|rfl|(rw[s2];simp[*];done)|(rw[s2];simp_all;done)|(rw[s2];done))
set_option maxHeartbeats 4000000 in
theorem G6(r:Qe)(Qb:List Int)(hn:r.Qa.length<=61)(XB:Qb.length<=9223372036854775807){B:Lo}(hJ:∀w,B.has w->J0 w):EndsT YP B (Qq YP 41 26 (([.agg (Q1 r).toArray,XF Qb]).map (Q5 0 4))) (.bool (QQ r Qb)):=by
 have e1:=S9 (n:=r.Qa.length) (by omega);exact((DD r Qb hn XB hJ _) (0) rfl (by first|with_reducible assumption|omega|(simp_all;done))
  (GoE.start.landM okF hJ Qf (D8 B r Qb)
  trivial (by kernel_rfl) (by kernel_rfl))).cast (by first|rfl|(simp[QQ,Bool.and_comm];done))
theorem Ic(r:Qe)(Qb:List Int)(hn:r.Qa.length<=61):Q0 YP J0 41 #[.agg (Q1 r).toArray,XF Qb] (.bool (QQ r Qb)):=
 Vk (ts:=[.agg (Q1 r).toArray,XF Qb]) (Qb.length<=9223372036854775807) (fun _ _ ht=>ht.ln (i:=1) rfl) Zs (c0:=Qq YP 41 26 (([.agg (Q1 r).toArray,XF Qb]).map (Q5 0 4))) (by kernel_rfl) (by kernel_rfl) fun XB B hJ=>G6 r Qb hn XB hJ
def a8(n k:Int)(x i:Int):List Value:=[.int .i64 x,.int .i64 k,.int .i64 i]
def Yh(n k:Int)(x i:Int):List Obj:=[]
def a9:List Item:=([.code [1,0,1,0,0],.inLoop [1,0,1,0,0],.inBlock 0,.code [1,1]]).map (it (Xf YP 47))
def GD(B:Lo)(c0:CF)(n k:Int)(x i:Int):Prop:=∃dJ:Nat->Value,(∀t,XP (dJ t))/\GoE YP B c0 Zn 1 (QO 47 16 (([0,1,5]:List Nat).zip (a8 n k x i)) dJ a9) (QN (Yh n k x i)) (2+(Yh n k x i).length) []
set_option maxRecDepth 100000 in
theorem GB(B:Lo)(n k:Int)(x i:Int)(Qt:Nat->Value):landM (Qu YP (Q8 YP) J0 B 11 1 (QO 47 16 (([0,1,5]:List Nat).zip (a8 n k x i)) Qt a9) (QN (Yh n k x i)) (2+(Yh n k x i).length)
 [(2,WR),(4,U2 (MN x 2)),(7,U2 (i+1))] 0 [] []) [0,1,5] [] []=some ⟨47,16,a9,[],.run,none,a8 n k (MN x 2) (i+1),Yh n k (MN x 2) (i+1),
 [wq (i+1)=i+1,IntKind.wrap .i64 (MN x 2)=MN x 2,Zq i k=true]⟩:=by kernel_rfl
def r6(B:Lo)(n k:Int)(x i:Int)(Qt:Nat->Value):List Prop:=[Zq i k=false]++([]:List Prop)
def Ac(n k:Int)(x i:Int)(Qt:Nat->Value):QB:=[(2,Vs)]
set_option maxRecDepth 100000 in
theorem GA(B:Lo)(n k:Int)(x i:Int)(Qt:Nat->Value):Xd (Qu YP (Q8 YP) J0 B 9 1 (QO 47 16 (([0,1,5]:List Nat).zip (a8 n k x i)) Qt a9) (QN (Yh n k x i)) (2+(Yh n k x i).length)
 (Ac n k x i Qt++[(5,WR)]) 0 [] []) []=some (.bool true,
 [YI (Int.tmod x 2) 1=true]++r6 B n k x i Qt):=by kernel_rfl
set_option maxRecDepth 100000 in
theorem G9(B:Lo)(n k:Int)(x i:Int)(Qt:Nat->Value):Xd (Qu YP (Q8 YP) J0 B 9 1 (QO 47 16 (([0,1,5]:List Nat).zip (a8 n k x i)) Qt a9) (QN (Yh n k x i)) (2+(Yh n k x i).length)
 (Ac n k x i Qt++[(5,Vs)]) 0 [] []) []=some (.bool false,
 [YI (Int.tmod x 2) 1=false]++r6 B n k x i Qt):=by kernel_rfl
set_option maxRecDepth 100000 in
theorem G8(B:Lo)(n k:Int):landM (Qu YP (Q8 YP) J0 B 7 1 (Qq YP 47 16 (([.int .i64 n,.int .i64 k]).map (Q5 0 4))) Zn 1
 [] 0 [] []) [0,1,5] [] []=some ⟨47,16,a9,[],.run,none,a8 n k (n) (0),Yh n k (n) (0),
 []⟩:=by kernel_rfl
set_option maxHeartbeats 4000000 in
theorem GC(n k:Int)(hn:0<=n/\n<=1000000000)(hk:0<=k/\k<=1000000000){B:Lo}(hJ:∀w,B.has w->J0 w){c0:CF}:∀m:Nat,(∀(x i:Int),(k-i).toNat=m->∀(h0:0<=i) (h1:i<=k) (h2:0<=x/\x<=1000000000) (hx:hasB x (k-i)=hasB n k),GD B c0 n k x i->EndsT YP B c0 (.bool (hasB n k))):=by
 intro m0;induction m0 using No with
 |_ m0 ih0=>
  intro x i hm0 h0 h1 h2 hx ⟨Qt,Kn,Zk⟩;have e1:x.tdiv 2=x / 2:=ND h2.1;have e2:x.tmod 2=x % 2:=Int.tmod_eq_emod_of_nonneg h2.1;have e4:=Me (n:=x) h2.1;by_cases q0:(i:Int)<(k)
  ·try have e3:=nG (n:=x) (k:=k-i) h2.1 (by omega)
   exact((ih0 _ (by omega)) (MN x 2) (i+1) rfl (by first|with_reducible assumption|omega|(rw[<-hx,e3,e1,show k-(i+1)=k-i-1 by omega];done)|(simp_all;done)) (by first|with_reducible assumption|omega|(rw[<-hx,e3,e1,show k-(i+1)=k-i-1 by omega];done)|(simp_all;done)) (by first|with_reducible assumption|omega|(rw[<-hx,e3,e1,show k-(i+1)=k-i-1 by omega];done)|(simp_all;done)) (by first|with_reducible assumption|omega|(rw[<-hx,e3,e1,show k-(i+1)=k-i-1 by omega];done)|(simp_all;done))
    (Zk.landM okF hJ Qf (GB B n k x i Qt)
    ⟨(XH (by omega) (by omega)),⟨(ca (by omega) (by omega)),⟨(Zh q0),trivial⟩⟩⟩ (by kernel_rfl) (by kernel_rfl))).cast (by first|rfl|(rw[<-hx,show k-i=0 by omega,e4];simp[*];omega))
  ·have Vb:Q3 (r6 B n k x i Qt):=by
    exact⟨(Zr (Int.not_lt.1 q0)),trivial⟩
   by_cases q1:(Int.tmod x 2:Int)=(1)
   ·try have e3:=nG (n:=x) (k:=k-i) h2.1 (by omega)
    exact(GoE.endsT okF hJ Qf Zk (GA B n k x i Qt)
     ⟨(bn q1),Vb⟩).cast (by first|rfl|(rw[<-hx,show k-i=0 by omega,e4];simp[*];omega))
   ·try have e3:=nG (n:=x) (k:=k-i) h2.1 (by omega)
    exact(GoE.endsT okF hJ Qf Zk (G9 B n k x i Qt)
     ⟨(bo q1),Vb⟩).cast (by first|rfl|(rw[<-hx,show k-i=0 by omega,e4];simp[*];omega))
set_option maxHeartbeats 4000000 in
theorem ID(n k:Int)(hn:0<=n/\n<=1000000000)(hk:0<=k/\k<=1000000000){B:Lo}(hJ:∀w,B.has w->J0 w):EndsT YP B (Qq YP 47 16 (([.int .i64 n,.int .i64 k]).map (Q5 0 4))) (.bool (hasB n k)):=by
 exact((GC n k hn hk hJ _) (n) (0) rfl (by first|with_reducible assumption|omega|(rw[<-hx,e3,e1,show k-(i+1)=k-i-1 by omega];done)|(simp_all;done)) (by first|with_reducible assumption|omega|(rw[<-hx,e3,e1,show k-(i+1)=k-i-1 by omega];done)|(simp_all;done)) (by first|with_reducible assumption|omega|(rw[<-hx,e3,e1,show k-(i+1)=k-i-1 by omega];done)|(simp_all;done)) (by first|with_reducible assumption|omega|(rw[<-hx,e3,e1,show k-(i+1)=k-i-1 by omega];done)|(simp_all;done))
  (GoE.start.landM okF hJ Qf (G8 B n k)
  trivial (by kernel_rfl) (by kernel_rfl))).cast (by first|rfl|(simp[*];done)|(simp_all[];done)|(simp_all[];omega))
theorem oM(n k:Int)(hn:0<=n/\n<=1000000000)(hk:0<=k/\k<=1000000000):Q0 YP J0 47 #[.int .i64 n,.int .i64 k] (.bool (hasB n k)):=
 XD (ts:=[.int .i64 n,.int .i64 k]) Zs (c0:=Qq YP 47 16 (([.int .i64 n,.int .i64 k]).map (Q5 0 4))) (by kernel_rfl) (by kernel_rfl) fun B hJ=>ID n k hn hk hJ
def lx(r:Qe)(Qb:List Int):Array Value:=#[QJ Qb.length (Qg Q9 Qb),.int .i64 0,.int .i64 ((↑(Vd (↑r.Qa.length:Int)):Int)-1)]
def lv(r:Qe):Value:=(.int .i64 (↑(Vd (↑r.Qa.length:Int)):Int))
def bL(B:Lo)(r:Qe)(Qb:List Int):List Prop:=[wq ((↑(Vd (↑r.Qa.length:Int)):Int)-1)=(↑(Vd (↑r.Qa.length:Int)):Int)-1,o4 YP BinOp.shl 3 (.int .i64 1) (XL {len:=16000,tr:=Tri.set 14 Tri.lf 14 (.int .i64 (↑r.Qa.length:Int))} 14) (lv r),YI (↑Qb.length:Int) r.Qc=true]++([]:List Prop)
def ly(r:Qe)(Qb:List Int):QB:=[(6,WR),(12,Ql.bin (lv r)),(13,U2 ((↑(Vd (↑r.Qa.length:Int)):Int)-1))]
set_option maxRecDepth 100000 in
theorem yH(B:Lo)(r:Qe)(Qb:List Int):Xd (Qu YP (Q8 YP) J0 B 6 1 (Qq YP 51 19 (([.agg (Q1 r).toArray,XF Qb]).map (Q5 0 4))) Zn 1
 (ly r Qb++[(14,Ql.pure (.bool true) [])]) 0 [] []) []=some (.bool true,
 [Q3 []/\Q0 YP J0 74 (lx r Qb) (.bool true)]++bL B r Qb):=by kernel_rfl
set_option maxRecDepth 100000 in
theorem yG(B:Lo)(r:Qe)(Qb:List Int):Xd (Qu YP (Q8 YP) J0 B 6 1 (Qq YP 51 19 (([.agg (Q1 r).toArray,XF Qb]).map (Q5 0 4))) Zn 1
 (ly r Qb++[(14,Ql.pure (.bool false) [])]) 0 [] []) []=some (.bool false,
 [Q3 []/\Q0 YP J0 74 (lx r Qb) (.bool false)]++bL B r Qb):=by kernel_rfl
set_option maxRecDepth 100000 in
theorem yF(B:Lo)(r:Qe)(Qb:List Int):Xd (Qu YP (Q8 YP) J0 B 6 1 (Qq YP 51 19 (([.agg (Q1 r).toArray,XF Qb]).map (Q5 0 4))) Zn 1
 [(6,Vs)] 0 [] []) []=some (.bool false,
 [YI (↑Qb.length:Int) r.Qc=false]):=by kernel_rfl
set_option maxHeartbeats 4000000 in
theorem Bw(r:Qe)(Qb:List Int)(hn:r.Qa.length<=61)(XB:Qb.length<=9223372036854775807){B:Lo}(hJ:∀w,B.has w->J0 w):EndsT YP B (Qq YP 51 19 (([.agg (Q1 r).toArray,XF Qb]).map (Q5 0 4))) (.bool (QQ r Qb)):=by
 have e1:=S9 (n:=r.Qa.length) (by omega);by_cases q0:((↑Qb.length:Int):Int)=r.Qc
 ·have Vb:Q3 (bL B r Qb):=by
   exact⟨(XH (by omega) (by omega)),⟨(FZ (by omega) (by omega)),⟨(bn q0),trivial⟩⟩⟩
  cases q1:List.all Qb fun x=>WK x 0 ((↑(Vd (↑r.Qa.length:Int)):Int)-1)with
  |true=>
   exact(GoE.endsT okF hJ Qf GoE.start (yH B r Qb)
    ⟨⟨trivial,(by have t_:=EP (Qb) (0) ((↑(Vd (↑r.Qa.length:Int)):Int)-1);rw[q1]at t_;exact t_)⟩,Vb⟩).cast (by first|rfl|(simp[QQ, *];done)|(simp_all[QQ];done)|(simp_all[QQ];omega))
  |false=>
   exact(GoE.endsT okF hJ Qf GoE.start (yG B r Qb)
    ⟨⟨trivial,(by have t_:=EP (Qb) (0) ((↑(Vd (↑r.Qa.length:Int)):Int)-1);rw[q1]at t_;exact t_)⟩,Vb⟩).cast (by first|rfl|(simp[QQ, *];done)|(simp_all[QQ];done)|(simp_all[QQ];omega))
 ·exact(GoE.endsT okF hJ Qf GoE.start (yF B r Qb)
   ⟨(bo q0),trivial⟩).cast (by first|rfl|(simp[QQ, *];done)|(simp_all[QQ];done)|(simp_all[QQ];omega))
theorem ji(r:Qe)(Qb:List Int)(hn:r.Qa.length<=61):Q0 YP J0 51 #[.agg (Q1 r).toArray,XF Qb] (.bool (QQ r Qb)):=
 Vk (ts:=[.agg (Q1 r).toArray,XF Qb]) (Qb.length<=9223372036854775807) (fun _ _ ht=>ht.ln (i:=1) rfl) Zs (c0:=Qq YP 51 19 (([.agg (Q1 r).toArray,XF Qb]).map (Q5 0 4))) (by kernel_rfl) (by kernel_rfl) fun XB B hJ=>Bw r Qb hn XB hJ
def cM(r:Qe):Value:=(QJ r.Qa.length (Qg Qj r.Qa))
def cO(r:Qe)(Qb:List Int):Array Value:=#[Qv 0 (cM r),.int .i64 r.Qk,.int .i64 r.Qc,.int .i64 (Qb.getD 0 ML),.int .i64 (Qb.getD 1 ML),.int .i64 (Qb.getD 2 ML),.int .i64 (Qb.getD 3 ML)]
def cN(r:Qe):Array Value:=#[Qv 0 (cM r),.int .i64 r.Qk,.int .i64 r.Qc,.int .i64 0,.int .i64 0,.int .i64 0,.int .i64 0]
set_option maxRecDepth 100000 in
theorem r8(B:Lo)(r:Qe)(Qb:List Int):Xd (Qu YP (Q8 YP) J0 B 10 1 (Qq YP 52 13 (([.agg (Q1 r).toArray,XF Qb]).map (Q5 0 4))) Zn 1
 [(9,Ql.tcpy (cO r Qb))] 0 [] []) []=some (.agg #[QJ r.Qa.length (Qg Qj r.Qa),.int .i64 r.Qk,.int .i64 r.Qc,.int .i64 (Qb.getD 0 ML),.int .i64 (Qb.getD 1 ML),.int .i64 (Qb.getD 2 ML),.int .i64 (Qb.getD 3 ML)],
 [0<MO Qb/\3+Nw Qb.length 4*TypeInfo.size Try.t3<=Array.size (cN r)/\Nw Qb.length 4*TypeInfo.size Try.t3<=Array.size (Qg Q9 Qb)/\(Array.all (Qg Q9 Qb) fun v=>simple v || Vo v)=true/\ones (Array.map (Wn 0) (Nu (Qg Q9 Qb) 0 (Nw Qb.length 4*TypeInfo.size Try.t3)))=true/\splice (cN r) 3 (Array.map (Wn 0) (Nu (Qg Q9 Qb) 0 (Nw Qb.length 4*TypeInfo.size Try.t3)))=(cO r Qb)]):=by kernel_rfl
set_option maxHeartbeats 4000000 in
theorem uG(r:Qe)(Qb:List Int)(h0:0<Qb.length)(hl:Qb.length<=4){B:Lo}(hJ:∀w,B.has w->J0 w):EndsT YP B (Qq YP 52 13 (([.agg (Q1 r).toArray,XF Qb]).map (Q5 0 4))) (.agg (Xm r Qb).toArray):=by
 exact(GoE.endsT okF hJ Qf GoE.start (r8 B r Qb)
  ⟨(nV (fun _=>rfl) rfl (by omega) (by omega) rfl (YL rfl) rfl),trivial⟩).cast (by first|rfl|(simp[*];done)|(simp_all[];done)|(simp_all[];omega))
theorem pN(r:Qe)(Qb:List Int)(h0:0<Qb.length)(hl:Qb.length<=4):Q0 YP J0 52 #[.agg (Q1 r).toArray,XF Qb] (.agg (Xm r Qb).toArray):=
 XD (ts:=[.agg (Q1 r).toArray,XF Qb]) Zs (c0:=Qq YP 52 13 (([.agg (Q1 r).toArray,XF Qb]).map (Q5 0 4))) (by kernel_rfl) (by kernel_rfl) fun B hJ=>uG r Qb h0 hl hJ
set_option maxRecDepth 100000 in
theorem Cs(B:Lo)(r:Qe):Xd (Qu YP (Q8 YP) J0 B 6 1 (Qq YP 15 7 (([.agg (Q1 r).toArray]).map (Q5 0 4))) Zn 1
 [(5,WR)] 0 [] []) []=some (.bool true,
 [(!Zq 8 (↑r.Qa.length:Int))=true]):=by kernel_rfl
set_option maxRecDepth 100000 in
theorem Cr(B:Lo)(r:Qe):Xd (Qu YP (Q8 YP) J0 B 6 1 (Qq YP 15 7 (([.agg (Q1 r).toArray]).map (Q5 0 4))) Zn 1
 [(5,Vs)] 0 [] []) []=some (.bool false,
 [(!Zq 8 (↑r.Qa.length:Int))=false]):=by kernel_rfl
set_option maxHeartbeats 4000000 in
theorem Ff(r:Qe)  (XB:r.Qa.length<=9223372036854775807){B:Lo}(hJ:∀w,B.has w->J0 w):EndsT YP B (Qq YP 15 7 (([.agg (Q1 r).toArray]).map (Q5 0 4))) (.bool (decide (r.Qa.length<=8))):=by
 by_cases q0:((↑r.Qa.length:Int):Int)<=(8)
 ·exact(GoE.endsT okF hJ Qf GoE.start (Cs B r)
   ⟨(Vn q0),trivial⟩).cast (by first|rfl|(simp[*];done)|(simp_all[];done)|(simp_all[];omega))
 ·exact(GoE.endsT okF hJ Qf GoE.start (Cr B r)
   ⟨(UK (Int.not_le.1 q0)),trivial⟩).cast (by first|rfl|(simp[*];done)|(simp_all[];done)|(simp_all[];omega))
theorem bP(r:Qe)  :Q0 YP J0 15 #[.agg (Q1 r).toArray] (.bool (decide (r.Qa.length<=8))):=
 Vk (ts:=[.agg (Q1 r).toArray]) (r.Qa.length<=9223372036854775807) (fun _ _ ht=>ht.ln2 (i:=0) (j:=0) rfl rfl) Zs (c0:=Qq YP 15 7 (([.agg (Q1 r).toArray]).map (Q5 0 4))) (by kernel_rfl) (by kernel_rfl) fun XB B hJ=>Ff r  XB hJ
def aW(r:Qe):Array Value:=#[QJ r.Qa.length (Qg Qj r.Qa),.int .i64 r.Qk,.int .i64 r.Qc]
def fM(B:Lo)(r:Qe)(Qb:List Int):List Prop:=[Q3 []/\Q0 YP J0 20 #[.agg (aW r)] (.bool true)]++([]:List Prop)
def qC(r:Qe)(Qb:List Int):QB:=[(3,Ql.pure (.bool true) [])]
set_option maxRecDepth 100000 in
theorem Cy(B:Lo)(r:Qe)(Qb:List Int):Xd (Qu YP (Q8 YP) J0 B 6 1 (Qq YP 21 12 (([.agg (Q1 r).toArray,XF Qb]).map (Q5 0 4))) Zn 1
 (qC r Qb++[(7,Ql.pure (.bool true) [])]) 0 [] []) []=some (.bool true,
 [Q3 []/\Q0 YP J0 41 #[.agg (aW r),QJ Qb.length (Qg Q9 Qb)] (.bool true)]++fM B r Qb):=by kernel_rfl
set_option maxRecDepth 100000 in
theorem Cx(B:Lo)(r:Qe)(Qb:List Int):Xd (Qu YP (Q8 YP) J0 B 6 1 (Qq YP 21 12 (([.agg (Q1 r).toArray,XF Qb]).map (Q5 0 4))) Zn 1
 (qC r Qb++[(7,Ql.pure (.bool false) [])]) 0 [] []) []=some (.bool false,
 [Q3 []/\Q0 YP J0 41 #[.agg (aW r),QJ Qb.length (Qg Q9 Qb)] (.bool false)]++fM B r Qb):=by kernel_rfl
set_option maxRecDepth 100000 in
theorem Cw(B:Lo)(r:Qe)(Qb:List Int):Xd (Qu YP (Q8 YP) J0 B 6 1 (Qq YP 21 12 (([.agg (Q1 r).toArray,XF Qb]).map (Q5 0 4))) Zn 1
 [(3,Ql.pure (.bool false) [])] 0 [] []) []=some (.bool false,
 [Q3 []/\Q0 YP J0 20 #[.agg (aW r)] (.bool false)]):=by kernel_rfl
set_option maxHeartbeats 4000000 in
theorem Ft(r:Qe)(Qb:List Int)  {B:Lo}(hJ:∀w,B.has w->J0 w):EndsT YP B (Qq YP 21 12 (([.agg (Q1 r).toArray,XF Qb]).map (Q5 0 4))) (.bool (Qy r && QQ r Qb)):=by
 cases q0:Qy r with
 |true=>
  have Vb:Q3 (fM B r Qb):=by
   try have ZN:=(Q6 (QD ‹Qy r=true›).1).1
   exact⟨⟨trivial,(by have t_:=Ib (r);rw[q0]at t_;exact t_)⟩,trivial⟩
  cases q1:QQ r Qb with
  |true=>
   try have ZN:=(Q6 (QD ‹Qy r=true›).1).1
   exact(GoE.endsT okF hJ Qf GoE.start (Cy B r Qb)
    ⟨⟨trivial,(by have t_:=Ic (r) (Qb) (by first|with_reducible assumption|omega|simp_all);rw[q1]at t_;exact t_)⟩,Vb⟩).cast (by first|rfl|(simp[*];done)|(simp_all[];done)|(simp_all[];omega))
  |false=>
   try have ZN:=(Q6 (QD ‹Qy r=true›).1).1
   exact(GoE.endsT okF hJ Qf GoE.start (Cx B r Qb)
    ⟨⟨trivial,(by have t_:=Ic (r) (Qb) (by first|with_reducible assumption|omega|simp_all);rw[q1]at t_;exact t_)⟩,Vb⟩).cast (by first|rfl|(simp[*];done)|(simp_all[];done)|(simp_all[];omega))
 |false=>
  try have ZN:=(Q6 (QD ‹Qy r=true›).1).1
  exact(GoE.endsT okF hJ Qf GoE.start (Cw B r Qb)
   ⟨⟨trivial,(by have t_:=Ib (r);rw[q0]at t_;exact t_)⟩,trivial⟩).cast (by first|rfl|(simp[*];done)|(simp_all[];done)|(simp_all[];omega))
theorem sJ(r:Qe)(Qb:List Int)  :Q0 YP J0 21 #[.agg (Q1 r).toArray,XF Qb] (.bool (Qy r && QQ r Qb)):=
 XD (ts:=[.agg (Q1 r).toArray,XF Qb]) Zs (c0:=Qq YP 21 12 (([.agg (Q1 r).toArray,XF Qb]).map (Q5 0 4))) (by kernel_rfl) (by kernel_rfl) fun B hJ=>Ft r Qb  hJ
end
end Go.Proofs.Ytncjjangllkokaa

namespace Go.Proofs.Ytncjjangllkokaa
open Go Go.CE Go.RowKit
noncomputable section
set_option maxRecDepth 100000
def Y2(Qk n:Int):Int:=n+(n*Qk).tdiv 1000
def nH(room f g:Int):Int:=if room<=f then 0 else if(f*g).tdiv 1000<room-f then(f*g).tdiv 1000 else room-f
theorem PJ{a r:Int}(ha:0<=a/\a<=1000000000000)(hr:0<=r/\r<=2000):0<=a*r/\a*r<=2000000000000000/\0<=(a*r).tdiv 1000/\(a*r).tdiv 1000<=2000000000000:=by
 have e0:0<=a*r:=Int.mul_nonneg ha.1 hr.1;have e1:a*r<=1000000000000*2000:=Int.mul_le_mul ha.2 hr.2 hr.1 (by omega);have e2:(a*r).tdiv 1000=(a*r) / 1000:=ND e0;omega
theorem Hk{a r:Int}(ha:0<=a/\a<=1000000000000)(hr:0<=r/\r<=2000):a<=Y2 r a/\Y2 r a<=3000000000000:=by
 have:=PJ ha hr;unfold Y2;omega
theorem DF(B:Lo)(r:Qe)(n:Int):Xd (Qu YP (Q8 YP) J0 B 6 1 (Qq YP 60 12 (([.agg (Q1 r).toArray,.int .i64 n]).map (Q5 0 4))) Zn 1
 [(6,U2 (n*r.Qk)),(7,U2 (MN (n*r.Qk) 1000)),(8,U2 (n+MN (n*r.Qk) 1000))] 0 [] []) []=some (.int .i64 (n+MN (n*r.Qk) 1000),
 [wq (n+MN (n*r.Qk) 1000)=n+MN (n*r.Qk) 1000,IntKind.wrap .i64 (MN (n*r.Qk) 1000)=MN (n*r.Qk) 1000,wq (n*r.Qk)=n*r.Qk]):=by kernel_rfl
set_option maxHeartbeats 4000000 in
theorem G7(r:Qe)(n:Int)(hm:0<=r.Qk/\r.Qk<=2000)(hn:0<=n/\n<=1000000000000){B:Lo}(hJ:∀w,B.has w->J0 w):EndsT YP B (Qq YP 60 12 (([.agg (Q1 r).toArray,.int .i64 n]).map (Q5 0 4))) (.int .i64 (Y2 r.Qk n)):=by
 have e0:=PJ hn hm;exact(GoE.endsT okF hJ Qf GoE.start (DF B r n)
  ⟨(XH (by omega) (by omega)),⟨(ca (by omega) (by omega)),⟨(XH (by omega) (by omega)),trivial⟩⟩⟩).cast (by rfl)
theorem LG(r:Qe)(n:Int)(hm:0<=r.Qk/\r.Qk<=2000)(hn:0<=n/\n<=1000000000000):Q0 YP J0 60 #[.agg (Q1 r).toArray,.int .i64 n] (.int .i64 (Y2 r.Qk n)):=
 XD (ts:=[.agg (Q1 r).toArray,.int .i64 n]) Zs (c0:=Qq YP 60 12 (([.agg (Q1 r).toArray,.int .i64 n]).map (Q5 0 4))) (by kernel_rfl) (by kernel_rfl) fun B hJ=>G7 r n hm hn hJ
theorem AU(B:Lo)(x:Qd)  :Xd (Qu YP (Q8 YP) J0 B 10 1 (Qq YP 61 10 (([.agg (Qj x).toArray,.bool true]).map (Q5 0 4))) Zn 1
 [] 0 [] []) []=some (.agg #[.int .i64 x.UI,.int .i64 x.ZD],
 []):=by kernel_rfl
theorem AT(B:Lo)(x:Qd)  :Xd (Qu YP (Q8 YP) J0 B 11 1 (Qq YP 61 10 (([.agg (Qj x).toArray,.bool false]).map (Q5 0 4))) Zn 1
 [] 0 [] []) []=some (.agg #[.int .i64 x.K3,.int .i64 x.ZT],
 []):=by kernel_rfl
set_option maxHeartbeats 4000000 in
theorem Dl(x:Qd)(b:Bool)  {B:Lo}(hJ:∀w,B.has w->J0 w):EndsT YP B (Qq YP 61 10 (([.agg (Qj x).toArray,.bool b]).map (Q5 0 4))) (.agg #[.int .i64 (if b then x.UI else x.K3),.int .i64 (if b then x.ZD else x.ZT)]):=by
 cases b with
 |true=>
  exact(GoE.endsT okF hJ Qf GoE.start (AU B x)
   trivial).cast (by rfl)
 |false=>
  exact(GoE.endsT okF hJ Qf GoE.start (AT B x)
   trivial).cast (by rfl)
theorem PF(x:Qd)(b:Bool)  :Q0 YP J0 61 #[.agg (Qj x).toArray,.bool b] (.agg #[.int .i64 (if b then x.UI else x.K3),.int .i64 (if b then x.ZD else x.ZT)]):=
 XD (ts:=[.agg (Qj x).toArray,.bool b]) Zs (c0:=Qq YP 61 10 (([.agg (Qj x).toArray,.bool b]).map (Q5 0 4))) (by kernel_rfl) (by kernel_rfl) fun B hJ=>Dl x b  hJ
def kD(n a b:Int):Array Value:=#[.int .i64 n,.int .i64 a,.int .i64 b]
theorem yn(B:Lo)(n a b:Int):Xd (Qu YP (Q8 YP) J0 B 6 1 (Qq YP 32 11 (([.int .i64 n,.agg #[.int .i64 a,.int .i64 b]]).map (Q5 0 4))) Zn 1
 [(7,Ql.pure (.bool true) [])] 0 [] []) []=some (.bool true,
 [Q3 []/\Q0 YP J0 55 (kD n a b) (.bool true)]):=by kernel_rfl
theorem ym(B:Lo)(n a b:Int):Xd (Qu YP (Q8 YP) J0 B 6 1 (Qq YP 32 11 (([.int .i64 n,.agg #[.int .i64 a,.int .i64 b]]).map (Q5 0 4))) Zn 1
 [(7,Ql.pure (.bool false) [])] 0 [] []) []=some (.bool false,
 [Q3 []/\Q0 YP J0 55 (kD n a b) (.bool false)]):=by kernel_rfl
set_option maxHeartbeats 4000000 in
theorem Bd(n a b:Int)  {B:Lo}(hJ:∀w,B.has w->J0 w):EndsT YP B (Qq YP 32 11 (([.int .i64 n,.agg #[.int .i64 a,.int .i64 b]]).map (Q5 0 4))) (.bool (WK n a b)):=by
 cases q0:WK n a b with
 |true=>
  exact(GoE.endsT okF hJ Qf GoE.start (yn B n a b)
   ⟨⟨trivial,(by have t_:=jg (n) (a) (b);rw[q0]at t_;exact t_)⟩,trivial⟩).cast (by rfl)
 |false=>
  exact(GoE.endsT okF hJ Qf GoE.start (ym B n a b)
   ⟨⟨trivial,(by have t_:=jg (n) (a) (b);rw[q0]at t_;exact t_)⟩,trivial⟩).cast (by rfl)
theorem a6(n a b:Int)  :Q0 YP J0 32 #[.int .i64 n,.agg #[.int .i64 a,.int .i64 b]] (.bool (WK n a b)):=
 XD (ts:=[.int .i64 n,.agg #[.int .i64 a,.int .i64 b]]) Zs (c0:=Qq YP 32 11 (([.int .i64 n,.agg #[.int .i64 a,.int .i64 b]]).map (Q5 0 4))) (by kernel_rfl) (by kernel_rfl) fun B hJ=>Bd n a b  hJ
def Xx(x:Qd):Span:=⟨x.WO,x.Sa⟩
def Wy(x:Qd):Span:=⟨x.K3,x.ZT⟩
def Xt(Qk:Int)(x:Qd):Span:=⟨x.count,Y2 Qk x.count⟩
def aR(x_:Qd):Array Value:=#[.int .i64 x_.count,.int .i64 x_.room,.int .i64 x_.WO,.int .i64 x_.Sa,.int .i64 x_.QM,.int .i64 x_.XM,.int .i64 x_.K3,.int .i64 x_.ZT,.int .i64 x_.UI,.int .i64 x_.ZD,.int .i64 x_.goal,.int .i64 x_.Vh]
def U7(xs:List Qd)(i:Int):=(xs.getD i.toNat ML)
def aQ(xs:List Qd)(i:Int):Value:=(.agg #[.int .i64 (Qd.WO (U7 xs i)),.int .i64 (Qd.Sa (U7 xs i))])
def aP(xs:List Qd)(i:Int)(ys:List Span):Array Value:=(Qg QU (Np ys i.toNat {lo:=Qd.WO (U7 xs i),hi:=Qd.Sa (U7 xs i)}))
def ql(xs:List Qd):Array Value:=(Qg (Ul [.int .i64 0,.int .i64 0]) (MT xs.length ()))
def RK(xs:List Qd)(i:Int)(ys:List Span):List Value:=[Value.func (Fn.func 104) #[] #[],.slice (some {block:=2,off:=0}) xs.length 2,Qv 1 (QJ xs.length (Qg Qj xs)),.int .i64 (↑xs.length:Int),.int .i64 i]
def Ky(xs:List Qd)(i:Int)(ys:List Span):List Obj:=[.cells (Qg QU ys) 38 (0,0)]
def RL:List Item:=([.code [1,1,0,1,0,0],.inLoop [1,1,0,1,0,0],.inBlock 0,.code [1,1,1]]).map (it (Xf YP 102))
def BR(B:Lo)(c0:CF)(xs:List Qd)(i:Int)(ys:List Span):Prop:=∃dJ:Nat->Value,(∀t,XP (dJ t))/\GoE YP B c0 Zn 1 (QO 102 26 (([1,5,11,12,13]:List Nat).zip (RK xs i ys)) dJ RL) (QN (Ky xs i ys)) (2+(Ky xs i ys).length) []
def RM(xs:List Qd)(i:Int)(ys:List Span)(Qt:Nat->Value):Qm:=[(3,Obj.cells (aR (xs.getD i.toNat ML)) 54),(0,Obj.coro none),(1,Obj.coro none),(2,Obj.cells (Qg QU ys) 38)]
def aT(xs:List Qd)(i:Int)(ys:List Span)(Qt:Nat->Value):CF:=⟨104,ofList 5 [.agg (aR (xs.getD i.toNat ML))],[Item.code (Xf YP 104)],[],.run,none⟩
theorem BP(B:Lo)(xs:List Qd)(i:Int)(ys:List Span)(Qt:Nat->Value):CE.finK 4 (Qu YP (Q8 YP) J0 B 6 4 (aT xs i ys Qt) (RM xs i ys Qt) 4
 [] 0 [] []) [] [] []=some (OO.ret (aQ xs i),[],[],
 []):=by kernel_rfl
theorem BO(B:Lo)(xs:List Qd)(i:Int)(ys:List Span)(Qt:Nat->Value):landM (Qu YP (Q8 YP) J0 B 13 1 (QO 102 26 (([1,5,11,12,13]:List Nat).zip (RK xs i ys)) Qt RL) (QN (Ky xs i ys)) (2+(Ky xs i ys).length)
 [(0,WR),(2,Ql.tidx i.toNat (aR (U7 xs i))),(11,Ql.call (MP 4) (OO.ret (aQ xs i)) ([]++(4,Xo)::Xc 5 []) 5 []),(12,Ql.WM (Hint.idx i.toNat)),(13,Ql.WM (Hint.st (aP xs i ys))),(14,U2 (i+1))] 0 [] []) [1,5,11,12,13] [(2,KS.cells [] (aP xs i ys))] []=some ⟨102,26,RL,[],.run,none,RK xs (i+1) (Np ys i.toNat {lo:=Qd.WO (U7 xs i),hi:=Qd.Sa (U7 xs i)}),Ky xs (i+1) (Np ys i.toNat {lo:=Qd.WO (U7 xs i),hi:=Qd.Sa (U7 xs i)}),
 [XV 1 [] (aP xs i ys) (aP xs i ys),wq (i+1)=i+1,0+MM i*2+TypeInfo.size Try.t38<=Array.size (Qg QU ys)/\splice (Qg QU ys) (0+MM i*2) (Value.cells (XL {len:=16000,tr:=Tri.set 14 (Tri.set 14 Tri.lf 22 (aQ xs i)) 23 (.pointer (some {block:=2,off:=0+MM i*2}))} 22))=Qg QU (Np ys i.toNat {lo:=Qd.WO (xs.getD i.toNat ML),hi:=Qd.Sa (xs.getD i.toNat ML)}),i=(↑i.toNat:Int)/\MM i<MO xs,FJ YP B (aT xs i ys Qt) (RM xs i ys Qt) 4 (OO.ret (aQ xs i)) (([]++((4,Xo)::Xc (4+1) []))++RM xs i ys Qt) 5 (MP 4) [],Ug i xs.length (Qg Qj xs) Try.t54.size (aR (xs.getD i.toNat ML)),Zq i (↑xs.length:Int)=true]⟩:=by kernel_rfl
theorem BN(B:Lo)(xs:List Qd)(i:Int)(ys:List Span)(Qt:Nat->Value):Xd (Qu YP (Q8 YP) J0 B 9 1 (QO 102 26 (([1,5,11,12,13]:List Nat).zip (RK xs i ys)) Qt RL) (QN (Ky xs i ys)) (2+(Ky xs i ys).length)
 [(0,Vs)] 0 [] []) [{k:=2,rs:=[],cs:=Qg QU ys}]=some (QJ xs.length (Fz.cs {k:=2,rs:=[],cs:=Qg QU ys}),
 [ZY (Fz.rs {k:=2,rs:=[],cs:=Qg QU ys}) (Qg QU ys) (Fz.cs {k:=2,rs:=[],cs:=Qg QU ys}),Zq i (↑xs.length:Int)=false]):=by kernel_rfl
theorem BM(B:Lo)(xs:List Qd):landM (Qu YP (Q8 YP) J0 B 9 1 (Qq YP 102 26 (([Kj xs,.func (.func 104) #[] #[]]).map (Q5 0 4))) Zn 1
 [(3,Ql.WM (Hint.mk xs.length (ql xs)))] 0 [] []) [1,5,11,12,13] [(1,KS.rows [] [] [] (Qg QU (MT xs.length {lo:=0,hi:=0})))] []=some ⟨102,26,RL,[],.run,none,RK xs (0) (MT xs.length {lo:=0,hi:=0}),Ky xs (0) (MT xs.length {lo:=0,hi:=0}),
 [Zj 1 [] [] [] (ql xs) (Qg QU (MT xs.length {lo:=0,hi:=0})),Si YP 36 (XL {len:=16000,tr:=Tri.set 14 Tri.lf 9 (.int .i64 (↑xs.length:Int))} 9) (XL {len:=16000,tr:=Tri.set 14 Tri.lf 9 (.int .i64 (↑xs.length:Int))} 9)=some (38,Qg (Ul [.int .i64 0,.int .i64 0]) (MT xs.length ()),MO xs,TypeInfo.size Try.t38)]⟩:=by kernel_rfl
set_option maxHeartbeats 4000000 in
theorem BQ(xs:List Qd)(hn:xs.length<=1000000){B:Lo}(hJ:∀w,B.has w->J0 w){c0:CF}:∀m:Nat,(∀(i:Int) (ys:List Span),(xs.length-i.toNat)=m->∀(h0:0<=i) (hy:ys=P7 Xx ⟨0,0⟩ xs i),BR B c0 xs i ys->EndsT YP B c0 (Yk (xs.map Xx))):=by
 intro m0;induction m0 using No with
 |_ m0 ih0=>
  intro i ys hm0 h0 hy ⟨Qt,Kn,Zk⟩;have hyl:ys.length=xs.length:=by rw[hy];exact Sd
  by_cases q0:(i:Int)<((↑xs.length:Int))
  ·have rj0:FJ YP B (aT xs i ys Qt) (RM xs i ys Qt) 4 (OO.ret (.agg #[.int .i64 (Qd.WO (xs.getD i.toNat ML)),.int .i64 (Qd.Sa (xs.getD i.toNat ML))])) (([]++((4,Xo)::Xc (4+1) []))++RM xs i ys Qt) 5 (MP 4) []:=by
    exact FinK.fjB (GoE.finK okF hJ Qf (Q4 (by kernel_rfl)) (Qp (by kernel_rfl)) ((GoE.refl (P:=YP) (B:=B) (c0:=aT xs i ys Qt) (Q4 (by kernel_rfl))).widen (Wf:=((([]):List (Nat×KS)).map (·.1))) (by simp) (Qp (by kernel_rfl))) (BP B xs i ys Qt)
     trivial) (ex:=[2]) (by kernel_rfl) ⟨trivial,⟨trivial,⟨trivial,⟨(Y3 (t:=38) (fl:=(0,0)) (fun x=>List.all_eq_true.1 (by rfl))),trivial⟩⟩⟩⟩
   exact((ih0 _ (by omega)) (i+1) (Np ys i.toNat {lo:=Qd.WO (xs.getD i.toNat ML),hi:=Qd.Sa (xs.getD i.toNat ML)}) rfl (by omega) (by(subst hy;exact Sc (f:=Xx) h0 q0))
    (Zk.landM okF hJ Qf (BO B xs i ys Qt)
    (by exact⟨(QR (Xg (fun x=>List.all_eq_true.1 (by rfl)))),⟨(XH (by omega) (by omega)),⟨(by exact PX (z:=2) (k:=MM i) (fun _=>rfl) (by first|omega|(rw[Ny];omega)|(rw[Nv];omega)) rfl rfl),⟨⟨by omega,by omega⟩,⟨rj0,⟨⟨by omega,by omega,(QA (z:=12) (fun _=>rfl) (by omega))⟩,⟨(Zh q0),trivial⟩⟩⟩⟩⟩⟩⟩) (by kernel_rfl) (by kernel_rfl))).cast (by rfl)
  ·exact(GoE.endsT okF hJ Qf Zk (BN B xs i ys Qt)
    ⟨(ZR (fun x=>List.all_eq_true.1 (by rfl))),⟨(Zr (Int.not_lt.1 q0)),trivial⟩⟩).cast (by exact cE (hy.trans (Se (by omega))) (by simp))
set_option maxHeartbeats 4000000 in
theorem EN(xs:List Qd)(hn:xs.length<=1000000){B:Lo}(hJ:∀w,B.has w->J0 w):EndsT YP B (Qq YP 102 26 (([Kj xs,.func (.func 104) #[] #[]]).map (Q5 0 4))) (Yk (xs.map Xx)):=by
 exact((BQ xs hn hJ _) (0) (MT xs.length {lo:=0,hi:=0}) rfl (by omega) (by exact ej)
  (GoE.start.landM okF hJ Qf (BM B xs)
  (by exact⟨(by exact(Uy (by exact⟨(.simple rfl),⟨(.simple rfl),trivial⟩⟩) _)),⟨(fV (bytes:=16) (by kernel_rfl) (by omega) (by omega) (by omega)),trivial⟩⟩) (by kernel_rfl) (by kernel_rfl))).cast (by rfl)
theorem IY(xs:List Qd)(hn:xs.length<=1000000):Q0 YP J0 102 #[Kj xs,.func (.func 104) #[] #[]] (Yk (xs.map Xx)):=
 XD (ts:=[Kj xs,.func (.func 104) #[] #[]]) Zs (c0:=Qq YP 102 26 (([Kj xs,.func (.func 104) #[] #[]]).map (Q5 0 4))) (by kernel_rfl) (by kernel_rfl) fun B hJ=>EN xs hn hJ
def aG(rf:Qe):=(List.map Xx rf.Qa)
def qa(rf:Qe):Value:=(QJ (MO (aG rf)) (Qg QU (aG rf)))
theorem Bx(B:Lo)(rf:Qe)(Qb:List Int):Xd (Qu YP (Q8 YP) J0 B 6 1 (Qq YP 83 7 (([.agg (Xm rf Qb).toArray]).map (Q5 0 4))) Zn 1
 [(5,Ql.pure (qa rf) [])] 0 [] []) []=some (QJ (MO (aG rf)) (Qg QU (aG rf)),
 [Q3 []/\Q0 YP J0 102 #[QJ rf.Qa.length (Qg Qj rf.Qa),Value.func (Fn.func 104) #[] #[]] (qa rf)]):=by kernel_rfl
set_option maxHeartbeats 4000000 in
theorem E1(rf:Qe)(Qb:List Int)(hn:rf.Qa.length<=1000000){B:Lo}(hJ:∀w,B.has w->J0 w):EndsT YP B (Qq YP 83 7 (([.agg (Xm rf Qb).toArray]).map (Q5 0 4))) (Yk (rf.Qa.map Xx)):=by
 exact(GoE.endsT okF hJ Qf GoE.start (Bx B rf Qb)
  ⟨⟨trivial,IY rf.Qa (by with_reducible assumption)⟩,trivial⟩).cast (by rfl)
theorem E2(rf:Qe)(Qb:List Int)(hn:rf.Qa.length<=1000000):Q0 YP J0 83 #[.agg (Xm rf Qb).toArray] (Yk (rf.Qa.map Xx)):=
 XD (ts:=[.agg (Xm rf Qb).toArray]) Zs (c0:=Qq YP 83 7 (([.agg (Xm rf Qb).toArray]).map (Q5 0 4))) (by kernel_rfl) (by kernel_rfl) fun B hJ=>E1 rf Qb hn hJ
def S7(x_:Qd):Array Value:=#[.int .i64 x_.count,.int .i64 x_.room,.int .i64 x_.WO,.int .i64 x_.Sa,.int .i64 x_.QM,.int .i64 x_.XM,.int .i64 x_.K3,.int .i64 x_.ZT,.int .i64 x_.UI,.int .i64 x_.ZD,.int .i64 x_.goal,.int .i64 x_.Vh]
def Kl(rf:Qe)(i:Int):=(rf.Qa.getD i.toNat ML)
def Wh(rf:Qe)(i:Int):=(Kl rf i)
def kP(rf:Qe)(i:Int):Value:=(.agg #[.int .i64 (Qd.count (Kl rf i)),.int .i64 (Qd.count (Kl rf i)+MN (Qd.count (Kl rf i)*rf.Qk) 1000)])
def KQ(rf:Qe)(i:Int):=(Qd.count (Wh rf i)*rf.Qk)
def kO(rf:Qe)(i:Int)(ys:List Span):Array Value:=(Qg QU (Np ys i.toNat {lo:=Qd.count (Kl rf i),hi:=Qd.count (Kl rf i)+MN (Qd.count (Kl rf i)*rf.Qk) 1000}))
def S6(rf:Qe):=(List.map (Xt rf.Qk) rf.Qa)
def kN(rf:Qe):Value:=(Qv 2 (QJ (MO (S6 rf)) (Qg QU (S6 rf))))
def kM(rf:Qe)(i:Int):Value:=(.agg #[.int .i64 (Qd.count (Wh rf i)),.int .i64 (Qd.count (Wh rf i)+MN (KQ rf i) 1000)])
def kL(rf:Qe):Array Value:=(Qg (Ul [.int .i64 0,.int .i64 0]) (MT rf.Qa.length ()))
def kK(rf:Qe)(i:Int)(ys:List Span):Array Value:=(Qg QU (Np ys i.toNat {lo:=Qd.count (Wh rf i),hi:=Qd.count (Wh rf i)+MN (KQ rf i) 1000}))
def gv(rf:Qe):Array Value:=(Qg QU (MT rf.Qa.length {lo:=0,hi:=0}))
def Vc(rf:Qe)(Qb:List Int):Qm:=[(1,Obj.cells #[Qv 0 (QJ rf.Qa.length (Qg Qj rf.Qa)),.int .i64 rf.Qk,.int .i64 rf.Qc,.int .i64 (Qb.getD 0 0),.int .i64 (Qb.getD 1 0),.int .i64 (Qb.getD 2 0),.int .i64 (Qb.getD 3 0)] 84),(0,Obj.coro none)]
def KR(rf:Qe)(Qb:List Int):CF:=⟨102,ofList 26 [Qv 0 (QJ rf.Qa.length (Qg Qj rf.Qa)),Value.func (Fn.func 103) #[] #[pA 1 0]],[Item.code (Xf YP 102)],[],.run,none⟩
def UQ(rf:Qe)(Qb:List Int)(i:Int)(ys:List Span):List Value:=[Value.func (Fn.func 103) #[] #[pA 1 0],.slice (some {block:=3,off:=0}) rf.Qa.length 2,Qv 0 (QJ rf.Qa.length (Qg Qj rf.Qa)),.int .i64 (↑rf.Qa.length:Int),.int .i64 i]
def UP(rf:Qe)(Qb:List Int)(i:Int)(ys:List Span):List Obj:=[]
def W9(rf:Qe)(Qb:List Int)(i:Int)(ys:List Span):List Obj:=[.cells (Qg QU ys) 38 (0,0)]
def UR:List Item:=([.code [1,1,0,1,0,0],.inLoop [1,1,0,1,0,0],.inBlock 0,.code [1,1,1]]).map (it (Xf YP 102))
def JF(rf:Qe)(Qb:List Int)(i:Int)(ys:List Span)(Qt:Nat->Value):Qm:=[(4,Obj.cells (S7 (rf.Qa.getD i.toNat ML)) 54),(2,Obj.coro none),(3,Obj.cells (Qg QU ys) 38),(1,Obj.cells #[Qv 0 (QJ rf.Qa.length (Qg Qj rf.Qa)),.int .i64 rf.Qk,.int .i64 rf.Qc,.int .i64 (Qb.getD 0 0),.int .i64 (Qb.getD 1 0),.int .i64 (Qb.getD 2 0),.int .i64 (Qb.getD 3 0)] 84),(0,Obj.coro none)]
def S8(rf:Qe)(Qb:List Int)(i:Int)(ys:List Span)(Qt:Nat->Value):CF:=⟨103,ofList 13 [.agg (S7 (rf.Qa.getD i.toNat ML)),pA 1 0],[Item.code (Xf YP 103)],[],.run,none⟩
theorem yy(B:Lo)(rf:Qe)(Qb:List Int)(i:Int)(ys:List Span)(Qt:Nat->Value):CE.finK 5 (Qu YP (Q8 YP) J0 B 6 5 (S8 rf Qb i ys Qt) (JF rf Qb i ys Qt) 5
 [(9,Ql.pure (.int .i64 (Qd.count (Wh rf i)+MN (KQ rf i) 1000)) [])] 0 [] []) [] [] []=some (OO.ret (kM rf i),[],[],
 [Q3 []/\Q0 YP J0 100 #[.int .i64 (Qd.count (rf.Qa.getD i.toNat ML)),.int .i64 rf.Qk] (.int .i64 (Qd.count (rf.Qa.getD i.toNat ML)+MN (Qd.count (rf.Qa.getD i.toNat ML)*rf.Qk) 1000))]):=by kernel_rfl
theorem yx(B:Lo)(rf:Qe)(Qb:List Int)(i:Int)(ys:List Span)(Qt:Nat->Value):CE.landA 2 (Qu YP (Q8 YP) J0 B 13 2 (VK (none) 102 26 (([1,5,11,12,13]:List Nat).zip (UQ rf Qb i ys)) Qt UR) (Wi (Vc rf Qb) 2 (([]:List Nat).zip (UP rf Qb i ys)) (W9 rf Qb i ys)) (2+1+(W9 rf Qb i ys).length)
 [(0,WR),(2,Ql.tidx i.toNat (S7 (Wh rf i))),(11,Ql.call (MP 5) (OO.ret (kM rf i)) ([]++(5,Xo)::Xc 6 []) 6 []),(12,Ql.WM (Hint.idx i.toNat)),(13,Ql.WM (Hint.st (kK rf i ys))),(14,U2 (i+1))] 0 [] []) [1,5,11,12,13] [] [(3,KS.cells [] (kK rf i ys))] []=some ⟨102,26,UR,[],.run,none,UQ rf Qb (i+1) (Np ys i.toNat {lo:=Qd.count (Wh rf i),hi:=Qd.count (Wh rf i)+MN (KQ rf i) 1000}),([]:List Nat).zip (UP rf Qb (i+1) (Np ys i.toNat {lo:=Qd.count (Wh rf i),hi:=Qd.count (Wh rf i)+MN (KQ rf i) 1000})),W9 rf Qb (i+1) (Np ys i.toNat {lo:=Qd.count (Wh rf i),hi:=Qd.count (Wh rf i)+MN (KQ rf i) 1000}),
 [XV 2 [] (kO rf i ys) (kO rf i ys),wq (i+1)=i+1,0+MM i*2+TypeInfo.size Try.t38<=Array.size (Qg QU ys)/\splice (Qg QU ys) (0+MM i*2) (Value.cells (XL {len:=16000,tr:=Tri.set 14 (Tri.set 14 Tri.lf 22 (kP rf i)) 23 (.pointer (some {block:=3,off:=0+MM i*2}))} 22))=Qg QU (Np ys i.toNat {lo:=Qd.count (rf.Qa.getD i.toNat ML),hi:=Qd.count (rf.Qa.getD i.toNat ML)+MN (Qd.count (rf.Qa.getD i.toNat ML)*rf.Qk) 1000}),i=(↑i.toNat:Int)/\MM i<MO rf.Qa,FJ YP B (S8 rf Qb i ys Qt) (JF rf Qb i ys Qt) 5 (OO.ret (kP rf i)) (([]++((5,Xo)::Xc (5+1) []))++JF rf Qb i ys Qt) 6 (MP 5) [],Ug i rf.Qa.length (Qg Qj rf.Qa) Try.t54.size (S7 (rf.Qa.getD i.toNat ML)),Zq i (↑rf.Qa.length:Int)=true]⟩:=by kernel_rfl
theorem yw(B:Lo)(rf:Qe)(Qb:List Int)(i:Int)(ys:List Span)(Qt:Nat->Value):CE.finK 2 (Qu YP (Q8 YP) J0 B 9 2 (VK (none) 102 26 (([1,5,11,12,13]:List Nat).zip (UQ rf Qb i ys)) Qt UR) (Wi (Vc rf Qb) 2 (([]:List Nat).zip (UP rf Qb i ys)) (W9 rf Qb i ys)) (2+1+(W9 rf Qb i ys).length)
 [(0,Vs)] 0 [] []) [] [] [{k:=3,rs:=[],cs:=Qg QU ys}]=some (OO.ret (Qv 2 (QJ rf.Qa.length (Fz.cs {k:=3,rs:=[],cs:=Qg QU ys}))),[],[],
 [ZY (Fz.rs {k:=3,rs:=[],cs:=Qg QU ys}) (Qg QU ys) (Fz.cs {k:=3,rs:=[],cs:=Qg QU ys}),Zq i (↑rf.Qa.length:Int)=false]):=by kernel_rfl
set_option maxHeartbeats 4000000 in
theorem oN(rf:Qe)(Qb:List Int)(hn:rf.Qa.length<=1000000)(hm:0<=rf.Qk/\rf.Qk<=2000)(hc:∀k:Int,0<=k->k<rf.Qa.length->0<=(rf.Qa.getD k.toNat ML).count/\(rf.Qa.getD k.toNat ML).count<=1000000){B:Lo}(hJ:∀w,B.has w->J0 w):∀m:Nat,(∀(i:Int) (ys:List Span),(rf.Qa.length-i.toNat)=m->∀(h0:0<=i) (hy:ys=P7 (Xt rf.Qk) ⟨0,0⟩ rf.Qa i),(∃Qt:Nat->Value,(∀t,XP (Qt t))/\GoE YP B (KR rf Qb) (Vc rf Qb) 2 (VK (none) 102 26 (([1,5,11,12,13]:List Nat).zip (UQ rf Qb i ys)) Qt UR) (Wi (Vc rf Qb) 2 (([]:List Nat).zip (UP rf Qb i ys)) (W9 rf Qb i ys)) (2+1+(W9 rf Qb i ys).length) ([]:List Nat))->FinK YP B (KR rf Qb) (Vc rf Qb) 2 (.ret (Qv 2 (Yk (rf.Qa.map (Xt rf.Qk))))) (([]:List Nat).zip ([])) ([]) ([]:List Nat)):=by
 intro m0;induction m0 using No with
 |_ m0 ih0=>
  intro i ys hm0 h0 hy ⟨Qt,Kn,Zk⟩;have hyl:ys.length=rf.Qa.length:=by rw[hy];exact Sd
  by_cases q0:(i:Int)<((↑rf.Qa.length:Int))
  ·have rj1:FJ YP B (S8 rf Qb i ys Qt) (JF rf Qb i ys Qt) 5 (OO.ret (.agg #[.int .i64 (Qd.count (rf.Qa.getD i.toNat ML)),.int .i64 (Qd.count (rf.Qa.getD i.toNat ML)+MN (Qd.count (rf.Qa.getD i.toNat ML)*rf.Qk) 1000)])) (([]++((5,Xo)::Xc (5+1) []))++JF rf Qb i ys Qt) 6 (MP 5) []:=by
    have hc1:=hc i h0 q0;exact FinK.fjB (GoE.finK okF hJ Qf (Q4 (by kernel_rfl)) (Qp (by kernel_rfl)) ((GoE.refl (P:=YP) (B:=B) (c0:=S8 rf Qb i ys Qt) (Q4 (by kernel_rfl))).widen (Wf:=((([]):List (Nat×KS)).map (·.1))) (by simp) (Qp (by kernel_rfl))) (yy B rf Qb i ys Qt)
     ⟨⟨trivial,y0 (Qd.count (rf.Qa.getD i.toNat ML)) rf.Qk (by omega) (by omega)⟩,trivial⟩) (ex:=[3]) (by kernel_rfl) ⟨trivial,⟨trivial,⟨(Y3 (t:=38) (fl:=(0,0)) (fun x=>List.all_eq_true.1 (by rfl))),⟨trivial,⟨trivial,trivial⟩⟩⟩⟩⟩
   have hc1:=hc i h0 q0;exact((ih0 _ (by omega)) (i+1) (Np ys i.toNat {lo:=Qd.count (rf.Qa.getD i.toNat ML),hi:=Qd.count (rf.Qa.getD i.toNat ML)+MN (Qd.count (rf.Qa.getD i.toNat ML)*rf.Qk) 1000}) rfl (by omega) (by(subst hy;exact Sc (f:=Xt rf.Qk) h0 q0))
    (GoE.landA okF hJ Qf (Q4 (by kernel_rfl)) (Qp (by kernel_rfl)) Zk (yx B rf Qb i ys Qt)
    (by exact⟨(QR (Xg (fun x=>List.all_eq_true.1 (by rfl)))),⟨(XH (by omega) (by omega)),⟨(by exact PX (z:=2) (k:=MM i) (fun _=>rfl) (by first|omega|(rw[Ny];omega)|(rw[Nv];omega)) rfl rfl),⟨⟨by omega,by omega⟩,⟨rj1,⟨⟨by omega,by omega,(QA (z:=12) (fun _=>rfl) (by omega))⟩,⟨(Zh q0),trivial⟩⟩⟩⟩⟩⟩⟩) (by kernel_rfl) (by kernel_rfl) (fun l hl=>by cases hl <;> decide))).cast (by rfl) (by rfl) (by rfl)
  ·exact(GoE.finK okF hJ Qf (Q4 (by kernel_rfl)) (Qp (by kernel_rfl)) Zk (yw B rf Qb i ys Qt)
    ⟨(ZR (fun x=>List.all_eq_true.1 (by rfl))),⟨(Zr (Int.not_lt.1 q0)),trivial⟩⟩).cast (by exact congrArg (fun v=>OO.ret (Qv _ v)) (cE (hy.trans (Se (by omega))) (by simp))) (by rfl) (by rfl)

theorem yz(B:Lo)(rf:Qe)(Qb:List Int):CE.landA 2 (Qu YP (Q8 YP) J0 B 9 2 (KR rf Qb) (Vc rf Qb) 2
 [(3,Ql.WM (Hint.mk rf.Qa.length (kL rf)))] 0 [] []) [1,5,11,12,13] [] [(2,KS.rows [] [] [] (gv rf))] []=some ⟨102,26,UR,[],.run,none,UQ rf Qb (0) (MT rf.Qa.length {lo:=0,hi:=0}),([]:List Nat).zip (UP rf Qb (0) (MT rf.Qa.length {lo:=0,hi:=0})),W9 rf Qb (0) (MT rf.Qa.length {lo:=0,hi:=0}),
 [Zj 2 [] [] [] (kL rf) (gv rf),Si YP 36 (XL {len:=16000,tr:=Tri.set 14 Tri.lf 9 (.int .i64 (↑rf.Qa.length:Int))} 9) (XL {len:=16000,tr:=Tri.set 14 Tri.lf 9 (.int .i64 (↑rf.Qa.length:Int))} 9)=some (38,Qg (Ul [.int .i64 0,.int .i64 0]) (MT rf.Qa.length ()),MO rf.Qa,TypeInfo.size Try.t38)]⟩:=by kernel_rfl
theorem yv(B:Lo)(rf:Qe)(Qb:List Int):Xd (Qu YP (Q8 YP) J0 B 6 1 (Qq YP 82 8 (([.agg (Xm rf Qb).toArray]).map (Q5 0 4))) Zn 1
 [(6,Ql.call (MP 2) (OO.ret (kN rf)) ([]++(2,Xo)::Xc 3 []) 3 [])] 0 [] []) []=some (QJ (MO (S6 rf)) (Qg QU (S6 rf)),
 [FJ YP B (KR rf Qb) (Vc rf Qb) 2 (OO.ret (kN rf)) (([]++((2,Xo)::Xc (2+1) []))++Vc rf Qb) 3 (MP 2) []]):=by kernel_rfl
set_option maxHeartbeats 4000000 in
theorem Br(rf:Qe)(Qb:List Int)(hn:rf.Qa.length<=1000000)(hm:0<=rf.Qk/\rf.Qk<=2000)(hc:∀k:Int,0<=k->k<rf.Qa.length->0<=(rf.Qa.getD k.toNat ML).count/\(rf.Qa.getD k.toNat ML).count<=1000000){B:Lo}(hJ:∀w,B.has w->J0 w):EndsT YP B (Qq YP 82 8 (([.agg (Xm rf Qb).toArray]).map (Q5 0 4))) (Yk (rf.Qa.map (Xt rf.Qk))):=by
 have rj0:FJ YP B (KR rf Qb) (Vc rf Qb) 2 (OO.ret (Qv 2 (QJ (MO (List.map (Xt rf.Qk) rf.Qa)) (Qg QU (List.map (Xt rf.Qk) rf.Qa))))) (([]++((2,Xo)::Xc (2+1) []))++Vc rf Qb) 3 (MP 2) []:=by
  exact FinK.fjB ((oN rf Qb hn hm hc hJ _) (0) (MT rf.Qa.length {lo:=0,hi:=0}) rfl (by omega) (by exact ej)
   (GoE.landA okF hJ Qf (Q4 (by kernel_rfl)) (Qp (by kernel_rfl)) ((GoE.refl (P:=YP) (B:=B) (c0:=KR rf Qb) (Q4 (by kernel_rfl))).widen (Wf:=((([]):List (Nat×KS)).map (·.1))) (by simp) (Qp (by kernel_rfl))) (yz B rf Qb)
   ⟨(by exact(Uy (by exact⟨(.simple rfl),⟨(.simple rfl),trivial⟩⟩) _)),⟨(fV (bytes:=16) (by kernel_rfl) (by omega) (by omega) (by omega)),trivial⟩⟩ (by kernel_rfl) (by kernel_rfl) (fun l hl=>by cases hl <;> decide))) (ex:=[]) (by kernel_rfl) (Wp _)
 exact(GoE.endsT okF hJ Qf GoE.start (yv B rf Qb)
  ⟨rj0,trivial⟩).cast (by rfl)
theorem Ah(rf:Qe)(Qb:List Int)(hn:rf.Qa.length<=1000000)(hm:0<=rf.Qk/\rf.Qk<=2000)(hc:∀k:Int,0<=k->k<rf.Qa.length->0<=(rf.Qa.getD k.toNat ML).count/\(rf.Qa.getD k.toNat ML).count<=1000000):Q0 YP J0 82 #[.agg (Xm rf Qb).toArray] (Yk (rf.Qa.map (Xt rf.Qk))):=
 XD (ts:=[.agg (Xm rf Qb).toArray]) Zs (c0:=Qq YP 82 8 (([.agg (Xm rf Qb).toArray]).map (Q5 0 4))) (by kernel_rfl) (by kernel_rfl) fun B hJ=>Br rf Qb hn hm hc hJ
end
end Go.Proofs.Ytncjjangllkokaa

