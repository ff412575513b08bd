/- Reef: what is as defined. -/
import Derived.Test.YtncjjangllkokaaZRQ11
set_option linter.all false
open Nat renaming strongRecOn->Oi,min->OA
open List renaming length_set->Ow,length_replicate->Ou,length->NG,set->Ot,replicate->Of,range->NI
open Int renaming tdiv->NF,tdiv_eq_ediv_of_nonneg->Ov,le_refl->Ol,toNat->ND
open Array renaming extract->NW,size->Ox
open Inhabited renaming default->NC
namespace Go.Proofs.Ytncjjangllkokaa
open Go Go.CE Go.RowKit
noncomputable section
set_option maxRecDepth 100000
structure Qd where
 count:Int
 room:Int
 glo:Int
 ghi:Int
 drift:Int
 into:Int
 olo:Int
 ohi:Int
 slo:Int
 shi:Int
 goal:Int
 worth:Int
deriving Inhabited
structure Qe where
 Qa:List Qd
 Qn:Int
 Qc:Int
deriving Inhabited
structure Xd where
 Qi:List Int
 Ql:List (List Int)
 Qq:List (List Int)
deriving Inhabited
def Qk(c:Qd):List Value:=[.int .i64 c.count,.int .i64 c.room,.int .i64 c.glo,.int .i64 c.ghi,.int .i64 c.drift,.int .i64 c.into,.int .i64 c.olo,.int .i64 c.ohi,.int .i64 c.slo,.int .i64 c.shi,.int .i64 c.goal,.int .i64 c.worth]
abbrev UU(xs:List Qd):Value:=QO xs.length (Qg Qk xs)
def Qz(r:Qe):List Value:=[UU r.Qa,.int .i64 r.Qn,.int .i64 r.Qc]
def Zj(x:Qd):Bool:=Wt x.count 0 1000000 && (Wt x.room 0 1000000 && (Wt x.goal 0 1000000 && (Wt x.worth 0 1000000 && (Za x.glo x.ghi 0 2000 && (Wt x.drift 0 1000 && (Za x.olo x.ohi 0 1000000 && (Za x.slo x.shi 0 1000000 && (decide (x.slo<=x.olo) && decide (x.shi<=x.ohi)))))))))
def YH(n v:Int):Bool:=decide (v= -1) || Wt v 0 (n-1)
theorem Ih{n v:Int}(h:0<=n):Wt v (-1) (n-1)=YH n v:=by
 unfold YH Wt;by_cases e:v= -1
 ·subst e;simp;omega
 ·simp[e];by_cases h1:0<=v
  ·simp[h1];omega
  ·have:¬(-1<=v):=by omega
   simp[this,h1]
def ZP(n i:Int)(x:Qd):Bool:=Zj x && (YH n x.into && !decide (x.into=i))
def Pn(ps:List Qd)(i:Int):Bool:=(JY i ps.length).all fun k=>ZP ps.length k (ps.getD k.toNat NC)
def YC(r:Qe):Bool:=Wt r.Qa.length 1 4 && (Wt r.Qn 0 2000 && Wt r.Qc 1 4)
def X1(r:Qe):Bool:=YC r && Pn r.Qa 0
def X2(r:Qe)(Qb:List Int):Bool:=decide (Qb.length=r.Qc) && Qb.all fun x=>Wt x 0 (((Vb r.Qa.length:Nat):Int)-1)
theorem Xc{ps:List Qd}{i:Int}(h:i<ps.length):Pn ps i=(ZP ps.length i (ps.getD i.toNat NC) && Pn ps (i+1)):=by
 unfold Pn;rw[Cw h,List.all_cons]
theorem Ub{ps:List Qd}{i:Int}(h:ps.length<=i):Pn ps i=true:=by
 unfold Pn;rw[zi h];rfl
theorem IM{x:Qd}(h:Zj x=true):(0<=x.count/\x.count<=1000000)/\(0<=x.room/\x.room<=1000000)/\(0<=x.goal/\x.goal<=1000000)/\(0<=x.worth/\x.worth<=1000000)/\(0<=x.glo/\x.glo<=x.ghi/\x.ghi<=2000)/\(0<=x.drift/\x.drift<=1000)/\(0<=x.olo/\x.olo<=x.ohi/\x.ohi<=1000000)/\(0<=x.slo/\x.slo<=x.shi/\x.shi<=1000000)/\x.slo<=x.olo/\x.shi<=x.ohi:=by
 simp only[Zj,YB,Wa,ep,decide_eq_true_iff]at h;omega
theorem Q5{r:Qe}(h:YC r=true):(1<=r.Qa.length/\r.Qa.length<=4)/\(0<=r.Qn/\r.Qn<=2000)/\(1<=r.Qc/\r.Qc<=4):=by
 simp only[YC,YB,Wa]at h;omega
theorem Xz{r:Qe}(h:X1 r=true):YC r=true/\∀k:Int,0<=k->k<r.Qa.length->Zj (r.Qa.getD k.toNat NC)=true/\YH r.Qa.length (r.Qa.getD k.toNat NC).into=true/\(r.Qa.getD k.toNat NC).into≠k:=by
 simp only[X1,YB]at h;refine⟨h.1,fun k h0 h1=> ?_⟩;have:=zS h.2 h0 h1;simp only[ZP,YB,Bool.not_eq_true',decide_eq_false_iff_not]at this;exact⟨this.1,this.2.1,this.2.2⟩
def Sg(x:Qd):Bool:=Wt x.count 0 1000000 && (Wt x.room 0 1000000 && (Wt x.goal 0 1000000 && (Wt x.worth 0 1000000 && (Za x.glo x.ghi 0 2000 && (Wt x.drift 0 1000 && (Za x.olo x.ohi 0 1000000 && Za x.slo x.shi 0 1000000))))))
def XG(r:Qe):Bool:=YC r && (JY 0 r.Qa.length).all fun k=>Sg (r.Qa.getD k.toNat NC) && (YH r.Qa.length (r.Qa.getD k.toNat NC).into && !decide ((r.Qa.getD k.toNat NC).into=k))
theorem H3{x:Qd}(h:Zj x=true):Sg x=true:=by
 simp only[Zj,Sg,YB]at h ⊢;exact⟨h.1,h.2.1,h.2.2.1,h.2.2.2.1,h.2.2.2.2.1,h.2.2.2.2.2.1,h.2.2.2.2.2.2.1,h.2.2.2.2.2.2.2.1⟩
theorem WC{r:Qe}(h:X1 r=true):XG r=true:=by
 obtain⟨h1,h2⟩:=Xz h;unfold XG;rw[YB];refine⟨h1,List.all_eq_true.2 fun k hk=> ?_⟩;unfold JY at hk;obtain⟨m,hm,rfl⟩:=List.mem_map.1 hk;have hm':=List.mem_range.1 hm;have:=h2 (0+(m:Int)) (by omega) (by omega);simp only[YB,Bool.not_eq_true',decide_eq_false_iff_not];exact⟨H3 this.1,this.2.1,this.2.2⟩
theorem QU{x:Qd}(h:Sg x=true):(0<=x.count/\x.count<=1000000)/\(0<=x.room/\x.room<=1000000)/\(0<=x.goal/\x.goal<=1000000)/\(0<=x.worth/\x.worth<=1000000)/\(0<=x.glo/\x.glo<=x.ghi/\x.ghi<=2000)/\(0<=x.drift/\x.drift<=1000)/\(0<=x.olo/\x.olo<=x.ohi/\x.ohi<=1000000)/\(0<=x.slo/\x.slo<=x.shi/\x.shi<=1000000)/\True:=by
 simp only[Sg,YB,Wa,ep]at h;simp only[and_true];omega
theorem Qs{r:Qe}(h:XG r=true):YC r=true/\∀k:Int,0<=k->k<r.Qa.length->Sg (r.Qa.getD k.toNat NC)=true/\YH r.Qa.length (r.Qa.getD k.toNat NC).into=true/\(r.Qa.getD k.toNat NC).into≠k:=by
 simp only[XG,YB]at h;refine⟨h.1,fun k h0 h1=> ?_⟩;have:=zS h.2 h0 h1;simp only[YB,Bool.not_eq_true',decide_eq_false_iff_not]at this;exact⟨this.1,this.2.1,this.2.2⟩
instance {r:Qe}:Coe (X1 r=true) (XG r=true):=⟨WC⟩
def fZ(x:Qd):Array Value:=#[.agg #[.int .i64 x.olo,.int .i64 x.ohi],.int .i64 1000000]
def fY(x:Qd):Array Value:=#[.agg #[.int .i64 x.slo,.int .i64 x.shi],.int .i64 1000000]
def fX(x:Qd):Array Value:=#[.agg #[.int .i64 x.glo,.int .i64 x.ghi],.int .i64 2000]
def fW(x:Qd):Array Value:=#[.int .i64 x.worth,.int .i64 0,.int .i64 1000000]
def fV(x:Qd):Array Value:=#[.int .i64 x.drift,.int .i64 0,.int .i64 1000]
def Tn(B:Lo)(x:Qd):List Prop:=[Q7 []/\Q4 YP J0 95 #[.int .i64 x.count] (.bool true)]++([]:List Prop)
def gu(x:Qd):QE:=[(4,Qj.pure (.bool true) [])]
def Tl(B:Lo)(x:Qd):List Prop:=[Q7 []/\Q4 YP J0 95 #[.int .i64 x.room] (.bool true)]++Tn B x
def gq(x:Qd):QE:=gu x++[(8,Qj.pure (.bool true) [])]
def Tk(B:Lo)(x:Qd):List Prop:=[Q7 []/\Q4 YP J0 95 #[.int .i64 x.goal] (.bool true)]++Tl B x
def gp(x:Qd):QE:=gq x++[(13,Qj.pure (.bool true) [])]
def Tj(B:Lo)(x:Qd):List Prop:=[Q7 []/\Q4 YP J0 72 (fW x) (.bool true)]++Tk B x
def gj(x:Qd):QE:=gp x++[(18,Qj.pure (.bool true) [])]
def Ti(B:Lo)(x:Qd):List Prop:=[Q7 []/\Q4 YP J0 96 (fX x) (.bool true)]++Tj B x
def gi(x:Qd):QE:=gj x++[(23,Qj.pure (.bool true) [])]
def Th(B:Lo)(x:Qd):List Prop:=[Q7 []/\Q4 YP J0 72 (fV x) (.bool true)]++Ti B x
def gh(x:Qd):QE:=gi x++[(28,Qj.pure (.bool true) [])]
def Tg(B:Lo)(x:Qd):List Prop:=[Q7 []/\Q4 YP J0 96 (fZ x) (.bool true)]++Th B x
def gf(x:Qd):QE:=gh x++[(33,Qj.pure (.bool true) [])]
def Tf(B:Lo)(x:Qd):List Prop:=[Q7 []/\Q4 YP J0 96 (fY x) (.bool true)]++Tg B x
def gd(x:Qd):QE:=gf x++[(38,Qj.pure (.bool true) [])]
def Te(B:Lo)(x:Qd):List Prop:=[(!XY x.olo x.slo)=true]++Tf B x
def ga(x:Qd):QE:=gd x++[(47,W9)]
theorem ui(B:Lo)(x:Qd):Xe (Qv YP (QA YP) J0 B 6 1 (Qw YP 73 59 (([.agg (Qk x).toArray]).map (Q8 0 4))) Ze 1
 (ga x++[(56,W9)]) 0 [] []) []=some (.bool true,
 [(!XY x.ohi x.shi)=true]++Te B x):=by kernel_rfl
theorem uh(B:Lo)(x:Qd):Xe (Qv YP (QA YP) J0 B 6 1 (Qw YP 73 59 (([.agg (Qk x).toArray]).map (Q8 0 4))) Ze 1
 (ga x++[(56,Vd)]) 0 [] []) []=some (.bool false,
 [(!XY x.ohi x.shi)=false]++Te B x):=by kernel_rfl
theorem ug(B:Lo)(x:Qd):Xe (Qv YP (QA YP) J0 B 6 1 (Qw YP 73 59 (([.agg (Qk x).toArray]).map (Q8 0 4))) Ze 1
 (gd x++[(47,Vd)]) 0 [] []) []=some (.bool false,
 [(!XY x.olo x.slo)=false]++Tf B x):=by kernel_rfl
theorem uf(B:Lo)(x:Qd):Xe (Qv YP (QA YP) J0 B 6 1 (Qw YP 73 59 (([.agg (Qk x).toArray]).map (Q8 0 4))) Ze 1
 (gf x++[(38,Qj.pure (.bool false) [])]) 0 [] []) []=some (.bool false,
 [Q7 []/\Q4 YP J0 96 (fY x) (.bool false)]++Tg B x):=by kernel_rfl
theorem ue(B:Lo)(x:Qd):Xe (Qv YP (QA YP) J0 B 6 1 (Qw YP 73 59 (([.agg (Qk x).toArray]).map (Q8 0 4))) Ze 1
 (gh x++[(33,Qj.pure (.bool false) [])]) 0 [] []) []=some (.bool false,
 [Q7 []/\Q4 YP J0 96 (fZ x) (.bool false)]++Th B x):=by kernel_rfl
theorem ud(B:Lo)(x:Qd):Xe (Qv YP (QA YP) J0 B 6 1 (Qw YP 73 59 (([.agg (Qk x).toArray]).map (Q8 0 4))) Ze 1
 (gi x++[(28,Qj.pure (.bool false) [])]) 0 [] []) []=some (.bool false,
 [Q7 []/\Q4 YP J0 72 (fV x) (.bool false)]++Ti B x):=by kernel_rfl
theorem uc(B:Lo)(x:Qd):Xe (Qv YP (QA YP) J0 B 6 1 (Qw YP 73 59 (([.agg (Qk x).toArray]).map (Q8 0 4))) Ze 1
 (gj x++[(23,Qj.pure (.bool false) [])]) 0 [] []) []=some (.bool false,
 [Q7 []/\Q4 YP J0 96 (fX x) (.bool false)]++Tj B x):=by kernel_rfl
theorem ub(B:Lo)(x:Qd):Xe (Qv YP (QA YP) J0 B 6 1 (Qw YP 73 59 (([.agg (Qk x).toArray]).map (Q8 0 4))) Ze 1
 (gp x++[(18,Qj.pure (.bool false) [])]) 0 [] []) []=some (.bool false,
 [Q7 []/\Q4 YP J0 72 (fW x) (.bool false)]++Tk B x):=by kernel_rfl
theorem ua(B:Lo)(x:Qd):Xe (Qv YP (QA YP) J0 B 6 1 (Qw YP 73 59 (([.agg (Qk x).toArray]).map (Q8 0 4))) Ze 1
 (gq x++[(13,Qj.pure (.bool false) [])]) 0 [] []) []=some (.bool false,
 [Q7 []/\Q4 YP J0 95 #[.int .i64 x.goal] (.bool false)]++Tl B x):=by kernel_rfl
theorem tZ(B:Lo)(x:Qd):Xe (Qv YP (QA YP) J0 B 6 1 (Qw YP 73 59 (([.agg (Qk x).toArray]).map (Q8 0 4))) Ze 1
 (gu x++[(8,Qj.pure (.bool false) [])]) 0 [] []) []=some (.bool false,
 [Q7 []/\Q4 YP J0 95 #[.int .i64 x.room] (.bool false)]++Tn B x):=by kernel_rfl
theorem pY(B:Lo)(x:Qd):Xe (Qv YP (QA YP) J0 B 6 1 (Qw YP 73 59 (([.agg (Qk x).toArray]).map (Q8 0 4))) Ze 1
 [(4,Qj.pure (.bool false) [])] 0 [] []) []=some (.bool false,
 [Q7 []/\Q4 YP J0 95 #[.int .i64 x.count] (.bool false)]):=by kernel_rfl
set_option maxHeartbeats 4000000 in
theorem xS(x:Qd)  {B:Lo}(hJ:∀w,B.has w->J0 w):EndsT YP B (Qw YP 73 59 (([.agg (Qk x).toArray]).map (Q8 0 4))) (.bool (Zj x)):=by
 cases q0:Wt x.count 0 1000000 with
 |true=>
  have Vg:Q7 (Tn B x):=by
   exact⟨⟨trivial,(by have t_:=Rd x.count;rw[q0]at t_;exact t_)⟩,trivial⟩
  cases q1:Wt x.room 0 1000000 with
  |true=>
   have hp1:Q7 (Tl B x):=by
    exact⟨⟨trivial,(by have t_:=Rd x.room;rw[q1]at t_;exact t_)⟩,Vg⟩
   cases q2:Wt x.goal 0 1000000 with
   |true=>
    have JU:Q7 (Tk B x):=by
     exact⟨⟨trivial,(by have t_:=Rd x.goal;rw[q2]at t_;exact t_)⟩,hp1⟩
    cases q3:Wt x.worth 0 1000000 with
    |true=>
     have hp3:Q7 (Tj B x):=by
      exact⟨⟨trivial,(by have t_:=wF x.worth (0) (1000000);rw[q3]at t_;exact t_)⟩,JU⟩
     cases q4:Za x.glo x.ghi 0 2000 with
     |true=>
      have hp4:Q7 (Ti B x):=by
       exact⟨⟨trivial,(by have t_:=ax x.glo x.ghi (2000);rw[q4]at t_;exact t_)⟩,hp3⟩
      cases q5:Wt x.drift 0 1000 with
      |true=>
       have hp5:Q7 (Th B x):=by
        exact⟨⟨trivial,(by have t_:=wF x.drift (0) (1000);rw[q5]at t_;exact t_)⟩,hp4⟩
       cases q6:Za x.olo x.ohi 0 1000000 with
       |true=>
        have hp6:Q7 (Tg B x):=by
         exact⟨⟨trivial,(by have t_:=ax x.olo x.ohi (1000000);rw[q6]at t_;exact t_)⟩,hp5⟩
        cases q7:Za x.slo x.shi 0 1000000 with
        |true=>
         have hp7:Q7 (Tf B x):=by
          exact⟨⟨trivial,(by have t_:=ax x.slo x.shi (1000000);rw[q7]at t_;exact t_)⟩,hp6⟩
         by_cases q8:(x.slo:Int)<=x.olo
         ·have hp8:Q7 (Te B x):=by
           exact⟨(VL q8),hp7⟩
          by_cases q9:(x.shi:Int)<=x.ohi
          ·exact(GoE.endsT okF hJ Qf GoE.start (ui B x)
            ⟨(VL q9),hp8⟩).cast (by(simp[Zj, *];done))
          ·exact(GoE.endsT okF hJ Qf GoE.start (uh B x)
            ⟨(VM (Int.not_le.1 q9)),hp8⟩).cast (by(simp[Zj, *];done))
         ·exact(GoE.endsT okF hJ Qf GoE.start (ug B x)
           ⟨(VM (Int.not_le.1 q8)),hp7⟩).cast (by(simp[Zj, *];done))
        |false=>
         exact(GoE.endsT okF hJ Qf GoE.start (uf B x)
          ⟨⟨trivial,(by have t_:=ax x.slo x.shi (1000000);rw[q7]at t_;exact t_)⟩,hp6⟩).cast (by(simp[Zj, *];done))
       |false=>
        exact(GoE.endsT okF hJ Qf GoE.start (ue B x)
         ⟨⟨trivial,(by have t_:=ax x.olo x.ohi (1000000);rw[q6]at t_;exact t_)⟩,hp5⟩).cast (by(simp[Zj, *];done))
      |false=>
       exact(GoE.endsT okF hJ Qf GoE.start (ud B x)
        ⟨⟨trivial,(by have t_:=wF x.drift (0) (1000);rw[q5]at t_;exact t_)⟩,hp4⟩).cast (by(simp[Zj, *];done))
     |false=>
      exact(GoE.endsT okF hJ Qf GoE.start (uc B x)
       ⟨⟨trivial,(by have t_:=ax x.glo x.ghi (2000);rw[q4]at t_;exact t_)⟩,hp3⟩).cast (by(simp[Zj, *];done))
    |false=>
     exact(GoE.endsT okF hJ Qf GoE.start (ub B x)
      ⟨⟨trivial,(by have t_:=wF x.worth (0) (1000000);rw[q3]at t_;exact t_)⟩,JU⟩).cast (by(simp[Zj, *];done))
   |false=>
    exact(GoE.endsT okF hJ Qf GoE.start (ua B x)
     ⟨⟨trivial,(by have t_:=Rd x.goal;rw[q2]at t_;exact t_)⟩,hp1⟩).cast (by(simp[Zj, *];done))
  |false=>
   exact(GoE.endsT okF hJ Qf GoE.start (tZ B x)
    ⟨⟨trivial,(by have t_:=Rd x.room;rw[q1]at t_;exact t_)⟩,Vg⟩).cast (by(simp[Zj, *];done))
 |false=>
  exact(GoE.endsT okF hJ Qf GoE.start (pY B x)
   ⟨⟨trivial,(by have t_:=Rd x.count;rw[q0]at t_;exact t_)⟩,trivial⟩).cast (by(simp[Zj, *];done))
theorem uk(x:Qd)  :Q4 YP J0 73 #[.agg (Qk x).toArray] (.bool (Zj x)):=
 Xr (ts:=[.agg (Qk x).toArray]) Zk (c0:=Qw YP 73 59 (([.agg (Qk x).toArray]).map (Q8 0 4))) (by kernel_rfl) (by kernel_rfl) fun B hJ=>xS x  hJ
def cV(r:Qe)(k:Int):Array Value:=#[.int .i64 k,.int .i64 0,.int .i64 ((↑r.Qa.length:Int)-1)]
def Sj(B:Lo)(r:Qe)(k:Int):List Prop:=[wq ((↑r.Qa.length:Int)-1)=(↑r.Qa.length:Int)-1]++([]:List Prop)
def cW(r:Qe)(k:Int):QE:=[(6,Wu ((↑r.Qa.length:Int)-1))]
theorem qa(B:Lo)(r:Qe)(k:Int):Xe (Qv YP (QA YP) J0 B 6 1 (Qw YP 70 11 (([.agg (Qz r).toArray,.int .i64 k]).map (Q8 0 4))) Ze 1
 (cW r k++[(7,Qj.pure (.bool true) [])]) 0 [] []) []=some (.bool true,
 [Q7 []/\Q4 YP J0 72 (cV r k) (.bool true)]++Sj B r k):=by kernel_rfl
theorem pZ(B:Lo)(r:Qe)(k:Int):Xe (Qv YP (QA YP) J0 B 6 1 (Qw YP 70 11 (([.agg (Qz r).toArray,.int .i64 k]).map (Q8 0 4))) Ze 1
 (cW r k++[(7,Qj.pure (.bool false) [])]) 0 [] []) []=some (.bool false,
 [Q7 []/\Q4 YP J0 72 (cV r k) (.bool false)]++Sj B r k):=by kernel_rfl
set_option maxHeartbeats 4000000 in
theorem um(r:Qe)(k:Int)  (Zq:r.Qa.length<=9223372036854775807){B:Lo}(hJ:∀w,B.has w->J0 w):EndsT YP B (Qw YP 70 11 (([.agg (Qz r).toArray,.int .i64 k]).map (Q8 0 4))) (.bool (Wt k 0 (r.Qa.length-1))):=by
 have Vg:Q7 (Sj B r k):=by
  exact⟨(Xb (by omega) (by omega)),trivial⟩
 cases q0:Wt k 0 ((↑r.Qa.length:Int)-1)with
 |true=>
  exact(GoE.endsT okF hJ Qf GoE.start (qa B r k)
   ⟨⟨trivial,(by have t_:=wF (k) (0) ((↑r.Qa.length:Int)-1);rw[q0]at t_;exact t_)⟩,Vg⟩).cast (by rfl)
 |false=>
  exact(GoE.endsT okF hJ Qf GoE.start (pZ B r k)
   ⟨⟨trivial,(by have t_:=wF (k) (0) ((↑r.Qa.length:Int)-1);rw[q0]at t_;exact t_)⟩,Vg⟩).cast (by rfl)
theorem aj(r:Qe)(k:Int)  :Q4 YP J0 70 #[.agg (Qz r).toArray,.int .i64 k] (.bool (Wt k 0 (r.Qa.length-1))):=
 UX (ts:=[.agg (Qz r).toArray,.int .i64 k]) (r.Qa.length<=9223372036854775807) (fun _ _ ht=>ht.ln2 (i:=0) (j:=0) rfl rfl) Zk (c0:=Qw YP 70 11 (([.agg (Qz r).toArray,.int .i64 k]).map (Q8 0 4))) (by kernel_rfl) (by kernel_rfl) fun Zq B hJ=>um r k  Zq hJ
def Si(x_:Qd):Array Value:=#[.int .i64 x_.count,.int .i64 x_.room,.int .i64 x_.glo,.int .i64 x_.ghi,.int .i64 x_.drift,.int .i64 x_.into,.int .i64 x_.olo,.int .i64 x_.ohi,.int .i64 x_.slo,.int .i64 x_.shi,.int .i64 x_.goal,.int .i64 x_.worth]
def kg(r:Qe)(i:Int):Array Value:=#[.agg #[QO r.Qa.length (Qg Qk r.Qa),.int .i64 r.Qn,.int .i64 r.Qc],.int .i64 (Qd.into (r.Qa.getD i.toNat NC))]
def kf(r:Qe):Array Value:=#[.int .i64 (↑r.Qa.length:Int),.int .i64 1,.int .i64 4]
def kb(r:Qe):Array Value:=#[.int .i64 r.Qn,.int .i64 0,.int .i64 2000]
def ka(r:Qe):Array Value:=#[.int .i64 r.Qc,.int .i64 1,.int .i64 4]
def WI(r:Qe)(i:Int):List Value:=[pA 2 0,Q6 1 (QO r.Qa.length (Qg Qk r.Qa)),.int .i64 (↑r.Qa.length:Int),.int .i64 i]
def XX(r:Qe)(i:Int):List Obj:=[Obj.cells #[Q6 1 (QO r.Qa.length (Qg Qk r.Qa)),.int .i64 r.Qn,.int .i64 r.Qc] 24]
def WJ:List Item:=([.code [1,1,0,1,0,0],.inLoop [1,1,0,1,0,0],.inBlock 0,.code [1,1,1]]).map (it (QX YP 50))
def xO(B:Lo)(c0:CF)(r:Qe)(i:Int):Prop:=∃dJ:Nat->Value,(∀t,X4 (dJ t))/\GoE YP B c0 Ze 1 (QJ 50 52 (([1,23,24,25]:List Nat).zip (WI r i)) dJ WJ) (QH (XX r i)) (2+(XX r i).length) []
def bz(B:Lo)(r:Qe)(i:Int)(Qt:Nat->Value):List Prop:=[Vq i r.Qa.length (Qg Qk r.Qa) Try.t54.size (Si (r.Qa.getD i.toNat NC)),XY i (↑r.Qa.length:Int)=true]++([]:List Prop)
def ky(r:Qe)(i:Int)(Qt:Nat->Value):QE:=[(0,W9),(2,Qj.tidx i.toNat (Si (r.Qa.getD i.toNat NC)))]
def bw(B:Lo)(r:Qe)(i:Int)(Qt:Nat->Value):List Prop:=[Q7 []/\Q4 YP J0 73 #[.agg (Si (r.Qa.getD i.toNat NC))] (.bool true)]++bz B r i Qt
def kx(r:Qe)(i:Int)(Qt:Nat->Value):QE:=ky r i Qt++[(8,Qj.pure (.bool true) [])]
def bu(B:Lo)(r:Qe)(i:Int)(Qt:Nat->Value):List Prop:=[(!YM (Qd.into (r.Qa.getD i.toNat NC)) (-1))=true]++bw B r i Qt
def ku(r:Qe)(i:Int)(Qt:Nat->Value):QE:=kx r i Qt++[(13,W9)]
def bt(B:Lo)(r:Qe)(i:Int)(Qt:Nat->Value):List Prop:=[Q7 []/\Q4 YP J0 70 (kg r i) (.bool true)]++bu B r i Qt
def kq(r:Qe)(i:Int)(Qt:Nat->Value):QE:=ku r i Qt++[(18,Qj.pure (.bool true) [])]
theorem xM(B:Lo)(r:Qe)(i:Int)(Qt:Nat->Value):Xe (Qv YP (QA YP) J0 B 16 1 (QJ 50 52 (([1,23,24,25]:List Nat).zip (WI r i)) Qt WJ) (QH (XX r i)) (2+(XX r i).length)
 (kq r i Qt++[(26,W9)]) 0 [] []) []=some (.bool false,
 [YM (Qd.into (r.Qa.getD i.toNat NC)) i=true]++bt B r i Qt):=by kernel_rfl
theorem xL(B:Lo)(r:Qe)(i:Int)(Qt:Nat->Value):landM (Qv YP (QA YP) J0 B 16 1 (QJ 50 52 (([1,23,24,25]:List Nat).zip (WI r i)) Qt WJ) (QH (XX r i)) (2+(XX r i).length)
 (kq r i Qt++[(26,Vd),(28,Wu (i+1))]) 0 [] []) [1,23,24,25] [(2,KS.auto)] []=some ⟨50,52,WJ,[],.run,none,WI r (i+1),XX r (i+1),
 [wq (i+1)=i+1,YM (Qd.into (r.Qa.getD i.toNat NC)) i=false]++bt B r i Qt⟩:=by kernel_rfl
theorem xK(B:Lo)(r:Qe)(i:Int)(Qt:Nat->Value):Xe (Qv YP (QA YP) J0 B 16 1 (QJ 50 52 (([1,23,24,25]:List Nat).zip (WI r i)) Qt WJ) (QH (XX r i)) (2+(XX r i).length)
 (ku r i Qt++[(18,Qj.pure (.bool false) [])]) 0 [] []) []=some (.bool false,
 [Q7 []/\Q4 YP J0 70 (kg r i) (.bool false)]++bu B r i Qt):=by kernel_rfl
def bq(B:Lo)(r:Qe)(i:Int)(Qt:Nat->Value):List Prop:=[(!YM (Qd.into (r.Qa.getD i.toNat NC)) (-1))=false]++bw B r i Qt
def kj(r:Qe)(i:Int)(Qt:Nat->Value):QE:=kx r i Qt++[(13,Vd)]
theorem xJ(B:Lo)(r:Qe)(i:Int)(Qt:Nat->Value):Xe (Qv YP (QA YP) J0 B 16 1 (QJ 50 52 (([1,23,24,25]:List Nat).zip (WI r i)) Qt WJ) (QH (XX r i)) (2+(XX r i).length)
 (kj r i Qt++[(26,W9)]) 0 [] []) []=some (.bool false,
 [YM (Qd.into (r.Qa.getD i.toNat NC)) i=true]++bq B r i Qt):=by kernel_rfl
theorem xI(B:Lo)(r:Qe)(i:Int)(Qt:Nat->Value):landM (Qv YP (QA YP) J0 B 16 1 (QJ 50 52 (([1,23,24,25]:List Nat).zip (WI r i)) Qt WJ) (QH (XX r i)) (2+(XX r i).length)
 (kj r i Qt++[(26,Vd),(28,Wu (i+1))]) 0 [] []) [1,23,24,25] [(2,KS.auto)] []=some ⟨50,52,WJ,[],.run,none,WI r (i+1),XX r (i+1),
 [wq (i+1)=i+1,YM (Qd.into (r.Qa.getD i.toNat NC)) i=false]++bq B r i Qt⟩:=by kernel_rfl
theorem xH(B:Lo)(r:Qe)(i:Int)(Qt:Nat->Value):Xe (Qv YP (QA YP) J0 B 16 1 (QJ 50 52 (([1,23,24,25]:List Nat).zip (WI r i)) Qt WJ) (QH (XX r i)) (2+(XX r i).length)
 (ky r i Qt++[(8,Qj.pure (.bool false) [])]) 0 [] []) []=some (.bool false,
 [Q7 []/\Q4 YP J0 73 #[.agg (Si (r.Qa.getD i.toNat NC))] (.bool false)]++bz B r i Qt):=by kernel_rfl
theorem xG(B:Lo)(r:Qe)(i:Int)(Qt:Nat->Value):Xe (Qv YP (QA YP) J0 B 9 1 (QJ 50 52 (([1,23,24,25]:List Nat).zip (WI r i)) Qt WJ) (QH (XX r i)) (2+(XX r i).length)
 [(0,Vd)] 0 [] []) []=some (.bool true,
 [XY i (↑r.Qa.length:Int)=false]):=by kernel_rfl
def bp(B:Lo)(r:Qe):List Prop:=[Q7 []/\Q4 YP J0 72 (kf r) (.bool true)]++([]:List Prop)
def ki(r:Qe):QE:=[(5,Qj.pure (.bool true) [])]
def bo(B:Lo)(r:Qe):List Prop:=[Q7 []/\Q4 YP J0 72 (kb r) (.bool true)]++bp B r
def kh(r:Qe):QE:=ki r++[(10,Qj.pure (.bool true) [])]
theorem xF(B:Lo)(r:Qe):landM (Qv YP (QA YP) J0 B 12 1 (Qw YP 50 52 (([.agg (Qz r).toArray]).map (Q8 0 4))) Ze 1
 (kh r++[(16,Qj.pure (.bool true) [])]) 0 [] []) [1,23,24,25] [(1,KS.auto)] []=some ⟨50,52,WJ,[],.run,none,WI r (0),XX r (0),
 [Q7 []/\Q4 YP J0 72 (ka r) (.bool true)]++bo B r⟩:=by kernel_rfl
theorem xE(B:Lo)(r:Qe):Xe (Qv YP (QA YP) J0 B 10 1 (Qw YP 50 52 (([.agg (Qz r).toArray]).map (Q8 0 4))) Ze 1
 (kh r++[(16,Qj.pure (.bool false) [])]) 0 [] []) []=some (.bool false,
 [Q7 []/\Q4 YP J0 72 (ka r) (.bool false)]++bo B r):=by kernel_rfl
theorem xD(B:Lo)(r:Qe):Xe (Qv YP (QA YP) J0 B 10 1 (Qw YP 50 52 (([.agg (Qz r).toArray]).map (Q8 0 4))) Ze 1
 (ki r++[(10,Qj.pure (.bool false) [])]) 0 [] []) []=some (.bool false,
 [Q7 []/\Q4 YP J0 72 (kb r) (.bool false)]++bp B r):=by kernel_rfl
theorem tY(B:Lo)(r:Qe):Xe (Qv YP (QA YP) J0 B 10 1 (Qw YP 50 52 (([.agg (Qz r).toArray]).map (Q8 0 4))) Ze 1
 [(5,Qj.pure (.bool false) [])] 0 [] []) []=some (.bool false,
 [Q7 []/\Q4 YP J0 72 (kf r) (.bool false)]):=by kernel_rfl
set_option maxHeartbeats 4000000 in
theorem xN(r:Qe)  (Zq:r.Qa.length<=9223372036854775807){B:Lo}(hJ:∀w,B.has w->J0 w){c0:CF}:∀m:Nat,(∀(i:Int),r.Qa.length-i.toNat=m->∀(h0:0<=i),xO B c0 r i->EndsT YP B c0 (.bool (Pn r.Qa i))):=by
 intro m0;induction m0 using Oi with
 |_ m0 ih0=>
  intro i Ru h0 ⟨Qt,Vs,XL⟩;by_cases q0:(i:Int)<((↑r.Qa.length:Int))
  ·have Vg:Q7 (bz B r i Qt):=by
    have s2:=Xc (ps:=r.Qa) q0;exact⟨⟨by omega,by omega,(Q0 (z:=12) (fun _=>rfl) (by omega))⟩,⟨(XD q0),trivial⟩⟩
   cases q1:Zj (r.Qa.getD i.toNat NC)with
   |true=>
    have hp1:Q7 (bw B r i Qt):=by
     have s2:=Xc (ps:=r.Qa) q0;exact⟨⟨trivial,(by have t_:=uk (r.Qa.getD i.toNat NC);rw[q1]at t_;exact t_)⟩,Vg⟩
    by_cases q2:(Qd.into (r.Qa.getD i.toNat NC):Int)≠(-1)
    ·have JU:Q7 (bu B r i Qt):=by
      exact⟨(LN q2),hp1⟩
     cases q3:Wt (Qd.into (r.Qa.getD i.toNat NC)) 0 ((↑r.Qa.length:Int)-1)with
     |true=>
      have hp3:Q7 (bt B r i Qt):=by
       have s2:=Xc (ps:=r.Qa) q0;exact⟨⟨trivial,(by have t_:=aj (r) (Qd.into (r.Qa.getD i.toNat NC));rw[q3]at t_;exact t_)⟩,JU⟩
      by_cases q4:(Qd.into (r.Qa.getD i.toNat NC):Int)=(i)
      ·have s2:=Xc (ps:=r.Qa) q0;exact(GoE.endsT okF hJ Qf XL (xM B r i Qt)
        ⟨(K2 q4),hp3⟩).cast (by(rw[s2];simp_all[ZP,YH];done))
      ·have s2:=Xc (ps:=r.Qa) q0;exact((ih0 _ (by omega)) (i+1) rfl (by omega)
        (XL.landM okF hJ Qf (xL B r i Qt)
        ⟨(Xb (by omega) (by omega)),⟨(K3 q4),hp3⟩⟩ (by kernel_rfl) (by kernel_rfl))).cast (by(rw[s2];simp_all[ZP,YH];done))
     |false=>
      have s2:=Xc (ps:=r.Qa) q0;exact(GoE.endsT okF hJ Qf XL (xK B r i Qt)
       ⟨⟨trivial,(by have t_:=aj (r) (Qd.into (r.Qa.getD i.toNat NC));rw[q3]at t_;exact t_)⟩,JU⟩).cast (by(rw[s2];simp_all[ZP,YH];done))
    ·have hp4:Q7 (bq B r i Qt):=by
      exact⟨(LO (Decidable.of_not_not q2)),hp1⟩
     by_cases q3:(Qd.into (r.Qa.getD i.toNat NC):Int)=(i)
     ·have s2:=Xc (ps:=r.Qa) q0;have s2:=Ub (ps:=r.Qa) (i:=i) (by omega);exact(GoE.endsT okF hJ Qf XL (xJ B r i Qt)
       ⟨(K2 q3),hp4⟩).cast (by(rw[s2];simp_all[ZP,YH];done))
     ·have s2:=Xc (ps:=r.Qa) q0;exact((ih0 _ (by omega)) (i+1) rfl (by omega)
       (XL.landM okF hJ Qf (xI B r i Qt)
       ⟨(Xb (by omega) (by omega)),⟨(K3 q3),hp4⟩⟩ (by kernel_rfl) (by kernel_rfl))).cast (by(rw[s2];simp_all[ZP,YH];done))
   |false=>
    have s2:=Xc (ps:=r.Qa) q0;exact(GoE.endsT okF hJ Qf XL (xH B r i Qt)
     ⟨⟨trivial,(by have t_:=uk (r.Qa.getD i.toNat NC);rw[q1]at t_;exact t_)⟩,Vg⟩).cast (by(rw[s2];simp_all[ZP,YH];done))
  ·have s2:=Ub (ps:=r.Qa) (i:=i) (by omega);exact(GoE.endsT okF hJ Qf XL (xG B r i Qt)
    ⟨(Zb (Int.not_lt.1 q0)),trivial⟩).cast (by(rw[s2];done))
set_option maxHeartbeats 4000000 in
theorem Bb(r:Qe)  (Zq:r.Qa.length<=9223372036854775807){B:Lo}(hJ:∀w,B.has w->J0 w):EndsT YP B (Qw YP 50 52 (([.agg (Qz r).toArray]).map (Q8 0 4))) (.bool (X1 r)):=by
 cases q0:Wt (↑r.Qa.length:Int) 1 4 with
 |true=>
  have hp5:Q7 (bp B r):=by
   exact⟨⟨trivial,(by have t_:=wF ((↑r.Qa.length:Int)) (1) (4);rw[q0]at t_;exact t_)⟩,trivial⟩
  cases q1:Wt r.Qn 0 2000 with
  |true=>
   have hp6:Q7 (bo B r):=by
    exact⟨⟨trivial,(by have t_:=wF r.Qn (0) (2000);rw[q1]at t_;exact t_)⟩,hp5⟩
   cases q2:Wt r.Qc 1 4 with
   |true=>
    exact((xN r Zq hJ _) (0) rfl (by omega)
     (GoE.start.landM okF hJ Qf (xF B r)
     ⟨⟨trivial,(by have t_:=wF r.Qc (1) (4);rw[q2]at t_;exact t_)⟩,hp6⟩ (by kernel_rfl) (by kernel_rfl))).cast (by(simp only[X1,YC];simp[*];done))
   |false=>
    exact(GoE.endsT okF hJ Qf GoE.start (xE B r)
     ⟨⟨trivial,(by have t_:=wF r.Qc (1) (4);rw[q2]at t_;exact t_)⟩,hp6⟩).cast (by(simp only[X1,YC];simp[*];done))
  |false=>
   exact(GoE.endsT okF hJ Qf GoE.start (xD B r)
    ⟨⟨trivial,(by have t_:=wF r.Qn (0) (2000);rw[q1]at t_;exact t_)⟩,hp5⟩).cast (by(simp only[X1,YC];simp[*];done))
 |false=>
  exact(GoE.endsT okF hJ Qf GoE.start (tY B r)
   ⟨⟨trivial,(by have t_:=wF ((↑r.Qa.length:Int)) (1) (4);rw[q0]at t_;exact t_)⟩,trivial⟩).cast (by(simp only[X1,YC];simp[*];done))
theorem z4(r:Qe)  :Q4 YP J0 50 #[.agg (Qz r).toArray] (.bool (X1 r)):=
 UX (ts:=[.agg (Qz r).toArray]) (r.Qa.length<=9223372036854775807) (fun _ _ ht=>ht.ln2 (i:=0) (j:=0) rfl rfl) Zk (c0:=Qw YP 50 52 (([.agg (Qz r).toArray]).map (Q8 0 4))) (by kernel_rfl) (by kernel_rfl) fun Zq B hJ=>Bb r  Zq hJ
def Z5(r:Qe)(i:Int):List Value:=[pA 2 0,.int .i64 i]
def Xu(r:Qe)(i:Int):List Obj:=[Obj.cells #[Q6 1 (QO r.Qa.length (Qg Qk r.Qa)),.int .i64 r.Qn,.int .i64 r.Qc] 24]
def Z6:List Item:=([.code [1,0,1,0,0],.inLoop [1,0,1,0,0],.inBlock 0,.code [1,1]]).map (it (QX YP 20))
def D1(B:Lo)(c0:CF)(r:Qe)(i:Int):Prop:=∃dJ:Nat->Value,(∀t,X4 (dJ t))/\GoE YP B c0 Ze 1 (QJ 20 111 (([1,3]:List Nat).zip (Z5 r i)) dJ Z6) (QH (Xu r i)) (2+(Xu r i).length) []
def YZ(r:Qe)(i:Int):=(r.Qa.getD i.toNat NC)
def Jw(r:Qe)(i:Int):=(YZ r i)
def V8(r:Qe)(i:Int):=(Jw r i)
def sK(r:Qe)(i:Int):Array Value:=#[.int .i64 (Qd.count (V8 r i)),.int .i64 (Qd.room (V8 r i)),.int .i64 (Qd.glo (V8 r i)),.int .i64 (Qd.ghi (V8 r i)),.int .i64 (Qd.drift (V8 r i)),.int .i64 (Qd.into (V8 r i)),.int .i64 (Qd.olo (V8 r i)),.int .i64 (Qd.ohi (V8 r i)),.int .i64 (Qd.slo (V8 r i)),.int .i64 (Qd.shi (V8 r i)),.int .i64 (Qd.goal (V8 r i)),.int .i64 (Qd.worth (V8 r i))]
def sJ(r:Qe)(i:Int):Array Value:=#[.agg #[.int .i64 (Qd.olo (Jw r i)),.int .i64 (Qd.ohi (Jw r i))],.int .i64 1000000]
def sI(r:Qe)(i:Int):Array Value:=#[.agg #[.int .i64 (Qd.slo (Jw r i)),.int .i64 (Qd.shi (Jw r i))],.int .i64 1000000]
def sH(r:Qe)(i:Int):Array Value:=#[.agg #[.int .i64 (Qd.glo (Jw r i)),.int .i64 (Qd.ghi (Jw r i))],.int .i64 2000]
def sG(r:Qe)(i:Int):Array Value:=#[.int .i64 (Qd.into (YZ r i)),.int .i64 (-1),.int .i64 ((↑r.Qa.length:Int)-1)]
def sF(r:Qe)(i:Int):Array Value:=#[.int .i64 (Qd.count (YZ r i)),.int .i64 0,.int .i64 1000000]
def sE(r:Qe)(i:Int):Array Value:=#[.int .i64 (Qd.worth (YZ r i)),.int .i64 0,.int .i64 1000000]
def sD(r:Qe)(i:Int):Array Value:=#[.int .i64 (Qd.room (YZ r i)),.int .i64 0,.int .i64 1000000]
def nU(r:Qe)(i:Int):Array Value:=#[.int .i64 (Qd.goal (YZ r i)),.int .i64 0,.int .i64 1000000]
def nT(r:Qe)(i:Int):Array Value:=#[.int .i64 (Qd.drift (r.Qa.getD i.toNat NC)),.int .i64 0,.int .i64 1000]
def nS(r:Qe):Array Value:=#[.int .i64 (↑r.Qa.length:Int),.int .i64 1,.int .i64 4]
def nR(r:Qe):Array Value:=#[.int .i64 r.Qn,.int .i64 0,.int .i64 2000]
def nQ(r:Qe):Array Value:=#[.int .i64 r.Qc,.int .i64 1,.int .i64 4]
def jG(B:Lo)(r:Qe)(i:Int)(Qt:Nat->Value):List Prop:=[Vq i r.Qa.length (Qg Qk r.Qa) Try.t54.size (sK r i),XY i (↑r.Qa.length:Int)=true]++([]:List Prop)
def sU(r:Qe)(i:Int)(Qt:Nat->Value):QE:=[(4,W9),(8,Qj.tidx i.toNat (sK r i))]
def jF(B:Lo)(r:Qe)(i:Int)(Qt:Nat->Value):List Prop:=[Q7 []/\Q4 YP J0 55 (sF r i) (.bool true)]++jG B r i Qt
def sT(r:Qe)(i:Int)(Qt:Nat->Value):QE:=sU r i Qt++[(14,Qj.pure (.bool true) [])]
def jE(B:Lo)(r:Qe)(i:Int)(Qt:Nat->Value):List Prop:=[Q7 []/\Q4 YP J0 55 (sD r i) (.bool true)]++jF B r i Qt
def sS(r:Qe)(i:Int)(Qt:Nat->Value):QE:=sT r i Qt++[(19,Qj.pure (.bool true) [])]
def jD(B:Lo)(r:Qe)(i:Int)(Qt:Nat->Value):List Prop:=[Q7 []/\Q4 YP J0 55 (nU r i) (.bool true)]++jE B r i Qt
def sR(r:Qe)(i:Int)(Qt:Nat->Value):QE:=sS r i Qt++[(25,Qj.pure (.bool true) [])]
def jC(B:Lo)(r:Qe)(i:Int)(Qt:Nat->Value):List Prop:=[Q7 []/\Q4 YP J0 56 (sH r i) (.bool true)]++jD B r i Qt
def sQ(r:Qe)(i:Int)(Qt:Nat->Value):QE:=sR r i Qt++[(31,Qj.pure (.bool true) [])]
def jB(B:Lo)(r:Qe)(i:Int)(Qt:Nat->Value):List Prop:=[wq ((↑r.Qa.length:Int)-1)=(↑r.Qa.length:Int)-1,Q7 []/\Q4 YP J0 55 (nT r i) (.bool true)]++jC B r i Qt
def sP(r:Qe)(i:Int)(Qt:Nat->Value):QE:=sQ r i Qt++[(37,Qj.pure (.bool true) []),(46,Wu ((↑r.Qa.length:Int)-1))]
def jA(B:Lo)(r:Qe)(i:Int)(Qt:Nat->Value):List Prop:=[Q7 []/\Q4 YP J0 55 (sG r i) (.bool true)]++jB B r i Qt
def sO(r:Qe)(i:Int)(Qt:Nat->Value):QE:=sP r i Qt++[(47,Qj.pure (.bool true) [])]
theorem Dz(B:Lo)(r:Qe)(i:Int)(Qt:Nat->Value):Xe (Qv YP (QA YP) J0 B 16 1 (QJ 20 111 (([1,3]:List Nat).zip (Z5 r i)) Qt Z6) (QH (Xu r i)) (2+(Xu r i).length)
 (sO r i Qt++[(54,W9)]) 0 [] []) []=some (.bool false,
 [YM (Qd.into (r.Qa.getD i.toNat NC)) i=true]++jA B r i Qt):=by kernel_rfl
def j9(B:Lo)(r:Qe)(i:Int)(Qt:Nat->Value):List Prop:=[YM (Qd.into (r.Qa.getD i.toNat NC)) i=false]++jA B r i Qt
def sN(r:Qe)(i:Int)(Qt:Nat->Value):QE:=sO r i Qt++[(54,Vd)]
def j8(B:Lo)(r:Qe)(i:Int)(Qt:Nat->Value):List Prop:=[Q7 []/\Q4 YP J0 56 (sJ r i) (.bool true)]++j9 B r i Qt
def sM(r:Qe)(i:Int)(Qt:Nat->Value):QE:=sN r i Qt++[(59,Qj.pure (.bool true) [])]
def j7(B:Lo)(r:Qe)(i:Int)(Qt:Nat->Value):List Prop:=[Q7 []/\Q4 YP J0 56 (sI r i) (.bool true)]++j8 B r i Qt
def sL(r:Qe)(i:Int)(Qt:Nat->Value):QE:=sM r i Qt++[(65,Qj.pure (.bool true) [])]
theorem Dy(B:Lo)(r:Qe)(i:Int)(Qt:Nat->Value):let a:=r.Qa.getD i.toNat NC;Xe (Qv YP (QA YP) J0 B 16 1 (QJ 20 111 (([1,3]:List Nat).zip (Z5 r i)) Qt Z6) (QH (Xu r i)) (2+(Xu r i).length)
 (sL r i Qt++[(75,W9)]) 0 [] []) []=some (.bool false,
 [XY a.olo a.slo=true]++j7 B r i Qt):=by intro a;kernel_rfl
def eF(B:Lo)(r:Qe)(i:Int)(Qt:Nat->Value):List Prop:=[XY (Qd.olo (r.Qa.getD i.toNat NC)) (Qd.slo (r.Qa.getD i.toNat NC))=false]++j7 B r i Qt
def nZ(r:Qe)(i:Int)(Qt:Nat->Value):QE:=sL r i Qt++[(75,Vd)]
theorem Dx(B:Lo)(r:Qe)(i:Int)(Qt:Nat->Value):let a:=r.Qa.getD i.toNat NC;Xe (Qv YP (QA YP) J0 B 16 1 (QJ 20 111 (([1,3]:List Nat).zip (Z5 r i)) Qt Z6) (QH (Xu r i)) (2+(Xu r i).length)
 (nZ r i Qt++[(84,W9)]) 0 [] []) []=some (.bool false,
 [XY a.ohi a.shi=true]++eF B r i Qt):=by intro a;kernel_rfl
def eE(B:Lo)(r:Qe)(i:Int)(Qt:Nat->Value):List Prop:=[XY (Qd.ohi (r.Qa.getD i.toNat NC)) (Qd.shi (r.Qa.getD i.toNat NC))=false]++eF B r i Qt
def nY(r:Qe)(i:Int)(Qt:Nat->Value):QE:=nZ r i Qt++[(84,Vd)]
theorem Dw(B:Lo)(r:Qe)(i:Int)(Qt:Nat->Value):landM (Qv YP (QA YP) J0 B 16 1 (QJ 20 111 (([1,3]:List Nat).zip (Z5 r i)) Qt Z6) (QH (Xu r i)) (2+(Xu r i).length)
 (nY r i Qt++[(89,Qj.pure (.bool true) []),(93,Wu (i+1))]) 0 [] []) [1,3] [(2,KS.auto)] []=some ⟨20,111,Z6,[],.run,none,Z5 r (i+1),Xu r (i+1),
 [wq (i+1)=i+1,Q7 []/\Q4 YP J0 55 (sE r i) (.bool true)]++eE B r i Qt⟩:=by kernel_rfl
theorem Dv(B:Lo)(r:Qe)(i:Int)(Qt:Nat->Value):Xe (Qv YP (QA YP) J0 B 16 1 (QJ 20 111 (([1,3]:List Nat).zip (Z5 r i)) Qt Z6) (QH (Xu r i)) (2+(Xu r i).length)
 (nY r i Qt++[(89,Qj.pure (.bool false) [])]) 0 [] []) []=some (.bool false,
 [Q7 []/\Q4 YP J0 55 (sE r i) (.bool false)]++eE B r i Qt):=by kernel_rfl
theorem Du(B:Lo)(r:Qe)(i:Int)(Qt:Nat->Value):Xe (Qv YP (QA YP) J0 B 16 1 (QJ 20 111 (([1,3]:List Nat).zip (Z5 r i)) Qt Z6) (QH (Xu r i)) (2+(Xu r i).length)
 (sM r i Qt++[(65,Qj.pure (.bool false) [])]) 0 [] []) []=some (.bool false,
 [Q7 []/\Q4 YP J0 56 (sI r i) (.bool false)]++j8 B r i Qt):=by kernel_rfl
theorem Dt(B:Lo)(r:Qe)(i:Int)(Qt:Nat->Value):Xe (Qv YP (QA YP) J0 B 16 1 (QJ 20 111 (([1,3]:List Nat).zip (Z5 r i)) Qt Z6) (QH (Xu r i)) (2+(Xu r i).length)
 (sN r i Qt++[(59,Qj.pure (.bool false) [])]) 0 [] []) []=some (.bool false,
 [Q7 []/\Q4 YP J0 56 (sJ r i) (.bool false)]++j9 B r i Qt):=by kernel_rfl
theorem Ds(B:Lo)(r:Qe)(i:Int)(Qt:Nat->Value):Xe (Qv YP (QA YP) J0 B 16 1 (QJ 20 111 (([1,3]:List Nat).zip (Z5 r i)) Qt Z6) (QH (Xu r i)) (2+(Xu r i).length)
 (sP r i Qt++[(47,Qj.pure (.bool false) [])]) 0 [] []) []=some (.bool false,
 [Q7 []/\Q4 YP J0 55 (sG r i) (.bool false)]++jB B r i Qt):=by kernel_rfl
theorem Dr(B:Lo)(r:Qe)(i:Int)(Qt:Nat->Value):Xe (Qv YP (QA YP) J0 B 16 1 (QJ 20 111 (([1,3]:List Nat).zip (Z5 r i)) Qt Z6) (QH (Xu r i)) (2+(Xu r i).length)
 (sQ r i Qt++[(37,Qj.pure (.bool false) [])]) 0 [] []) []=some (.bool false,
 [Q7 []/\Q4 YP J0 55 (nT r i) (.bool false)]++jC B r i Qt):=by kernel_rfl
theorem Dq(B:Lo)(r:Qe)(i:Int)(Qt:Nat->Value):Xe (Qv YP (QA YP) J0 B 16 1 (QJ 20 111 (([1,3]:List Nat).zip (Z5 r i)) Qt Z6) (QH (Xu r i)) (2+(Xu r i).length)
 (sR r i Qt++[(31,Qj.pure (.bool false) [])]) 0 [] []) []=some (.bool false,
 [Q7 []/\Q4 YP J0 56 (sH r i) (.bool false)]++jD B r i Qt):=by kernel_rfl
theorem Az(B:Lo)(r:Qe)(i:Int)(Qt:Nat->Value):Xe (Qv YP (QA YP) J0 B 16 1 (QJ 20 111 (([1,3]:List Nat).zip (Z5 r i)) Qt Z6) (QH (Xu r i)) (2+(Xu r i).length)
 (sS r i Qt++[(25,Qj.pure (.bool false) [])]) 0 [] []) []=some (.bool false,
 [Q7 []/\Q4 YP J0 55 (nU r i) (.bool false)]++jE B r i Qt):=by kernel_rfl
theorem Ay(B:Lo)(r:Qe)(i:Int)(Qt:Nat->Value):Xe (Qv YP (QA YP) J0 B 16 1 (QJ 20 111 (([1,3]:List Nat).zip (Z5 r i)) Qt Z6) (QH (Xu r i)) (2+(Xu r i).length)
 (sT r i Qt++[(19,Qj.pure (.bool false) [])]) 0 [] []) []=some (.bool false,
 [Q7 []/\Q4 YP J0 55 (sD r i) (.bool false)]++jF B r i Qt):=by kernel_rfl
theorem Ax(B:Lo)(r:Qe)(i:Int)(Qt:Nat->Value):Xe (Qv YP (QA YP) J0 B 16 1 (QJ 20 111 (([1,3]:List Nat).zip (Z5 r i)) Qt Z6) (QH (Xu r i)) (2+(Xu r i).length)
 (sU r i Qt++[(14,Qj.pure (.bool false) [])]) 0 [] []) []=some (.bool false,
 [Q7 []/\Q4 YP J0 55 (sF r i) (.bool false)]++jG B r i Qt):=by kernel_rfl
def eD(B:Lo)(r:Qe)(i:Int)(Qt:Nat->Value):List Prop:=[XY i (↑r.Qa.length:Int)=false]++([]:List Prop)
def nX(r:Qe)(i:Int)(Qt:Nat->Value):QE:=[(4,Vd)]
def eC(B:Lo)(r:Qe)(i:Int)(Qt:Nat->Value):List Prop:=[Q7 []/\Q4 YP J0 55 (nS r) (.bool true)]++eD B r i Qt
def nW(r:Qe)(i:Int)(Qt:Nat->Value):QE:=nX r i Qt++[(8,Qj.pure (.bool true) [])]
def eB(B:Lo)(r:Qe)(i:Int)(Qt:Nat->Value):List Prop:=[Q7 []/\Q4 YP J0 55 (nR r) (.bool true)]++eC B r i Qt
def nV(r:Qe)(i:Int)(Qt:Nat->Value):QE:=nW r i Qt++[(12,Qj.pure (.bool true) [])]
theorem Aw(B:Lo)(r:Qe)(i:Int)(Qt:Nat->Value):Xe (Qv YP (QA YP) J0 B 9 1 (QJ 20 111 (([1,3]:List Nat).zip (Z5 r i)) Qt Z6) (QH (Xu r i)) (2+(Xu r i).length)
 (nV r i Qt++[(17,Qj.pure (.bool true) [])]) 0 [] []) []=some (.bool true,
 [Q7 []/\Q4 YP J0 55 (nQ r) (.bool true)]++eB B r i Qt):=by kernel_rfl
theorem Av(B:Lo)(r:Qe)(i:Int)(Qt:Nat->Value):Xe (Qv YP (QA YP) J0 B 9 1 (QJ 20 111 (([1,3]:List Nat).zip (Z5 r i)) Qt Z6) (QH (Xu r i)) (2+(Xu r i).length)
 (nV r i Qt++[(17,Qj.pure (.bool false) [])]) 0 [] []) []=some (.bool false,
 [Q7 []/\Q4 YP J0 55 (nQ r) (.bool false)]++eB B r i Qt):=by kernel_rfl
theorem Au(B:Lo)(r:Qe)(i:Int)(Qt:Nat->Value):Xe (Qv YP (QA YP) J0 B 9 1 (QJ 20 111 (([1,3]:List Nat).zip (Z5 r i)) Qt Z6) (QH (Xu r i)) (2+(Xu r i).length)
 (nW r i Qt++[(12,Qj.pure (.bool false) [])]) 0 [] []) []=some (.bool false,
 [Q7 []/\Q4 YP J0 55 (nR r) (.bool false)]++eC B r i Qt):=by kernel_rfl
theorem At(B:Lo)(r:Qe)(i:Int)(Qt:Nat->Value):Xe (Qv YP (QA YP) J0 B 9 1 (QJ 20 111 (([1,3]:List Nat).zip (Z5 r i)) Qt Z6) (QH (Xu r i)) (2+(Xu r i).length)
 (nX r i Qt++[(8,Qj.pure (.bool false) [])]) 0 [] []) []=some (.bool false,
 [Q7 []/\Q4 YP J0 55 (nS r) (.bool false)]++eD B r i Qt):=by kernel_rfl
theorem As(B:Lo)(r:Qe):landM (Qv YP (QA YP) J0 B 7 1 (Qw YP 20 111 (([.agg (Qz r).toArray]).map (Q8 0 4))) Ze 1
 [] 0 [] []) [1,3] [(1,KS.auto)] []=some ⟨20,111,Z6,[],.run,none,Z5 r (0),Xu r (0),
 []⟩:=by kernel_rfl
set_option maxHeartbeats 4000000 in
theorem D0(r:Qe)  (Zq:r.Qa.length<=9223372036854775807){B:Lo}(hJ:∀w,B.has w->J0 w){c0:CF}:∀m:Nat,(∀(i:Int),r.Qa.length-i.toNat=m->∀(h0:0<=i),D1 B c0 r i->EndsT YP B c0 (.bool (Pn r.Qa i && YC r))):=by
 intro m0;induction m0 using Oi with
 |_ m0 ih0=>
  intro i Ru h0 ⟨Qt,Vs,XL⟩;have s3:=Ih (n:=r.Qa.length) (v:=(r.Qa.getD i.toNat NC).into) (by omega);by_cases q0:(i:Int)<((↑r.Qa.length:Int))
  ·have Vg:Q7 (jG B r i Qt):=by
    have s2:=Xc (ps:=r.Qa) q0;exact⟨⟨by omega,by omega,(Q0 (z:=12) (fun _=>rfl) (by omega))⟩,⟨(XD q0),trivial⟩⟩
   cases q1:Wt (Qd.count (r.Qa.getD i.toNat NC)) 0 1000000 with
   |true=>
    have hp1:Q7 (jF B r i Qt):=by
     have s2:=Xc (ps:=r.Qa) q0;exact⟨⟨trivial,(by have t_:=nL (Qd.count (r.Qa.getD i.toNat NC)) (0) (1000000);rw[q1]at t_;exact t_)⟩,Vg⟩
    cases q2:Wt (Qd.room (r.Qa.getD i.toNat NC)) 0 1000000 with
    |true=>
     have JU:Q7 (jE B r i Qt):=by
      have s2:=Xc (ps:=r.Qa) q0;exact⟨⟨trivial,(by have t_:=nL (Qd.room (r.Qa.getD i.toNat NC)) (0) (1000000);rw[q2]at t_;exact t_)⟩,hp1⟩
     cases q3:Wt (Qd.goal (r.Qa.getD i.toNat NC)) 0 1000000 with
     |true=>
      have hp3:Q7 (jD B r i Qt):=by
       have s2:=Xc (ps:=r.Qa) q0;exact⟨⟨trivial,(by have t_:=nL (Qd.goal (r.Qa.getD i.toNat NC)) (0) (1000000);rw[q3]at t_;exact t_)⟩,JU⟩
      cases q4:Za (Qd.glo (r.Qa.getD i.toNat NC)) (Qd.ghi (r.Qa.getD i.toNat NC)) 0 2000 with
      |true=>
       have hp4:Q7 (jC B r i Qt):=by
        have s2:=Xc (ps:=r.Qa) q0;exact⟨⟨trivial,(by have t_:=nO (Qd.glo (r.Qa.getD i.toNat NC)) (Qd.ghi (r.Qa.getD i.toNat NC)) (2000);rw[q4]at t_;exact t_)⟩,hp3⟩
       cases q5:Wt (Qd.drift (r.Qa.getD i.toNat NC)) 0 1000 with
       |true=>
        have hp5:Q7 (jB B r i Qt):=by
         have s2:=Xc (ps:=r.Qa) q0;exact⟨(Xb (by omega) (by omega)),⟨⟨trivial,(by have t_:=nL (Qd.drift (r.Qa.getD i.toNat NC)) (0) (1000);rw[q5]at t_;exact t_)⟩,hp4⟩⟩
        cases q6:Wt (Qd.into (r.Qa.getD i.toNat NC)) (-1) ((↑r.Qa.length:Int)-1)with
        |true=>
         have hp6:Q7 (jA B r i Qt):=by
          have s2:=Xc (ps:=r.Qa) q0;exact⟨⟨trivial,(by have t_:=nL (Qd.into (r.Qa.getD i.toNat NC)) (-1) ((↑r.Qa.length:Int)-1);rw[q6]at t_;exact t_)⟩,hp5⟩
         by_cases q7:(Qd.into (r.Qa.getD i.toNat NC):Int)=(i)
         ·have s2:=Xc (ps:=r.Qa) q0;exact(GoE.endsT okF hJ Qf XL (Dz B r i Qt)
           ⟨(K2 q7),hp6⟩).cast (by(rw[s2];rw[s3]at *;simp_all[ZP,Zj];done))
         ·have hp7:Q7 (j9 B r i Qt):=by
           exact⟨(K3 q7),hp6⟩
          cases q8:Za (Qd.olo (r.Qa.getD i.toNat NC)) (Qd.ohi (r.Qa.getD i.toNat NC)) 0 1000000 with
          |true=>
           have hp8:Q7 (j8 B r i Qt):=by
            have s2:=Xc (ps:=r.Qa) q0;exact⟨⟨trivial,(by have t_:=nO (Qd.olo (r.Qa.getD i.toNat NC)) (Qd.ohi (r.Qa.getD i.toNat NC)) (1000000);rw[q8]at t_;exact t_)⟩,hp7⟩
           cases q9:Za (Qd.slo (r.Qa.getD i.toNat NC)) (Qd.shi (r.Qa.getD i.toNat NC)) 0 1000000 with
           |true=>
            have hp9:Q7 (j7 B r i Qt):=by
             have s2:=Xc (ps:=r.Qa) q0;exact⟨⟨trivial,(by have t_:=nO (Qd.slo (r.Qa.getD i.toNat NC)) (Qd.shi (r.Qa.getD i.toNat NC)) (1000000);rw[q9]at t_;exact t_)⟩,hp8⟩
            by_cases q10:(Qd.olo (r.Qa.getD i.toNat NC):Int)<(Qd.slo (r.Qa.getD i.toNat NC))
            ·have s2:=Xc (ps:=r.Qa) q0;exact(GoE.endsT okF hJ Qf XL (Dy B r i Qt)
              ⟨(XD q10),hp9⟩).cast (by(rw[s2];rw[s3]at *;simp_all[ZP,Zj];omega))
            ·have hp10:Q7 (eF B r i Qt):=by
              exact⟨(Zb (Int.not_lt.1 q10)),hp9⟩
             by_cases q11:(Qd.ohi (r.Qa.getD i.toNat NC):Int)<(Qd.shi (r.Qa.getD i.toNat NC))
             ·have s2:=Xc (ps:=r.Qa) q0;exact(GoE.endsT okF hJ Qf XL (Dx B r i Qt)
               ⟨(XD q11),hp10⟩).cast (by(rw[s2];rw[s3]at *;simp_all[ZP,Zj];omega))
             ·have hp11:Q7 (eE B r i Qt):=by
               exact⟨(Zb (Int.not_lt.1 q11)),hp10⟩
              cases q12:Wt (Qd.worth (r.Qa.getD i.toNat NC)) 0 1000000 with
              |true=>
               have s2:=Xc (ps:=r.Qa) q0;exact((ih0 _ (by omega)) (i+1) rfl (by omega)
                (XL.landM okF hJ Qf (Dw B r i Qt)
                ⟨(Xb (by omega) (by omega)),⟨⟨trivial,(by have t_:=nL (Qd.worth (r.Qa.getD i.toNat NC)) (0) (1000000);rw[q12]at t_;exact t_)⟩,hp11⟩⟩ (by kernel_rfl) (by kernel_rfl))).cast (by(rw[s2];rw[s3]at *;simp_all[ZP,Zj];done))
              |false=>
               have s2:=Xc (ps:=r.Qa) q0;exact(GoE.endsT okF hJ Qf XL (Dv B r i Qt)
                ⟨⟨trivial,(by have t_:=nL (Qd.worth (r.Qa.getD i.toNat NC)) (0) (1000000);rw[q12]at t_;exact t_)⟩,hp11⟩).cast (by(rw[s2];rw[s3]at *;simp_all[ZP,Zj];done))
           |false=>
            have s2:=Xc (ps:=r.Qa) q0;exact(GoE.endsT okF hJ Qf XL (Du B r i Qt)
             ⟨⟨trivial,(by have t_:=nO (Qd.slo (r.Qa.getD i.toNat NC)) (Qd.shi (r.Qa.getD i.toNat NC)) (1000000);rw[q9]at t_;exact t_)⟩,hp8⟩).cast (by(rw[s2];rw[s3]at *;simp_all[ZP,Zj];done))
          |false=>
           have s2:=Xc (ps:=r.Qa) q0;exact(GoE.endsT okF hJ Qf XL (Dt B r i Qt)
            ⟨⟨trivial,(by have t_:=nO (Qd.olo (r.Qa.getD i.toNat NC)) (Qd.ohi (r.Qa.getD i.toNat NC)) (1000000);rw[q8]at t_;exact t_)⟩,hp7⟩).cast (by(rw[s2];rw[s3]at *;simp_all[ZP,Zj];done))
        |false=>
         have s2:=Xc (ps:=r.Qa) q0;exact(GoE.endsT okF hJ Qf XL (Ds B r i Qt)
          ⟨⟨trivial,(by have t_:=nL (Qd.into (r.Qa.getD i.toNat NC)) (-1) ((↑r.Qa.length:Int)-1);rw[q6]at t_;exact t_)⟩,hp5⟩).cast (by(rw[s2];rw[s3]at *;simp_all[ZP,Zj];done))
       |false=>
        have s2:=Xc (ps:=r.Qa) q0;exact(GoE.endsT okF hJ Qf XL (Dr B r i Qt)
         ⟨⟨trivial,(by have t_:=nL (Qd.drift (r.Qa.getD i.toNat NC)) (0) (1000);rw[q5]at t_;exact t_)⟩,hp4⟩).cast (by(rw[s2];rw[s3]at *;simp_all[ZP,Zj];done))
      |false=>
       have s2:=Xc (ps:=r.Qa) q0;exact(GoE.endsT okF hJ Qf XL (Dq B r i Qt)
        ⟨⟨trivial,(by have t_:=nO (Qd.glo (r.Qa.getD i.toNat NC)) (Qd.ghi (r.Qa.getD i.toNat NC)) (2000);rw[q4]at t_;exact t_)⟩,hp3⟩).cast (by(rw[s2];rw[s3]at *;simp_all[ZP,Zj];done))
     |false=>
      have s2:=Xc (ps:=r.Qa) q0;exact(GoE.endsT okF hJ Qf XL (Az B r i Qt)
       ⟨⟨trivial,(by have t_:=nL (Qd.goal (r.Qa.getD i.toNat NC)) (0) (1000000);rw[q3]at t_;exact t_)⟩,JU⟩).cast (by(rw[s2];rw[s3]at *;simp_all[ZP,Zj];done))
    |false=>
     have s2:=Xc (ps:=r.Qa) q0;exact(GoE.endsT okF hJ Qf XL (Ay B r i Qt)
      ⟨⟨trivial,(by have t_:=nL (Qd.room (r.Qa.getD i.toNat NC)) (0) (1000000);rw[q2]at t_;exact t_)⟩,hp1⟩).cast (by(rw[s2];rw[s3]at *;simp_all[ZP,Zj];done))
   |false=>
    have s2:=Xc (ps:=r.Qa) q0;exact(GoE.endsT okF hJ Qf XL (Ax B r i Qt)
     ⟨⟨trivial,(by have t_:=nL (Qd.count (r.Qa.getD i.toNat NC)) (0) (1000000);rw[q1]at t_;exact t_)⟩,Vg⟩).cast (by(rw[s2];rw[s3]at *;simp_all[ZP,Zj];done))
  ·have hp12:Q7 (eD B r i Qt):=by
    exact⟨(Zb (Int.not_lt.1 q0)),trivial⟩
   cases q1:Wt (↑r.Qa.length:Int) 1 4 with
   |true=>
    have hp13:Q7 (eC B r i Qt):=by
     have s2:=Ub (ps:=r.Qa) (i:=i) (by omega);exact⟨⟨trivial,(by have t_:=nL ((↑r.Qa.length:Int)) (1) (4);rw[q1]at t_;exact t_)⟩,hp12⟩
    cases q2:Wt r.Qn 0 2000 with
    |true=>
     have hp14:Q7 (eB B r i Qt):=by
      have s2:=Ub (ps:=r.Qa) (i:=i) (by omega);exact⟨⟨trivial,(by have t_:=nL r.Qn (0) (2000);rw[q2]at t_;exact t_)⟩,hp13⟩
     cases q3:Wt r.Qc 1 4 with
     |true=>
      have s2:=Ub (ps:=r.Qa) (i:=i) (by omega);exact(GoE.endsT okF hJ Qf XL (Aw B r i Qt)
       ⟨⟨trivial,(by have t_:=nL r.Qc (1) (4);rw[q3]at t_;exact t_)⟩,hp14⟩).cast (by(rw[s2];simp_all[YC];done))
     |false=>
      have s2:=Ub (ps:=r.Qa) (i:=i) (by omega);exact(GoE.endsT okF hJ Qf XL (Av B r i Qt)
       ⟨⟨trivial,(by have t_:=nL r.Qc (1) (4);rw[q3]at t_;exact t_)⟩,hp14⟩).cast (by(rw[s2];simp_all[YC];done))
    |false=>
     have s2:=Ub (ps:=r.Qa) (i:=i) (by omega);exact(GoE.endsT okF hJ Qf XL (Au B r i Qt)
      ⟨⟨trivial,(by have t_:=nL r.Qn (0) (2000);rw[q2]at t_;exact t_)⟩,hp13⟩).cast (by(rw[s2];simp_all[YC];done))
   |false=>
    have s2:=Ub (ps:=r.Qa) (i:=i) (by omega);exact(GoE.endsT okF hJ Qf XL (At B r i Qt)
     ⟨⟨trivial,(by have t_:=nL ((↑r.Qa.length:Int)) (1) (4);rw[q1]at t_;exact t_)⟩,hp12⟩).cast (by(rw[s2];simp_all[YC];done))
set_option maxHeartbeats 4000000 in
theorem Hf(r:Qe)  (Zq:r.Qa.length<=9223372036854775807){B:Lo}(hJ:∀w,B.has w->J0 w):EndsT YP B (Qw YP 20 111 (([.agg (Qz r).toArray]).map (Q8 0 4))) (.bool (X1 r)):=by
 exact((D0 r Zq hJ _) (0) rfl (by omega)
  (GoE.start.landM okF hJ Qf (As B r)
  trivial (by kernel_rfl) (by kernel_rfl))).cast (by(simp only[X1];rw[Bool.and_comm];done))
theorem II(r:Qe)  :Q4 YP J0 20 #[.agg (Qz r).toArray] (.bool (X1 r)):=
 UX (ts:=[.agg (Qz r).toArray]) (r.Qa.length<=9223372036854775807) (fun _ _ ht=>ht.ln2 (i:=0) (j:=0) rfl rfl) Zk (c0:=Qw YP 20 111 (([.agg (Qz r).toArray]).map (Q8 0 4))) (by kernel_rfl) (by kernel_rfl) fun Zq B hJ=>Hf r  Zq hJ
end
end Go.Proofs.Ytncjjangllkokaa

namespace Go.Proofs.Ytncjjangllkokaa
open Go Go.CE Go.RowKit
noncomputable section
theorem eJ:((Vb 0:Nat):Int)=1:=rfl
theorem Ba{i:Int}(h:0<=i):((Vb (i+1):Nat):Int)=2*((Vb i:Nat):Int):=by
 unfold Vb;rw[show(i+1).toNat=i.toNat+1 by omega,Nat.pow_succ];omega
def hasB(n k:Int):Bool:=n.toNat.testBit k.toNat
theorem mL{n k:Int}(hn:0<=n)(hk:1<=k):hasB n k=hasB (n / 2) (k-1):=by
 unfold hasB;obtain⟨j,hj⟩:∃j,k.toNat=j+1:=⟨k.toNat-1,by omega⟩
 rw[hj,show(k-1).toNat=j by omega,Nat.testBit_succ,show(n / 2).toNat=n.toNat / 2 by omega]
theorem MQ{n:Int}(hn:0<=n):hasB n 0=decide (n % 2=1):=by
 unfold hasB;rw[show(0:Int).toNat=0 from rfl,Nat.testBit_zero];exact decide_eq_decide.2 (by omega)
theorem pB{n k:Int}:decide (((rA ((aI n k:Nat):Int) 1:Nat):Int)=1)=hasB n k:=by
 unfold hasB rA aI;rw[Int.toNat_natCast,show(1:Int).toNat=1 from rfl,Nat.and_one_is_mod,Nat.shiftRight_eq_div_pow,Nat.testBit_eq_decide_div_mod_eq];exact decide_eq_decide.2 (by omega)
def QV(r:Qe)(Qb:List Int):List Value:=[UU r.Qa,.int .i64 r.Qn,.int .i64 r.Qc,.int .i64 (Qb.getD 0 0),.int .i64 (Qb.getD 1 0),.int .i64 (Qb.getD 2 0),.int .i64 (Qb.getD 3 0)]
theorem Xs{r:Qe}{Qb:List Int}(h:X2 r Qb=true):Qb.length=r.Qc/\∀x∈Qb,0<=x/\x<Vb r.Qa.length:=by
 simp only[X2,YB,decide_eq_true_iff,List.all_eq_true,Wa]at h;exact⟨h.1,fun x hx=>by have:=h.2 x hx;omega⟩
def SV(r:Qe)(s i:Int):List Value:=[pA 2 0,.int .i64 s,.int .i64 i]
def Yc(r:Qe)(s i:Int):List Obj:=[Obj.cells #[Q6 1 (QO r.Qa.length (Qg Qk r.Qa)),.int .i64 r.Qn,.int .i64 r.Qc] 24]
def SW:List Item:=([.code [1,1,0,1,0,0],.inLoop [1,1,0,1,0,0],.inBlock 0,.code [1,1,1]]).map (it (QX YP 69))
def CY(B:Lo)(c0:CF)(r:Qe)(s i:Int):Prop:=∃dJ:Nat->Value,(∀t,X4 (dJ t))/\GoE YP B c0 Ze 1 (QJ 69 15 (([1,3,4]:List Nat).zip (SV r s i)) dJ SW) (QH (Yc r s i)) (2+(Yc r s i).length) []
set_option maxRecDepth 100000 in
theorem CW(B:Lo)(r:Qe)(s i:Int)(Qt:Nat->Value):landM (Qv YP (QA YP) J0 B 11 1 (QJ 69 15 (([1,3,4]:List Nat).zip (SV r s i)) Qt SW) (QH (Yc r s i)) (2+(Yc r s i).length)
 [(4,W9),(6,Wu (2*s)),(9,Wu (i+1))] 0 [] []) [1,3,4] [(2,KS.auto)] []=some ⟨69,15,SW,[],.run,none,SV r (2*s) (i+1),Yc r (2*s) (i+1),
 [wq (i+1)=i+1,wq (2*s)=2*s,XY i (↑r.Qa.length:Int)=true]⟩:=by kernel_rfl
set_option maxRecDepth 100000 in
theorem CV(B:Lo)(r:Qe)(s i:Int)(Qt:Nat->Value):Xe (Qv YP (QA YP) J0 B 9 1 (QJ 69 15 (([1,3,4]:List Nat).zip (SV r s i)) Qt SW) (QH (Yc r s i)) (2+(Yc r s i).length)
 [(4,Vd)] 0 [] []) []=some (.int .i64 s,
 [XY i (↑r.Qa.length:Int)=false]):=by kernel_rfl
set_option maxRecDepth 100000 in
theorem CU(B:Lo)(r:Qe):landM (Qv YP (QA YP) J0 B 9 1 (Qw YP 69 15 (([.agg (Qz r).toArray]).map (Q8 0 4))) Ze 1
 [] 0 [] []) [1,3,4] [(1,KS.auto)] []=some ⟨69,15,SW,[],.run,none,SV r (1) (0),Yc r (1) (0),
 []⟩:=by kernel_rfl
set_option maxHeartbeats 4000000 in
theorem CX(r:Qe)(hn:r.Qa.length<=61){B:Lo}(hJ:∀w,B.has w->J0 w){c0:CF}:∀m:Nat,(∀(s i:Int),r.Qa.length-i.toNat=m->∀(h0:0<=i) (h1:i<=r.Qa.length) (hs:s=((Vb i:Nat):Int)),CY B c0 r s i->EndsT YP B c0 (.int .i64 ((Vb r.Qa.length:Nat):Int))):=by
 intro m0;induction m0 using Oi with
 |_ m0 ih0=>
  intro s i Ru h0 h1 hs ⟨Qt,Vs,XL⟩;have e1:=Se (n:=i) (by omega);have e2:=Ba (i:=i) h0;by_cases q0:(i:Int)<((↑r.Qa.length:Int))
  ·try have e3:=Se (n:=i+1) (by omega)
   exact((ih0 _ (by omega)) (2*s) (i+1) rfl (by first|with_reducible assumption|omega|exact eJ.symm|(rw[e2,hs];done)|(simp_all;done)) (by first|with_reducible assumption|omega|exact eJ.symm|(rw[e2,hs];done)|(simp_all;done)) (by first|with_reducible assumption|omega|exact eJ.symm|(rw[e2,hs];done)|(simp_all;done))
    (XL.landM okF hJ Qf (CW B r s i Qt)
    ⟨(Xb (by omega) (by omega)),⟨(Xb (by omega) (by omega)),⟨(XD q0),trivial⟩⟩⟩ (by kernel_rfl) (by kernel_rfl))).cast (by first|rfl|(rw[hs,show i=r.Qa.length by omega];done))
  ·try have e3:=Se (n:=i+1) (by omega)
   exact(GoE.endsT okF hJ Qf XL (CV B r s i Qt)
    ⟨(Zb (Int.not_lt.1 q0)),trivial⟩).cast (by first|rfl|(rw[hs,show i=r.Qa.length by omega];done))
set_option maxHeartbeats 4000000 in
theorem GH(r:Qe)(hn:r.Qa.length<=61){B:Lo}(hJ:∀w,B.has w->J0 w):EndsT YP B (Qw YP 69 15 (([.agg (Qz r).toArray]).map (Q8 0 4))) (.int .i64 ((Vb r.Qa.length:Nat):Int)):=by
 exact((CX r hn hJ _) (1) (0) rfl (by first|with_reducible assumption|omega|exact eJ.symm|(rw[e2,hs];done)|(simp_all;done)) (by first|with_reducible assumption|omega|exact eJ.symm|(rw[e2,hs];done)|(simp_all;done)) (by first|with_reducible assumption|omega|exact eJ.symm|(rw[e2,hs];done)|(simp_all;done))
  (GoE.start.landM okF hJ Qf (CU B r)
  trivial (by kernel_rfl) (by kernel_rfl))).cast (by first|rfl|(simp[*];done)|(simp_all[];done)|(simp_all[];omega))
theorem M1(r:Qe)(hn:r.Qa.length<=61):Q4 YP J0 69 #[.agg (Qz r).toArray] (.int .i64 ((Vb r.Qa.length:Nat):Int)):=
 Xr (ts:=[.agg (Qz r).toArray]) Zk (c0:=Qw YP 69 15 (([.agg (Qz r).toArray]).map (Q8 0 4))) (by kernel_rfl) (by kernel_rfl) fun B hJ=>GH r hn hJ
def Jx(r:Qe)(Qb:List Int)(i:Int):List Value:=[Q6 1 (QO Qb.length (Qg Q3 Qb)),pA 2 0,.int .i64 i]
def V9(r:Qe)(Qb:List Int)(i:Int):List Obj:=[Obj.cells #[Q6 1 (QO r.Qa.length (Qg Qk r.Qa)),.int .i64 r.Qn,.int .i64 r.Qc] 24]
def Jy:List Item:=([.code [1,0,1,0,0],.inLoop [1,0,1,0,0],.inBlock 0,.code [1,1]]).map (it (QX YP 41))
def DA(B:Lo)(c0:CF)(r:Qe)(Qb:List Int)(i:Int):Prop:=∃dJ:Nat->Value,(∀t,X4 (dJ t))/\GoE YP B c0 Ze 1 (QJ 41 26 (([1,2,5]:List Nat).zip (Jx r Qb i)) dJ Jy) (QH (V9 r Qb i)) (2+(V9 r Qb i).length) []
def sX(r:Qe)(Qb:List Int)(i:Int):Array Value:=#[.int .i64 (Qb.getD i.toNat NC),.int .i64 0,.int .i64 ((↑(Vb (↑r.Qa.length:Int)):Int)-1)]
def sW(r:Qe):Value:=(.int .i64 (↑(Vb (↑r.Qa.length:Int)):Int))
def jI(B:Lo)(r:Qe)(Qb:List Int)(i:Int)(Qt:Nat->Value):List Prop:=[wq ((↑(Vb (↑r.Qa.length:Int)):Int)-1)=(↑(Vb (↑r.Qa.length:Int)):Int)-1,Q7 []/\Q4 YP J0 69 #[.agg #[QO r.Qa.length (Qg Qk r.Qa),.int .i64 r.Qn,.int .i64 r.Qc]] (sW r),Vq i Qb.length (Qg Q3 Qb) Try.t3.size #[.int .i64 (Qb.getD i.toNat NC)],XY i (↑Qb.length:Int)=true]++([]:List Prop)
def sZ(r:Qe)(Qb:List Int)(i:Int)(Qt:Nat->Value):QE:=[(3,W9),(6,Qj.tidx i.toNat #[.int .i64 (Qb.getD i.toNat NC)]),(9,Qj.pure (sW r) []),(10,Wu ((↑(Vb (↑r.Qa.length:Int)):Int)-1))]
set_option maxRecDepth 100000 in
theorem D8(B:Lo)(r:Qe)(Qb:List Int)(i:Int)(Qt:Nat->Value):landM (Qv YP (QA YP) J0 B 14 1 (QJ 41 26 (([1,2,5]:List Nat).zip (Jx r Qb i)) Qt Jy) (QH (V9 r Qb i)) (2+(V9 r Qb i).length)
 (sZ r Qb i Qt++[(11,Qj.pure (.bool true) []),(14,Wu (i+1))]) 0 [] []) [1,2,5] [(2,KS.auto)] []=some ⟨41,26,Jy,[],.run,none,Jx r Qb (i+1),V9 r Qb (i+1),
 [wq (i+1)=i+1,Q7 []/\Q4 YP J0 55 (sX r Qb i) (.bool true)]++jI B r Qb i Qt⟩:=by kernel_rfl
set_option maxRecDepth 100000 in
theorem D7(B:Lo)(r:Qe)(Qb:List Int)(i:Int)(Qt:Nat->Value):Xe (Qv YP (QA YP) J0 B 14 1 (QJ 41 26 (([1,2,5]:List Nat).zip (Jx r Qb i)) Qt Jy) (QH (V9 r Qb i)) (2+(V9 r Qb i).length)
 (sZ r Qb i Qt++[(11,Qj.pure (.bool false) [])]) 0 [] []) []=some (.bool false,
 [Q7 []/\Q4 YP J0 55 (sX r Qb i) (.bool false)]++jI B r Qb i Qt):=by kernel_rfl
def jH(B:Lo)(r:Qe)(Qb:List Int)(i:Int)(Qt:Nat->Value):List Prop:=[XY i (↑Qb.length:Int)=false]++([]:List Prop)
def sY(r:Qe)(Qb:List Int)(i:Int)(Qt:Nat->Value):QE:=[(3,Vd)]
set_option maxRecDepth 100000 in
theorem D6(B:Lo)(r:Qe)(Qb:List Int)(i:Int)(Qt:Nat->Value):Xe (Qv YP (QA YP) J0 B 9 1 (QJ 41 26 (([1,2,5]:List Nat).zip (Jx r Qb i)) Qt Jy) (QH (V9 r Qb i)) (2+(V9 r Qb i).length)
 (sY r Qb i Qt++[(8,W9)]) 0 [] []) []=some (.bool true,
 [YM (↑Qb.length:Int) r.Qc=true]++jH B r Qb i Qt):=by kernel_rfl
set_option maxRecDepth 100000 in
theorem D5(B:Lo)(r:Qe)(Qb:List Int)(i:Int)(Qt:Nat->Value):Xe (Qv YP (QA YP) J0 B 9 1 (QJ 41 26 (([1,2,5]:List Nat).zip (Jx r Qb i)) Qt Jy) (QH (V9 r Qb i)) (2+(V9 r Qb i).length)
 (sY r Qb i Qt++[(8,Vd)]) 0 [] []) []=some (.bool false,
 [YM (↑Qb.length:Int) r.Qc=false]++jH B r Qb i Qt):=by kernel_rfl
set_option maxRecDepth 100000 in
theorem D4(B:Lo)(r:Qe)(Qb:List Int):landM (Qv YP (QA YP) J0 B 7 1 (Qw YP 41 26 (([.agg (Qz r).toArray,XJ Qb]).map (Q8 0 4))) Ze 1
 [] 0 [] []) [1,2,5] [(1,KS.auto)] []=some ⟨41,26,Jy,[],.run,none,Jx r Qb (0),V9 r Qb (0),
 []⟩:=by kernel_rfl
set_option maxHeartbeats 4000000 in
theorem D9(r:Qe)(Qb:List Int)(hn:r.Qa.length<=61)(Zq:Qb.length<=9223372036854775807){B:Lo}(hJ:∀w,B.has w->J0 w){c0:CF}:∀m:Nat,(∀(i:Int),Qb.length-i.toNat=m->∀(h0:0<=i),DA B c0 r Qb i->EndsT YP B c0 (.bool ((Qb.drop i.toNat).all (fun x=>Wt x 0 (((Vb r.Qa.length:Nat):Int)-1)) && decide (Qb.length=r.Qc)))):=by
 intro m0;induction m0 using Oi with
 |_ m0 ih0=>
  intro i Ru h0 ⟨Qt,Vs,XL⟩;have e1:=Se (n:=r.Qa.length) (by omega);have e1:=Se (n:=r.Qa.length) (by omega);by_cases q0:(i:Int)<((↑Qb.length:Int))
  ·have Vg:Q7 (jI B r Qb i Qt):=by
    try have s2:=Rw (l:=Qb) (p:=fun x=>Wt x 0 (((Vb r.Qa.length:Nat):Int)-1)) h0 q0
    try have s2:=Rv (l:=Qb) (p:=fun x=>Wt x 0 (((Vb r.Qa.length:Nat):Int)-1)) (i:=i) (by omega)
    exact⟨(Xb (by omega) (by omega)),⟨⟨trivial,M1 (r) (by first|with_reducible assumption|omega|simp_all)⟩,⟨⟨by omega,by omega,(Q0 (z:=1) (fun _=>rfl) (by first|omega|(rw[Ow];omega)|(rw[Ou];omega)))⟩,⟨(XD q0),trivial⟩⟩⟩⟩
   cases q1:Wt (Qb.getD i.toNat NC) 0 ((↑(Vb (↑r.Qa.length:Int)):Int)-1)with
   |true=>
    try have s2:=Rw (l:=Qb) (p:=fun x=>Wt x 0 (((Vb r.Qa.length:Nat):Int)-1)) h0 q0
    try have s2:=Rv (l:=Qb) (p:=fun x=>Wt x 0 (((Vb r.Qa.length:Nat):Int)-1)) (i:=i) (by omega)
    exact((ih0 _ (by omega)) (i+1) rfl (by first|with_reducible assumption|omega|(simp_all;done))
     (XL.landM okF hJ Qf (D8 B r Qb i Qt)
     ⟨(Xb (by omega) (by omega)),⟨⟨trivial,(by have t_:=nL (Qb.getD i.toNat NC) (0) ((↑(Vb (↑r.Qa.length:Int)):Int)-1);rw[q1]at t_;exact t_)⟩,Vg⟩⟩ (by kernel_rfl) (by kernel_rfl))).cast (by first|rfl|(rw[s2];simp[*];done)|(rw[s2];simp_all;done)|(rw[s2];done))
   |false=>
    try have s2:=Rw (l:=Qb) (p:=fun x=>Wt x 0 (((Vb r.Qa.length:Nat):Int)-1)) h0 q0
    try have s2:=Rv (l:=Qb) (p:=fun x=>Wt x 0 (((Vb r.Qa.length:Nat):Int)-1)) (i:=i) (by omega)
    exact(GoE.endsT okF hJ Qf XL (D7 B r Qb i Qt)
     ⟨⟨trivial,(by have t_:=nL (Qb.getD i.toNat NC) (0) ((↑(Vb (↑r.Qa.length:Int)):Int)-1);rw[q1]at t_;exact t_)⟩,Vg⟩).cast (by first|rfl|(rw[s2];simp[*];done)|(rw[s2];simp_all;done)|(rw[s2];done))
  ·have hp1:Q7 (jH B r Qb i Qt):=by
    exact⟨(Zb (Int.not_lt.1 q0)),trivial⟩
   by_cases q1:((↑Qb.length:Int):Int)=r.Qc
   ·try have s2:=Rw (l:=Qb) (p:=fun x=>Wt x 0 (((Vb r.Qa.length:Nat):Int)-1)) h0 q0
    try have s2:=Rv (l:=Qb) (p:=fun x=>Wt x 0 (((Vb r.Qa.length:Nat):Int)-1)) (i:=i) (by omega)
    exact(GoE.endsT okF hJ Qf XL (D6 B r Qb i Qt)
     ⟨(K2 q1),hp1⟩).cast (by first|rfl|(rw[s2];simp[*];done)|(rw[s2];simp_all;done)|(rw[s2];done))
   ·try have s2:=Rw (l:=Qb) (p:=fun x=>Wt x 0 (((Vb r.Qa.length:Nat):Int)-1)) h0 q0
    try have s2:=Rv (l:=Qb) (p:=fun x=>Wt x 0 (((Vb r.Qa.length:Nat):Int)-1)) (i:=i) (by omega)
    exact(GoE.endsT okF hJ Qf XL (D5 B r Qb i Qt)
     ⟨(K3 q1),hp1⟩).cast (by first|rfl|(rw[s2];simp[*];done)|(rw[s2];simp_all;done)|(rw[s2];done))
set_option maxHeartbeats 4000000 in
theorem Hg(r:Qe)(Qb:List Int)(hn:r.Qa.length<=61)(Zq:Qb.length<=9223372036854775807){B:Lo}(hJ:∀w,B.has w->J0 w):EndsT YP B (Qw YP 41 26 (([.agg (Qz r).toArray,XJ Qb]).map (Q8 0 4))) (.bool (X2 r Qb)):=by
 have e1:=Se (n:=r.Qa.length) (by omega);exact((D9 r Qb hn Zq hJ _) (0) rfl (by first|with_reducible assumption|omega|(simp_all;done))
  (GoE.start.landM okF hJ Qf (D4 B r Qb)
  trivial (by kernel_rfl) (by kernel_rfl))).cast (by first|rfl|(simp[X2,Bool.and_comm];done))
theorem IJ(r:Qe)(Qb:List Int)(hn:r.Qa.length<=61):Q4 YP J0 41 #[.agg (Qz r).toArray,XJ Qb] (.bool (X2 r Qb)):=
 UX (ts:=[.agg (Qz r).toArray,XJ Qb]) (Qb.length<=9223372036854775807) (fun _ _ ht=>ht.ln (i:=1) rfl) Zk (c0:=Qw YP 41 26 (([.agg (Qz r).toArray,XJ Qb]).map (Q8 0 4))) (by kernel_rfl) (by kernel_rfl) fun Zq B hJ=>Hg r Qb hn Zq hJ
def TO(n k:Int)(x i:Int):List Value:=[.int .i64 x,.int .i64 k,.int .i64 i]
def KX(n k:Int)(x i:Int):List Obj:=[]
def TP:List Item:=([.code [1,0,1,0,0],.inLoop [1,0,1,0,0],.inBlock 0,.code [1,1]]).map (it (QX YP 47))
def Hn(B:Lo)(c0:CF)(n k:Int)(x i:Int):Prop:=∃dJ:Nat->Value,(∀t,X4 (dJ t))/\GoE YP B c0 Ze 1 (QJ 47 16 (([0,1,5]:List Nat).zip (TO n k x i)) dJ TP) (QH (KX n k x i)) (2+(KX n k x i).length) []
set_option maxRecDepth 100000 in
theorem Hl(B:Lo)(n k:Int)(x i:Int)(Qt:Nat->Value):let a:=NF x 2;landM (Qv YP (QA YP) J0 B 11 1 (QJ 47 16 (([0,1,5]:List Nat).zip (TO n k x i)) Qt TP) (QH (KX n k x i)) (2+(KX n k x i).length)
 [(2,W9),(4,Wu a),(7,Wu (i+1))] 0 [] []) [0,1,5] [] []=some ⟨47,16,TP,[],.run,none,TO n k a (i+1),KX n k a (i+1),
 [wq (i+1)=i+1,IntKind.wrap .i64 a=NF x 2,XY i k=true]⟩:=by intro a;kernel_rfl
def pH(B:Lo)(n k:Int)(x i:Int)(Qt:Nat->Value):List Prop:=[XY i k=false]++([]:List Prop)
def zy(n k:Int)(x i:Int)(Qt:Nat->Value):QE:=[(2,Vd)]
set_option maxRecDepth 100000 in
theorem Hk(B:Lo)(n k:Int)(x i:Int)(Qt:Nat->Value):Xe (Qv YP (QA YP) J0 B 9 1 (QJ 47 16 (([0,1,5]:List Nat).zip (TO n k x i)) Qt TP) (QH (KX n k x i)) (2+(KX n k x i).length)
 (zy n k x i Qt++[(5,W9)]) 0 [] []) []=some (.bool true,
 [YM (Int.tmod x 2) 1=true]++pH B n k x i Qt):=by kernel_rfl
set_option maxRecDepth 100000 in
theorem Hj(B:Lo)(n k:Int)(x i:Int)(Qt:Nat->Value):Xe (Qv YP (QA YP) J0 B 9 1 (QJ 47 16 (([0,1,5]:List Nat).zip (TO n k x i)) Qt TP) (QH (KX n k x i)) (2+(KX n k x i).length)
 (zy n k x i Qt++[(5,Vd)]) 0 [] []) []=some (.bool false,
 [YM (Int.tmod x 2) 1=false]++pH B n k x i Qt):=by kernel_rfl
set_option maxRecDepth 100000 in
theorem Hi(B:Lo)(n k:Int):landM (Qv YP (QA YP) J0 B 7 1 (Qw YP 47 16 (([.int .i64 n,.int .i64 k]).map (Q8 0 4))) Ze 1
 [] 0 [] []) [0,1,5] [] []=some ⟨47,16,TP,[],.run,none,TO n k (n) (0),KX n k (n) (0),
 []⟩:=by kernel_rfl
set_option maxHeartbeats 4000000 in
theorem Hm(n k:Int)(hn:0<=n/\n<=1000000000)(hk:0<=k/\k<=1000000000){B:Lo}(hJ:∀w,B.has w->J0 w){c0:CF}:∀m:Nat,(∀(x i:Int),(k-i).toNat=m->∀(h0:0<=i) (h1:i<=k) (h2:0<=x/\x<=1000000000) (hx:hasB x (k-i)=hasB n k),Hn B c0 n k x i->EndsT YP B c0 (.bool (hasB n k))):=by
 intro m0;induction m0 using Oi with
 |_ m0 ih0=>
  intro x i Ru h0 h1 h2 hx ⟨Qt,Vs,XL⟩;have e1:x.tdiv 2=x / 2:=Ov h2.1;have e2:x.tmod 2=x % 2:=Int.tmod_eq_emod_of_nonneg h2.1;have e4:=MQ (n:=x) h2.1;by_cases q0:(i:Int)<(k)
  ·try have e3:=mL (n:=x) (k:=k-i) h2.1 (by omega)
   exact((ih0 _ (by omega)) (NF x 2) (i+1) rfl (by first|with_reducible assumption|omega|(rw[<-hx,e3,e1,show k-(i+1)=k-i-1 by omega];done)|(simp_all;done)) (by first|with_reducible assumption|omega|(rw[<-hx,e3,e1,show k-(i+1)=k-i-1 by omega];done)|(simp_all;done)) (by first|with_reducible assumption|omega|(rw[<-hx,e3,e1,show k-(i+1)=k-i-1 by omega];done)|(simp_all;done)) (by first|with_reducible assumption|omega|(rw[<-hx,e3,e1,show k-(i+1)=k-i-1 by omega];done)|(simp_all;done))
    (XL.landM okF hJ Qf (Hl B n k x i Qt)
    ⟨(Xb (by omega) (by omega)),⟨(KW (by omega) (by omega)),⟨(XD q0),trivial⟩⟩⟩ (by kernel_rfl) (by kernel_rfl))).cast (by first|rfl|(rw[<-hx,show k-i=0 by omega,e4];simp[*];omega))
  ·have Vg:Q7 (pH B n k x i Qt):=by
    exact⟨(Zb (Int.not_lt.1 q0)),trivial⟩
   by_cases q1:(Int.tmod x 2:Int)=(1)
   ·try have e3:=mL (n:=x) (k:=k-i) h2.1 (by omega)
    exact(GoE.endsT okF hJ Qf XL (Hk B n k x i Qt)
     ⟨(K2 q1),Vg⟩).cast (by first|rfl|(rw[<-hx,show k-i=0 by omega,e4];simp[*];omega))
   ·try have e3:=mL (n:=x) (k:=k-i) h2.1 (by omega)
    exact(GoE.endsT okF hJ Qf XL (Hj B n k x i Qt)
     ⟨(K3 q1),Vg⟩).cast (by first|rfl|(rw[<-hx,show k-i=0 by omega,e4];simp[*];omega))
set_option maxHeartbeats 4000000 in
theorem Lv(n k:Int)(hn:0<=n/\n<=1000000000)(hk:0<=k/\k<=1000000000){B:Lo}(hJ:∀w,B.has w->J0 w):EndsT YP B (Qw YP 47 16 (([.int .i64 n,.int .i64 k]).map (Q8 0 4))) (.bool (hasB n k)):=by
 exact((Hm n k hn hk hJ _) (n) (0) rfl (by first|with_reducible assumption|omega|(rw[<-hx,e3,e1,show k-(i+1)=k-i-1 by omega];done)|(simp_all;done)) (by first|with_reducible assumption|omega|(rw[<-hx,e3,e1,show k-(i+1)=k-i-1 by omega];done)|(simp_all;done)) (by first|with_reducible assumption|omega|(rw[<-hx,e3,e1,show k-(i+1)=k-i-1 by omega];done)|(simp_all;done)) (by first|with_reducible assumption|omega|(rw[<-hx,e3,e1,show k-(i+1)=k-i-1 by omega];done)|(simp_all;done))
  (GoE.start.landM okF hJ Qf (Hi B n k)
  trivial (by kernel_rfl) (by kernel_rfl))).cast (by first|rfl|(simp[*];done)|(simp_all[];done)|(simp_all[];omega))
theorem YJ(n k:Int)(hn:0<=n/\n<=1000000000)(hk:0<=k/\k<=1000000000):Q4 YP J0 47 #[.int .i64 n,.int .i64 k] (.bool (hasB n k)):=
 Xr (ts:=[.int .i64 n,.int .i64 k]) Zk (c0:=Qw YP 47 16 (([.int .i64 n,.int .i64 k]).map (Q8 0 4))) (by kernel_rfl) (by kernel_rfl) fun B hJ=>Lv n k hn hk hJ
def k8(r:Qe)(Qb:List Int):Array Value:=#[QO Qb.length (Qg Q3 Qb),.int .i64 0,.int .i64 ((↑(Vb (↑r.Qa.length:Int)):Int)-1)]
def kz(r:Qe):Value:=(.int .i64 (↑(Vb (↑r.Qa.length:Int)):Int))
def b5(B:Lo)(r:Qe)(Qb:List Int):List Prop:=[wq ((↑(Vb (↑r.Qa.length:Int)):Int)-1)=(↑(Vb (↑r.Qa.length:Int)):Int)-1,ny YP BinOp.shl 3 (.int .i64 1) (XB {len:=16000,tr:=Tri.set 14 Tri.lf 14 (.int .i64 (↑r.Qa.length:Int))} 14) (kz r),YM (↑Qb.length:Int) r.Qc=true]++([]:List Prop)
def k9(r:Qe)(Qb:List Int):QE:=[(6,W9),(12,Qj.bin (kz r)),(13,Wu ((↑(Vb (↑r.Qa.length:Int)):Int)-1))]
set_option maxRecDepth 100000 in
theorem xR(B:Lo)(r:Qe)(Qb:List Int):Xe (Qv YP (QA YP) J0 B 6 1 (Qw YP 51 19 (([.agg (Qz r).toArray,XJ Qb]).map (Q8 0 4))) Ze 1
 (k9 r Qb++[(14,Qj.pure (.bool true) [])]) 0 [] []) []=some (.bool true,
 [Q7 []/\Q4 YP J0 74 (k8 r Qb) (.bool true)]++b5 B r Qb):=by kernel_rfl
set_option maxRecDepth 100000 in
theorem xQ(B:Lo)(r:Qe)(Qb:List Int):Xe (Qv YP (QA YP) J0 B 6 1 (Qw YP 51 19 (([.agg (Qz r).toArray,XJ Qb]).map (Q8 0 4))) Ze 1
 (k9 r Qb++[(14,Qj.pure (.bool false) [])]) 0 [] []) []=some (.bool false,
 [Q7 []/\Q4 YP J0 74 (k8 r Qb) (.bool false)]++b5 B r Qb):=by kernel_rfl
set_option maxRecDepth 100000 in
theorem xP(B:Lo)(r:Qe)(Qb:List Int):Xe (Qv YP (QA YP) J0 B 6 1 (Qw YP 51 19 (([.agg (Qz r).toArray,XJ Qb]).map (Q8 0 4))) Ze 1
 [(6,Vd)] 0 [] []) []=some (.bool false,
 [YM (↑Qb.length:Int) r.Qc=false]):=by kernel_rfl
set_option maxHeartbeats 4000000 in
theorem Bc(r:Qe)(Qb:List Int)(hn:r.Qa.length<=61)(Zq:Qb.length<=9223372036854775807){B:Lo}(hJ:∀w,B.has w->J0 w):EndsT YP B (Qw YP 51 19 (([.agg (Qz r).toArray,XJ Qb]).map (Q8 0 4))) (.bool (X2 r Qb)):=by
 have e1:=Se (n:=r.Qa.length) (by omega);by_cases q0:((↑Qb.length:Int):Int)=r.Qc
 ·have Vg:Q7 (b5 B r Qb):=by
   exact⟨(Xb (by omega) (by omega)),⟨(Gk (by omega) (by omega)),⟨(K2 q0),trivial⟩⟩⟩
  cases q1:List.all Qb fun x=>Wt x 0 ((↑(Vb (↑r.Qa.length:Int)):Int)-1)with
  |true=>
   exact(GoE.endsT okF hJ Qf GoE.start (xR B r Qb)
    ⟨⟨trivial,(by have t_:=ES (Qb) (0) ((↑(Vb (↑r.Qa.length:Int)):Int)-1);rw[q1]at t_;exact t_)⟩,Vg⟩).cast (by first|rfl|(simp[X2, *];done)|(simp_all[X2];done)|(simp_all[X2];omega))
  |false=>
   exact(GoE.endsT okF hJ Qf GoE.start (xQ B r Qb)
    ⟨⟨trivial,(by have t_:=ES (Qb) (0) ((↑(Vb (↑r.Qa.length:Int)):Int)-1);rw[q1]at t_;exact t_)⟩,Vg⟩).cast (by first|rfl|(simp[X2, *];done)|(simp_all[X2];done)|(simp_all[X2];omega))
 ·exact(GoE.endsT okF hJ Qf GoE.start (xP B r Qb)
   ⟨(K3 q0),trivial⟩).cast (by first|rfl|(simp[X2, *];done)|(simp_all[X2];done)|(simp_all[X2];omega))
theorem z5(r:Qe)(Qb:List Int)(hn:r.Qa.length<=61):Q4 YP J0 51 #[.agg (Qz r).toArray,XJ Qb] (.bool (X2 r Qb)):=
 UX (ts:=[.agg (Qz r).toArray,XJ Qb]) (Qb.length<=9223372036854775807) (fun _ _ ht=>ht.ln (i:=1) rfl) Zk (c0:=Qw YP 51 19 (([.agg (Qz r).toArray,XJ Qb]).map (Q8 0 4))) (by kernel_rfl) (by kernel_rfl) fun Zq B hJ=>Bc r Qb hn Zq hJ
def cM(r:Qe):Value:=(QO r.Qa.length (Qg Qk r.Qa))
def cO(r:Qe)(Qb:List Int):Array Value:=#[Q6 0 (cM r),.int .i64 r.Qn,.int .i64 r.Qc,.int .i64 (Qb.getD 0 NC),.int .i64 (Qb.getD 1 NC),.int .i64 (Qb.getD 2 NC),.int .i64 (Qb.getD 3 NC)]
def cN(r:Qe):Array Value:=#[Q6 0 (cM r),.int .i64 r.Qn,.int .i64 r.Qc,.int .i64 0,.int .i64 0,.int .i64 0,.int .i64 0]
set_option maxRecDepth 100000 in
theorem pJ(B:Lo)(r:Qe)(Qb:List Int):let c:=Qg Q3 Qb;let b:=NG Qb;let a:=Array.map (ZX 0) (NW c 0 (OA b 4*TypeInfo.size Try.t3));Xe (Qv YP (QA YP) J0 B 10 1 (Qw YP 52 13 (([.agg (Qz r).toArray,XJ Qb]).map (Q8 0 4))) Ze 1
 [(9,Qj.tcpy (cO r Qb))] 0 [] []) []=some (.agg #[QO r.Qa.length (Qg Qk r.Qa),.int .i64 r.Qn,.int .i64 r.Qc,.int .i64 (Qb.getD 0 NC),.int .i64 (Qb.getD 1 NC),.int .i64 (Qb.getD 2 NC),.int .i64 (Qb.getD 3 NC)],
 [0<NG Qb/\3+OA b 4*TypeInfo.size Try.t3<=Ox (cN r)/\OA b 4*TypeInfo.size Try.t3<=Ox c/\(Array.all c fun v=>simple v || WO v)=true/\ones a=true/\splice (cN r) 3 a=(cO r Qb)]):=by intro c b a;kernel_rfl
set_option maxHeartbeats 4000000 in
theorem tH(r:Qe)(Qb:List Int)(h0:0<Qb.length)(hl:Qb.length<=4){B:Lo}(hJ:∀w,B.has w->J0 w):EndsT YP B (Qw YP 52 13 (([.agg (Qz r).toArray,XJ Qb]).map (Q8 0 4))) (.agg (QV r Qb).toArray):=by
 exact(GoE.endsT okF hJ Qf GoE.start (pJ B r Qb)
  ⟨(wv (fun _=>rfl) rfl (by omega) (by omega) rfl (YL rfl) rfl),trivial⟩).cast (by first|rfl|(simp[*];done)|(simp_all[];done)|(simp_all[];omega))
theorem AI(r:Qe)(Qb:List Int)(h0:0<Qb.length)(hl:Qb.length<=4):Q4 YP J0 52 #[.agg (Qz r).toArray,XJ Qb] (.agg (QV r Qb).toArray):=
 Xr (ts:=[.agg (Qz r).toArray,XJ Qb]) Zk (c0:=Qw YP 52 13 (([.agg (Qz r).toArray,XJ Qb]).map (Q8 0 4))) (by kernel_rfl) (by kernel_rfl) fun B hJ=>tH r Qb h0 hl hJ
set_option maxRecDepth 100000 in
theorem BQ(B:Lo)(r:Qe):Xe (Qv YP (QA YP) J0 B 6 1 (Qw YP 15 7 (([.agg (Qz r).toArray]).map (Q8 0 4))) Ze 1
 [(5,W9)] 0 [] []) []=some (.bool true,
 [(!XY 8 (↑r.Qa.length:Int))=true]):=by kernel_rfl
set_option maxRecDepth 100000 in
theorem BP(B:Lo)(r:Qe):Xe (Qv YP (QA YP) J0 B 6 1 (Qw YP 15 7 (([.agg (Qz r).toArray]).map (Q8 0 4))) Ze 1
 [(5,Vd)] 0 [] []) []=some (.bool false,
 [(!XY 8 (↑r.Qa.length:Int))=false]):=by kernel_rfl
set_option maxHeartbeats 4000000 in
theorem Ff(r:Qe)  (Zq:r.Qa.length<=9223372036854775807){B:Lo}(hJ:∀w,B.has w->J0 w):EndsT YP B (Qw YP 15 7 (([.agg (Qz r).toArray]).map (Q8 0 4))) (.bool (decide (r.Qa.length<=8))):=by
 by_cases q0:((↑r.Qa.length:Int):Int)<=(8)
 ·exact(GoE.endsT okF hJ Qf GoE.start (BQ B r)
   ⟨(VL q0),trivial⟩).cast (by first|rfl|(simp[*];done)|(simp_all[];done)|(simp_all[];omega))
 ·exact(GoE.endsT okF hJ Qf GoE.start (BP B r)
   ⟨(VM (Int.not_le.1 q0)),trivial⟩).cast (by first|rfl|(simp[*];done)|(simp_all[];done)|(simp_all[];omega))
theorem Fg(r:Qe)  :Q4 YP J0 15 #[.agg (Qz r).toArray] (.bool (decide (r.Qa.length<=8))):=
 UX (ts:=[.agg (Qz r).toArray]) (r.Qa.length<=9223372036854775807) (fun _ _ ht=>ht.ln2 (i:=0) (j:=0) rfl rfl) Zk (c0:=Qw YP 15 7 (([.agg (Qz r).toArray]).map (Q8 0 4))) (by kernel_rfl) (by kernel_rfl) fun Zq B hJ=>Ff r  Zq hJ
def aC(r:Qe):Array Value:=#[QO r.Qa.length (Qg Qk r.Qa),.int .i64 r.Qn,.int .i64 r.Qc]
def eX(B:Lo)(r:Qe)(Qb:List Int):List Prop:=[Q7 []/\Q4 YP J0 20 #[.agg (aC r)] (.bool true)]++([]:List Prop)
def oU(r:Qe)(Qb:List Int):QE:=[(3,Qj.pure (.bool true) [])]
set_option maxRecDepth 100000 in
theorem BV(B:Lo)(r:Qe)(Qb:List Int):Xe (Qv YP (QA YP) J0 B 6 1 (Qw YP 21 12 (([.agg (Qz r).toArray,XJ Qb]).map (Q8 0 4))) Ze 1
 (oU r Qb++[(7,Qj.pure (.bool true) [])]) 0 [] []) []=some (.bool true,
 [Q7 []/\Q4 YP J0 41 #[.agg (aC r),QO Qb.length (Qg Q3 Qb)] (.bool true)]++eX B r Qb):=by kernel_rfl
set_option maxRecDepth 100000 in
theorem BU(B:Lo)(r:Qe)(Qb:List Int):Xe (Qv YP (QA YP) J0 B 6 1 (Qw YP 21 12 (([.agg (Qz r).toArray,XJ Qb]).map (Q8 0 4))) Ze 1
 (oU r Qb++[(7,Qj.pure (.bool false) [])]) 0 [] []) []=some (.bool false,
 [Q7 []/\Q4 YP J0 41 #[.agg (aC r),QO Qb.length (Qg Q3 Qb)] (.bool false)]++eX B r Qb):=by kernel_rfl
set_option maxRecDepth 100000 in
theorem BT(B:Lo)(r:Qe)(Qb:List Int):Xe (Qv YP (QA YP) J0 B 6 1 (Qw YP 21 12 (([.agg (Qz r).toArray,XJ Qb]).map (Q8 0 4))) Ze 1
 [(3,Qj.pure (.bool false) [])] 0 [] []) []=some (.bool false,
 [Q7 []/\Q4 YP J0 20 #[.agg (aC r)] (.bool false)]):=by kernel_rfl
set_option maxHeartbeats 4000000 in
theorem F1(r:Qe)(Qb:List Int)  {B:Lo}(hJ:∀w,B.has w->J0 w):EndsT YP B (Qw YP 21 12 (([.agg (Qz r).toArray,XJ Qb]).map (Q8 0 4))) (.bool (X1 r && X2 r Qb)):=by
 cases q0:X1 r with
 |true=>
  have Vg:Q7 (eX B r Qb):=by
   try have Z0:=(Q5 (Xz ‹X1 r=true›).1).1
   exact⟨⟨trivial,(by have t_:=II (r);rw[q0]at t_;exact t_)⟩,trivial⟩
  cases q1:X2 r Qb with
  |true=>
   try have Z0:=(Q5 (Xz ‹X1 r=true›).1).1
   exact(GoE.endsT okF hJ Qf GoE.start (BV B r Qb)
    ⟨⟨trivial,(by have t_:=IJ (r) (Qb) (by first|with_reducible assumption|omega|simp_all);rw[q1]at t_;exact t_)⟩,Vg⟩).cast (by first|rfl|(simp[*];done)|(simp_all[];done)|(simp_all[];omega))
  |false=>
   try have Z0:=(Q5 (Xz ‹X1 r=true›).1).1
   exact(GoE.endsT okF hJ Qf GoE.start (BU B r Qb)
    ⟨⟨trivial,(by have t_:=IJ (r) (Qb) (by first|with_reducible assumption|omega|simp_all);rw[q1]at t_;exact t_)⟩,Vg⟩).cast (by first|rfl|(simp[*];done)|(simp_all[];done)|(simp_all[];omega))
 |false=>
  try have Z0:=(Q5 (Xz ‹X1 r=true›).1).1
  exact(GoE.endsT okF hJ Qf GoE.start (BT B r Qb)
   ⟨⟨trivial,(by have t_:=II (r);rw[q0]at t_;exact t_)⟩,trivial⟩).cast (by first|rfl|(simp[*];done)|(simp_all[];done)|(simp_all[];omega))
theorem qW(r:Qe)(Qb:List Int)  :Q4 YP J0 21 #[.agg (Qz r).toArray,XJ Qb] (.bool (X1 r && X2 r Qb)):=
 Xr (ts:=[.agg (Qz r).toArray,XJ Qb]) Zk (c0:=Qw YP 21 12 (([.agg (Qz r).toArray,XJ Qb]).map (Q8 0 4))) (by kernel_rfl) (by kernel_rfl) fun B hJ=>F1 r Qb  hJ
end
end Go.Proofs.Ytncjjangllkokaa

namespace Go.Proofs.Ytncjjangllkokaa
open Go Go.CE Go.RowKit
noncomputable section
set_option maxRecDepth 100000
def JD(p:Int->Bool)(q:Int->Int)(a b u:Int):Int×Int:=
 if h:0<=a/\a<b then(if p ((a+b).tdiv 2)=true then JD p q a ((a+b).tdiv 2) (q ((a+b).tdiv 2))else JD p q ((a+b).tdiv 2+1) b (q ((a+b).tdiv 2)))else(a,u)
termination_by (b-a).toNat
decreasing_by all_goals (have:=Ov (a:=a+b) (b:=2) (by omega);omega)
theorem b9{a b:Int}(h0:0<=a)(h1:a<b):a<=(a+b).tdiv 2/\(a+b).tdiv 2<b:=by
 have:=Ov (a:=a+b) (b:=2) (by omega);omega
theorem kX{p:Int->Bool}{q:Int->Int}{a b u:Int}(h:a=b):JD p q a b u=(a,u):=by
 rw[JD,dif_neg (by omega)]
theorem dE{p:Int->Bool}{q:Int->Int}{a b u:Int}(h0:0<=a)(h1:a<b)(hp:p ((a+b).tdiv 2)=true):JD p q a b u=JD p q a ((a+b).tdiv 2) (q ((a+b).tdiv 2)):=by
 rw[JD,dif_pos ⟨h0,h1⟩,if_pos hp]
theorem iF{p:Int->Bool}{q:Int->Int}{a b u:Int}(h0:0<=a)(h1:a<b)(hp:p ((a+b).tdiv 2)=false):JD p q a b u=JD p q ((a+b).tdiv 2+1) b (q ((a+b).tdiv 2)):=by
 rw[JD,dif_pos ⟨h0,h1⟩,if_neg (by rw[hp];decide)]
theorem BL{p:Int->Bool}{q:Int->Int}:∀(n:Nat) (a b u:Int),(b-a).toNat=n->0<=a->a<=b->(∀r r',a<=r->r<=r'->r'<b->p r=true->p r'=true)->
 a<=(JD p q a b u).1/\(JD p q a b u).1<=b/\(∀r,a<=r->r<(JD p q a b u).1->p r=false)/\(∀r,(JD p q a b u).1<=r->r<b->p r=true):=by
 intro n;induction n using Oi with
 |_ n ih=>
  intro a b u hn h0 h1 hm;by_cases e:a=b
  ·rw[kX e];exact⟨Ol _,h1,fun r h2 h3=>by omega,fun r h2 h3=>by omega⟩
  ·have hi:=b9 h0 (show a<b by omega);cases hp:p ((a+b).tdiv 2)with
   |true=>
    rw[dE h0 (by omega) hp];have:=ih _ (by omega) a ((a+b).tdiv 2) (q ((a+b).tdiv 2)) rfl h0 hi.1 (fun r r' g1 g2 g3=>hm r r' g1 g2 (by omega));refine⟨this.1,by omega,this.2.2.1,fun r h2 h3=> ?_⟩;by_cases e2:r<(a+b).tdiv 2
    ·exact this.2.2.2 r h2 e2
    ·exact hm _ r hi.1 (by omega) h3 hp
   |false=>
    rw[iF h0 (by omega) hp];have:=ih _ (by omega) ((a+b).tdiv 2+1) b (q ((a+b).tdiv 2)) rfl (by omega) (by omega) (fun r r' g1 g2 g3=>hm r r' (by omega) g2 g3);refine⟨by omega,this.2.1,fun r h2 h3=> ?_,this.2.2.2⟩;by_cases e2:(a+b).tdiv 2<r
    ·exact this.2.2.1 r (by omega) h3
    ·cases hr:p r with
     |false=>rfl
     |true=>have:=hm r _ h2 (by omega) hi.2 hr;rw[hp]at this;cases this
theorem HL{p:Int->Bool}{q:Int->Int}:∀(n:Nat) (a b u:Int),(b-a).toNat=n->0<=a->a<=b->a<=(JD p q a b u).1/\(JD p q a b u).1<=b:=by
 intro n;induction n using Oi with
 |_ n ih=>
  intro a b u hn h0 h1;by_cases e:a=b
  ·rw[kX e];exact⟨Ol _,h1⟩
  ·have hi:=b9 h0 (show a<b by omega);cases hp:p ((a+b).tdiv 2)with
   |true=>rw[dE h0 (by omega) hp];have:=ih _ (by omega) a ((a+b).tdiv 2) (q ((a+b).tdiv 2)) rfl h0 hi.1;omega
   |false=>rw[iF h0 (by omega) hp];have:=ih _ (by omega) ((a+b).tdiv 2+1) b (q ((a+b).tdiv 2)) rfl (by omega) (by omega);omega
theorem LR{a b:Int}(h0:0<=a)(h1:a<=b):a<=(a+b).tdiv 2/\(a+b).tdiv 2<=b:=by
 have:=Ov (a:=a+b) (b:=2) (by omega);omega
def YF(Qn n:Int):Int:=n+(n*Qn).tdiv 1000
def Wm(room f g:Int):Int:=if room<=f then 0 else if(f*g).tdiv 1000<room-f then(f*g).tdiv 1000 else room-f
theorem Ky{a r:Int}(ha:0<=a/\a<=1000000000000)(hr:0<=r/\r<=2000):0<=a*r/\a*r<=2000000000000000/\0<=(a*r).tdiv 1000/\(a*r).tdiv 1000<=2000000000000:=by
 have e0:0<=a*r:=Int.mul_nonneg ha.1 hr.1;have e1:a*r<=1000000000000*2000:=Int.mul_le_mul ha.2 hr.2 hr.1 (by omega);have e2:(a*r).tdiv 1000=(a*r) / 1000:=Ov e0;omega
theorem DB(B:Lo)(r:Qe)(n:Int):let a:=n*r.Qn;let b:=n+NF a 1000;Xe (Qv YP (QA YP) J0 B 6 1 (Qw YP 60 12 (([.agg (Qz r).toArray,.int .i64 n]).map (Q8 0 4))) Ze 1
 [(6,Wu a),(7,Wu (NF a 1000)),(8,Wu b)] 0 [] []) []=some (.int .i64 b,
 [wq b=n+NF a 1000,IntKind.wrap .i64 (NF a 1000)=NF a 1000,wq a=n*r.Qn]):=by intro a b;kernel_rfl
set_option maxHeartbeats 4000000 in
theorem Hh(r:Qe)(n:Int)(hm:0<=r.Qn/\r.Qn<=2000)(hn:0<=n/\n<=1000000000000){B:Lo}(hJ:∀w,B.has w->J0 w):EndsT YP B (Qw YP 60 12 (([.agg (Qz r).toArray,.int .i64 n]).map (Q8 0 4))) (.int .i64 (YF r.Qn n)):=by
 have e0:=Ky hn hm;exact(GoE.endsT okF hJ Qf GoE.start (DB B r n)
  ⟨(Xb (by omega) (by omega)),⟨(KW (by omega) (by omega)),⟨(Xb (by omega) (by omega)),trivial⟩⟩⟩).cast (by rfl)
theorem IK(r:Qe)(n:Int)(hm:0<=r.Qn/\r.Qn<=2000)(hn:0<=n/\n<=1000000000000):Q4 YP J0 60 #[.agg (Qz r).toArray,.int .i64 n] (.int .i64 (YF r.Qn n)):=
 Xr (ts:=[.agg (Qz r).toArray,.int .i64 n]) Zk (c0:=Qw YP 60 12 (([.agg (Qz r).toArray,.int .i64 n]).map (Q8 0 4))) (by kernel_rfl) (by kernel_rfl) fun B hJ=>Hh r n hm hn hJ
theorem Ak(B:Lo)(x:Qd)  :Xe (Qv YP (QA YP) J0 B 10 1 (Qw YP 61 10 (([.agg (Qk x).toArray,.bool true]).map (Q8 0 4))) Ze 1
 [] 0 [] []) []=some (.agg #[.int .i64 x.slo,.int .i64 x.shi],
 []):=by kernel_rfl
theorem Aj(B:Lo)(x:Qd)  :Xe (Qv YP (QA YP) J0 B 11 1 (Qw YP 61 10 (([.agg (Qk x).toArray,.bool false]).map (Q8 0 4))) Ze 1
 [] 0 [] []) []=some (.agg #[.int .i64 x.olo,.int .i64 x.ohi],
 []):=by kernel_rfl
set_option maxHeartbeats 4000000 in
theorem CK(x:Qd)(b:Bool)  {B:Lo}(hJ:∀w,B.has w->J0 w):EndsT YP B (Qw YP 61 10 (([.agg (Qk x).toArray,.bool b]).map (Q8 0 4))) (.agg #[.int .i64 (if b then x.slo else x.olo),.int .i64 (if b then x.shi else x.ohi)]):=by
 cases b with
 |true=>
  exact(GoE.endsT okF hJ Qf GoE.start (Ak B x)
   trivial).cast (by rfl)
 |false=>
  exact(GoE.endsT okF hJ Qf GoE.start (Aj B x)
   trivial).cast (by rfl)
theorem W4(x:Qd)(b:Bool)  :Q4 YP J0 61 #[.agg (Qk x).toArray,.bool b] (.agg #[.int .i64 (if b then x.slo else x.olo),.int .i64 (if b then x.shi else x.ohi)]):=
 Xr (ts:=[.agg (Qk x).toArray,.bool b]) Zk (c0:=Qw YP 61 10 (([.agg (Qk x).toArray,.bool b]).map (Q8 0 4))) (by kernel_rfl) (by kernel_rfl) fun B hJ=>CK x b  hJ
theorem A9(B:Lo)(x:Qd)(f g:Int):Xe (Qv YP (QA YP) J0 B 10 1 (Qw YP 62 20 (([.agg (Qk x).toArray,.int .i64 f,.int .i64 g]).map (Q8 0 4))) Ze 1
 [(5,W9)] 0 [] []) []=some (.int .i64 0,
 [(!XY f x.room)=true]):=by kernel_rfl
theorem A8(B:Lo)(x:Qd)(f g:Int):Xe (Qv YP (QA YP) J0 B 11 1 (Qw YP 62 20 (([.agg (Qk x).toArray,.int .i64 f,.int .i64 g]).map (Q8 0 4))) Ze 1
 [(5,Vd),(9,Wu (x.room-f)),(12,Wu (f*g)),(13,Wu (NF (f*g) 1000))] 0 [] []) []=some (.int .i64 (if NF (f*g) 1000<x.room-f then NF (f*g) 1000 else x.room-f),
 [IntKind.wrap .i64 (NF (f*g) 1000)=NF (f*g) 1000,wq (f*g)=f*g,wq (x.room-f)=x.room-f,(!XY f x.room)=false]):=by kernel_rfl
set_option maxHeartbeats 4000000 in
theorem DD(x:Qd)(f g:Int)(hf:0<=f/\f<=1000000000000)(hg:0<=g/\g<=2000)(hx:0<=x.room/\x.room<=1000000){B:Lo}(hJ:∀w,B.has w->J0 w):EndsT YP B (Qw YP 62 20 (([.agg (Qk x).toArray,.int .i64 f,.int .i64 g]).map (Q8 0 4))) (.int .i64 (Wm x.room f g)):=by
 have e0:=Ky hf hg;by_cases q0:(x.room:Int)<=(f)
 ·exact(GoE.endsT okF hJ Qf GoE.start (A9 B x f g)
   ⟨(VL q0),trivial⟩).cast (by(simp only[Wm];rw[if_pos q0];done))
 ·exact(GoE.endsT okF hJ Qf GoE.start (A8 B x f g)
   ⟨(KW (by omega) (by omega)),⟨(Xb (by omega) (by omega)),⟨(Xb (by omega) (by omega)),⟨(VM (Int.not_le.1 q0)),trivial⟩⟩⟩⟩).cast (by(simp only[Wm];rw[if_neg q0];done))
theorem DE(x:Qd)(f g:Int)(hf:0<=f/\f<=1000000000000)(hg:0<=g/\g<=2000)(hx:0<=x.room/\x.room<=1000000):Q4 YP J0 62 #[.agg (Qk x).toArray,.int .i64 f,.int .i64 g] (.int .i64 (Wm x.room f g)):=
 Xr (ts:=[.agg (Qk x).toArray,.int .i64 f,.int .i64 g]) Zk (c0:=Qw YP 62 20 (([.agg (Qk x).toArray,.int .i64 f,.int .i64 g]).map (Q8 0 4))) (by kernel_rfl) (by kernel_rfl) fun B hJ=>DD x f g hf hg hx hJ
def Wn(x:Qd):Span:=⟨x.glo,x.ghi⟩
def Uw(x:Qd):Span:=⟨x.olo,x.ohi⟩
def ZD(Qn:Int)(x:Qd):Span:=⟨x.count,YF Qn x.count⟩
def a6(x_:Qd):Array Value:=#[.int .i64 x_.count,.int .i64 x_.room,.int .i64 x_.glo,.int .i64 x_.ghi,.int .i64 x_.drift,.int .i64 x_.into,.int .i64 x_.olo,.int .i64 x_.ohi,.int .i64 x_.slo,.int .i64 x_.shi,.int .i64 x_.goal,.int .i64 x_.worth]
def Ri(xs:List Qd)(i:Int):=(xs.getD i.toNat NC)
def oJ(xs:List Qd)(i:Int):Value:=(.agg #[.int .i64 (Qd.glo (Ri xs i)),.int .i64 (Qd.ghi (Ri xs i))])
def B6(xs:List Qd)(i:Int)(ys:List Span):Array Value:=(Qg QW (Ot ys i.toNat {lo:=Qd.glo (Ri xs i),hi:=Qd.ghi (Ri xs i)}))
def oI(xs:List Qd):Array Value:=(Qg (K9 [.int .i64 0,.int .i64 0]) (Of xs.length ()))
def Rj(xs:List Qd)(i:Int)(ys:List Span):List Value:=[Value.func (Fn.func 104) #[] #[],.slice (some {block:=2,off:=0}) xs.length 2,Q6 1 (QO xs.length (Qg Qk xs)),.int .i64 (↑xs.length:Int),.int .i64 i]
def Ke(xs:List Qd)(i:Int)(ys:List Span):List Obj:=[.cells (Qg QW ys) 38 (0,0)]
def Rk:List Item:=([.code [1,1,0,1,0,0],.inLoop [1,1,0,1,0,0],.inBlock 0,.code [1,1,1]]).map (it (QX YP 102))
def BC(B:Lo)(c0:CF)(xs:List Qd)(i:Int)(ys:List Span):Prop:=∃dJ:Nat->Value,(∀t,X4 (dJ t))/\GoE YP B c0 Ze 1 (QJ 102 26 (([1,5,11,12,13]:List Nat).zip (Rj xs i ys)) dJ Rk) (QH (Ke xs i ys)) (2+(Ke xs i ys).length) []
def Rl(xs:List Qd)(i:Int)(ys:List Span)(Qt:Nat->Value):Qp:=[(3,Obj.cells (a6 (xs.getD i.toNat NC)) 54),(0,Obj.coro none),(1,Obj.coro none),(2,Obj.cells (Qg QW ys) 38)]
def a8(xs:List Qd)(i:Int)(ys:List Span)(Qt:Nat->Value):CF:=⟨104,ofList 5 [.agg (a6 (xs.getD i.toNat NC))],[Item.code (QX YP 104)],[],.run,none⟩
theorem BA(B:Lo)(xs:List Qd)(i:Int)(ys:List Span)(Qt:Nat->Value):CE.finK 4 (Qv YP (QA YP) J0 B 6 4 (a8 xs i ys Qt) (Rl xs i ys Qt) 4
 [] 0 [] []) [] [] []=some (OO.ret (oJ xs i),[],[],
 []):=by kernel_rfl
theorem B9(B:Lo)(xs:List Qd)(i:Int)(ys:List Span)(Qt:Nat->Value):let f:=oJ xs i;let e:=Ri xs i;let c:=B6 xs i ys;let b:=ND i;let d:=xs.getD b NC;let a:=Ot ys b {lo:=e.glo,hi:=e.ghi};landM (Qv YP (QA YP) J0 B 13 1 (QJ 102 26 (([1,5,11,12,13]:List Nat).zip (Rj xs i ys)) Qt Rk) (QH (Ke xs i ys)) (2+(Ke xs i ys).length)
 [(0,W9),(2,Qj.tidx b (a6 e)),(11,Qj.call (NI 4) (OO.ret f) ([]++(4,Xp)::Xk 5 []) 5 []),(12,Qj.XV (Hint.idx b)),(13,Qj.XV (Hint.st c)),(14,Wu (i+1))] 0 [] []) [1,5,11,12,13] [(2,KS.cells [] c)] []=some ⟨102,26,Rk,[],.run,none,Rj xs (i+1) a,Ke xs (i+1) a,
 [QK 1 [] c c,wq (i+1)=i+1,0+ND i*2+TypeInfo.size Try.t38<=Ox (Qg QW ys)/\splice (Qg QW ys) (0+ND i*2) (Value.cells (XB {len:=16000,tr:=Tri.set 14 (Tri.set 14 Tri.lf 22 f) 23 (.pointer (some {block:=2,off:=0+ND i*2}))} 22))=Qg QW (Ot ys b {lo:=d.glo,hi:=d.ghi}),i=(↑b:Int)/\ND i<NG xs,FJ YP B (a8 xs i ys Qt) (Rl xs i ys Qt) 4 (OO.ret f) (([]++((4,Xp)::Xk (4+1) []))++Rl xs i ys Qt) 5 (NI 4) [],Vq i xs.length (Qg Qk xs) Try.t54.size (a6 d),XY i (↑xs.length:Int)=true]⟩:=by intro f e c b d a;kernel_rfl
theorem B8(B:Lo)(xs:List Qd)(i:Int)(ys:List Span)(Qt:Nat->Value):let a:=Fz.cs {k:=2,rs:=[],cs:=Qg QW ys};Xe (Qv YP (QA YP) J0 B 9 1 (QJ 102 26 (([1,5,11,12,13]:List Nat).zip (Rj xs i ys)) Qt Rk) (QH (Ke xs i ys)) (2+(Ke xs i ys).length)
 [(0,Vd)] 0 [] []) [{k:=2,rs:=[],cs:=Qg QW ys}]=some (QO xs.length a,
 [XT (Fz.rs {k:=2,rs:=[],cs:=Qg QW ys}) (Qg QW ys) a,XY i (↑xs.length:Int)=false]):=by intro a;kernel_rfl
theorem B7(B:Lo)(xs:List Qd):let c:=NG xs;let b:=XB {len:=16000,tr:=Tri.set 14 Tri.lf 9 (.int .i64 (↑c:Int))} 9;let a:=Of c {lo:=0,hi:=0};landM (Qv YP (QA YP) J0 B 9 1 (Qw YP 102 26 (([UU xs,.func (.func 104) #[] #[]]).map (Q8 0 4))) Ze 1
 [(3,Qj.XV (Hint.mk c (oI xs)))] 0 [] []) [1,5,11,12,13] [(1,KS.rows [] [] [] (Qg QW a))] []=some ⟨102,26,Rk,[],.run,none,Rj xs (0) a,Ke xs (0) a,
 [Xv 1 [] [] [] (oI xs) (Qg QW a),S9 YP 36 b b=some (38,Qg (K9 [.int .i64 0,.int .i64 0]) (Of c ()),NG xs,TypeInfo.size Try.t38)]⟩:=by intro c b a;kernel_rfl
set_option maxHeartbeats 4000000 in
theorem BB(xs:List Qd)(hn:xs.length<=1000000){B:Lo}(hJ:∀w,B.has w->J0 w){c0:CF}:∀m:Nat,(∀(i:Int) (ys:List Span),(xs.length-i.toNat)=m->∀(h0:0<=i) (hy:ys=Pu Wn ⟨0,0⟩ xs i),BC B c0 xs i ys->EndsT YP B c0 (P0 (xs.map Wn))):=by
 intro m0;induction m0 using Oi with
 |_ m0 ih0=>
  intro i ys Ru h0 hy ⟨Qt,Vs,XL⟩;have hyl:ys.length=xs.length:=by rw[hy];exact Ry
  by_cases q0:(i:Int)<((↑xs.length:Int))
  ·have rj0:FJ YP B (a8 xs i ys Qt) (Rl xs i ys Qt) 4 (OO.ret (.agg #[.int .i64 (Qd.glo (xs.getD i.toNat NC)),.int .i64 (Qd.ghi (xs.getD i.toNat NC))])) (([]++((4,Xp)::Xk (4+1) []))++Rl xs i ys Qt) 5 (NI 4) []:=by
    exact FinK.fjB (GoE.finK okF hJ Qf (Q9 (by kernel_rfl)) (Q1 (by kernel_rfl)) ((GoE.refl (P:=YP) (B:=B) (c0:=a8 xs i ys Qt) (Q9 (by kernel_rfl))).widen (Wf:=((([]):List (Nat×KS)).map (·.1))) (by simp) (Q1 (by kernel_rfl))) (BA B xs i ys Qt)
     trivial) (ex:=[2]) (by kernel_rfl) ⟨trivial,⟨trivial,⟨trivial,⟨(JH (t:=38) (fl:=(0,0)) (fun x=>List.all_eq_true.1 (by rfl))),trivial⟩⟩⟩⟩
   exact((ih0 _ (by omega)) (i+1) (Ot ys i.toNat {lo:=Qd.glo (xs.getD i.toNat NC),hi:=Qd.ghi (xs.getD i.toNat NC)}) rfl (by omega) (by(subst hy;exact Rx (f:=Wn) h0 q0))
    (XL.landM okF hJ Qf (B9 B xs i ys Qt)
    (by exact⟨(Qr (Q2 (fun x=>List.all_eq_true.1 (by rfl)))),⟨(Xb (by omega) (by omega)),⟨(by exact WU (z:=2) (k:=ND i) (fun _=>rfl) (by first|omega|(rw[Ow];omega)|(rw[Ou];omega)) rfl rfl),⟨⟨by omega,by omega⟩,⟨rj0,⟨⟨by omega,by omega,(Q0 (z:=12) (fun _=>rfl) (by omega))⟩,⟨(XD q0),trivial⟩⟩⟩⟩⟩⟩⟩) (by kernel_rfl) (by kernel_rfl))).cast (by rfl)
  ·exact(GoE.endsT okF hJ Qf XL (B8 B xs i ys Qt)
    ⟨(X9 (fun x=>List.all_eq_true.1 (by rfl))),⟨(Zb (Int.not_lt.1 q0)),trivial⟩⟩).cast (by exact bY (hy.trans (Rz (by omega))) (by simp))
set_option maxHeartbeats 4000000 in
theorem EO(xs:List Qd)(hn:xs.length<=1000000){B:Lo}(hJ:∀w,B.has w->J0 w):EndsT YP B (Qw YP 102 26 (([UU xs,.func (.func 104) #[] #[]]).map (Q8 0 4))) (P0 (xs.map Wn)):=by
 exact((BB xs hn hJ _) (0) (Of xs.length {lo:=0,hi:=0}) rfl (by omega) (by exact dW)
  (GoE.start.landM okF hJ Qf (B7 B xs)
  (by exact⟨(by exact(Ki (by exact⟨(.simple rfl),⟨(.simple rfl),trivial⟩⟩) _)),⟨(ni (bytes:=16) (by kernel_rfl) (by omega) (by omega) (by omega)),trivial⟩⟩) (by kernel_rfl) (by kernel_rfl))).cast (by rfl)
theorem LK(xs:List Qd)(hn:xs.length<=1000000):Q4 YP J0 102 #[UU xs,.func (.func 104) #[] #[]] (P0 (xs.map Wn)):=
 Xr (ts:=[UU xs,.func (.func 104) #[] #[]]) Zk (c0:=Qw YP 102 26 (([UU xs,.func (.func 104) #[] #[]]).map (Q8 0 4))) (by kernel_rfl) (by kernel_rfl) fun B hJ=>EO xs hn hJ
def ak(rf:Qe):=(List.map Wn rf.Qa)
def o8(rf:Qe):Value:=(QO (NG (ak rf)) (Qg QW (ak rf)))
theorem Bd(B:Lo)(rf:Qe)(Qb:List Int):Xe (Qv YP (QA YP) J0 B 6 1 (Qw YP 83 7 (([.agg (QV rf Qb).toArray]).map (Q8 0 4))) Ze 1
 [(5,Qj.pure (o8 rf) [])] 0 [] []) []=some (QO (NG (ak rf)) (Qg QW (ak rf)),
 [Q7 []/\Q4 YP J0 102 #[QO rf.Qa.length (Qg Qk rf.Qa),Value.func (Fn.func 104) #[] #[]] (o8 rf)]):=by kernel_rfl
set_option maxHeartbeats 4000000 in
theorem E6(rf:Qe)(Qb:List Int)(hn:rf.Qa.length<=1000000){B:Lo}(hJ:∀w,B.has w->J0 w):EndsT YP B (Qw YP 83 7 (([.agg (QV rf Qb).toArray]).map (Q8 0 4))) (P0 (rf.Qa.map Wn)):=by
 exact(GoE.endsT okF hJ Qf GoE.start (Bd B rf Qb)
  ⟨⟨trivial,LK rf.Qa (by with_reducible assumption)⟩,trivial⟩).cast (by rfl)
theorem LA(rf:Qe)(Qb:List Int)(hn:rf.Qa.length<=1000000):Q4 YP J0 83 #[.agg (QV rf Qb).toArray] (P0 (rf.Qa.map Wn)):=
 Xr (ts:=[.agg (QV rf Qb).toArray]) Zk (c0:=Qw YP 83 7 (([.agg (QV rf Qb).toArray]).map (Q8 0 4))) (by kernel_rfl) (by kernel_rfl) fun B hJ=>E6 rf Qb hn hJ
def Sc(x_:Qd):Array Value:=#[.int .i64 x_.count,.int .i64 x_.room,.int .i64 x_.glo,.int .i64 x_.ghi,.int .i64 x_.drift,.int .i64 x_.into,.int .i64 x_.olo,.int .i64 x_.ohi,.int .i64 x_.slo,.int .i64 x_.shi,.int .i64 x_.goal,.int .i64 x_.worth]
def UN(rf:Qe)(i:Int):=(rf.Qa.getD i.toNat NC)
def UO(rf:Qe)(i:Int):=(UN rf i)
def jY(rf:Qe)(i:Int):Value:=(.agg #[.int .i64 (Qd.count (UN rf i)),.int .i64 (Qd.count (UN rf i)+NF (Qd.count (UN rf i)*rf.Qn) 1000)])
def Sb(rf:Qe)(i:Int):=(Qd.count (UO rf i)*rf.Qn)
def jX(rf:Qe)(i:Int)(ys:List Span):Array Value:=(Qg QW (Ot ys i.toNat {lo:=Qd.count (UN rf i),hi:=Qd.count (UN rf i)+NF (Qd.count (UN rf i)*rf.Qn) 1000}))
def Sa(rf:Qe):=(List.map (ZD rf.Qn) rf.Qa)
def xw(rf:Qe):Value:=(Q6 2 (QO (NG (Sa rf)) (Qg QW (Sa rf))))
def jW(rf:Qe)(i:Int):Value:=(.agg #[.int .i64 (Qd.count (UO rf i)),.int .i64 (Qd.count (UO rf i)+NF (Sb rf i) 1000)])
def jV(rf:Qe):Array Value:=(Qg (K9 [.int .i64 0,.int .i64 0]) (Of rf.Qa.length ()))
def jU(rf:Qe)(i:Int)(ys:List Span):Array Value:=(Qg QW (Ot ys i.toNat {lo:=Qd.count (UO rf i),hi:=Qd.count (UO rf i)+NF (Sb rf i) 1000}))
def fU(rf:Qe):Array Value:=(Qg QW (Of rf.Qa.length {lo:=0,hi:=0}))
def Va(rf:Qe)(Qb:List Int):Qp:=[(1,Obj.cells #[Q6 0 (QO rf.Qa.length (Qg Qk rf.Qa)),.int .i64 rf.Qn,.int .i64 rf.Qc,.int .i64 (Qb.getD 0 0),.int .i64 (Qb.getD 1 0),.int .i64 (Qb.getD 2 0),.int .i64 (Qb.getD 3 0)] 84),(0,Obj.coro none)]
def KI(rf:Qe)(Qb:List Int):CF:=⟨102,ofList 26 [Q6 0 (QO rf.Qa.length (Qg Qk rf.Qa)),Value.func (Fn.func 103) #[] #[pA 1 0]],[Item.code (QX YP 102)],[],.run,none⟩
def U0(rf:Qe)(Qb:List Int)(i:Int)(ys:List Span):List Value:=[Value.func (Fn.func 103) #[] #[pA 1 0],.slice (some {block:=3,off:=0}) rf.Qa.length 2,Q6 0 (QO rf.Qa.length (Qg Qk rf.Qa)),.int .i64 (↑rf.Qa.length:Int),.int .i64 i]
def Uz(rf:Qe)(Qb:List Int)(i:Int)(ys:List Span):List Obj:=[]
def VE(rf:Qe)(Qb:List Int)(i:Int)(ys:List Span):List Obj:=[.cells (Qg QW ys) 38 (0,0)]
def U1:List Item:=([.code [1,1,0,1,0,0],.inLoop [1,1,0,1,0,0],.inBlock 0,.code [1,1,1]]).map (it (QX YP 102))
def J6(rf:Qe)(Qb:List Int)(i:Int)(ys:List Span)(Qt:Nat->Value):Qp:=[(4,Obj.cells (Sc (rf.Qa.getD i.toNat NC)) 54),(2,Obj.coro none),(3,Obj.cells (Qg QW ys) 38),(1,Obj.cells #[Q6 0 (QO rf.Qa.length (Qg Qk rf.Qa)),.int .i64 rf.Qn,.int .i64 rf.Qc,.int .i64 (Qb.getD 0 0),.int .i64 (Qb.getD 1 0),.int .i64 (Qb.getD 2 0),.int .i64 (Qb.getD 3 0)] 84),(0,Obj.coro none)]
def Sd(rf:Qe)(Qb:List Int)(i:Int)(ys:List Span)(Qt:Nat->Value):CF:=⟨103,ofList 13 [.agg (Sc (rf.Qa.getD i.toNat NC)),pA 1 0],[Item.code (QX YP 103)],[],.run,none⟩
theorem x9(B:Lo)(rf:Qe)(Qb:List Int)(i:Int)(ys:List Span)(Qt:Nat->Value):let a:=rf.Qa.getD i.toNat NC;CE.finK 5 (Qv YP (QA YP) J0 B 6 5 (Sd rf Qb i ys Qt) (J6 rf Qb i ys Qt) 5
 [(9,Qj.pure (.int .i64 (Qd.count (UO rf i)+NF (Sb rf i) 1000)) [])] 0 [] []) [] [] []=some (OO.ret (jW rf i),[],[],
 [Q7 []/\Q4 YP J0 100 #[.int .i64 a.count,.int .i64 rf.Qn] (.int .i64 (a.count+NF (a.count*rf.Qn) 1000))]):=by intro a;kernel_rfl
theorem x6(B:Lo)(rf:Qe)(Qb:List Int)(i:Int)(ys:List Span)(Qt:Nat->Value):let f:=VE rf Qb i ys;let e:=UO rf i;let d:=ND i;let c:=rf.Qa;let b:=c.getD d NC;let a:=Ot ys d {lo:=e.count,hi:=e.count+NF (Sb rf i) 1000};CE.landA 2 (Qv YP (QA YP) J0 B 13 2 (WY (none) 102 26 (([1,5,11,12,13]:List Nat).zip (U0 rf Qb i ys)) Qt U1) (Z9 (Va rf Qb) 2 (([]:List Nat).zip (Uz rf Qb i ys)) f) (2+1+f.length)
 [(0,W9),(2,Qj.tidx d (Sc e)),(11,Qj.call (NI 5) (OO.ret (jW rf i)) ([]++(5,Xp)::Xk 6 []) 6 []),(12,Qj.XV (Hint.idx d)),(13,Qj.XV (Hint.st (jU rf i ys))),(14,Wu (i+1))] 0 [] []) [1,5,11,12,13] [] [(3,KS.cells [] (jU rf i ys))] []=some ⟨102,26,U1,[],.run,none,U0 rf Qb (i+1) a,([]:List Nat).zip (Uz rf Qb (i+1) a),VE rf Qb (i+1) a,
 [QK 2 [] (jX rf i ys) (jX rf i ys),wq (i+1)=i+1,0+ND i*2+TypeInfo.size Try.t38<=Ox (Qg QW ys)/\splice (Qg QW ys) (0+ND i*2) (Value.cells (XB {len:=16000,tr:=Tri.set 14 (Tri.set 14 Tri.lf 22 (jY rf i)) 23 (.pointer (some {block:=3,off:=0+ND i*2}))} 22))=Qg QW (Ot ys d {lo:=b.count,hi:=b.count+NF (b.count*rf.Qn) 1000}),i=(↑d:Int)/\ND i<NG c,FJ YP B (Sd rf Qb i ys Qt) (J6 rf Qb i ys Qt) 5 (OO.ret (jY rf i)) (([]++((5,Xp)::Xk (5+1) []))++J6 rf Qb i ys Qt) 6 (NI 5) [],Vq i c.length (Qg Qk c) Try.t54.size (Sc b),XY i (↑c.length:Int)=true]⟩:=by intro f e d c b a;kernel_rfl
theorem xz(B:Lo)(rf:Qe)(Qb:List Int)(i:Int)(ys:List Span)(Qt:Nat->Value):let c:=VE rf Qb i ys;let b:=NG rf.Qa;let a:=Fz.cs {k:=3,rs:=[],cs:=Qg QW ys};CE.finK 2 (Qv YP (QA YP) J0 B 9 2 (WY (none) 102 26 (([1,5,11,12,13]:List Nat).zip (U0 rf Qb i ys)) Qt U1) (Z9 (Va rf Qb) 2 (([]:List Nat).zip (Uz rf Qb i ys)) c) (2+1+c.length)
 [(0,Vd)] 0 [] []) [] [] [{k:=3,rs:=[],cs:=Qg QW ys}]=some (OO.ret (Q6 2 (QO b a)),[],[],
 [XT (Fz.rs {k:=3,rs:=[],cs:=Qg QW ys}) (Qg QW ys) a,XY i (↑b:Int)=false]):=by intro c b a;kernel_rfl
set_option maxHeartbeats 4000000 in
theorem n6(rf:Qe)(Qb:List Int)(hn:rf.Qa.length<=1000000)(hm:0<=rf.Qn/\rf.Qn<=2000)(hc:∀k:Int,0<=k->k<rf.Qa.length->0<=(rf.Qa.getD k.toNat NC).count/\(rf.Qa.getD k.toNat NC).count<=1000000){B:Lo}(hJ:∀w,B.has w->J0 w):∀m:Nat,(∀(i:Int) (ys:List Span),(rf.Qa.length-i.toNat)=m->∀(h0:0<=i) (hy:ys=Pu (ZD rf.Qn) ⟨0,0⟩ rf.Qa i),(∃Qt:Nat->Value,(∀t,X4 (Qt t))/\GoE YP B (KI rf Qb) (Va rf Qb) 2 (WY (none) 102 26 (([1,5,11,12,13]:List Nat).zip (U0 rf Qb i ys)) Qt U1) (Z9 (Va rf Qb) 2 (([]:List Nat).zip (Uz rf Qb i ys)) (VE rf Qb i ys)) (2+1+(VE rf Qb i ys).length) ([]:List Nat))->FinK YP B (KI rf Qb) (Va rf Qb) 2 (.ret (Q6 2 (P0 (rf.Qa.map (ZD rf.Qn))))) (([]:List Nat).zip ([])) ([]) ([]:List Nat)):=by
 intro m0;induction m0 using Oi with
 |_ m0 ih0=>
  intro i ys Ru h0 hy ⟨Qt,Vs,XL⟩;have hyl:ys.length=rf.Qa.length:=by rw[hy];exact Ry
  by_cases q0:(i:Int)<((↑rf.Qa.length:Int))
  ·have rj1:FJ YP B (Sd rf Qb i ys Qt) (J6 rf Qb i ys Qt) 5 (OO.ret (.agg #[.int .i64 (Qd.count (rf.Qa.getD i.toNat NC)),.int .i64 (Qd.count (rf.Qa.getD i.toNat NC)+NF (Qd.count (rf.Qa.getD i.toNat NC)*rf.Qn) 1000)])) (([]++((5,Xp)::Xk (5+1) []))++J6 rf Qb i ys Qt) 6 (NI 5) []:=by
    have hc1:=hc i h0 q0;exact FinK.fjB (GoE.finK okF hJ Qf (Q9 (by kernel_rfl)) (Q1 (by kernel_rfl)) ((GoE.refl (P:=YP) (B:=B) (c0:=Sd rf Qb i ys Qt) (Q9 (by kernel_rfl))).widen (Wf:=((([]):List (Nat×KS)).map (·.1))) (by simp) (Q1 (by kernel_rfl))) (x9 B rf Qb i ys Qt)
     ⟨⟨trivial,xB (Qd.count (rf.Qa.getD i.toNat NC)) rf.Qn (by omega) (by omega)⟩,trivial⟩) (ex:=[3]) (by kernel_rfl) ⟨trivial,⟨trivial,⟨(JH (t:=38) (fl:=(0,0)) (fun x=>List.all_eq_true.1 (by rfl))),⟨trivial,⟨trivial,trivial⟩⟩⟩⟩⟩
   have hc1:=hc i h0 q0;exact((ih0 _ (by omega)) (i+1) (Ot ys i.toNat {lo:=Qd.count (rf.Qa.getD i.toNat NC),hi:=Qd.count (rf.Qa.getD i.toNat NC)+NF (Qd.count (rf.Qa.getD i.toNat NC)*rf.Qn) 1000}) rfl (by omega) (by(subst hy;exact Rx (f:=ZD rf.Qn) h0 q0))
    (GoE.landA okF hJ Qf (Q9 (by kernel_rfl)) (Q1 (by kernel_rfl)) XL (x6 B rf Qb i ys Qt)
    (by exact⟨(Qr (Q2 (fun x=>List.all_eq_true.1 (by rfl)))),⟨(Xb (by omega) (by omega)),⟨(by exact WU (z:=2) (k:=ND i) (fun _=>rfl) (by first|omega|(rw[Ow];omega)|(rw[Ou];omega)) rfl rfl),⟨⟨by omega,by omega⟩,⟨rj1,⟨⟨by omega,by omega,(Q0 (z:=12) (fun _=>rfl) (by omega))⟩,⟨(XD q0),trivial⟩⟩⟩⟩⟩⟩⟩) (by kernel_rfl) (by kernel_rfl) (fun l hl=>by cases hl <;> decide))).cast (by rfl) (by rfl) (by rfl)
  ·exact(GoE.finK okF hJ Qf (Q9 (by kernel_rfl)) (Q1 (by kernel_rfl)) XL (xz B rf Qb i ys Qt)
    ⟨(X9 (fun x=>List.all_eq_true.1 (by rfl))),⟨(Zb (Int.not_lt.1 q0)),trivial⟩⟩).cast (by exact congrArg (fun v=>OO.ret (Q6 _ v)) (bY (hy.trans (Rz (by omega))) (by simp))) (by rfl) (by rfl)

theorem xA(B:Lo)(rf:Qe)(Qb:List Int):let a:=NG rf.Qa;let c:=Of a {lo:=0,hi:=0};let b:=XB {len:=16000,tr:=Tri.set 14 Tri.lf 9 (.int .i64 (↑a:Int))} 9;CE.landA 2 (Qv YP (QA YP) J0 B 9 2 (KI rf Qb) (Va rf Qb) 2
 [(3,Qj.XV (Hint.mk a (jV rf)))] 0 [] []) [1,5,11,12,13] [] [(2,KS.rows [] [] [] (fU rf))] []=some ⟨102,26,U1,[],.run,none,U0 rf Qb (0) c,([]:List Nat).zip (Uz rf Qb (0) c),VE rf Qb (0) c,
 [Xv 2 [] [] [] (jV rf) (fU rf),S9 YP 36 b b=some (38,Qg (K9 [.int .i64 0,.int .i64 0]) (Of a ()),NG rf.Qa,TypeInfo.size Try.t38)]⟩:=by intro a c b;kernel_rfl
theorem xx(B:Lo)(rf:Qe)(Qb:List Int):let a:=OO.ret (xw rf);Xe (Qv YP (QA YP) J0 B 6 1 (Qw YP 82 8 (([.agg (QV rf Qb).toArray]).map (Q8 0 4))) Ze 1
 [(6,Qj.call (NI 2) a ([]++(2,Xp)::Xk 3 []) 3 [])] 0 [] []) []=some (QO (NG (Sa rf)) (Qg QW (Sa rf)),
 [FJ YP B (KI rf Qb) (Va rf Qb) 2 a (([]++((2,Xp)::Xk (2+1) []))++Va rf Qb) 3 (NI 2) []]):=by intro a;kernel_rfl
set_option maxHeartbeats 4000000 in
theorem AV(rf:Qe)(Qb:List Int)(hn:rf.Qa.length<=1000000)(hm:0<=rf.Qn/\rf.Qn<=2000)(hc:∀k:Int,0<=k->k<rf.Qa.length->0<=(rf.Qa.getD k.toNat NC).count/\(rf.Qa.getD k.toNat NC).count<=1000000){B:Lo}(hJ:∀w,B.has w->J0 w):EndsT YP B (Qw YP 82 8 (([.agg (QV rf Qb).toArray]).map (Q8 0 4))) (P0 (rf.Qa.map (ZD rf.Qn))):=by
 have rj0:FJ YP B (KI rf Qb) (Va rf Qb) 2 (OO.ret (Q6 2 (QO (NG (List.map (ZD rf.Qn) rf.Qa)) (Qg QW (List.map (ZD rf.Qn) rf.Qa))))) (([]++((2,Xp)::Xk (2+1) []))++Va rf Qb) 3 (NI 2) []:=by
  exact FinK.fjB ((n6 rf Qb hn hm hc hJ _) (0) (Of rf.Qa.length {lo:=0,hi:=0}) rfl (by omega) (by exact dW)
   (GoE.landA okF hJ Qf (Q9 (by kernel_rfl)) (Q1 (by kernel_rfl)) ((GoE.refl (P:=YP) (B:=B) (c0:=KI rf Qb) (Q9 (by kernel_rfl))).widen (Wf:=((([]):List (Nat×KS)).map (·.1))) (by simp) (Q1 (by kernel_rfl))) (xA B rf Qb)
   ⟨(by exact(Ki (by exact⟨(.simple rfl),⟨(.simple rfl),trivial⟩⟩) _)),⟨(ni (bytes:=16) (by kernel_rfl) (by omega) (by omega) (by omega)),trivial⟩⟩ (by kernel_rfl) (by kernel_rfl) (fun l hl=>by cases hl <;> decide))) (ex:=[]) (by kernel_rfl) (Vo _)
 exact(GoE.endsT okF hJ Qf GoE.start (xx B rf Qb)
  ⟨rj0,trivial⟩).cast (by rfl)
theorem Hw(rf:Qe)(Qb:List Int)(hn:rf.Qa.length<=1000000)(hm:0<=rf.Qn/\rf.Qn<=2000)(hc:∀k:Int,0<=k->k<rf.Qa.length->0<=(rf.Qa.getD k.toNat NC).count/\(rf.Qa.getD k.toNat NC).count<=1000000):Q4 YP J0 82 #[.agg (QV rf Qb).toArray] (P0 (rf.Qa.map (ZD rf.Qn))):=
 Xr (ts:=[.agg (QV rf Qb).toArray]) Zk (c0:=Qw YP 82 8 (([.agg (QV rf Qb).toArray]).map (Q8 0 4))) (by kernel_rfl) (by kernel_rfl) fun B hJ=>AV rf Qb hn hm hc hJ
end
end Go.Proofs.Ytncjjangllkokaa

