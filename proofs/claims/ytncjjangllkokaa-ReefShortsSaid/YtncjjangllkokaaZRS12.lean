/- Reef: what is as defined. -/
import Derived.Test.YtncjjangllkokaaZRS11
set_option linter.all false
open Nat renaming strongRecOn->LQ,min->LU
open List renaming length_set->LS,length_replicate->LR,length->Li,set->Lj,replicate->Lm,range->Ln
open Int renaming tdiv->Lh,tdiv_eq_ediv_of_nonneg->Ma,toNat->Lf
open Array renaming size->L4,extract->Lz
open Inhabited renaming default->Le
namespace Go.Proofs.Ytncjjangllkokaa
open Go Go.CE Go.RowKit
noncomputable section
set_option maxRecDepth 100000
structure Qc where
 count:Int
 room:Int
 WZ:Int
 Va:Int
 Qv:Int
 QU:Int
 Wj:Int
 Wl:Int
 ZU:Int
 ZV:Int
 goal:Int
 Vf:Int
deriving Inhabited
structure Qg where
 Qa:List Qc
 Qq:Int
 Qd:Int
deriving Inhabited
structure Xh where
 Qi:List Int
 Ql:List (List Int)
 Qo:List (List Int)
deriving Inhabited
def Qn(c:Qc):List Value:=[.int .i64 c.count,.int .i64 c.room,.int .i64 c.WZ,.int .i64 c.Va,.int .i64 c.Qv,.int .i64 c.QU,.int .i64 c.Wj,.int .i64 c.Wl,.int .i64 c.ZU,.int .i64 c.ZV,.int .i64 c.goal,.int .i64 c.Vf]
abbrev Kl(xs:List Qc):Value:=QV xs.length (Qf Qn xs)
def Q9(r:Qg):List Value:=[Kl r.Qa,.int .i64 r.Qq,.int .i64 r.Qd]
def Z3(x:Qc):Bool:=Vv x.count 0 1000000 && (Vv x.room 0 1000000 && (Vv x.goal 0 1000000 && (Vv x.Vf 0 1000000 && (Zi x.WZ x.Va 0 2000 && (Vv x.Qv 0 1000 && (Zi x.Wj x.Wl 0 1000000 && (Zi x.ZU x.ZV 0 1000000 && (decide (x.ZU<=x.Wj) && decide (x.ZV<=x.Wl)))))))))
def YI(n v:Int):Bool:=decide (v= -1) || Vv v 0 (n-1)
theorem FE{n v:Int}(h:0<=n):Vv v (-1) (n-1)=YI n v:=by
 unfold YI Vv;by_cases e:v= -1
 ·subst e;simp;omega
 ·simp[e];by_cases h1:0<=v
  ·simp[h1];omega
  ·have:¬(-1<=v):=by omega
   simp[this,h1]
def ZZ(n i:Int)(x:Qc):Bool:=Z3 x && (YI n x.QU && !decide (x.QU=i))
def Pj(ps:List Qc)(i:Int):Bool:=(JV i ps.length).all fun k=>ZZ ps.length k (ps.getD k.toNat Le)
def Jn(r:Qg):Bool:=Vv r.Qa.length 1 4 && (Vv r.Qq 0 2000 && Vv r.Qd 1 4)
def Zu(r:Qg):Bool:=Jn r && Pj r.Qa 0
def XN(r:Qg)(Qb:List Int):Bool:=decide (Qb.length=r.Qd) && Qb.all fun x=>Vv x 0 (((Vd r.Qa.length:Nat):Int)-1)
theorem Xf{ps:List Qc}{i:Int}(h:i<ps.length):Pj ps i=(ZZ ps.length i (ps.getD i.toNat Le) && Pj ps (i+1)):=by
 unfold Pj;rw[A0 h,List.all_cons]
theorem Up{ps:List Qc}{i:Int}(h:ps.length<=i):Pj ps i=true:=by
 unfold Pj;rw[xC h];rfl
theorem Gr{x:Qc}(h:Z3 x=true):(0<=x.count/\x.count<=1000000)/\(0<=x.room/\x.room<=1000000)/\(0<=x.goal/\x.goal<=1000000)/\(0<=x.Vf/\x.Vf<=1000000)/\(0<=x.WZ/\x.WZ<=x.Va/\x.Va<=2000)/\(0<=x.Qv/\x.Qv<=1000)/\(0<=x.Wj/\x.Wj<=x.Wl/\x.Wl<=1000000)/\(0<=x.ZU/\x.ZU<=x.ZV/\x.ZV<=1000000)/\x.ZU<=x.Wj/\x.ZV<=x.Wl:=by
 simp only[Z3,YB,av,mU,decide_eq_true_iff]at h;omega
theorem QG{r:Qg}(h:Jn r=true):(1<=r.Qa.length/\r.Qa.length<=4)/\(0<=r.Qq/\r.Qq<=2000)/\(1<=r.Qd/\r.Qd<=4):=by
 simp only[Jn,YB,av]at h;omega
theorem W9{r:Qg}(h:Zu r=true):Jn r=true/\∀k:Int,0<=k->k<r.Qa.length->Z3 (r.Qa.getD k.toNat Le)=true/\YI r.Qa.length (r.Qa.getD k.toNat Le).QU=true/\(r.Qa.getD k.toNat Le).QU≠k:=by
 simp only[Zu,YB]at h;refine⟨h.1,fun k h0 h1=> ?_⟩;have:=yo h.2 h0 h1;simp only[ZZ,YB,Bool.not_eq_true',decide_eq_false_iff_not]at this;exact⟨this.1,this.2.1,this.2.2⟩
def dW(x:Qc):Bool:=Vv x.count 0 1000000 && (Vv x.room 0 1000000 && (Vv x.goal 0 1000000 && (Vv x.Vf 0 1000000 && (Zi x.WZ x.Va 0 2000 && (Vv x.Qv 0 1000 && (Zi x.Wj x.Wl 0 1000000 && Zi x.ZU x.ZV 0 1000000))))))
def Zq(r:Qg):Bool:=Jn r && (JV 0 r.Qa.length).all fun k=>dW (r.Qa.getD k.toNat Le) && (YI r.Qa.length (r.Qa.getD k.toNat Le).QU && !decide ((r.Qa.getD k.toNat Le).QU=k))
theorem EY{x:Qc}(h:Z3 x=true):dW x=true:=by
 simp only[Z3,dW,YB]at h ⊢;exact⟨h.1,h.2.1,h.2.2.1,h.2.2.2.1,h.2.2.2.2.1,h.2.2.2.2.2.1,h.2.2.2.2.2.2.1,h.2.2.2.2.2.2.2.1⟩
theorem KG{r:Qg}(h:Zu r=true):Zq r=true:=by
 obtain⟨h1,h2⟩:=W9 h;unfold Zq;rw[YB];refine⟨h1,List.all_eq_true.2 fun k hk=> ?_⟩;unfold JV at hk;obtain⟨m,hm,rfl⟩:=List.mem_map.1 hk;have hm':=List.mem_range.1 hm;have:=h2 (0+(m:Int)) (by omega) (by omega);simp only[YB,Bool.not_eq_true',decide_eq_false_iff_not];exact⟨EY this.1,this.2.1,this.2.2⟩
theorem Xc{x:Qc}(h:dW x=true):(0<=x.count/\x.count<=1000000)/\(0<=x.room/\x.room<=1000000)/\(0<=x.goal/\x.goal<=1000000)/\(0<=x.Vf/\x.Vf<=1000000)/\(0<=x.WZ/\x.WZ<=x.Va/\x.Va<=2000)/\(0<=x.Qv/\x.Qv<=1000)/\(0<=x.Wj/\x.Wj<=x.Wl/\x.Wl<=1000000)/\(0<=x.ZU/\x.ZU<=x.ZV/\x.ZV<=1000000)/\True:=by
 simp only[dW,YB,av,mU]at h;simp only[and_true];omega
theorem Qz{r:Qg}(h:Zq r=true):Jn r=true/\∀k:Int,0<=k->k<r.Qa.length->dW (r.Qa.getD k.toNat Le)=true/\YI r.Qa.length (r.Qa.getD k.toNat Le).QU=true/\(r.Qa.getD k.toNat Le).QU≠k:=by
 simp only[Zq,YB]at h;refine⟨h.1,fun k h0 h1=> ?_⟩;have:=yo h.2 h0 h1;simp only[YB,Bool.not_eq_true',decide_eq_false_iff_not]at this;exact⟨this.1,this.2.1,this.2.2⟩
instance {r:Qg}:Coe (Zu r=true) (Zq r=true):=⟨KG⟩
def fg(x:Qc):Array Value:=#[.agg #[.int .i64 x.Wj,.int .i64 x.Wl],.int .i64 1000000]
def ff(x:Qc):Array Value:=#[.agg #[.int .i64 x.ZU,.int .i64 x.ZV],.int .i64 1000000]
def fe(x:Qc):Array Value:=#[.agg #[.int .i64 x.WZ,.int .i64 x.Va],.int .i64 2000]
def eZ(x:Qc):Array Value:=#[.int .i64 x.Vf,.int .i64 0,.int .i64 1000000]
def eY(x:Qc):Array Value:=#[.int .i64 x.Qv,.int .i64 0,.int .i64 1000]
def Th(B:Lo)(x:Qc):List Prop:=[QB []/\Q6 YP J0 95 #[.int .i64 x.count] (.bool true)]++([]:List Prop)
def fy(x:Qc):QO:=[(4,Qk.pure (.bool true) [])]
def Tg(B:Lo)(x:Qc):List Prop:=[QB []/\Q6 YP J0 95 #[.int .i64 x.room] (.bool true)]++Th B x
def fx(x:Qc):QO:=fy x++[(8,Qk.pure (.bool true) [])]
def Tf(B:Lo)(x:Qc):List Prop:=[QB []/\Q6 YP J0 95 #[.int .i64 x.goal] (.bool true)]++Tg B x
def fw(x:Qc):QO:=fx x++[(13,Qk.pure (.bool true) [])]
def Te(B:Lo)(x:Qc):List Prop:=[QB []/\Q6 YP J0 72 (eZ x) (.bool true)]++Tf B x
def ft(x:Qc):QO:=fw x++[(18,Qk.pure (.bool true) [])]
def Td(B:Lo)(x:Qc):List Prop:=[QB []/\Q6 YP J0 96 (fe x) (.bool true)]++Te B x
def fq(x:Qc):QO:=ft x++[(23,Qk.pure (.bool true) [])]
def Tc(B:Lo)(x:Qc):List Prop:=[QB []/\Q6 YP J0 72 (eY x) (.bool true)]++Td B x
def fp(x:Qc):QO:=fq x++[(28,Qk.pure (.bool true) [])]
def Tb(B:Lo)(x:Qc):List Prop:=[QB []/\Q6 YP J0 96 (fg x) (.bool true)]++Tc B x
def fo(x:Qc):QO:=fp x++[(33,Qk.pure (.bool true) [])]
def Ta(B:Lo)(x:Qc):List Prop:=[QB []/\Q6 YP J0 96 (ff x) (.bool true)]++Tb B x
def fi(x:Qc):QO:=fo x++[(38,Qk.pure (.bool true) [])]
def SZ(B:Lo)(x:Qc):List Prop:=[(!Zs x.Wj x.ZU)=true]++Ta B x
def fh(x:Qc):QO:=fi x++[(47,Vh)]
theorem sD(B:Lo)(x:Qc):X2 (Q2 YP (QE YP) J0 B 6 1 (Q3 YP 73 59 (([.agg (Qn x).toArray]).map (QD 0 4))) Z9 1
 (fh x++[(56,Vh)]) 0 [] []) []=some (.bool true,
 [(!Zs x.Wl x.ZV)=true]++SZ B x):=by kernel_rfl
theorem sC(B:Lo)(x:Qc):X2 (Q2 YP (QE YP) J0 B 6 1 (Q3 YP 73 59 (([.agg (Qn x).toArray]).map (QD 0 4))) Z9 1
 (fh x++[(56,Ud)]) 0 [] []) []=some (.bool false,
 [(!Zs x.Wl x.ZV)=false]++SZ B x):=by kernel_rfl
theorem sB(B:Lo)(x:Qc):X2 (Q2 YP (QE YP) J0 B 6 1 (Q3 YP 73 59 (([.agg (Qn x).toArray]).map (QD 0 4))) Z9 1
 (fi x++[(47,Ud)]) 0 [] []) []=some (.bool false,
 [(!Zs x.Wj x.ZU)=false]++Ta B x):=by kernel_rfl
theorem sA(B:Lo)(x:Qc):X2 (Q2 YP (QE YP) J0 B 6 1 (Q3 YP 73 59 (([.agg (Qn x).toArray]).map (QD 0 4))) Z9 1
 (fo x++[(38,Qk.pure (.bool false) [])]) 0 [] []) []=some (.bool false,
 [QB []/\Q6 YP J0 96 (ff x) (.bool false)]++Tb B x):=by kernel_rfl
theorem s9(B:Lo)(x:Qc):X2 (Q2 YP (QE YP) J0 B 6 1 (Q3 YP 73 59 (([.agg (Qn x).toArray]).map (QD 0 4))) Z9 1
 (fp x++[(33,Qk.pure (.bool false) [])]) 0 [] []) []=some (.bool false,
 [QB []/\Q6 YP J0 96 (fg x) (.bool false)]++Tc B x):=by kernel_rfl
theorem s8(B:Lo)(x:Qc):X2 (Q2 YP (QE YP) J0 B 6 1 (Q3 YP 73 59 (([.agg (Qn x).toArray]).map (QD 0 4))) Z9 1
 (fq x++[(28,Qk.pure (.bool false) [])]) 0 [] []) []=some (.bool false,
 [QB []/\Q6 YP J0 72 (eY x) (.bool false)]++Td B x):=by kernel_rfl
theorem s7(B:Lo)(x:Qc):X2 (Q2 YP (QE YP) J0 B 6 1 (Q3 YP 73 59 (([.agg (Qn x).toArray]).map (QD 0 4))) Z9 1
 (ft x++[(23,Qk.pure (.bool false) [])]) 0 [] []) []=some (.bool false,
 [QB []/\Q6 YP J0 96 (fe x) (.bool false)]++Te B x):=by kernel_rfl
theorem s6(B:Lo)(x:Qc):X2 (Q2 YP (QE YP) J0 B 6 1 (Q3 YP 73 59 (([.agg (Qn x).toArray]).map (QD 0 4))) Z9 1
 (fw x++[(18,Qk.pure (.bool false) [])]) 0 [] []) []=some (.bool false,
 [QB []/\Q6 YP J0 72 (eZ x) (.bool false)]++Tf B x):=by kernel_rfl
theorem s5(B:Lo)(x:Qc):X2 (Q2 YP (QE YP) J0 B 6 1 (Q3 YP 73 59 (([.agg (Qn x).toArray]).map (QD 0 4))) Z9 1
 (fx x++[(13,Qk.pure (.bool false) [])]) 0 [] []) []=some (.bool false,
 [QB []/\Q6 YP J0 95 #[.int .i64 x.goal] (.bool false)]++Tg B x):=by kernel_rfl
theorem sy(B:Lo)(x:Qc):X2 (Q2 YP (QE YP) J0 B 6 1 (Q3 YP 73 59 (([.agg (Qn x).toArray]).map (QD 0 4))) Z9 1
 (fy x++[(8,Qk.pure (.bool false) [])]) 0 [] []) []=some (.bool false,
 [QB []/\Q6 YP J0 95 #[.int .i64 x.room] (.bool false)]++Th B x):=by kernel_rfl
theorem oX(B:Lo)(x:Qc):X2 (Q2 YP (QE YP) J0 B 6 1 (Q3 YP 73 59 (([.agg (Qn x).toArray]).map (QD 0 4))) Z9 1
 [(4,Qk.pure (.bool false) [])] 0 [] []) []=some (.bool false,
 [QB []/\Q6 YP J0 95 #[.int .i64 x.count] (.bool false)]):=by kernel_rfl
set_option maxHeartbeats 4000000 in
theorem wh(x:Qc)  {B:Lo}(hJ:∀w,B.has w->J0 w):EndsT YP B (Q3 YP 73 59 (([.agg (Qn x).toArray]).map (QD 0 4))) (.bool (Z3 x)):=by
 cases q0:Vv x.count 0 1000000 with
 |true=>
  have VF:QB (Th B x):=by
   exact⟨⟨trivial,(by have t_:=Rd x.count;rw[q0]at t_;exact t_)⟩,trivial⟩
  cases q1:Vv x.room 0 1000000 with
  |true=>
   have hp1:QB (Tg B x):=by
    exact⟨⟨trivial,(by have t_:=Rd x.room;rw[q1]at t_;exact t_)⟩,VF⟩
   cases q2:Vv x.goal 0 1000000 with
   |true=>
    have JP:QB (Tf B x):=by
     exact⟨⟨trivial,(by have t_:=Rd x.goal;rw[q2]at t_;exact t_)⟩,hp1⟩
    cases q3:Vv x.Vf 0 1000000 with
    |true=>
     have hp3:QB (Te B x):=by
      exact⟨⟨trivial,(by have t_:=vf x.Vf (0) (1000000);rw[q3]at t_;exact t_)⟩,JP⟩
     cases q4:Zi x.WZ x.Va 0 2000 with
     |true=>
      have hp4:QB (Td B x):=by
       exact⟨⟨trivial,(by have t_:=ab x.WZ x.Va (2000);rw[q4]at t_;exact t_)⟩,hp3⟩
      cases q5:Vv x.Qv 0 1000 with
      |true=>
       have hp5:QB (Tc B x):=by
        exact⟨⟨trivial,(by have t_:=vf x.Qv (0) (1000);rw[q5]at t_;exact t_)⟩,hp4⟩
       cases q6:Zi x.Wj x.Wl 0 1000000 with
       |true=>
        have hp6:QB (Tb B x):=by
         exact⟨⟨trivial,(by have t_:=ab x.Wj x.Wl (1000000);rw[q6]at t_;exact t_)⟩,hp5⟩
        cases q7:Zi x.ZU x.ZV 0 1000000 with
        |true=>
         have hp7:QB (Ta B x):=by
          exact⟨⟨trivial,(by have t_:=ab x.ZU x.ZV (1000000);rw[q7]at t_;exact t_)⟩,hp6⟩
         by_cases q8:(x.ZU:Int)<=x.Wj
         ·have hp8:QB (SZ B x):=by
           exact⟨(U9 q8),hp7⟩
          by_cases q9:(x.ZV:Int)<=x.Wl
          ·exact(GoE.endsT okF hJ Qh GoE.start (sD B x)
            ⟨(U9 q9),hp8⟩).cast (by(simp[Z3, *];done))
          ·exact(GoE.endsT okF hJ Qh GoE.start (sC B x)
            ⟨(UA (Int.not_le.1 q9)),hp8⟩).cast (by(simp[Z3, *];done))
         ·exact(GoE.endsT okF hJ Qh GoE.start (sB B x)
           ⟨(UA (Int.not_le.1 q8)),hp7⟩).cast (by(simp[Z3, *];done))
        |false=>
         exact(GoE.endsT okF hJ Qh GoE.start (sA B x)
          ⟨⟨trivial,(by have t_:=ab x.ZU x.ZV (1000000);rw[q7]at t_;exact t_)⟩,hp6⟩).cast (by(simp[Z3, *];done))
       |false=>
        exact(GoE.endsT okF hJ Qh GoE.start (s9 B x)
         ⟨⟨trivial,(by have t_:=ab x.Wj x.Wl (1000000);rw[q6]at t_;exact t_)⟩,hp5⟩).cast (by(simp[Z3, *];done))
      |false=>
       exact(GoE.endsT okF hJ Qh GoE.start (s8 B x)
        ⟨⟨trivial,(by have t_:=vf x.Qv (0) (1000);rw[q5]at t_;exact t_)⟩,hp4⟩).cast (by(simp[Z3, *];done))
     |false=>
      exact(GoE.endsT okF hJ Qh GoE.start (s7 B x)
       ⟨⟨trivial,(by have t_:=ab x.WZ x.Va (2000);rw[q4]at t_;exact t_)⟩,hp3⟩).cast (by(simp[Z3, *];done))
    |false=>
     exact(GoE.endsT okF hJ Qh GoE.start (s6 B x)
      ⟨⟨trivial,(by have t_:=vf x.Vf (0) (1000000);rw[q3]at t_;exact t_)⟩,JP⟩).cast (by(simp[Z3, *];done))
   |false=>
    exact(GoE.endsT okF hJ Qh GoE.start (s5 B x)
     ⟨⟨trivial,(by have t_:=Rd x.goal;rw[q2]at t_;exact t_)⟩,hp1⟩).cast (by(simp[Z3, *];done))
  |false=>
   exact(GoE.endsT okF hJ Qh GoE.start (sy B x)
    ⟨⟨trivial,(by have t_:=Rd x.room;rw[q1]at t_;exact t_)⟩,VF⟩).cast (by(simp[Z3, *];done))
 |false=>
  exact(GoE.endsT okF hJ Qh GoE.start (oX B x)
   ⟨⟨trivial,(by have t_:=Rd x.count;rw[q0]at t_;exact t_)⟩,trivial⟩).cast (by(simp[Z3, *];done))
theorem sE(x:Qc)  :Q6 YP J0 73 #[.agg (Qn x).toArray] (.bool (Z3 x)):=
 XD (ts:=[.agg (Qn x).toArray]) ZF (c0:=Q3 YP 73 59 (([.agg (Qn x).toArray]).map (QD 0 4))) (by kernel_rfl) (by kernel_rfl) fun B hJ=>wh x  hJ
def cx(r:Qg)(k:Int):Array Value:=#[.int .i64 k,.int .i64 0,.int .i64 ((↑r.Qa.length:Int)-1)]
def So(B:Lo)(r:Qg)(k:Int):List Prop:=[wq ((↑r.Qa.length:Int)-1)=(↑r.Qa.length:Int)-1]++([]:List Prop)
def cy(r:Qg)(k:Int):QO:=[(6,WL ((↑r.Qa.length:Int)-1))]
theorem oZ(B:Lo)(r:Qg)(k:Int):X2 (Q2 YP (QE YP) J0 B 6 1 (Q3 YP 70 11 (([.agg (Q9 r).toArray,.int .i64 k]).map (QD 0 4))) Z9 1
 (cy r k++[(7,Qk.pure (.bool true) [])]) 0 [] []) []=some (.bool true,
 [QB []/\Q6 YP J0 72 (cx r k) (.bool true)]++So B r k):=by kernel_rfl
theorem oY(B:Lo)(r:Qg)(k:Int):X2 (Q2 YP (QE YP) J0 B 6 1 (Q3 YP 70 11 (([.agg (Q9 r).toArray,.int .i64 k]).map (QD 0 4))) Z9 1
 (cy r k++[(7,Qk.pure (.bool false) [])]) 0 [] []) []=some (.bool false,
 [QB []/\Q6 YP J0 72 (cx r k) (.bool false)]++So B r k):=by kernel_rfl
set_option maxHeartbeats 4000000 in
theorem sF(r:Qg)(k:Int)  (Z4:r.Qa.length<=9223372036854775807){B:Lo}(hJ:∀w,B.has w->J0 w):EndsT YP B (Q3 YP 70 11 (([.agg (Q9 r).toArray,.int .i64 k]).map (QD 0 4))) (.bool (Vv k 0 (r.Qa.length-1))):=by
 have VF:QB (So B r k):=by
  exact⟨(Xi (by omega) (by omega)),trivial⟩
 cases q0:Vv k 0 ((↑r.Qa.length:Int)-1)with
 |true=>
  exact(GoE.endsT okF hJ Qh GoE.start (oZ B r k)
   ⟨⟨trivial,(by have t_:=vf (k) (0) ((↑r.Qa.length:Int)-1);rw[q0]at t_;exact t_)⟩,VF⟩).cast (by rfl)
 |false=>
  exact(GoE.endsT okF hJ Qh GoE.start (oY B r k)
   ⟨⟨trivial,(by have t_:=vf (k) (0) ((↑r.Qa.length:Int)-1);rw[q0]at t_;exact t_)⟩,VF⟩).cast (by rfl)
theorem nC(r:Qg)(k:Int)  :Q6 YP J0 70 #[.agg (Q9 r).toArray,.int .i64 k] (.bool (Vv k 0 (r.Qa.length-1))):=
 Km (ts:=[.agg (Q9 r).toArray,.int .i64 k]) (r.Qa.length<=9223372036854775807) (fun _ _ ht=>ht.ln2 (i:=0) (j:=0) rfl rfl) ZF (c0:=Q3 YP 70 11 (([.agg (Q9 r).toArray,.int .i64 k]).map (QD 0 4))) (by kernel_rfl) (by kernel_rfl) fun Z4 B hJ=>sF r k  Z4 hJ
def Sn(x_:Qc):Array Value:=#[.int .i64 x_.count,.int .i64 x_.room,.int .i64 x_.WZ,.int .i64 x_.Va,.int .i64 x_.Qv,.int .i64 x_.QU,.int .i64 x_.Wj,.int .i64 x_.Wl,.int .i64 x_.ZU,.int .i64 x_.ZV,.int .i64 x_.goal,.int .i64 x_.Vf]
def jv(r:Qg)(i:Int):Array Value:=#[.agg #[QV r.Qa.length (Qf Qn r.Qa),.int .i64 r.Qq,.int .i64 r.Qd],.int .i64 (Qc.QU (r.Qa.getD i.toNat Le))]
def ju(r:Qg):Array Value:=#[.int .i64 (↑r.Qa.length:Int),.int .i64 1,.int .i64 4]
def jt(r:Qg):Array Value:=#[.int .i64 r.Qq,.int .i64 0,.int .i64 2000]
def js(r:Qg):Array Value:=#[.int .i64 r.Qd,.int .i64 1,.int .i64 4]
def WM(r:Qg)(i:Int):List Value:=[pA 2 0,Q4 1 (QV r.Qa.length (Qf Qn r.Qa)),.int .i64 (↑r.Qa.length:Int),.int .i64 i]
def Zg(r:Qg)(i:Int):List Obj:=[Obj.cells #[Q4 1 (QV r.Qa.length (Qf Qn r.Qa)),.int .i64 r.Qq,.int .i64 r.Qd] 24]
def WN:List Item:=([.code [1,1,0,1,0,0],.inLoop [1,1,0,1,0,0],.inBlock 0,.code [1,1,1]]).map (it (Xa YP 50))
def wb(B:Lo)(c0:CF)(r:Qg)(i:Int):Prop:=∃dJ:Nat->Value,(∀t,XH (dJ t))/\GoE YP B c0 Z9 1 (QS 50 52 (([1,23,24,25]:List Nat).zip (WM r i)) dJ WN) (QN (Zg r i)) (2+(Zg r i).length) []
def aZ(B:Lo)(r:Qg)(i:Int)(Q0:Nat->Value):List Prop:=[Vs i r.Qa.length (Qf Qn r.Qa) Try.t54.size (Sn (r.Qa.getD i.toNat Le)),Zs i (↑r.Qa.length:Int)=true]++([]:List Prop)
def j6(r:Qg)(i:Int)(Q0:Nat->Value):QO:=[(0,Vh),(2,Qk.tidx i.toNat (Sn (r.Qa.getD i.toNat Le)))]
def aY(B:Lo)(r:Qg)(i:Int)(Q0:Nat->Value):List Prop:=[QB []/\Q6 YP J0 73 #[.agg (Sn (r.Qa.getD i.toNat Le))] (.bool true)]++aZ B r i Q0
def j5(r:Qg)(i:Int)(Q0:Nat->Value):QO:=j6 r i Q0++[(8,Qk.pure (.bool true) [])]
def aX(B:Lo)(r:Qg)(i:Int)(Q0:Nat->Value):List Prop:=[(!T3 (Qc.QU (r.Qa.getD i.toNat Le)) (-1))=true]++aY B r i Q0
def j4(r:Qg)(i:Int)(Q0:Nat->Value):QO:=j5 r i Q0++[(13,Vh)]
def aW(B:Lo)(r:Qg)(i:Int)(Q0:Nat->Value):List Prop:=[QB []/\Q6 YP J0 70 (jv r i) (.bool true)]++aX B r i Q0
def j3(r:Qg)(i:Int)(Q0:Nat->Value):QO:=j4 r i Q0++[(18,Qk.pure (.bool true) [])]
theorem vZ(B:Lo)(r:Qg)(i:Int)(Q0:Nat->Value):X2 (Q2 YP (QE YP) J0 B 16 1 (QS 50 52 (([1,23,24,25]:List Nat).zip (WM r i)) Q0 WN) (QN (Zg r i)) (2+(Zg r i).length)
 (j3 r i Q0++[(26,Vh)]) 0 [] []) []=some (.bool false,
 [T3 (Qc.QU (r.Qa.getD i.toNat Le)) i=true]++aW B r i Q0):=by kernel_rfl
theorem vY(B:Lo)(r:Qg)(i:Int)(Q0:Nat->Value):landM (Q2 YP (QE YP) J0 B 16 1 (QS 50 52 (([1,23,24,25]:List Nat).zip (WM r i)) Q0 WN) (QN (Zg r i)) (2+(Zg r i).length)
 (j3 r i Q0++[(26,Ud),(28,WL (i+1))]) 0 [] []) [1,23,24,25] [(2,KS.auto)] []=some ⟨50,52,WN,[],.run,none,WM r (i+1),Zg r (i+1),
 [wq (i+1)=i+1,T3 (Qc.QU (r.Qa.getD i.toNat Le)) i=false]++aW B r i Q0⟩:=by kernel_rfl
theorem vX(B:Lo)(r:Qg)(i:Int)(Q0:Nat->Value):X2 (Q2 YP (QE YP) J0 B 16 1 (QS 50 52 (([1,23,24,25]:List Nat).zip (WM r i)) Q0 WN) (QN (Zg r i)) (2+(Zg r i).length)
 (j4 r i Q0++[(18,Qk.pure (.bool false) [])]) 0 [] []) []=some (.bool false,
 [QB []/\Q6 YP J0 70 (jv r i) (.bool false)]++aX B r i Q0):=by kernel_rfl
def aV(B:Lo)(r:Qg)(i:Int)(Q0:Nat->Value):List Prop:=[(!T3 (Qc.QU (r.Qa.getD i.toNat Le)) (-1))=false]++aY B r i Q0
def jz(r:Qg)(i:Int)(Q0:Nat->Value):QO:=j5 r i Q0++[(13,Ud)]
theorem vW(B:Lo)(r:Qg)(i:Int)(Q0:Nat->Value):X2 (Q2 YP (QE YP) J0 B 16 1 (QS 50 52 (([1,23,24,25]:List Nat).zip (WM r i)) Q0 WN) (QN (Zg r i)) (2+(Zg r i).length)
 (jz r i Q0++[(26,Vh)]) 0 [] []) []=some (.bool false,
 [T3 (Qc.QU (r.Qa.getD i.toNat Le)) i=true]++aV B r i Q0):=by kernel_rfl
theorem vV(B:Lo)(r:Qg)(i:Int)(Q0:Nat->Value):landM (Q2 YP (QE YP) J0 B 16 1 (QS 50 52 (([1,23,24,25]:List Nat).zip (WM r i)) Q0 WN) (QN (Zg r i)) (2+(Zg r i).length)
 (jz r i Q0++[(26,Ud),(28,WL (i+1))]) 0 [] []) [1,23,24,25] [(2,KS.auto)] []=some ⟨50,52,WN,[],.run,none,WM r (i+1),Zg r (i+1),
 [wq (i+1)=i+1,T3 (Qc.QU (r.Qa.getD i.toNat Le)) i=false]++aV B r i Q0⟩:=by kernel_rfl
theorem vU(B:Lo)(r:Qg)(i:Int)(Q0:Nat->Value):X2 (Q2 YP (QE YP) J0 B 16 1 (QS 50 52 (([1,23,24,25]:List Nat).zip (WM r i)) Q0 WN) (QN (Zg r i)) (2+(Zg r i).length)
 (j6 r i Q0++[(8,Qk.pure (.bool false) [])]) 0 [] []) []=some (.bool false,
 [QB []/\Q6 YP J0 73 #[.agg (Sn (r.Qa.getD i.toNat Le))] (.bool false)]++aZ B r i Q0):=by kernel_rfl
theorem vT(B:Lo)(r:Qg)(i:Int)(Q0:Nat->Value):X2 (Q2 YP (QE YP) J0 B 9 1 (QS 50 52 (([1,23,24,25]:List Nat).zip (WM r i)) Q0 WN) (QN (Zg r i)) (2+(Zg r i).length)
 [(0,Ud)] 0 [] []) []=some (.bool true,
 [Zs i (↑r.Qa.length:Int)=false]):=by kernel_rfl
def aU(B:Lo)(r:Qg):List Prop:=[QB []/\Q6 YP J0 72 (ju r) (.bool true)]++([]:List Prop)
def jy(r:Qg):QO:=[(5,Qk.pure (.bool true) [])]
def aT(B:Lo)(r:Qg):List Prop:=[QB []/\Q6 YP J0 72 (jt r) (.bool true)]++aU B r
def jx(r:Qg):QO:=jy r++[(10,Qk.pure (.bool true) [])]
theorem vS(B:Lo)(r:Qg):landM (Q2 YP (QE YP) J0 B 12 1 (Q3 YP 50 52 (([.agg (Q9 r).toArray]).map (QD 0 4))) Z9 1
 (jx r++[(16,Qk.pure (.bool true) [])]) 0 [] []) [1,23,24,25] [(1,KS.auto)] []=some ⟨50,52,WN,[],.run,none,WM r (0),Zg r (0),
 [QB []/\Q6 YP J0 72 (js r) (.bool true)]++aT B r⟩:=by kernel_rfl
theorem vR(B:Lo)(r:Qg):X2 (Q2 YP (QE YP) J0 B 10 1 (Q3 YP 50 52 (([.agg (Q9 r).toArray]).map (QD 0 4))) Z9 1
 (jx r++[(16,Qk.pure (.bool false) [])]) 0 [] []) []=some (.bool false,
 [QB []/\Q6 YP J0 72 (js r) (.bool false)]++aT B r):=by kernel_rfl
theorem vQ(B:Lo)(r:Qg):X2 (Q2 YP (QE YP) J0 B 10 1 (Q3 YP 50 52 (([.agg (Q9 r).toArray]).map (QD 0 4))) Z9 1
 (jy r++[(10,Qk.pure (.bool false) [])]) 0 [] []) []=some (.bool false,
 [QB []/\Q6 YP J0 72 (jt r) (.bool false)]++aU B r):=by kernel_rfl
theorem sx(B:Lo)(r:Qg):X2 (Q2 YP (QE YP) J0 B 10 1 (Q3 YP 50 52 (([.agg (Q9 r).toArray]).map (QD 0 4))) Z9 1
 [(5,Qk.pure (.bool false) [])] 0 [] []) []=some (.bool false,
 [QB []/\Q6 YP J0 72 (ju r) (.bool false)]):=by kernel_rfl
set_option maxHeartbeats 4000000 in
theorem wa(r:Qg)  (Z4:r.Qa.length<=9223372036854775807){B:Lo}(hJ:∀w,B.has w->J0 w){c0:CF}:∀m:Nat,(∀(i:Int),r.Qa.length-i.toNat=m->∀(h0:0<=i),wb B c0 r i->EndsT YP B c0 (.bool (Pj r.Qa i))):=by
 intro m0;induction m0 using LQ with
 |_ m0 ih0=>
  intro i S1 h0 ⟨Q0,VE,Za⟩;by_cases q0:(i:Int)<((↑r.Qa.length:Int))
  ·have VF:QB (aZ B r i Q0):=by
    have s2:=Xf (ps:=r.Qa) q0;exact⟨⟨by omega,by omega,(Qy (z:=12) (fun _=>rfl) (by omega))⟩,⟨(XT q0),trivial⟩⟩
   cases q1:Z3 (r.Qa.getD i.toNat Le)with
   |true=>
    have hp1:QB (aY B r i Q0):=by
     have s2:=Xf (ps:=r.Qa) q0;exact⟨⟨trivial,(by have t_:=sE (r.Qa.getD i.toNat Le);rw[q1]at t_;exact t_)⟩,VF⟩
    by_cases q2:(Qc.QU (r.Qa.getD i.toNat Le):Int)≠(-1)
    ·have JP:QB (aX B r i Q0):=by
      exact⟨(Hq q2),hp1⟩
     cases q3:Vv (Qc.QU (r.Qa.getD i.toNat Le)) 0 ((↑r.Qa.length:Int)-1)with
     |true=>
      have hp3:QB (aW B r i Q0):=by
       have s2:=Xf (ps:=r.Qa) q0;exact⟨⟨trivial,(by have t_:=nC (r) (Qc.QU (r.Qa.getD i.toNat Le));rw[q3]at t_;exact t_)⟩,JP⟩
      by_cases q4:(Qc.QU (r.Qa.getD i.toNat Le):Int)=(i)
      ·have s2:=Xf (ps:=r.Qa) q0;exact(GoE.endsT okF hJ Qh Za (vZ B r i Q0)
        ⟨(R6 q4),hp3⟩).cast (by(rw[s2];simp_all[ZZ,YI];done))
      ·have s2:=Xf (ps:=r.Qa) q0;exact((ih0 _ (by omega)) (i+1) rfl (by omega)
        (Za.landM okF hJ Qh (vY B r i Q0)
        ⟨(Xi (by omega) (by omega)),⟨(T0 q4),hp3⟩⟩ (by kernel_rfl) (by kernel_rfl))).cast (by(rw[s2];simp_all[ZZ,YI];done))
     |false=>
      have s2:=Xf (ps:=r.Qa) q0;exact(GoE.endsT okF hJ Qh Za (vX B r i Q0)
       ⟨⟨trivial,(by have t_:=nC (r) (Qc.QU (r.Qa.getD i.toNat Le));rw[q3]at t_;exact t_)⟩,JP⟩).cast (by(rw[s2];simp_all[ZZ,YI];done))
    ·have hp4:QB (aV B r i Q0):=by
      exact⟨(Hr (Decidable.of_not_not q2)),hp1⟩
     by_cases q3:(Qc.QU (r.Qa.getD i.toNat Le):Int)=(i)
     ·have s2:=Xf (ps:=r.Qa) q0;have s2:=Up (ps:=r.Qa) (i:=i) (by omega);exact(GoE.endsT okF hJ Qh Za (vW B r i Q0)
       ⟨(R6 q3),hp4⟩).cast (by(rw[s2];simp_all[ZZ,YI];done))
     ·have s2:=Xf (ps:=r.Qa) q0;exact((ih0 _ (by omega)) (i+1) rfl (by omega)
       (Za.landM okF hJ Qh (vV B r i Q0)
       ⟨(Xi (by omega) (by omega)),⟨(T0 q3),hp4⟩⟩ (by kernel_rfl) (by kernel_rfl))).cast (by(rw[s2];simp_all[ZZ,YI];done))
   |false=>
    have s2:=Xf (ps:=r.Qa) q0;exact(GoE.endsT okF hJ Qh Za (vU B r i Q0)
     ⟨⟨trivial,(by have t_:=sE (r.Qa.getD i.toNat Le);rw[q1]at t_;exact t_)⟩,VF⟩).cast (by(rw[s2];simp_all[ZZ,YI];done))
  ·have s2:=Up (ps:=r.Qa) (i:=i) (by omega);exact(GoE.endsT okF hJ Qh Za (vT B r i Q0)
    ⟨(Zw (Int.not_lt.1 q0)),trivial⟩).cast (by(rw[s2];done))
set_option maxHeartbeats 4000000 in
theorem zk(r:Qg)  (Z4:r.Qa.length<=9223372036854775807){B:Lo}(hJ:∀w,B.has w->J0 w):EndsT YP B (Q3 YP 50 52 (([.agg (Q9 r).toArray]).map (QD 0 4))) (.bool (Zu r)):=by
 cases q0:Vv (↑r.Qa.length:Int) 1 4 with
 |true=>
  have hp5:QB (aU B r):=by
   exact⟨⟨trivial,(by have t_:=vf ((↑r.Qa.length:Int)) (1) (4);rw[q0]at t_;exact t_)⟩,trivial⟩
  cases q1:Vv r.Qq 0 2000 with
  |true=>
   have hp6:QB (aT B r):=by
    exact⟨⟨trivial,(by have t_:=vf r.Qq (0) (2000);rw[q1]at t_;exact t_)⟩,hp5⟩
   cases q2:Vv r.Qd 1 4 with
   |true=>
    exact((wa r Z4 hJ _) (0) rfl (by omega)
     (GoE.start.landM okF hJ Qh (vS B r)
     ⟨⟨trivial,(by have t_:=vf r.Qd (1) (4);rw[q2]at t_;exact t_)⟩,hp6⟩ (by kernel_rfl) (by kernel_rfl))).cast (by(simp only[Zu,Jn];simp[*];done))
   |false=>
    exact(GoE.endsT okF hJ Qh GoE.start (vR B r)
     ⟨⟨trivial,(by have t_:=vf r.Qd (1) (4);rw[q2]at t_;exact t_)⟩,hp6⟩).cast (by(simp only[Zu,Jn];simp[*];done))
  |false=>
   exact(GoE.endsT okF hJ Qh GoE.start (vQ B r)
    ⟨⟨trivial,(by have t_:=vf r.Qq (0) (2000);rw[q1]at t_;exact t_)⟩,hp5⟩).cast (by(simp only[Zu,Jn];simp[*];done))
 |false=>
  exact(GoE.endsT okF hJ Qh GoE.start (sx B r)
   ⟨⟨trivial,(by have t_:=vf ((↑r.Qa.length:Int)) (1) (4);rw[q0]at t_;exact t_)⟩,trivial⟩).cast (by(simp only[Zu,Jn];simp[*];done))
theorem xP(r:Qg)  :Q6 YP J0 50 #[.agg (Q9 r).toArray] (.bool (Zu r)):=
 Km (ts:=[.agg (Q9 r).toArray]) (r.Qa.length<=9223372036854775807) (fun _ _ ht=>ht.ln2 (i:=0) (j:=0) rfl rfl) ZF (c0:=Q3 YP 50 52 (([.agg (Q9 r).toArray]).map (QD 0 4))) (by kernel_rfl) (by kernel_rfl) fun Z4 B hJ=>zk r  Z4 hJ
def ZH(r:Qg)(i:Int):List Value:=[pA 2 0,.int .i64 i]
def X1(r:Qg)(i:Int):List Obj:=[Obj.cells #[Q4 1 (QV r.Qa.length (Qf Qn r.Qa)),.int .i64 r.Qq,.int .i64 r.Qd] 24]
def ZI:List Item:=([.code [1,0,1,0,0],.inLoop [1,0,1,0,0],.inBlock 0,.code [1,1]]).map (it (Xa YP 20))
def B0(B:Lo)(c0:CF)(r:Qg)(i:Int):Prop:=∃dJ:Nat->Value,(∀t,XH (dJ t))/\GoE YP B c0 Z9 1 (QS 20 111 (([1,3]:List Nat).zip (ZH r i)) dJ ZI) (QN (X1 r i)) (2+(X1 r i).length) []
def YZ(r:Qg)(i:Int):=(r.Qa.getD i.toNat Le)
def Jw(r:Qg)(i:Int):=(YZ r i)
def VG(r:Qg)(i:Int):=(Jw r i)
def rB(r:Qg)(i:Int):Array Value:=#[.int .i64 (Qc.count (VG r i)),.int .i64 (Qc.room (VG r i)),.int .i64 (Qc.WZ (VG r i)),.int .i64 (Qc.Va (VG r i)),.int .i64 (Qc.Qv (VG r i)),.int .i64 (Qc.QU (VG r i)),.int .i64 (Qc.Wj (VG r i)),.int .i64 (Qc.Wl (VG r i)),.int .i64 (Qc.ZU (VG r i)),.int .i64 (Qc.ZV (VG r i)),.int .i64 (Qc.goal (VG r i)),.int .i64 (Qc.Vf (VG r i))]
def rA(r:Qg)(i:Int):Array Value:=#[.agg #[.int .i64 (Qc.Wj (Jw r i)),.int .i64 (Qc.Wl (Jw r i))],.int .i64 1000000]
def r9(r:Qg)(i:Int):Array Value:=#[.agg #[.int .i64 (Qc.ZU (Jw r i)),.int .i64 (Qc.ZV (Jw r i))],.int .i64 1000000]
def r8(r:Qg)(i:Int):Array Value:=#[.agg #[.int .i64 (Qc.WZ (Jw r i)),.int .i64 (Qc.Va (Jw r i))],.int .i64 2000]
def r7(r:Qg)(i:Int):Array Value:=#[.int .i64 (Qc.QU (YZ r i)),.int .i64 (-1),.int .i64 ((↑r.Qa.length:Int)-1)]
def r6(r:Qg)(i:Int):Array Value:=#[.int .i64 (Qc.count (YZ r i)),.int .i64 0,.int .i64 1000000]
def r5(r:Qg)(i:Int):Array Value:=#[.int .i64 (Qc.Vf (YZ r i)),.int .i64 0,.int .i64 1000000]
def r4(r:Qg)(i:Int):Array Value:=#[.int .i64 (Qc.room (YZ r i)),.int .i64 0,.int .i64 1000000]
def ng(r:Qg)(i:Int):Array Value:=#[.int .i64 (Qc.goal (YZ r i)),.int .i64 0,.int .i64 1000000]
def nf(r:Qg)(i:Int):Array Value:=#[.int .i64 (Qc.Qv (r.Qa.getD i.toNat Le)),.int .i64 0,.int .i64 1000]
def nc(r:Qg):Array Value:=#[.int .i64 (↑r.Qa.length:Int),.int .i64 1,.int .i64 4]
def nb(r:Qg):Array Value:=#[.int .i64 r.Qq,.int .i64 0,.int .i64 2000]
def na(r:Qg):Array Value:=#[.int .i64 r.Qd,.int .i64 1,.int .i64 4]
def iT(B:Lo)(r:Qg)(i:Int)(Q0:Nat->Value):List Prop:=[Vs i r.Qa.length (Qf Qn r.Qa) Try.t54.size (rB r i),Zs i (↑r.Qa.length:Int)=true]++([]:List Prop)
def rL(r:Qg)(i:Int)(Q0:Nat->Value):QO:=[(4,Vh),(8,Qk.tidx i.toNat (rB r i))]
def iS(B:Lo)(r:Qg)(i:Int)(Q0:Nat->Value):List Prop:=[QB []/\Q6 YP J0 55 (r6 r i) (.bool true)]++iT B r i Q0
def rK(r:Qg)(i:Int)(Q0:Nat->Value):QO:=rL r i Q0++[(14,Qk.pure (.bool true) [])]
def iR(B:Lo)(r:Qg)(i:Int)(Q0:Nat->Value):List Prop:=[QB []/\Q6 YP J0 55 (r4 r i) (.bool true)]++iS B r i Q0
def rJ(r:Qg)(i:Int)(Q0:Nat->Value):QO:=rK r i Q0++[(19,Qk.pure (.bool true) [])]
def iQ(B:Lo)(r:Qg)(i:Int)(Q0:Nat->Value):List Prop:=[QB []/\Q6 YP J0 55 (ng r i) (.bool true)]++iR B r i Q0
def rI(r:Qg)(i:Int)(Q0:Nat->Value):QO:=rJ r i Q0++[(25,Qk.pure (.bool true) [])]
def iP(B:Lo)(r:Qg)(i:Int)(Q0:Nat->Value):List Prop:=[QB []/\Q6 YP J0 56 (r8 r i) (.bool true)]++iQ B r i Q0
def rH(r:Qg)(i:Int)(Q0:Nat->Value):QO:=rI r i Q0++[(31,Qk.pure (.bool true) [])]
def iO(B:Lo)(r:Qg)(i:Int)(Q0:Nat->Value):List Prop:=[wq ((↑r.Qa.length:Int)-1)=(↑r.Qa.length:Int)-1,QB []/\Q6 YP J0 55 (nf r i) (.bool true)]++iP B r i Q0
def rG(r:Qg)(i:Int)(Q0:Nat->Value):QO:=rH r i Q0++[(37,Qk.pure (.bool true) []),(46,WL ((↑r.Qa.length:Int)-1))]
def iN(B:Lo)(r:Qg)(i:Int)(Q0:Nat->Value):List Prop:=[QB []/\Q6 YP J0 55 (r7 r i) (.bool true)]++iO B r i Q0
def rF(r:Qg)(i:Int)(Q0:Nat->Value):QO:=rG r i Q0++[(47,Qk.pure (.bool true) [])]
theorem By(B:Lo)(r:Qg)(i:Int)(Q0:Nat->Value):X2 (Q2 YP (QE YP) J0 B 16 1 (QS 20 111 (([1,3]:List Nat).zip (ZH r i)) Q0 ZI) (QN (X1 r i)) (2+(X1 r i).length)
 (rF r i Q0++[(54,Vh)]) 0 [] []) []=some (.bool false,
 [T3 (Qc.QU (r.Qa.getD i.toNat Le)) i=true]++iN B r i Q0):=by kernel_rfl
def iM(B:Lo)(r:Qg)(i:Int)(Q0:Nat->Value):List Prop:=[T3 (Qc.QU (r.Qa.getD i.toNat Le)) i=false]++iN B r i Q0
def rE(r:Qg)(i:Int)(Q0:Nat->Value):QO:=rF r i Q0++[(54,Ud)]
def iL(B:Lo)(r:Qg)(i:Int)(Q0:Nat->Value):List Prop:=[QB []/\Q6 YP J0 56 (rA r i) (.bool true)]++iM B r i Q0
def rD(r:Qg)(i:Int)(Q0:Nat->Value):QO:=rE r i Q0++[(59,Qk.pure (.bool true) [])]
def iK(B:Lo)(r:Qg)(i:Int)(Q0:Nat->Value):List Prop:=[QB []/\Q6 YP J0 56 (r9 r i) (.bool true)]++iL B r i Q0
def rC(r:Qg)(i:Int)(Q0:Nat->Value):QO:=rD r i Q0++[(65,Qk.pure (.bool true) [])]
theorem Bx(B:Lo)(r:Qg)(i:Int)(Q0:Nat->Value):X2 (Q2 YP (QE YP) J0 B 16 1 (QS 20 111 (([1,3]:List Nat).zip (ZH r i)) Q0 ZI) (QN (X1 r i)) (2+(X1 r i).length)
 (rC r i Q0++[(75,Vh)]) 0 [] []) []=some (.bool false,
 [Zs (Qc.Wj (r.Qa.getD i.toNat Le)) (Qc.ZU (r.Qa.getD i.toNat Le))=true]++iK B r i Q0):=by kernel_rfl
def dN(B:Lo)(r:Qg)(i:Int)(Q0:Nat->Value):List Prop:=[Zs (Qc.Wj (r.Qa.getD i.toNat Le)) (Qc.ZU (r.Qa.getD i.toNat Le))=false]++iK B r i Q0
def nm(r:Qg)(i:Int)(Q0:Nat->Value):QO:=rC r i Q0++[(75,Ud)]
theorem Bw(B:Lo)(r:Qg)(i:Int)(Q0:Nat->Value):X2 (Q2 YP (QE YP) J0 B 16 1 (QS 20 111 (([1,3]:List Nat).zip (ZH r i)) Q0 ZI) (QN (X1 r i)) (2+(X1 r i).length)
 (nm r i Q0++[(84,Vh)]) 0 [] []) []=some (.bool false,
 [Zs (Qc.Wl (r.Qa.getD i.toNat Le)) (Qc.ZV (r.Qa.getD i.toNat Le))=true]++dN B r i Q0):=by kernel_rfl
def dM(B:Lo)(r:Qg)(i:Int)(Q0:Nat->Value):List Prop:=[Zs (Qc.Wl (r.Qa.getD i.toNat Le)) (Qc.ZV (r.Qa.getD i.toNat Le))=false]++dN B r i Q0
def nk(r:Qg)(i:Int)(Q0:Nat->Value):QO:=nm r i Q0++[(84,Ud)]
theorem Bv(B:Lo)(r:Qg)(i:Int)(Q0:Nat->Value):landM (Q2 YP (QE YP) J0 B 16 1 (QS 20 111 (([1,3]:List Nat).zip (ZH r i)) Q0 ZI) (QN (X1 r i)) (2+(X1 r i).length)
 (nk r i Q0++[(89,Qk.pure (.bool true) []),(93,WL (i+1))]) 0 [] []) [1,3] [(2,KS.auto)] []=some ⟨20,111,ZI,[],.run,none,ZH r (i+1),X1 r (i+1),
 [wq (i+1)=i+1,QB []/\Q6 YP J0 55 (r5 r i) (.bool true)]++dM B r i Q0⟩:=by kernel_rfl
theorem Bu(B:Lo)(r:Qg)(i:Int)(Q0:Nat->Value):X2 (Q2 YP (QE YP) J0 B 16 1 (QS 20 111 (([1,3]:List Nat).zip (ZH r i)) Q0 ZI) (QN (X1 r i)) (2+(X1 r i).length)
 (nk r i Q0++[(89,Qk.pure (.bool false) [])]) 0 [] []) []=some (.bool false,
 [QB []/\Q6 YP J0 55 (r5 r i) (.bool false)]++dM B r i Q0):=by kernel_rfl
theorem Bt(B:Lo)(r:Qg)(i:Int)(Q0:Nat->Value):X2 (Q2 YP (QE YP) J0 B 16 1 (QS 20 111 (([1,3]:List Nat).zip (ZH r i)) Q0 ZI) (QN (X1 r i)) (2+(X1 r i).length)
 (rD r i Q0++[(65,Qk.pure (.bool false) [])]) 0 [] []) []=some (.bool false,
 [QB []/\Q6 YP J0 56 (r9 r i) (.bool false)]++iL B r i Q0):=by kernel_rfl
theorem Bs(B:Lo)(r:Qg)(i:Int)(Q0:Nat->Value):X2 (Q2 YP (QE YP) J0 B 16 1 (QS 20 111 (([1,3]:List Nat).zip (ZH r i)) Q0 ZI) (QN (X1 r i)) (2+(X1 r i).length)
 (rE r i Q0++[(59,Qk.pure (.bool false) [])]) 0 [] []) []=some (.bool false,
 [QB []/\Q6 YP J0 56 (rA r i) (.bool false)]++iM B r i Q0):=by kernel_rfl
theorem Br(B:Lo)(r:Qg)(i:Int)(Q0:Nat->Value):X2 (Q2 YP (QE YP) J0 B 16 1 (QS 20 111 (([1,3]:List Nat).zip (ZH r i)) Q0 ZI) (QN (X1 r i)) (2+(X1 r i).length)
 (rG r i Q0++[(47,Qk.pure (.bool false) [])]) 0 [] []) []=some (.bool false,
 [QB []/\Q6 YP J0 55 (r7 r i) (.bool false)]++iO B r i Q0):=by kernel_rfl
theorem Bq(B:Lo)(r:Qg)(i:Int)(Q0:Nat->Value):X2 (Q2 YP (QE YP) J0 B 16 1 (QS 20 111 (([1,3]:List Nat).zip (ZH r i)) Q0 ZI) (QN (X1 r i)) (2+(X1 r i).length)
 (rH r i Q0++[(37,Qk.pure (.bool false) [])]) 0 [] []) []=some (.bool false,
 [QB []/\Q6 YP J0 55 (nf r i) (.bool false)]++iP B r i Q0):=by kernel_rfl
theorem Bp(B:Lo)(r:Qg)(i:Int)(Q0:Nat->Value):X2 (Q2 YP (QE YP) J0 B 16 1 (QS 20 111 (([1,3]:List Nat).zip (ZH r i)) Q0 ZI) (QN (X1 r i)) (2+(X1 r i).length)
 (rI r i Q0++[(31,Qk.pure (.bool false) [])]) 0 [] []) []=some (.bool false,
 [QB []/\Q6 YP J0 56 (r8 r i) (.bool false)]++iQ B r i Q0):=by kernel_rfl
theorem yL(B:Lo)(r:Qg)(i:Int)(Q0:Nat->Value):X2 (Q2 YP (QE YP) J0 B 16 1 (QS 20 111 (([1,3]:List Nat).zip (ZH r i)) Q0 ZI) (QN (X1 r i)) (2+(X1 r i).length)
 (rJ r i Q0++[(25,Qk.pure (.bool false) [])]) 0 [] []) []=some (.bool false,
 [QB []/\Q6 YP J0 55 (ng r i) (.bool false)]++iR B r i Q0):=by kernel_rfl
theorem yK(B:Lo)(r:Qg)(i:Int)(Q0:Nat->Value):X2 (Q2 YP (QE YP) J0 B 16 1 (QS 20 111 (([1,3]:List Nat).zip (ZH r i)) Q0 ZI) (QN (X1 r i)) (2+(X1 r i).length)
 (rK r i Q0++[(19,Qk.pure (.bool false) [])]) 0 [] []) []=some (.bool false,
 [QB []/\Q6 YP J0 55 (r4 r i) (.bool false)]++iS B r i Q0):=by kernel_rfl
theorem yJ(B:Lo)(r:Qg)(i:Int)(Q0:Nat->Value):X2 (Q2 YP (QE YP) J0 B 16 1 (QS 20 111 (([1,3]:List Nat).zip (ZH r i)) Q0 ZI) (QN (X1 r i)) (2+(X1 r i).length)
 (rL r i Q0++[(14,Qk.pure (.bool false) [])]) 0 [] []) []=some (.bool false,
 [QB []/\Q6 YP J0 55 (r6 r i) (.bool false)]++iT B r i Q0):=by kernel_rfl
def dL(B:Lo)(r:Qg)(i:Int)(Q0:Nat->Value):List Prop:=[Zs i (↑r.Qa.length:Int)=false]++([]:List Prop)
def nj(r:Qg)(i:Int)(Q0:Nat->Value):QO:=[(4,Ud)]
def dK(B:Lo)(r:Qg)(i:Int)(Q0:Nat->Value):List Prop:=[QB []/\Q6 YP J0 55 (nc r) (.bool true)]++dL B r i Q0
def ni(r:Qg)(i:Int)(Q0:Nat->Value):QO:=nj r i Q0++[(8,Qk.pure (.bool true) [])]
def dI(B:Lo)(r:Qg)(i:Int)(Q0:Nat->Value):List Prop:=[QB []/\Q6 YP J0 55 (nb r) (.bool true)]++dK B r i Q0
def nh(r:Qg)(i:Int)(Q0:Nat->Value):QO:=ni r i Q0++[(12,Qk.pure (.bool true) [])]
theorem yI(B:Lo)(r:Qg)(i:Int)(Q0:Nat->Value):X2 (Q2 YP (QE YP) J0 B 9 1 (QS 20 111 (([1,3]:List Nat).zip (ZH r i)) Q0 ZI) (QN (X1 r i)) (2+(X1 r i).length)
 (nh r i Q0++[(17,Qk.pure (.bool true) [])]) 0 [] []) []=some (.bool true,
 [QB []/\Q6 YP J0 55 (na r) (.bool true)]++dI B r i Q0):=by kernel_rfl
theorem yH(B:Lo)(r:Qg)(i:Int)(Q0:Nat->Value):X2 (Q2 YP (QE YP) J0 B 9 1 (QS 20 111 (([1,3]:List Nat).zip (ZH r i)) Q0 ZI) (QN (X1 r i)) (2+(X1 r i).length)
 (nh r i Q0++[(17,Qk.pure (.bool false) [])]) 0 [] []) []=some (.bool false,
 [QB []/\Q6 YP J0 55 (na r) (.bool false)]++dI B r i Q0):=by kernel_rfl
theorem yG(B:Lo)(r:Qg)(i:Int)(Q0:Nat->Value):X2 (Q2 YP (QE YP) J0 B 9 1 (QS 20 111 (([1,3]:List Nat).zip (ZH r i)) Q0 ZI) (QN (X1 r i)) (2+(X1 r i).length)
 (ni r i Q0++[(12,Qk.pure (.bool false) [])]) 0 [] []) []=some (.bool false,
 [QB []/\Q6 YP J0 55 (nb r) (.bool false)]++dK B r i Q0):=by kernel_rfl
theorem yF(B:Lo)(r:Qg)(i:Int)(Q0:Nat->Value):X2 (Q2 YP (QE YP) J0 B 9 1 (QS 20 111 (([1,3]:List Nat).zip (ZH r i)) Q0 ZI) (QN (X1 r i)) (2+(X1 r i).length)
 (nj r i Q0++[(8,Qk.pure (.bool false) [])]) 0 [] []) []=some (.bool false,
 [QB []/\Q6 YP J0 55 (nc r) (.bool false)]++dL B r i Q0):=by kernel_rfl
theorem yE(B:Lo)(r:Qg):landM (Q2 YP (QE YP) J0 B 7 1 (Q3 YP 20 111 (([.agg (Q9 r).toArray]).map (QD 0 4))) Z9 1
 [] 0 [] []) [1,3] [(1,KS.auto)] []=some ⟨20,111,ZI,[],.run,none,ZH r (0),X1 r (0),
 []⟩:=by kernel_rfl
set_option maxHeartbeats 4000000 in
theorem Bz(r:Qg)  (Z4:r.Qa.length<=9223372036854775807){B:Lo}(hJ:∀w,B.has w->J0 w){c0:CF}:∀m:Nat,(∀(i:Int),r.Qa.length-i.toNat=m->∀(h0:0<=i),B0 B c0 r i->EndsT YP B c0 (.bool (Pj r.Qa i && Jn r))):=by
 intro m0;induction m0 using LQ with
 |_ m0 ih0=>
  intro i S1 h0 ⟨Q0,VE,Za⟩;have s3:=FE (n:=r.Qa.length) (v:=(r.Qa.getD i.toNat Le).QU) (by omega);by_cases q0:(i:Int)<((↑r.Qa.length:Int))
  ·have VF:QB (iT B r i Q0):=by
    have s2:=Xf (ps:=r.Qa) q0;exact⟨⟨by omega,by omega,(Qy (z:=12) (fun _=>rfl) (by omega))⟩,⟨(XT q0),trivial⟩⟩
   cases q1:Vv (Qc.count (r.Qa.getD i.toNat Le)) 0 1000000 with
   |true=>
    have hp1:QB (iS B r i Q0):=by
     have s2:=Xf (ps:=r.Qa) q0;exact⟨⟨trivial,(by have t_:=mV (Qc.count (r.Qa.getD i.toNat Le)) (0) (1000000);rw[q1]at t_;exact t_)⟩,VF⟩
    cases q2:Vv (Qc.room (r.Qa.getD i.toNat Le)) 0 1000000 with
    |true=>
     have JP:QB (iR B r i Q0):=by
      have s2:=Xf (ps:=r.Qa) q0;exact⟨⟨trivial,(by have t_:=mV (Qc.room (r.Qa.getD i.toNat Le)) (0) (1000000);rw[q2]at t_;exact t_)⟩,hp1⟩
     cases q3:Vv (Qc.goal (r.Qa.getD i.toNat Le)) 0 1000000 with
     |true=>
      have hp3:QB (iQ B r i Q0):=by
       have s2:=Xf (ps:=r.Qa) q0;exact⟨⟨trivial,(by have t_:=mV (Qc.goal (r.Qa.getD i.toNat Le)) (0) (1000000);rw[q3]at t_;exact t_)⟩,JP⟩
      cases q4:Zi (Qc.WZ (r.Qa.getD i.toNat Le)) (Qc.Va (r.Qa.getD i.toNat Le)) 0 2000 with
      |true=>
       have hp4:QB (iP B r i Q0):=by
        have s2:=Xf (ps:=r.Qa) q0;exact⟨⟨trivial,(by have t_:=mY (Qc.WZ (r.Qa.getD i.toNat Le)) (Qc.Va (r.Qa.getD i.toNat Le)) (2000);rw[q4]at t_;exact t_)⟩,hp3⟩
       cases q5:Vv (Qc.Qv (r.Qa.getD i.toNat Le)) 0 1000 with
       |true=>
        have hp5:QB (iO B r i Q0):=by
         have s2:=Xf (ps:=r.Qa) q0;exact⟨(Xi (by omega) (by omega)),⟨⟨trivial,(by have t_:=mV (Qc.Qv (r.Qa.getD i.toNat Le)) (0) (1000);rw[q5]at t_;exact t_)⟩,hp4⟩⟩
        cases q6:Vv (Qc.QU (r.Qa.getD i.toNat Le)) (-1) ((↑r.Qa.length:Int)-1)with
        |true=>
         have hp6:QB (iN B r i Q0):=by
          have s2:=Xf (ps:=r.Qa) q0;exact⟨⟨trivial,(by have t_:=mV (Qc.QU (r.Qa.getD i.toNat Le)) (-1) ((↑r.Qa.length:Int)-1);rw[q6]at t_;exact t_)⟩,hp5⟩
         by_cases q7:(Qc.QU (r.Qa.getD i.toNat Le):Int)=(i)
         ·have s2:=Xf (ps:=r.Qa) q0;exact(GoE.endsT okF hJ Qh Za (By B r i Q0)
           ⟨(R6 q7),hp6⟩).cast (by(rw[s2];rw[s3]at *;simp_all[ZZ,Z3];done))
         ·have hp7:QB (iM B r i Q0):=by
           exact⟨(T0 q7),hp6⟩
          cases q8:Zi (Qc.Wj (r.Qa.getD i.toNat Le)) (Qc.Wl (r.Qa.getD i.toNat Le)) 0 1000000 with
          |true=>
           have hp8:QB (iL B r i Q0):=by
            have s2:=Xf (ps:=r.Qa) q0;exact⟨⟨trivial,(by have t_:=mY (Qc.Wj (r.Qa.getD i.toNat Le)) (Qc.Wl (r.Qa.getD i.toNat Le)) (1000000);rw[q8]at t_;exact t_)⟩,hp7⟩
           cases q9:Zi (Qc.ZU (r.Qa.getD i.toNat Le)) (Qc.ZV (r.Qa.getD i.toNat Le)) 0 1000000 with
           |true=>
            have hp9:QB (iK B r i Q0):=by
             have s2:=Xf (ps:=r.Qa) q0;exact⟨⟨trivial,(by have t_:=mY (Qc.ZU (r.Qa.getD i.toNat Le)) (Qc.ZV (r.Qa.getD i.toNat Le)) (1000000);rw[q9]at t_;exact t_)⟩,hp8⟩
            by_cases q10:(Qc.Wj (r.Qa.getD i.toNat Le):Int)<(Qc.ZU (r.Qa.getD i.toNat Le))
            ·have s2:=Xf (ps:=r.Qa) q0;exact(GoE.endsT okF hJ Qh Za (Bx B r i Q0)
              ⟨(XT q10),hp9⟩).cast (by(rw[s2];rw[s3]at *;simp_all[ZZ,Z3];omega))
            ·have hp10:QB (dN B r i Q0):=by
              exact⟨(Zw (Int.not_lt.1 q10)),hp9⟩
             by_cases q11:(Qc.Wl (r.Qa.getD i.toNat Le):Int)<(Qc.ZV (r.Qa.getD i.toNat Le))
             ·have s2:=Xf (ps:=r.Qa) q0;exact(GoE.endsT okF hJ Qh Za (Bw B r i Q0)
               ⟨(XT q11),hp10⟩).cast (by(rw[s2];rw[s3]at *;simp_all[ZZ,Z3];omega))
             ·have hp11:QB (dM B r i Q0):=by
               exact⟨(Zw (Int.not_lt.1 q11)),hp10⟩
              cases q12:Vv (Qc.Vf (r.Qa.getD i.toNat Le)) 0 1000000 with
              |true=>
               have s2:=Xf (ps:=r.Qa) q0;exact((ih0 _ (by omega)) (i+1) rfl (by omega)
                (Za.landM okF hJ Qh (Bv B r i Q0)
                ⟨(Xi (by omega) (by omega)),⟨⟨trivial,(by have t_:=mV (Qc.Vf (r.Qa.getD i.toNat Le)) (0) (1000000);rw[q12]at t_;exact t_)⟩,hp11⟩⟩ (by kernel_rfl) (by kernel_rfl))).cast (by(rw[s2];rw[s3]at *;simp_all[ZZ,Z3];done))
              |false=>
               have s2:=Xf (ps:=r.Qa) q0;exact(GoE.endsT okF hJ Qh Za (Bu B r i Q0)
                ⟨⟨trivial,(by have t_:=mV (Qc.Vf (r.Qa.getD i.toNat Le)) (0) (1000000);rw[q12]at t_;exact t_)⟩,hp11⟩).cast (by(rw[s2];rw[s3]at *;simp_all[ZZ,Z3];done))
           |false=>
            have s2:=Xf (ps:=r.Qa) q0;exact(GoE.endsT okF hJ Qh Za (Bt B r i Q0)
             ⟨⟨trivial,(by have t_:=mY (Qc.ZU (r.Qa.getD i.toNat Le)) (Qc.ZV (r.Qa.getD i.toNat Le)) (1000000);rw[q9]at t_;exact t_)⟩,hp8⟩).cast (by(rw[s2];rw[s3]at *;simp_all[ZZ,Z3];done))
          |false=>
           have s2:=Xf (ps:=r.Qa) q0;exact(GoE.endsT okF hJ Qh Za (Bs B r i Q0)
            ⟨⟨trivial,(by have t_:=mY (Qc.Wj (r.Qa.getD i.toNat Le)) (Qc.Wl (r.Qa.getD i.toNat Le)) (1000000);rw[q8]at t_;exact t_)⟩,hp7⟩).cast (by(rw[s2];rw[s3]at *;simp_all[ZZ,Z3];done))
        |false=>
         have s2:=Xf (ps:=r.Qa) q0;exact(GoE.endsT okF hJ Qh Za (Br B r i Q0)
          ⟨⟨trivial,(by have t_:=mV (Qc.QU (r.Qa.getD i.toNat Le)) (-1) ((↑r.Qa.length:Int)-1);rw[q6]at t_;exact t_)⟩,hp5⟩).cast (by(rw[s2];rw[s3]at *;simp_all[ZZ,Z3];done))
       |false=>
        have s2:=Xf (ps:=r.Qa) q0;exact(GoE.endsT okF hJ Qh Za (Bq B r i Q0)
         ⟨⟨trivial,(by have t_:=mV (Qc.Qv (r.Qa.getD i.toNat Le)) (0) (1000);rw[q5]at t_;exact t_)⟩,hp4⟩).cast (by(rw[s2];rw[s3]at *;simp_all[ZZ,Z3];done))
      |false=>
       have s2:=Xf (ps:=r.Qa) q0;exact(GoE.endsT okF hJ Qh Za (Bp B r i Q0)
        ⟨⟨trivial,(by have t_:=mY (Qc.WZ (r.Qa.getD i.toNat Le)) (Qc.Va (r.Qa.getD i.toNat Le)) (2000);rw[q4]at t_;exact t_)⟩,hp3⟩).cast (by(rw[s2];rw[s3]at *;simp_all[ZZ,Z3];done))
     |false=>
      have s2:=Xf (ps:=r.Qa) q0;exact(GoE.endsT okF hJ Qh Za (yL B r i Q0)
       ⟨⟨trivial,(by have t_:=mV (Qc.goal (r.Qa.getD i.toNat Le)) (0) (1000000);rw[q3]at t_;exact t_)⟩,JP⟩).cast (by(rw[s2];rw[s3]at *;simp_all[ZZ,Z3];done))
    |false=>
     have s2:=Xf (ps:=r.Qa) q0;exact(GoE.endsT okF hJ Qh Za (yK B r i Q0)
      ⟨⟨trivial,(by have t_:=mV (Qc.room (r.Qa.getD i.toNat Le)) (0) (1000000);rw[q2]at t_;exact t_)⟩,hp1⟩).cast (by(rw[s2];rw[s3]at *;simp_all[ZZ,Z3];done))
   |false=>
    have s2:=Xf (ps:=r.Qa) q0;exact(GoE.endsT okF hJ Qh Za (yJ B r i Q0)
     ⟨⟨trivial,(by have t_:=mV (Qc.count (r.Qa.getD i.toNat Le)) (0) (1000000);rw[q1]at t_;exact t_)⟩,VF⟩).cast (by(rw[s2];rw[s3]at *;simp_all[ZZ,Z3];done))
  ·have hp12:QB (dL B r i Q0):=by
    exact⟨(Zw (Int.not_lt.1 q0)),trivial⟩
   cases q1:Vv (↑r.Qa.length:Int) 1 4 with
   |true=>
    have hp13:QB (dK B r i Q0):=by
     have s2:=Up (ps:=r.Qa) (i:=i) (by omega);exact⟨⟨trivial,(by have t_:=mV ((↑r.Qa.length:Int)) (1) (4);rw[q1]at t_;exact t_)⟩,hp12⟩
    cases q2:Vv r.Qq 0 2000 with
    |true=>
     have hp14:QB (dI B r i Q0):=by
      have s2:=Up (ps:=r.Qa) (i:=i) (by omega);exact⟨⟨trivial,(by have t_:=mV r.Qq (0) (2000);rw[q2]at t_;exact t_)⟩,hp13⟩
     cases q3:Vv r.Qd 1 4 with
     |true=>
      have s2:=Up (ps:=r.Qa) (i:=i) (by omega);exact(GoE.endsT okF hJ Qh Za (yI B r i Q0)
       ⟨⟨trivial,(by have t_:=mV r.Qd (1) (4);rw[q3]at t_;exact t_)⟩,hp14⟩).cast (by(rw[s2];simp_all[Jn];done))
     |false=>
      have s2:=Up (ps:=r.Qa) (i:=i) (by omega);exact(GoE.endsT okF hJ Qh Za (yH B r i Q0)
       ⟨⟨trivial,(by have t_:=mV r.Qd (1) (4);rw[q3]at t_;exact t_)⟩,hp14⟩).cast (by(rw[s2];simp_all[Jn];done))
    |false=>
     have s2:=Up (ps:=r.Qa) (i:=i) (by omega);exact(GoE.endsT okF hJ Qh Za (yG B r i Q0)
      ⟨⟨trivial,(by have t_:=mV r.Qq (0) (2000);rw[q2]at t_;exact t_)⟩,hp13⟩).cast (by(rw[s2];simp_all[Jn];done))
   |false=>
    have s2:=Up (ps:=r.Qa) (i:=i) (by omega);exact(GoE.endsT okF hJ Qh Za (yF B r i Q0)
     ⟨⟨trivial,(by have t_:=mV ((↑r.Qa.length:Int)) (1) (4);rw[q1]at t_;exact t_)⟩,hp12⟩).cast (by(rw[s2];simp_all[Jn];done))
set_option maxHeartbeats 4000000 in
theorem ED(r:Qg)  (Z4:r.Qa.length<=9223372036854775807){B:Lo}(hJ:∀w,B.has w->J0 w):EndsT YP B (Q3 YP 20 111 (([.agg (Q9 r).toArray]).map (QD 0 4))) (.bool (Zu r)):=by
 exact((Bz r Z4 hJ _) (0) rfl (by omega)
  (GoE.start.landM okF hJ Qh (yE B r)
  trivial (by kernel_rfl) (by kernel_rfl))).cast (by(simp only[Zu];rw[Bool.and_comm];done))
theorem Gm(r:Qg)  :Q6 YP J0 20 #[.agg (Q9 r).toArray] (.bool (Zu r)):=
 Km (ts:=[.agg (Q9 r).toArray]) (r.Qa.length<=9223372036854775807) (fun _ _ ht=>ht.ln2 (i:=0) (j:=0) rfl rfl) ZF (c0:=Q3 YP 20 111 (([.agg (Q9 r).toArray]).map (QD 0 4))) (by kernel_rfl) (by kernel_rfl) fun Z4 B hJ=>ED r  Z4 hJ
end
end Go.Proofs.Ytncjjangllkokaa

namespace Go.Proofs.Ytncjjangllkokaa
open Go Go.CE Go.RowKit
noncomputable section
theorem dT:((Vd 0:Nat):Int)=1:=rfl
theorem zj{i:Int}(h:0<=i):((Vd (i+1):Nat):Int)=2*((Vd i:Nat):Int):=by
 unfold Vd;rw[show(i+1).toNat=i.toNat+1 by omega,Nat.pow_succ];omega
def hasB(n k:Int):Bool:=n.toNat.testBit k.toNat
theorem lY{n k:Int}(hn:0<=n)(hk:1<=k):hasB n k=hasB (n / 2) (k-1):=by
 unfold hasB;obtain⟨j,hj⟩:∃j,k.toNat=j+1:=⟨k.toNat-1,by omega⟩
 rw[hj,show(k-1).toNat=j by omega,Nat.testBit_succ,show(n / 2).toNat=n.toNat / 2 by omega]
theorem Iu{n:Int}(hn:0<=n):hasB n 0=decide (n % 2=1):=by
 unfold hasB;rw[show(0:Int).toNat=0 from rfl,Nat.testBit_zero];exact decide_eq_decide.2 (by omega)
theorem oA{n k:Int}:decide (((qC ((a8 n k:Nat):Int) 1:Nat):Int)=1)=hasB n k:=by
 unfold hasB qC a8;rw[Int.toNat_natCast,show(1:Int).toNat=1 from rfl,Nat.and_one_is_mod,Nat.shiftRight_eq_div_pow,Nat.testBit_eq_decide_div_mod_eq];exact decide_eq_decide.2 (by omega)
def X8(r:Qg)(Qb:List Int):List Value:=[Kl r.Qa,.int .i64 r.Qq,.int .i64 r.Qd,.int .i64 (Qb.getD 0 0),.int .i64 (Qb.getD 1 0),.int .i64 (Qb.getD 2 0),.int .i64 (Qb.getD 3 0)]
theorem Xy{r:Qg}{Qb:List Int}(h:XN r Qb=true):Qb.length=r.Qd/\∀x∈Qb,0<=x/\x<Vd r.Qa.length:=by
 simp only[XN,YB,decide_eq_true_iff,List.all_eq_true,av]at h;exact⟨h.1,fun x hx=>by have:=h.2 x hx;omega⟩
def SQ(r:Qg)(s i:Int):List Value:=[pA 2 0,.int .i64 s,.int .i64 i]
def Yd(r:Qg)(s i:Int):List Obj:=[Obj.cells #[Q4 1 (QV r.Qa.length (Qf Qn r.Qa)),.int .i64 r.Qq,.int .i64 r.Qd] 24]
def SS:List Item:=([.code [1,1,0,1,0,0],.inLoop [1,1,0,1,0,0],.inBlock 0,.code [1,1,1]]).map (it (Xa YP 69))
def AY(B:Lo)(c0:CF)(r:Qg)(s i:Int):Prop:=∃dJ:Nat->Value,(∀t,XH (dJ t))/\GoE YP B c0 Z9 1 (QS 69 15 (([1,3,4]:List Nat).zip (SQ r s i)) dJ SS) (QN (Yd r s i)) (2+(Yd r s i).length) []
set_option maxRecDepth 100000 in
theorem AW(B:Lo)(r:Qg)(s i:Int)(Q0:Nat->Value):landM (Q2 YP (QE YP) J0 B 11 1 (QS 69 15 (([1,3,4]:List Nat).zip (SQ r s i)) Q0 SS) (QN (Yd r s i)) (2+(Yd r s i).length)
 [(4,Vh),(6,WL (2*s)),(9,WL (i+1))] 0 [] []) [1,3,4] [(2,KS.auto)] []=some ⟨69,15,SS,[],.run,none,SQ r (2*s) (i+1),Yd r (2*s) (i+1),
 [wq (i+1)=i+1,wq (2*s)=2*s,Zs i (↑r.Qa.length:Int)=true]⟩:=by kernel_rfl
set_option maxRecDepth 100000 in
theorem AV(B:Lo)(r:Qg)(s i:Int)(Q0:Nat->Value):X2 (Q2 YP (QE YP) J0 B 9 1 (QS 69 15 (([1,3,4]:List Nat).zip (SQ r s i)) Q0 SS) (QN (Yd r s i)) (2+(Yd r s i).length)
 [(4,Ud)] 0 [] []) []=some (.int .i64 s,
 [Zs i (↑r.Qa.length:Int)=false]):=by kernel_rfl
set_option maxRecDepth 100000 in
theorem AU(B:Lo)(r:Qg):landM (Q2 YP (QE YP) J0 B 9 1 (Q3 YP 69 15 (([.agg (Q9 r).toArray]).map (QD 0 4))) Z9 1
 [] 0 [] []) [1,3,4] [(1,KS.auto)] []=some ⟨69,15,SS,[],.run,none,SQ r (1) (0),Yd r (1) (0),
 []⟩:=by kernel_rfl
set_option maxHeartbeats 4000000 in
theorem AX(r:Qg)(hn:r.Qa.length<=61){B:Lo}(hJ:∀w,B.has w->J0 w){c0:CF}:∀m:Nat,(∀(s i:Int),r.Qa.length-i.toNat=m->∀(h0:0<=i) (h1:i<=r.Qa.length) (hs:s=((Vd i:Nat):Int)),AY B c0 r s i->EndsT YP B c0 (.int .i64 ((Vd r.Qa.length:Nat):Int))):=by
 intro m0;induction m0 using LQ with
 |_ m0 ih0=>
  intro s i S1 h0 h1 hs ⟨Q0,VE,Za⟩;have e1:=Sl (n:=i) (by omega);have e2:=zj (i:=i) h0;by_cases q0:(i:Int)<((↑r.Qa.length:Int))
  ·try have e3:=Sl (n:=i+1) (by omega)
   exact((ih0 _ (by omega)) (2*s) (i+1) rfl (by first|with_reducible assumption|omega|exact dT.symm|(rw[e2,hs];done)|(simp_all;done)) (by first|with_reducible assumption|omega|exact dT.symm|(rw[e2,hs];done)|(simp_all;done)) (by first|with_reducible assumption|omega|exact dT.symm|(rw[e2,hs];done)|(simp_all;done))
    (Za.landM okF hJ Qh (AW B r s i Q0)
    ⟨(Xi (by omega) (by omega)),⟨(Xi (by omega) (by omega)),⟨(XT q0),trivial⟩⟩⟩ (by kernel_rfl) (by kernel_rfl))).cast (by first|rfl|(rw[hs,show i=r.Qa.length by omega];done))
  ·try have e3:=Sl (n:=i+1) (by omega)
   exact(GoE.endsT okF hJ Qh Za (AV B r s i Q0)
    ⟨(Zw (Int.not_lt.1 q0)),trivial⟩).cast (by first|rfl|(rw[hs,show i=r.Qa.length by omega];done))
set_option maxHeartbeats 4000000 in
theorem Er(r:Qg)(hn:r.Qa.length<=61){B:Lo}(hJ:∀w,B.has w->J0 w):EndsT YP B (Q3 YP 69 15 (([.agg (Q9 r).toArray]).map (QD 0 4))) (.int .i64 ((Vd r.Qa.length:Nat):Int)):=by
 exact((AX r hn hJ _) (1) (0) rfl (by first|with_reducible assumption|omega|exact dT.symm|(rw[e2,hs];done)|(simp_all;done)) (by first|with_reducible assumption|omega|exact dT.symm|(rw[e2,hs];done)|(simp_all;done)) (by first|with_reducible assumption|omega|exact dT.symm|(rw[e2,hs];done)|(simp_all;done))
  (GoE.start.landM okF hJ Qh (AU B r)
  trivial (by kernel_rfl) (by kernel_rfl))).cast (by first|rfl|(simp[*];done)|(simp_all[];done)|(simp_all[];omega))
theorem HS(r:Qg)(hn:r.Qa.length<=61):Q6 YP J0 69 #[.agg (Q9 r).toArray] (.int .i64 ((Vd r.Qa.length:Nat):Int)):=
 XD (ts:=[.agg (Q9 r).toArray]) ZF (c0:=Q3 YP 69 15 (([.agg (Q9 r).toArray]).map (QD 0 4))) (by kernel_rfl) (by kernel_rfl) fun B hJ=>Er r hn hJ
def Jx(r:Qg)(Qb:List Int)(i:Int):List Value:=[Q4 1 (QV Qb.length (Qf Qp Qb)),pA 2 0,.int .i64 i]
def VH(r:Qg)(Qb:List Int)(i:Int):List Obj:=[Obj.cells #[Q4 1 (QV r.Qa.length (Qf Qn r.Qa)),.int .i64 r.Qq,.int .i64 r.Qd] 24]
def Jy:List Item:=([.code [1,0,1,0,0],.inLoop [1,0,1,0,0],.inBlock 0,.code [1,1]]).map (it (Xa YP 41))
def B7(B:Lo)(c0:CF)(r:Qg)(Qb:List Int)(i:Int):Prop:=∃dJ:Nat->Value,(∀t,XH (dJ t))/\GoE YP B c0 Z9 1 (QS 41 26 (([1,2,5]:List Nat).zip (Jx r Qb i)) dJ Jy) (QN (VH r Qb i)) (2+(VH r Qb i).length) []
def rN(r:Qg)(Qb:List Int)(i:Int):Array Value:=#[.int .i64 (Qb.getD i.toNat Le),.int .i64 0,.int .i64 ((↑(Vd (↑r.Qa.length:Int)):Int)-1)]
def rM(r:Qg):Value:=(.int .i64 (↑(Vd (↑r.Qa.length:Int)):Int))
def iV(B:Lo)(r:Qg)(Qb:List Int)(i:Int)(Q0:Nat->Value):List Prop:=[wq ((↑(Vd (↑r.Qa.length:Int)):Int)-1)=(↑(Vd (↑r.Qa.length:Int)):Int)-1,QB []/\Q6 YP J0 69 #[.agg #[QV r.Qa.length (Qf Qn r.Qa),.int .i64 r.Qq,.int .i64 r.Qd]] (rM r),Vs i Qb.length (Qf Qp Qb) Try.t3.size #[.int .i64 (Qb.getD i.toNat Le)],Zs i (↑Qb.length:Int)=true]++([]:List Prop)
def rP(r:Qg)(Qb:List Int)(i:Int)(Q0:Nat->Value):QO:=[(3,Vh),(6,Qk.tidx i.toNat #[.int .i64 (Qb.getD i.toNat Le)]),(9,Qk.pure (rM r) []),(10,WL ((↑(Vd (↑r.Qa.length:Int)):Int)-1))]
set_option maxRecDepth 100000 in
theorem B5(B:Lo)(r:Qg)(Qb:List Int)(i:Int)(Q0:Nat->Value):landM (Q2 YP (QE YP) J0 B 14 1 (QS 41 26 (([1,2,5]:List Nat).zip (Jx r Qb i)) Q0 Jy) (QN (VH r Qb i)) (2+(VH r Qb i).length)
 (rP r Qb i Q0++[(11,Qk.pure (.bool true) []),(14,WL (i+1))]) 0 [] []) [1,2,5] [(2,KS.auto)] []=some ⟨41,26,Jy,[],.run,none,Jx r Qb (i+1),VH r Qb (i+1),
 [wq (i+1)=i+1,QB []/\Q6 YP J0 55 (rN r Qb i) (.bool true)]++iV B r Qb i Q0⟩:=by kernel_rfl
set_option maxRecDepth 100000 in
theorem B4(B:Lo)(r:Qg)(Qb:List Int)(i:Int)(Q0:Nat->Value):X2 (Q2 YP (QE YP) J0 B 14 1 (QS 41 26 (([1,2,5]:List Nat).zip (Jx r Qb i)) Q0 Jy) (QN (VH r Qb i)) (2+(VH r Qb i).length)
 (rP r Qb i Q0++[(11,Qk.pure (.bool false) [])]) 0 [] []) []=some (.bool false,
 [QB []/\Q6 YP J0 55 (rN r Qb i) (.bool false)]++iV B r Qb i Q0):=by kernel_rfl
def iU(B:Lo)(r:Qg)(Qb:List Int)(i:Int)(Q0:Nat->Value):List Prop:=[Zs i (↑Qb.length:Int)=false]++([]:List Prop)
def rO(r:Qg)(Qb:List Int)(i:Int)(Q0:Nat->Value):QO:=[(3,Ud)]
set_option maxRecDepth 100000 in
theorem B3(B:Lo)(r:Qg)(Qb:List Int)(i:Int)(Q0:Nat->Value):X2 (Q2 YP (QE YP) J0 B 9 1 (QS 41 26 (([1,2,5]:List Nat).zip (Jx r Qb i)) Q0 Jy) (QN (VH r Qb i)) (2+(VH r Qb i).length)
 (rO r Qb i Q0++[(8,Vh)]) 0 [] []) []=some (.bool true,
 [T3 (↑Qb.length:Int) r.Qd=true]++iU B r Qb i Q0):=by kernel_rfl
set_option maxRecDepth 100000 in
theorem B2(B:Lo)(r:Qg)(Qb:List Int)(i:Int)(Q0:Nat->Value):X2 (Q2 YP (QE YP) J0 B 9 1 (QS 41 26 (([1,2,5]:List Nat).zip (Jx r Qb i)) Q0 Jy) (QN (VH r Qb i)) (2+(VH r Qb i).length)
 (rO r Qb i Q0++[(8,Ud)]) 0 [] []) []=some (.bool false,
 [T3 (↑Qb.length:Int) r.Qd=false]++iU B r Qb i Q0):=by kernel_rfl
set_option maxRecDepth 100000 in
theorem B1(B:Lo)(r:Qg)(Qb:List Int):landM (Q2 YP (QE YP) J0 B 7 1 (Q3 YP 41 26 (([.agg (Q9 r).toArray,Zj Qb]).map (QD 0 4))) Z9 1
 [] 0 [] []) [1,2,5] [(1,KS.auto)] []=some ⟨41,26,Jy,[],.run,none,Jx r Qb (0),VH r Qb (0),
 []⟩:=by kernel_rfl
set_option maxHeartbeats 4000000 in
theorem B6(r:Qg)(Qb:List Int)(hn:r.Qa.length<=61)(Z4:Qb.length<=9223372036854775807){B:Lo}(hJ:∀w,B.has w->J0 w){c0:CF}:∀m:Nat,(∀(i:Int),Qb.length-i.toNat=m->∀(h0:0<=i),B7 B c0 r Qb i->EndsT YP B c0 (.bool ((Qb.drop i.toNat).all (fun x=>Vv x 0 (((Vd r.Qa.length:Nat):Int)-1)) && decide (Qb.length=r.Qd)))):=by
 intro m0;induction m0 using LQ with
 |_ m0 ih0=>
  intro i S1 h0 ⟨Q0,VE,Za⟩;have e1:=Sl (n:=r.Qa.length) (by omega);have e1:=Sl (n:=r.Qa.length) (by omega);by_cases q0:(i:Int)<((↑Qb.length:Int))
  ·have VF:QB (iV B r Qb i Q0):=by
    try have s2:=R9 (l:=Qb) (p:=fun x=>Vv x 0 (((Vd r.Qa.length:Nat):Int)-1)) h0 q0
    try have s2:=R8 (l:=Qb) (p:=fun x=>Vv x 0 (((Vd r.Qa.length:Nat):Int)-1)) (i:=i) (by omega)
    exact⟨(Xi (by omega) (by omega)),⟨⟨trivial,HS (r) (by first|with_reducible assumption|omega|simp_all)⟩,⟨⟨by omega,by omega,(Qy (z:=1) (fun _=>rfl) (by first|omega|(rw[LS];omega)|(rw[LR];omega)))⟩,⟨(XT q0),trivial⟩⟩⟩⟩
   cases q1:Vv (Qb.getD i.toNat Le) 0 ((↑(Vd (↑r.Qa.length:Int)):Int)-1)with
   |true=>
    try have s2:=R9 (l:=Qb) (p:=fun x=>Vv x 0 (((Vd r.Qa.length:Nat):Int)-1)) h0 q0
    try have s2:=R8 (l:=Qb) (p:=fun x=>Vv x 0 (((Vd r.Qa.length:Nat):Int)-1)) (i:=i) (by omega)
    exact((ih0 _ (by omega)) (i+1) rfl (by first|with_reducible assumption|omega|(simp_all;done))
     (Za.landM okF hJ Qh (B5 B r Qb i Q0)
     ⟨(Xi (by omega) (by omega)),⟨⟨trivial,(by have t_:=mV (Qb.getD i.toNat Le) (0) ((↑(Vd (↑r.Qa.length:Int)):Int)-1);rw[q1]at t_;exact t_)⟩,VF⟩⟩ (by kernel_rfl) (by kernel_rfl))).cast (by first|rfl|(rw[s2];simp[*];done)|(rw[s2];simp_all;done)|(rw[s2];done))
   |false=>
    try have s2:=R9 (l:=Qb) (p:=fun x=>Vv x 0 (((Vd r.Qa.length:Nat):Int)-1)) h0 q0
    try have s2:=R8 (l:=Qb) (p:=fun x=>Vv x 0 (((Vd r.Qa.length:Nat):Int)-1)) (i:=i) (by omega)
    exact(GoE.endsT okF hJ Qh Za (B4 B r Qb i Q0)
     ⟨⟨trivial,(by have t_:=mV (Qb.getD i.toNat Le) (0) ((↑(Vd (↑r.Qa.length:Int)):Int)-1);rw[q1]at t_;exact t_)⟩,VF⟩).cast (by first|rfl|(rw[s2];simp[*];done)|(rw[s2];simp_all;done)|(rw[s2];done))
  ·have hp1:QB (iU B r Qb i Q0):=by
    exact⟨(Zw (Int.not_lt.1 q0)),trivial⟩
   by_cases q1:((↑Qb.length:Int):Int)=r.Qd
   ·try have s2:=R9 (l:=Qb) (p:=fun x=>Vv x 0 (((Vd r.Qa.length:Nat):Int)-1)) h0 q0
    try have s2:=R8 (l:=Qb) (p:=fun x=>Vv x 0 (((Vd r.Qa.length:Nat):Int)-1)) (i:=i) (by omega)
    exact(GoE.endsT okF hJ Qh Za (B3 B r Qb i Q0)
     ⟨(R6 q1),hp1⟩).cast (by first|rfl|(rw[s2];simp[*];done)|(rw[s2];simp_all;done)|(rw[s2];done))
   ·try have s2:=R9 (l:=Qb) (p:=fun x=>Vv x 0 (((Vd r.Qa.length:Nat):Int)-1)) h0 q0
    try have s2:=R8 (l:=Qb) (p:=fun x=>Vv x 0 (((Vd r.Qa.length:Nat):Int)-1)) (i:=i) (by omega)
    exact(GoE.endsT okF hJ Qh Za (B2 B r Qb i Q0)
     ⟨(T0 q1),hp1⟩).cast (by first|rfl|(rw[s2];simp[*];done)|(rw[s2];simp_all;done)|(rw[s2];done))
set_option maxHeartbeats 4000000 in
theorem EE(r:Qg)(Qb:List Int)(hn:r.Qa.length<=61)(Z4:Qb.length<=9223372036854775807){B:Lo}(hJ:∀w,B.has w->J0 w):EndsT YP B (Q3 YP 41 26 (([.agg (Q9 r).toArray,Zj Qb]).map (QD 0 4))) (.bool (XN r Qb)):=by
 have e1:=Sl (n:=r.Qa.length) (by omega);exact((B6 r Qb hn Z4 hJ _) (0) rfl (by first|with_reducible assumption|omega|(simp_all;done))
  (GoE.start.landM okF hJ Qh (B1 B r Qb)
  trivial (by kernel_rfl) (by kernel_rfl))).cast (by first|rfl|(simp[XN,Bool.and_comm];done))
theorem Gn(r:Qg)(Qb:List Int)(hn:r.Qa.length<=61):Q6 YP J0 41 #[.agg (Q9 r).toArray,Zj Qb] (.bool (XN r Qb)):=
 Km (ts:=[.agg (Q9 r).toArray,Zj Qb]) (Qb.length<=9223372036854775807) (fun _ _ ht=>ht.ln (i:=1) rfl) ZF (c0:=Q3 YP 41 26 (([.agg (Q9 r).toArray,Zj Qb]).map (QD 0 4))) (by kernel_rfl) (by kernel_rfl) fun Z4 B hJ=>EE r Qb hn Z4 hJ
def TF(n k:Int)(x i:Int):List Value:=[.int .i64 x,.int .i64 k,.int .i64 i]
def KZ(n k:Int)(x i:Int):List Obj:=[]
def TG:List Item:=([.code [1,0,1,0,0],.inLoop [1,0,1,0,0],.inBlock 0,.code [1,1]]).map (it (Xa YP 47))
def EL(B:Lo)(c0:CF)(n k:Int)(x i:Int):Prop:=∃dJ:Nat->Value,(∀t,XH (dJ t))/\GoE YP B c0 Z9 1 (QS 47 16 (([0,1,5]:List Nat).zip (TF n k x i)) dJ TG) (QN (KZ n k x i)) (2+(KZ n k x i).length) []
set_option maxRecDepth 100000 in
theorem EJ(B:Lo)(n k:Int)(x i:Int)(Q0:Nat->Value):landM (Q2 YP (QE YP) J0 B 11 1 (QS 47 16 (([0,1,5]:List Nat).zip (TF n k x i)) Q0 TG) (QN (KZ n k x i)) (2+(KZ n k x i).length)
 [(2,Vh),(4,WL (Lh x 2)),(7,WL (i+1))] 0 [] []) [0,1,5] [] []=some ⟨47,16,TG,[],.run,none,TF n k (Lh x 2) (i+1),KZ n k (Lh x 2) (i+1),
 [wq (i+1)=i+1,IntKind.wrap .i64 (Lh x 2)=Lh x 2,Zs i k=true]⟩:=by kernel_rfl
def oG(B:Lo)(n k:Int)(x i:Int)(Q0:Nat->Value):List Prop:=[Zs i k=false]++([]:List Prop)
def xK(n k:Int)(x i:Int)(Q0:Nat->Value):QO:=[(2,Ud)]
set_option maxRecDepth 100000 in
theorem EI(B:Lo)(n k:Int)(x i:Int)(Q0:Nat->Value):X2 (Q2 YP (QE YP) J0 B 9 1 (QS 47 16 (([0,1,5]:List Nat).zip (TF n k x i)) Q0 TG) (QN (KZ n k x i)) (2+(KZ n k x i).length)
 (xK n k x i Q0++[(5,Vh)]) 0 [] []) []=some (.bool true,
 [T3 (Int.tmod x 2) 1=true]++oG B n k x i Q0):=by kernel_rfl
set_option maxRecDepth 100000 in
theorem EH(B:Lo)(n k:Int)(x i:Int)(Q0:Nat->Value):X2 (Q2 YP (QE YP) J0 B 9 1 (QS 47 16 (([0,1,5]:List Nat).zip (TF n k x i)) Q0 TG) (QN (KZ n k x i)) (2+(KZ n k x i).length)
 (xK n k x i Q0++[(5,Ud)]) 0 [] []) []=some (.bool false,
 [T3 (Int.tmod x 2) 1=false]++oG B n k x i Q0):=by kernel_rfl
set_option maxRecDepth 100000 in
theorem EG(B:Lo)(n k:Int):landM (Q2 YP (QE YP) J0 B 7 1 (Q3 YP 47 16 (([.int .i64 n,.int .i64 k]).map (QD 0 4))) Z9 1
 [] 0 [] []) [0,1,5] [] []=some ⟨47,16,TG,[],.run,none,TF n k (n) (0),KZ n k (n) (0),
 []⟩:=by kernel_rfl
set_option maxHeartbeats 4000000 in
theorem EK(n k:Int)(hn:0<=n/\n<=1000000000)(hk:0<=k/\k<=1000000000){B:Lo}(hJ:∀w,B.has w->J0 w){c0:CF}:∀m:Nat,(∀(x i:Int),(k-i).toNat=m->∀(h0:0<=i) (h1:i<=k) (h2:0<=x/\x<=1000000000) (hx:hasB x (k-i)=hasB n k),EL B c0 n k x i->EndsT YP B c0 (.bool (hasB n k))):=by
 intro m0;induction m0 using LQ with
 |_ m0 ih0=>
  intro x i S1 h0 h1 h2 hx ⟨Q0,VE,Za⟩;have e1:x.tdiv 2=x / 2:=Ma h2.1;have e2:x.tmod 2=x % 2:=Int.tmod_eq_emod_of_nonneg h2.1;have e4:=Iu (n:=x) h2.1;by_cases q0:(i:Int)<(k)
  ·try have e3:=lY (n:=x) (k:=k-i) h2.1 (by omega)
   exact((ih0 _ (by omega)) (Lh x 2) (i+1) rfl (by first|with_reducible assumption|omega|(rw[<-hx,e3,e1,show k-(i+1)=k-i-1 by omega];done)|(simp_all;done)) (by first|with_reducible assumption|omega|(rw[<-hx,e3,e1,show k-(i+1)=k-i-1 by omega];done)|(simp_all;done)) (by first|with_reducible assumption|omega|(rw[<-hx,e3,e1,show k-(i+1)=k-i-1 by omega];done)|(simp_all;done)) (by first|with_reducible assumption|omega|(rw[<-hx,e3,e1,show k-(i+1)=k-i-1 by omega];done)|(simp_all;done))
    (Za.landM okF hJ Qh (EJ B n k x i Q0)
    ⟨(Xi (by omega) (by omega)),⟨(JU (by omega) (by omega)),⟨(XT q0),trivial⟩⟩⟩ (by kernel_rfl) (by kernel_rfl))).cast (by first|rfl|(rw[<-hx,show k-i=0 by omega,e4];simp[*];omega))
  ·have VF:QB (oG B n k x i Q0):=by
    exact⟨(Zw (Int.not_lt.1 q0)),trivial⟩
   by_cases q1:(Int.tmod x 2:Int)=(1)
   ·try have e3:=lY (n:=x) (k:=k-i) h2.1 (by omega)
    exact(GoE.endsT okF hJ Qh Za (EI B n k x i Q0)
     ⟨(R6 q1),VF⟩).cast (by first|rfl|(rw[<-hx,show k-i=0 by omega,e4];simp[*];omega))
   ·try have e3:=lY (n:=x) (k:=k-i) h2.1 (by omega)
    exact(GoE.endsT okF hJ Qh Za (EH B n k x i Q0)
     ⟨(T0 q1),VF⟩).cast (by first|rfl|(rw[<-hx,show k-i=0 by omega,e4];simp[*];omega))
set_option maxHeartbeats 4000000 in
theorem GQ(n k:Int)(hn:0<=n/\n<=1000000000)(hk:0<=k/\k<=1000000000){B:Lo}(hJ:∀w,B.has w->J0 w):EndsT YP B (Q3 YP 47 16 (([.int .i64 n,.int .i64 k]).map (QD 0 4))) (.bool (hasB n k)):=by
 exact((EK n k hn hk hJ _) (n) (0) rfl (by first|with_reducible assumption|omega|(rw[<-hx,e3,e1,show k-(i+1)=k-i-1 by omega];done)|(simp_all;done)) (by first|with_reducible assumption|omega|(rw[<-hx,e3,e1,show k-(i+1)=k-i-1 by omega];done)|(simp_all;done)) (by first|with_reducible assumption|omega|(rw[<-hx,e3,e1,show k-(i+1)=k-i-1 by omega];done)|(simp_all;done)) (by first|with_reducible assumption|omega|(rw[<-hx,e3,e1,show k-(i+1)=k-i-1 by omega];done)|(simp_all;done))
  (GoE.start.landM okF hJ Qh (EG B n k)
  trivial (by kernel_rfl) (by kernel_rfl))).cast (by first|rfl|(simp[*];done)|(simp_all[];done)|(simp_all[];omega))
theorem YM(n k:Int)(hn:0<=n/\n<=1000000000)(hk:0<=k/\k<=1000000000):Q6 YP J0 47 #[.int .i64 n,.int .i64 k] (.bool (hasB n k)):=
 XD (ts:=[.int .i64 n,.int .i64 k]) ZF (c0:=Q3 YP 47 16 (([.int .i64 n,.int .i64 k]).map (QD 0 4))) (by kernel_rfl) (by kernel_rfl) fun B hJ=>GQ n k hn hk hJ
def j8(r:Qg)(Qb:List Int):Array Value:=#[QV Qb.length (Qf Qp Qb),.int .i64 0,.int .i64 ((↑(Vd (↑r.Qa.length:Int)):Int)-1)]
def j7(r:Qg):Value:=(.int .i64 (↑(Vd (↑r.Qa.length:Int)):Int))
def ba(B:Lo)(r:Qg)(Qb:List Int):List Prop:=[wq ((↑(Vd (↑r.Qa.length:Int)):Int)-1)=(↑(Vd (↑r.Qa.length:Int)):Int)-1,mE YP BinOp.shl 3 (.int .i64 1) (XJ {len:=16000,tr:=Tri.set 14 Tri.lf 14 (.int .i64 (↑r.Qa.length:Int))} 14) (j7 r),T3 (↑Qb.length:Int) r.Qd=true]++([]:List Prop)
def j9(r:Qg)(Qb:List Int):QO:=[(6,Vh),(12,Qk.bin (j7 r)),(13,WL ((↑(Vd (↑r.Qa.length:Int)):Int)-1))]
set_option maxRecDepth 100000 in
theorem wg(B:Lo)(r:Qg)(Qb:List Int):X2 (Q2 YP (QE YP) J0 B 6 1 (Q3 YP 51 19 (([.agg (Q9 r).toArray,Zj Qb]).map (QD 0 4))) Z9 1
 (j9 r Qb++[(14,Qk.pure (.bool true) [])]) 0 [] []) []=some (.bool true,
 [QB []/\Q6 YP J0 74 (j8 r Qb) (.bool true)]++ba B r Qb):=by kernel_rfl
set_option maxRecDepth 100000 in
theorem we(B:Lo)(r:Qg)(Qb:List Int):X2 (Q2 YP (QE YP) J0 B 6 1 (Q3 YP 51 19 (([.agg (Q9 r).toArray,Zj Qb]).map (QD 0 4))) Z9 1
 (j9 r Qb++[(14,Qk.pure (.bool false) [])]) 0 [] []) []=some (.bool false,
 [QB []/\Q6 YP J0 74 (j8 r Qb) (.bool false)]++ba B r Qb):=by kernel_rfl
set_option maxRecDepth 100000 in
theorem wc(B:Lo)(r:Qg)(Qb:List Int):X2 (Q2 YP (QE YP) J0 B 6 1 (Q3 YP 51 19 (([.agg (Q9 r).toArray,Zj Qb]).map (QD 0 4))) Z9 1
 [(6,Ud)] 0 [] []) []=some (.bool false,
 [T3 (↑Qb.length:Int) r.Qd=false]):=by kernel_rfl
set_option maxHeartbeats 4000000 in
theorem zl(r:Qg)(Qb:List Int)(hn:r.Qa.length<=61)(Z4:Qb.length<=9223372036854775807){B:Lo}(hJ:∀w,B.has w->J0 w):EndsT YP B (Q3 YP 51 19 (([.agg (Q9 r).toArray,Zj Qb]).map (QD 0 4))) (.bool (XN r Qb)):=by
 have e1:=Sl (n:=r.Qa.length) (by omega);by_cases q0:((↑Qb.length:Int):Int)=r.Qd
 ·have VF:QB (ba B r Qb):=by
   exact⟨(Xi (by omega) (by omega)),⟨(DN (by omega) (by omega)),⟨(R6 q0),trivial⟩⟩⟩
  cases q1:List.all Qb fun x=>Vv x 0 ((↑(Vd (↑r.Qa.length:Int)):Int)-1)with
  |true=>
   exact(GoE.endsT okF hJ Qh GoE.start (wg B r Qb)
    ⟨⟨trivial,(by have t_:=CG (Qb) (0) ((↑(Vd (↑r.Qa.length:Int)):Int)-1);rw[q1]at t_;exact t_)⟩,VF⟩).cast (by first|rfl|(simp[XN, *];done)|(simp_all[XN];done)|(simp_all[XN];omega))
  |false=>
   exact(GoE.endsT okF hJ Qh GoE.start (we B r Qb)
    ⟨⟨trivial,(by have t_:=CG (Qb) (0) ((↑(Vd (↑r.Qa.length:Int)):Int)-1);rw[q1]at t_;exact t_)⟩,VF⟩).cast (by first|rfl|(simp[XN, *];done)|(simp_all[XN];done)|(simp_all[XN];omega))
 ·exact(GoE.endsT okF hJ Qh GoE.start (wc B r Qb)
   ⟨(T0 q0),trivial⟩).cast (by first|rfl|(simp[XN, *];done)|(simp_all[XN];done)|(simp_all[XN];omega))
theorem xQ(r:Qg)(Qb:List Int)(hn:r.Qa.length<=61):Q6 YP J0 51 #[.agg (Q9 r).toArray,Zj Qb] (.bool (XN r Qb)):=
 Km (ts:=[.agg (Q9 r).toArray,Zj Qb]) (Qb.length<=9223372036854775807) (fun _ _ ht=>ht.ln (i:=1) rfl) ZF (c0:=Q3 YP 51 19 (([.agg (Q9 r).toArray,Zj Qb]).map (QD 0 4))) (by kernel_rfl) (by kernel_rfl) fun Z4 B hJ=>zl r Qb hn Z4 hJ
def cn(r:Qg):Value:=(QV r.Qa.length (Qf Qn r.Qa))
def cr(r:Qg)(Qb:List Int):Array Value:=#[Q4 0 (cn r),.int .i64 r.Qq,.int .i64 r.Qd,.int .i64 (Qb.getD 0 Le),.int .i64 (Qb.getD 1 Le),.int .i64 (Qb.getD 2 Le),.int .i64 (Qb.getD 3 Le)]
def cq(r:Qg):Array Value:=#[Q4 0 (cn r),.int .i64 r.Qq,.int .i64 r.Qd,.int .i64 0,.int .i64 0,.int .i64 0,.int .i64 0]
set_option maxRecDepth 100000 in
theorem oI(B:Lo)(r:Qg)(Qb:List Int):X2 (Q2 YP (QE YP) J0 B 10 1 (Q3 YP 52 13 (([.agg (Q9 r).toArray,Zj Qb]).map (QD 0 4))) Z9 1
 [(9,Qk.tcpy (cr r Qb))] 0 [] []) []=some (.agg #[QV r.Qa.length (Qf Qn r.Qa),.int .i64 r.Qq,.int .i64 r.Qd,.int .i64 (Qb.getD 0 Le),.int .i64 (Qb.getD 1 Le),.int .i64 (Qb.getD 2 Le),.int .i64 (Qb.getD 3 Le)],
 [0<Li Qb/\3+LU Qb.length 4*TypeInfo.size Try.t3<=L4 (cq r)/\LU Qb.length 4*TypeInfo.size Try.t3<=L4 (Qf Qp Qb)/\(Array.all (Qf Qp Qb) fun v=>simple v || Vg v)=true/\ones (Array.map (Wm 0) (Lz (Qf Qp Qb) 0 (LU Qb.length 4*TypeInfo.size Try.t3)))=true/\splice (cq r) 3 (Array.map (Wm 0) (Lz (Qf Qp Qb) 0 (LU Qb.length 4*TypeInfo.size Try.t3)))=(cr r Qb)]):=by kernel_rfl
set_option maxHeartbeats 4000000 in
theorem so(r:Qg)(Qb:List Int)(h0:0<Qb.length)(hl:Qb.length<=4){B:Lo}(hJ:∀w,B.has w->J0 w):EndsT YP B (Q3 YP 52 13 (([.agg (Q9 r).toArray,Zj Qb]).map (QD 0 4))) (.agg (X8 r Qb).toArray):=by
 exact(GoE.endsT okF hJ Qh GoE.start (oI B r Qb)
  ⟨(uO (fun _=>rfl) rfl (by omega) (by omega) rfl (YL rfl) rfl),trivial⟩).cast (by first|rfl|(simp[*];done)|(simp_all[];done)|(simp_all[];omega))
theorem yU(r:Qg)(Qb:List Int)(h0:0<Qb.length)(hl:Qb.length<=4):Q6 YP J0 52 #[.agg (Q9 r).toArray,Zj Qb] (.agg (X8 r Qb).toArray):=
 XD (ts:=[.agg (Q9 r).toArray,Zj Qb]) ZF (c0:=Q3 YP 52 13 (([.agg (Q9 r).toArray,Zj Qb]).map (QD 0 4))) (by kernel_rfl) (by kernel_rfl) fun B hJ=>so r Qb h0 hl hJ
set_option maxRecDepth 100000 in
theorem zV(B:Lo)(r:Qg):X2 (Q2 YP (QE YP) J0 B 6 1 (Q3 YP 15 7 (([.agg (Q9 r).toArray]).map (QD 0 4))) Z9 1
 [(5,Vh)] 0 [] []) []=some (.bool true,
 [(!Zs 8 (↑r.Qa.length:Int))=true]):=by kernel_rfl
set_option maxRecDepth 100000 in
theorem zU(B:Lo)(r:Qg):X2 (Q2 YP (QE YP) J0 B 6 1 (Q3 YP 15 7 (([.agg (Q9 r).toArray]).map (QD 0 4))) Z9 1
 [(5,Ud)] 0 [] []) []=some (.bool false,
 [(!Zs 8 (↑r.Qa.length:Int))=false]):=by kernel_rfl
set_option maxHeartbeats 4000000 in
theorem CW(r:Qg)  (Z4:r.Qa.length<=9223372036854775807){B:Lo}(hJ:∀w,B.has w->J0 w):EndsT YP B (Q3 YP 15 7 (([.agg (Q9 r).toArray]).map (QD 0 4))) (.bool (decide (r.Qa.length<=8))):=by
 by_cases q0:((↑r.Qa.length:Int):Int)<=(8)
 ·exact(GoE.endsT okF hJ Qh GoE.start (zV B r)
   ⟨(U9 q0),trivial⟩).cast (by first|rfl|(simp[*];done)|(simp_all[];done)|(simp_all[];omega))
 ·exact(GoE.endsT okF hJ Qh GoE.start (zU B r)
   ⟨(UA (Int.not_le.1 q0)),trivial⟩).cast (by first|rfl|(simp[*];done)|(simp_all[];done)|(simp_all[];omega))
theorem CX(r:Qg)  :Q6 YP J0 15 #[.agg (Q9 r).toArray] (.bool (decide (r.Qa.length<=8))):=
 Km (ts:=[.agg (Q9 r).toArray]) (r.Qa.length<=9223372036854775807) (fun _ _ ht=>ht.ln2 (i:=0) (j:=0) rfl rfl) ZF (c0:=Q3 YP 15 7 (([.agg (Q9 r).toArray]).map (QD 0 4))) (by kernel_rfl) (by kernel_rfl) fun Z4 B hJ=>CW r  Z4 hJ
def au(r:Qg):Array Value:=#[QV r.Qa.length (Qf Qn r.Qa),.int .i64 r.Qq,.int .i64 r.Qd]
def eu(B:Lo)(r:Qg)(Qb:List Int):List Prop:=[QB []/\Q6 YP J0 20 #[.agg (au r)] (.bool true)]++([]:List Prop)
def nZ(r:Qg)(Qb:List Int):QO:=[(3,Qk.pure (.bool true) [])]
set_option maxRecDepth 100000 in
theorem Aa(B:Lo)(r:Qg)(Qb:List Int):X2 (Q2 YP (QE YP) J0 B 6 1 (Q3 YP 21 12 (([.agg (Q9 r).toArray,Zj Qb]).map (QD 0 4))) Z9 1
 (nZ r Qb++[(7,Qk.pure (.bool true) [])]) 0 [] []) []=some (.bool true,
 [QB []/\Q6 YP J0 41 #[.agg (au r),QV Qb.length (Qf Qp Qb)] (.bool true)]++eu B r Qb):=by kernel_rfl
set_option maxRecDepth 100000 in
theorem zZ(B:Lo)(r:Qg)(Qb:List Int):X2 (Q2 YP (QE YP) J0 B 6 1 (Q3 YP 21 12 (([.agg (Q9 r).toArray,Zj Qb]).map (QD 0 4))) Z9 1
 (nZ r Qb++[(7,Qk.pure (.bool false) [])]) 0 [] []) []=some (.bool false,
 [QB []/\Q6 YP J0 41 #[.agg (au r),QV Qb.length (Qf Qp Qb)] (.bool false)]++eu B r Qb):=by kernel_rfl
set_option maxRecDepth 100000 in
theorem zY(B:Lo)(r:Qg)(Qb:List Int):X2 (Q2 YP (QE YP) J0 B 6 1 (Q3 YP 21 12 (([.agg (Q9 r).toArray,Zj Qb]).map (QD 0 4))) Z9 1
 [(3,Qk.pure (.bool false) [])] 0 [] []) []=some (.bool false,
 [QB []/\Q6 YP J0 20 #[.agg (au r)] (.bool false)]):=by kernel_rfl
set_option maxHeartbeats 4000000 in
theorem Dj(r:Qg)(Qb:List Int)  {B:Lo}(hJ:∀w,B.has w->J0 w):EndsT YP B (Q3 YP 21 12 (([.agg (Q9 r).toArray,Zj Qb]).map (QD 0 4))) (.bool (Zu r && XN r Qb)):=by
 cases q0:Zu r with
 |true=>
  have VF:QB (eu B r Qb):=by
   try have Wx:=(QG (W9 ‹Zu r=true›).1).1
   exact⟨⟨trivial,(by have t_:=Gm (r);rw[q0]at t_;exact t_)⟩,trivial⟩
  cases q1:XN r Qb with
  |true=>
   try have Wx:=(QG (W9 ‹Zu r=true›).1).1
   exact(GoE.endsT okF hJ Qh GoE.start (Aa B r Qb)
    ⟨⟨trivial,(by have t_:=Gn (r) (Qb) (by first|with_reducible assumption|omega|simp_all);rw[q1]at t_;exact t_)⟩,VF⟩).cast (by first|rfl|(simp[*];done)|(simp_all[];done)|(simp_all[];omega))
  |false=>
   try have Wx:=(QG (W9 ‹Zu r=true›).1).1
   exact(GoE.endsT okF hJ Qh GoE.start (zZ B r Qb)
    ⟨⟨trivial,(by have t_:=Gn (r) (Qb) (by first|with_reducible assumption|omega|simp_all);rw[q1]at t_;exact t_)⟩,VF⟩).cast (by first|rfl|(simp[*];done)|(simp_all[];done)|(simp_all[];omega))
 |false=>
  try have Wx:=(QG (W9 ‹Zu r=true›).1).1
  exact(GoE.endsT okF hJ Qh GoE.start (zY B r Qb)
   ⟨⟨trivial,(by have t_:=Gm (r);rw[q0]at t_;exact t_)⟩,trivial⟩).cast (by first|rfl|(simp[*];done)|(simp_all[];done)|(simp_all[];omega))
theorem qa(r:Qg)(Qb:List Int)  :Q6 YP J0 21 #[.agg (Q9 r).toArray,Zj Qb] (.bool (Zu r && XN r Qb)):=
 XD (ts:=[.agg (Q9 r).toArray,Zj Qb]) ZF (c0:=Q3 YP 21 12 (([.agg (Q9 r).toArray,Zj Qb]).map (QD 0 4))) (by kernel_rfl) (by kernel_rfl) fun B hJ=>Dj r Qb  hJ
end
end Go.Proofs.Ytncjjangllkokaa

namespace Go.Proofs.Ytncjjangllkokaa
open Go Go.CE Go.RowKit
noncomputable section
set_option maxRecDepth 100000
def Ub(Qq n:Int):Int:=n+(n*Qq).tdiv 1000
def XK(room f g:Int):Int:=if room<=f then 0 else if(f*g).tdiv 1000<room-f then(f*g).tdiv 1000 else room-f
theorem K9{a r:Int}(ha:0<=a/\a<=1000000000000)(hr:0<=r/\r<=2000):0<=a*r/\a*r<=2000000000000000/\0<=(a*r).tdiv 1000/\(a*r).tdiv 1000<=2000000000000:=by
 have e0:0<=a*r:=Int.mul_nonneg ha.1 hr.1;have e1:a*r<=1000000000000*2000:=Int.mul_le_mul ha.2 hr.2 hr.1 (by omega);have e2:(a*r).tdiv 1000=(a*r) / 1000:=Ma e0;omega
theorem B8(B:Lo)(r:Qg)(n:Int):X2 (Q2 YP (QE YP) J0 B 6 1 (Q3 YP 60 12 (([.agg (Q9 r).toArray,.int .i64 n]).map (QD 0 4))) Z9 1
 [(6,WL (n*r.Qq)),(7,WL (Lh (n*r.Qq) 1000)),(8,WL (n+Lh (n*r.Qq) 1000))] 0 [] []) []=some (.int .i64 (n+Lh (n*r.Qq) 1000),
 [wq (n+Lh (n*r.Qq) 1000)=n+Lh (n*r.Qq) 1000,IntKind.wrap .i64 (Lh (n*r.Qq) 1000)=Lh (n*r.Qq) 1000,wq (n*r.Qq)=n*r.Qq]):=by kernel_rfl
set_option maxHeartbeats 4000000 in
theorem EF(r:Qg)(n:Int)(hm:0<=r.Qq/\r.Qq<=2000)(hn:0<=n/\n<=1000000000000){B:Lo}(hJ:∀w,B.has w->J0 w):EndsT YP B (Q3 YP 60 12 (([.agg (Q9 r).toArray,.int .i64 n]).map (QD 0 4))) (.int .i64 (Ub r.Qq n)):=by
 have e0:=K9 hn hm;exact(GoE.endsT okF hJ Qh GoE.start (B8 B r n)
  ⟨(Xi (by omega) (by omega)),⟨(JU (by omega) (by omega)),⟨(Xi (by omega) (by omega)),trivial⟩⟩⟩).cast (by rfl)
theorem Gp(r:Qg)(n:Int)(hm:0<=r.Qq/\r.Qq<=2000)(hn:0<=n/\n<=1000000000000):Q6 YP J0 60 #[.agg (Q9 r).toArray,.int .i64 n] (.int .i64 (Ub r.Qq n)):=
 XD (ts:=[.agg (Q9 r).toArray,.int .i64 n]) ZF (c0:=Q3 YP 60 12 (([.agg (Q9 r).toArray,.int .i64 n]).map (QD 0 4))) (by kernel_rfl) (by kernel_rfl) fun B hJ=>EF r n hm hn hJ
theorem y6(B:Lo)(x:Qc)  :X2 (Q2 YP (QE YP) J0 B 10 1 (Q3 YP 61 10 (([.agg (Qn x).toArray,.bool true]).map (QD 0 4))) Z9 1
 [] 0 [] []) []=some (.agg #[.int .i64 x.ZU,.int .i64 x.ZV],
 []):=by kernel_rfl
theorem y5(B:Lo)(x:Qc)  :X2 (Q2 YP (QE YP) J0 B 11 1 (Q3 YP 61 10 (([.agg (Qn x).toArray,.bool false]).map (QD 0 4))) Z9 1
 [] 0 [] []) []=some (.agg #[.int .i64 x.Wj,.int .i64 x.Wl],
 []):=by kernel_rfl
set_option maxHeartbeats 4000000 in
theorem AM(x:Qc)(b:Bool)  {B:Lo}(hJ:∀w,B.has w->J0 w):EndsT YP B (Q3 YP 61 10 (([.agg (Qn x).toArray,.bool b]).map (QD 0 4))) (.agg #[.int .i64 (if b then x.ZU else x.Wj),.int .i64 (if b then x.ZV else x.Wl)]):=by
 cases b with
 |true=>
  exact(GoE.endsT okF hJ Qh GoE.start (y6 B x)
   trivial).cast (by rfl)
 |false=>
  exact(GoE.endsT okF hJ Qh GoE.start (y5 B x)
   trivial).cast (by rfl)
theorem WE(x:Qc)(b:Bool)  :Q6 YP J0 61 #[.agg (Qn x).toArray,.bool b] (.agg #[.int .i64 (if b then x.ZU else x.Wj),.int .i64 (if b then x.ZV else x.Wl)]):=
 XD (ts:=[.agg (Qn x).toArray,.bool b]) ZF (c0:=Q3 YP 61 10 (([.agg (Qn x).toArray,.bool b]).map (QD 0 4))) (by kernel_rfl) (by kernel_rfl) fun B hJ=>AM x b  hJ
theorem yN(B:Lo)(x:Qc)(f g:Int):X2 (Q2 YP (QE YP) J0 B 10 1 (Q3 YP 62 20 (([.agg (Qn x).toArray,.int .i64 f,.int .i64 g]).map (QD 0 4))) Z9 1
 [(5,Vh)] 0 [] []) []=some (.int .i64 0,
 [(!Zs f x.room)=true]):=by kernel_rfl
theorem yM(B:Lo)(x:Qc)(f g:Int):X2 (Q2 YP (QE YP) J0 B 11 1 (Q3 YP 62 20 (([.agg (Qn x).toArray,.int .i64 f,.int .i64 g]).map (QD 0 4))) Z9 1
 [(5,Ud),(9,WL (x.room-f)),(12,WL (f*g)),(13,WL (Lh (f*g) 1000))] 0 [] []) []=some (.int .i64 (if Lh (f*g) 1000<x.room-f then Lh (f*g) 1000 else x.room-f),
 [IntKind.wrap .i64 (Lh (f*g) 1000)=Lh (f*g) 1000,wq (f*g)=f*g,wq (x.room-f)=x.room-f,(!Zs f x.room)=false]):=by kernel_rfl
set_option maxHeartbeats 4000000 in
theorem B9(x:Qc)(f g:Int)(hf:0<=f/\f<=1000000000000)(hg:0<=g/\g<=2000)(hx:0<=x.room/\x.room<=1000000){B:Lo}(hJ:∀w,B.has w->J0 w):EndsT YP B (Q3 YP 62 20 (([.agg (Qn x).toArray,.int .i64 f,.int .i64 g]).map (QD 0 4))) (.int .i64 (XK x.room f g)):=by
 have e0:=K9 hf hg;by_cases q0:(x.room:Int)<=(f)
 ·exact(GoE.endsT okF hJ Qh GoE.start (yN B x f g)
   ⟨(U9 q0),trivial⟩).cast (by(simp only[XK];rw[if_pos q0];done))
 ·exact(GoE.endsT okF hJ Qh GoE.start (yM B x f g)
   ⟨(JU (by omega) (by omega)),⟨(Xi (by omega) (by omega)),⟨(Xi (by omega) (by omega)),⟨(UA (Int.not_le.1 q0)),trivial⟩⟩⟩⟩).cast (by(simp only[XK];rw[if_neg q0];done))
theorem BA(x:Qc)(f g:Int)(hf:0<=f/\f<=1000000000000)(hg:0<=g/\g<=2000)(hx:0<=x.room/\x.room<=1000000):Q6 YP J0 62 #[.agg (Qn x).toArray,.int .i64 f,.int .i64 g] (.int .i64 (XK x.room f g)):=
 XD (ts:=[.agg (Qn x).toArray,.int .i64 f,.int .i64 g]) ZF (c0:=Q3 YP 62 20 (([.agg (Qn x).toArray,.int .i64 f,.int .i64 g]).map (QD 0 4))) (by kernel_rfl) (by kernel_rfl) fun B hJ=>B9 x f g hf hg hx hJ
def ZM(x:Qc):Span:=⟨x.WZ,x.Va⟩
def Vr(x:Qc):Span:=⟨x.Wj,x.Wl⟩
def XY(Qq:Int)(x:Qc):Span:=⟨x.count,Ub Qq x.count⟩
def aj(x_:Qc):Array Value:=#[.int .i64 x_.count,.int .i64 x_.room,.int .i64 x_.WZ,.int .i64 x_.Va,.int .i64 x_.Qv,.int .i64 x_.QU,.int .i64 x_.Wj,.int .i64 x_.Wl,.int .i64 x_.ZU,.int .i64 x_.ZV,.int .i64 x_.goal,.int .i64 x_.Vf]
def U0(xs:List Qc)(i:Int):=(xs.getD i.toNat Le)
def ai(xs:List Qc)(i:Int):Value:=(.agg #[.int .i64 (Qc.WZ (U0 xs i)),.int .i64 (Qc.Va (U0 xs i))])
def ah(xs:List Qc)(i:Int)(ys:List Span):Array Value:=(Qf QM (Lj ys i.toNat {lo:=Qc.WZ (U0 xs i),hi:=Qc.Va (U0 xs i)}))
def nO(xs:List Qc):Array Value:=(Qf (Kk [.int .i64 0,.int .i64 0]) (Lm xs.length ()))
def Rl(xs:List Qc)(i:Int)(ys:List Span):List Value:=[Value.func (Fn.func 104) #[] #[],.slice (some {block:=2,off:=0}) xs.length 2,Q4 1 (QV xs.length (Qf Qn xs)),.int .i64 (↑xs.length:Int),.int .i64 i]
def Kq(xs:List Qc)(i:Int)(ys:List Span):List Obj:=[.cells (Qf QM ys) 38 (0,0)]
def Rm:List Item:=([.code [1,1,0,1,0,0],.inLoop [1,1,0,1,0,0],.inBlock 0,.code [1,1,1]]).map (it (Xa YP 102))
def zI(B:Lo)(c0:CF)(xs:List Qc)(i:Int)(ys:List Span):Prop:=∃dJ:Nat->Value,(∀t,XH (dJ t))/\GoE YP B c0 Z9 1 (QS 102 26 (([1,5,11,12,13]:List Nat).zip (Rl xs i ys)) dJ Rm) (QN (Kq xs i ys)) (2+(Kq xs i ys).length) []
def Rn(xs:List Qc)(i:Int)(ys:List Span)(Q0:Nat->Value):Qr:=[(3,Obj.cells (aj (xs.getD i.toNat Le)) 54),(0,Obj.coro none),(1,Obj.coro none),(2,Obj.cells (Qf QM ys) 38)]
def ak(xs:List Qc)(i:Int)(ys:List Span)(Q0:Nat->Value):CF:=⟨104,ofList 5 [.agg (aj (xs.getD i.toNat Le))],[Item.code (Xa YP 104)],[],.run,none⟩
theorem zG(B:Lo)(xs:List Qc)(i:Int)(ys:List Span)(Q0:Nat->Value):CE.finK 4 (Q2 YP (QE YP) J0 B 6 4 (ak xs i ys Q0) (Rn xs i ys Q0) 4
 [] 0 [] []) [] [] []=some (OO.ret (ai xs i),[],[],
 []):=by kernel_rfl
theorem zF(B:Lo)(xs:List Qc)(i:Int)(ys:List Span)(Q0:Nat->Value):landM (Q2 YP (QE YP) J0 B 13 1 (QS 102 26 (([1,5,11,12,13]:List Nat).zip (Rl xs i ys)) Q0 Rm) (QN (Kq xs i ys)) (2+(Kq xs i ys).length)
 [(0,Vh),(2,Qk.tidx i.toNat (aj (U0 xs i))),(11,Qk.call (Ln 4) (OO.ret (ai xs i)) ([]++(4,XG)::XF 5 []) 5 []),(12,Qk.Zl (Hint.idx i.toNat)),(13,Qk.Zl (Hint.st (ah xs i ys))),(14,WL (i+1))] 0 [] []) [1,5,11,12,13] [(2,KS.cells [] (ah xs i ys))] []=some ⟨102,26,Rm,[],.run,none,Rl xs (i+1) (Lj ys i.toNat {lo:=Qc.WZ (U0 xs i),hi:=Qc.Va (U0 xs i)}),Kq xs (i+1) (Lj ys i.toNat {lo:=Qc.WZ (U0 xs i),hi:=Qc.Va (U0 xs i)}),
 [QQ 1 [] (ah xs i ys) (ah xs i ys),wq (i+1)=i+1,0+Lf i*2+TypeInfo.size Try.t38<=L4 (Qf QM ys)/\splice (Qf QM ys) (0+Lf i*2) (Value.cells (XJ {len:=16000,tr:=Tri.set 14 (Tri.set 14 Tri.lf 22 (ai xs i)) 23 (.pointer (some {block:=2,off:=0+Lf i*2}))} 22))=Qf QM (Lj ys i.toNat {lo:=Qc.WZ (xs.getD i.toNat Le),hi:=Qc.Va (xs.getD i.toNat Le)}),i=(↑i.toNat:Int)/\Lf i<Li xs,FJ YP B (ak xs i ys Q0) (Rn xs i ys Q0) 4 (OO.ret (ai xs i)) (([]++((4,XG)::XF (4+1) []))++Rn xs i ys Q0) 5 (Ln 4) [],Vs i xs.length (Qf Qn xs) Try.t54.size (aj (xs.getD i.toNat Le)),Zs i (↑xs.length:Int)=true]⟩:=by kernel_rfl
theorem zE(B:Lo)(xs:List Qc)(i:Int)(ys:List Span)(Q0:Nat->Value):X2 (Q2 YP (QE YP) J0 B 9 1 (QS 102 26 (([1,5,11,12,13]:List Nat).zip (Rl xs i ys)) Q0 Rm) (QN (Kq xs i ys)) (2+(Kq xs i ys).length)
 [(0,Ud)] 0 [] []) [{k:=2,rs:=[],cs:=Qf QM ys}]=some (QV xs.length (Fz.cs {k:=2,rs:=[],cs:=Qf QM ys}),
 [Zk (Fz.rs {k:=2,rs:=[],cs:=Qf QM ys}) (Qf QM ys) (Fz.cs {k:=2,rs:=[],cs:=Qf QM ys}),Zs i (↑xs.length:Int)=false]):=by kernel_rfl
theorem zD(B:Lo)(xs:List Qc):landM (Q2 YP (QE YP) J0 B 9 1 (Q3 YP 102 26 (([Kl xs,.func (.func 104) #[] #[]]).map (QD 0 4))) Z9 1
 [(3,Qk.Zl (Hint.mk xs.length (nO xs)))] 0 [] []) [1,5,11,12,13] [(1,KS.rows [] [] [] (Qf QM (Lm xs.length {lo:=0,hi:=0})))] []=some ⟨102,26,Rm,[],.run,none,Rl xs (0) (Lm xs.length {lo:=0,hi:=0}),Kq xs (0) (Lm xs.length {lo:=0,hi:=0}),
 [X3 1 [] [] [] (nO xs) (Qf QM (Lm xs.length {lo:=0,hi:=0})),SG YP 36 (XJ {len:=16000,tr:=Tri.set 14 Tri.lf 9 (.int .i64 (↑xs.length:Int))} 9) (XJ {len:=16000,tr:=Tri.set 14 Tri.lf 9 (.int .i64 (↑xs.length:Int))} 9)=some (38,Qf (Kk [.int .i64 0,.int .i64 0]) (Lm xs.length ()),Li xs,TypeInfo.size Try.t38)]⟩:=by kernel_rfl
set_option maxHeartbeats 4000000 in
theorem zH(xs:List Qc)(hn:xs.length<=1000000){B:Lo}(hJ:∀w,B.has w->J0 w){c0:CF}:∀m:Nat,(∀(i:Int) (ys:List Span),(xs.length-i.toNat)=m->∀(h0:0<=i) (hy:ys=Ps ZM ⟨0,0⟩ xs i),zI B c0 xs i ys->EndsT YP B c0 (Pz (xs.map ZM))):=by
 intro m0;induction m0 using LQ with
 |_ m0 ih0=>
  intro i ys S1 h0 hy ⟨Q0,VE,Za⟩;have hyl:ys.length=xs.length:=by rw[hy];exact RB
  by_cases q0:(i:Int)<((↑xs.length:Int))
  ·have rj0:FJ YP B (ak xs i ys Q0) (Rn xs i ys Q0) 4 (OO.ret (.agg #[.int .i64 (Qc.WZ (xs.getD i.toNat Le)),.int .i64 (Qc.Va (xs.getD i.toNat Le))])) (([]++((4,XG)::XF (4+1) []))++Rn xs i ys Q0) 5 (Ln 4) []:=by
    exact FinK.fjB (GoE.finK okF hJ Qh (QF (by kernel_rfl)) (Q5 (by kernel_rfl)) ((GoE.refl (P:=YP) (B:=B) (c0:=ak xs i ys Q0) (QF (by kernel_rfl))).widen (Wf:=((([]):List (Nat×KS)).map (·.1))) (by simp) (Q5 (by kernel_rfl))) (zG B xs i ys Q0)
     trivial) (ex:=[2]) (by kernel_rfl) ⟨trivial,⟨trivial,⟨trivial,⟨(JB (t:=38) (fl:=(0,0)) (fun x=>List.all_eq_true.1 (by rfl))),trivial⟩⟩⟩⟩
   exact((ih0 _ (by omega)) (i+1) (Lj ys i.toNat {lo:=Qc.WZ (xs.getD i.toNat Le),hi:=Qc.Va (xs.getD i.toNat Le)}) rfl (by omega) (by(subst hy;exact RA (f:=ZM) h0 q0))
    (Za.landM okF hJ Qh (zF B xs i ys Q0)
    (by exact⟨(Qs (Q1 (fun x=>List.all_eq_true.1 (by rfl)))),⟨(Xi (by omega) (by omega)),⟨(by exact WV (z:=2) (k:=Lf i) (fun _=>rfl) (by first|omega|(rw[LS];omega)|(rw[LR];omega)) rfl rfl),⟨⟨by omega,by omega⟩,⟨rj0,⟨⟨by omega,by omega,(Qy (z:=12) (fun _=>rfl) (by omega))⟩,⟨(XT q0),trivial⟩⟩⟩⟩⟩⟩⟩) (by kernel_rfl) (by kernel_rfl))).cast (by rfl)
  ·exact(GoE.endsT okF hJ Qh Za (zE B xs i ys Q0)
    ⟨(XP (fun x=>List.all_eq_true.1 (by rfl))),⟨(Zw (Int.not_lt.1 q0)),trivial⟩⟩).cast (by exact bD (hy.trans (RC (by omega))) (by simp))
set_option maxHeartbeats 4000000 in
theorem CC(xs:List Qc)(hn:xs.length<=1000000){B:Lo}(hJ:∀w,B.has w->J0 w):EndsT YP B (Q3 YP 102 26 (([Kl xs,.func (.func 104) #[] #[]]).map (QD 0 4))) (Pz (xs.map ZM)):=by
 exact((zH xs hn hJ _) (0) (Lm xs.length {lo:=0,hi:=0}) rfl (by omega) (by exact dt)
  (GoE.start.landM okF hJ Qh (zD B xs)
  (by exact⟨(by exact(Ku (by exact⟨(.simple rfl),⟨(.simple rfl),trivial⟩⟩) _)),⟨(mz (bytes:=16) (by kernel_rfl) (by omega) (by omega) (by omega)),trivial⟩⟩) (by kernel_rfl) (by kernel_rfl))).cast (by rfl)
theorem Hn(xs:List Qc)(hn:xs.length<=1000000):Q6 YP J0 102 #[Kl xs,.func (.func 104) #[] #[]] (Pz (xs.map ZM)):=
 XD (ts:=[Kl xs,.func (.func 104) #[] #[]]) ZF (c0:=Q3 YP 102 26 (([Kl xs,.func (.func 104) #[] #[]]).map (QD 0 4))) (by kernel_rfl) (by kernel_rfl) fun B hJ=>CC xs hn hJ
def TQ(rf:Qg):=(List.map ZM rf.Qa)
def nD(rf:Qg):Value:=(QV (Li (TQ rf)) (Qf QM (TQ rf)))
theorem zm(B:Lo)(rf:Qg)(Qb:List Int):X2 (Q2 YP (QE YP) J0 B 6 1 (Q3 YP 83 7 (([.agg (X8 rf Qb).toArray]).map (QD 0 4))) Z9 1
 [(5,Qk.pure (nD rf) [])] 0 [] []) []=some (QV (Li (TQ rf)) (Qf QM (TQ rf)),
 [QB []/\Q6 YP J0 102 #[QV rf.Qa.length (Qf Qn rf.Qa),Value.func (Fn.func 104) #[] #[]] (nD rf)]):=by kernel_rfl
set_option maxHeartbeats 4000000 in
theorem Cx(rf:Qg)(Qb:List Int)(hn:rf.Qa.length<=1000000){B:Lo}(hJ:∀w,B.has w->J0 w):EndsT YP B (Q3 YP 83 7 (([.agg (X8 rf Qb).toArray]).map (QD 0 4))) (Pz (rf.Qa.map ZM)):=by
 exact(GoE.endsT okF hJ Qh GoE.start (zm B rf Qb)
  ⟨⟨trivial,Hn rf.Qa (by with_reducible assumption)⟩,trivial⟩).cast (by rfl)
theorem He(rf:Qg)(Qb:List Int)(hn:rf.Qa.length<=1000000):Q6 YP J0 83 #[.agg (X8 rf Qb).toArray] (Pz (rf.Qa.map ZM)):=
 XD (ts:=[.agg (X8 rf Qb).toArray]) ZF (c0:=Q3 YP 83 7 (([.agg (X8 rf Qb).toArray]).map (QD 0 4))) (by kernel_rfl) (by kernel_rfl) fun B hJ=>Cx rf Qb hn hJ
def Sj(x_:Qc):Array Value:=#[.int .i64 x_.count,.int .i64 x_.room,.int .i64 x_.WZ,.int .i64 x_.Va,.int .i64 x_.Qv,.int .i64 x_.QU,.int .i64 x_.Wj,.int .i64 x_.Wl,.int .i64 x_.ZU,.int .i64 x_.ZV,.int .i64 x_.goal,.int .i64 x_.Vf]
def Kf(rf:Qg)(i:Int):=(rf.Qa.getD i.toNat Le)
def Wi(rf:Qg)(i:Int):=(Kf rf i)
def jl(rf:Qg)(i:Int):Value:=(.agg #[.int .i64 (Qc.count (Kf rf i)),.int .i64 (Qc.count (Kf rf i)+Lh (Qc.count (Kf rf i)*rf.Qq) 1000)])
def KK(rf:Qg)(i:Int):=(Qc.count (Wi rf i)*rf.Qq)
def jk(rf:Qg)(i:Int)(ys:List Span):Array Value:=(Qf QM (Lj ys i.toNat {lo:=Qc.count (Kf rf i),hi:=Qc.count (Kf rf i)+Lh (Qc.count (Kf rf i)*rf.Qq) 1000}))
def Si(rf:Qg):=(List.map (XY rf.Qq) rf.Qa)
def jj(rf:Qg):Value:=(Q4 2 (QV (Li (Si rf)) (Qf QM (Si rf))))
def ji(rf:Qg)(i:Int):Value:=(.agg #[.int .i64 (Qc.count (Wi rf i)),.int .i64 (Qc.count (Wi rf i)+Lh (KK rf i) 1000)])
def jh(rf:Qg):Array Value:=(Qf (Kk [.int .i64 0,.int .i64 0]) (Lm rf.Qa.length ()))
def jg(rf:Qg)(i:Int)(ys:List Span):Array Value:=(Qf QM (Lj ys i.toNat {lo:=Qc.count (Wi rf i),hi:=Qc.count (Wi rf i)+Lh (KK rf i) 1000}))
def eX(rf:Qg):Array Value:=(Qf QM (Lm rf.Qa.length {lo:=0,hi:=0}))
def Vc(rf:Qg)(Qb:List Int):Qr:=[(1,Obj.cells #[Q4 0 (QV rf.Qa.length (Qf Qn rf.Qa)),.int .i64 rf.Qq,.int .i64 rf.Qd,.int .i64 (Qb.getD 0 0),.int .i64 (Qb.getD 1 0),.int .i64 (Qb.getD 2 0),.int .i64 (Qb.getD 3 0)] 84),(0,Obj.coro none)]
def KL(rf:Qg)(Qb:List Int):CF:=⟨102,ofList 26 [Q4 0 (QV rf.Qa.length (Qf Qn rf.Qa)),Value.func (Fn.func 103) #[] #[pA 1 0]],[Item.code (Xa YP 102)],[],.run,none⟩
def UL(rf:Qg)(Qb:List Int)(i:Int)(ys:List Span):List Value:=[Value.func (Fn.func 103) #[] #[pA 1 0],.slice (some {block:=3,off:=0}) rf.Qa.length 2,Q4 0 (QV rf.Qa.length (Qf Qn rf.Qa)),.int .i64 (↑rf.Qa.length:Int),.int .i64 i]
def UK(rf:Qg)(Qb:List Int)(i:Int)(ys:List Span):List Obj:=[]
def WH(rf:Qg)(Qb:List Int)(i:Int)(ys:List Span):List Obj:=[.cells (Qf QM ys) 38 (0,0)]
def UM:List Item:=([.code [1,1,0,1,0,0],.inLoop [1,1,0,1,0,0],.inBlock 0,.code [1,1,1]]).map (it (Xa YP 102))
def J2(rf:Qg)(Qb:List Int)(i:Int)(ys:List Span)(Q0:Nat->Value):Qr:=[(4,Obj.cells (Sj (rf.Qa.getD i.toNat Le)) 54),(2,Obj.coro none),(3,Obj.cells (Qf QM ys) 38),(1,Obj.cells #[Q4 0 (QV rf.Qa.length (Qf Qn rf.Qa)),.int .i64 rf.Qq,.int .i64 rf.Qd,.int .i64 (Qb.getD 0 0),.int .i64 (Qb.getD 1 0),.int .i64 (Qb.getD 2 0),.int .i64 (Qb.getD 3 0)] 84),(0,Obj.coro none)]
def Sk(rf:Qg)(Qb:List Int)(i:Int)(ys:List Span)(Q0:Nat->Value):CF:=⟨103,ofList 13 [.agg (Sj (rf.Qa.getD i.toNat Le)),pA 1 0],[Item.code (Xa YP 103)],[],.run,none⟩
theorem vN(B:Lo)(rf:Qg)(Qb:List Int)(i:Int)(ys:List Span)(Q0:Nat->Value):CE.finK 5 (Q2 YP (QE YP) J0 B 6 5 (Sk rf Qb i ys Q0) (J2 rf Qb i ys Q0) 5
 [(9,Qk.pure (.int .i64 (Qc.count (Wi rf i)+Lh (KK rf i) 1000)) [])] 0 [] []) [] [] []=some (OO.ret (ji rf i),[],[],
 [QB []/\Q6 YP J0 100 #[.int .i64 (Qc.count (rf.Qa.getD i.toNat Le)),.int .i64 rf.Qq] (.int .i64 (Qc.count (rf.Qa.getD i.toNat Le)+Lh (Qc.count (rf.Qa.getD i.toNat Le)*rf.Qq) 1000))]):=by kernel_rfl
theorem vM(B:Lo)(rf:Qg)(Qb:List Int)(i:Int)(ys:List Span)(Q0:Nat->Value):CE.landA 2 (Q2 YP (QE YP) J0 B 13 2 (VO (none) 102 26 (([1,5,11,12,13]:List Nat).zip (UL rf Qb i ys)) Q0 UM) (Wo (Vc rf Qb) 2 (([]:List Nat).zip (UK rf Qb i ys)) (WH rf Qb i ys)) (2+1+(WH rf Qb i ys).length)
 [(0,Vh),(2,Qk.tidx i.toNat (Sj (Wi rf i))),(11,Qk.call (Ln 5) (OO.ret (ji rf i)) ([]++(5,XG)::XF 6 []) 6 []),(12,Qk.Zl (Hint.idx i.toNat)),(13,Qk.Zl (Hint.st (jg rf i ys))),(14,WL (i+1))] 0 [] []) [1,5,11,12,13] [] [(3,KS.cells [] (jg rf i ys))] []=some ⟨102,26,UM,[],.run,none,UL rf Qb (i+1) (Lj ys i.toNat {lo:=Qc.count (Wi rf i),hi:=Qc.count (Wi rf i)+Lh (KK rf i) 1000}),([]:List Nat).zip (UK rf Qb (i+1) (Lj ys i.toNat {lo:=Qc.count (Wi rf i),hi:=Qc.count (Wi rf i)+Lh (KK rf i) 1000})),WH rf Qb (i+1) (Lj ys i.toNat {lo:=Qc.count (Wi rf i),hi:=Qc.count (Wi rf i)+Lh (KK rf i) 1000}),
 [QQ 2 [] (jk rf i ys) (jk rf i ys),wq (i+1)=i+1,0+Lf i*2+TypeInfo.size Try.t38<=L4 (Qf QM ys)/\splice (Qf QM ys) (0+Lf i*2) (Value.cells (XJ {len:=16000,tr:=Tri.set 14 (Tri.set 14 Tri.lf 22 (jl rf i)) 23 (.pointer (some {block:=3,off:=0+Lf i*2}))} 22))=Qf QM (Lj ys i.toNat {lo:=Qc.count (rf.Qa.getD i.toNat Le),hi:=Qc.count (rf.Qa.getD i.toNat Le)+Lh (Qc.count (rf.Qa.getD i.toNat Le)*rf.Qq) 1000}),i=(↑i.toNat:Int)/\Lf i<Li rf.Qa,FJ YP B (Sk rf Qb i ys Q0) (J2 rf Qb i ys Q0) 5 (OO.ret (jl rf i)) (([]++((5,XG)::XF (5+1) []))++J2 rf Qb i ys Q0) 6 (Ln 5) [],Vs i rf.Qa.length (Qf Qn rf.Qa) Try.t54.size (Sj (rf.Qa.getD i.toNat Le)),Zs i (↑rf.Qa.length:Int)=true]⟩:=by kernel_rfl
theorem vL(B:Lo)(rf:Qg)(Qb:List Int)(i:Int)(ys:List Span)(Q0:Nat->Value):CE.finK 2 (Q2 YP (QE YP) J0 B 9 2 (VO (none) 102 26 (([1,5,11,12,13]:List Nat).zip (UL rf Qb i ys)) Q0 UM) (Wo (Vc rf Qb) 2 (([]:List Nat).zip (UK rf Qb i ys)) (WH rf Qb i ys)) (2+1+(WH rf Qb i ys).length)
 [(0,Ud)] 0 [] []) [] [] [{k:=3,rs:=[],cs:=Qf QM ys}]=some (OO.ret (Q4 2 (QV rf.Qa.length (Fz.cs {k:=3,rs:=[],cs:=Qf QM ys}))),[],[],
 [Zk (Fz.rs {k:=3,rs:=[],cs:=Qf QM ys}) (Qf QM ys) (Fz.cs {k:=3,rs:=[],cs:=Qf QM ys}),Zs i (↑rf.Qa.length:Int)=false]):=by kernel_rfl
set_option maxHeartbeats 4000000 in
theorem mH(rf:Qg)(Qb:List Int)(hn:rf.Qa.length<=1000000)(hm:0<=rf.Qq/\rf.Qq<=2000)(hc:∀k:Int,0<=k->k<rf.Qa.length->0<=(rf.Qa.getD k.toNat Le).count/\(rf.Qa.getD k.toNat Le).count<=1000000){B:Lo}(hJ:∀w,B.has w->J0 w):∀m:Nat,(∀(i:Int) (ys:List Span),(rf.Qa.length-i.toNat)=m->∀(h0:0<=i) (hy:ys=Ps (XY rf.Qq) ⟨0,0⟩ rf.Qa i),(∃Q0:Nat->Value,(∀t,XH (Q0 t))/\GoE YP B (KL rf Qb) (Vc rf Qb) 2 (VO (none) 102 26 (([1,5,11,12,13]:List Nat).zip (UL rf Qb i ys)) Q0 UM) (Wo (Vc rf Qb) 2 (([]:List Nat).zip (UK rf Qb i ys)) (WH rf Qb i ys)) (2+1+(WH rf Qb i ys).length) ([]:List Nat))->FinK YP B (KL rf Qb) (Vc rf Qb) 2 (.ret (Q4 2 (Pz (rf.Qa.map (XY rf.Qq))))) (([]:List Nat).zip ([])) ([]) ([]:List Nat)):=by
 intro m0;induction m0 using LQ with
 |_ m0 ih0=>
  intro i ys S1 h0 hy ⟨Q0,VE,Za⟩;have hyl:ys.length=rf.Qa.length:=by rw[hy];exact RB
  by_cases q0:(i:Int)<((↑rf.Qa.length:Int))
  ·have rj1:FJ YP B (Sk rf Qb i ys Q0) (J2 rf Qb i ys Q0) 5 (OO.ret (.agg #[.int .i64 (Qc.count (rf.Qa.getD i.toNat Le)),.int .i64 (Qc.count (rf.Qa.getD i.toNat Le)+Lh (Qc.count (rf.Qa.getD i.toNat Le)*rf.Qq) 1000)])) (([]++((5,XG)::XF (5+1) []))++J2 rf Qb i ys Q0) 6 (Ln 5) []:=by
    have hc1:=hc i h0 q0;exact FinK.fjB (GoE.finK okF hJ Qh (QF (by kernel_rfl)) (Q5 (by kernel_rfl)) ((GoE.refl (P:=YP) (B:=B) (c0:=Sk rf Qb i ys Q0) (QF (by kernel_rfl))).widen (Wf:=((([]):List (Nat×KS)).map (·.1))) (by simp) (Q5 (by kernel_rfl))) (vN B rf Qb i ys Q0)
     ⟨⟨trivial,vP (Qc.count (rf.Qa.getD i.toNat Le)) rf.Qq (by omega) (by omega)⟩,trivial⟩) (ex:=[3]) (by kernel_rfl) ⟨trivial,⟨trivial,⟨(JB (t:=38) (fl:=(0,0)) (fun x=>List.all_eq_true.1 (by rfl))),⟨trivial,⟨trivial,trivial⟩⟩⟩⟩⟩
   have hc1:=hc i h0 q0;exact((ih0 _ (by omega)) (i+1) (Lj ys i.toNat {lo:=Qc.count (rf.Qa.getD i.toNat Le),hi:=Qc.count (rf.Qa.getD i.toNat Le)+Lh (Qc.count (rf.Qa.getD i.toNat Le)*rf.Qq) 1000}) rfl (by omega) (by(subst hy;exact RA (f:=XY rf.Qq) h0 q0))
    (GoE.landA okF hJ Qh (QF (by kernel_rfl)) (Q5 (by kernel_rfl)) Za (vM B rf Qb i ys Q0)
    (by exact⟨(Qs (Q1 (fun x=>List.all_eq_true.1 (by rfl)))),⟨(Xi (by omega) (by omega)),⟨(by exact WV (z:=2) (k:=Lf i) (fun _=>rfl) (by first|omega|(rw[LS];omega)|(rw[LR];omega)) rfl rfl),⟨⟨by omega,by omega⟩,⟨rj1,⟨⟨by omega,by omega,(Qy (z:=12) (fun _=>rfl) (by omega))⟩,⟨(XT q0),trivial⟩⟩⟩⟩⟩⟩⟩) (by kernel_rfl) (by kernel_rfl) (fun l hl=>by cases hl <;> decide))).cast (by rfl) (by rfl) (by rfl)
  ·exact(GoE.finK okF hJ Qh (QF (by kernel_rfl)) (Q5 (by kernel_rfl)) Za (vL B rf Qb i ys Q0)
    ⟨(XP (fun x=>List.all_eq_true.1 (by rfl))),⟨(Zw (Int.not_lt.1 q0)),trivial⟩⟩).cast (by exact congrArg (fun v=>OO.ret (Q4 _ v)) (bD (hy.trans (RC (by omega))) (by simp))) (by rfl) (by rfl)

theorem vO(B:Lo)(rf:Qg)(Qb:List Int):CE.landA 2 (Q2 YP (QE YP) J0 B 9 2 (KL rf Qb) (Vc rf Qb) 2
 [(3,Qk.Zl (Hint.mk rf.Qa.length (jh rf)))] 0 [] []) [1,5,11,12,13] [] [(2,KS.rows [] [] [] (eX rf))] []=some ⟨102,26,UM,[],.run,none,UL rf Qb (0) (Lm rf.Qa.length {lo:=0,hi:=0}),([]:List Nat).zip (UK rf Qb (0) (Lm rf.Qa.length {lo:=0,hi:=0})),WH rf Qb (0) (Lm rf.Qa.length {lo:=0,hi:=0}),
 [X3 2 [] [] [] (jh rf) (eX rf),SG YP 36 (XJ {len:=16000,tr:=Tri.set 14 Tri.lf 9 (.int .i64 (↑rf.Qa.length:Int))} 9) (XJ {len:=16000,tr:=Tri.set 14 Tri.lf 9 (.int .i64 (↑rf.Qa.length:Int))} 9)=some (38,Qf (Kk [.int .i64 0,.int .i64 0]) (Lm rf.Qa.length ()),Li rf.Qa,TypeInfo.size Try.t38)]⟩:=by kernel_rfl
theorem vK(B:Lo)(rf:Qg)(Qb:List Int):X2 (Q2 YP (QE YP) J0 B 6 1 (Q3 YP 82 8 (([.agg (X8 rf Qb).toArray]).map (QD 0 4))) Z9 1
 [(6,Qk.call (Ln 2) (OO.ret (jj rf)) ([]++(2,XG)::XF 3 []) 3 [])] 0 [] []) []=some (QV (Li (Si rf)) (Qf QM (Si rf)),
 [FJ YP B (KL rf Qb) (Vc rf Qb) 2 (OO.ret (jj rf)) (([]++((2,XG)::XF (2+1) []))++Vc rf Qb) 3 (Ln 2) []]):=by kernel_rfl
set_option maxHeartbeats 4000000 in
theorem zg(rf:Qg)(Qb:List Int)(hn:rf.Qa.length<=1000000)(hm:0<=rf.Qq/\rf.Qq<=2000)(hc:∀k:Int,0<=k->k<rf.Qa.length->0<=(rf.Qa.getD k.toNat Le).count/\(rf.Qa.getD k.toNat Le).count<=1000000){B:Lo}(hJ:∀w,B.has w->J0 w):EndsT YP B (Q3 YP 82 8 (([.agg (X8 rf Qb).toArray]).map (QD 0 4))) (Pz (rf.Qa.map (XY rf.Qq))):=by
 have rj0:FJ YP B (KL rf Qb) (Vc rf Qb) 2 (OO.ret (Q4 2 (QV (Li (List.map (XY rf.Qq) rf.Qa)) (Qf QM (List.map (XY rf.Qq) rf.Qa))))) (([]++((2,XG)::XF (2+1) []))++Vc rf Qb) 3 (Ln 2) []:=by
  exact FinK.fjB ((mH rf Qb hn hm hc hJ _) (0) (Lm rf.Qa.length {lo:=0,hi:=0}) rfl (by omega) (by exact dt)
   (GoE.landA okF hJ Qh (QF (by kernel_rfl)) (Q5 (by kernel_rfl)) ((GoE.refl (P:=YP) (B:=B) (c0:=KL rf Qb) (QF (by kernel_rfl))).widen (Wf:=((([]):List (Nat×KS)).map (·.1))) (by simp) (Q5 (by kernel_rfl))) (vO B rf Qb)
   ⟨(by exact(Ku (by exact⟨(.simple rfl),⟨(.simple rfl),trivial⟩⟩) _)),⟨(mz (bytes:=16) (by kernel_rfl) (by omega) (by omega) (by omega)),trivial⟩⟩ (by kernel_rfl) (by kernel_rfl) (fun l hl=>by cases hl <;> decide))) (ex:=[]) (by kernel_rfl) (KA _)
 exact(GoE.endsT okF hJ Qh GoE.start (vK B rf Qb)
  ⟨rj0,trivial⟩).cast (by rfl)
theorem EU(rf:Qg)(Qb:List Int)(hn:rf.Qa.length<=1000000)(hm:0<=rf.Qq/\rf.Qq<=2000)(hc:∀k:Int,0<=k->k<rf.Qa.length->0<=(rf.Qa.getD k.toNat Le).count/\(rf.Qa.getD k.toNat Le).count<=1000000):Q6 YP J0 82 #[.agg (X8 rf Qb).toArray] (Pz (rf.Qa.map (XY rf.Qq))):=
 XD (ts:=[.agg (X8 rf Qb).toArray]) ZF (c0:=Q3 YP 82 8 (([.agg (X8 rf Qb).toArray]).map (QD 0 4))) (by kernel_rfl) (by kernel_rfl) fun B hJ=>zg rf Qb hn hm hc hJ
end
end Go.Proofs.Ytncjjangllkokaa

