/- Reef: what is as defined. -/
import Derived.Test.YtncjjangllkokaaZRT11
set_option linter.all false
namespace Go.Proofs.Ytncjjangllkokaa
open Go Go.CE Go.RowKit
noncomputable section
set_option maxRecDepth 100000
structure Qd where
 count:Int
 room:Int
 glo:Int
 ghi:Int
 drift:Int
 into:Int
 olo:Int
 ohi:Int
 slo:Int
 shi:Int
 goal:Int
 worth:Int
deriving Inhabited
structure Qe where
 Qb:List Qd
 miss:Int
 seasons:Int
deriving Inhabited
structure Ql where
 Qc:List Int
 Qi:List (List Int)
 Qj:List (List Int)
deriving Inhabited
def Qh(c:Qd):List Value:=[.int .i64 c.count,.int .i64 c.room,.int .i64 c.glo,.int .i64 c.ghi,.int .i64 c.drift,.int .i64 c.into,.int .i64 c.olo,.int .i64 c.ohi,.int .i64 c.slo,.int .i64 c.shi,.int .i64 c.goal,.int .i64 c.worth]
abbrev UN(xs:List Qd):Value:=QE xs.length (Qg Qh xs)
def Q0(r:Qe):List Value:=[UN r.Qb,.int .i64 r.miss,.int .i64 r.seasons]
def XR(x:Qd):Bool:=WQ x.count 0 1000000 && (WQ x.room 0 1000000 && (WQ x.goal 0 1000000 && (WQ x.worth 0 1000000 && (WK x.glo x.ghi 0 2000 && (WQ x.drift 0 1000 && (WK x.olo x.ohi 0 1000000 && (WK x.slo x.shi 0 1000000 && (decide (x.slo<=x.olo) && decide (x.shi<=x.ohi)))))))))
def Yx(n v:Int):Bool:=decide (v= -1) || WQ v 0 (n-1)
theorem L8{n v:Int}(h:0<=n):WQ v (-1) (n-1)=Yx n v:=by
 unfold Yx WQ;by_cases e:v= -1
 ·subst e;simp;omega
 ·simp[e];by_cases h1:0<=v
  ·simp[h1];omega
  ·have:¬(-1<=v):=by omega
   simp[this,h1]
def Z2(n i:Int)(x:Qd):Bool:=XR x && (Yx n x.into && !decide (x.into=i))
def JQ(ps:List Qd)(i:Int):Bool:=(Sv i ps.length).all fun k=>Z2 ps.length k (ps.getD k.toNat default)
def KR(r:Qe):Bool:=WQ r.Qb.length 1 4 && (WQ r.miss 0 2000 && WQ r.seasons 1 4)
def QD(r:Qe):Bool:=KR r && JQ r.Qb 0
def QG(r:Qe)(Qa:List Int):Bool:=decide (Qa.length=r.seasons) && Qa.all fun x=>WQ x 0 (((Vz r.Qb.length:Nat):Int)-1)
theorem QY{ps:List Qd}{i:Int}(h:i<ps.length):JQ ps i=(Z2 ps.length i (ps.getD i.toNat default) && JQ ps (i+1)):=by
 unfold JQ;rw[jV h,List.all_cons]
theorem VW{ps:List Qd}{i:Int}(h:ps.length<=i):JQ ps i=true:=by
 unfold JQ;rw[jc h];rfl
theorem Vj{x:Qd}(h:XR x=true):(0<=x.count/\x.count<=1000000)/\(0<=x.room/\x.room<=1000000)/\(0<=x.goal/\x.goal<=1000000)/\(0<=x.worth/\x.worth<=1000000)/\(0<=x.glo/\x.glo<=x.ghi/\x.ghi<=2000)/\(0<=x.drift/\x.drift<=1000)/\(0<=x.olo/\x.olo<=x.ohi/\x.ohi<=1000000)/\(0<=x.slo/\x.slo<=x.shi/\x.shi<=1000000)/\x.slo<=x.olo/\x.shi<=x.ohi:=by
 simp only[XR,YB,VL,TI,decide_eq_true_iff]at h;omega
theorem Qy{r:Qe}(h:KR r=true):(1<=r.Qb.length/\r.Qb.length<=4)/\(0<=r.miss/\r.miss<=2000)/\(1<=r.seasons/\r.seasons<=4):=by
 simp only[KR,YB,VL]at h;omega
theorem Q7{r:Qe}(h:QD r=true):KR r=true/\∀k:Int,0<=k->k<r.Qb.length->XR (r.Qb.getD k.toNat default)=true/\Yx r.Qb.length (r.Qb.getD k.toNat default).into=true/\(r.Qb.getD k.toNat default).into≠k:=by
 simp only[QD,YB]at h;refine⟨h.1,fun k h0 h1=> ?_⟩;have:=j8 h.2 h0 h1;simp only[Z2,YB,Bool.not_eq_true',decide_eq_false_iff_not]at this;exact⟨this.1,this.2.1,this.2.2⟩
def RP(x:Qd):Bool:=WQ x.count 0 1000000 && (WQ x.room 0 1000000 && (WQ x.goal 0 1000000 && (WQ x.worth 0 1000000 && (WK x.glo x.ghi 0 2000 && (WQ x.drift 0 1000 && (WK x.olo x.ohi 0 1000000 && WK x.slo x.shi 0 1000000))))))
def XT(r:Qe):Bool:=KR r && (Sv 0 r.Qb.length).all fun k=>RP (r.Qb.getD k.toNat default) && (Yx r.Qb.length (r.Qb.getD k.toNat default).into && !decide ((r.Qb.getD k.toNat default).into=k))
theorem IM{x:Qd}(h:XR x=true):RP x=true:=by
 simp only[XR,RP,YB]at h ⊢;exact⟨h.1,h.2.1,h.2.2.1,h.2.2.2.1,h.2.2.2.2.1,h.2.2.2.2.2.1,h.2.2.2.2.2.2.1,h.2.2.2.2.2.2.2.1⟩
theorem XJ{r:Qe}(h:QD r=true):XT r=true:=by
 obtain⟨h1,h2⟩:=Q7 h;unfold XT;rw[YB];refine⟨h1,List.all_eq_true.2 fun k hk=> ?_⟩;unfold Sv at hk;obtain⟨m,hm,rfl⟩:=List.mem_map.1 hk;have hm':=List.mem_range.1 hm;have:=h2 (0+(m:Int)) (by omega) (by omega);simp only[YB,Bool.not_eq_true',decide_eq_false_iff_not];exact⟨IM this.1,this.2.1,this.2.2⟩
theorem Xx{x:Qd}(h:RP x=true):(0<=x.count/\x.count<=1000000)/\(0<=x.room/\x.room<=1000000)/\(0<=x.goal/\x.goal<=1000000)/\(0<=x.worth/\x.worth<=1000000)/\(0<=x.glo/\x.glo<=x.ghi/\x.ghi<=2000)/\(0<=x.drift/\x.drift<=1000)/\(0<=x.olo/\x.olo<=x.ohi/\x.ohi<=1000000)/\(0<=x.slo/\x.slo<=x.shi/\x.shi<=1000000)/\True:=by
 simp only[RP,YB,VL,TI]at h;simp only[and_true];omega
theorem Q8{r:Qe}(h:XT r=true):KR r=true/\∀k:Int,0<=k->k<r.Qb.length->RP (r.Qb.getD k.toNat default)=true/\Yx r.Qb.length (r.Qb.getD k.toNat default).into=true/\(r.Qb.getD k.toNat default).into≠k:=by
 simp only[XT,YB]at h;refine⟨h.1,fun k h0 h1=> ?_⟩;have:=j8 h.2 h0 h1;simp only[YB,Bool.not_eq_true',decide_eq_false_iff_not]at this;exact⟨this.1,this.2.1,this.2.2⟩
instance {r:Qe}:Coe (QD r=true) (XT r=true):=⟨XJ⟩
def gL(x:Qd):Array Value:=#[.agg #[.int .i64 x.olo,.int .i64 x.ohi],.int .i64 1000000]
def gK(x:Qd):Array Value:=#[.agg #[.int .i64 x.slo,.int .i64 x.shi],.int .i64 1000000]
def gJ(x:Qd):Array Value:=#[.agg #[.int .i64 x.glo,.int .i64 x.ghi],.int .i64 2000]
def gI(x:Qd):Array Value:=#[.int .i64 x.worth,.int .i64 0,.int .i64 1000000]
def gH(x:Qd):Array Value:=#[.int .i64 x.drift,.int .i64 0,.int .i64 1000]
def Tc(B:Lo)(x:Qd):List Prop:=[Qz []/\Qx YP J0 95 #[.int .i64 x.count] (.bool true)]++([]:List Prop)
def gU(x:Qd):Q5:=[(4,Qk.pure (.bool true) [])]
def Tb(B:Lo)(x:Qd):List Prop:=[Qz []/\Qx YP J0 95 #[.int .i64 x.room] (.bool true)]++Tc B x
def gT(x:Qd):Q5:=gU x++[(8,Qk.pure (.bool true) [])]
def Ta(B:Lo)(x:Qd):List Prop:=[Qz []/\Qx YP J0 95 #[.int .i64 x.goal] (.bool true)]++Tb B x
def gS(x:Qd):Q5:=gT x++[(13,Qk.pure (.bool true) [])]
def SZ(B:Lo)(x:Qd):List Prop:=[Qz []/\Qx YP J0 72 (gI x) (.bool true)]++Ta B x
def gR(x:Qd):Q5:=gS x++[(18,Qk.pure (.bool true) [])]
def SY(B:Lo)(x:Qd):List Prop:=[Qz []/\Qx YP J0 96 (gJ x) (.bool true)]++SZ B x
def gQ(x:Qd):Q5:=gR x++[(23,Qk.pure (.bool true) [])]
def SX(B:Lo)(x:Qd):List Prop:=[Qz []/\Qx YP J0 72 (gH x) (.bool true)]++SY B x
def gP(x:Qd):Q5:=gQ x++[(28,Qk.pure (.bool true) [])]
def SW(B:Lo)(x:Qd):List Prop:=[Qz []/\Qx YP J0 96 (gL x) (.bool true)]++SX B x
def gO(x:Qd):Q5:=gP x++[(33,Qk.pure (.bool true) [])]
def SV(B:Lo)(x:Qd):List Prop:=[Qz []/\Qx YP J0 96 (gK x) (.bool true)]++SW B x
def gN(x:Qd):Q5:=gO x++[(38,Qk.pure (.bool true) [])]
def SU(B:Lo)(x:Qd):List Prop:=[(!XU x.olo x.slo)=true]++SV B x
def gM(x:Qd):Q5:=gN x++[(47,Wo)]
theorem v5(B:Lo)(x:Qd):QQ (Qq YP (Q3 YP) J0 B 6 1 (Qp YP 73 59 (([.agg (Qh x).toArray]).map (Q2 0 4))) XV 1
 (gM x++[(56,Wo)]) 0 [] []) []=some (.bool true,
 [(!XU x.ohi x.shi)=true]++SU B x):=by kernel_rfl
theorem vz(B:Lo)(x:Qd):QQ (Qq YP (Q3 YP) J0 B 6 1 (Qp YP 73 59 (([.agg (Qh x).toArray]).map (Q2 0 4))) XV 1
 (gM x++[(56,W8)]) 0 [] []) []=some (.bool false,
 [(!XU x.ohi x.shi)=false]++SU B x):=by kernel_rfl
theorem vy(B:Lo)(x:Qd):QQ (Qq YP (Q3 YP) J0 B 6 1 (Qp YP 73 59 (([.agg (Qh x).toArray]).map (Q2 0 4))) XV 1
 (gN x++[(47,W8)]) 0 [] []) []=some (.bool false,
 [(!XU x.olo x.slo)=false]++SV B x):=by kernel_rfl
theorem vx(B:Lo)(x:Qd):QQ (Qq YP (Q3 YP) J0 B 6 1 (Qp YP 73 59 (([.agg (Qh x).toArray]).map (Q2 0 4))) XV 1
 (gO x++[(38,Qk.pure (.bool false) [])]) 0 [] []) []=some (.bool false,
 [Qz []/\Qx YP J0 96 (gK x) (.bool false)]++SW B x):=by kernel_rfl
theorem vw(B:Lo)(x:Qd):QQ (Qq YP (Q3 YP) J0 B 6 1 (Qp YP 73 59 (([.agg (Qh x).toArray]).map (Q2 0 4))) XV 1
 (gP x++[(33,Qk.pure (.bool false) [])]) 0 [] []) []=some (.bool false,
 [Qz []/\Qx YP J0 96 (gL x) (.bool false)]++SX B x):=by kernel_rfl
theorem vv(B:Lo)(x:Qd):QQ (Qq YP (Q3 YP) J0 B 6 1 (Qp YP 73 59 (([.agg (Qh x).toArray]).map (Q2 0 4))) XV 1
 (gQ x++[(28,Qk.pure (.bool false) [])]) 0 [] []) []=some (.bool false,
 [Qz []/\Qx YP J0 72 (gH x) (.bool false)]++SY B x):=by kernel_rfl
theorem vu(B:Lo)(x:Qd):QQ (Qq YP (Q3 YP) J0 B 6 1 (Qp YP 73 59 (([.agg (Qh x).toArray]).map (Q2 0 4))) XV 1
 (gR x++[(23,Qk.pure (.bool false) [])]) 0 [] []) []=some (.bool false,
 [Qz []/\Qx YP J0 96 (gJ x) (.bool false)]++SZ B x):=by kernel_rfl
theorem vt(B:Lo)(x:Qd):QQ (Qq YP (Q3 YP) J0 B 6 1 (Qp YP 73 59 (([.agg (Qh x).toArray]).map (Q2 0 4))) XV 1
 (gS x++[(18,Qk.pure (.bool false) [])]) 0 [] []) []=some (.bool false,
 [Qz []/\Qx YP J0 72 (gI x) (.bool false)]++Ta B x):=by kernel_rfl
theorem vq(B:Lo)(x:Qd):QQ (Qq YP (Q3 YP) J0 B 6 1 (Qp YP 73 59 (([.agg (Qh x).toArray]).map (Q2 0 4))) XV 1
 (gT x++[(13,Qk.pure (.bool false) [])]) 0 [] []) []=some (.bool false,
 [Qz []/\Qx YP J0 95 #[.int .i64 x.goal] (.bool false)]++Tb B x):=by kernel_rfl
theorem vp(B:Lo)(x:Qd):QQ (Qq YP (Q3 YP) J0 B 6 1 (Qp YP 73 59 (([.agg (Qh x).toArray]).map (Q2 0 4))) XV 1
 (gU x++[(8,Qk.pure (.bool false) [])]) 0 [] []) []=some (.bool false,
 [Qz []/\Qx YP J0 95 #[.int .i64 x.room] (.bool false)]++Tc B x):=by kernel_rfl
theorem rJ(B:Lo)(x:Qd):QQ (Qq YP (Q3 YP) J0 B 6 1 (Qp YP 73 59 (([.agg (Qh x).toArray]).map (Q2 0 4))) XV 1
 [(4,Qk.pure (.bool false) [])] 0 [] []) []=some (.bool false,
 [Qz []/\Qx YP J0 95 #[.int .i64 x.count] (.bool false)]):=by kernel_rfl
set_option maxHeartbeats 4000000 in
theorem zF(x:Qd)  {B:Lo}(hJ:∀w,B.has w->J0 w):EndsT YP B (Qp YP 73 59 (([.agg (Qh x).toArray]).map (Q2 0 4))) (.bool (XR x)):=by
 cases q0:WQ x.count 0 1000000 with
 |true=>
  have WB:Qz (Tc B x):=by
   exact⟨⟨trivial,(by have t_:=PZ x.count;rw[q0]at t_;exact t_)⟩,trivial⟩
  cases q1:WQ x.room 0 1000000 with
  |true=>
   have JE:Qz (Tb B x):=by
    exact⟨⟨trivial,(by have t_:=PZ x.room;rw[q1]at t_;exact t_)⟩,WB⟩
   cases q2:WQ x.goal 0 1000000 with
   |true=>
    have KE:Qz (Ta B x):=by
     exact⟨⟨trivial,(by have t_:=PZ x.goal;rw[q2]at t_;exact t_)⟩,JE⟩
    cases q3:WQ x.worth 0 1000000 with
    |true=>
     have hp3:Qz (SZ B x):=by
      exact⟨⟨trivial,(by have t_:=tz x.worth (0) (1000000);rw[q3]at t_;exact t_)⟩,KE⟩
     cases q4:WK x.glo x.ghi 0 2000 with
     |true=>
      have hp4:Qz (SY B x):=by
       exact⟨⟨trivial,(by have t_:=av x.glo x.ghi (2000);rw[q4]at t_;exact t_)⟩,hp3⟩
      cases q5:WQ x.drift 0 1000 with
      |true=>
       have hp5:Qz (SX B x):=by
        exact⟨⟨trivial,(by have t_:=tz x.drift (0) (1000);rw[q5]at t_;exact t_)⟩,hp4⟩
       cases q6:WK x.olo x.ohi 0 1000000 with
       |true=>
        have hp6:Qz (SW B x):=by
         exact⟨⟨trivial,(by have t_:=av x.olo x.ohi (1000000);rw[q6]at t_;exact t_)⟩,hp5⟩
        cases q7:WK x.slo x.shi 0 1000000 with
        |true=>
         have hp7:Qz (SV B x):=by
          exact⟨⟨trivial,(by have t_:=av x.slo x.shi (1000000);rw[q7]at t_;exact t_)⟩,hp6⟩
         by_cases q8:(x.slo:Int)<=x.olo
         ·have hp8:Qz (SU B x):=by
           exact⟨(Ua q8),hp7⟩
          by_cases q9:(x.shi:Int)<=x.ohi
          ·exact(GoE.endsT okF hJ Qf GoE.start (v5 B x)
            ⟨(Ua q9),hp8⟩).cast (by(simp[XR, *];done))
          ·exact(GoE.endsT okF hJ Qf GoE.start (vz B x)
            ⟨(Ub (Int.not_le.1 q9)),hp8⟩).cast (by(simp[XR, *];done))
         ·exact(GoE.endsT okF hJ Qf GoE.start (vy B x)
           ⟨(Ub (Int.not_le.1 q8)),hp7⟩).cast (by(simp[XR, *];done))
        |false=>
         exact(GoE.endsT okF hJ Qf GoE.start (vx B x)
          ⟨⟨trivial,(by have t_:=av x.slo x.shi (1000000);rw[q7]at t_;exact t_)⟩,hp6⟩).cast (by(simp[XR, *];done))
       |false=>
        exact(GoE.endsT okF hJ Qf GoE.start (vw B x)
         ⟨⟨trivial,(by have t_:=av x.olo x.ohi (1000000);rw[q6]at t_;exact t_)⟩,hp5⟩).cast (by(simp[XR, *];done))
      |false=>
       exact(GoE.endsT okF hJ Qf GoE.start (vv B x)
        ⟨⟨trivial,(by have t_:=tz x.drift (0) (1000);rw[q5]at t_;exact t_)⟩,hp4⟩).cast (by(simp[XR, *];done))
     |false=>
      exact(GoE.endsT okF hJ Qf GoE.start (vu B x)
       ⟨⟨trivial,(by have t_:=av x.glo x.ghi (2000);rw[q4]at t_;exact t_)⟩,hp3⟩).cast (by(simp[XR, *];done))
    |false=>
     exact(GoE.endsT okF hJ Qf GoE.start (vt B x)
      ⟨⟨trivial,(by have t_:=tz x.worth (0) (1000000);rw[q3]at t_;exact t_)⟩,KE⟩).cast (by(simp[XR, *];done))
   |false=>
    exact(GoE.endsT okF hJ Qf GoE.start (vq B x)
     ⟨⟨trivial,(by have t_:=PZ x.goal;rw[q2]at t_;exact t_)⟩,JE⟩).cast (by(simp[XR, *];done))
  |false=>
   exact(GoE.endsT okF hJ Qf GoE.start (vp B x)
    ⟨⟨trivial,(by have t_:=PZ x.room;rw[q1]at t_;exact t_)⟩,WB⟩).cast (by(simp[XR, *];done))
 |false=>
  exact(GoE.endsT okF hJ Qf GoE.start (rJ B x)
   ⟨⟨trivial,(by have t_:=PZ x.count;rw[q0]at t_;exact t_)⟩,trivial⟩).cast (by(simp[XR, *];done))
theorem v7(x:Qd)  :Qx YP J0 73 #[.agg (Qh x).toArray] (.bool (XR x)):=
 Xn (ts:=[.agg (Qh x).toArray]) Za (c0:=Qp YP 73 59 (([.agg (Qh x).toArray]).map (Q2 0 4))) (by kernel_rfl) (by kernel_rfl) fun B hJ=>zF x  hJ
def cI(r:Qe)(k:Int):Array Value:=#[.int .i64 k,.int .i64 0,.int .i64 ((↑r.Qb.length:Int)-1)]
def RT(B:Lo)(r:Qe)(k:Int):List Prop:=[wq ((↑r.Qb.length:Int)-1)=(↑r.Qb.length:Int)-1]++([]:List Prop)
def cJ(r:Qe)(k:Int):Q5:=[(6,VE ((↑r.Qb.length:Int)-1))]
theorem rL(B:Lo)(r:Qe)(k:Int):QQ (Qq YP (Q3 YP) J0 B 6 1 (Qp YP 70 11 (([.agg (Q0 r).toArray,.int .i64 k]).map (Q2 0 4))) XV 1
 (cJ r k++[(7,Qk.pure (.bool true) [])]) 0 [] []) []=some (.bool true,
 [Qz []/\Qx YP J0 72 (cI r k) (.bool true)]++RT B r k):=by kernel_rfl
theorem rK(B:Lo)(r:Qe)(k:Int):QQ (Qq YP (Q3 YP) J0 B 6 1 (Qp YP 70 11 (([.agg (Q0 r).toArray,.int .i64 k]).map (Q2 0 4))) XV 1
 (cJ r k++[(7,Qk.pure (.bool false) [])]) 0 [] []) []=some (.bool false,
 [Qz []/\Qx YP J0 72 (cI r k) (.bool false)]++RT B r k):=by kernel_rfl
set_option maxHeartbeats 4000000 in
theorem v8(r:Qe)(k:Int)  (Xt:r.Qb.length<=9223372036854775807){B:Lo}(hJ:∀w,B.has w->J0 w):EndsT YP B (Qp YP 70 11 (([.agg (Q0 r).toArray,.int .i64 k]).map (Q2 0 4))) (.bool (WQ k 0 (r.Qb.length-1))):=by
 have WB:Qz (RT B r k):=by
  exact⟨(Xy (by omega) (by omega)),trivial⟩
 cases q0:WQ k 0 ((↑r.Qb.length:Int)-1)with
 |true=>
  exact(GoE.endsT okF hJ Qf GoE.start (rL B r k)
   ⟨⟨trivial,(by have t_:=tz (k) (0) ((↑r.Qb.length:Int)-1);rw[q0]at t_;exact t_)⟩,WB⟩).cast (by rfl)
 |false=>
  exact(GoE.endsT okF hJ Qf GoE.start (rK B r k)
   ⟨⟨trivial,(by have t_:=tz (k) (0) ((↑r.Qb.length:Int)-1);rw[q0]at t_;exact t_)⟩,WB⟩).cast (by rfl)
theorem ah(r:Qe)(k:Int)  :Qx YP J0 70 #[.agg (Q0 r).toArray,.int .i64 k] (.bool (WQ k 0 (r.Qb.length-1))):=
 Va (ts:=[.agg (Q0 r).toArray,.int .i64 k]) (r.Qb.length<=9223372036854775807) (fun _ _ ht=>ht.ln2 (i:=0) (j:=0) rfl rfl) Za (c0:=Qp YP 70 11 (([.agg (Q0 r).toArray,.int .i64 k]).map (Q2 0 4))) (by kernel_rfl) (by kernel_rfl) fun Xt B hJ=>v8 r k  Xt hJ
def RQ(x_:Qd):Array Value:=#[.int .i64 x_.count,.int .i64 x_.room,.int .i64 x_.glo,.int .i64 x_.ghi,.int .i64 x_.drift,.int .i64 x_.into,.int .i64 x_.olo,.int .i64 x_.ohi,.int .i64 x_.slo,.int .i64 x_.shi,.int .i64 x_.goal,.int .i64 x_.worth]
def ly(r:Qe)(i:Int):Array Value:=#[.agg #[QE r.Qb.length (Qg Qh r.Qb),.int .i64 r.miss,.int .i64 r.seasons],.int .i64 (Qd.into (r.Qb.getD i.toNat default))]
def lx(r:Qe):Array Value:=#[.int .i64 (↑r.Qb.length:Int),.int .i64 1,.int .i64 4]
def lv(r:Qe):Array Value:=#[.int .i64 r.miss,.int .i64 0,.int .i64 2000]
def lu(r:Qe):Array Value:=#[.int .i64 r.seasons,.int .i64 1,.int .i64 4]
def W4(r:Qe)(i:Int):List Value:=[pA 2 0,Qt 1 (QE r.Qb.length (Qg Qh r.Qb)),.int .i64 (↑r.Qb.length:Int),.int .i64 i]
def XS(r:Qe)(i:Int):List Obj:=[Obj.cells #[Qt 1 (QE r.Qb.length (Qg Qh r.Qb)),.int .i64 r.miss,.int .i64 r.seasons] 24]
def W5:List Item:=([.code [1,1,0,1,0,0],.inLoop [1,1,0,1,0,0],.inBlock 0,.code [1,1,1]]).map (it (QT YP 50))
def zB(B:Lo)(c0:CF)(r:Qe)(i:Int):Prop:=∃dJ:Nat->Value,(∀t,X6 (dJ t))/\GoE YP B c0 XV 1 (QJ 50 52 (([1,23,24,25]:List Nat).zip (W4 r i)) dJ W5) (QH (XS r i)) (2+(XS r i).length) []
def b5(B:Lo)(r:Qe)(i:Int)(Qn:Nat->Value):List Prop:=[Ue i r.Qb.length (Qg Qh r.Qb) Try.t54.size (RQ (r.Qb.getD i.toNat default)),XU i (↑r.Qb.length:Int)=true]++([]:List Prop)
def lA(r:Qe)(i:Int)(Qn:Nat->Value):Q5:=[(0,Wo),(2,Qk.tidx i.toNat (RQ (r.Qb.getD i.toNat default)))]
def b4(B:Lo)(r:Qe)(i:Int)(Qn:Nat->Value):List Prop:=[Qz []/\Qx YP J0 73 #[.agg (RQ (r.Qb.getD i.toNat default))] (.bool true)]++b5 B r i Qn
def l9(r:Qe)(i:Int)(Qn:Nat->Value):Q5:=lA r i Qn++[(8,Qk.pure (.bool true) [])]
def bz(B:Lo)(r:Qe)(i:Int)(Qn:Nat->Value):List Prop:=[(!Km (Qd.into (r.Qb.getD i.toNat default)) (-1))=true]++b4 B r i Qn
def l8(r:Qe)(i:Int)(Qn:Nat->Value):Q5:=l9 r i Qn++[(13,Wo)]
def bw(B:Lo)(r:Qe)(i:Int)(Qn:Nat->Value):List Prop:=[Qz []/\Qx YP J0 70 (ly r i) (.bool true)]++bz B r i Qn
def l7(r:Qe)(i:Int)(Qn:Nat->Value):Q5:=l8 r i Qn++[(18,Qk.pure (.bool true) [])]
theorem z9(B:Lo)(r:Qe)(i:Int)(Qn:Nat->Value):QQ (Qq YP (Q3 YP) J0 B 16 1 (QJ 50 52 (([1,23,24,25]:List Nat).zip (W4 r i)) Qn W5) (QH (XS r i)) (2+(XS r i).length)
 (l7 r i Qn++[(26,Wo)]) 0 [] []) []=some (.bool false,
 [Km (Qd.into (r.Qb.getD i.toNat default)) i=true]++bw B r i Qn):=by kernel_rfl
theorem z8(B:Lo)(r:Qe)(i:Int)(Qn:Nat->Value):landM (Qq YP (Q3 YP) J0 B 16 1 (QJ 50 52 (([1,23,24,25]:List Nat).zip (W4 r i)) Qn W5) (QH (XS r i)) (2+(XS r i).length)
 (l7 r i Qn++[(26,W8),(28,VE (i+1))]) 0 [] []) [1,23,24,25] [(2,KS.auto)] []=some ⟨50,52,W5,[],.run,none,W4 r (i+1),XS r (i+1),
 [wq (i+1)=i+1,Km (Qd.into (r.Qb.getD i.toNat default)) i=false]++bw B r i Qn⟩:=by kernel_rfl
theorem z7(B:Lo)(r:Qe)(i:Int)(Qn:Nat->Value):QQ (Qq YP (Q3 YP) J0 B 16 1 (QJ 50 52 (([1,23,24,25]:List Nat).zip (W4 r i)) Qn W5) (QH (XS r i)) (2+(XS r i).length)
 (l8 r i Qn++[(18,Qk.pure (.bool false) [])]) 0 [] []) []=some (.bool false,
 [Qz []/\Qx YP J0 70 (ly r i) (.bool false)]++bz B r i Qn):=by kernel_rfl
def bu(B:Lo)(r:Qe)(i:Int)(Qn:Nat->Value):List Prop:=[(!Km (Qd.into (r.Qb.getD i.toNat default)) (-1))=false]++b4 B r i Qn
def l6(r:Qe)(i:Int)(Qn:Nat->Value):Q5:=l9 r i Qn++[(13,W8)]
theorem z6(B:Lo)(r:Qe)(i:Int)(Qn:Nat->Value):QQ (Qq YP (Q3 YP) J0 B 16 1 (QJ 50 52 (([1,23,24,25]:List Nat).zip (W4 r i)) Qn W5) (QH (XS r i)) (2+(XS r i).length)
 (l6 r i Qn++[(26,Wo)]) 0 [] []) []=some (.bool false,
 [Km (Qd.into (r.Qb.getD i.toNat default)) i=true]++bu B r i Qn):=by kernel_rfl
theorem z5(B:Lo)(r:Qe)(i:Int)(Qn:Nat->Value):landM (Qq YP (Q3 YP) J0 B 16 1 (QJ 50 52 (([1,23,24,25]:List Nat).zip (W4 r i)) Qn W5) (QH (XS r i)) (2+(XS r i).length)
 (l6 r i Qn++[(26,W8),(28,VE (i+1))]) 0 [] []) [1,23,24,25] [(2,KS.auto)] []=some ⟨50,52,W5,[],.run,none,W4 r (i+1),XS r (i+1),
 [wq (i+1)=i+1,Km (Qd.into (r.Qb.getD i.toNat default)) i=false]++bu B r i Qn⟩:=by kernel_rfl
theorem z4(B:Lo)(r:Qe)(i:Int)(Qn:Nat->Value):QQ (Qq YP (Q3 YP) J0 B 16 1 (QJ 50 52 (([1,23,24,25]:List Nat).zip (W4 r i)) Qn W5) (QH (XS r i)) (2+(XS r i).length)
 (lA r i Qn++[(8,Qk.pure (.bool false) [])]) 0 [] []) []=some (.bool false,
 [Qz []/\Qx YP J0 73 #[.agg (RQ (r.Qb.getD i.toNat default))] (.bool false)]++b5 B r i Qn):=by kernel_rfl
theorem z3(B:Lo)(r:Qe)(i:Int)(Qn:Nat->Value):QQ (Qq YP (Q3 YP) J0 B 9 1 (QJ 50 52 (([1,23,24,25]:List Nat).zip (W4 r i)) Qn W5) (QH (XS r i)) (2+(XS r i).length)
 [(0,W8)] 0 [] []) []=some (.bool true,
 [XU i (↑r.Qb.length:Int)=false]):=by kernel_rfl
def bt(B:Lo)(r:Qe):List Prop:=[Qz []/\Qx YP J0 72 (lx r) (.bool true)]++([]:List Prop)
def l5(r:Qe):Q5:=[(5,Qk.pure (.bool true) [])]
def bq(B:Lo)(r:Qe):List Prop:=[Qz []/\Qx YP J0 72 (lv r) (.bool true)]++bt B r
def lz(r:Qe):Q5:=l5 r++[(10,Qk.pure (.bool true) [])]
theorem z2(B:Lo)(r:Qe):landM (Qq YP (Q3 YP) J0 B 12 1 (Qp YP 50 52 (([.agg (Q0 r).toArray]).map (Q2 0 4))) XV 1
 (lz r++[(16,Qk.pure (.bool true) [])]) 0 [] []) [1,23,24,25] [(1,KS.auto)] []=some ⟨50,52,W5,[],.run,none,W4 r (0),XS r (0),
 [Qz []/\Qx YP J0 72 (lu r) (.bool true)]++bq B r⟩:=by kernel_rfl
theorem z1(B:Lo)(r:Qe):QQ (Qq YP (Q3 YP) J0 B 10 1 (Qp YP 50 52 (([.agg (Q0 r).toArray]).map (Q2 0 4))) XV 1
 (lz r++[(16,Qk.pure (.bool false) [])]) 0 [] []) []=some (.bool false,
 [Qz []/\Qx YP J0 72 (lu r) (.bool false)]++bq B r):=by kernel_rfl
theorem z0(B:Lo)(r:Qe):QQ (Qq YP (Q3 YP) J0 B 10 1 (Qp YP 50 52 (([.agg (Q0 r).toArray]).map (Q2 0 4))) XV 1
 (l5 r++[(10,Qk.pure (.bool false) [])]) 0 [] []) []=some (.bool false,
 [Qz []/\Qx YP J0 72 (lv r) (.bool false)]++bt B r):=by kernel_rfl
theorem vo(B:Lo)(r:Qe):QQ (Qq YP (Q3 YP) J0 B 10 1 (Qp YP 50 52 (([.agg (Q0 r).toArray]).map (Q2 0 4))) XV 1
 [(5,Qk.pure (.bool false) [])] 0 [] []) []=some (.bool false,
 [Qz []/\Qx YP J0 72 (lx r) (.bool false)]):=by kernel_rfl
set_option maxHeartbeats 4000000 in
theorem zA(r:Qe)  (Xt:r.Qb.length<=9223372036854775807){B:Lo}(hJ:∀w,B.has w->J0 w){c0:CF}:∀m:Nat,(∀(i:Int),r.Qb.length-i.toNat=m->∀(h0:0<=i),zB B c0 r i->EndsT YP B c0 (.bool (JQ r.Qb i))):=by
 intro m0;induction m0 using Nat.strongRecOn with
 |_ m0 ih0=>
  intro i hm0 h0 ⟨Qn,Ur,XM⟩;by_cases q0:(i:Int)<((↑r.Qb.length:Int))
  ·have WB:Qz (b5 B r i Qn):=by
    have s2:=QY (ps:=r.Qb) q0;exact⟨⟨by omega,by omega,(Q4 (z:=12) (fun _=>rfl) (by omega))⟩,⟨(XF q0),trivial⟩⟩
   cases q1:XR (r.Qb.getD i.toNat default)with
   |true=>
    have JE:Qz (b4 B r i Qn):=by
     have s2:=QY (ps:=r.Qb) q0;exact⟨⟨trivial,(by have t_:=v7 (r.Qb.getD i.toNat default);rw[q1]at t_;exact t_)⟩,WB⟩
    by_cases q2:(Qd.into (r.Qb.getD i.toNat default):Int)≠(-1)
    ·have KE:Qz (bz B r i Qn):=by
      exact⟨(Jx q2),JE⟩
     cases q3:WQ (Qd.into (r.Qb.getD i.toNat default)) 0 ((↑r.Qb.length:Int)-1)with
     |true=>
      have hp3:Qz (bw B r i Qn):=by
       have s2:=QY (ps:=r.Qb) q0;exact⟨⟨trivial,(by have t_:=ah (r) (Qd.into (r.Qb.getD i.toNat default));rw[q3]at t_;exact t_)⟩,KE⟩
      by_cases q4:(Qd.into (r.Qb.getD i.toNat default):Int)=(i)
      ·have s2:=QY (ps:=r.Qb) q0;exact(GoE.endsT okF hJ Qf XM (z9 B r i Qn)
        ⟨(Pc q4),hp3⟩).cast (by(rw[s2];simp_all[Z2,Yx];done))
      ·have s2:=QY (ps:=r.Qb) q0;exact((ih0 _ (by omega)) (i+1) rfl (by omega)
        (XM.landM okF hJ Qf (z8 B r i Qn)
        ⟨(Xy (by omega) (by omega)),⟨(Pd q4),hp3⟩⟩ (by kernel_rfl) (by kernel_rfl))).cast (by(rw[s2];simp_all[Z2,Yx];done))
     |false=>
      have s2:=QY (ps:=r.Qb) q0;exact(GoE.endsT okF hJ Qf XM (z7 B r i Qn)
       ⟨⟨trivial,(by have t_:=ah (r) (Qd.into (r.Qb.getD i.toNat default));rw[q3]at t_;exact t_)⟩,KE⟩).cast (by(rw[s2];simp_all[Z2,Yx];done))
    ·have hp4:Qz (bu B r i Qn):=by
      exact⟨(Yq (Decidable.of_not_not q2)),JE⟩
     by_cases q3:(Qd.into (r.Qb.getD i.toNat default):Int)=(i)
     ·have s2:=QY (ps:=r.Qb) q0;have s2:=VW (ps:=r.Qb) (i:=i) (by omega);exact(GoE.endsT okF hJ Qf XM (z6 B r i Qn)
       ⟨(Pc q3),hp4⟩).cast (by(rw[s2];simp_all[Z2,Yx];done))
     ·have s2:=QY (ps:=r.Qb) q0;exact((ih0 _ (by omega)) (i+1) rfl (by omega)
       (XM.landM okF hJ Qf (z5 B r i Qn)
       ⟨(Xy (by omega) (by omega)),⟨(Pd q3),hp4⟩⟩ (by kernel_rfl) (by kernel_rfl))).cast (by(rw[s2];simp_all[Z2,Yx];done))
   |false=>
    have s2:=QY (ps:=r.Qb) q0;exact(GoE.endsT okF hJ Qf XM (z4 B r i Qn)
     ⟨⟨trivial,(by have t_:=v7 (r.Qb.getD i.toNat default);rw[q1]at t_;exact t_)⟩,WB⟩).cast (by(rw[s2];simp_all[Z2,Yx];done))
  ·have s2:=VW (ps:=r.Qb) (i:=i) (by omega);exact(GoE.endsT okF hJ Qf XM (z3 B r i Qn)
    ⟨(XO (Int.not_lt.1 q0)),trivial⟩).cast (by(rw[s2];done))
set_option maxHeartbeats 4000000 in
theorem C8(r:Qe)  (Xt:r.Qb.length<=9223372036854775807){B:Lo}(hJ:∀w,B.has w->J0 w):EndsT YP B (Qp YP 50 52 (([.agg (Q0 r).toArray]).map (Q2 0 4))) (.bool (QD r)):=by
 cases q0:WQ (↑r.Qb.length:Int) 1 4 with
 |true=>
  have hp5:Qz (bt B r):=by
   exact⟨⟨trivial,(by have t_:=tz ((↑r.Qb.length:Int)) (1) (4);rw[q0]at t_;exact t_)⟩,trivial⟩
  cases q1:WQ r.miss 0 2000 with
  |true=>
   have hp6:Qz (bq B r):=by
    exact⟨⟨trivial,(by have t_:=tz r.miss (0) (2000);rw[q1]at t_;exact t_)⟩,hp5⟩
   cases q2:WQ r.seasons 1 4 with
   |true=>
    exact((zA r Xt hJ _) (0) rfl (by omega)
     (GoE.start.landM okF hJ Qf (z2 B r)
     ⟨⟨trivial,(by have t_:=tz r.seasons (1) (4);rw[q2]at t_;exact t_)⟩,hp6⟩ (by kernel_rfl) (by kernel_rfl))).cast (by(simp only[QD,KR];simp[*];done))
   |false=>
    exact(GoE.endsT okF hJ Qf GoE.start (z1 B r)
     ⟨⟨trivial,(by have t_:=tz r.seasons (1) (4);rw[q2]at t_;exact t_)⟩,hp6⟩).cast (by(simp only[QD,KR];simp[*];done))
  |false=>
   exact(GoE.endsT okF hJ Qf GoE.start (z0 B r)
    ⟨⟨trivial,(by have t_:=tz r.miss (0) (2000);rw[q1]at t_;exact t_)⟩,hp5⟩).cast (by(simp only[QD,KR];simp[*];done))
 |false=>
  exact(GoE.endsT okF hJ Qf GoE.start (vo B r)
   ⟨⟨trivial,(by have t_:=tz ((↑r.Qb.length:Int)) (1) (4);rw[q0]at t_;exact t_)⟩,trivial⟩).cast (by(simp only[QD,KR];simp[*];done))
theorem ji(r:Qe)  :Qx YP J0 50 #[.agg (Q0 r).toArray] (.bool (QD r)):=
 Va (ts:=[.agg (Q0 r).toArray]) (r.Qb.length<=9223372036854775807) (fun _ _ ht=>ht.ln2 (i:=0) (j:=0) rfl rfl) Za (c0:=Qp YP 50 52 (([.agg (Q0 r).toArray]).map (Q2 0 4))) (by kernel_rfl) (by kernel_rfl) fun Xt B hJ=>C8 r  Xt hJ
def Zv(r:Qe)(i:Int):List Value:=[pA 2 0,.int .i64 i]
def Xp(r:Qe)(i:Int):List Obj:=[Obj.cells #[Qt 1 (QE r.Qb.length (Qg Qh r.Qb)),.int .i64 r.miss,.int .i64 r.seasons] 24]
def Zw:List Item:=([.code [1,0,1,0,0],.inLoop [1,0,1,0,0],.inBlock 0,.code [1,1]]).map (it (QT YP 20))
def EW(B:Lo)(c0:CF)(r:Qe)(i:Int):Prop:=∃dJ:Nat->Value,(∀t,X6 (dJ t))/\GoE YP B c0 XV 1 (QJ 20 111 (([1,3]:List Nat).zip (Zv r i)) dJ Zw) (QH (Xp r i)) (2+(Xp r i).length) []
def YH(r:Qe)(i:Int):=(r.Qb.getD i.toNat default)
def Ji(r:Qe)(i:Int):=(YH r i)
def EI(r:Qe)(i:Int):=(Ji r i)
def ug(r:Qe)(i:Int):Array Value:=let a:=EI r i;#[.int .i64 a.count,.int .i64 a.room,.int .i64 a.glo,.int .i64 a.ghi,.int .i64 a.drift,.int .i64 a.into,.int .i64 a.olo,.int .i64 a.ohi,.int .i64 a.slo,.int .i64 a.shi,.int .i64 a.goal,.int .i64 a.worth]
def uf(r:Qe)(i:Int):Array Value:=#[.agg #[.int .i64 (Qd.olo (Ji r i)),.int .i64 (Qd.ohi (Ji r i))],.int .i64 1000000]
def ue(r:Qe)(i:Int):Array Value:=#[.agg #[.int .i64 (Qd.slo (Ji r i)),.int .i64 (Qd.shi (Ji r i))],.int .i64 1000000]
def ud(r:Qe)(i:Int):Array Value:=#[.agg #[.int .i64 (Qd.glo (Ji r i)),.int .i64 (Qd.ghi (Ji r i))],.int .i64 2000]
def uc(r:Qe)(i:Int):Array Value:=#[.int .i64 (Qd.into (YH r i)),.int .i64 (-1),.int .i64 ((↑r.Qb.length:Int)-1)]
def ub(r:Qe)(i:Int):Array Value:=#[.int .i64 (Qd.count (YH r i)),.int .i64 0,.int .i64 1000000]
def ua(r:Qe)(i:Int):Array Value:=#[.int .i64 (Qd.worth (YH r i)),.int .i64 0,.int .i64 1000000]
def tZ(r:Qe)(i:Int):Array Value:=#[.int .i64 (Qd.room (YH r i)),.int .i64 0,.int .i64 1000000]
def pL(r:Qe)(i:Int):Array Value:=#[.int .i64 (Qd.goal (YH r i)),.int .i64 0,.int .i64 1000000]
def pK(r:Qe)(i:Int):Array Value:=#[.int .i64 (Qd.drift (r.Qb.getD i.toNat default)),.int .i64 0,.int .i64 1000]
def pJ(r:Qe):Array Value:=#[.int .i64 (↑r.Qb.length:Int),.int .i64 1,.int .i64 4]
def pI(r:Qe):Array Value:=#[.int .i64 r.miss,.int .i64 0,.int .i64 2000]
def pH(r:Qe):Array Value:=#[.int .i64 r.seasons,.int .i64 1,.int .i64 4]
def kN(B:Lo)(r:Qe)(i:Int)(Qn:Nat->Value):List Prop:=[Ue i r.Qb.length (Qg Qh r.Qb) Try.t54.size (ug r i),XU i (↑r.Qb.length:Int)=true]++([]:List Prop)
def uw(r:Qe)(i:Int)(Qn:Nat->Value):Q5:=[(4,Wo),(8,Qk.tidx i.toNat (ug r i))]
def kM(B:Lo)(r:Qe)(i:Int)(Qn:Nat->Value):List Prop:=[Qz []/\Qx YP J0 55 (ub r i) (.bool true)]++kN B r i Qn
def uv(r:Qe)(i:Int)(Qn:Nat->Value):Q5:=uw r i Qn++[(14,Qk.pure (.bool true) [])]
def kL(B:Lo)(r:Qe)(i:Int)(Qn:Nat->Value):List Prop:=[Qz []/\Qx YP J0 55 (tZ r i) (.bool true)]++kM B r i Qn
def uu(r:Qe)(i:Int)(Qn:Nat->Value):Q5:=uv r i Qn++[(19,Qk.pure (.bool true) [])]
def kK(B:Lo)(r:Qe)(i:Int)(Qn:Nat->Value):List Prop:=[Qz []/\Qx YP J0 55 (pL r i) (.bool true)]++kL B r i Qn
def ur(r:Qe)(i:Int)(Qn:Nat->Value):Q5:=uu r i Qn++[(25,Qk.pure (.bool true) [])]
def kJ(B:Lo)(r:Qe)(i:Int)(Qn:Nat->Value):List Prop:=[Qz []/\Qx YP J0 56 (ud r i) (.bool true)]++kK B r i Qn
def uq(r:Qe)(i:Int)(Qn:Nat->Value):Q5:=ur r i Qn++[(31,Qk.pure (.bool true) [])]
def kI(B:Lo)(r:Qe)(i:Int)(Qn:Nat->Value):List Prop:=[wq ((↑r.Qb.length:Int)-1)=(↑r.Qb.length:Int)-1,Qz []/\Qx YP J0 55 (pK r i) (.bool true)]++kJ B r i Qn
def uo(r:Qe)(i:Int)(Qn:Nat->Value):Q5:=uq r i Qn++[(37,Qk.pure (.bool true) []),(46,VE ((↑r.Qb.length:Int)-1))]
def kH(B:Lo)(r:Qe)(i:Int)(Qn:Nat->Value):List Prop:=[Qz []/\Qx YP J0 55 (uc r i) (.bool true)]++kI B r i Qn
def um(r:Qe)(i:Int)(Qn:Nat->Value):Q5:=uo r i Qn++[(47,Qk.pure (.bool true) [])]
theorem EU(B:Lo)(r:Qe)(i:Int)(Qn:Nat->Value):QQ (Qq YP (Q3 YP) J0 B 16 1 (QJ 20 111 (([1,3]:List Nat).zip (Zv r i)) Qn Zw) (QH (Xp r i)) (2+(Xp r i).length)
 (um r i Qn++[(54,Wo)]) 0 [] []) []=some (.bool false,
 [Km (Qd.into (r.Qb.getD i.toNat default)) i=true]++kH B r i Qn):=by kernel_rfl
def kG(B:Lo)(r:Qe)(i:Int)(Qn:Nat->Value):List Prop:=[Km (Qd.into (r.Qb.getD i.toNat default)) i=false]++kH B r i Qn
def uk(r:Qe)(i:Int)(Qn:Nat->Value):Q5:=um r i Qn++[(54,W8)]
def kF(B:Lo)(r:Qe)(i:Int)(Qn:Nat->Value):List Prop:=[Qz []/\Qx YP J0 56 (uf r i) (.bool true)]++kG B r i Qn
def ui(r:Qe)(i:Int)(Qn:Nat->Value):Q5:=uk r i Qn++[(59,Qk.pure (.bool true) [])]
def kE(B:Lo)(r:Qe)(i:Int)(Qn:Nat->Value):List Prop:=[Qz []/\Qx YP J0 56 (ue r i) (.bool true)]++kF B r i Qn
def uh(r:Qe)(i:Int)(Qn:Nat->Value):Q5:=ui r i Qn++[(65,Qk.pure (.bool true) [])]
theorem ET(B:Lo)(r:Qe)(i:Int)(Qn:Nat->Value):let a:=r.Qb.getD i.toNat default;QQ (Qq YP (Q3 YP) J0 B 16 1 (QJ 20 111 (([1,3]:List Nat).zip (Zv r i)) Qn Zw) (QH (Xp r i)) (2+(Xp r i).length)
 (uh r i Qn++[(75,Wo)]) 0 [] []) []=some (.bool false,
 [XU a.olo a.slo=true]++kE B r i Qn):=by intro a;kernel_rfl
def eU(B:Lo)(r:Qe)(i:Int)(Qn:Nat->Value):List Prop:=[XU (Qd.olo (r.Qb.getD i.toNat default)) (Qd.slo (r.Qb.getD i.toNat default))=false]++kE B r i Qn
def pQ(r:Qe)(i:Int)(Qn:Nat->Value):Q5:=uh r i Qn++[(75,W8)]
theorem ES(B:Lo)(r:Qe)(i:Int)(Qn:Nat->Value):let a:=r.Qb.getD i.toNat default;QQ (Qq YP (Q3 YP) J0 B 16 1 (QJ 20 111 (([1,3]:List Nat).zip (Zv r i)) Qn Zw) (QH (Xp r i)) (2+(Xp r i).length)
 (pQ r i Qn++[(84,Wo)]) 0 [] []) []=some (.bool false,
 [XU a.ohi a.shi=true]++eU B r i Qn):=by intro a;kernel_rfl
def eT(B:Lo)(r:Qe)(i:Int)(Qn:Nat->Value):List Prop:=[XU (Qd.ohi (r.Qb.getD i.toNat default)) (Qd.shi (r.Qb.getD i.toNat default))=false]++eU B r i Qn
def pP(r:Qe)(i:Int)(Qn:Nat->Value):Q5:=pQ r i Qn++[(84,W8)]
theorem EP(B:Lo)(r:Qe)(i:Int)(Qn:Nat->Value):landM (Qq YP (Q3 YP) J0 B 16 1 (QJ 20 111 (([1,3]:List Nat).zip (Zv r i)) Qn Zw) (QH (Xp r i)) (2+(Xp r i).length)
 (pP r i Qn++[(89,Qk.pure (.bool true) []),(93,VE (i+1))]) 0 [] []) [1,3] [(2,KS.auto)] []=some ⟨20,111,Zw,[],.run,none,Zv r (i+1),Xp r (i+1),
 [wq (i+1)=i+1,Qz []/\Qx YP J0 55 (ua r i) (.bool true)]++eT B r i Qn⟩:=by kernel_rfl
theorem EO(B:Lo)(r:Qe)(i:Int)(Qn:Nat->Value):QQ (Qq YP (Q3 YP) J0 B 16 1 (QJ 20 111 (([1,3]:List Nat).zip (Zv r i)) Qn Zw) (QH (Xp r i)) (2+(Xp r i).length)
 (pP r i Qn++[(89,Qk.pure (.bool false) [])]) 0 [] []) []=some (.bool false,
 [Qz []/\Qx YP J0 55 (ua r i) (.bool false)]++eT B r i Qn):=by kernel_rfl
theorem EN(B:Lo)(r:Qe)(i:Int)(Qn:Nat->Value):QQ (Qq YP (Q3 YP) J0 B 16 1 (QJ 20 111 (([1,3]:List Nat).zip (Zv r i)) Qn Zw) (QH (Xp r i)) (2+(Xp r i).length)
 (ui r i Qn++[(65,Qk.pure (.bool false) [])]) 0 [] []) []=some (.bool false,
 [Qz []/\Qx YP J0 56 (ue r i) (.bool false)]++kF B r i Qn):=by kernel_rfl
theorem EM(B:Lo)(r:Qe)(i:Int)(Qn:Nat->Value):QQ (Qq YP (Q3 YP) J0 B 16 1 (QJ 20 111 (([1,3]:List Nat).zip (Zv r i)) Qn Zw) (QH (Xp r i)) (2+(Xp r i).length)
 (uk r i Qn++[(59,Qk.pure (.bool false) [])]) 0 [] []) []=some (.bool false,
 [Qz []/\Qx YP J0 56 (uf r i) (.bool false)]++kG B r i Qn):=by kernel_rfl
theorem EL(B:Lo)(r:Qe)(i:Int)(Qn:Nat->Value):QQ (Qq YP (Q3 YP) J0 B 16 1 (QJ 20 111 (([1,3]:List Nat).zip (Zv r i)) Qn Zw) (QH (Xp r i)) (2+(Xp r i).length)
 (uo r i Qn++[(47,Qk.pure (.bool false) [])]) 0 [] []) []=some (.bool false,
 [Qz []/\Qx YP J0 55 (uc r i) (.bool false)]++kI B r i Qn):=by kernel_rfl
theorem EK(B:Lo)(r:Qe)(i:Int)(Qn:Nat->Value):QQ (Qq YP (Q3 YP) J0 B 16 1 (QJ 20 111 (([1,3]:List Nat).zip (Zv r i)) Qn Zw) (QH (Xp r i)) (2+(Xp r i).length)
 (uq r i Qn++[(37,Qk.pure (.bool false) [])]) 0 [] []) []=some (.bool false,
 [Qz []/\Qx YP J0 55 (pK r i) (.bool false)]++kJ B r i Qn):=by kernel_rfl
theorem EJ(B:Lo)(r:Qe)(i:Int)(Qn:Nat->Value):QQ (Qq YP (Q3 YP) J0 B 16 1 (QJ 20 111 (([1,3]:List Nat).zip (Zv r i)) Qn Zw) (QH (Xp r i)) (2+(Xp r i).length)
 (ur r i Qn++[(31,Qk.pure (.bool false) [])]) 0 [] []) []=some (.bool false,
 [Qz []/\Qx YP J0 56 (ud r i) (.bool false)]++kK B r i Qn):=by kernel_rfl
theorem Co(B:Lo)(r:Qe)(i:Int)(Qn:Nat->Value):QQ (Qq YP (Q3 YP) J0 B 16 1 (QJ 20 111 (([1,3]:List Nat).zip (Zv r i)) Qn Zw) (QH (Xp r i)) (2+(Xp r i).length)
 (uu r i Qn++[(25,Qk.pure (.bool false) [])]) 0 [] []) []=some (.bool false,
 [Qz []/\Qx YP J0 55 (pL r i) (.bool false)]++kL B r i Qn):=by kernel_rfl
theorem Cn(B:Lo)(r:Qe)(i:Int)(Qn:Nat->Value):QQ (Qq YP (Q3 YP) J0 B 16 1 (QJ 20 111 (([1,3]:List Nat).zip (Zv r i)) Qn Zw) (QH (Xp r i)) (2+(Xp r i).length)
 (uv r i Qn++[(19,Qk.pure (.bool false) [])]) 0 [] []) []=some (.bool false,
 [Qz []/\Qx YP J0 55 (tZ r i) (.bool false)]++kM B r i Qn):=by kernel_rfl
theorem Cm(B:Lo)(r:Qe)(i:Int)(Qn:Nat->Value):QQ (Qq YP (Q3 YP) J0 B 16 1 (QJ 20 111 (([1,3]:List Nat).zip (Zv r i)) Qn Zw) (QH (Xp r i)) (2+(Xp r i).length)
 (uw r i Qn++[(14,Qk.pure (.bool false) [])]) 0 [] []) []=some (.bool false,
 [Qz []/\Qx YP J0 55 (ub r i) (.bool false)]++kN B r i Qn):=by kernel_rfl
def eS(B:Lo)(r:Qe)(i:Int)(Qn:Nat->Value):List Prop:=[XU i (↑r.Qb.length:Int)=false]++([]:List Prop)
def pO(r:Qe)(i:Int)(Qn:Nat->Value):Q5:=[(4,W8)]
def eQ(B:Lo)(r:Qe)(i:Int)(Qn:Nat->Value):List Prop:=[Qz []/\Qx YP J0 55 (pJ r) (.bool true)]++eS B r i Qn
def pN(r:Qe)(i:Int)(Qn:Nat->Value):Q5:=pO r i Qn++[(8,Qk.pure (.bool true) [])]
def eP(B:Lo)(r:Qe)(i:Int)(Qn:Nat->Value):List Prop:=[Qz []/\Qx YP J0 55 (pI r) (.bool true)]++eQ B r i Qn
def pM(r:Qe)(i:Int)(Qn:Nat->Value):Q5:=pN r i Qn++[(12,Qk.pure (.bool true) [])]
theorem Cl(B:Lo)(r:Qe)(i:Int)(Qn:Nat->Value):QQ (Qq YP (Q3 YP) J0 B 9 1 (QJ 20 111 (([1,3]:List Nat).zip (Zv r i)) Qn Zw) (QH (Xp r i)) (2+(Xp r i).length)
 (pM r i Qn++[(17,Qk.pure (.bool true) [])]) 0 [] []) []=some (.bool true,
 [Qz []/\Qx YP J0 55 (pH r) (.bool true)]++eP B r i Qn):=by kernel_rfl
theorem Ck(B:Lo)(r:Qe)(i:Int)(Qn:Nat->Value):QQ (Qq YP (Q3 YP) J0 B 9 1 (QJ 20 111 (([1,3]:List Nat).zip (Zv r i)) Qn Zw) (QH (Xp r i)) (2+(Xp r i).length)
 (pM r i Qn++[(17,Qk.pure (.bool false) [])]) 0 [] []) []=some (.bool false,
 [Qz []/\Qx YP J0 55 (pH r) (.bool false)]++eP B r i Qn):=by kernel_rfl
theorem Cj(B:Lo)(r:Qe)(i:Int)(Qn:Nat->Value):QQ (Qq YP (Q3 YP) J0 B 9 1 (QJ 20 111 (([1,3]:List Nat).zip (Zv r i)) Qn Zw) (QH (Xp r i)) (2+(Xp r i).length)
 (pN r i Qn++[(12,Qk.pure (.bool false) [])]) 0 [] []) []=some (.bool false,
 [Qz []/\Qx YP J0 55 (pI r) (.bool false)]++eQ B r i Qn):=by kernel_rfl
theorem Ci(B:Lo)(r:Qe)(i:Int)(Qn:Nat->Value):QQ (Qq YP (Q3 YP) J0 B 9 1 (QJ 20 111 (([1,3]:List Nat).zip (Zv r i)) Qn Zw) (QH (Xp r i)) (2+(Xp r i).length)
 (pO r i Qn++[(8,Qk.pure (.bool false) [])]) 0 [] []) []=some (.bool false,
 [Qz []/\Qx YP J0 55 (pJ r) (.bool false)]++eS B r i Qn):=by kernel_rfl
theorem Ch(B:Lo)(r:Qe):landM (Qq YP (Q3 YP) J0 B 7 1 (Qp YP 20 111 (([.agg (Q0 r).toArray]).map (Q2 0 4))) XV 1
 [] 0 [] []) [1,3] [(1,KS.auto)] []=some ⟨20,111,Zw,[],.run,none,Zv r (0),Xp r (0),
 []⟩:=by kernel_rfl
set_option maxHeartbeats 4000000 in
theorem EV(r:Qe)  (Xt:r.Qb.length<=9223372036854775807){B:Lo}(hJ:∀w,B.has w->J0 w){c0:CF}:∀m:Nat,(∀(i:Int),r.Qb.length-i.toNat=m->∀(h0:0<=i),EW B c0 r i->EndsT YP B c0 (.bool (JQ r.Qb i && KR r))):=by
 intro m0;induction m0 using Nat.strongRecOn with
 |_ m0 ih0=>
  intro i hm0 h0 ⟨Qn,Ur,XM⟩;have s3:=L8 (n:=r.Qb.length) (v:=(r.Qb.getD i.toNat default).into) (by omega);by_cases q0:(i:Int)<((↑r.Qb.length:Int))
  ·have WB:Qz (kN B r i Qn):=by
    have s2:=QY (ps:=r.Qb) q0;exact⟨⟨by omega,by omega,(Q4 (z:=12) (fun _=>rfl) (by omega))⟩,⟨(XF q0),trivial⟩⟩
   cases q1:WQ (Qd.count (r.Qb.getD i.toNat default)) 0 1000000 with
   |true=>
    have JE:Qz (kM B r i Qn):=by
     have s2:=QY (ps:=r.Qb) q0;exact⟨⟨trivial,(by have t_:=jh (Qd.count (r.Qb.getD i.toNat default)) (0) (1000000);rw[q1]at t_;exact t_)⟩,WB⟩
    cases q2:WQ (Qd.room (r.Qb.getD i.toNat default)) 0 1000000 with
    |true=>
     have KE:Qz (kL B r i Qn):=by
      have s2:=QY (ps:=r.Qb) q0;exact⟨⟨trivial,(by have t_:=jh (Qd.room (r.Qb.getD i.toNat default)) (0) (1000000);rw[q2]at t_;exact t_)⟩,JE⟩
     cases q3:WQ (Qd.goal (r.Qb.getD i.toNat default)) 0 1000000 with
     |true=>
      have hp3:Qz (kK B r i Qn):=by
       have s2:=QY (ps:=r.Qb) q0;exact⟨⟨trivial,(by have t_:=jh (Qd.goal (r.Qb.getD i.toNat default)) (0) (1000000);rw[q3]at t_;exact t_)⟩,KE⟩
      cases q4:WK (Qd.glo (r.Qb.getD i.toNat default)) (Qd.ghi (r.Qb.getD i.toNat default)) 0 2000 with
      |true=>
       have hp4:Qz (kJ B r i Qn):=by
        have s2:=QY (ps:=r.Qb) q0;exact⟨⟨trivial,(by have t_:=pG (Qd.glo (r.Qb.getD i.toNat default)) (Qd.ghi (r.Qb.getD i.toNat default)) (2000);rw[q4]at t_;exact t_)⟩,hp3⟩
       cases q5:WQ (Qd.drift (r.Qb.getD i.toNat default)) 0 1000 with
       |true=>
        have hp5:Qz (kI B r i Qn):=by
         have s2:=QY (ps:=r.Qb) q0;exact⟨(Xy (by omega) (by omega)),⟨⟨trivial,(by have t_:=jh (Qd.drift (r.Qb.getD i.toNat default)) (0) (1000);rw[q5]at t_;exact t_)⟩,hp4⟩⟩
        cases q6:WQ (Qd.into (r.Qb.getD i.toNat default)) (-1) ((↑r.Qb.length:Int)-1)with
        |true=>
         have hp6:Qz (kH B r i Qn):=by
          have s2:=QY (ps:=r.Qb) q0;exact⟨⟨trivial,(by have t_:=jh (Qd.into (r.Qb.getD i.toNat default)) (-1) ((↑r.Qb.length:Int)-1);rw[q6]at t_;exact t_)⟩,hp5⟩
         by_cases q7:(Qd.into (r.Qb.getD i.toNat default):Int)=(i)
         ·have s2:=QY (ps:=r.Qb) q0;exact(GoE.endsT okF hJ Qf XM (EU B r i Qn)
           ⟨(Pc q7),hp6⟩).cast (by(rw[s2];rw[s3]at *;simp_all[Z2,XR];done))
         ·have hp7:Qz (kG B r i Qn):=by
           exact⟨(Pd q7),hp6⟩
          cases q8:WK (Qd.olo (r.Qb.getD i.toNat default)) (Qd.ohi (r.Qb.getD i.toNat default)) 0 1000000 with
          |true=>
           have hp8:Qz (kF B r i Qn):=by
            have s2:=QY (ps:=r.Qb) q0;exact⟨⟨trivial,(by have t_:=pG (Qd.olo (r.Qb.getD i.toNat default)) (Qd.ohi (r.Qb.getD i.toNat default)) (1000000);rw[q8]at t_;exact t_)⟩,hp7⟩
           cases q9:WK (Qd.slo (r.Qb.getD i.toNat default)) (Qd.shi (r.Qb.getD i.toNat default)) 0 1000000 with
           |true=>
            have hp9:Qz (kE B r i Qn):=by
             have s2:=QY (ps:=r.Qb) q0;exact⟨⟨trivial,(by have t_:=pG (Qd.slo (r.Qb.getD i.toNat default)) (Qd.shi (r.Qb.getD i.toNat default)) (1000000);rw[q9]at t_;exact t_)⟩,hp8⟩
            by_cases q10:(Qd.olo (r.Qb.getD i.toNat default):Int)<(Qd.slo (r.Qb.getD i.toNat default))
            ·have s2:=QY (ps:=r.Qb) q0;exact(GoE.endsT okF hJ Qf XM (ET B r i Qn)
              ⟨(XF q10),hp9⟩).cast (by(rw[s2];rw[s3]at *;simp_all[Z2,XR];omega))
            ·have hp10:Qz (eU B r i Qn):=by
              exact⟨(XO (Int.not_lt.1 q10)),hp9⟩
             by_cases q11:(Qd.ohi (r.Qb.getD i.toNat default):Int)<(Qd.shi (r.Qb.getD i.toNat default))
             ·have s2:=QY (ps:=r.Qb) q0;exact(GoE.endsT okF hJ Qf XM (ES B r i Qn)
               ⟨(XF q11),hp10⟩).cast (by(rw[s2];rw[s3]at *;simp_all[Z2,XR];omega))
             ·have hp11:Qz (eT B r i Qn):=by
               exact⟨(XO (Int.not_lt.1 q11)),hp10⟩
              cases q12:WQ (Qd.worth (r.Qb.getD i.toNat default)) 0 1000000 with
              |true=>
               have s2:=QY (ps:=r.Qb) q0;exact((ih0 _ (by omega)) (i+1) rfl (by omega)
                (XM.landM okF hJ Qf (EP B r i Qn)
                ⟨(Xy (by omega) (by omega)),⟨⟨trivial,(by have t_:=jh (Qd.worth (r.Qb.getD i.toNat default)) (0) (1000000);rw[q12]at t_;exact t_)⟩,hp11⟩⟩ (by kernel_rfl) (by kernel_rfl))).cast (by(rw[s2];rw[s3]at *;simp_all[Z2,XR];done))
              |false=>
               have s2:=QY (ps:=r.Qb) q0;exact(GoE.endsT okF hJ Qf XM (EO B r i Qn)
                ⟨⟨trivial,(by have t_:=jh (Qd.worth (r.Qb.getD i.toNat default)) (0) (1000000);rw[q12]at t_;exact t_)⟩,hp11⟩).cast (by(rw[s2];rw[s3]at *;simp_all[Z2,XR];done))
           |false=>
            have s2:=QY (ps:=r.Qb) q0;exact(GoE.endsT okF hJ Qf XM (EN B r i Qn)
             ⟨⟨trivial,(by have t_:=pG (Qd.slo (r.Qb.getD i.toNat default)) (Qd.shi (r.Qb.getD i.toNat default)) (1000000);rw[q9]at t_;exact t_)⟩,hp8⟩).cast (by(rw[s2];rw[s3]at *;simp_all[Z2,XR];done))
          |false=>
           have s2:=QY (ps:=r.Qb) q0;exact(GoE.endsT okF hJ Qf XM (EM B r i Qn)
            ⟨⟨trivial,(by have t_:=pG (Qd.olo (r.Qb.getD i.toNat default)) (Qd.ohi (r.Qb.getD i.toNat default)) (1000000);rw[q8]at t_;exact t_)⟩,hp7⟩).cast (by(rw[s2];rw[s3]at *;simp_all[Z2,XR];done))
        |false=>
         have s2:=QY (ps:=r.Qb) q0;exact(GoE.endsT okF hJ Qf XM (EL B r i Qn)
          ⟨⟨trivial,(by have t_:=jh (Qd.into (r.Qb.getD i.toNat default)) (-1) ((↑r.Qb.length:Int)-1);rw[q6]at t_;exact t_)⟩,hp5⟩).cast (by(rw[s2];rw[s3]at *;simp_all[Z2,XR];done))
       |false=>
        have s2:=QY (ps:=r.Qb) q0;exact(GoE.endsT okF hJ Qf XM (EK B r i Qn)
         ⟨⟨trivial,(by have t_:=jh (Qd.drift (r.Qb.getD i.toNat default)) (0) (1000);rw[q5]at t_;exact t_)⟩,hp4⟩).cast (by(rw[s2];rw[s3]at *;simp_all[Z2,XR];done))
      |false=>
       have s2:=QY (ps:=r.Qb) q0;exact(GoE.endsT okF hJ Qf XM (EJ B r i Qn)
        ⟨⟨trivial,(by have t_:=pG (Qd.glo (r.Qb.getD i.toNat default)) (Qd.ghi (r.Qb.getD i.toNat default)) (2000);rw[q4]at t_;exact t_)⟩,hp3⟩).cast (by(rw[s2];rw[s3]at *;simp_all[Z2,XR];done))
     |false=>
      have s2:=QY (ps:=r.Qb) q0;exact(GoE.endsT okF hJ Qf XM (Co B r i Qn)
       ⟨⟨trivial,(by have t_:=jh (Qd.goal (r.Qb.getD i.toNat default)) (0) (1000000);rw[q3]at t_;exact t_)⟩,KE⟩).cast (by(rw[s2];rw[s3]at *;simp_all[Z2,XR];done))
    |false=>
     have s2:=QY (ps:=r.Qb) q0;exact(GoE.endsT okF hJ Qf XM (Cn B r i Qn)
      ⟨⟨trivial,(by have t_:=jh (Qd.room (r.Qb.getD i.toNat default)) (0) (1000000);rw[q2]at t_;exact t_)⟩,JE⟩).cast (by(rw[s2];rw[s3]at *;simp_all[Z2,XR];done))
   |false=>
    have s2:=QY (ps:=r.Qb) q0;exact(GoE.endsT okF hJ Qf XM (Cm B r i Qn)
     ⟨⟨trivial,(by have t_:=jh (Qd.count (r.Qb.getD i.toNat default)) (0) (1000000);rw[q1]at t_;exact t_)⟩,WB⟩).cast (by(rw[s2];rw[s3]at *;simp_all[Z2,XR];done))
  ·have hp12:Qz (eS B r i Qn):=by
    exact⟨(XO (Int.not_lt.1 q0)),trivial⟩
   cases q1:WQ (↑r.Qb.length:Int) 1 4 with
   |true=>
    have hp13:Qz (eQ B r i Qn):=by
     have s2:=VW (ps:=r.Qb) (i:=i) (by omega);exact⟨⟨trivial,(by have t_:=jh ((↑r.Qb.length:Int)) (1) (4);rw[q1]at t_;exact t_)⟩,hp12⟩
    cases q2:WQ r.miss 0 2000 with
    |true=>
     have hp14:Qz (eP B r i Qn):=by
      have s2:=VW (ps:=r.Qb) (i:=i) (by omega);exact⟨⟨trivial,(by have t_:=jh r.miss (0) (2000);rw[q2]at t_;exact t_)⟩,hp13⟩
     cases q3:WQ r.seasons 1 4 with
     |true=>
      have s2:=VW (ps:=r.Qb) (i:=i) (by omega);exact(GoE.endsT okF hJ Qf XM (Cl B r i Qn)
       ⟨⟨trivial,(by have t_:=jh r.seasons (1) (4);rw[q3]at t_;exact t_)⟩,hp14⟩).cast (by(rw[s2];simp_all[KR];done))
     |false=>
      have s2:=VW (ps:=r.Qb) (i:=i) (by omega);exact(GoE.endsT okF hJ Qf XM (Ck B r i Qn)
       ⟨⟨trivial,(by have t_:=jh r.seasons (1) (4);rw[q3]at t_;exact t_)⟩,hp14⟩).cast (by(rw[s2];simp_all[KR];done))
    |false=>
     have s2:=VW (ps:=r.Qb) (i:=i) (by omega);exact(GoE.endsT okF hJ Qf XM (Cj B r i Qn)
      ⟨⟨trivial,(by have t_:=jh r.miss (0) (2000);rw[q2]at t_;exact t_)⟩,hp13⟩).cast (by(rw[s2];simp_all[KR];done))
   |false=>
    have s2:=VW (ps:=r.Qb) (i:=i) (by omega);exact(GoE.endsT okF hJ Qf XM (Ci B r i Qn)
     ⟨⟨trivial,(by have t_:=jh ((↑r.Qb.length:Int)) (1) (4);rw[q1]at t_;exact t_)⟩,hp12⟩).cast (by(rw[s2];simp_all[KR];done))
set_option maxHeartbeats 4000000 in
theorem I4(r:Qe)  (Xt:r.Qb.length<=9223372036854775807){B:Lo}(hJ:∀w,B.has w->J0 w):EndsT YP B (Qp YP 20 111 (([.agg (Q0 r).toArray]).map (Q2 0 4))) (.bool (QD r)):=by
 exact((EV r Xt hJ _) (0) rfl (by omega)
  (GoE.start.landM okF hJ Qf (Ch B r)
  trivial (by kernel_rfl) (by kernel_rfl))).cast (by(simp only[QD];rw[Bool.and_comm];done))
theorem Mj(r:Qe)  :Qx YP J0 20 #[.agg (Q0 r).toArray] (.bool (QD r)):=
 Va (ts:=[.agg (Q0 r).toArray]) (r.Qb.length<=9223372036854775807) (fun _ _ ht=>ht.ln2 (i:=0) (j:=0) rfl rfl) Za (c0:=Qp YP 20 111 (([.agg (Q0 r).toArray]).map (Q2 0 4))) (by kernel_rfl) (by kernel_rfl) fun Xt B hJ=>I4 r  Xt hJ
end
end Go.Proofs.Ytncjjangllkokaa

namespace Go.Proofs.Ytncjjangllkokaa
open Go Go.CE Go.RowKit
noncomputable section
set_option maxRecDepth 100000
theorem MW:((Vz 0:Nat):Int)=1:=rfl
theorem C7{i:Int}(h:0<=i):((Vz (i+1):Nat):Int)=2*((Vz i:Nat):Int):=by
 unfold Vz;rw[show(i+1).toNat=i.toNat+1 by omega,Nat.pow_succ];omega
def hasB(n k:Int):Bool:=n.toNat.testBit k.toNat
theorem Hr{n k:Int}(hn:0<=n)(hk:1<=k):hasB n k=hasB (n / 2) (k-1):=by
 unfold hasB;obtain⟨j,hj⟩:∃j,k.toNat=j+1:=⟨k.toNat-1,by omega⟩
 rw[hj,show(k-1).toNat=j by omega,Nat.testBit_succ,show(n / 2).toNat=n.toNat / 2 by omega]
theorem On{n:Int}(hn:0<=n):hasB n 0=decide (n % 2=1):=by
 unfold hasB;rw[show(0:Int).toNat=0 from rfl,Nat.testBit_zero];exact decide_eq_decide.2 (by omega)
theorem rv{n k:Int}:decide (((tl ((bk n k:Nat):Int) 1:Nat):Int)=1)=hasB n k:=by
 unfold hasB tl bk;rw[Int.toNat_natCast,show(1:Int).toNat=1 from rfl,Nat.and_one_is_mod,Nat.shiftRight_eq_div_pow,Nat.testBit_eq_decide_div_mod_eq];exact decide_eq_decide.2 (by omega)
def QL(r:Qe)(Qa:List Int):List Value:=[UN r.Qb,.int .i64 r.miss,.int .i64 r.seasons,.int .i64 (Qa.getD 0 0),.int .i64 (Qa.getD 1 0),.int .i64 (Qa.getD 2 0),.int .i64 (Qa.getD 3 0)]
theorem QM{r:Qe}{Qa:List Int}(h:QG r Qa=true):Qa.length=r.seasons/\∀x∈Qa,0<=x/\x<Vz r.Qb.length:=by
 simp only[QG,YB,decide_eq_true_iff,List.all_eq_true,VL]at h;exact⟨h.1,fun x hx=>by have:=h.2 x hx;omega⟩
def S8(r:Qe)(s i:Int):List Value:=[pA 2 0,.int .i64 s,.int .i64 i]
def KU(r:Qe)(s i:Int):List Obj:=[Obj.cells #[Qt 1 (QE r.Qb.length (Qg Qh r.Qb)),.int .i64 r.miss,.int .i64 r.seasons] 24]
def S9:List Item:=([.code [1,1,0,1,0,0],.inLoop [1,1,0,1,0,0],.inBlock 0,.code [1,1,1]]).map (it (QT YP 69))
def EH(B:Lo)(c0:CF)(r:Qe)(s i:Int):Prop:=∃dJ:Nat->Value,(∀t,X6 (dJ t))/\GoE YP B c0 XV 1 (QJ 69 15 (([1,3,4]:List Nat).zip (S8 r s i)) dJ S9) (QH (KU r s i)) (2+(KU r s i).length) []
theorem EF(B:Lo)(r:Qe)(s i:Int)(Qn:Nat->Value):landM (Qq YP (Q3 YP) J0 B 11 1 (QJ 69 15 (([1,3,4]:List Nat).zip (S8 r s i)) Qn S9) (QH (KU r s i)) (2+(KU r s i).length)
 [(4,Wo),(6,VE (2*s)),(9,VE (i+1))] 0 [] []) [1,3,4] [(2,KS.auto)] []=some ⟨69,15,S9,[],.run,none,S8 r (2*s) (i+1),KU r (2*s) (i+1),
 [wq (i+1)=i+1,wq (2*s)=2*s,XU i (↑r.Qb.length:Int)=true]⟩:=by kernel_rfl
theorem EE(B:Lo)(r:Qe)(s i:Int)(Qn:Nat->Value):QQ (Qq YP (Q3 YP) J0 B 9 1 (QJ 69 15 (([1,3,4]:List Nat).zip (S8 r s i)) Qn S9) (QH (KU r s i)) (2+(KU r s i).length)
 [(4,W8)] 0 [] []) []=some (.int .i64 s,
 [XU i (↑r.Qb.length:Int)=false]):=by kernel_rfl
theorem ED(B:Lo)(r:Qe):landM (Qq YP (Q3 YP) J0 B 9 1 (Qp YP 69 15 (([.agg (Q0 r).toArray]).map (Q2 0 4))) XV 1
 [] 0 [] []) [1,3,4] [(1,KS.auto)] []=some ⟨69,15,S9,[],.run,none,S8 r (1) (0),KU r (1) (0),
 []⟩:=by kernel_rfl
set_option maxHeartbeats 4000000 in
theorem EG(r:Qe)(hn:r.Qb.length<=61){B:Lo}(hJ:∀w,B.has w->J0 w){c0:CF}:∀m:Nat,(∀(s i:Int),r.Qb.length-i.toNat=m->∀(h0:0<=i) (h1:i<=r.Qb.length) (hs:s=((Vz i:Nat):Int)),EH B c0 r s i->EndsT YP B c0 (.int .i64 ((Vz r.Qb.length:Nat):Int))):=by
 intro m0;induction m0 using Nat.strongRecOn with
 |_ m0 ih0=>
  intro s i hm0 h0 h1 hs ⟨Qn,Ur,XM⟩;have e1:=RN (n:=i) (by omega);have e2:=C7 (i:=i) h0;by_cases q0:(i:Int)<((↑r.Qb.length:Int))
  ·have e3:=RN (n:=i+1) (by omega);exact((ih0 _ (by omega)) (2*s) (i+1) rfl (by omega) (by omega) (by omega)
    (XM.landM okF hJ Qf (EF B r s i Qn)
    ⟨(Xy (by omega) (by omega)),⟨(Xy (by omega) (by omega)),⟨(XF q0),trivial⟩⟩⟩ (by kernel_rfl) (by kernel_rfl))).cast (by rfl)
  ·have e3:=RN (n:=i+1) (by omega);exact(GoE.endsT okF hJ Qf XM (EE B r s i Qn)
    ⟨(XO (Int.not_lt.1 q0)),trivial⟩).cast (by(rw[hs,show i=r.Qb.length by omega];done))
set_option maxHeartbeats 4000000 in
theorem I3(r:Qe)(hn:r.Qb.length<=61){B:Lo}(hJ:∀w,B.has w->J0 w):EndsT YP B (Qp YP 69 15 (([.agg (Q0 r).toArray]).map (Q2 0 4))) (.int .i64 ((Vz r.Qb.length:Nat):Int)):=by
 exact((EG r hn hJ _) (1) (0) rfl (by omega) (by omega) (by exact MW.symm)
  (GoE.start.landM okF hJ Qf (ED B r)
  trivial (by kernel_rfl) (by kernel_rfl))).cast (by rfl)
theorem NM(r:Qe)(hn:r.Qb.length<=61):Qx YP J0 69 #[.agg (Q0 r).toArray] (.int .i64 ((Vz r.Qb.length:Nat):Int)):=
 Xn (ts:=[.agg (Q0 r).toArray]) Za (c0:=Qp YP 69 15 (([.agg (Q0 r).toArray]).map (Q2 0 4))) (by kernel_rfl) (by kernel_rfl) fun B hJ=>I3 r hn hJ
def Jj(r:Qe)(Qa:List Int)(i:Int):List Value:=[Qt 1 (QE Qa.length (Qg Q9 Qa)),pA 2 0,.int .i64 i]
def Vy(r:Qe)(Qa:List Int)(i:Int):List Obj:=[Obj.cells #[Qt 1 (QE r.Qb.length (Qg Qh r.Qb)),.int .i64 r.miss,.int .i64 r.seasons] 24]
def Jk:List Item:=([.code [1,0,1,0,0],.inLoop [1,0,1,0,0],.inBlock 0,.code [1,1]]).map (it (QT YP 41))
def Fe(B:Lo)(c0:CF)(r:Qe)(Qa:List Int)(i:Int):Prop:=∃dJ:Nat->Value,(∀t,X6 (dJ t))/\GoE YP B c0 XV 1 (QJ 41 26 (([1,2,5]:List Nat).zip (Jj r Qa i)) dJ Jk) (QH (Vy r Qa i)) (2+(Vy r Qa i).length) []
def uz(r:Qe)(Qa:List Int)(i:Int):Array Value:=#[.int .i64 (Qa.getD i.toNat default),.int .i64 0,.int .i64 ((↑(Vz (↑r.Qb.length:Int)):Int)-1)]
def uy(r:Qe):Value:=(.int .i64 (↑(Vz (↑r.Qb.length:Int)):Int))
def kP(B:Lo)(r:Qe)(Qa:List Int)(i:Int)(Qn:Nat->Value):List Prop:=let a:=List.length r.Qb;[wq ((↑(Vz (↑a:Int)):Int)-1)=(↑(Vz (↑a:Int)):Int)-1,Qz []/\Qx YP J0 69 #[.agg #[QE a (Qg Qh r.Qb),.int .i64 r.miss,.int .i64 r.seasons]] (uy r),Ue i Qa.length (Qg Q9 Qa) Try.t3.size #[.int .i64 (Qa.getD i.toNat default)],XU i (↑Qa.length:Int)=true]++([]:List Prop)
def u3(r:Qe)(Qa:List Int)(i:Int)(Qn:Nat->Value):Q5:=[(3,Wo),(6,Qk.tidx i.toNat #[.int .i64 (Qa.getD i.toNat default)]),(9,Qk.pure (uy r) []),(10,VE ((↑(Vz (↑r.Qb.length:Int)):Int)-1))]
theorem Fb(B:Lo)(r:Qe)(Qa:List Int)(i:Int)(Qn:Nat->Value):landM (Qq YP (Q3 YP) J0 B 14 1 (QJ 41 26 (([1,2,5]:List Nat).zip (Jj r Qa i)) Qn Jk) (QH (Vy r Qa i)) (2+(Vy r Qa i).length)
 (u3 r Qa i Qn++[(11,Qk.pure (.bool true) []),(14,VE (i+1))]) 0 [] []) [1,2,5] [(2,KS.auto)] []=some ⟨41,26,Jk,[],.run,none,Jj r Qa (i+1),Vy r Qa (i+1),
 [wq (i+1)=i+1,Qz []/\Qx YP J0 55 (uz r Qa i) (.bool true)]++kP B r Qa i Qn⟩:=by kernel_rfl
theorem Fa(B:Lo)(r:Qe)(Qa:List Int)(i:Int)(Qn:Nat->Value):QQ (Qq YP (Q3 YP) J0 B 14 1 (QJ 41 26 (([1,2,5]:List Nat).zip (Jj r Qa i)) Qn Jk) (QH (Vy r Qa i)) (2+(Vy r Qa i).length)
 (u3 r Qa i Qn++[(11,Qk.pure (.bool false) [])]) 0 [] []) []=some (.bool false,
 [Qz []/\Qx YP J0 55 (uz r Qa i) (.bool false)]++kP B r Qa i Qn):=by kernel_rfl
def kO(B:Lo)(r:Qe)(Qa:List Int)(i:Int)(Qn:Nat->Value):List Prop:=[XU i (↑Qa.length:Int)=false]++([]:List Prop)
def u0(r:Qe)(Qa:List Int)(i:Int)(Qn:Nat->Value):Q5:=[(3,W8)]
theorem EZ(B:Lo)(r:Qe)(Qa:List Int)(i:Int)(Qn:Nat->Value):QQ (Qq YP (Q3 YP) J0 B 9 1 (QJ 41 26 (([1,2,5]:List Nat).zip (Jj r Qa i)) Qn Jk) (QH (Vy r Qa i)) (2+(Vy r Qa i).length)
 (u0 r Qa i Qn++[(8,Wo)]) 0 [] []) []=some (.bool true,
 [Km (↑Qa.length:Int) r.seasons=true]++kO B r Qa i Qn):=by kernel_rfl
theorem EY(B:Lo)(r:Qe)(Qa:List Int)(i:Int)(Qn:Nat->Value):QQ (Qq YP (Q3 YP) J0 B 9 1 (QJ 41 26 (([1,2,5]:List Nat).zip (Jj r Qa i)) Qn Jk) (QH (Vy r Qa i)) (2+(Vy r Qa i).length)
 (u0 r Qa i Qn++[(8,W8)]) 0 [] []) []=some (.bool false,
 [Km (↑Qa.length:Int) r.seasons=false]++kO B r Qa i Qn):=by kernel_rfl
theorem EX(B:Lo)(r:Qe)(Qa:List Int):landM (Qq YP (Q3 YP) J0 B 7 1 (Qp YP 41 26 (([.agg (Q0 r).toArray,Xr Qa]).map (Q2 0 4))) XV 1
 [] 0 [] []) [1,2,5] [(1,KS.auto)] []=some ⟨41,26,Jk,[],.run,none,Jj r Qa (0),Vy r Qa (0),
 []⟩:=by kernel_rfl
set_option maxHeartbeats 4000000 in
theorem Fc(r:Qe)(Qa:List Int)(hn:r.Qb.length<=61)(Xt:Qa.length<=9223372036854775807){B:Lo}(hJ:∀w,B.has w->J0 w){c0:CF}:∀m:Nat,(∀(i:Int),Qa.length-i.toNat=m->∀(h0:0<=i),Fe B c0 r Qa i->EndsT YP B c0 (.bool ((Qa.drop i.toNat).all (fun x=>WQ x 0 (((Vz r.Qb.length:Nat):Int)-1)) && decide (Qa.length=r.seasons)))):=by
 intro m0;induction m0 using Nat.strongRecOn with
 |_ m0 ih0=>
  intro i hm0 h0 ⟨Qn,Ur,XM⟩;have e1:=RN (n:=r.Qb.length) (by omega);have e1:=RN (n:=r.Qb.length) (by omega);by_cases q0:(i:Int)<((↑Qa.length:Int))
  ·have WB:Qz (kP B r Qa i Qn):=by
    have s2:=Uu (l:=Qa) (p:=fun x=>WQ x 0 (((Vz r.Qb.length:Nat):Int)-1)) h0 q0;exact⟨(Xy (by omega) (by omega)),⟨⟨trivial,NM (r) (by with_reducible assumption)⟩,⟨⟨by omega,by omega,(Q4 (z:=1) (fun _=>rfl) (by omega))⟩,⟨(XF q0),trivial⟩⟩⟩⟩
   cases q1:WQ (Qa.getD i.toNat default) 0 ((↑(Vz (↑r.Qb.length:Int)):Int)-1)with
   |true=>
    have s2:=Uu (l:=Qa) (p:=fun x=>WQ x 0 (((Vz r.Qb.length:Nat):Int)-1)) h0 q0;exact((ih0 _ (by omega)) (i+1) rfl (by omega)
     (XM.landM okF hJ Qf (Fb B r Qa i Qn)
     ⟨(Xy (by omega) (by omega)),⟨⟨trivial,(by have t_:=jh (Qa.getD i.toNat default) (0) ((↑(Vz (↑r.Qb.length:Int)):Int)-1);rw[q1]at t_;exact t_)⟩,WB⟩⟩ (by kernel_rfl) (by kernel_rfl))).cast (by(rw[s2];simp_all;done))
   |false=>
    have s2:=Uu (l:=Qa) (p:=fun x=>WQ x 0 (((Vz r.Qb.length:Nat):Int)-1)) h0 q0;exact(GoE.endsT okF hJ Qf XM (Fa B r Qa i Qn)
     ⟨⟨trivial,(by have t_:=jh (Qa.getD i.toNat default) (0) ((↑(Vz (↑r.Qb.length:Int)):Int)-1);rw[q1]at t_;exact t_)⟩,WB⟩).cast (by(rw[s2];simp_all;done))
  ·have JE:Qz (kO B r Qa i Qn):=by
    exact⟨(XO (Int.not_lt.1 q0)),trivial⟩
   by_cases q1:((↑Qa.length:Int):Int)=r.seasons
   ·have s2:=aD (l:=Qa) (p:=fun x=>WQ x 0 (((Vz r.Qb.length:Nat):Int)-1)) (i:=i) (by omega);exact(GoE.endsT okF hJ Qf XM (EZ B r Qa i Qn)
     ⟨(Pc q1),JE⟩).cast (by(rw[s2];simp[*];done))
   ·have s2:=aD (l:=Qa) (p:=fun x=>WQ x 0 (((Vz r.Qb.length:Nat):Int)-1)) (i:=i) (by omega);exact(GoE.endsT okF hJ Qf XM (EY B r Qa i Qn)
     ⟨(Pd q1),JE⟩).cast (by(rw[s2];simp[*];done))
set_option maxHeartbeats 4000000 in
theorem I5(r:Qe)(Qa:List Int)(hn:r.Qb.length<=61)(Xt:Qa.length<=9223372036854775807){B:Lo}(hJ:∀w,B.has w->J0 w):EndsT YP B (Qp YP 41 26 (([.agg (Q0 r).toArray,Xr Qa]).map (Q2 0 4))) (.bool (QG r Qa)):=by
 have e1:=RN (n:=r.Qb.length) (by omega);exact((Fc r Qa hn Xt hJ _) (0) rfl (by omega)
  (GoE.start.landM okF hJ Qf (EX B r Qa)
  trivial (by kernel_rfl) (by kernel_rfl))).cast (by(simp[QG,Bool.and_comm];done))
theorem Mk(r:Qe)(Qa:List Int)(hn:r.Qb.length<=61):Qx YP J0 41 #[.agg (Q0 r).toArray,Xr Qa] (.bool (QG r Qa)):=
 Va (ts:=[.agg (Q0 r).toArray,Xr Qa]) (Qa.length<=9223372036854775807) (fun _ _ ht=>ht.ln (i:=1) rfl) Za (c0:=Qp YP 41 26 (([.agg (Q0 r).toArray,Xr Qa]).map (Q2 0 4))) (by kernel_rfl) (by kernel_rfl) fun Xt B hJ=>I5 r Qa hn Xt hJ
def TN(n k:Int)(x i:Int):List Value:=[.int .i64 x,.int .i64 k,.int .i64 i]
def KM(n k:Int)(x i:Int):List Obj:=[]
def TO:List Item:=([.code [1,0,1,0,0],.inLoop [1,0,1,0,0],.inBlock 0,.code [1,1]]).map (it (QT YP 47))
def IC(B:Lo)(c0:CF)(n k:Int)(x i:Int):Prop:=∃dJ:Nat->Value,(∀t,X6 (dJ t))/\GoE YP B c0 XV 1 (QJ 47 16 (([0,1,5]:List Nat).zip (TN n k x i)) dJ TO) (QH (KM n k x i)) (2+(KM n k x i).length) []
theorem IA(B:Lo)(n k:Int)(x i:Int)(Qn:Nat->Value):let a:=Int.tdiv x 2;landM (Qq YP (Q3 YP) J0 B 11 1 (QJ 47 16 (([0,1,5]:List Nat).zip (TN n k x i)) Qn TO) (QH (KM n k x i)) (2+(KM n k x i).length)
 [(2,Wo),(4,VE a),(7,VE (i+1))] 0 [] []) [0,1,5] [] []=some ⟨47,16,TO,[],.run,none,TN n k a (i+1),KM n k a (i+1),
 [wq (i+1)=i+1,IntKind.wrap .i64 a=Int.tdiv x 2,XU i k=true]⟩:=by intro a;kernel_rfl
def r4(B:Lo)(n k:Int)(x i:Int)(Qn:Nat->Value):List Prop:=[XU i k=false]++([]:List Prop)
def Bb(n k:Int)(x i:Int)(Qn:Nat->Value):Q5:=[(2,W8)]
theorem I9(B:Lo)(n k:Int)(x i:Int)(Qn:Nat->Value):QQ (Qq YP (Q3 YP) J0 B 9 1 (QJ 47 16 (([0,1,5]:List Nat).zip (TN n k x i)) Qn TO) (QH (KM n k x i)) (2+(KM n k x i).length)
 (Bb n k x i Qn++[(5,Wo)]) 0 [] []) []=some (.bool true,
 [Km (Int.tmod x 2) 1=true]++r4 B n k x i Qn):=by kernel_rfl
theorem I8(B:Lo)(n k:Int)(x i:Int)(Qn:Nat->Value):QQ (Qq YP (Q3 YP) J0 B 9 1 (QJ 47 16 (([0,1,5]:List Nat).zip (TN n k x i)) Qn TO) (QH (KM n k x i)) (2+(KM n k x i).length)
 (Bb n k x i Qn++[(5,W8)]) 0 [] []) []=some (.bool false,
 [Km (Int.tmod x 2) 1=false]++r4 B n k x i Qn):=by kernel_rfl
theorem I7(B:Lo)(n k:Int):landM (Qq YP (Q3 YP) J0 B 7 1 (Qp YP 47 16 (([.int .i64 n,.int .i64 k]).map (Q2 0 4))) XV 1
 [] 0 [] []) [0,1,5] [] []=some ⟨47,16,TO,[],.run,none,TN n k (n) (0),KM n k (n) (0),
 []⟩:=by kernel_rfl
set_option maxHeartbeats 4000000 in
theorem IB(n k:Int)(hn:0<=n/\n<=1000000000)(hk:0<=k/\k<=1000000000){B:Lo}(hJ:∀w,B.has w->J0 w){c0:CF}:∀m:Nat,(∀(x i:Int),(k-i).toNat=m->∀(h0:0<=i) (h1:i<=k) (h2:0<=x/\x<=1000000000) (hx:hasB x (k-i)=hasB n k),IC B c0 n k x i->EndsT YP B c0 (.bool (hasB n k))):=by
 intro m0;induction m0 using Nat.strongRecOn with
 |_ m0 ih0=>
  intro x i hm0 h0 h1 h2 hx ⟨Qn,Ur,XM⟩;have e1:x.tdiv 2=x / 2:=Int.tdiv_eq_ediv_of_nonneg h2.1;have e2:x.tmod 2=x % 2:=Int.tmod_eq_emod_of_nonneg h2.1;have e4:=On (n:=x) h2.1;by_cases q0:(i:Int)<(k)
  ·have e3:=Hr (n:=x) (k:=k-i) h2.1 (by omega);exact((ih0 _ (by omega)) (Int.tdiv x 2) (i+1) rfl (by omega) (by omega) (by omega) (by(rw[<-hx,e3,e1,show k-(i+1)=k-i-1 by omega];done))
    (XM.landM okF hJ Qf (IA B n k x i Qn)
    ⟨(Xy (by omega) (by omega)),⟨(Ty (by omega) (by omega)),⟨(XF q0),trivial⟩⟩⟩ (by kernel_rfl) (by kernel_rfl))).cast (by rfl)
  ·have WB:Qz (r4 B n k x i Qn):=by
    exact⟨(XO (Int.not_lt.1 q0)),trivial⟩
   by_cases q1:(Int.tmod x 2:Int)=(1)
   ·exact(GoE.endsT okF hJ Qf XM (I9 B n k x i Qn)
     ⟨(Pc q1),WB⟩).cast (by(rw[<-hx,show k-i=0 by omega,e4];simp[*];omega))
   ·exact(GoE.endsT okF hJ Qf XM (I8 B n k x i Qn)
     ⟨(Pd q1),WB⟩).cast (by(rw[<-hx,show k-i=0 by omega,e4];simp[*];omega))
set_option maxHeartbeats 4000000 in
theorem MK(n k:Int)(hn:0<=n/\n<=1000000000)(hk:0<=k/\k<=1000000000){B:Lo}(hJ:∀w,B.has w->J0 w):EndsT YP B (Qp YP 47 16 (([.int .i64 n,.int .i64 k]).map (Q2 0 4))) (.bool (hasB n k)):=by
 exact((IB n k hn hk hJ _) (n) (0) rfl (by omega) (by omega) (by with_reducible assumption) (by(simp_all;done))
  (GoE.start.landM okF hJ Qf (I7 B n k)
  trivial (by kernel_rfl) (by kernel_rfl))).cast (by rfl)
theorem oH(n k:Int)(hn:0<=n/\n<=1000000000)(hk:0<=k/\k<=1000000000):Qx YP J0 47 #[.int .i64 n,.int .i64 k] (.bool (hasB n k)):=
 Xn (ts:=[.int .i64 n,.int .i64 k]) Za (c0:=Qp YP 47 16 (([.int .i64 n,.int .i64 k]).map (Q2 0 4))) (by kernel_rfl) (by kernel_rfl) fun B hJ=>MK n k hn hk hJ
def lC(r:Qe)(Qa:List Int):Array Value:=#[QE Qa.length (Qg Q9 Qa),.int .i64 0,.int .i64 ((↑(Vz (↑r.Qb.length:Int)):Int)-1)]
def lB(r:Qe):Value:=(.int .i64 (↑(Vz (↑r.Qb.length:Int)):Int))
def b6(B:Lo)(r:Qe)(Qa:List Int):List Prop:=let a:=List.length r.Qb;[wq ((↑(Vz (↑a:Int)):Int)-1)=(↑(Vz (↑a:Int)):Int)-1,oD YP BinOp.shl 3 (.int .i64 1) (X7 {len:=16000,tr:=Tri.set 14 Tri.lf 14 (.int .i64 (↑a:Int))} 14) (lB r),Km (↑Qa.length:Int) r.seasons=true]++([]:List Prop)
def lD(r:Qe)(Qa:List Int):Q5:=[(6,Wo),(12,Qk.bin (lB r)),(13,VE ((↑(Vz (↑r.Qb.length:Int)):Int)-1))]
theorem zE(B:Lo)(r:Qe)(Qa:List Int):QQ (Qq YP (Q3 YP) J0 B 6 1 (Qp YP 51 19 (([.agg (Q0 r).toArray,Xr Qa]).map (Q2 0 4))) XV 1
 (lD r Qa++[(14,Qk.pure (.bool true) [])]) 0 [] []) []=some (.bool true,
 [Qz []/\Qx YP J0 74 (lC r Qa) (.bool true)]++b6 B r Qa):=by kernel_rfl
theorem zD(B:Lo)(r:Qe)(Qa:List Int):QQ (Qq YP (Q3 YP) J0 B 6 1 (Qp YP 51 19 (([.agg (Q0 r).toArray,Xr Qa]).map (Q2 0 4))) XV 1
 (lD r Qa++[(14,Qk.pure (.bool false) [])]) 0 [] []) []=some (.bool false,
 [Qz []/\Qx YP J0 74 (lC r Qa) (.bool false)]++b6 B r Qa):=by kernel_rfl
theorem zC(B:Lo)(r:Qe)(Qa:List Int):QQ (Qq YP (Q3 YP) J0 B 6 1 (Qp YP 51 19 (([.agg (Q0 r).toArray,Xr Qa]).map (Q2 0 4))) XV 1
 [(6,W8)] 0 [] []) []=some (.bool false,
 [Km (↑Qa.length:Int) r.seasons=false]):=by kernel_rfl
set_option maxHeartbeats 4000000 in
theorem C9(r:Qe)(Qa:List Int)(hn:r.Qb.length<=61)(Xt:Qa.length<=9223372036854775807){B:Lo}(hJ:∀w,B.has w->J0 w):EndsT YP B (Qp YP 51 19 (([.agg (Q0 r).toArray,Xr Qa]).map (Q2 0 4))) (.bool (QG r Qa)):=by
 have e1:=RN (n:=r.Qb.length) (by omega);by_cases q0:((↑Qa.length:Int):Int)=r.seasons
 ·have WB:Qz (b6 B r Qa):=by
   exact⟨(Xy (by omega) (by omega)),⟨(HT (by omega) (by omega)),⟨(Pc q0),trivial⟩⟩⟩
  cases q1:List.all Qa fun x=>WQ x 0 ((↑(Vz (↑r.Qb.length:Int)):Int)-1)with
  |true=>
   exact(GoE.endsT okF hJ Qf GoE.start (zE B r Qa)
    ⟨⟨trivial,(by have t_:=G7 (Qa) (0) ((↑(Vz (↑r.Qb.length:Int)):Int)-1);rw[q1]at t_;exact t_)⟩,WB⟩).cast (by(simp[QG, *];done))
  |false=>
   exact(GoE.endsT okF hJ Qf GoE.start (zD B r Qa)
    ⟨⟨trivial,(by have t_:=G7 (Qa) (0) ((↑(Vz (↑r.Qb.length:Int)):Int)-1);rw[q1]at t_;exact t_)⟩,WB⟩).cast (by(simp[QG, *];done))
 ·exact(GoE.endsT okF hJ Qf GoE.start (zC B r Qa)
   ⟨(Pd q0),trivial⟩).cast (by(simp[QG, *];done))
theorem jj(r:Qe)(Qa:List Int)(hn:r.Qb.length<=61):Qx YP J0 51 #[.agg (Q0 r).toArray,Xr Qa] (.bool (QG r Qa)):=
 Va (ts:=[.agg (Q0 r).toArray,Xr Qa]) (Qa.length<=9223372036854775807) (fun _ _ ht=>ht.ln (i:=1) rfl) Za (c0:=Qp YP 51 19 (([.agg (Q0 r).toArray,Xr Qa]).map (Q2 0 4))) (by kernel_rfl) (by kernel_rfl) fun Xt B hJ=>C9 r Qa hn Xt hJ
def cq(r:Qe):Value:=(QE r.Qb.length (Qg Qh r.Qb))
def cu(r:Qe)(Qa:List Int):Array Value:=#[Qt 0 (cq r),.int .i64 r.miss,.int .i64 r.seasons,.int .i64 (Qa.getD 0 default),.int .i64 (Qa.getD 1 default),.int .i64 (Qa.getD 2 default),.int .i64 (Qa.getD 3 default)]
def cr(r:Qe):Array Value:=#[Qt 0 (cq r),.int .i64 r.miss,.int .i64 r.seasons,.int .i64 0,.int .i64 0,.int .i64 0,.int .i64 0]
theorem r6(B:Lo)(r:Qe)(Qa:List Int):let c:=Qg Q9 Qa;let b:=List.length Qa;let a:=Array.map (ZA 0) (Array.extract c 0 (Nat.min b 4*TypeInfo.size Try.t3));QQ (Qq YP (Q3 YP) J0 B 10 1 (Qp YP 52 13 (([.agg (Q0 r).toArray,Xr Qa]).map (Q2 0 4))) XV 1
 [(9,Qk.tcpy (cu r Qa))] 0 [] []) []=some (.agg #[QE r.Qb.length (Qg Qh r.Qb),.int .i64 r.miss,.int .i64 r.seasons,.int .i64 (Qa.getD 0 default),.int .i64 (Qa.getD 1 default),.int .i64 (Qa.getD 2 default),.int .i64 (Qa.getD 3 default)],
 [0<List.length Qa/\3+Nat.min b 4*TypeInfo.size Try.t3<=Array.size (cr r)/\Nat.min b 4*TypeInfo.size Try.t3<=Array.size c/\(Array.all c fun v=>simple v || W6 v)=true/\ones a=true/\splice (cr r) 3 a=(cu r Qa)]):=by intro c b a;kernel_rfl
set_option maxHeartbeats 4000000 in
theorem uI(r:Qe)(Qa:List Int)(h0:0<Qa.length)(hl:Qa.length<=4){B:Lo}(hJ:∀w,B.has w->J0 w):EndsT YP B (Qp YP 52 13 (([.agg (Q0 r).toArray,Xr Qa]).map (Q2 0 4))) (.agg (QL r Qa).toArray):=by
 exact(GoE.endsT okF hJ Qf GoE.start (r6 B r Qa)
  ⟨(oh (fun _=>rfl) rfl (by omega) (by omega) rfl (YL rfl) rfl),trivial⟩).cast (by rfl)
theorem pW(r:Qe)(Qa:List Int)(h0:0<Qa.length)(hl:Qa.length<=4):Qx YP J0 52 #[.agg (Q0 r).toArray,Xr Qa] (.agg (QL r Qa).toArray):=
 Xn (ts:=[.agg (Q0 r).toArray,Xr Qa]) Za (c0:=Qp YP 52 13 (([.agg (Q0 r).toArray,Xr Qa]).map (Q2 0 4))) (by kernel_rfl) (by kernel_rfl) fun B hJ=>uI r Qa h0 hl hJ
theorem DJ(B:Lo)(r:Qe):QQ (Qq YP (Q3 YP) J0 B 6 1 (Qp YP 15 7 (([.agg (Q0 r).toArray]).map (Q2 0 4))) XV 1
 [(5,Wo)] 0 [] []) []=some (.bool true,
 [(!XU 8 (↑r.Qb.length:Int))=true]):=by kernel_rfl
theorem DI(B:Lo)(r:Qe):QQ (Qq YP (Q3 YP) J0 B 6 1 (Qp YP 15 7 (([.agg (Q0 r).toArray]).map (Q2 0 4))) XV 1
 [(5,W8)] 0 [] []) []=some (.bool false,
 [(!XU 8 (↑r.Qb.length:Int))=false]):=by kernel_rfl
set_option maxHeartbeats 4000000 in
theorem GN(r:Qe)  (Xt:r.Qb.length<=9223372036854775807){B:Lo}(hJ:∀w,B.has w->J0 w):EndsT YP B (Qp YP 15 7 (([.agg (Q0 r).toArray]).map (Q2 0 4))) (.bool (decide (r.Qb.length<=8))):=by
 by_cases q0:((↑r.Qb.length:Int):Int)<=(8)
 ·exact(GoE.endsT okF hJ Qf GoE.start (DJ B r)
   ⟨(Ua q0),trivial⟩).cast (by(simp_all[];omega))
 ·exact(GoE.endsT okF hJ Qf GoE.start (DI B r)
   ⟨(Ub (Int.not_le.1 q0)),trivial⟩).cast (by(simp_all[];omega))
theorem GO(r:Qe)  :Qx YP J0 15 #[.agg (Q0 r).toArray] (.bool (decide (r.Qb.length<=8))):=
 Va (ts:=[.agg (Q0 r).toArray]) (r.Qb.length<=9223372036854775807) (fun _ _ ht=>ht.ln2 (i:=0) (j:=0) rfl rfl) Za (c0:=Qp YP 15 7 (([.agg (Q0 r).toArray]).map (Q2 0 4))) (by kernel_rfl) (by kernel_rfl) fun Xt B hJ=>GN r  Xt hJ
def a9(r:Qe):Array Value:=#[QE r.Qb.length (Qg Qh r.Qb),.int .i64 r.miss,.int .i64 r.seasons]
def fE(B:Lo)(r:Qe)(Qa:List Int):List Prop:=[Qz []/\Qx YP J0 20 #[.agg (a9 r)] (.bool true)]++([]:List Prop)
def qM(r:Qe)(Qa:List Int):Q5:=[(3,Qk.pure (.bool true) [])]
theorem DO(B:Lo)(r:Qe)(Qa:List Int):QQ (Qq YP (Q3 YP) J0 B 6 1 (Qp YP 21 12 (([.agg (Q0 r).toArray,Xr Qa]).map (Q2 0 4))) XV 1
 (qM r Qa++[(7,Qk.pure (.bool true) [])]) 0 [] []) []=some (.bool true,
 [Qz []/\Qx YP J0 41 #[.agg (a9 r),QE Qa.length (Qg Q9 Qa)] (.bool true)]++fE B r Qa):=by kernel_rfl
theorem DN(B:Lo)(r:Qe)(Qa:List Int):QQ (Qq YP (Q3 YP) J0 B 6 1 (Qp YP 21 12 (([.agg (Q0 r).toArray,Xr Qa]).map (Q2 0 4))) XV 1
 (qM r Qa++[(7,Qk.pure (.bool false) [])]) 0 [] []) []=some (.bool false,
 [Qz []/\Qx YP J0 41 #[.agg (a9 r),QE Qa.length (Qg Q9 Qa)] (.bool false)]++fE B r Qa):=by kernel_rfl
theorem DM(B:Lo)(r:Qe)(Qa:List Int):QQ (Qq YP (Q3 YP) J0 B 6 1 (Qp YP 21 12 (([.agg (Q0 r).toArray,Xr Qa]).map (Q2 0 4))) XV 1
 [(3,Qk.pure (.bool false) [])] 0 [] []) []=some (.bool false,
 [Qz []/\Qx YP J0 20 #[.agg (a9 r)] (.bool false)]):=by kernel_rfl
set_option maxHeartbeats 4000000 in
theorem Hj(r:Qe)(Qa:List Int)  {B:Lo}(hJ:∀w,B.has w->J0 w):EndsT YP B (Qp YP 21 12 (([.agg (Q0 r).toArray,Xr Qa]).map (Q2 0 4))) (.bool (QD r && QG r Qa)):=by
 cases q0:QD r with
 |true=>
  have WB:Qz (fE B r Qa):=by
   have Zm:=(Qy (Q7 ‹QD r=true›).1).1;exact⟨⟨trivial,(by have t_:=Mj (r);rw[q0]at t_;exact t_)⟩,trivial⟩
  cases q1:QG r Qa with
  |true=>
   have Zm:=(Qy (Q7 ‹QD r=true›).1).1;exact(GoE.endsT okF hJ Qf GoE.start (DO B r Qa)
    ⟨⟨trivial,(by have t_:=Mk (r) (Qa) (by omega);rw[q1]at t_;exact t_)⟩,WB⟩).cast (by rfl)
  |false=>
   have Zm:=(Qy (Q7 ‹QD r=true›).1).1;exact(GoE.endsT okF hJ Qf GoE.start (DN B r Qa)
    ⟨⟨trivial,(by have t_:=Mk (r) (Qa) (by omega);rw[q1]at t_;exact t_)⟩,WB⟩).cast (by rfl)
 |false=>
  exact(GoE.endsT okF hJ Qf GoE.start (DM B r Qa)
   ⟨⟨trivial,(by have t_:=Mj (r);rw[q0]at t_;exact t_)⟩,trivial⟩).cast (by rfl)
theorem As(r:Qe)(Qa:List Int)  :Qx YP J0 21 #[.agg (Q0 r).toArray,Xr Qa] (.bool (QD r && QG r Qa)):=
 Xn (ts:=[.agg (Q0 r).toArray,Xr Qa]) Za (c0:=Qp YP 21 12 (([.agg (Q0 r).toArray,Xr Qa]).map (Q2 0 4))) (by kernel_rfl) (by kernel_rfl) fun B hJ=>Hj r Qa  hJ
theorem GK(B:Lo)(a b:Int):QQ (Qq YP (Q3 YP) J0 B 6 1 (Qp YP 46 8 (([.int .i64 a,.int .i64 b]).map (Q2 0 4))) XV 1
 [] 0 [] []) []=some (.agg #[.int .i64 a,.int .i64 b],
 []):=by kernel_rfl
set_option maxHeartbeats 4000000 in
theorem Ll(a b:Int)  {B:Lo}(hJ:∀w,B.has w->J0 w):EndsT YP B (Qp YP 46 8 (([.int .i64 a,.int .i64 b]).map (Q2 0 4))) (.agg #[.int .i64 a,.int .i64 b]):=by
 exact(GoE.endsT okF hJ Qf GoE.start (GK B a b)
  trivial).cast (by rfl)
theorem Mm(a b:Int)  :Qx YP J0 46 #[.int .i64 a,.int .i64 b] (.agg #[.int .i64 a,.int .i64 b]):=
 Xn (ts:=[.int .i64 a,.int .i64 b]) Za (c0:=Qp YP 46 8 (([.int .i64 a,.int .i64 b]).map (Q2 0 4))) (by kernel_rfl) (by kernel_rfl) fun B hJ=>Ll a b  hJ
end
end Go.Proofs.Ytncjjangllkokaa

namespace Go.Proofs.Ytncjjangllkokaa
open Go Go.CE Go.RowKit
noncomputable section
set_option maxRecDepth 100000
def Jv(p:Int->Bool)(q:Int->Int)(a b u:Int):Int×Int:=
 if h:0<=a/\a<b then(if p ((a+b).tdiv 2)=true then Jv p q a ((a+b).tdiv 2) (q ((a+b).tdiv 2))else Jv p q ((a+b).tdiv 2+1) b (q ((a+b).tdiv 2)))else(a,u)
termination_by (b-a).toNat
decreasing_by all_goals (have:=Int.tdiv_eq_ediv_of_nonneg (a:=a+b) (b:=2) (by omega);omega)
theorem b9{a b:Int}(h0:0<=a)(h1:a<b):a<=(a+b).tdiv 2/\(a+b).tdiv 2<b:=by
 have:=Int.tdiv_eq_ediv_of_nonneg (a:=a+b) (b:=2) (by omega);omega
theorem mm{p:Int->Bool}{q:Int->Int}{a b u:Int}(h:a=b):Jv p q a b u=(a,u):=by
 rw[Jv,dif_neg (by omega)]
theorem dq{p:Int->Bool}{q:Int->Int}{a b u:Int}(h0:0<=a)(h1:a<b)(hp:p ((a+b).tdiv 2)=true):Jv p q a b u=Jv p q a ((a+b).tdiv 2) (q ((a+b).tdiv 2)):=by
 rw[Jv,dif_pos ⟨h0,h1⟩,if_pos hp]
theorem jl{p:Int->Bool}{q:Int->Int}{a b u:Int}(h0:0<=a)(h1:a<b)(hp:p ((a+b).tdiv 2)=false):Jv p q a b u=Jv p q ((a+b).tdiv 2+1) b (q ((a+b).tdiv 2)):=by
 rw[Jv,dif_pos ⟨h0,h1⟩,if_neg (by rw[hp];decide)]
theorem D1{p:Int->Bool}{q:Int->Int}:∀(n:Nat) (a b u:Int),(b-a).toNat=n->0<=a->a<=b->(∀r r',a<=r->r<=r'->r'<b->p r=true->p r'=true)->
 a<=(Jv p q a b u).1/\(Jv p q a b u).1<=b/\(∀r,a<=r->r<(Jv p q a b u).1->p r=false)/\(∀r,(Jv p q a b u).1<=r->r<b->p r=true):=by
 intro n;induction n using Nat.strongRecOn with
 |_ n ih=>
  intro a b u hn h0 h1 hm;by_cases e:a=b
  ·rw[mm e];exact⟨Int.le_refl _,h1,fun r h2 h3=>by omega,fun r h2 h3=>by omega⟩
  ·have hi:=b9 h0 (show a<b by omega);cases hp:p ((a+b).tdiv 2)with
   |true=>
    rw[dq h0 (by omega) hp];have:=ih _ (by omega) a ((a+b).tdiv 2) (q ((a+b).tdiv 2)) rfl h0 hi.1 (fun r r' g1 g2 g3=>hm r r' g1 g2 (by omega));refine⟨this.1,by omega,this.2.2.1,fun r h2 h3=> ?_⟩;by_cases e2:r<(a+b).tdiv 2
    ·exact this.2.2.2 r h2 e2
    ·exact hm _ r hi.1 (by omega) h3 hp
   |false=>
    rw[jl h0 (by omega) hp];have:=ih _ (by omega) ((a+b).tdiv 2+1) b (q ((a+b).tdiv 2)) rfl (by omega) (by omega) (fun r r' g1 g2 g3=>hm r r' (by omega) g2 g3);refine⟨by omega,this.2.1,fun r h2 h3=> ?_,this.2.2.2⟩;by_cases e2:(a+b).tdiv 2<r
    ·exact this.2.2.1 r (by omega) h3
    ·cases hr:p r with
     |false=>rfl
     |true=>have:=hm r _ h2 (by omega) hi.2 hr;rw[hp]at this;cases this
theorem Lg{p:Int->Bool}{q:Int->Int}:∀(n:Nat) (a b u:Int),(b-a).toNat=n->0<=a->a<=b->a<=(Jv p q a b u).1/\(Jv p q a b u).1<=b:=by
 intro n;induction n using Nat.strongRecOn with
 |_ n ih=>
  intro a b u hn h0 h1;by_cases e:a=b
  ·rw[mm e];exact⟨Int.le_refl _,h1⟩
  ·have hi:=b9 h0 (show a<b by omega);cases hp:p ((a+b).tdiv 2)with
   |true=>rw[dq h0 (by omega) hp];have:=ih _ (by omega) a ((a+b).tdiv 2) (q ((a+b).tdiv 2)) rfl h0 hi.1;omega
   |false=>rw[jl h0 (by omega) hp];have:=ih _ (by omega) ((a+b).tdiv 2+1) b (q ((a+b).tdiv 2)) rfl (by omega) (by omega);omega
theorem Nm{a b:Int}(h0:0<=a)(h1:a<=b):a<=(a+b).tdiv 2/\(a+b).tdiv 2<=b:=by
 have:=Int.tdiv_eq_ediv_of_nonneg (a:=a+b) (b:=2) (by omega);omega
def Yk(miss n:Int):Int:=n+(n*miss).tdiv 1000
def nR(room f g:Int):Int:=if room<=f then 0 else if(f*g).tdiv 1000<room-f then(f*g).tdiv 1000 else room-f
theorem Po{a r:Int}(ha:0<=a/\a<=1000000000000)(hr:0<=r/\r<=2000):0<=a*r/\a*r<=2000000000000000/\0<=(a*r).tdiv 1000/\(a*r).tdiv 1000<=2000000000000:=by
 have e0:0<=a*r:=Int.mul_nonneg ha.1 hr.1;have e1:a*r<=1000000000000*2000:=Int.mul_le_mul ha.2 hr.2 hr.1 (by omega);have e2:(a*r).tdiv 1000=(a*r) / 1000:=Int.tdiv_eq_ediv_of_nonneg e0;omega
theorem Lj{a r:Int}(ha:0<=a/\a<=1000000000000)(hr:0<=r/\r<=2000):a<=Yk r a/\Yk r a<=3000000000000:=by
 have:=Po ha hr;unfold Yk;omega
theorem Ff(B:Lo)(r:Qe)(n:Int):let a:=n*r.miss;let b:=n+Int.tdiv a 1000;QQ (Qq YP (Q3 YP) J0 B 6 1 (Qp YP 60 12 (([.agg (Q0 r).toArray,.int .i64 n]).map (Q2 0 4))) XV 1
 [(6,VE a),(7,VE (Int.tdiv a 1000)),(8,VE b)] 0 [] []) []=some (.int .i64 b,
 [wq b=n+Int.tdiv a 1000,IntKind.wrap .i64 (Int.tdiv a 1000)=Int.tdiv a 1000,wq a=n*r.miss]):=by intro a b;kernel_rfl
set_option maxHeartbeats 4000000 in
theorem I6(r:Qe)(n:Int)(hm:0<=r.miss/\r.miss<=2000)(hn:0<=n/\n<=1000000000000){B:Lo}(hJ:∀w,B.has w->J0 w):EndsT YP B (Qp YP 60 12 (([.agg (Q0 r).toArray,.int .i64 n]).map (Q2 0 4))) (.int .i64 (Yk r.miss n)):=by
 have e0:=Po hn hm;exact(GoE.endsT okF hJ Qf GoE.start (Ff B r n)
  ⟨(Xy (by omega) (by omega)),⟨(Ty (by omega) (by omega)),⟨(Xy (by omega) (by omega)),trivial⟩⟩⟩).cast (by rfl)
theorem NN(r:Qe)(n:Int)(hm:0<=r.miss/\r.miss<=2000)(hn:0<=n/\n<=1000000000000):Qx YP J0 60 #[.agg (Q0 r).toArray,.int .i64 n] (.int .i64 (Yk r.miss n)):=
 Xn (ts:=[.agg (Q0 r).toArray,.int .i64 n]) Za (c0:=Qp YP 60 12 (([.agg (Q0 r).toArray,.int .i64 n]).map (Q2 0 4))) (by kernel_rfl) (by kernel_rfl) fun B hJ=>I6 r n hm hn hJ
theorem Cg(B:Lo)(x:Qd)  :QQ (Qq YP (Q3 YP) J0 B 10 1 (Qp YP 61 10 (([.agg (Qh x).toArray,.bool true]).map (Q2 0 4))) XV 1
 [] 0 [] []) []=some (.agg #[.int .i64 x.slo,.int .i64 x.shi],
 []):=by kernel_rfl
theorem Cf(B:Lo)(x:Qd)  :QQ (Qq YP (Q3 YP) J0 B 11 1 (Qp YP 61 10 (([.agg (Qh x).toArray,.bool false]).map (Q2 0 4))) XV 1
 [] 0 [] []) []=some (.agg #[.int .i64 x.olo,.int .i64 x.ohi],
 []):=by kernel_rfl
set_option maxHeartbeats 4000000 in
theorem E8(x:Qd)(b:Bool)  {B:Lo}(hJ:∀w,B.has w->J0 w):EndsT YP B (Qp YP 61 10 (([.agg (Qh x).toArray,.bool b]).map (Q2 0 4))) (.agg #[.int .i64 (if b then x.slo else x.olo),.int .i64 (if b then x.shi else x.ohi)]):=by
 cases b with
 |true=>
  exact(GoE.endsT okF hJ Qf GoE.start (Cg B x)
   trivial).cast (by rfl)
 |false=>
  exact(GoE.endsT okF hJ Qf GoE.start (Cf B x)
   trivial).cast (by rfl)
theorem Pn(x:Qd)(b:Bool)  :Qx YP J0 61 #[.agg (Qh x).toArray,.bool b] (.agg #[.int .i64 (if b then x.slo else x.olo),.int .i64 (if b then x.shi else x.ohi)]):=
 Xn (ts:=[.agg (Qh x).toArray,.bool b]) Za (c0:=Qp YP 61 10 (([.agg (Qh x).toArray,.bool b]).map (Q2 0 4))) (by kernel_rfl) (by kernel_rfl) fun B hJ=>E8 x b  hJ
def kQ(n a b:Int):Array Value:=#[.int .i64 n,.int .i64 a,.int .i64 b]
theorem zg(B:Lo)(n a b:Int):QQ (Qq YP (Q3 YP) J0 B 6 1 (Qp YP 32 11 (([.int .i64 n,.agg #[.int .i64 a,.int .i64 b]]).map (Q2 0 4))) XV 1
 [(7,Qk.pure (.bool true) [])] 0 [] []) []=some (.bool true,
 [Qz []/\Qx YP J0 55 (kQ n a b) (.bool true)]):=by kernel_rfl
theorem zf(B:Lo)(n a b:Int):QQ (Qq YP (Q3 YP) J0 B 6 1 (Qp YP 32 11 (([.int .i64 n,.agg #[.int .i64 a,.int .i64 b]]).map (Q2 0 4))) XV 1
 [(7,Qk.pure (.bool false) [])] 0 [] []) []=some (.bool false,
 [Qz []/\Qx YP J0 55 (kQ n a b) (.bool false)]):=by kernel_rfl
set_option maxHeartbeats 4000000 in
theorem Cp(n a b:Int)  {B:Lo}(hJ:∀w,B.has w->J0 w):EndsT YP B (Qp YP 32 11 (([.int .i64 n,.agg #[.int .i64 a,.int .i64 b]]).map (Q2 0 4))) (.bool (WQ n a b)):=by
 cases q0:WQ n a b with
 |true=>
  exact(GoE.endsT okF hJ Qf GoE.start (zg B n a b)
   ⟨⟨trivial,(by have t_:=jh (n) (a) (b);rw[q0]at t_;exact t_)⟩,trivial⟩).cast (by rfl)
 |false=>
  exact(GoE.endsT okF hJ Qf GoE.start (zf B n a b)
   ⟨⟨trivial,(by have t_:=jh (n) (a) (b);rw[q0]at t_;exact t_)⟩,trivial⟩).cast (by rfl)
theorem TM(n a b:Int)  :Qx YP J0 32 #[.int .i64 n,.agg #[.int .i64 a,.int .i64 b]] (.bool (WQ n a b)):=
 Xn (ts:=[.int .i64 n,.agg #[.int .i64 a,.int .i64 b]]) Za (c0:=Qp YP 32 11 (([.int .i64 n,.agg #[.int .i64 a,.int .i64 b]]).map (Q2 0 4))) (by kernel_rfl) (by kernel_rfl) fun B hJ=>Cp n a b  hJ
def Xl(x:Qd):Span:=⟨x.glo,x.ghi⟩
def WS(x:Qd):Span:=⟨x.olo,x.ohi⟩
def Xw(miss:Int)(x:Qd):Span:=⟨x.count,Yk miss x.count⟩
def ay(x_:Qd):Array Value:=#[.int .i64 x_.count,.int .i64 x_.room,.int .i64 x_.glo,.int .i64 x_.ghi,.int .i64 x_.drift,.int .i64 x_.into,.int .i64 x_.olo,.int .i64 x_.ohi,.int .i64 x_.slo,.int .i64 x_.shi,.int .i64 x_.goal,.int .i64 x_.worth]
def Rf(xs:List Qd)(i:Int):=(xs.getD i.toNat default)
def qx(xs:List Qd)(i:Int):Value:=(.agg #[.int .i64 (Qd.glo (Rf xs i)),.int .i64 (Qd.ghi (Rf xs i))])
def Dk(xs:List Qd)(i:Int)(ys:List Span):Array Value:=(Qg Xg (List.set ys i.toNat {lo:=Qd.glo (Rf xs i),hi:=Qd.ghi (Rf xs i)}))
def qw(xs:List Qd):Array Value:=(Qg (U0 [.int .i64 0,.int .i64 0]) (List.replicate xs.length ()))
def Rg(xs:List Qd)(i:Int)(ys:List Span):List Value:=[Value.func (Fn.func 104) #[] #[],.slice (some {block:=2,off:=0}) xs.length 2,Qt 1 (QE xs.length (Qg Qh xs)),.int .i64 (↑xs.length:Int),.int .i64 i]
def Kg(xs:List Qd)(i:Int)(ys:List Span):List Obj:=[.cells (Qg Xg ys) 38 (0,0)]
def Rh:List Item:=([.code [1,1,0,1,0,0],.inLoop [1,1,0,1,0,0],.inBlock 0,.code [1,1,1]]).map (it (QT YP 102))
def Dr(B:Lo)(c0:CF)(xs:List Qd)(i:Int)(ys:List Span):Prop:=∃dJ:Nat->Value,(∀t,X6 (dJ t))/\GoE YP B c0 XV 1 (QJ 102 26 (([1,5,11,12,13]:List Nat).zip (Rg xs i ys)) dJ Rh) (QH (Kg xs i ys)) (2+(Kg xs i ys).length) []
def Ri(xs:List Qd)(i:Int)(ys:List Span)(Qn:Nat->Value):Qo:=[(3,Obj.cells (ay (xs.getD i.toNat default)) 54),(0,Obj.coro none),(1,Obj.coro none),(2,Obj.cells (Qg Xg ys) 38)]
def az(xs:List Qd)(i:Int)(ys:List Span)(Qn:Nat->Value):CF:=⟨104,ofList 5 [.agg (ay (xs.getD i.toNat default))],[Item.code (QT YP 104)],[],.run,none⟩
theorem Dp(B:Lo)(xs:List Qd)(i:Int)(ys:List Span)(Qn:Nat->Value):CE.finK 4 (Qq YP (Q3 YP) J0 B 6 4 (az xs i ys Qn) (Ri xs i ys Qn) 4
 [] 0 [] []) [] [] []=some (OO.ret (qx xs i),[],[],
 []):=by kernel_rfl
theorem Dn(B:Lo)(xs:List Qd)(i:Int)(ys:List Span)(Qn:Nat->Value):let f:=qx xs i;let e:=Rf xs i;let c:=Dk xs i ys;let b:=Int.toNat i;let d:=xs.getD b default;let a:=List.set ys b {lo:=e.glo,hi:=e.ghi};landM (Qq YP (Q3 YP) J0 B 13 1 (QJ 102 26 (([1,5,11,12,13]:List Nat).zip (Rg xs i ys)) Qn Rh) (QH (Kg xs i ys)) (2+(Kg xs i ys).length)
 [(0,Wo),(2,Qk.tidx b (ay e)),(11,Qk.call (List.range 4) (OO.ret f) ([]++(4,Xa)::QU 5 []) 5 []),(12,Qk.ZH (Hint.idx b)),(13,Qk.ZH (Hint.st c)),(14,VE (i+1))] 0 [] []) [1,5,11,12,13] [(2,KS.cells [] c)] []=some ⟨102,26,Rh,[],.run,none,Rg xs (i+1) a,Kg xs (i+1) a,
 [XA 1 [] c c,wq (i+1)=i+1,0+Int.toNat i*2+TypeInfo.size Try.t38<=Array.size (Qg Xg ys)/\splice (Qg Xg ys) (0+Int.toNat i*2) (Value.cells (X7 {len:=16000,tr:=Tri.set 14 (Tri.set 14 Tri.lf 22 f) 23 (.pointer (some {block:=2,off:=0+Int.toNat i*2}))} 22))=Qg Xg (List.set ys b {lo:=d.glo,hi:=d.ghi}),i=(↑b:Int)/\Int.toNat i<List.length xs,FJ YP B (az xs i ys Qn) (Ri xs i ys Qn) 4 (OO.ret f) (([]++((4,Xa)::QU (4+1) []))++Ri xs i ys Qn) 5 (List.range 4) [],Ue i xs.length (Qg Qh xs) Try.t54.size (ay d),XU i (↑xs.length:Int)=true]⟩:=by intro f e c b d a;kernel_rfl
theorem Dm(B:Lo)(xs:List Qd)(i:Int)(ys:List Span)(Qn:Nat->Value):let a:=Fz.cs {k:=2,rs:=[],cs:=Qg Xg ys};QQ (Qq YP (Q3 YP) J0 B 9 1 (QJ 102 26 (([1,5,11,12,13]:List Nat).zip (Rg xs i ys)) Qn Rh) (QH (Kg xs i ys)) (2+(Kg xs i ys).length)
 [(0,W8)] 0 [] []) [{k:=2,rs:=[],cs:=Qg Xg ys}]=some (QE xs.length a,
 [Zu (Fz.rs {k:=2,rs:=[],cs:=Qg Xg ys}) (Qg Xg ys) a,XU i (↑xs.length:Int)=false]):=by intro a;kernel_rfl
theorem Dl(B:Lo)(xs:List Qd):let c:=List.length xs;let b:=X7 {len:=16000,tr:=Tri.set 14 Tri.lf 9 (.int .i64 (↑c:Int))} 9;let a:=List.replicate c {lo:=0,hi:=0};landM (Qq YP (Q3 YP) J0 B 9 1 (Qp YP 102 26 (([UN xs,.func (.func 104) #[] #[]]).map (Q2 0 4))) XV 1
 [(3,Qk.ZH (Hint.mk c (qw xs)))] 0 [] []) [1,5,11,12,13] [(1,KS.rows [] [] [] (Qg Xg a))] []=some ⟨102,26,Rh,[],.run,none,Rg xs (0) a,Kg xs (0) a,
 [XX 1 [] [] [] (qw xs) (Qg Xg a),Rw YP 36 b b=some (38,Qg (U0 [.int .i64 0,.int .i64 0]) (List.replicate c ()),List.length xs,TypeInfo.size Try.t38)]⟩:=by intro c b a;kernel_rfl
set_option maxHeartbeats 4000000 in
theorem Dq(xs:List Qd)(hn:xs.length<=1000000){B:Lo}(hJ:∀w,B.has w->J0 w){c0:CF}:∀m:Nat,(∀(i:Int) (ys:List Span),(xs.length-i.toNat)=m->∀(h0:0<=i) (hy:ys=Pe Xl ⟨0,0⟩ xs i),Dr B c0 xs i ys->EndsT YP B c0 (KQ (xs.map Xl))):=by
 intro m0;induction m0 using Nat.strongRecOn with
 |_ m0 ih0=>
  intro i ys hm0 h0 hy ⟨Qn,Ur,XM⟩;have hyl:ys.length=xs.length:=by rw[hy];exact Rq
  by_cases q0:(i:Int)<((↑xs.length:Int))
  ·have rj0:FJ YP B (az xs i ys Qn) (Ri xs i ys Qn) 4 (OO.ret (.agg #[.int .i64 (Qd.glo (xs.getD i.toNat default)),.int .i64 (Qd.ghi (xs.getD i.toNat default))])) (([]++((4,Xa)::QU (4+1) []))++Ri xs i ys Qn) 5 (List.range 4) []:=by
    exact FinK.fjB (GoE.finK okF hJ Qf (Q1 (by kernel_rfl)) (Qr (by kernel_rfl)) ((GoE.refl (P:=YP) (B:=B) (c0:=az xs i ys Qn) (Q1 (by kernel_rfl))).widen (Wf:=((([]):List (Nat×KS)).map (·.1))) (by simp) (Qr (by kernel_rfl))) (Dp B xs i ys Qn)
     trivial) (ex:=[2]) (by kernel_rfl) ⟨trivial,⟨trivial,⟨trivial,⟨(Yl (t:=38) (fl:=(0,0)) (fun x=>List.all_eq_true.1 (by rfl))),trivial⟩⟩⟩⟩
   exact((ih0 _ (by omega)) (i+1) (List.set ys i.toNat {lo:=Qd.glo (xs.getD i.toNat default),hi:=Qd.ghi (xs.getD i.toNat default)}) rfl (by omega) (by(subst hy;exact Rp (f:=Xl) h0 q0))
    (XM.landM okF hJ Qf (Dn B xs i ys Qn)
    (by exact⟨(QK (QN (fun x=>List.all_eq_true.1 (by rfl)))),⟨(Xy (by omega) (by omega)),⟨(by exact P6 (z:=2) (k:=Int.toNat i) (fun _=>rfl) (by first|omega|(rw[List.length_set];omega)|(rw[List.length_replicate];omega)) rfl rfl),⟨⟨by omega,by omega⟩,⟨rj0,⟨⟨by omega,by omega,(Q4 (z:=12) (fun _=>rfl) (by omega))⟩,⟨(XF q0),trivial⟩⟩⟩⟩⟩⟩⟩) (by kernel_rfl) (by kernel_rfl))).cast (by rfl)
  ·exact(GoE.endsT okF hJ Qf XM (Dm B xs i ys Qn)
    ⟨(Zd (fun x=>List.all_eq_true.1 (by rfl))),⟨(XO (Int.not_lt.1 q0)),trivial⟩⟩).cast (by exact cb (hy.trans (Rt (by omega))) (by simp))
set_option maxHeartbeats 4000000 in
theorem G5(xs:List Qd)(hn:xs.length<=1000000){B:Lo}(hJ:∀w,B.has w->J0 w):EndsT YP B (Qp YP 102 26 (([UN xs,.func (.func 104) #[] #[]]).map (Q2 0 4))) (KQ (xs.map Xl)):=by
 exact((Dq xs hn hJ _) (0) (List.replicate xs.length {lo:=0,hi:=0}) rfl (by omega) (by exact dL)
  (GoE.start.landM okF hJ Qf (Dl B xs)
  (by exact⟨(by exact(Uj (by exact⟨(.simple rfl),⟨(.simple rfl),trivial⟩⟩) _)),⟨(fN (bytes:=16) (by kernel_rfl) (by omega) (by omega) (by omega)),trivial⟩⟩) (by kernel_rfl) (by kernel_rfl))).cast (by rfl)
theorem Nh(xs:List Qd)(hn:xs.length<=1000000):Qx YP J0 102 #[UN xs,.func (.func 104) #[] #[]] (KQ (xs.map Xl)):=
 Xn (ts:=[UN xs,.func (.func 104) #[] #[]]) Za (c0:=Qp YP 102 26 (([UN xs,.func (.func 104) #[] #[]]).map (Q2 0 4))) (by kernel_rfl) (by kernel_rfl) fun B hJ=>G5 xs hn hJ
def ai(rf:Qe):=(List.map Xl rf.Qb)
def qi(rf:Qe):Value:=(QE (List.length (ai rf)) (Qg Xg (ai rf)))
theorem CA(B:Lo)(rf:Qe)(Qa:List Int):QQ (Qq YP (Q3 YP) J0 B 6 1 (Qp YP 83 7 (([.agg (QL rf Qa).toArray]).map (Q2 0 4))) XV 1
 [(5,Qk.pure (qi rf) [])] 0 [] []) []=some (QE (List.length (ai rf)) (Qg Xg (ai rf)),
 [Qz []/\Qx YP J0 102 #[QE rf.Qb.length (Qg Qh rf.Qb),Value.func (Fn.func 104) #[] #[]] (qi rf)]):=by kernel_rfl
set_option maxHeartbeats 4000000 in
theorem Gb(rf:Qe)(Qa:List Int)(hn:rf.Qb.length<=1000000){B:Lo}(hJ:∀w,B.has w->J0 w):EndsT YP B (Qp YP 83 7 (([.agg (QL rf Qa).toArray]).map (Q2 0 4))) (KQ (rf.Qb.map Xl)):=by
 exact(GoE.endsT okF hJ Qf GoE.start (CA B rf Qa)
  ⟨⟨trivial,Nh rf.Qb (by with_reducible assumption)⟩,trivial⟩).cast (by rfl)
theorem Gd(rf:Qe)(Qa:List Int)(hn:rf.Qb.length<=1000000):Qx YP J0 83 #[.agg (QL rf Qa).toArray] (KQ (rf.Qb.map Xl)):=
 Xn (ts:=[.agg (QL rf Qa).toArray]) Za (c0:=Qp YP 83 7 (([.agg (QL rf Qa).toArray]).map (Q2 0 4))) (by kernel_rfl) (by kernel_rfl) fun B hJ=>Gb rf Qa hn hJ
def RL(x_:Qd):Array Value:=#[.int .i64 x_.count,.int .i64 x_.room,.int .i64 x_.glo,.int .i64 x_.ghi,.int .i64 x_.drift,.int .i64 x_.into,.int .i64 x_.olo,.int .i64 x_.ohi,.int .i64 x_.slo,.int .i64 x_.shi,.int .i64 x_.goal,.int .i64 x_.worth]
def UP(rf:Qe)(i:Int):=(rf.Qb.getD i.toNat default)
def UQ(rf:Qe)(i:Int):=(UP rf i)
def ll(rf:Qe)(i:Int):Value:=(.agg #[.int .i64 (Qd.count (UP rf i)),.int .i64 (Qd.count (UP rf i)+Int.tdiv (Qd.count (UP rf i)*rf.miss) 1000)])
def RK(rf:Qe)(i:Int):=(Qd.count (UQ rf i)*rf.miss)
def lk(rf:Qe)(i:Int)(ys:List Span):Array Value:=(Qg Xg (List.set ys i.toNat {lo:=Qd.count (UP rf i),hi:=Qd.count (UP rf i)+Int.tdiv (Qd.count (UP rf i)*rf.miss) 1000}))
def RI(rf:Qe):=(List.map (Xw rf.miss) rf.Qb)
def zo(rf:Qe):Value:=(Qt 2 (QE (List.length (RI rf)) (Qg Xg (RI rf))))
def lj(rf:Qe)(i:Int):Value:=(.agg #[.int .i64 (Qd.count (UQ rf i)),.int .i64 (Qd.count (UQ rf i)+Int.tdiv (RK rf i) 1000)])
def lh(rf:Qe):Array Value:=(Qg (U0 [.int .i64 0,.int .i64 0]) (List.replicate rf.Qb.length ()))
def kZ(rf:Qe)(i:Int)(ys:List Span):Array Value:=(Qg Xg (List.set ys i.toNat {lo:=Qd.count (UQ rf i),hi:=Qd.count (UQ rf i)+Int.tdiv (RK rf i) 1000}))
def gp(rf:Qe):Array Value:=(Qg Xg (List.replicate rf.Qb.length {lo:=0,hi:=0}))
def WR(rf:Qe)(Qa:List Int):Qo:=[(1,Obj.cells #[Qt 0 (QE rf.Qb.length (Qg Qh rf.Qb)),.int .i64 rf.miss,.int .i64 rf.seasons,.int .i64 (Qa.getD 0 0),.int .i64 (Qa.getD 1 0),.int .i64 (Qa.getD 2 0),.int .i64 (Qa.getD 3 0)] 84),(0,Obj.coro none)]
def K8(rf:Qe)(Qa:List Int):CF:=⟨102,ofList 26 [Qt 0 (QE rf.Qb.length (Qg Qh rf.Qb)),Value.func (Fn.func 103) #[] #[pA 1 0]],[Item.code (QT YP 102)],[],.run,none⟩
def U4(rf:Qe)(Qa:List Int)(i:Int)(ys:List Span):List Value:=[Value.func (Fn.func 103) #[] #[pA 1 0],.slice (some {block:=3,off:=0}) rf.Qb.length 2,Qt 0 (QE rf.Qb.length (Qg Qh rf.Qb)),.int .i64 (↑rf.Qb.length:Int),.int .i64 i]
def U3(rf:Qe)(Qa:List Int)(i:Int)(ys:List Span):List Obj:=[]
def V6(rf:Qe)(Qa:List Int)(i:Int)(ys:List Span):List Obj:=[.cells (Qg Xg ys) 38 (0,0)]
def U5:List Item:=([.code [1,1,0,1,0,0],.inLoop [1,1,0,1,0,0],.inBlock 0,.code [1,1,1]]).map (it (QT YP 102))
def Jo(rf:Qe)(Qa:List Int)(i:Int)(ys:List Span)(Qn:Nat->Value):Qo:=[(4,Obj.cells (RL (rf.Qb.getD i.toNat default)) 54),(2,Obj.coro none),(3,Obj.cells (Qg Xg ys) 38),(1,Obj.cells #[Qt 0 (QE rf.Qb.length (Qg Qh rf.Qb)),.int .i64 rf.miss,.int .i64 rf.seasons,.int .i64 (Qa.getD 0 0),.int .i64 (Qa.getD 1 0),.int .i64 (Qa.getD 2 0),.int .i64 (Qa.getD 3 0)] 84),(0,Obj.coro none)]
def RM(rf:Qe)(Qa:List Int)(i:Int)(ys:List Span)(Qn:Nat->Value):CF:=⟨103,ofList 13 [.agg (RL (rf.Qb.getD i.toNat default)),pA 1 0],[Item.code (QT YP 103)],[],.run,none⟩
theorem zt(B:Lo)(rf:Qe)(Qa:List Int)(i:Int)(ys:List Span)(Qn:Nat->Value):let a:=rf.Qb.getD i.toNat default;CE.finK 5 (Qq YP (Q3 YP) J0 B 6 5 (RM rf Qa i ys Qn) (Jo rf Qa i ys Qn) 5
 [(9,Qk.pure (.int .i64 (Qd.count (UQ rf i)+Int.tdiv (RK rf i) 1000)) [])] 0 [] []) [] [] []=some (OO.ret (lj rf i),[],[],
 [Qz []/\Qx YP J0 100 #[.int .i64 a.count,.int .i64 rf.miss] (.int .i64 (a.count+Int.tdiv (a.count*rf.miss) 1000))]):=by intro a;kernel_rfl
theorem zr(B:Lo)(rf:Qe)(Qa:List Int)(i:Int)(ys:List Span)(Qn:Nat->Value):let f:=V6 rf Qa i ys;let e:=UQ rf i;let d:=Int.toNat i;let c:=rf.Qb;let b:=c.getD d default;let a:=List.set ys d {lo:=e.count,hi:=e.count+Int.tdiv (RK rf i) 1000};CE.landA 2 (Qq YP (Q3 YP) J0 B 13 2 (WO (none) 102 26 (([1,5,11,12,13]:List Nat).zip (U4 rf Qa i ys)) Qn U5) (Z1 (WR rf Qa) 2 (([]:List Nat).zip (U3 rf Qa i ys)) f) (2+1+f.length)
 [(0,Wo),(2,Qk.tidx d (RL e)),(11,Qk.call (List.range 5) (OO.ret (lj rf i)) ([]++(5,Xa)::QU 6 []) 6 []),(12,Qk.ZH (Hint.idx d)),(13,Qk.ZH (Hint.st (kZ rf i ys))),(14,VE (i+1))] 0 [] []) [1,5,11,12,13] [] [(3,KS.cells [] (kZ rf i ys))] []=some ⟨102,26,U5,[],.run,none,U4 rf Qa (i+1) a,([]:List Nat).zip (U3 rf Qa (i+1) a),V6 rf Qa (i+1) a,
 [XA 2 [] (lk rf i ys) (lk rf i ys),wq (i+1)=i+1,0+Int.toNat i*2+TypeInfo.size Try.t38<=Array.size (Qg Xg ys)/\splice (Qg Xg ys) (0+Int.toNat i*2) (Value.cells (X7 {len:=16000,tr:=Tri.set 14 (Tri.set 14 Tri.lf 22 (ll rf i)) 23 (.pointer (some {block:=3,off:=0+Int.toNat i*2}))} 22))=Qg Xg (List.set ys d {lo:=b.count,hi:=b.count+Int.tdiv (b.count*rf.miss) 1000}),i=(↑d:Int)/\Int.toNat i<List.length c,FJ YP B (RM rf Qa i ys Qn) (Jo rf Qa i ys Qn) 5 (OO.ret (ll rf i)) (([]++((5,Xa)::QU (5+1) []))++Jo rf Qa i ys Qn) 6 (List.range 5) [],Ue i c.length (Qg Qh c) Try.t54.size (RL b),XU i (↑c.length:Int)=true]⟩:=by intro f e d c b a;kernel_rfl
theorem zq(B:Lo)(rf:Qe)(Qa:List Int)(i:Int)(ys:List Span)(Qn:Nat->Value):let c:=V6 rf Qa i ys;let b:=List.length rf.Qb;let a:=Fz.cs {k:=3,rs:=[],cs:=Qg Xg ys};CE.finK 2 (Qq YP (Q3 YP) J0 B 9 2 (WO (none) 102 26 (([1,5,11,12,13]:List Nat).zip (U4 rf Qa i ys)) Qn U5) (Z1 (WR rf Qa) 2 (([]:List Nat).zip (U3 rf Qa i ys)) c) (2+1+c.length)
 [(0,W8)] 0 [] []) [] [] [{k:=3,rs:=[],cs:=Qg Xg ys}]=some (OO.ret (Qt 2 (QE b a)),[],[],
 [Zu (Fz.rs {k:=3,rs:=[],cs:=Qg Xg ys}) (Qg Xg ys) a,XU i (↑b:Int)=false]):=by intro c b a;kernel_rfl
set_option maxHeartbeats 4000000 in
theorem oI(rf:Qe)(Qa:List Int)(hn:rf.Qb.length<=1000000)(hm:0<=rf.miss/\rf.miss<=2000)(hc:∀k:Int,0<=k->k<rf.Qb.length->0<=(rf.Qb.getD k.toNat default).count/\(rf.Qb.getD k.toNat default).count<=1000000){B:Lo}(hJ:∀w,B.has w->J0 w):∀m:Nat,(∀(i:Int) (ys:List Span),(rf.Qb.length-i.toNat)=m->∀(h0:0<=i) (hy:ys=Pe (Xw rf.miss) ⟨0,0⟩ rf.Qb i),(∃Qn:Nat->Value,(∀t,X6 (Qn t))/\GoE YP B (K8 rf Qa) (WR rf Qa) 2 (WO (none) 102 26 (([1,5,11,12,13]:List Nat).zip (U4 rf Qa i ys)) Qn U5) (Z1 (WR rf Qa) 2 (([]:List Nat).zip (U3 rf Qa i ys)) (V6 rf Qa i ys)) (2+1+(V6 rf Qa i ys).length) ([]:List Nat))->FinK YP B (K8 rf Qa) (WR rf Qa) 2 (.ret (Qt 2 (KQ (rf.Qb.map (Xw rf.miss))))) (([]:List Nat).zip ([])) ([]) ([]:List Nat)):=by
 intro m0;induction m0 using Nat.strongRecOn with
 |_ m0 ih0=>
  intro i ys hm0 h0 hy ⟨Qn,Ur,XM⟩;have hyl:ys.length=rf.Qb.length:=by rw[hy];exact Rq
  by_cases q0:(i:Int)<((↑rf.Qb.length:Int))
  ·have rj1:FJ YP B (RM rf Qa i ys Qn) (Jo rf Qa i ys Qn) 5 (OO.ret (.agg #[.int .i64 (Qd.count (rf.Qb.getD i.toNat default)),.int .i64 (Qd.count (rf.Qb.getD i.toNat default)+Int.tdiv (Qd.count (rf.Qb.getD i.toNat default)*rf.miss) 1000)])) (([]++((5,Xa)::QU (5+1) []))++Jo rf Qa i ys Qn) 6 (List.range 5) []:=by
    have hc1:=hc i h0 q0;exact FinK.fjB (GoE.finK okF hJ Qf (Q1 (by kernel_rfl)) (Qr (by kernel_rfl)) ((GoE.refl (P:=YP) (B:=B) (c0:=RM rf Qa i ys Qn) (Q1 (by kernel_rfl))).widen (Wf:=((([]):List (Nat×KS)).map (·.1))) (by simp) (Qr (by kernel_rfl))) (zt B rf Qa i ys Qn)
     ⟨⟨trivial,zw (Qd.count (rf.Qb.getD i.toNat default)) rf.miss (by omega) (by omega)⟩,trivial⟩) (ex:=[3]) (by kernel_rfl) ⟨trivial,⟨trivial,⟨(Yl (t:=38) (fl:=(0,0)) (fun x=>List.all_eq_true.1 (by rfl))),⟨trivial,⟨trivial,trivial⟩⟩⟩⟩⟩
   have hc1:=hc i h0 q0;exact((ih0 _ (by omega)) (i+1) (List.set ys i.toNat {lo:=Qd.count (rf.Qb.getD i.toNat default),hi:=Qd.count (rf.Qb.getD i.toNat default)+Int.tdiv (Qd.count (rf.Qb.getD i.toNat default)*rf.miss) 1000}) rfl (by omega) (by(subst hy;exact Rp (f:=Xw rf.miss) h0 q0))
    (GoE.landA okF hJ Qf (Q1 (by kernel_rfl)) (Qr (by kernel_rfl)) XM (zr B rf Qa i ys Qn)
    (by exact⟨(QK (QN (fun x=>List.all_eq_true.1 (by rfl)))),⟨(Xy (by omega) (by omega)),⟨(by exact P6 (z:=2) (k:=Int.toNat i) (fun _=>rfl) (by first|omega|(rw[List.length_set];omega)|(rw[List.length_replicate];omega)) rfl rfl),⟨⟨by omega,by omega⟩,⟨rj1,⟨⟨by omega,by omega,(Q4 (z:=12) (fun _=>rfl) (by omega))⟩,⟨(XF q0),trivial⟩⟩⟩⟩⟩⟩⟩) (by kernel_rfl) (by kernel_rfl) (fun l hl=>by cases hl <;> decide))).cast (by rfl) (by rfl) (by rfl)
  ·exact(GoE.finK okF hJ Qf (Q1 (by kernel_rfl)) (Qr (by kernel_rfl)) XM (zq B rf Qa i ys Qn)
    ⟨(Zd (fun x=>List.all_eq_true.1 (by rfl))),⟨(XO (Int.not_lt.1 q0)),trivial⟩⟩).cast (by exact congrArg (fun v=>OO.ret (Qt _ v)) (cb (hy.trans (Rt (by omega))) (by simp))) (by rfl) (by rfl)

theorem zu(B:Lo)(rf:Qe)(Qa:List Int):let a:=List.length rf.Qb;let c:=List.replicate a {lo:=0,hi:=0};let b:=X7 {len:=16000,tr:=Tri.set 14 Tri.lf 9 (.int .i64 (↑a:Int))} 9;CE.landA 2 (Qq YP (Q3 YP) J0 B 9 2 (K8 rf Qa) (WR rf Qa) 2
 [(3,Qk.ZH (Hint.mk a (lh rf)))] 0 [] []) [1,5,11,12,13] [] [(2,KS.rows [] [] [] (gp rf))] []=some ⟨102,26,U5,[],.run,none,U4 rf Qa (0) c,([]:List Nat).zip (U3 rf Qa (0) c),V6 rf Qa (0) c,
 [XX 2 [] [] [] (lh rf) (gp rf),Rw YP 36 b b=some (38,Qg (U0 [.int .i64 0,.int .i64 0]) (List.replicate a ()),List.length rf.Qb,TypeInfo.size Try.t38)]⟩:=by intro a c b;kernel_rfl
theorem zp(B:Lo)(rf:Qe)(Qa:List Int):let a:=OO.ret (zo rf);QQ (Qq YP (Q3 YP) J0 B 6 1 (Qp YP 82 8 (([.agg (QL rf Qa).toArray]).map (Q2 0 4))) XV 1
 [(6,Qk.call (List.range 2) a ([]++(2,Xa)::QU 3 []) 3 [])] 0 [] []) []=some (QE (List.length (RI rf)) (Qg Xg (RI rf)),
 [FJ YP B (K8 rf Qa) (WR rf Qa) 2 a (([]++((2,Xa)::QU (2+1) []))++WR rf Qa) 3 (List.range 2) []]):=by intro a;kernel_rfl
set_option maxHeartbeats 4000000 in
theorem C4(rf:Qe)(Qa:List Int)(hn:rf.Qb.length<=1000000)(hm:0<=rf.miss/\rf.miss<=2000)(hc:∀k:Int,0<=k->k<rf.Qb.length->0<=(rf.Qb.getD k.toNat default).count/\(rf.Qb.getD k.toNat default).count<=1000000){B:Lo}(hJ:∀w,B.has w->J0 w):EndsT YP B (Qp YP 82 8 (([.agg (QL rf Qa).toArray]).map (Q2 0 4))) (KQ (rf.Qb.map (Xw rf.miss))):=by
 have rj0:FJ YP B (K8 rf Qa) (WR rf Qa) 2 (OO.ret (Qt 2 (QE (List.length (List.map (Xw rf.miss) rf.Qb)) (Qg Xg (List.map (Xw rf.miss) rf.Qb))))) (([]++((2,Xa)::QU (2+1) []))++WR rf Qa) 3 (List.range 2) []:=by
  exact FinK.fjB ((oI rf Qa hn hm hc hJ _) (0) (List.replicate rf.Qb.length {lo:=0,hi:=0}) rfl (by omega) (by exact dL)
   (GoE.landA okF hJ Qf (Q1 (by kernel_rfl)) (Qr (by kernel_rfl)) ((GoE.refl (P:=YP) (B:=B) (c0:=K8 rf Qa) (Q1 (by kernel_rfl))).widen (Wf:=((([]):List (Nat×KS)).map (·.1))) (by simp) (Qr (by kernel_rfl))) (zu B rf Qa)
   ⟨(by exact(Uj (by exact⟨(.simple rfl),⟨(.simple rfl),trivial⟩⟩) _)),⟨(fN (bytes:=16) (by kernel_rfl) (by omega) (by omega) (by omega)),trivial⟩⟩ (by kernel_rfl) (by kernel_rfl) (fun l hl=>by cases hl <;> decide))) (ex:=[]) (by kernel_rfl) (Wj _)
 exact(GoE.endsT okF hJ Qf GoE.start (zp B rf Qa)
  ⟨rj0,trivial⟩).cast (by rfl)
theorem Bg(rf:Qe)(Qa:List Int)(hn:rf.Qb.length<=1000000)(hm:0<=rf.miss/\rf.miss<=2000)(hc:∀k:Int,0<=k->k<rf.Qb.length->0<=(rf.Qb.getD k.toNat default).count/\(rf.Qb.getD k.toNat default).count<=1000000):Qx YP J0 82 #[.agg (QL rf Qa).toArray] (KQ (rf.Qb.map (Xw rf.miss))):=
 Xn (ts:=[.agg (QL rf Qa).toArray]) Za (c0:=Qp YP 82 8 (([.agg (QL rf Qa).toArray]).map (Q2 0 4))) (by kernel_rfl) (by kernel_rfl) fun B hJ=>C4 rf Qa hn hm hc hJ
end
end Go.Proofs.Ytncjjangllkokaa

