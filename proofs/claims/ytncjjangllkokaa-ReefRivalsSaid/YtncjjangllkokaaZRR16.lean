/- Reef: what plans cost. -/
import Derived.Test.YtncjjangllkokaaZRR15
import Derived.Test.YtncjjangllkokaaZRR14
set_option linter.all false
open Int renaming le_refl->LJ,toNat->Lb
open Nat renaming le_refl->Lr,strongRecOn->LA,lt_of_lt_of_eq->LI,min->LL
open List renaming length->Lf,range->Ld,getD_eq_getElem?_getD->Li,replicate->Lq
open Array renaming extract->LO
open Inhabited renaming default->La
namespace Go.Proofs.Ytncjjangllkokaa
open Go Go.CE Go.RowKit
noncomputable section
set_option maxRecDepth 100000
def Tc(ps:List Qe)(p:Int):Nat->Int
 |0=>0
 |k+1=>Tc ps p k+if hasB p k then(ps.getD k La).Xz else 0
def Zl(ps:List Qe)(plan:List Int):Nat->Int
 |0=>0
 |s+1=>Zl ps plan s+Tc ps (plan.getD s 0) ps.length
def Xg(rf:Qc)(plan:List Int):Int:=Zl rf.Qa plan rf.Qb.toNat
theorem XS{rf:Qc}(hr:X5 rf=true){k:Nat}(h:k<rf.Qa.length):0<=(rf.Qa.getD k La).Xz/\(rf.Qa.getD k La).Xz<=1000000:=
 (ZY ((Q6 hr).2 (k:Int) (by omega) (by omega)).1).2.2.2.1
theorem Zd{rf:Qc}(hr:X5 rf=true){p:Int}:∀k:Nat,k<=rf.Qa.length->0<=Tc rf.Qa p k/\Tc rf.Qa p k<=1000000*k
 |0,_=>⟨LJ _,LJ _⟩
 |k+1,h=>by
  have ih:=Zd hr (p:=p) k (by omega);have hw:=XS hr (k:=k) (by omega);unfold Tc;split <;> omega
theorem Sm{rf:Qc}(hr:X5 rf=true){plan:List Int}:∀s:Nat,0<=Zl rf.Qa plan s/\Zl rf.Qa plan s<=4000000*s
 |0=>⟨LJ _,LJ _⟩
 |s+1=>by
  have ih:=Sm hr (plan:=plan) s;have hs:=Qz (Q6 hr).1;have hw:=Zd hr (p:=plan.getD s 0) rf.Qa.length (Lr _);unfold Zl;omega
theorem UI{ps:List Qe}{p i:Int}(h0:0<=i)(h:hasB p i=true):Tc ps p (i+1).toNat=Tc ps p i.toNat+(ps.getD i.toNat La).Xz:=by
 rw[show(i+1).toNat=i.toNat+1 by omega];show _+(if hasB p (i.toNat:Int)=true then _ else _)=_;rw[show((i.toNat:Nat):Int)=i by omega,if_pos h]
theorem ag{ps:List Qe}{p i:Int}(h0:0<=i)(h:hasB p i=false):Tc ps p (i+1).toNat=Tc ps p i.toNat:=by
 rw[show(i+1).toNat=i.toNat+1 by omega];show _+(if hasB p (i.toNat:Int)=true then _ else _)=_;rw[show((i.toNat:Nat):Int)=i by omega,if_neg (by rw[h];decide),Int.add_zero]
theorem xx{ps:List Qe}{plan:List Int}{i:Int}(h0:0<=i):Zl ps plan (i+1).toNat=Zl ps plan i.toNat+Tc ps (plan.getD i.toNat 0) ps.length:=by
 rw[show(i+1).toNat=i.toNat+1 by omega];rfl
def Rv(rf:Qc)(plan:List Int)(c s:Int):List Value:=[Qn 1 (QJ plan.length (Qm Xv plan)),pA 2 0,.int .i64 c,.int .i64 s]
def K2(rf:Qc)(plan:List Int)(c s:Int):List Obj:=[Obj.cells #[Qn 1 (QJ rf.Qa.length (Qm Qf rf.Qa)),.int .i64 rf.Qi,.int .i64 rf.Qb] 24]
def Rw:List Item:=([.code [1,1,0,1,0,0],.inLoop [1,1,0,1,0,0],.inBlock 0,.code [1,1,1]]).map (it (Q9 YP 40))
def AK(B:Lo)(c0:CF)(rf:Qc)(plan:List Int)(c s:Int):Prop:=∃dJ:Nat->Value,(∀t,X0 (dJ t))/\GoE YP B c0 Za 1 (Xl 40 36 (([1,2,5,6]:List Nat).zip (Rv rf plan c s)) dJ Rw) (Xj (K2 rf plan c s)) (2+(K2 rf plan c s).length) []
def Yz(rf:Qc)(plan:List Int)(c s i:Int):List Value:=[Qn 1 (QJ plan.length (Qm Xv plan)),pA 2 0,.int .i64 c,.int .i64 s,.int .i64 i,.int .i64 s,Qn 1 (QJ plan.length (Qm Xv plan)),.int .i64 (↑plan.length:Int),.bool true]
def K1(rf:Qc)(plan:List Int)(c s i:Int):List Obj:=[Obj.cells #[Qn 1 (QJ rf.Qa.length (Qm Qf rf.Qa)),.int .i64 rf.Qi,.int .i64 rf.Qb] 24]
def Y0:List Item:=([.code [1,1,0,1,0,0,1,0,0,1,0,0],.inLoop [1,1,0,1,0,0,1,0,0,1,0,0],.inBlock 2,.inBlock 1,.code [1,1,0,1,0,0,1,1],.inLoop [1,1,0,1,0,0],.inBlock 0,.code [1,1,1]]).map (it (Q9 YP 40))
def AJ(B:Lo)(c0:CF)(rf:Qc)(plan:List Int)(c s i:Int):Prop:=∃dJ:Nat->Value,(∀t,X0 (dJ t))/\GoE YP B c0 Za 1 (Xl 40 36 (([1,2,5,6,7,8,9,10,11]:List Nat).zip (Yz rf plan c s i)) dJ Y0) (Xj (K1 rf plan c s i)) (2+(K1 rf plan c s i).length) []
theorem AH(B:Lo)(rf:Qc)(plan:List Int)(c s:Int)(Qt:Nat->Value):landM (Qs YP (Q0 YP) J0 B 11 1 (Xl 40 36 (([1,2,5,6]:List Nat).zip (Rv rf plan c s)) Qt Rw) (Xj (K2 rf plan c s)) (2+(K2 rf plan c s).length)
 [(3,VT)] 0 [] []) [1,2,5,6,7,8,9,10,11] [(2,KS.auto)] []=some ⟨40,36,Y0,[],.run,none,Yz rf plan (c) (s) (0),K1 rf plan (c) (s) (0),
 [Zm s (↑plan.length:Int)=true]⟩:=by kernel_rfl
theorem AG(B:Lo)(rf:Qc)(plan:List Int)(c s:Int)(Qt:Nat->Value):QW (Qs YP (Q0 YP) J0 B 9 1 (Xl 40 36 (([1,2,5,6]:List Nat).zip (Rv rf plan c s)) Qt Rw) (Xj (K2 rf plan c s)) (2+(K2 rf plan c s).length)
 [(3,VI)] 0 [] []) []=some (.int .i64 c,
 [Zm s (↑plan.length:Int)=false]):=by kernel_rfl
def g9(B:Lo)(rf:Qc)(plan:List Int)(c s i:Int)(Qt:Nat->Value):List Prop:=[s=(↑s.toNat:Int)/\Lb s<Lf plan/\LO (Qm Xv plan) (Lb s*TypeInfo.size Try.t3) (Lb s*TypeInfo.size Try.t3+TypeInfo.size Try.t3)=#[.int .i64 (plan.getD s.toNat La)],Zm i (↑rf.Qa.length:Int)=true]++([]:List Prop)
def qv(rf:Qc)(plan:List Int)(c s i:Int)(Qt:Nat->Value):Q2:=[(4,VT),(7,Ql.tidx s.toNat #[.int .i64 (plan.getD s.toNat La)])]
theorem AF(B:Lo)(rf:Qc)(plan:List Int)(c s i:Int)(Qt:Nat->Value):let f:=K1 rf plan c s i;let e:=Lb i;let d:=rf.Qa;let a:=d.getD e La;let b:=c+a.Xz;landM (Qs YP (Q0 YP) J0 B 14 1 (Xl 40 36 (([1,2,5,6,7,8,9,10,11]:List Nat).zip (Yz rf plan c s i)) Qt Y0) (Xj f) (2+f.length)
 (qv rf plan c s i Qt++[(10,Ql.pure (.bool true) []),(15,Ql.tidx e #[.int .i64 a.count,.int .i64 a.room,.int .i64 a.glo,.int .i64 a.ghi,.int .i64 a.QR,.int .i64 a.XE,.int .i64 a.JX,.int .i64 a.JY,.int .i64 a.Jz,.int .i64 a.J1,.int .i64 a.goal,.int .i64 a.Xz]),(18,VU b),(21,VU (i+1))]) 0 [] []) [1,2,5,6,7,8,9,10,11] [(2,KS.auto)] []=some ⟨40,36,Y0,[],.run,none,Yz rf plan b (s) (i+1),K1 rf plan b (s) (i+1),
 [wq (i+1)=i+1,wq b=c+a.Xz,i=(↑e:Int)/\Lb i<Lf d/\LO (Qm Qf d) (Lb i*TypeInfo.size Try.t54) (Lb i*TypeInfo.size Try.t54+TypeInfo.size Try.t54)=#[.int .i64 a.count,.int .i64 a.room,.int .i64 a.glo,.int .i64 a.ghi,.int .i64 a.QR,.int .i64 a.XE,.int .i64 a.JX,.int .i64 a.JY,.int .i64 a.Jz,.int .i64 a.J1,.int .i64 a.goal,.int .i64 a.Xz],Qw []/\Qx YP J0 47 #[.int .i64 (plan.getD s.toNat La),.int .i64 i] (.bool true)]++g9 B rf plan c s i Qt⟩:=by intro f e d a b;kernel_rfl
theorem AE(B:Lo)(rf:Qc)(plan:List Int)(c s i:Int)(Qt:Nat->Value):let a:=K1 rf plan c s i;landM (Qs YP (Q0 YP) J0 B 14 1 (Xl 40 36 (([1,2,5,6,7,8,9,10,11]:List Nat).zip (Yz rf plan c s i)) Qt Y0) (Xj a) (2+a.length)
 (qv rf plan c s i Qt++[(10,Ql.pure (.bool false) []),(12,VU (i+1))]) 0 [] []) [1,2,5,6,7,8,9,10,11] [(2,KS.auto)] []=some ⟨40,36,Y0,[],.run,none,Yz rf plan (c) (s) (i+1),K1 rf plan (c) (s) (i+1),
 [wq (i+1)=i+1,Qw []/\Qx YP J0 47 #[.int .i64 (plan.getD s.toNat La),.int .i64 i] (.bool false)]++g9 B rf plan c s i Qt⟩:=by intro a;kernel_rfl
theorem AD(B:Lo)(rf:Qc)(plan:List Int)(c s i:Int)(Qt:Nat->Value):let a:=K1 rf plan c s i;landM (Qs YP (Q0 YP) J0 B 8 1 (Xl 40 36 (([1,2,5,6,7,8,9,10,11]:List Nat).zip (Yz rf plan c s i)) Qt Y0) (Xj a) (2+a.length)
 [(4,VI),(6,VU (s+1))] 0 [] []) [1,2,5,6] [(2,KS.auto)] []=some ⟨40,36,Rw,[],.run,none,Rv rf plan (c) (s+1),K2 rf plan (c) (s+1),
 [wq (s+1)=s+1,Zm i (↑rf.Qa.length:Int)=false]⟩:=by intro a;kernel_rfl
theorem AB(B:Lo)(rf:Qc)(plan:List Int):landM (Qs YP (Q0 YP) J0 B 9 1 (Qr YP 40 36 (([.agg (Qv rf).toArray,XA plan]).map (Qy 0 4))) Za 1
 [] 0 [] []) [1,2,5,6] [(1,KS.auto)] []=some ⟨40,36,Rw,[],.run,none,Rv rf plan (0) (0),K2 rf plan (0) (0),
 []⟩:=by kernel_rfl
set_option maxHeartbeats 4000000 in
theorem AI(rf:Qc)(plan:List Int)(hr:X5 rf=true)(hp:QP rf plan=true){B:Lo}(hJ:∀w,B.has w->J0 w){c0:CF}:∀m:Nat,(∀(c s:Int),100*(rf.Qb-s).toNat=m->∀(s0:0<=s) (s1:s<=rf.Qb) (ec:c=Zl rf.Qa plan s.toNat),AK B c0 rf plan c s->EndsT YP B c0 (.int .i64 (Xg rf plan)))/\(∀(c s i:Int),100*(rf.Qb-s).toNat-50+(rf.Qa.length-i.toNat)=m->∀(s0:0<=s) (s1:s<rf.Qb) (i0:0<=i) (i1:i<=rf.Qa.length) (ec:c=Zl rf.Qa plan s.toNat+Tc rf.Qa (plan.getD s.toNat 0) i.toNat),AJ B c0 rf plan c s i->EndsT YP B c0 (.int .i64 (Xg rf plan))):=by
 intro m0;induction m0 using LA with
 |_ m0 ih0=>
  refine⟨?_, ?_⟩
  ·intro c s hm0 s0 s1 ec ⟨Qt,KF,XW⟩;have Zc:=Qz (Q6 hr).1;have hpf:=(QK hp).1;have Zc:=Qz (Q6 hr).1;have hpf:=(QK hp).1;by_cases q0:(s:Int)<((↑plan.length:Int))
   ·exact((ih0 _ (by omega)).2 (c) (s) (0) rfl (by with_reducible assumption) (by omega) (by omega) (by omega) (by(rw[ec];exact(Int.add_zero _).symm))
     (XW.landM okF hJ Qd (AH B rf plan c s Qt)
     ⟨(XY q0),trivial⟩ (by kernel_rfl) (by kernel_rfl))).cast (by rfl)
   ·exact(GoE.endsT okF hJ Qd XW (AG B rf plan c s Qt)
     ⟨(XZ (Int.not_lt.1 q0)),trivial⟩).cast (by(rw[ec,show s=rf.Qb by omega];rfl))
  ·intro c s i hm0 s0 s1 i0 i1 ec ⟨Qt,KF,XW⟩;have Zc:=Qz (Q6 hr).1;have hpf:=(QK hp).1;have Zc:=Qz (Q6 hr).1;have hpf:=(QK hp).1;have hwa:=Sm hr (plan:=plan) s.toNat;have hws:=Zd hr (p:=plan.getD s.toNat 0) i.toNat (by omega);have hpg:0<=plan.getD s.toNat La/\plan.getD s.toNat La<=15:=K8 hr hp s.toNat;have hnx:=xx (ps:=rf.Qa) (plan:=plan) s0;by_cases q0:(i:Int)<((↑rf.Qa.length:Int))
   ·have WL:Qw (g9 B rf plan c s i Qt):=by
     have hwo:=XS hr (k:=i.toNat) (by omega);exact⟨⟨by omega,by omega,(QT (z:=1) (fun _=>rfl) (by omega))⟩,⟨(XY q0),trivial⟩⟩
    cases q1:hasB (plan.getD s.toNat La) i with
    |true=>
     have hwo:=XS hr (k:=i.toNat) (by omega);have hyes:=UI (ps:=rf.Qa) (p:=plan.getD s.toNat 0) i0 ‹hasB _ i=true›;exact((ih0 _ (by omega)).2 (c+Qe.Xz (rf.Qa.getD i.toNat La)) (s) (i+1) rfl (by with_reducible assumption) (by with_reducible assumption) (by omega) (by omega) (by omega)
      (XW.landM okF hJ Qd (AF B rf plan c s i Qt)
      ⟨(Xq (by omega) (by omega)),⟨(Xq (by omega) (by omega)),⟨⟨by omega,by omega,(QT (z:=12) (fun _=>rfl) (by omega))⟩,⟨⟨trivial,(by have t_:=GW (plan.getD s.toNat La) (i) (by omega) (by omega);rw[q1]at t_;exact t_)⟩,WL⟩⟩⟩⟩ (by kernel_rfl) (by kernel_rfl))).cast (by rfl)
    |false=>
     have hwo:=XS hr (k:=i.toNat) (by omega);have hno:=ag (ps:=rf.Qa) (p:=plan.getD s.toNat 0) i0 ‹hasB _ i=false›;exact((ih0 _ (by omega)).2 (c) (s) (i+1) rfl (by with_reducible assumption) (by with_reducible assumption) (by omega) (by omega) (by omega)
      (XW.landM okF hJ Qd (AE B rf plan c s i Qt)
      ⟨(Xq (by omega) (by omega)),⟨⟨trivial,(by have t_:=GW (plan.getD s.toNat La) (i) (by omega) (by omega);rw[q1]at t_;exact t_)⟩,WL⟩⟩ (by kernel_rfl) (by kernel_rfl))).cast (by rfl)
   ·exact((ih0 _ (by omega)).1 (c) (s+1) rfl (by omega) (by omega) (by(rw[ec,hnx,show i.toNat=rf.Qa.length by omega]))
     (XW.landM okF hJ Qd (AD B rf plan c s i Qt)
     ⟨(Xq (by omega) (by omega)),⟨(XZ (Int.not_lt.1 q0)),trivial⟩⟩ (by kernel_rfl) (by kernel_rfl))).cast (by rfl)
set_option maxHeartbeats 4000000 in
theorem DN(rf:Qc)(plan:List Int)(hr:X5 rf=true)(hp:QP rf plan=true){B:Lo}(hJ:∀w,B.has w->J0 w):EndsT YP B (Qr YP 40 36 (([.agg (Qv rf).toArray,XA plan]).map (Qy 0 4))) (.int .i64 (Xg rf plan)):=by
 have Zc:=Qz (Q6 hr).1;have hpf:=(QK hp).1;exact((AI rf plan hr hp hJ _).1 (0) (0) rfl (by omega) (by omega) (by rfl)
  (GoE.start.landM okF hJ Qd (AB B rf plan)
  trivial (by kernel_rfl) (by kernel_rfl))).cast (by rfl)
theorem lU(rf:Qc)(plan:List Int)(hr:X5 rf=true)(hp:QP rf plan=true):Qx YP J0 40 #[.agg (Qv rf).toArray,XA plan] (.int .i64 (Xg rf plan)):=
 Xn (ts:=[.agg (Qv rf).toArray,XA plan]) XQ (c0:=Qr YP 40 36 (([.agg (Qv rf).toArray,XA plan]).map (Qy 0 4))) (by kernel_rfl) (by kernel_rfl) fun B hJ=>DN rf plan hr hp hJ
theorem fi{rf:Qc}{plan:List Int}{k:Nat}(h:rf.Qb=k):Zl rf.Qa plan k=Xg rf plan:=by
 unfold Xg;rw[h];rfl
theorem eO{ps:List Qe}{plan:List Int}{e i:Int}{s:Nat}(h:e=Zl ps plan s+Tc ps (plan.getD s 0) i.toNat)(h0:0<=i)(hi:i<=ps.length)(hn:¬i<ps.length):e=Zl ps plan (s+1):=by
 rw[h,show i.toNat=ps.length by omega];rfl
def KE(x_:Qe):Array Value:=#[.int .i64 x_.count,.int .i64 x_.room,.int .i64 x_.glo,.int .i64 x_.ghi,.int .i64 x_.QR,.int .i64 x_.XE,.int .i64 x_.JX,.int .i64 x_.JY,.int .i64 x_.Jz,.int .i64 x_.J1,.int .i64 x_.goal,.int .i64 x_.Xz]
def Bv(rf:Qc)(plan:List Int):Array Value:=let h:=rf.Qi;let g:=plan.getD 3 0;let f:=plan.getD 2 0;let e:=plan.getD 1 0;let d:=plan.getD 0 0;let b:=rf.Qb;let a:=rf.Qa;let c:=QJ a.length (Qm Qf a);#[.agg #[Qn 0 c,.int .i64 h,.int .i64 b,.int .i64 d,.int .i64 e,.int .i64 f,.int .i64 g],pA 1 0,.int .i64 0,pA 2 0,.int .i64 2,.tuple #[],pA 1 0,pA 1 2,.int .i64 b,.int .i64 2,.bool true,.int .i64 2,.agg #[Qn 0 c,.int .i64 h,.int .i64 b,.int .i64 d,.int .i64 e,.int .i64 f,.int .i64 g],.int .i64 2,Value.func (Fn.func 112) #[] #[Qn 11 (Zy 0 #[QJ a.length (Qm Qf a),.int .i64 h,.int .i64 b,.int .i64 d,.int .i64 e,.int .i64 f,.int .i64 g]),Qn 11 (Zy 0 #[.int .i64 2])],.tuple #[],.tuple #[],.tuple #[],.tuple #[],.tuple #[],.tuple #[],.tuple #[],.tuple #[],.tuple #[],.tuple #[],.int .i64 2,.tuple #[]]
def Bu(rf:Qc)(plan:List Int):Array Value:=let h:=rf.Qi;let g:=plan.getD 3 0;let f:=plan.getD 2 0;let e:=plan.getD 1 0;let d:=plan.getD 0 0;let b:=rf.Qb;let a:=rf.Qa;let c:=QJ a.length (Qm Qf a);#[.agg #[Qn 0 c,.int .i64 h,.int .i64 b,.int .i64 d,.int .i64 e,.int .i64 f,.int .i64 g],pA 1 0,.int .i64 0,pA 2 0,.int .i64 3,.tuple #[],pA 1 0,pA 1 2,.int .i64 b,.int .i64 3,.bool true,.int .i64 3,.agg #[Qn 0 c,.int .i64 h,.int .i64 b,.int .i64 d,.int .i64 e,.int .i64 f,.int .i64 g],.int .i64 3,Value.func (Fn.func 112) #[] #[Qn 15 (Zy 0 #[QJ a.length (Qm Qf a),.int .i64 h,.int .i64 b,.int .i64 d,.int .i64 e,.int .i64 f,.int .i64 g]),Qn 15 (Zy 0 #[.int .i64 3])],.tuple #[],.tuple #[],.tuple #[],.tuple #[],.tuple #[],.tuple #[],.tuple #[],.tuple #[],.tuple #[],.tuple #[],.int .i64 3,.tuple #[]]
def Bt(rf:Qc)(plan:List Int):Array Value:=let h:=rf.Qi;let g:=plan.getD 3 0;let f:=plan.getD 2 0;let e:=plan.getD 1 0;let d:=plan.getD 0 0;let b:=rf.Qb;let a:=rf.Qa;let c:=QJ a.length (Qm Qf a);#[.agg #[Qn 0 c,.int .i64 h,.int .i64 b,.int .i64 d,.int .i64 e,.int .i64 f,.int .i64 g],pA 1 0,.int .i64 0,pA 2 0,.int .i64 1,.tuple #[],pA 1 0,pA 1 2,.int .i64 b,.int .i64 1,.bool true,.int .i64 1,.agg #[Qn 0 c,.int .i64 h,.int .i64 b,.int .i64 d,.int .i64 e,.int .i64 f,.int .i64 g],.int .i64 1,Value.func (Fn.func 112) #[] #[Qn 7 (Zy 0 #[QJ a.length (Qm Qf a),.int .i64 h,.int .i64 b,.int .i64 d,.int .i64 e,.int .i64 f,.int .i64 g]),Qn 7 (Zy 0 #[.int .i64 1])],.tuple #[],.tuple #[],.tuple #[],.tuple #[],.tuple #[],.tuple #[],.tuple #[],.tuple #[],.tuple #[],.tuple #[],.int .i64 1,.tuple #[]]
def Bs(rf:Qc)(plan:List Int):Array Value:=let h:=rf.Qi;let g:=plan.getD 3 0;let f:=plan.getD 2 0;let e:=plan.getD 1 0;let d:=plan.getD 0 0;let b:=rf.Qb;let a:=rf.Qa;let c:=QJ a.length (Qm Qf a);#[.agg #[Qn 0 c,.int .i64 h,.int .i64 b,.int .i64 d,.int .i64 e,.int .i64 f,.int .i64 g],pA 1 0,.int .i64 0,pA 2 0,.int .i64 0,.tuple #[],pA 1 0,pA 1 2,.int .i64 b,.int .i64 0,.bool true,.int .i64 0,.agg #[Qn 0 c,.int .i64 h,.int .i64 b,.int .i64 d,.int .i64 e,.int .i64 f,.int .i64 g],.int .i64 0,Value.func (Fn.func 112) #[] #[Qn 3 (Zy 0 #[QJ a.length (Qm Qf a),.int .i64 h,.int .i64 b,.int .i64 d,.int .i64 e,.int .i64 f,.int .i64 g]),Qn 3 (Zy 0 #[.int .i64 0])],.tuple #[],.tuple #[],.tuple #[],.tuple #[],.tuple #[],.tuple #[],.tuple #[],.tuple #[],.tuple #[],.tuple #[],.tuple #[],.tuple #[]]
def aF(rf:Qc)(plan:List Int):Array Value:=#[Qn 0 (QJ rf.Qa.length (Qm Qf rf.Qa)),.int .i64 rf.Qi,.int .i64 rf.Qb,.int .i64 (plan.getD 0 0),.int .i64 (plan.getD 1 0),.int .i64 (plan.getD 2 0),.int .i64 (plan.getD 3 0)]
def Y6(rf:Qc)(plan:List Int):Value:=(Zy 0 #[QJ rf.Qa.length (Qm Qf rf.Qa),.int .i64 rf.Qi,.int .i64 rf.Qb,.int .i64 (plan.getD 0 0),.int .i64 (plan.getD 1 0),.int .i64 (plan.getD 2 0),.int .i64 (plan.getD 3 0)])
def WO(rf:Qc)(plan:List Int):Array Value:=#[QJ rf.Qa.length (Qm Qf rf.Qa),.int .i64 rf.Qi,.int .i64 rf.Qb,.int .i64 (plan.getD 0 0),.int .i64 (plan.getD 1 0),.int .i64 (plan.getD 2 0),.int .i64 (plan.getD 3 0)]
def KD(rf:Qc)(e i:Int):Array Value:=#[.int .i64 (e+Qe.Xz (rf.Qa.getD i.toNat La))]
def Zr(rf:Qc)(plan:List Int):Obj:=Obj.loop {state:=LoopState.ready,pending:=none,fn:=67,tmps:=#[.agg #[Qn 0 (QJ rf.Qa.length (Qm Qf rf.Qa)),.int .i64 rf.Qi,.int .i64 rf.Qb,.int .i64 (plan.getD 0 0),.int .i64 (plan.getD 1 0),.int .i64 (plan.getD 2 0),.int .i64 (plan.getD 3 0)],pA 1 0,.int .i64 0,pA 2 0,.int .i64 0,.tuple #[],pA 1 0,pA 1 2,.int .i64 rf.Qb,.int .i64 0,.bool true,.int .i64 0,.agg #[Qn 0 (QJ rf.Qa.length (Qm Qf rf.Qa)),.int .i64 rf.Qi,.int .i64 rf.Qb,.int .i64 (plan.getD 0 0),.int .i64 (plan.getD 1 0),.int .i64 (plan.getD 2 0),.int .i64 (plan.getD 3 0)],.int .i64 0,Value.func (Fn.func 112) #[] #[Qn 3 (Zy 0 #[QJ rf.Qa.length (Qm Qf rf.Qa),.int .i64 rf.Qi,.int .i64 rf.Qb,.int .i64 (plan.getD 0 0),.int .i64 (plan.getD 1 0),.int .i64 (plan.getD 2 0),.int .i64 (plan.getD 3 0)]),Qn 3 (Zy 0 #[.int .i64 0])],.tuple #[],.tuple #[],.tuple #[],.tuple #[],.tuple #[],.tuple #[],.tuple #[],.tuple #[],.tuple #[],.tuple #[],.tuple #[],.tuple #[]],params:=#[15],assign:=VH (Q9 YP 67) [1,1,0,1,0,0,1,1,0,0,1,1,0,0],body:=VH (Q9 YP 67) [1,1,0,1,0,0,1,1,0,0,1,1,0,1],defers:=4}
def ZP(rf:Qc)(plan:List Int):Obj:=Obj.loop {state:=LoopState.ready,pending:=none,fn:=67,tmps:=#[.agg #[Qn 0 (QJ rf.Qa.length (Qm Qf rf.Qa)),.int .i64 rf.Qi,.int .i64 rf.Qb,.int .i64 (plan.getD 0 0),.int .i64 (plan.getD 1 0),.int .i64 (plan.getD 2 0),.int .i64 (plan.getD 3 0)],pA 1 0,.int .i64 0,pA 2 0,.int .i64 1,.tuple #[],pA 1 0,pA 1 2,.int .i64 rf.Qb,.int .i64 1,.bool true,.int .i64 1,.agg #[Qn 0 (QJ rf.Qa.length (Qm Qf rf.Qa)),.int .i64 rf.Qi,.int .i64 rf.Qb,.int .i64 (plan.getD 0 0),.int .i64 (plan.getD 1 0),.int .i64 (plan.getD 2 0),.int .i64 (plan.getD 3 0)],.int .i64 1,Value.func (Fn.func 112) #[] #[Qn 7 (Zy 0 #[QJ rf.Qa.length (Qm Qf rf.Qa),.int .i64 rf.Qi,.int .i64 rf.Qb,.int .i64 (plan.getD 0 0),.int .i64 (plan.getD 1 0),.int .i64 (plan.getD 2 0),.int .i64 (plan.getD 3 0)]),Qn 7 (Zy 0 #[.int .i64 1])],.tuple #[],.tuple #[],.tuple #[],.tuple #[],.tuple #[],.tuple #[],.tuple #[],.tuple #[],.tuple #[],.tuple #[],.int .i64 1,.tuple #[]],params:=#[15],assign:=VH (Q9 YP 67) [1,1,0,1,0,0,1,1,0,0,1,1,0,0],body:=VH (Q9 YP 67) [1,1,0,1,0,0,1,1,0,0,1,1,0,1],defers:=8}
def WQ(rf:Qc)(plan:List Int):Obj:=Obj.loop {state:=LoopState.ready,pending:=none,fn:=67,tmps:=#[.agg #[Qn 0 (QJ rf.Qa.length (Qm Qf rf.Qa)),.int .i64 rf.Qi,.int .i64 rf.Qb,.int .i64 (plan.getD 0 0),.int .i64 (plan.getD 1 0),.int .i64 (plan.getD 2 0),.int .i64 (plan.getD 3 0)],pA 1 0,.int .i64 0,pA 2 0,.int .i64 2,.tuple #[],pA 1 0,pA 1 2,.int .i64 rf.Qb,.int .i64 2,.bool true,.int .i64 2,.agg #[Qn 0 (QJ rf.Qa.length (Qm Qf rf.Qa)),.int .i64 rf.Qi,.int .i64 rf.Qb,.int .i64 (plan.getD 0 0),.int .i64 (plan.getD 1 0),.int .i64 (plan.getD 2 0),.int .i64 (plan.getD 3 0)],.int .i64 2,Value.func (Fn.func 112) #[] #[Qn 11 (Zy 0 #[QJ rf.Qa.length (Qm Qf rf.Qa),.int .i64 rf.Qi,.int .i64 rf.Qb,.int .i64 (plan.getD 0 0),.int .i64 (plan.getD 1 0),.int .i64 (plan.getD 2 0),.int .i64 (plan.getD 3 0)]),Qn 11 (Zy 0 #[.int .i64 2])],.tuple #[],.tuple #[],.tuple #[],.tuple #[],.tuple #[],.tuple #[],.tuple #[],.tuple #[],.tuple #[],.tuple #[],.int .i64 2,.tuple #[]],params:=#[15],assign:=VH (Q9 YP 67) [1,1,0,1,0,0,1,1,0,0,1,1,0,0],body:=VH (Q9 YP 67) [1,1,0,1,0,0,1,1,0,0,1,1,0,1],defers:=12}
def US(rf:Qc)(plan:List Int):Obj:=Obj.loop {state:=LoopState.ready,pending:=none,fn:=67,tmps:=#[.agg #[Qn 0 (QJ rf.Qa.length (Qm Qf rf.Qa)),.int .i64 rf.Qi,.int .i64 rf.Qb,.int .i64 (plan.getD 0 0),.int .i64 (plan.getD 1 0),.int .i64 (plan.getD 2 0),.int .i64 (plan.getD 3 0)],pA 1 0,.int .i64 0,pA 2 0,.int .i64 3,.tuple #[],pA 1 0,pA 1 2,.int .i64 rf.Qb,.int .i64 3,.bool true,.int .i64 3,.agg #[Qn 0 (QJ rf.Qa.length (Qm Qf rf.Qa)),.int .i64 rf.Qi,.int .i64 rf.Qb,.int .i64 (plan.getD 0 0),.int .i64 (plan.getD 1 0),.int .i64 (plan.getD 2 0),.int .i64 (plan.getD 3 0)],.int .i64 3,Value.func (Fn.func 112) #[] #[Qn 15 (Zy 0 #[QJ rf.Qa.length (Qm Qf rf.Qa),.int .i64 rf.Qi,.int .i64 rf.Qb,.int .i64 (plan.getD 0 0),.int .i64 (plan.getD 1 0),.int .i64 (plan.getD 2 0),.int .i64 (plan.getD 3 0)]),Qn 15 (Zy 0 #[.int .i64 3])],.tuple #[],.tuple #[],.tuple #[],.tuple #[],.tuple #[],.tuple #[],.tuple #[],.tuple #[],.tuple #[],.tuple #[],.int .i64 3,.tuple #[]],params:=#[15],assign:=VH (Q9 YP 67) [1,1,0,1,0,0,1,1,0,0,1,1,0,0],body:=VH (Q9 YP 67) [1,1,0,1,0,0,1,1,0,0,1,1,0,1],defers:=16}
def UR(rf:Qc)(plan:List Int):Obj:=Obj.loop {state:=LoopState.exhausted,pending:=none,fn:=67,tmps:=#[.agg #[Qn 0 (QJ rf.Qa.length (Qm Qf rf.Qa)),.int .i64 rf.Qi,.int .i64 rf.Qb,.int .i64 (plan.getD 0 0),.int .i64 (plan.getD 1 0),.int .i64 (plan.getD 2 0),.int .i64 (plan.getD 3 0)],pA 1 0,.int .i64 0,pA 2 0,.int .i64 0,.tuple #[],pA 1 0,pA 1 2,.int .i64 rf.Qb,.int .i64 0,.bool true,.int .i64 0,.agg #[Qn 0 (QJ rf.Qa.length (Qm Qf rf.Qa)),.int .i64 rf.Qi,.int .i64 rf.Qb,.int .i64 (plan.getD 0 0),.int .i64 (plan.getD 1 0),.int .i64 (plan.getD 2 0),.int .i64 (plan.getD 3 0)],.int .i64 0,Value.func (Fn.func 112) #[] #[Qn 3 (Zy 0 #[QJ rf.Qa.length (Qm Qf rf.Qa),.int .i64 rf.Qi,.int .i64 rf.Qb,.int .i64 (plan.getD 0 0),.int .i64 (plan.getD 1 0),.int .i64 (plan.getD 2 0),.int .i64 (plan.getD 3 0)]),Qn 3 (Zy 0 #[.int .i64 0])],.tuple #[],.tuple #[],.tuple #[],.tuple #[],.tuple #[],.tuple #[],.tuple #[],.tuple #[],.tuple #[],.tuple #[],.tuple #[],.tuple #[]],params:=#[15],assign:=VH (Q9 YP 67) [1,1,0,1,0,0,1,1,0,0,1,1,0,0],body:=VH (Q9 YP 67) [1,1,0,1,0,0,1,1,0,0,1,1,0,1],defers:=4}
def JJ(rf:Qc)(plan:List Int):Obj:=Obj.loop {state:=LoopState.exhausted,pending:=none,fn:=67,tmps:=#[.agg #[Qn 0 (QJ rf.Qa.length (Qm Qf rf.Qa)),.int .i64 rf.Qi,.int .i64 rf.Qb,.int .i64 (plan.getD 0 0),.int .i64 (plan.getD 1 0),.int .i64 (plan.getD 2 0),.int .i64 (plan.getD 3 0)],pA 1 0,.int .i64 0,pA 2 0,.int .i64 1,.tuple #[],pA 1 0,pA 1 2,.int .i64 rf.Qb,.int .i64 1,.bool true,.int .i64 1,.agg #[Qn 0 (QJ rf.Qa.length (Qm Qf rf.Qa)),.int .i64 rf.Qi,.int .i64 rf.Qb,.int .i64 (plan.getD 0 0),.int .i64 (plan.getD 1 0),.int .i64 (plan.getD 2 0),.int .i64 (plan.getD 3 0)],.int .i64 1,Value.func (Fn.func 112) #[] #[Qn 7 (Zy 0 #[QJ rf.Qa.length (Qm Qf rf.Qa),.int .i64 rf.Qi,.int .i64 rf.Qb,.int .i64 (plan.getD 0 0),.int .i64 (plan.getD 1 0),.int .i64 (plan.getD 2 0),.int .i64 (plan.getD 3 0)]),Qn 7 (Zy 0 #[.int .i64 1])],.tuple #[],.tuple #[],.tuple #[],.tuple #[],.tuple #[],.tuple #[],.tuple #[],.tuple #[],.tuple #[],.tuple #[],.int .i64 1,.tuple #[]],params:=#[15],assign:=VH (Q9 YP 67) [1,1,0,1,0,0,1,1,0,0,1,1,0,0],body:=VH (Q9 YP 67) [1,1,0,1,0,0,1,1,0,0,1,1,0,1],defers:=8}
def iF(rf:Qc)(plan:List Int):Obj:=Obj.loop {state:=LoopState.exhausted,pending:=none,fn:=67,tmps:=#[.agg #[Qn 0 (QJ rf.Qa.length (Qm Qf rf.Qa)),.int .i64 rf.Qi,.int .i64 rf.Qb,.int .i64 (plan.getD 0 0),.int .i64 (plan.getD 1 0),.int .i64 (plan.getD 2 0),.int .i64 (plan.getD 3 0)],pA 1 0,.int .i64 0,pA 2 0,.int .i64 2,.tuple #[],pA 1 0,pA 1 2,.int .i64 rf.Qb,.int .i64 2,.bool true,.int .i64 2,.agg #[Qn 0 (QJ rf.Qa.length (Qm Qf rf.Qa)),.int .i64 rf.Qi,.int .i64 rf.Qb,.int .i64 (plan.getD 0 0),.int .i64 (plan.getD 1 0),.int .i64 (plan.getD 2 0),.int .i64 (plan.getD 3 0)],.int .i64 2,Value.func (Fn.func 112) #[] #[Qn 11 (Zy 0 #[QJ rf.Qa.length (Qm Qf rf.Qa),.int .i64 rf.Qi,.int .i64 rf.Qb,.int .i64 (plan.getD 0 0),.int .i64 (plan.getD 1 0),.int .i64 (plan.getD 2 0),.int .i64 (plan.getD 3 0)]),Qn 11 (Zy 0 #[.int .i64 2])],.tuple #[],.tuple #[],.tuple #[],.tuple #[],.tuple #[],.tuple #[],.tuple #[],.tuple #[],.tuple #[],.tuple #[],.int .i64 2,.tuple #[]],params:=#[15],assign:=VH (Q9 YP 67) [1,1,0,1,0,0,1,1,0,0,1,1,0,0],body:=VH (Q9 YP 67) [1,1,0,1,0,0,1,1,0,0,1,1,0,1],defers:=12}
def aP(rf:Qc)(plan:List Int):Obj:=Obj.loop {state:=LoopState.ready,pending:=none,fn:=67,tmps:=(Bv rf plan),params:=#[15],assign:=VH (Q9 YP 67) [1,1,0,1,0,0,1,1,0,0,1,1,0,0],body:=VH (Q9 YP 67) [1,1,0,1,0,0,1,1,0,0,1,1,0,1],defers:=12}
def aO(rf:Qc)(plan:List Int):Obj:=Obj.loop {state:=LoopState.ready,pending:=none,fn:=67,tmps:=(Bu rf plan),params:=#[15],assign:=VH (Q9 YP 67) [1,1,0,1,0,0,1,1,0,0,1,1,0,0],body:=VH (Q9 YP 67) [1,1,0,1,0,0,1,1,0,0,1,1,0,1],defers:=16}
def aN(rf:Qc)(plan:List Int):Obj:=Obj.loop {state:=LoopState.ready,pending:=none,fn:=67,tmps:=(Bs rf plan),params:=#[15],assign:=VH (Q9 YP 67) [1,1,0,1,0,0,1,1,0,0,1,1,0,0],body:=VH (Q9 YP 67) [1,1,0,1,0,0,1,1,0,0,1,1,0,1],defers:=4}
def SD(rf:Qc)(plan:List Int):Obj:=Obj.loop {state:=LoopState.ready,pending:=none,fn:=67,tmps:=(Bt rf plan),params:=#[15],assign:=VH (Q9 YP 67) [1,1,0,1,0,0,1,1,0,0,1,1,0,0],body:=VH (Q9 YP 67) [1,1,0,1,0,0,1,1,0,0,1,1,0,1],defers:=8}
def rm(B:Lo)(rf:Qc)(plan:List Int):List Prop:=[Zm 0 rf.Qb=true]++([]:List Prop)
def re(rf:Qc)(plan:List Int):Q2:=[(8,VT),(13,Ql.call (Ld 3) (OO.ret (Value.func (Fn.func 112) #[] #[Qn 3 (Y6 rf plan),Qn 3 (Zy 0 #[.int .i64 0])])) ([]++(3,QM)::QD 4 []) 4 []),(14,Ql.call (Ld 6) (OO.ret (.tuple #[])) ([(5,(aN rf plan)),(2,Obj.cells #[.int .i64 (Zl rf.Qa plan 1)] 3)]++(6,QM)::QD 7 []) 7 [5,2])]
def RP(rf:Qc)(plan:List Int):Qj:=[(2,Obj.cells #[.int .i64 0] 3),(1,Obj.cells #[Qn 0 (QJ rf.Qa.length (Qm Qf rf.Qa)),.int .i64 rf.Qi,.int .i64 rf.Qb,.int .i64 (plan.getD 0 0),.int .i64 (plan.getD 1 0),.int .i64 (plan.getD 2 0),.int .i64 (plan.getD 3 0)] 84),(0,Obj.coro none)]
def aM(rf:Qc)(plan:List Int):CF:=⟨91,ofList 6 [.agg #[Qn 0 (QJ rf.Qa.length (Qm Qf rf.Qa)),.int .i64 rf.Qi,.int .i64 rf.Qb,.int .i64 (plan.getD 0 0),.int .i64 (plan.getD 1 0),.int .i64 (plan.getD 2 0),.int .i64 (plan.getD 3 0)],.int .i64 0],[Item.code (Q9 YP 91)],[],.run,none⟩
theorem B5(B:Lo)(rf:Qc)(plan:List Int):let a:=rf.Qa;CE.finK 3 (Qs YP (Q0 YP) J0 B 6 3 (aM rf plan) (RP rf plan) 3
 [] 0 [] []) [] [] [{k:=3,rs:=[0],cs:=#[QJ a.length (Qm Qf a),.int .i64 rf.Qi,.int .i64 rf.Qb,.int .i64 (plan.getD 0 0),.int .i64 (plan.getD 1 0),.int .i64 (plan.getD 2 0),.int .i64 (plan.getD 3 0)]},{k:=4,rs:=[],cs:=#[.int .i64 0]}]=some (OO.ret (Value.func (Fn.func 112) #[] #[Qn 3 (Zy 0 #[QJ a.length (Qm Qf a),.int .i64 rf.Qi,.int .i64 rf.Qb,.int .i64 (plan.getD 0 0),.int .i64 (plan.getD 1 0),.int .i64 (plan.getD 2 0),.int .i64 (plan.getD 3 0)]),Qn 3 (Zy 0 #[.int .i64 0])]),[],[],
 [Z7 (Fz.rs {k:=3,rs:=[0],cs:=(WO rf plan)}) (aF rf plan) (Fz.cs {k:=3,rs:=[0],cs:=(WO rf plan)}),Z7 (Fz.rs {k:=4,rs:=[],cs:=#[.int .i64 0]}) #[.int .i64 0] (Fz.cs {k:=4,rs:=[],cs:=#[.int .i64 0]})]):=by intro a;kernel_rfl
def rl(B:Lo)(rf:Qc)(plan:List Int):List Prop:=[FJ YP B (aM rf plan) (RP rf plan) 3 (OO.ret (Value.func (Fn.func 112) #[] #[Qn 3 (Y6 rf plan),Qn 3 (Zy 0 #[.int .i64 0])])) (([]++((3,QM)::QD (3+1) []))++RP rf plan) 4 (Ld 3) []]++rm B rf plan
def V6(rf:Qc)(plan:List Int):Qj:=[(5,(Zr rf plan)),(4,Obj.deferred (some [])),(3,Obj.coro none),(2,Obj.cells #[.int .i64 0] 3),(1,Obj.cells #[Qn 0 (QJ rf.Qa.length (Qm Qf rf.Qa)),.int .i64 rf.Qi,.int .i64 rf.Qb,.int .i64 (plan.getD 0 0),.int .i64 (plan.getD 1 0),.int .i64 (plan.getD 2 0),.int .i64 (plan.getD 3 0)] 84),(0,Obj.coro none)]
def JI(rf:Qc)(plan:List Int):CF:=⟨112,ofList 27 [Value.func (Fn.yield 5) #[] #[],Qn 3 (Zy 0 #[QJ rf.Qa.length (Qm Qf rf.Qa),.int .i64 rf.Qi,.int .i64 rf.Qb,.int .i64 (plan.getD 0 0),.int .i64 (plan.getD 1 0),.int .i64 (plan.getD 2 0),.int .i64 (plan.getD 3 0)]),Qn 3 (Zy 0 #[.int .i64 0])],[Item.code (Q9 YP 112)],[],.run,none⟩
def V2(rf:Qc)(plan:List Int)(e i:Int):List Value:=let a:=rf.Qa;[Value.func (Fn.yield 5) #[] #[],Qn 3 (Zy 0 #[QJ a.length (Qm Qf a),.int .i64 rf.Qi,.int .i64 rf.Qb,.int .i64 (plan.getD 0 0),.int .i64 (plan.getD 1 0),.int .i64 (plan.getD 2 0),.int .i64 (plan.getD 3 0)]),Qn 3 (Zy 0 #[.int .i64 0]),.int .i64 (↑a.length:Int),.int .i64 i]
def V1(rf:Qc)(plan:List Int)(e i:Int):List Obj:=[(Zr rf plan),.cells #[.int .i64 e] 3 (0,0)]
def Wz(rf:Qc)(plan:List Int)(e i:Int):List Obj:=[]
def V3:List Item:=([.code [1,0,0],.inLoop [1,0,0],.inBlock 0]).map (it (Q9 YP 112))
def iE(B:Lo)(rf:Qc)(plan:List Int)(e i:Int)(Qt:Nat->Value):List Prop:=let b:=Tri.set 14 Tri.lf 16 (.int .i64 i);let a:=Qh [plan.getD 0 0,plan.getD 1 0,plan.getD 2 0,plan.getD 3 0] 0;let d:=.int .i64 a;let c:=.int .i64 (↑(Zx a i):Int);[Kd YP BinOp.and 3 (Xm {len:=16000,tr:=Tri.set 14 Tri.lf 17 c} 17) (.int .i64 1) (.int .i64 (↑(WM (↑(Zx a i):Int) 1):Int)),Kd YP BinOp.shr 3 (Xm {len:=16000,tr:=Tri.set 14 b 15 d} 15) (Xm {len:=16000,tr:=Tri.set 14 b 15 d} 16) c,0=(↑0:Int)/\0<4/\LO (WO rf plan) (3+0*TypeInfo.size Try.t3) (3+0*TypeInfo.size Try.t3+TypeInfo.size Try.t3)=#[.int .i64 a],Zm i (↑rf.Qa.length:Int)=true]++([]:List Prop)
def qZ(rf:Qc)(plan:List Int)(e i:Int)(Qt:Nat->Value):Q2:=let a:=Qh [plan.getD 0 0,plan.getD 1 0,plan.getD 2 0,plan.getD 3 0] 0;[(0,VT),(5,Ql.tarr 0 #[.int .i64 a]),(8,Ql.bin (.int .i64 (↑(Zx a i):Int))),(9,Ql.bin (.int .i64 (↑(WM (↑(Zx a i):Int) 1):Int)))]
def RO(rf:Qc)(plan:List Int)(e i:Int)(Qt:Nat->Value):Qj:=[(5,(Zr rf plan)),(2,Obj.cells #[.int .i64 e] 3),(6,Obj.coro none),(5,(Zr rf plan)),(4,Obj.deferred (some [])),(3,Obj.coro none),(2,Obj.cells #[.int .i64 0] 3),(1,Obj.cells #[Qn 0 (QJ rf.Qa.length (Qm Qf rf.Qa)),.int .i64 rf.Qi,.int .i64 rf.Qb,.int .i64 (plan.getD 0 0),.int .i64 (plan.getD 1 0),.int .i64 (plan.getD 2 0),.int .i64 (plan.getD 3 0)] 84),(0,Obj.coro none)]
def aL(rf:Qc)(plan:List Int)(e i:Int)(Qt:Nat->Value):CF:=⟨67,ofList 27 [.agg #[Qn 0 (QJ rf.Qa.length (Qm Qf rf.Qa)),.int .i64 rf.Qi,.int .i64 rf.Qb,.int .i64 (plan.getD 0 0),.int .i64 (plan.getD 1 0),.int .i64 (plan.getD 2 0),.int .i64 (plan.getD 3 0)],pA 1 0,.int .i64 0,pA 2 0,.int .i64 0,.tuple #[],pA 1 0,pA 1 2,.int .i64 rf.Qb,.int .i64 0,.bool true,.int .i64 0,.agg #[Qn 0 (QJ rf.Qa.length (Qm Qf rf.Qa)),.int .i64 rf.Qi,.int .i64 rf.Qb,.int .i64 (plan.getD 0 0),.int .i64 (plan.getD 1 0),.int .i64 (plan.getD 2 0),.int .i64 (plan.getD 3 0)],.int .i64 0,Value.func (Fn.func 112) #[] #[Qn 3 (Zy 0 #[QJ rf.Qa.length (Qm Qf rf.Qa),.int .i64 rf.Qi,.int .i64 rf.Qb,.int .i64 (plan.getD 0 0),.int .i64 (plan.getD 1 0),.int .i64 (plan.getD 2 0),.int .i64 (plan.getD 3 0)]),Qn 3 (Zy 0 #[.int .i64 0])],.int .i64 i,.tuple #[],.tuple #[],.tuple #[],.tuple #[],.tuple #[],.tuple #[],.tuple #[],.tuple #[],.tuple #[],.tuple #[],.tuple #[]],[Item.code (VH (Q9 YP 67) [1,1,0,1,0,0,1,1,0,0,1,1,0,0]),Item.beginRound,Item.code (VH (Q9 YP 67) [1,1,0,1,0,0,1,1,0,0,1,1,0,1])],[],.run,some 5⟩
theorem B3(B:Lo)(rf:Qc)(plan:List Int)(e i:Int)(Qt:Nat->Value):let d:=Lb i;let c:=rf.Qa;let a:=c.getD d La;let b:=e+a.Xz;CE.finK 7 (Qs YP (Q0 YP) J0 B 6 7 (aL rf plan e i Qt) (RO rf plan e i Qt) 7
 [(6,Ql.tidx d (KE a)),(9,VU b)] 0 [] []) [(5,KS.auto),(2,KS.auto)] [] []=some (OO.ret (.bool true),[(5,(Zr rf plan)),(2,Obj.cells #[.int .i64 b] 3)],[],
 [wq b=e+a.Xz,i=(↑d:Int)/\Lb i<Lf c/\LO (Qm Qf c) (Lb i*TypeInfo.size Try.t54) (Lb i*TypeInfo.size Try.t54+TypeInfo.size Try.t54)=(KE a)]):=by intro d c a b;kernel_rfl
theorem B2(B:Lo)(rf:Qc)(plan:List Int)(e i:Int)(Qt:Nat->Value):let c:=Wz rf plan e i;let b:=OO.ret (.bool true);let a:=e+Qe.Xz (rf.Qa.getD i.toNat La);CE.landA 6 (Qs YP (Q0 YP) J0 B 16 6 (X9 (none) 112 27 (([0,1,2,8,9]:List Nat).zip (V2 rf plan e i)) Qt V3) (Xs (V6 rf plan) 6 (([5,2]:List Nat).zip (V1 rf plan e i)) c) (6+1+c.length)
 (qZ rf plan e i Qt++[(10,VT),(14,Ql.call (Ld 7) b ([(5,(aN rf plan)),(2,Obj.cells (KD rf e i) 3)]++(7,QM)::QD 8 []) 8 [5,2]),(17,VU (i+1))]) 0 [] []) [0,1,2,8,9] [(5,KS.auto),(2,KS.auto)] [] []=some ⟨112,27,V3,[],.run,none,V2 rf plan a (i+1),([5,2]:List Nat).zip (V1 rf plan a (i+1)),Wz rf plan a (i+1),
 [wq (i+1)=i+1,FJ YP B (aL rf plan e i Qt) (RO rf plan e i Qt) 7 b (([(5,(aN rf plan)),(2,Obj.cells (KD rf e i) 3)]++((7,QM)::QD (7+1) []))++RO rf plan e i Qt) 8 (Ld 7) [5,2],Jv (↑(WM (↑(Zx (Qh [plan.getD 0 0,plan.getD 1 0,plan.getD 2 0,plan.getD 3 0] 0) i):Int) 1):Int) 1=true]++iE B rf plan e i Qt⟩:=by intro c b a;kernel_rfl
theorem B1(B:Lo)(rf:Qc)(plan:List Int)(e i:Int)(Qt:Nat->Value):let a:=Wz rf plan e i;CE.landA 6 (Qs YP (Q0 YP) J0 B 16 6 (X9 (none) 112 27 (([0,1,2,8,9]:List Nat).zip (V2 rf plan e i)) Qt V3) (Xs (V6 rf plan) 6 (([5,2]:List Nat).zip (V1 rf plan e i)) a) (6+1+a.length)
 (qZ rf plan e i Qt++[(10,VI),(17,VU (i+1))]) 0 [] []) [0,1,2,8,9] [(5,KS.auto),(2,KS.auto)] [] []=some ⟨112,27,V3,[],.run,none,V2 rf plan (e) (i+1),([5,2]:List Nat).zip (V1 rf plan (e) (i+1)),Wz rf plan (e) (i+1),
 [wq (i+1)=i+1,Jv (↑(WM (↑(Zx (Qh [plan.getD 0 0,plan.getD 1 0,plan.getD 2 0,plan.getD 3 0] 0) i):Int) 1):Int) 1=false]++iE B rf plan e i Qt⟩:=by intro a;kernel_rfl
theorem B0(B:Lo)(rf:Qc)(plan:List Int)(e i:Int)(Qt:Nat->Value):let a:=Wz rf plan e i;CE.finK 6 (Qs YP (Q0 YP) J0 B 7 6 (X9 (none) 112 27 (([0,1,2,8,9]:List Nat).zip (V2 rf plan e i)) Qt V3) (Xs (V6 rf plan) 6 (([5,2]:List Nat).zip (V1 rf plan e i)) a) (6+1+a.length)
 [(0,VI)] 0 [] []) [(5,KS.auto),(2,KS.auto)] [] []=some (OO.ret (.tuple #[]),[(5,(Zr rf plan)),(2,Obj.cells #[.int .i64 e] 3)],[],
 [Zm i (↑rf.Qa.length:Int)=false]):=by intro a;kernel_rfl
set_option maxHeartbeats 4000000 in
theorem rr(rf:Qc)(plan:List Int)(hr:X5 rf=true)(hs:1<=rf.Qb/\rf.Qb<=4)(hl:plan.length<=4)(hp:∀j:Nat,0<=plan.getD j 0/\plan.getD j 0<=1000000)(q0:(0:Int)<rf.Qb){B:Lo}(hJ:∀w,B.has w->J0 w):∀m:Nat,(∀(e i:Int),rf.Qa.length-i.toNat=m->∀(i0:0<=i) (i1:i<=rf.Qa.length) (ee:e=Zl rf.Qa plan 0+Tc rf.Qa (plan.getD 0 0) i.toNat),(∃Qt:Nat->Value,(∀t,X0 (Qt t))/\GoE YP B (JI rf plan) (V6 rf plan) 6 (X9 (none) 112 27 (([0,1,2,8,9]:List Nat).zip (V2 rf plan e i)) Qt V3) (Xs (V6 rf plan) 6 (([5,2]:List Nat).zip (V1 rf plan e i)) (Wz rf plan e i)) (6+1+(Wz rf plan e i).length) ([5,2]:List Nat))->FinK YP B (JI rf plan) (V6 rf plan) 6 (.ret (.tuple #[])) (([5,2]:List Nat).zip ([(Zr rf plan),.cells #[.int .i64 (Zl rf.Qa plan 1)] 3 (0,0)])) ([]) ([5,2]:List Nat)):=by
 intro m0;induction m0 using LA with
 |_ m0 ih0=>
  intro e i hm0 i0 i1 ee ⟨Qt,KF,XW⟩;have Zc:=Qz (Q6 hr).1;have Zc:=Qz (Q6 hr).1;have hpk:=hp 0;have hse:=pQ (k:=0) hl;have KR:=T4 (n:=Qh [plan.getD 0 0,plan.getD 1 0,plan.getD 2 0,plan.getD 3 0] 0) (k:=i) (by omega);have hwa:=Sm hr (plan:=plan) 0;by_cases q1:(i:Int)<((↑rf.Qa.length:Int))
  ·have KT:Qw (iE B rf plan e i Qt):=by
    have hws:=Zd hr (p:=plan.getD 0 0) i.toNat (by omega);have hwo:=XS hr (k:=i.toNat) (by omega);exact⟨(SZ (by omega) (by omega) (by omega) (by omega)),⟨(SY (by omega) (by omega) (by omega)),⟨⟨by omega,by omega,Sl (fs:=[plan.getD 0 0,plan.getD 1 0,plan.getD 2 0,plan.getD 3 0]) rfl (LI (m:=4) (by omega) rfl)⟩,⟨(XY q1),trivial⟩⟩⟩⟩
   by_cases q2:((↑(WM (↑(Zx (Qh [plan.getD 0 0,plan.getD 1 0,plan.getD 2 0,plan.getD 3 0] 0) i):Int) 1):Int):Int)=(1)
   ·have rj2:FJ YP B (aL rf plan e i Qt) (RO rf plan e i Qt) 7 (OO.ret (.bool true)) (([(5,(Zr rf plan)),(2,Obj.cells #[.int .i64 (e+Qe.Xz (rf.Qa.getD i.toNat La))] 3)]++((7,QM)::QD (7+1) []))++RO rf plan e i Qt) 8 (Ld 7) [5,2]:=by
     have hws:=Zd hr (p:=plan.getD 0 0) i.toNat (by omega);have hwo:=XS hr (k:=i.toNat) (by omega);have hyes:=UI (ps:=rf.Qa) (p:=plan.getD 0 0) i0 (by rw[<-W8,<-hse];exact decide_eq_true (by assumption));exact FinK.fjB (GoE.finK okF hJ Qd (Qk (by kernel_rfl)) (Qg (by kernel_rfl)) ((GoE.refl (P:=YP) (B:=B) (c0:=aL rf plan e i Qt) (Qk (by kernel_rfl))).widen (Wf:=((([(5,KS.auto),(2,KS.auto)]):List (Nat×KS)).map (·.1))) (by simp) (Qg (by kernel_rfl))) (B3 B rf plan e i Qt)
      ⟨(Xq (by omega) (by omega)),⟨⟨by omega,by omega,(QT (z:=12) (fun _=>rfl) (by omega))⟩,trivial⟩⟩) (ex:=[]) (by kernel_rfl) (XD _)
    have hws:=Zd hr (p:=plan.getD 0 0) i.toNat (by omega);have hwo:=XS hr (k:=i.toNat) (by omega);have hyes:=UI (ps:=rf.Qa) (p:=plan.getD 0 0) i0 (by rw[<-W8,<-hse];exact decide_eq_true (by assumption));exact((ih0 _ (by omega)) (e+Qe.Xz (rf.Qa.getD i.toNat La)) (i+1) rfl (by omega) (by omega) (by omega)
     (GoE.landA okF hJ Qd (Qk (by kernel_rfl)) (Qg (by kernel_rfl)) XW (B2 B rf plan e i Qt)
     ⟨(Xq (by omega) (by omega)),⟨rj2,⟨(Jg q2),KT⟩⟩⟩ (by kernel_rfl) (by kernel_rfl) (fun l hl=>by cases hl <;> decide))).cast (by rfl) (by rfl) (by rfl)
   ·have hws:=Zd hr (p:=plan.getD 0 0) i.toNat (by omega);have hwo:=XS hr (k:=i.toNat) (by omega);have hno:=ag (ps:=rf.Qa) (p:=plan.getD 0 0) i0 (by rw[<-W8,<-hse];exact decide_eq_false (by assumption));exact((ih0 _ (by omega)) (e) (i+1) rfl (by omega) (by omega) (by omega)
     (GoE.landA okF hJ Qd (Qk (by kernel_rfl)) (Qg (by kernel_rfl)) XW (B1 B rf plan e i Qt)
     ⟨(Xq (by omega) (by omega)),⟨(Jh q2),KT⟩⟩ (by kernel_rfl) (by kernel_rfl) (fun l hl=>by cases hl <;> decide))).cast (by rfl) (by rfl) (by rfl)
  ·have hws:=Zd hr (p:=plan.getD 0 0) i.toNat (by omega);exact(GoE.finK okF hJ Qd (Qk (by kernel_rfl)) (Qg (by kernel_rfl)) XW (B0 B rf plan e i Qt)
    ⟨(XZ (Int.not_lt.1 q1)),trivial⟩).cast (by rfl) (by(rw[eO ee i0 i1 (by assumption)];rfl)) (by rfl)

theorem B4(B:Lo)(rf:Qc)(plan:List Int):CE.landA 6 (Qs YP (Q0 YP) J0 B 4 6 (JI rf plan) (V6 rf plan) 6
 [] 0 [] []) [0,1,2,8,9] [(5,KS.auto),(2,KS.auto)] [] []=some ⟨112,27,V3,[],.run,none,V2 rf plan (0) (0),([5,2]:List Nat).zip (V1 rf plan (0) (0)),Wz rf plan (0) (0),
 []⟩:=by kernel_rfl
def iD(B:Lo)(rf:Qc)(plan:List Int):List Prop:=[FJ YP B (JI rf plan) (V6 rf plan) 6 (OO.ret (.tuple #[])) (([(5,(aN rf plan)),(2,Obj.cells #[.int .i64 (Zl rf.Qa plan 1)] 3)]++((6,QM)::QD (6+1) []))++V6 rf plan) 7 (Ld 6) [5,2]]++rl B rf plan
def rk(B:Lo)(rf:Qc)(plan:List Int):List Prop:=[Zm 1 rf.Qb=true]++iD B rf plan
def qY(rf:Qc)(plan:List Int):Q2:=re rf plan++[(16,VT),(21,Ql.call (Ld 7) (OO.ret (Value.func (Fn.func 112) #[] #[Qn 7 (Y6 rf plan),Qn 7 (Zy 0 #[.int .i64 1])])) ([]++(7,QM)::QD 8 []) 8 []),(22,Ql.call (Ld 10) (OO.ret (.tuple #[])) ([(9,(SD rf plan)),(2,Obj.cells #[.int .i64 (Zl rf.Qa plan 2)] 3)]++(10,QM)::QD 11 []) 11 [9,2])]
def RN(rf:Qc)(plan:List Int):Qj:=[(5,(UR rf plan)),(2,Obj.cells #[.int .i64 (Zl rf.Qa plan 1)] 3),(6,Obj.coro none),(5,(Zr rf plan)),(4,Obj.deferred (some [])),(3,Obj.coro none),(2,Obj.cells #[.int .i64 0] 3),(1,Obj.cells #[Qn 0 (QJ rf.Qa.length (Qm Qf rf.Qa)),.int .i64 rf.Qi,.int .i64 rf.Qb,.int .i64 (plan.getD 0 0),.int .i64 (plan.getD 1 0),.int .i64 (plan.getD 2 0),.int .i64 (plan.getD 3 0)] 84),(0,Obj.coro none)]
def aK(rf:Qc)(plan:List Int):CF:=⟨91,ofList 6 [.agg #[Qn 0 (QJ rf.Qa.length (Qm Qf rf.Qa)),.int .i64 rf.Qi,.int .i64 rf.Qb,.int .i64 (plan.getD 0 0),.int .i64 (plan.getD 1 0),.int .i64 (plan.getD 2 0),.int .i64 (plan.getD 3 0)],.int .i64 1],[Item.code (Q9 YP 91)],[],.run,none⟩
theorem Bz(B:Lo)(rf:Qc)(plan:List Int):let a:=rf.Qa;CE.finK 7 (Qs YP (Q0 YP) J0 B 6 7 (aK rf plan) (RN rf plan) 7
 [] 0 [] []) [] [] [{k:=7,rs:=[0],cs:=#[QJ a.length (Qm Qf a),.int .i64 rf.Qi,.int .i64 rf.Qb,.int .i64 (plan.getD 0 0),.int .i64 (plan.getD 1 0),.int .i64 (plan.getD 2 0),.int .i64 (plan.getD 3 0)]},{k:=8,rs:=[],cs:=#[.int .i64 1]}]=some (OO.ret (Value.func (Fn.func 112) #[] #[Qn 7 (Zy 0 #[QJ a.length (Qm Qf a),.int .i64 rf.Qi,.int .i64 rf.Qb,.int .i64 (plan.getD 0 0),.int .i64 (plan.getD 1 0),.int .i64 (plan.getD 2 0),.int .i64 (plan.getD 3 0)]),Qn 7 (Zy 0 #[.int .i64 1])]),[],[],
 [Z7 (Fz.rs {k:=7,rs:=[0],cs:=(WO rf plan)}) (aF rf plan) (Fz.cs {k:=7,rs:=[0],cs:=(WO rf plan)}),Z7 (Fz.rs {k:=8,rs:=[],cs:=#[.int .i64 1]}) #[.int .i64 1] (Fz.cs {k:=8,rs:=[],cs:=#[.int .i64 1]})]):=by intro a;kernel_rfl
def rj(B:Lo)(rf:Qc)(plan:List Int):List Prop:=[FJ YP B (aK rf plan) (RN rf plan) 7 (OO.ret (Value.func (Fn.func 112) #[] #[Qn 7 (Y6 rf plan),Qn 7 (Zy 0 #[.int .i64 1])])) (([]++((7,QM)::QD (7+1) []))++RN rf plan) 8 (Ld 7) []]++rk B rf plan
def V5(rf:Qc)(plan:List Int):Qj:=[(9,(ZP rf plan)),(8,Obj.deferred (some [])),(7,Obj.coro none),(5,(UR rf plan)),(2,Obj.cells #[.int .i64 (Zl rf.Qa plan 1)] 3),(6,Obj.coro none),(5,(Zr rf plan)),(4,Obj.deferred (some [])),(3,Obj.coro none),(2,Obj.cells #[.int .i64 0] 3),(1,Obj.cells #[Qn 0 (QJ rf.Qa.length (Qm Qf rf.Qa)),.int .i64 rf.Qi,.int .i64 rf.Qb,.int .i64 (plan.getD 0 0),.int .i64 (plan.getD 1 0),.int .i64 (plan.getD 2 0),.int .i64 (plan.getD 3 0)] 84),(0,Obj.coro none)]
def JH(rf:Qc)(plan:List Int):CF:=⟨112,ofList 27 [Value.func (Fn.yield 9) #[] #[],Qn 7 (Zy 0 #[QJ rf.Qa.length (Qm Qf rf.Qa),.int .i64 rf.Qi,.int .i64 rf.Qb,.int .i64 (plan.getD 0 0),.int .i64 (plan.getD 1 0),.int .i64 (plan.getD 2 0),.int .i64 (plan.getD 3 0)]),Qn 7 (Zy 0 #[.int .i64 1])],[Item.code (Q9 YP 112)],[],.run,none⟩
def Vz(rf:Qc)(plan:List Int)(e i:Int):List Value:=let a:=rf.Qa;[Value.func (Fn.yield 9) #[] #[],Qn 7 (Zy 0 #[QJ a.length (Qm Qf a),.int .i64 rf.Qi,.int .i64 rf.Qb,.int .i64 (plan.getD 0 0),.int .i64 (plan.getD 1 0),.int .i64 (plan.getD 2 0),.int .i64 (plan.getD 3 0)]),Qn 7 (Zy 0 #[.int .i64 1]),.int .i64 (↑a.length:Int),.int .i64 i]
def Vy(rf:Qc)(plan:List Int)(e i:Int):List Obj:=[(ZP rf plan),.cells #[.int .i64 e] 3 (0,0)]
def Wy(rf:Qc)(plan:List Int)(e i:Int):List Obj:=[]
def V0:List Item:=([.code [1,0,0],.inLoop [1,0,0],.inBlock 0]).map (it (Q9 YP 112))
def iC(B:Lo)(rf:Qc)(plan:List Int)(e i:Int)(Qt:Nat->Value):List Prop:=let b:=Tri.set 14 Tri.lf 16 (.int .i64 i);let a:=Qh [plan.getD 0 0,plan.getD 1 0,plan.getD 2 0,plan.getD 3 0] 1;let d:=.int .i64 a;let c:=.int .i64 (↑(Zx a i):Int);[Kd YP BinOp.and 3 (Xm {len:=16000,tr:=Tri.set 14 Tri.lf 17 c} 17) (.int .i64 1) (.int .i64 (↑(WM (↑(Zx a i):Int) 1):Int)),Kd YP BinOp.shr 3 (Xm {len:=16000,tr:=Tri.set 14 b 15 d} 15) (Xm {len:=16000,tr:=Tri.set 14 b 15 d} 16) c,1=(↑1:Int)/\1<4/\LO (WO rf plan) (3+1*TypeInfo.size Try.t3) (3+1*TypeInfo.size Try.t3+TypeInfo.size Try.t3)=#[.int .i64 a],Zm i (↑rf.Qa.length:Int)=true]++([]:List Prop)
def qX(rf:Qc)(plan:List Int)(e i:Int)(Qt:Nat->Value):Q2:=let a:=Qh [plan.getD 0 0,plan.getD 1 0,plan.getD 2 0,plan.getD 3 0] 1;[(0,VT),(5,Ql.tarr 1 #[.int .i64 a]),(8,Ql.bin (.int .i64 (↑(Zx a i):Int))),(9,Ql.bin (.int .i64 (↑(WM (↑(Zx a i):Int) 1):Int)))]
def RM(rf:Qc)(plan:List Int)(e i:Int)(Qt:Nat->Value):Qj:=[(9,(ZP rf plan)),(2,Obj.cells #[.int .i64 e] 3),(10,Obj.coro none),(9,(ZP rf plan)),(8,Obj.deferred (some [])),(7,Obj.coro none),(5,(UR rf plan)),(2,Obj.cells #[.int .i64 (Zl rf.Qa plan 1)] 3),(6,Obj.coro none),(5,(Zr rf plan)),(4,Obj.deferred (some [])),(3,Obj.coro none),(2,Obj.cells #[.int .i64 0] 3),(1,Obj.cells #[Qn 0 (QJ rf.Qa.length (Qm Qf rf.Qa)),.int .i64 rf.Qi,.int .i64 rf.Qb,.int .i64 (plan.getD 0 0),.int .i64 (plan.getD 1 0),.int .i64 (plan.getD 2 0),.int .i64 (plan.getD 3 0)] 84),(0,Obj.coro none)]
def aJ(rf:Qc)(plan:List Int)(e i:Int)(Qt:Nat->Value):CF:=⟨67,ofList 27 [.agg #[Qn 0 (QJ rf.Qa.length (Qm Qf rf.Qa)),.int .i64 rf.Qi,.int .i64 rf.Qb,.int .i64 (plan.getD 0 0),.int .i64 (plan.getD 1 0),.int .i64 (plan.getD 2 0),.int .i64 (plan.getD 3 0)],pA 1 0,.int .i64 0,pA 2 0,.int .i64 1,.tuple #[],pA 1 0,pA 1 2,.int .i64 rf.Qb,.int .i64 1,.bool true,.int .i64 1,.agg #[Qn 0 (QJ rf.Qa.length (Qm Qf rf.Qa)),.int .i64 rf.Qi,.int .i64 rf.Qb,.int .i64 (plan.getD 0 0),.int .i64 (plan.getD 1 0),.int .i64 (plan.getD 2 0),.int .i64 (plan.getD 3 0)],.int .i64 1,Value.func (Fn.func 112) #[] #[Qn 7 (Zy 0 #[QJ rf.Qa.length (Qm Qf rf.Qa),.int .i64 rf.Qi,.int .i64 rf.Qb,.int .i64 (plan.getD 0 0),.int .i64 (plan.getD 1 0),.int .i64 (plan.getD 2 0),.int .i64 (plan.getD 3 0)]),Qn 7 (Zy 0 #[.int .i64 1])],.int .i64 i,.tuple #[],.tuple #[],.tuple #[],.tuple #[],.tuple #[],.tuple #[],.tuple #[],.tuple #[],.tuple #[],.int .i64 1,.tuple #[]],[Item.code (VH (Q9 YP 67) [1,1,0,1,0,0,1,1,0,0,1,1,0,0]),Item.beginRound,Item.code (VH (Q9 YP 67) [1,1,0,1,0,0,1,1,0,0,1,1,0,1])],[],.run,some 9⟩
theorem Bx(B:Lo)(rf:Qc)(plan:List Int)(e i:Int)(Qt:Nat->Value):let d:=Lb i;let c:=rf.Qa;let a:=c.getD d La;let b:=e+a.Xz;CE.finK 11 (Qs YP (Q0 YP) J0 B 6 11 (aJ rf plan e i Qt) (RM rf plan e i Qt) 11
 [(6,Ql.tidx d (KE a)),(9,VU b)] 0 [] []) [(9,KS.auto),(2,KS.auto)] [] []=some (OO.ret (.bool true),[(9,(ZP rf plan)),(2,Obj.cells #[.int .i64 b] 3)],[],
 [wq b=e+a.Xz,i=(↑d:Int)/\Lb i<Lf c/\LO (Qm Qf c) (Lb i*TypeInfo.size Try.t54) (Lb i*TypeInfo.size Try.t54+TypeInfo.size Try.t54)=(KE a)]):=by intro d c a b;kernel_rfl
theorem Bw(B:Lo)(rf:Qc)(plan:List Int)(e i:Int)(Qt:Nat->Value):let c:=Wy rf plan e i;let b:=OO.ret (.bool true);let a:=e+Qe.Xz (rf.Qa.getD i.toNat La);CE.landA 10 (Qs YP (Q0 YP) J0 B 16 10 (X9 (none) 112 27 (([0,1,2,8,9]:List Nat).zip (Vz rf plan e i)) Qt V0) (Xs (V5 rf plan) 10 (([9,2]:List Nat).zip (Vy rf plan e i)) c) (10+1+c.length)
 (qX rf plan e i Qt++[(10,VT),(14,Ql.call (Ld 11) b ([(9,(SD rf plan)),(2,Obj.cells (KD rf e i) 3)]++(11,QM)::QD 12 []) 12 [9,2]),(17,VU (i+1))]) 0 [] []) [0,1,2,8,9] [(9,KS.auto),(2,KS.auto)] [] []=some ⟨112,27,V0,[],.run,none,Vz rf plan a (i+1),([9,2]:List Nat).zip (Vy rf plan a (i+1)),Wy rf plan a (i+1),
 [wq (i+1)=i+1,FJ YP B (aJ rf plan e i Qt) (RM rf plan e i Qt) 11 b (([(9,(SD rf plan)),(2,Obj.cells (KD rf e i) 3)]++((11,QM)::QD (11+1) []))++RM rf plan e i Qt) 12 (Ld 11) [9,2],Jv (↑(WM (↑(Zx (Qh [plan.getD 0 0,plan.getD 1 0,plan.getD 2 0,plan.getD 3 0] 1) i):Int) 1):Int) 1=true]++iC B rf plan e i Qt⟩:=by intro c b a;kernel_rfl
theorem y5(B:Lo)(rf:Qc)(plan:List Int)(e i:Int)(Qt:Nat->Value):let a:=Wy rf plan e i;CE.landA 10 (Qs YP (Q0 YP) J0 B 16 10 (X9 (none) 112 27 (([0,1,2,8,9]:List Nat).zip (Vz rf plan e i)) Qt V0) (Xs (V5 rf plan) 10 (([9,2]:List Nat).zip (Vy rf plan e i)) a) (10+1+a.length)
 (qX rf plan e i Qt++[(10,VI),(17,VU (i+1))]) 0 [] []) [0,1,2,8,9] [(9,KS.auto),(2,KS.auto)] [] []=some ⟨112,27,V0,[],.run,none,Vz rf plan (e) (i+1),([9,2]:List Nat).zip (Vy rf plan (e) (i+1)),Wy rf plan (e) (i+1),
 [wq (i+1)=i+1,Jv (↑(WM (↑(Zx (Qh [plan.getD 0 0,plan.getD 1 0,plan.getD 2 0,plan.getD 3 0] 1) i):Int) 1):Int) 1=false]++iC B rf plan e i Qt⟩:=by intro a;kernel_rfl
theorem y4(B:Lo)(rf:Qc)(plan:List Int)(e i:Int)(Qt:Nat->Value):let a:=Wy rf plan e i;CE.finK 10 (Qs YP (Q0 YP) J0 B 7 10 (X9 (none) 112 27 (([0,1,2,8,9]:List Nat).zip (Vz rf plan e i)) Qt V0) (Xs (V5 rf plan) 10 (([9,2]:List Nat).zip (Vy rf plan e i)) a) (10+1+a.length)
 [(0,VI)] 0 [] []) [(9,KS.auto),(2,KS.auto)] [] []=some (OO.ret (.tuple #[]),[(9,(ZP rf plan)),(2,Obj.cells #[.int .i64 e] 3)],[],
 [Zm i (↑rf.Qa.length:Int)=false]):=by intro a;kernel_rfl
set_option maxHeartbeats 4000000 in
theorem rq(rf:Qc)(plan:List Int)(hr:X5 rf=true)(hs:1<=rf.Qb/\rf.Qb<=4)(hl:plan.length<=4)(hp:∀j:Nat,0<=plan.getD j 0/\plan.getD j 0<=1000000)(q0:(0:Int)<rf.Qb)(q1:(1:Int)<rf.Qb){B:Lo}(hJ:∀w,B.has w->J0 w):∀m:Nat,(∀(e i:Int),rf.Qa.length-i.toNat=m->∀(i0:0<=i) (i1:i<=rf.Qa.length) (ee:e=Zl rf.Qa plan 1+Tc rf.Qa (plan.getD 1 0) i.toNat),(∃Qt:Nat->Value,(∀t,X0 (Qt t))/\GoE YP B (JH rf plan) (V5 rf plan) 10 (X9 (none) 112 27 (([0,1,2,8,9]:List Nat).zip (Vz rf plan e i)) Qt V0) (Xs (V5 rf plan) 10 (([9,2]:List Nat).zip (Vy rf plan e i)) (Wy rf plan e i)) (10+1+(Wy rf plan e i).length) ([9,2]:List Nat))->FinK YP B (JH rf plan) (V5 rf plan) 10 (.ret (.tuple #[])) (([9,2]:List Nat).zip ([(ZP rf plan),.cells #[.int .i64 (Zl rf.Qa plan 2)] 3 (0,0)])) ([]) ([9,2]:List Nat)):=by
 intro m0;induction m0 using LA with
 |_ m0 ih0=>
  intro e i hm0 i0 i1 ee ⟨Qt,KF,XW⟩;have Zc:=Qz (Q6 hr).1;have Zc:=Qz (Q6 hr).1;have hpk:=hp 1;have hse:=pQ (k:=1) hl;have KR:=T4 (n:=Qh [plan.getD 0 0,plan.getD 1 0,plan.getD 2 0,plan.getD 3 0] 1) (k:=i) (by omega);have hwa:=Sm hr (plan:=plan) 1;by_cases q2:(i:Int)<((↑rf.Qa.length:Int))
  ·have hp6:Qw (iC B rf plan e i Qt):=by
    have hws:=Zd hr (p:=plan.getD 1 0) i.toNat (by omega);have hwo:=XS hr (k:=i.toNat) (by omega);exact⟨(SZ (by omega) (by omega) (by omega) (by omega)),⟨(SY (by omega) (by omega) (by omega)),⟨⟨by omega,by omega,Sl (fs:=[plan.getD 0 0,plan.getD 1 0,plan.getD 2 0,plan.getD 3 0]) rfl (LI (m:=4) (by omega) rfl)⟩,⟨(XY q2),trivial⟩⟩⟩⟩
   by_cases q3:((↑(WM (↑(Zx (Qh [plan.getD 0 0,plan.getD 1 0,plan.getD 2 0,plan.getD 3 0] 1) i):Int) 1):Int):Int)=(1)
   ·have rj4:FJ YP B (aJ rf plan e i Qt) (RM rf plan e i Qt) 11 (OO.ret (.bool true)) (([(9,(ZP rf plan)),(2,Obj.cells #[.int .i64 (e+Qe.Xz (rf.Qa.getD i.toNat La))] 3)]++((11,QM)::QD (11+1) []))++RM rf plan e i Qt) 12 (Ld 11) [9,2]:=by
     have hws:=Zd hr (p:=plan.getD 1 0) i.toNat (by omega);have hwo:=XS hr (k:=i.toNat) (by omega);have hyes:=UI (ps:=rf.Qa) (p:=plan.getD 1 0) i0 (by rw[<-W8,<-hse];exact decide_eq_true (by assumption));exact FinK.fjB (GoE.finK okF hJ Qd (Qk (by kernel_rfl)) (Qg (by kernel_rfl)) ((GoE.refl (P:=YP) (B:=B) (c0:=aJ rf plan e i Qt) (Qk (by kernel_rfl))).widen (Wf:=((([(9,KS.auto),(2,KS.auto)]):List (Nat×KS)).map (·.1))) (by simp) (Qg (by kernel_rfl))) (Bx B rf plan e i Qt)
      ⟨(Xq (by omega) (by omega)),⟨⟨by omega,by omega,(QT (z:=12) (fun _=>rfl) (by omega))⟩,trivial⟩⟩) (ex:=[]) (by kernel_rfl) (XD _)
    have hws:=Zd hr (p:=plan.getD 1 0) i.toNat (by omega);have hwo:=XS hr (k:=i.toNat) (by omega);have hyes:=UI (ps:=rf.Qa) (p:=plan.getD 1 0) i0 (by rw[<-W8,<-hse];exact decide_eq_true (by assumption));exact((ih0 _ (by omega)) (e+Qe.Xz (rf.Qa.getD i.toNat La)) (i+1) rfl (by omega) (by omega) (by omega)
     (GoE.landA okF hJ Qd (Qk (by kernel_rfl)) (Qg (by kernel_rfl)) XW (Bw B rf plan e i Qt)
     ⟨(Xq (by omega) (by omega)),⟨rj4,⟨(Jg q3),hp6⟩⟩⟩ (by kernel_rfl) (by kernel_rfl) (fun l hl=>by cases hl <;> decide))).cast (by rfl) (by rfl) (by rfl)
   ·have hws:=Zd hr (p:=plan.getD 1 0) i.toNat (by omega);have hwo:=XS hr (k:=i.toNat) (by omega);have hno:=ag (ps:=rf.Qa) (p:=plan.getD 1 0) i0 (by rw[<-W8,<-hse];exact decide_eq_false (by assumption));exact((ih0 _ (by omega)) (e) (i+1) rfl (by omega) (by omega) (by omega)
     (GoE.landA okF hJ Qd (Qk (by kernel_rfl)) (Qg (by kernel_rfl)) XW (y5 B rf plan e i Qt)
     ⟨(Xq (by omega) (by omega)),⟨(Jh q3),hp6⟩⟩ (by kernel_rfl) (by kernel_rfl) (fun l hl=>by cases hl <;> decide))).cast (by rfl) (by rfl) (by rfl)
  ·have hws:=Zd hr (p:=plan.getD 1 0) i.toNat (by omega);exact(GoE.finK okF hJ Qd (Qk (by kernel_rfl)) (Qg (by kernel_rfl)) XW (y4 B rf plan e i Qt)
    ⟨(XZ (Int.not_lt.1 q2)),trivial⟩).cast (by rfl) (by(rw[eO ee i0 i1 (by assumption)];rfl)) (by rfl)

theorem By(B:Lo)(rf:Qc)(plan:List Int):let a:=Zl rf.Qa plan 1;CE.landA 10 (Qs YP (Q0 YP) J0 B 4 10 (JH rf plan) (V5 rf plan) 10
 [] 0 [] []) [0,1,2,8,9] [(9,KS.auto),(2,KS.auto)] [] []=some ⟨112,27,V0,[],.run,none,Vz rf plan a (0),([9,2]:List Nat).zip (Vy rf plan a (0)),Wy rf plan a (0),
 []⟩:=by intro a;kernel_rfl
def iB(B:Lo)(rf:Qc)(plan:List Int):List Prop:=[FJ YP B (JH rf plan) (V5 rf plan) 10 (OO.ret (.tuple #[])) (([(9,(SD rf plan)),(2,Obj.cells #[.int .i64 (Zl rf.Qa plan 2)] 3)]++((10,QM)::QD (10+1) []))++V5 rf plan) 11 (Ld 10) [9,2]]++rj B rf plan
def ri(B:Lo)(rf:Qc)(plan:List Int):List Prop:=[Zm 2 rf.Qb=true]++iB B rf plan
def qW(rf:Qc)(plan:List Int):Q2:=qY rf plan++[(24,VT),(29,Ql.call (Ld 11) (OO.ret (Value.func (Fn.func 112) #[] #[Qn 11 (Y6 rf plan),Qn 11 (Zy 0 #[.int .i64 2])])) ([]++(11,QM)::QD 12 []) 12 []),(30,Ql.call (Ld 14) (OO.ret (.tuple #[])) ([(13,(aP rf plan)),(2,Obj.cells #[.int .i64 (Zl rf.Qa plan 3)] 3)]++(14,QM)::QD 15 []) 15 [13,2])]
def RL(rf:Qc)(plan:List Int):Qj:=[(9,(JJ rf plan)),(2,Obj.cells #[.int .i64 (Zl rf.Qa plan 2)] 3),(10,Obj.coro none),(9,(ZP rf plan)),(8,Obj.deferred (some [])),(7,Obj.coro none),(5,(UR rf plan)),(2,Obj.cells #[.int .i64 (Zl rf.Qa plan 1)] 3),(6,Obj.coro none),(5,(Zr rf plan)),(4,Obj.deferred (some [])),(3,Obj.coro none),(2,Obj.cells #[.int .i64 0] 3),(1,Obj.cells #[Qn 0 (QJ rf.Qa.length (Qm Qf rf.Qa)),.int .i64 rf.Qi,.int .i64 rf.Qb,.int .i64 (plan.getD 0 0),.int .i64 (plan.getD 1 0),.int .i64 (plan.getD 2 0),.int .i64 (plan.getD 3 0)] 84),(0,Obj.coro none)]
def aI(rf:Qc)(plan:List Int):CF:=⟨91,ofList 6 [.agg #[Qn 0 (QJ rf.Qa.length (Qm Qf rf.Qa)),.int .i64 rf.Qi,.int .i64 rf.Qb,.int .i64 (plan.getD 0 0),.int .i64 (plan.getD 1 0),.int .i64 (plan.getD 2 0),.int .i64 (plan.getD 3 0)],.int .i64 2],[Item.code (Q9 YP 91)],[],.run,none⟩
theorem y3(B:Lo)(rf:Qc)(plan:List Int):let a:=rf.Qa;CE.finK 11 (Qs YP (Q0 YP) J0 B 6 11 (aI rf plan) (RL rf plan) 11
 [] 0 [] []) [] [] [{k:=11,rs:=[0],cs:=#[QJ a.length (Qm Qf a),.int .i64 rf.Qi,.int .i64 rf.Qb,.int .i64 (plan.getD 0 0),.int .i64 (plan.getD 1 0),.int .i64 (plan.getD 2 0),.int .i64 (plan.getD 3 0)]},{k:=12,rs:=[],cs:=#[.int .i64 2]}]=some (OO.ret (Value.func (Fn.func 112) #[] #[Qn 11 (Zy 0 #[QJ a.length (Qm Qf a),.int .i64 rf.Qi,.int .i64 rf.Qb,.int .i64 (plan.getD 0 0),.int .i64 (plan.getD 1 0),.int .i64 (plan.getD 2 0),.int .i64 (plan.getD 3 0)]),Qn 11 (Zy 0 #[.int .i64 2])]),[],[],
 [Z7 (Fz.rs {k:=11,rs:=[0],cs:=(WO rf plan)}) (aF rf plan) (Fz.cs {k:=11,rs:=[0],cs:=(WO rf plan)}),Z7 (Fz.rs {k:=12,rs:=[],cs:=#[.int .i64 2]}) #[.int .i64 2] (Fz.cs {k:=12,rs:=[],cs:=#[.int .i64 2]})]):=by intro a;kernel_rfl
def rh(B:Lo)(rf:Qc)(plan:List Int):List Prop:=[FJ YP B (aI rf plan) (RL rf plan) 11 (OO.ret (Value.func (Fn.func 112) #[] #[Qn 11 (Y6 rf plan),Qn 11 (Zy 0 #[.int .i64 2])])) (([]++((11,QM)::QD (11+1) []))++RL rf plan) 12 (Ld 11) []]++ri B rf plan
def V4(rf:Qc)(plan:List Int):Qj:=[(13,(WQ rf plan)),(12,Obj.deferred (some [])),(11,Obj.coro none),(9,(JJ rf plan)),(2,Obj.cells #[.int .i64 (Zl rf.Qa plan 2)] 3),(10,Obj.coro none),(9,(ZP rf plan)),(8,Obj.deferred (some [])),(7,Obj.coro none),(5,(UR rf plan)),(2,Obj.cells #[.int .i64 (Zl rf.Qa plan 1)] 3),(6,Obj.coro none),(5,(Zr rf plan)),(4,Obj.deferred (some [])),(3,Obj.coro none),(2,Obj.cells #[.int .i64 0] 3),(1,Obj.cells #[Qn 0 (QJ rf.Qa.length (Qm Qf rf.Qa)),.int .i64 rf.Qi,.int .i64 rf.Qb,.int .i64 (plan.getD 0 0),.int .i64 (plan.getD 1 0),.int .i64 (plan.getD 2 0),.int .i64 (plan.getD 3 0)] 84),(0,Obj.coro none)]
def JG(rf:Qc)(plan:List Int):CF:=⟨112,ofList 27 [Value.func (Fn.yield 13) #[] #[],Qn 11 (Zy 0 #[QJ rf.Qa.length (Qm Qf rf.Qa),.int .i64 rf.Qi,.int .i64 rf.Qb,.int .i64 (plan.getD 0 0),.int .i64 (plan.getD 1 0),.int .i64 (plan.getD 2 0),.int .i64 (plan.getD 3 0)]),Qn 11 (Zy 0 #[.int .i64 2])],[Item.code (Q9 YP 112)],[],.run,none⟩
def Vw(rf:Qc)(plan:List Int)(e i:Int):List Value:=let a:=rf.Qa;[Value.func (Fn.yield 13) #[] #[],Qn 11 (Zy 0 #[QJ a.length (Qm Qf a),.int .i64 rf.Qi,.int .i64 rf.Qb,.int .i64 (plan.getD 0 0),.int .i64 (plan.getD 1 0),.int .i64 (plan.getD 2 0),.int .i64 (plan.getD 3 0)]),Qn 11 (Zy 0 #[.int .i64 2]),.int .i64 (↑a.length:Int),.int .i64 i]
def Vv(rf:Qc)(plan:List Int)(e i:Int):List Obj:=[(WQ rf plan),.cells #[.int .i64 e] 3 (0,0)]
def Wx(rf:Qc)(plan:List Int)(e i:Int):List Obj:=[]
def Vx:List Item:=([.code [1,0,0],.inLoop [1,0,0],.inBlock 0]).map (it (Q9 YP 112))
def cv(B:Lo)(rf:Qc)(plan:List Int)(e i:Int)(Qt:Nat->Value):List Prop:=let b:=Tri.set 14 Tri.lf 16 (.int .i64 i);let a:=Qh [plan.getD 0 0,plan.getD 1 0,plan.getD 2 0,plan.getD 3 0] 2;let d:=.int .i64 a;let c:=.int .i64 (↑(Zx a i):Int);[Kd YP BinOp.and 3 (Xm {len:=16000,tr:=Tri.set 14 Tri.lf 17 c} 17) (.int .i64 1) (.int .i64 (↑(WM (↑(Zx a i):Int) 1):Int)),Kd YP BinOp.shr 3 (Xm {len:=16000,tr:=Tri.set 14 b 15 d} 15) (Xm {len:=16000,tr:=Tri.set 14 b 15 d} 16) c,2=(↑2:Int)/\2<4/\LO (WO rf plan) (3+2*TypeInfo.size Try.t3) (3+2*TypeInfo.size Try.t3+TypeInfo.size Try.t3)=#[.int .i64 a],Zm i (↑rf.Qa.length:Int)=true]++([]:List Prop)
def mi(rf:Qc)(plan:List Int)(e i:Int)(Qt:Nat->Value):Q2:=let a:=Qh [plan.getD 0 0,plan.getD 1 0,plan.getD 2 0,plan.getD 3 0] 2;[(0,VT),(5,Ql.tarr 2 #[.int .i64 a]),(8,Ql.bin (.int .i64 (↑(Zx a i):Int))),(9,Ql.bin (.int .i64 (↑(WM (↑(Zx a i):Int) 1):Int)))]
def RK(rf:Qc)(plan:List Int)(e i:Int)(Qt:Nat->Value):Qj:=[(13,(WQ rf plan)),(2,Obj.cells #[.int .i64 e] 3),(14,Obj.coro none),(13,(WQ rf plan)),(12,Obj.deferred (some [])),(11,Obj.coro none),(9,(JJ rf plan)),(2,Obj.cells #[.int .i64 (Zl rf.Qa plan 2)] 3),(10,Obj.coro none),(9,(ZP rf plan)),(8,Obj.deferred (some [])),(7,Obj.coro none),(5,(UR rf plan)),(2,Obj.cells #[.int .i64 (Zl rf.Qa plan 1)] 3),(6,Obj.coro none),(5,(Zr rf plan)),(4,Obj.deferred (some [])),(3,Obj.coro none),(2,Obj.cells #[.int .i64 0] 3),(1,Obj.cells #[Qn 0 (QJ rf.Qa.length (Qm Qf rf.Qa)),.int .i64 rf.Qi,.int .i64 rf.Qb,.int .i64 (plan.getD 0 0),.int .i64 (plan.getD 1 0),.int .i64 (plan.getD 2 0),.int .i64 (plan.getD 3 0)] 84),(0,Obj.coro none)]
def aH(rf:Qc)(plan:List Int)(e i:Int)(Qt:Nat->Value):CF:=⟨67,ofList 27 [.agg #[Qn 0 (QJ rf.Qa.length (Qm Qf rf.Qa)),.int .i64 rf.Qi,.int .i64 rf.Qb,.int .i64 (plan.getD 0 0),.int .i64 (plan.getD 1 0),.int .i64 (plan.getD 2 0),.int .i64 (plan.getD 3 0)],pA 1 0,.int .i64 0,pA 2 0,.int .i64 2,.tuple #[],pA 1 0,pA 1 2,.int .i64 rf.Qb,.int .i64 2,.bool true,.int .i64 2,.agg #[Qn 0 (QJ rf.Qa.length (Qm Qf rf.Qa)),.int .i64 rf.Qi,.int .i64 rf.Qb,.int .i64 (plan.getD 0 0),.int .i64 (plan.getD 1 0),.int .i64 (plan.getD 2 0),.int .i64 (plan.getD 3 0)],.int .i64 2,Value.func (Fn.func 112) #[] #[Qn 11 (Zy 0 #[QJ rf.Qa.length (Qm Qf rf.Qa),.int .i64 rf.Qi,.int .i64 rf.Qb,.int .i64 (plan.getD 0 0),.int .i64 (plan.getD 1 0),.int .i64 (plan.getD 2 0),.int .i64 (plan.getD 3 0)]),Qn 11 (Zy 0 #[.int .i64 2])],.int .i64 i,.tuple #[],.tuple #[],.tuple #[],.tuple #[],.tuple #[],.tuple #[],.tuple #[],.tuple #[],.tuple #[],.int .i64 2,.tuple #[]],[Item.code (VH (Q9 YP 67) [1,1,0,1,0,0,1,1,0,0,1,1,0,0]),Item.beginRound,Item.code (VH (Q9 YP 67) [1,1,0,1,0,0,1,1,0,0,1,1,0,1])],[],.run,some 13⟩
theorem y1(B:Lo)(rf:Qc)(plan:List Int)(e i:Int)(Qt:Nat->Value):let d:=Lb i;let c:=rf.Qa;let a:=c.getD d La;let b:=e+a.Xz;CE.finK 15 (Qs YP (Q0 YP) J0 B 6 15 (aH rf plan e i Qt) (RK rf plan e i Qt) 15
 [(6,Ql.tidx d (KE a)),(9,VU b)] 0 [] []) [(13,KS.auto),(2,KS.auto)] [] []=some (OO.ret (.bool true),[(13,(WQ rf plan)),(2,Obj.cells #[.int .i64 b] 3)],[],
 [wq b=e+a.Xz,i=(↑d:Int)/\Lb i<Lf c/\LO (Qm Qf c) (Lb i*TypeInfo.size Try.t54) (Lb i*TypeInfo.size Try.t54+TypeInfo.size Try.t54)=(KE a)]):=by intro d c a b;kernel_rfl
theorem y0(B:Lo)(rf:Qc)(plan:List Int)(e i:Int)(Qt:Nat->Value):let c:=Wx rf plan e i;let b:=OO.ret (.bool true);let a:=e+Qe.Xz (rf.Qa.getD i.toNat La);CE.landA 14 (Qs YP (Q0 YP) J0 B 16 14 (X9 (none) 112 27 (([0,1,2,8,9]:List Nat).zip (Vw rf plan e i)) Qt Vx) (Xs (V4 rf plan) 14 (([13,2]:List Nat).zip (Vv rf plan e i)) c) (14+1+c.length)
 (mi rf plan e i Qt++[(10,VT),(14,Ql.call (Ld 15) b ([(13,(aP rf plan)),(2,Obj.cells (KD rf e i) 3)]++(15,QM)::QD 16 []) 16 [13,2]),(17,VU (i+1))]) 0 [] []) [0,1,2,8,9] [(13,KS.auto),(2,KS.auto)] [] []=some ⟨112,27,Vx,[],.run,none,Vw rf plan a (i+1),([13,2]:List Nat).zip (Vv rf plan a (i+1)),Wx rf plan a (i+1),
 [wq (i+1)=i+1,FJ YP B (aH rf plan e i Qt) (RK rf plan e i Qt) 15 b (([(13,(aP rf plan)),(2,Obj.cells (KD rf e i) 3)]++((15,QM)::QD (15+1) []))++RK rf plan e i Qt) 16 (Ld 15) [13,2],Jv (↑(WM (↑(Zx (Qh [plan.getD 0 0,plan.getD 1 0,plan.getD 2 0,plan.getD 3 0] 2) i):Int) 1):Int) 1=true]++cv B rf plan e i Qt⟩:=by intro c b a;kernel_rfl
theorem yz(B:Lo)(rf:Qc)(plan:List Int)(e i:Int)(Qt:Nat->Value):let a:=Wx rf plan e i;CE.landA 14 (Qs YP (Q0 YP) J0 B 16 14 (X9 (none) 112 27 (([0,1,2,8,9]:List Nat).zip (Vw rf plan e i)) Qt Vx) (Xs (V4 rf plan) 14 (([13,2]:List Nat).zip (Vv rf plan e i)) a) (14+1+a.length)
 (mi rf plan e i Qt++[(10,VI),(17,VU (i+1))]) 0 [] []) [0,1,2,8,9] [(13,KS.auto),(2,KS.auto)] [] []=some ⟨112,27,Vx,[],.run,none,Vw rf plan (e) (i+1),([13,2]:List Nat).zip (Vv rf plan (e) (i+1)),Wx rf plan (e) (i+1),
 [wq (i+1)=i+1,Jv (↑(WM (↑(Zx (Qh [plan.getD 0 0,plan.getD 1 0,plan.getD 2 0,plan.getD 3 0] 2) i):Int) 1):Int) 1=false]++cv B rf plan e i Qt⟩:=by intro a;kernel_rfl
theorem yy(B:Lo)(rf:Qc)(plan:List Int)(e i:Int)(Qt:Nat->Value):let a:=Wx rf plan e i;CE.finK 14 (Qs YP (Q0 YP) J0 B 7 14 (X9 (none) 112 27 (([0,1,2,8,9]:List Nat).zip (Vw rf plan e i)) Qt Vx) (Xs (V4 rf plan) 14 (([13,2]:List Nat).zip (Vv rf plan e i)) a) (14+1+a.length)
 [(0,VI)] 0 [] []) [(13,KS.auto),(2,KS.auto)] [] []=some (OO.ret (.tuple #[]),[(13,(WQ rf plan)),(2,Obj.cells #[.int .i64 e] 3)],[],
 [Zm i (↑rf.Qa.length:Int)=false]):=by intro a;kernel_rfl
set_option maxHeartbeats 4000000 in
theorem rp(rf:Qc)(plan:List Int)(hr:X5 rf=true)(hs:1<=rf.Qb/\rf.Qb<=4)(hl:plan.length<=4)(hp:∀j:Nat,0<=plan.getD j 0/\plan.getD j 0<=1000000)(q0:(0:Int)<rf.Qb)(q1:(1:Int)<rf.Qb)(q2:(2:Int)<rf.Qb){B:Lo}(hJ:∀w,B.has w->J0 w):∀m:Nat,(∀(e i:Int),rf.Qa.length-i.toNat=m->∀(i0:0<=i) (i1:i<=rf.Qa.length) (ee:e=Zl rf.Qa plan 2+Tc rf.Qa (plan.getD 2 0) i.toNat),(∃Qt:Nat->Value,(∀t,X0 (Qt t))/\GoE YP B (JG rf plan) (V4 rf plan) 14 (X9 (none) 112 27 (([0,1,2,8,9]:List Nat).zip (Vw rf plan e i)) Qt Vx) (Xs (V4 rf plan) 14 (([13,2]:List Nat).zip (Vv rf plan e i)) (Wx rf plan e i)) (14+1+(Wx rf plan e i).length) ([13,2]:List Nat))->FinK YP B (JG rf plan) (V4 rf plan) 14 (.ret (.tuple #[])) (([13,2]:List Nat).zip ([(WQ rf plan),.cells #[.int .i64 (Zl rf.Qa plan 3)] 3 (0,0)])) ([]) ([13,2]:List Nat)):=by
 intro m0;induction m0 using LA with
 |_ m0 ih0=>
  intro e i hm0 i0 i1 ee ⟨Qt,KF,XW⟩;have Zc:=Qz (Q6 hr).1;have Zc:=Qz (Q6 hr).1;have hpk:=hp 2;have hse:=pQ (k:=2) hl;have KR:=T4 (n:=Qh [plan.getD 0 0,plan.getD 1 0,plan.getD 2 0,plan.getD 3 0] 2) (k:=i) (by omega);have hwa:=Sm hr (plan:=plan) 2;by_cases q3:(i:Int)<((↑rf.Qa.length:Int))
  ·have hp10:Qw (cv B rf plan e i Qt):=by
    have hws:=Zd hr (p:=plan.getD 2 0) i.toNat (by omega);have hwo:=XS hr (k:=i.toNat) (by omega);exact⟨(SZ (by omega) (by omega) (by omega) (by omega)),⟨(SY (by omega) (by omega) (by omega)),⟨⟨by omega,by omega,Sl (fs:=[plan.getD 0 0,plan.getD 1 0,plan.getD 2 0,plan.getD 3 0]) rfl (LI (m:=4) (by omega) rfl)⟩,⟨(XY q3),trivial⟩⟩⟩⟩
   by_cases q4:((↑(WM (↑(Zx (Qh [plan.getD 0 0,plan.getD 1 0,plan.getD 2 0,plan.getD 3 0] 2) i):Int) 1):Int):Int)=(1)
   ·have rj6:FJ YP B (aH rf plan e i Qt) (RK rf plan e i Qt) 15 (OO.ret (.bool true)) (([(13,(WQ rf plan)),(2,Obj.cells #[.int .i64 (e+Qe.Xz (rf.Qa.getD i.toNat La))] 3)]++((15,QM)::QD (15+1) []))++RK rf plan e i Qt) 16 (Ld 15) [13,2]:=by
     have hws:=Zd hr (p:=plan.getD 2 0) i.toNat (by omega);have hwo:=XS hr (k:=i.toNat) (by omega);have hyes:=UI (ps:=rf.Qa) (p:=plan.getD 2 0) i0 (by rw[<-W8,<-hse];exact decide_eq_true (by assumption));exact FinK.fjB (GoE.finK okF hJ Qd (Qk (by kernel_rfl)) (Qg (by kernel_rfl)) ((GoE.refl (P:=YP) (B:=B) (c0:=aH rf plan e i Qt) (Qk (by kernel_rfl))).widen (Wf:=((([(13,KS.auto),(2,KS.auto)]):List (Nat×KS)).map (·.1))) (by simp) (Qg (by kernel_rfl))) (y1 B rf plan e i Qt)
      ⟨(Xq (by omega) (by omega)),⟨⟨by omega,by omega,(QT (z:=12) (fun _=>rfl) (by omega))⟩,trivial⟩⟩) (ex:=[]) (by kernel_rfl) (XD _)
    have hws:=Zd hr (p:=plan.getD 2 0) i.toNat (by omega);have hwo:=XS hr (k:=i.toNat) (by omega);have hyes:=UI (ps:=rf.Qa) (p:=plan.getD 2 0) i0 (by rw[<-W8,<-hse];exact decide_eq_true (by assumption));exact((ih0 _ (by omega)) (e+Qe.Xz (rf.Qa.getD i.toNat La)) (i+1) rfl (by omega) (by omega) (by omega)
     (GoE.landA okF hJ Qd (Qk (by kernel_rfl)) (Qg (by kernel_rfl)) XW (y0 B rf plan e i Qt)
     ⟨(Xq (by omega) (by omega)),⟨rj6,⟨(Jg q4),hp10⟩⟩⟩ (by kernel_rfl) (by kernel_rfl) (fun l hl=>by cases hl <;> decide))).cast (by rfl) (by rfl) (by rfl)
   ·have hws:=Zd hr (p:=plan.getD 2 0) i.toNat (by omega);have hwo:=XS hr (k:=i.toNat) (by omega);have hno:=ag (ps:=rf.Qa) (p:=plan.getD 2 0) i0 (by rw[<-W8,<-hse];exact decide_eq_false (by assumption));exact((ih0 _ (by omega)) (e) (i+1) rfl (by omega) (by omega) (by omega)
     (GoE.landA okF hJ Qd (Qk (by kernel_rfl)) (Qg (by kernel_rfl)) XW (yz B rf plan e i Qt)
     ⟨(Xq (by omega) (by omega)),⟨(Jh q4),hp10⟩⟩ (by kernel_rfl) (by kernel_rfl) (fun l hl=>by cases hl <;> decide))).cast (by rfl) (by rfl) (by rfl)
  ·have hws:=Zd hr (p:=plan.getD 2 0) i.toNat (by omega);exact(GoE.finK okF hJ Qd (Qk (by kernel_rfl)) (Qg (by kernel_rfl)) XW (yy B rf plan e i Qt)
    ⟨(XZ (Int.not_lt.1 q3)),trivial⟩).cast (by rfl) (by(rw[eO ee i0 i1 (by assumption)];rfl)) (by rfl)

theorem y2(B:Lo)(rf:Qc)(plan:List Int):let a:=Zl rf.Qa plan 2;CE.landA 14 (Qs YP (Q0 YP) J0 B 4 14 (JG rf plan) (V4 rf plan) 14
 [] 0 [] []) [0,1,2,8,9] [(13,KS.auto),(2,KS.auto)] [] []=some ⟨112,27,Vx,[],.run,none,Vw rf plan a (0),([13,2]:List Nat).zip (Vv rf plan a (0)),Wx rf plan a (0),
 []⟩:=by intro a;kernel_rfl
def cu(B:Lo)(rf:Qc)(plan:List Int):List Prop:=[FJ YP B (JG rf plan) (V4 rf plan) 14 (OO.ret (.tuple #[])) (([(13,(aP rf plan)),(2,Obj.cells #[.int .i64 (Zl rf.Qa plan 3)] 3)]++((14,QM)::QD (14+1) []))++V4 rf plan) 15 (Ld 14) [13,2]]++rh B rf plan
def RI(rf:Qc)(plan:List Int):Qj:=[(13,(iF rf plan)),(2,Obj.cells #[.int .i64 (Zl rf.Qa plan 3)] 3),(14,Obj.coro none),(13,(WQ rf plan)),(12,Obj.deferred (some [])),(11,Obj.coro none),(9,(JJ rf plan)),(2,Obj.cells #[.int .i64 (Zl rf.Qa plan 2)] 3),(10,Obj.coro none),(9,(ZP rf plan)),(8,Obj.deferred (some [])),(7,Obj.coro none),(5,(UR rf plan)),(2,Obj.cells #[.int .i64 (Zl rf.Qa plan 1)] 3),(6,Obj.coro none),(5,(Zr rf plan)),(4,Obj.deferred (some [])),(3,Obj.coro none),(2,Obj.cells #[.int .i64 0] 3),(1,Obj.cells #[Qn 0 (QJ rf.Qa.length (Qm Qf rf.Qa)),.int .i64 rf.Qi,.int .i64 rf.Qb,.int .i64 (plan.getD 0 0),.int .i64 (plan.getD 1 0),.int .i64 (plan.getD 2 0),.int .i64 (plan.getD 3 0)] 84),(0,Obj.coro none)]
def aG(rf:Qc)(plan:List Int):CF:=⟨91,ofList 6 [.agg #[Qn 0 (QJ rf.Qa.length (Qm Qf rf.Qa)),.int .i64 rf.Qi,.int .i64 rf.Qb,.int .i64 (plan.getD 0 0),.int .i64 (plan.getD 1 0),.int .i64 (plan.getD 2 0),.int .i64 (plan.getD 3 0)],.int .i64 3],[Item.code (Q9 YP 91)],[],.run,none⟩
theorem yx(B:Lo)(rf:Qc)(plan:List Int):let a:=rf.Qa;CE.finK 15 (Qs YP (Q0 YP) J0 B 6 15 (aG rf plan) (RI rf plan) 15
 [] 0 [] []) [] [] [{k:=15,rs:=[0],cs:=#[QJ a.length (Qm Qf a),.int .i64 rf.Qi,.int .i64 rf.Qb,.int .i64 (plan.getD 0 0),.int .i64 (plan.getD 1 0),.int .i64 (plan.getD 2 0),.int .i64 (plan.getD 3 0)]},{k:=16,rs:=[],cs:=#[.int .i64 3]}]=some (OO.ret (Value.func (Fn.func 112) #[] #[Qn 15 (Zy 0 #[QJ a.length (Qm Qf a),.int .i64 rf.Qi,.int .i64 rf.Qb,.int .i64 (plan.getD 0 0),.int .i64 (plan.getD 1 0),.int .i64 (plan.getD 2 0),.int .i64 (plan.getD 3 0)]),Qn 15 (Zy 0 #[.int .i64 3])]),[],[],
 [Z7 (Fz.rs {k:=15,rs:=[0],cs:=(WO rf plan)}) (aF rf plan) (Fz.cs {k:=15,rs:=[0],cs:=(WO rf plan)}),Z7 (Fz.rs {k:=16,rs:=[],cs:=#[.int .i64 3]}) #[.int .i64 3] (Fz.cs {k:=16,rs:=[],cs:=#[.int .i64 3]})]):=by intro a;kernel_rfl
def Wq(rf:Qc)(plan:List Int):Qj:=[(17,(US rf plan)),(16,Obj.deferred (some [])),(15,Obj.coro none),(13,(iF rf plan)),(2,Obj.cells #[.int .i64 (Zl rf.Qa plan 3)] 3),(14,Obj.coro none),(13,(WQ rf plan)),(12,Obj.deferred (some [])),(11,Obj.coro none),(9,(JJ rf plan)),(2,Obj.cells #[.int .i64 (Zl rf.Qa plan 2)] 3),(10,Obj.coro none),(9,(ZP rf plan)),(8,Obj.deferred (some [])),(7,Obj.coro none),(5,(UR rf plan)),(2,Obj.cells #[.int .i64 (Zl rf.Qa plan 1)] 3),(6,Obj.coro none),(5,(Zr rf plan)),(4,Obj.deferred (some [])),(3,Obj.coro none),(2,Obj.cells #[.int .i64 0] 3),(1,Obj.cells #[Qn 0 (QJ rf.Qa.length (Qm Qf rf.Qa)),.int .i64 rf.Qi,.int .i64 rf.Qb,.int .i64 (plan.getD 0 0),.int .i64 (plan.getD 1 0),.int .i64 (plan.getD 2 0),.int .i64 (plan.getD 3 0)] 84),(0,Obj.coro none)]
def Yj(rf:Qc)(plan:List Int):CF:=⟨112,ofList 27 [Value.func (Fn.yield 17) #[] #[],Qn 15 (Zy 0 #[QJ rf.Qa.length (Qm Qf rf.Qa),.int .i64 rf.Qi,.int .i64 rf.Qb,.int .i64 (plan.getD 0 0),.int .i64 (plan.getD 1 0),.int .i64 (plan.getD 2 0),.int .i64 (plan.getD 3 0)]),Qn 15 (Zy 0 #[.int .i64 3])],[Item.code (Q9 YP 112)],[],.run,none⟩
def Vt(rf:Qc)(plan:List Int)(e i:Int):List Value:=let a:=rf.Qa;[Value.func (Fn.yield 17) #[] #[],Qn 15 (Zy 0 #[QJ a.length (Qm Qf a),.int .i64 rf.Qi,.int .i64 rf.Qb,.int .i64 (plan.getD 0 0),.int .i64 (plan.getD 1 0),.int .i64 (plan.getD 2 0),.int .i64 (plan.getD 3 0)]),Qn 15 (Zy 0 #[.int .i64 3]),.int .i64 (↑a.length:Int),.int .i64 i]
def Vs(rf:Qc)(plan:List Int)(e i:Int):List Obj:=[(US rf plan),.cells #[.int .i64 e] 3 (0,0)]
def Ww(rf:Qc)(plan:List Int)(e i:Int):List Obj:=[]
def Vu:List Item:=([.code [1,0,0],.inLoop [1,0,0],.inBlock 0]).map (it (Q9 YP 112))
def ct(B:Lo)(rf:Qc)(plan:List Int)(e i:Int)(Qt:Nat->Value):List Prop:=let b:=Tri.set 14 Tri.lf 16 (.int .i64 i);let a:=Qh [plan.getD 0 0,plan.getD 1 0,plan.getD 2 0,plan.getD 3 0] 3;let d:=.int .i64 a;let c:=.int .i64 (↑(Zx a i):Int);[Kd YP BinOp.and 3 (Xm {len:=16000,tr:=Tri.set 14 Tri.lf 17 c} 17) (.int .i64 1) (.int .i64 (↑(WM (↑(Zx a i):Int) 1):Int)),Kd YP BinOp.shr 3 (Xm {len:=16000,tr:=Tri.set 14 b 15 d} 15) (Xm {len:=16000,tr:=Tri.set 14 b 15 d} 16) c,3=(↑3:Int)/\3<4/\LO (WO rf plan) (3+3*TypeInfo.size Try.t3) (3+3*TypeInfo.size Try.t3+TypeInfo.size Try.t3)=#[.int .i64 a],Zm i (↑rf.Qa.length:Int)=true]++([]:List Prop)
def mh(rf:Qc)(plan:List Int)(e i:Int)(Qt:Nat->Value):Q2:=let a:=Qh [plan.getD 0 0,plan.getD 1 0,plan.getD 2 0,plan.getD 3 0] 3;[(0,VT),(5,Ql.tarr 3 #[.int .i64 a]),(8,Ql.bin (.int .i64 (↑(Zx a i):Int))),(9,Ql.bin (.int .i64 (↑(WM (↑(Zx a i):Int) 1):Int)))]
def JK(rf:Qc)(plan:List Int)(e i:Int)(Qt:Nat->Value):Qj:=[(17,(US rf plan)),(2,Obj.cells #[.int .i64 e] 3),(18,Obj.coro none),(17,(US rf plan)),(16,Obj.deferred (some [])),(15,Obj.coro none),(13,(iF rf plan)),(2,Obj.cells #[.int .i64 (Zl rf.Qa plan 3)] 3),(14,Obj.coro none),(13,(WQ rf plan)),(12,Obj.deferred (some [])),(11,Obj.coro none),(9,(JJ rf plan)),(2,Obj.cells #[.int .i64 (Zl rf.Qa plan 2)] 3),(10,Obj.coro none),(9,(ZP rf plan)),(8,Obj.deferred (some [])),(7,Obj.coro none),(5,(UR rf plan)),(2,Obj.cells #[.int .i64 (Zl rf.Qa plan 1)] 3),(6,Obj.coro none),(5,(Zr rf plan)),(4,Obj.deferred (some [])),(3,Obj.coro none),(2,Obj.cells #[.int .i64 0] 3),(1,Obj.cells #[Qn 0 (QJ rf.Qa.length (Qm Qf rf.Qa)),.int .i64 rf.Qi,.int .i64 rf.Qb,.int .i64 (plan.getD 0 0),.int .i64 (plan.getD 1 0),.int .i64 (plan.getD 2 0),.int .i64 (plan.getD 3 0)] 84),(0,Obj.coro none)]
def SC(rf:Qc)(plan:List Int)(e i:Int)(Qt:Nat->Value):CF:=⟨67,ofList 27 [.agg #[Qn 0 (QJ rf.Qa.length (Qm Qf rf.Qa)),.int .i64 rf.Qi,.int .i64 rf.Qb,.int .i64 (plan.getD 0 0),.int .i64 (plan.getD 1 0),.int .i64 (plan.getD 2 0),.int .i64 (plan.getD 3 0)],pA 1 0,.int .i64 0,pA 2 0,.int .i64 3,.tuple #[],pA 1 0,pA 1 2,.int .i64 rf.Qb,.int .i64 3,.bool true,.int .i64 3,.agg #[Qn 0 (QJ rf.Qa.length (Qm Qf rf.Qa)),.int .i64 rf.Qi,.int .i64 rf.Qb,.int .i64 (plan.getD 0 0),.int .i64 (plan.getD 1 0),.int .i64 (plan.getD 2 0),.int .i64 (plan.getD 3 0)],.int .i64 3,Value.func (Fn.func 112) #[] #[Qn 15 (Zy 0 #[QJ rf.Qa.length (Qm Qf rf.Qa),.int .i64 rf.Qi,.int .i64 rf.Qb,.int .i64 (plan.getD 0 0),.int .i64 (plan.getD 1 0),.int .i64 (plan.getD 2 0),.int .i64 (plan.getD 3 0)]),Qn 15 (Zy 0 #[.int .i64 3])],.int .i64 i,.tuple #[],.tuple #[],.tuple #[],.tuple #[],.tuple #[],.tuple #[],.tuple #[],.tuple #[],.tuple #[],.int .i64 3,.tuple #[]],[Item.code (VH (Q9 YP 67) [1,1,0,1,0,0,1,1,0,0,1,1,0,0]),Item.beginRound,Item.code (VH (Q9 YP 67) [1,1,0,1,0,0,1,1,0,0,1,1,0,1])],[],.run,some 17⟩
theorem yv(B:Lo)(rf:Qc)(plan:List Int)(e i:Int)(Qt:Nat->Value):let d:=Lb i;let c:=rf.Qa;let a:=c.getD d La;let b:=e+a.Xz;CE.finK 19 (Qs YP (Q0 YP) J0 B 6 19 (SC rf plan e i Qt) (JK rf plan e i Qt) 19
 [(6,Ql.tidx d (KE a)),(9,VU b)] 0 [] []) [(17,KS.auto),(2,KS.auto)] [] []=some (OO.ret (.bool true),[(17,(US rf plan)),(2,Obj.cells #[.int .i64 b] 3)],[],
 [wq b=e+a.Xz,i=(↑d:Int)/\Lb i<Lf c/\LO (Qm Qf c) (Lb i*TypeInfo.size Try.t54) (Lb i*TypeInfo.size Try.t54+TypeInfo.size Try.t54)=(KE a)]):=by intro d c a b;kernel_rfl
theorem yu(B:Lo)(rf:Qc)(plan:List Int)(e i:Int)(Qt:Nat->Value):let c:=Ww rf plan e i;let b:=OO.ret (.bool true);let a:=e+Qe.Xz (rf.Qa.getD i.toNat La);CE.landA 18 (Qs YP (Q0 YP) J0 B 16 18 (X9 (none) 112 27 (([0,1,2,8,9]:List Nat).zip (Vt rf plan e i)) Qt Vu) (Xs (Wq rf plan) 18 (([17,2]:List Nat).zip (Vs rf plan e i)) c) (18+1+c.length)
 (mh rf plan e i Qt++[(10,VT),(14,Ql.call (Ld 19) b ([(17,(aO rf plan)),(2,Obj.cells (KD rf e i) 3)]++(19,QM)::QD 20 []) 20 [17,2]),(17,VU (i+1))]) 0 [] []) [0,1,2,8,9] [(17,KS.auto),(2,KS.auto)] [] []=some ⟨112,27,Vu,[],.run,none,Vt rf plan a (i+1),([17,2]:List Nat).zip (Vs rf plan a (i+1)),Ww rf plan a (i+1),
 [wq (i+1)=i+1,FJ YP B (SC rf plan e i Qt) (JK rf plan e i Qt) 19 b (([(17,(aO rf plan)),(2,Obj.cells (KD rf e i) 3)]++((19,QM)::QD (19+1) []))++JK rf plan e i Qt) 20 (Ld 19) [17,2],Jv (↑(WM (↑(Zx (Qh [plan.getD 0 0,plan.getD 1 0,plan.getD 2 0,plan.getD 3 0] 3) i):Int) 1):Int) 1=true]++ct B rf plan e i Qt⟩:=by intro c b a;kernel_rfl
theorem yr(B:Lo)(rf:Qc)(plan:List Int)(e i:Int)(Qt:Nat->Value):let a:=Ww rf plan e i;CE.landA 18 (Qs YP (Q0 YP) J0 B 16 18 (X9 (none) 112 27 (([0,1,2,8,9]:List Nat).zip (Vt rf plan e i)) Qt Vu) (Xs (Wq rf plan) 18 (([17,2]:List Nat).zip (Vs rf plan e i)) a) (18+1+a.length)
 (mh rf plan e i Qt++[(10,VI),(17,VU (i+1))]) 0 [] []) [0,1,2,8,9] [(17,KS.auto),(2,KS.auto)] [] []=some ⟨112,27,Vu,[],.run,none,Vt rf plan (e) (i+1),([17,2]:List Nat).zip (Vs rf plan (e) (i+1)),Ww rf plan (e) (i+1),
 [wq (i+1)=i+1,Jv (↑(WM (↑(Zx (Qh [plan.getD 0 0,plan.getD 1 0,plan.getD 2 0,plan.getD 3 0] 3) i):Int) 1):Int) 1=false]++ct B rf plan e i Qt⟩:=by intro a;kernel_rfl
theorem yq(B:Lo)(rf:Qc)(plan:List Int)(e i:Int)(Qt:Nat->Value):let a:=Ww rf plan e i;CE.finK 18 (Qs YP (Q0 YP) J0 B 7 18 (X9 (none) 112 27 (([0,1,2,8,9]:List Nat).zip (Vt rf plan e i)) Qt Vu) (Xs (Wq rf plan) 18 (([17,2]:List Nat).zip (Vs rf plan e i)) a) (18+1+a.length)
 [(0,VI)] 0 [] []) [(17,KS.auto),(2,KS.auto)] [] []=some (OO.ret (.tuple #[]),[(17,(US rf plan)),(2,Obj.cells #[.int .i64 e] 3)],[],
 [Zm i (↑rf.Qa.length:Int)=false]):=by intro a;kernel_rfl
set_option maxHeartbeats 4000000 in
theorem rn(rf:Qc)(plan:List Int)(hr:X5 rf=true)(hs:1<=rf.Qb/\rf.Qb<=4)(hl:plan.length<=4)(hp:∀j:Nat,0<=plan.getD j 0/\plan.getD j 0<=1000000)(q0:(0:Int)<rf.Qb)(q1:(1:Int)<rf.Qb)(q2:(2:Int)<rf.Qb)(q3:(3:Int)<rf.Qb){B:Lo}(hJ:∀w,B.has w->J0 w):∀m:Nat,(∀(e i:Int),rf.Qa.length-i.toNat=m->∀(i0:0<=i) (i1:i<=rf.Qa.length) (ee:e=Zl rf.Qa plan 3+Tc rf.Qa (plan.getD 3 0) i.toNat),(∃Qt:Nat->Value,(∀t,X0 (Qt t))/\GoE YP B (Yj rf plan) (Wq rf plan) 18 (X9 (none) 112 27 (([0,1,2,8,9]:List Nat).zip (Vt rf plan e i)) Qt Vu) (Xs (Wq rf plan) 18 (([17,2]:List Nat).zip (Vs rf plan e i)) (Ww rf plan e i)) (18+1+(Ww rf plan e i).length) ([17,2]:List Nat))->FinK YP B (Yj rf plan) (Wq rf plan) 18 (.ret (.tuple #[])) (([17,2]:List Nat).zip ([(US rf plan),.cells #[.int .i64 (Zl rf.Qa plan 4)] 3 (0,0)])) ([]) ([17,2]:List Nat)):=by
 intro m0;induction m0 using LA with
 |_ m0 ih0=>
  intro e i hm0 i0 i1 ee ⟨Qt,KF,XW⟩;have Zc:=Qz (Q6 hr).1;have Zc:=Qz (Q6 hr).1;have hpk:=hp 3;have hse:=pQ (k:=3) hl;have KR:=T4 (n:=Qh [plan.getD 0 0,plan.getD 1 0,plan.getD 2 0,plan.getD 3 0] 3) (k:=i) (by omega);have hwa:=Sm hr (plan:=plan) 3;by_cases q4:(i:Int)<((↑rf.Qa.length:Int))
  ·have hp12:Qw (ct B rf plan e i Qt):=by
    have hws:=Zd hr (p:=plan.getD 3 0) i.toNat (by omega);have hwo:=XS hr (k:=i.toNat) (by omega);exact⟨(SZ (by omega) (by omega) (by omega) (by omega)),⟨(SY (by omega) (by omega) (by omega)),⟨⟨by omega,by omega,Sl (fs:=[plan.getD 0 0,plan.getD 1 0,plan.getD 2 0,plan.getD 3 0]) rfl (LI (m:=4) (by omega) rfl)⟩,⟨(XY q4),trivial⟩⟩⟩⟩
   by_cases q5:((↑(WM (↑(Zx (Qh [plan.getD 0 0,plan.getD 1 0,plan.getD 2 0,plan.getD 3 0] 3) i):Int) 1):Int):Int)=(1)
   ·have rj8:FJ YP B (SC rf plan e i Qt) (JK rf plan e i Qt) 19 (OO.ret (.bool true)) (([(17,(US rf plan)),(2,Obj.cells #[.int .i64 (e+Qe.Xz (rf.Qa.getD i.toNat La))] 3)]++((19,QM)::QD (19+1) []))++JK rf plan e i Qt) 20 (Ld 19) [17,2]:=by
     have hws:=Zd hr (p:=plan.getD 3 0) i.toNat (by omega);have hwo:=XS hr (k:=i.toNat) (by omega);have hyes:=UI (ps:=rf.Qa) (p:=plan.getD 3 0) i0 (by rw[<-W8,<-hse];exact decide_eq_true (by assumption));exact FinK.fjB (GoE.finK okF hJ Qd (Qk (by kernel_rfl)) (Qg (by kernel_rfl)) ((GoE.refl (P:=YP) (B:=B) (c0:=SC rf plan e i Qt) (Qk (by kernel_rfl))).widen (Wf:=((([(17,KS.auto),(2,KS.auto)]):List (Nat×KS)).map (·.1))) (by simp) (Qg (by kernel_rfl))) (yv B rf plan e i Qt)
      ⟨(Xq (by omega) (by omega)),⟨⟨by omega,by omega,(QT (z:=12) (fun _=>rfl) (by omega))⟩,trivial⟩⟩) (ex:=[]) (by kernel_rfl) (XD _)
    have hws:=Zd hr (p:=plan.getD 3 0) i.toNat (by omega);have hwo:=XS hr (k:=i.toNat) (by omega);have hyes:=UI (ps:=rf.Qa) (p:=plan.getD 3 0) i0 (by rw[<-W8,<-hse];exact decide_eq_true (by assumption));exact((ih0 _ (by omega)) (e+Qe.Xz (rf.Qa.getD i.toNat La)) (i+1) rfl (by omega) (by omega) (by omega)
     (GoE.landA okF hJ Qd (Qk (by kernel_rfl)) (Qg (by kernel_rfl)) XW (yu B rf plan e i Qt)
     ⟨(Xq (by omega) (by omega)),⟨rj8,⟨(Jg q5),hp12⟩⟩⟩ (by kernel_rfl) (by kernel_rfl) (fun l hl=>by cases hl <;> decide))).cast (by rfl) (by rfl) (by rfl)
   ·have hws:=Zd hr (p:=plan.getD 3 0) i.toNat (by omega);have hwo:=XS hr (k:=i.toNat) (by omega);have hno:=ag (ps:=rf.Qa) (p:=plan.getD 3 0) i0 (by rw[<-W8,<-hse];exact decide_eq_false (by assumption));exact((ih0 _ (by omega)) (e) (i+1) rfl (by omega) (by omega) (by omega)
     (GoE.landA okF hJ Qd (Qk (by kernel_rfl)) (Qg (by kernel_rfl)) XW (yr B rf plan e i Qt)
     ⟨(Xq (by omega) (by omega)),⟨(Jh q5),hp12⟩⟩ (by kernel_rfl) (by kernel_rfl) (fun l hl=>by cases hl <;> decide))).cast (by rfl) (by rfl) (by rfl)
  ·have hws:=Zd hr (p:=plan.getD 3 0) i.toNat (by omega);exact(GoE.finK okF hJ Qd (Qk (by kernel_rfl)) (Qg (by kernel_rfl)) XW (yq B rf plan e i Qt)
    ⟨(XZ (Int.not_lt.1 q4)),trivial⟩).cast (by rfl) (by(rw[eO ee i0 i1 (by assumption)];rfl)) (by rfl)

theorem yw(B:Lo)(rf:Qc)(plan:List Int):let a:=Zl rf.Qa plan 3;CE.landA 18 (Qs YP (Q0 YP) J0 B 4 18 (Yj rf plan) (Wq rf plan) 18
 [] 0 [] []) [0,1,2,8,9] [(17,KS.auto),(2,KS.auto)] [] []=some ⟨112,27,Vu,[],.run,none,Vt rf plan a (0),([17,2]:List Nat).zip (Vs rf plan a (0)),Ww rf plan a (0),
 []⟩:=by intro a;kernel_rfl
theorem yp(B:Lo)(rf:Qc)(plan:List Int):let c:=OO.ret (.tuple #[]);let b:=Zl rf.Qa plan 4;let a:=OO.ret (Value.func (Fn.func 112) #[] #[Qn 15 (Y6 rf plan),Qn 15 (Zy 0 #[.int .i64 3])]);QW (Qs YP (Q0 YP) J0 B 94 1 (Qr YP 67 27 (([.agg (QB rf plan).toArray]).map (Qy 0 4))) Za 1
 (qW rf plan++[(32,VT),(37,Ql.call (Ld 15) a ([]++(15,QM)::QD 16 []) 16 []),(38,Ql.call (Ld 18) c ([(17,(aO rf plan)),(2,Obj.cells #[.int .i64 b] 3)]++(18,QM)::QD 19 []) 19 [17,2]),(40,VI)]) 0 [] []) []=some (.int .i64 b,
 [Zm 4 rf.Qb=false,FJ YP B (Yj rf plan) (Wq rf plan) 18 c (([(17,(aO rf plan)),(2,Obj.cells #[.int .i64 b] 3)]++((18,QM)::QD (18+1) []))++Wq rf plan) 19 (Ld 18) [17,2],FJ YP B (aG rf plan) (RI rf plan) 15 a (([]++((15,QM)::QD (15+1) []))++RI rf plan) 16 (Ld 15) [],Zm 3 rf.Qb=true]++cu B rf plan):=by intro c b a;kernel_rfl
theorem yo(B:Lo)(rf:Qc)(plan:List Int):QW (Qs YP (Q0 YP) J0 B 75 1 (Qr YP 67 27 (([.agg (QB rf plan).toArray]).map (Qy 0 4))) Za 1
 (qW rf plan++[(32,VI)]) 0 [] []) []=some (.int .i64 (Zl rf.Qa plan 3),
 [Zm 3 rf.Qb=false]++cu B rf plan):=by kernel_rfl
theorem yn(B:Lo)(rf:Qc)(plan:List Int):QW (Qs YP (Q0 YP) J0 B 56 1 (Qr YP 67 27 (([.agg (QB rf plan).toArray]).map (Qy 0 4))) Za 1
 (qY rf plan++[(24,VI)]) 0 [] []) []=some (.int .i64 (Zl rf.Qa plan 2),
 [Zm 2 rf.Qb=false]++iB B rf plan):=by kernel_rfl
theorem ym(B:Lo)(rf:Qc)(plan:List Int):QW (Qs YP (Q0 YP) J0 B 37 1 (Qr YP 67 27 (([.agg (QB rf plan).toArray]).map (Qy 0 4))) Za 1
 (re rf plan++[(16,VI)]) 0 [] []) []=some (.int .i64 (Zl rf.Qa plan 1),
 [Zm 1 rf.Qb=false]++iD B rf plan):=by kernel_rfl
set_option maxHeartbeats 4000000 in
theorem Eb(rf:Qc)(plan:List Int)(hr:X5 rf=true)(hs:1<=rf.Qb/\rf.Qb<=4)(hl:plan.length<=4)(hp:∀j:Nat,0<=plan.getD j 0/\plan.getD j 0<=1000000){B:Lo}(hJ:∀w,B.has w->J0 w):EndsT YP B (Qr YP 67 27 (([.agg (QB rf plan).toArray]).map (Qy 0 4))) (.int .i64 (Xg rf plan)):=by
 have Zc:=Qz (Q6 hr).1;by_cases q0:(0:Int)<rf.Qb
 ·have WL:Qw (rm B rf plan):=by
   exact⟨(XY q0),trivial⟩
  have rj0:FJ YP B (aM rf plan) (RP rf plan) 3 (OO.ret (Value.func (Fn.func 112) #[] #[Qn 3 (Zy 0 #[QJ rf.Qa.length (Qm Qf rf.Qa),.int .i64 rf.Qi,.int .i64 rf.Qb,.int .i64 (plan.getD 0 0),.int .i64 (plan.getD 1 0),.int .i64 (plan.getD 2 0),.int .i64 (plan.getD 3 0)]),Qn 3 (Zy 0 #[.int .i64 0])])) (([]++((3,QM)::QD (3+1) []))++RP rf plan) 4 (Ld 3) []:=by
   exact FinK.fjB (GoE.finK okF hJ Qd (Qk (by kernel_rfl)) (Qg (by kernel_rfl)) ((GoE.refl (P:=YP) (B:=B) (c0:=aM rf plan) (Qk (by kernel_rfl))).widen (Wf:=((([]):List (Nat×KS)).map (·.1))) (by simp) (Qg (by kernel_rfl))) (B5 B rf plan)
    ⟨(Pn (by kernel_rfl)),⟨(WZ (by kernel_rfl)),trivial⟩⟩) (ex:=[]) (by kernel_rfl) (XD _)
  have hp1:Qw (rl B rf plan):=by
   exact⟨rj0,WL⟩
  have rj1:FJ YP B (JI rf plan) (V6 rf plan) 6 (OO.ret (.tuple #[])) (([(5,(Zr rf plan)),(2,Obj.cells #[.int .i64 (Zl rf.Qa plan 1)] 3)]++((6,QM)::QD (6+1) []))++V6 rf plan) 7 (Ld 6) [5,2]:=by
   exact FinK.fjB ((rr rf plan hr hs hl hp q0 hJ _) (0) (0) rfl (by omega) (by omega) (by rfl)
    (GoE.landA okF hJ Qd (Qk (by kernel_rfl)) (Qg (by kernel_rfl)) ((GoE.refl (P:=YP) (B:=B) (c0:=JI rf plan) (Qk (by kernel_rfl))).widen (Wf:=((([(5,KS.auto),(2,KS.auto)]):List (Nat×KS)).map (·.1))) (by simp) (Qg (by kernel_rfl))) (B4 B rf plan)
    trivial (by kernel_rfl) (by kernel_rfl) (fun l hl=>by cases hl <;> decide))) (ex:=[]) (by kernel_rfl) (XD _)
  have hp3:Qw (iD B rf plan):=by
   exact⟨rj1,hp1⟩
  by_cases q1:(1:Int)<rf.Qb
  ·have hp4:Qw (rk B rf plan):=by
    exact⟨(XY q1),hp3⟩
   have rj2:FJ YP B (aK rf plan) (RN rf plan) 7 (OO.ret (Value.func (Fn.func 112) #[] #[Qn 7 (Zy 0 #[QJ rf.Qa.length (Qm Qf rf.Qa),.int .i64 rf.Qi,.int .i64 rf.Qb,.int .i64 (plan.getD 0 0),.int .i64 (plan.getD 1 0),.int .i64 (plan.getD 2 0),.int .i64 (plan.getD 3 0)]),Qn 7 (Zy 0 #[.int .i64 1])])) (([]++((7,QM)::QD (7+1) []))++RN rf plan) 8 (Ld 7) []:=by
    exact FinK.fjB (GoE.finK okF hJ Qd (Qk (by kernel_rfl)) (Qg (by kernel_rfl)) ((GoE.refl (P:=YP) (B:=B) (c0:=aK rf plan) (Qk (by kernel_rfl))).widen (Wf:=((([]):List (Nat×KS)).map (·.1))) (by simp) (Qg (by kernel_rfl))) (Bz B rf plan)
     ⟨(Pn (by kernel_rfl)),⟨(WZ (by kernel_rfl)),trivial⟩⟩) (ex:=[]) (by kernel_rfl) (XD _)
   have hp5:Qw (rj B rf plan):=by
    exact⟨rj2,hp4⟩
   have rj3:FJ YP B (JH rf plan) (V5 rf plan) 10 (OO.ret (.tuple #[])) (([(9,(ZP rf plan)),(2,Obj.cells #[.int .i64 (Zl rf.Qa plan 2)] 3)]++((10,QM)::QD (10+1) []))++V5 rf plan) 11 (Ld 10) [9,2]:=by
    exact FinK.fjB ((rq rf plan hr hs hl hp q0 q1 hJ _) (Zl rf.Qa plan 1) (0) rfl (by omega) (by omega) (by exact(Int.add_zero _).symm)
     (GoE.landA okF hJ Qd (Qk (by kernel_rfl)) (Qg (by kernel_rfl)) ((GoE.refl (P:=YP) (B:=B) (c0:=JH rf plan) (Qk (by kernel_rfl))).widen (Wf:=((([(9,KS.auto),(2,KS.auto)]):List (Nat×KS)).map (·.1))) (by simp) (Qg (by kernel_rfl))) (By B rf plan)
     trivial (by kernel_rfl) (by kernel_rfl) (fun l hl=>by cases hl <;> decide))) (ex:=[]) (by kernel_rfl) (XD _)
   have hp7:Qw (iB B rf plan):=by
    exact⟨rj3,hp5⟩
   by_cases q2:(2:Int)<rf.Qb
   ·have hp8:Qw (ri B rf plan):=by
     exact⟨(XY q2),hp7⟩
    have rj4:FJ YP B (aI rf plan) (RL rf plan) 11 (OO.ret (Value.func (Fn.func 112) #[] #[Qn 11 (Zy 0 #[QJ rf.Qa.length (Qm Qf rf.Qa),.int .i64 rf.Qi,.int .i64 rf.Qb,.int .i64 (plan.getD 0 0),.int .i64 (plan.getD 1 0),.int .i64 (plan.getD 2 0),.int .i64 (plan.getD 3 0)]),Qn 11 (Zy 0 #[.int .i64 2])])) (([]++((11,QM)::QD (11+1) []))++RL rf plan) 12 (Ld 11) []:=by
     exact FinK.fjB (GoE.finK okF hJ Qd (Qk (by kernel_rfl)) (Qg (by kernel_rfl)) ((GoE.refl (P:=YP) (B:=B) (c0:=aI rf plan) (Qk (by kernel_rfl))).widen (Wf:=((([]):List (Nat×KS)).map (·.1))) (by simp) (Qg (by kernel_rfl))) (y3 B rf plan)
      ⟨(Pn (by kernel_rfl)),⟨(WZ (by kernel_rfl)),trivial⟩⟩) (ex:=[]) (by kernel_rfl) (XD _)
    have hp9:Qw (rh B rf plan):=by
     exact⟨rj4,hp8⟩
    have rj5:FJ YP B (JG rf plan) (V4 rf plan) 14 (OO.ret (.tuple #[])) (([(13,(WQ rf plan)),(2,Obj.cells #[.int .i64 (Zl rf.Qa plan 3)] 3)]++((14,QM)::QD (14+1) []))++V4 rf plan) 15 (Ld 14) [13,2]:=by
     exact FinK.fjB ((rp rf plan hr hs hl hp q0 q1 q2 hJ _) (Zl rf.Qa plan 2) (0) rfl (by omega) (by omega) (by exact(Int.add_zero _).symm)
      (GoE.landA okF hJ Qd (Qk (by kernel_rfl)) (Qg (by kernel_rfl)) ((GoE.refl (P:=YP) (B:=B) (c0:=JG rf plan) (Qk (by kernel_rfl))).widen (Wf:=((([(13,KS.auto),(2,KS.auto)]):List (Nat×KS)).map (·.1))) (by simp) (Qg (by kernel_rfl))) (y2 B rf plan)
      trivial (by kernel_rfl) (by kernel_rfl) (fun l hl=>by cases hl <;> decide))) (ex:=[]) (by kernel_rfl) (XD _)
    have hp11:Qw (cu B rf plan):=by
     exact⟨rj5,hp9⟩
    by_cases q3:(3:Int)<rf.Qb
    ·have rj6:FJ YP B (aG rf plan) (RI rf plan) 15 (OO.ret (Value.func (Fn.func 112) #[] #[Qn 15 (Zy 0 #[QJ rf.Qa.length (Qm Qf rf.Qa),.int .i64 rf.Qi,.int .i64 rf.Qb,.int .i64 (plan.getD 0 0),.int .i64 (plan.getD 1 0),.int .i64 (plan.getD 2 0),.int .i64 (plan.getD 3 0)]),Qn 15 (Zy 0 #[.int .i64 3])])) (([]++((15,QM)::QD (15+1) []))++RI rf plan) 16 (Ld 15) []:=by
      exact FinK.fjB (GoE.finK okF hJ Qd (Qk (by kernel_rfl)) (Qg (by kernel_rfl)) ((GoE.refl (P:=YP) (B:=B) (c0:=aG rf plan) (Qk (by kernel_rfl))).widen (Wf:=((([]):List (Nat×KS)).map (·.1))) (by simp) (Qg (by kernel_rfl))) (yx B rf plan)
       ⟨(Pn (by kernel_rfl)),⟨(WZ (by kernel_rfl)),trivial⟩⟩) (ex:=[]) (by kernel_rfl) (XD _)
     have rj7:FJ YP B (Yj rf plan) (Wq rf plan) 18 (OO.ret (.tuple #[])) (([(17,(US rf plan)),(2,Obj.cells #[.int .i64 (Zl rf.Qa plan 4)] 3)]++((18,QM)::QD (18+1) []))++Wq rf plan) 19 (Ld 18) [17,2]:=by
      exact FinK.fjB ((rn rf plan hr hs hl hp q0 q1 q2 q3 hJ _) (Zl rf.Qa plan 3) (0) rfl (by omega) (by omega) (by exact(Int.add_zero _).symm)
       (GoE.landA okF hJ Qd (Qk (by kernel_rfl)) (Qg (by kernel_rfl)) ((GoE.refl (P:=YP) (B:=B) (c0:=Yj rf plan) (Qk (by kernel_rfl))).widen (Wf:=((([(17,KS.auto),(2,KS.auto)]):List (Nat×KS)).map (·.1))) (by simp) (Qg (by kernel_rfl))) (yw B rf plan)
       trivial (by kernel_rfl) (by kernel_rfl) (fun l hl=>by cases hl <;> decide))) (ex:=[]) (by kernel_rfl) (XD _)
     by_cases q4:(4:Int)<rf.Qb
     ·exfalso
      (omega)
     ·exact(GoE.endsT okF hJ Qd GoE.start (yp B rf plan)
       ⟨(XZ (Int.not_lt.1 q4)),⟨rj7,⟨rj6,⟨(XY q3),hp11⟩⟩⟩⟩).cast (by(rw[fi (k:=4) (by omega)]))
    ·exact(GoE.endsT okF hJ Qd GoE.start (yo B rf plan)
      ⟨(XZ (Int.not_lt.1 q3)),hp11⟩).cast (by(rw[fi (k:=3) (by omega)]))
   ·exact(GoE.endsT okF hJ Qd GoE.start (yn B rf plan)
     ⟨(XZ (Int.not_lt.1 q2)),hp7⟩).cast (by(rw[fi (k:=2) (by omega)]))
  ·exact(GoE.endsT okF hJ Qd GoE.start (ym B rf plan)
    ⟨(XZ (Int.not_lt.1 q1)),hp3⟩).cast (by(rw[fi (k:=1) (by omega)]))
 ·exfalso
  (omega)
theorem B6(rf:Qc)(plan:List Int)(hr:X5 rf=true)(hs:1<=rf.Qb/\rf.Qb<=4)(hl:plan.length<=4)(hp:∀j:Nat,0<=plan.getD j 0/\plan.getD j 0<=1000000):Qx YP J0 67 #[.agg (QB rf plan).toArray] (.int .i64 (Xg rf plan)):=
 Xn (ts:=[.agg (QB rf plan).toArray]) XQ (c0:=Qr YP 67 27 (([.agg (QB rf plan).toArray]).map (Qy 0 4))) (by kernel_rfl) (by kernel_rfl) fun B hJ=>Eb rf plan hr hs hl hp hJ
end
end Go.Proofs.Ytncjjangllkokaa

namespace Go.Proofs.Ytncjjangllkokaa
open Go Go.CE Go.RowKit
noncomputable section
set_option maxRecDepth 100000
def c8(s:Span):Int:=s.lo
def oE(s:Span):Int:=s.hi
def um(rf:Qc):List Int:=(rf.Qa.map (Z8 rf.Qi)).map c8
def Te(rf:Qc):List Int:=(rf.Qa.map ZF).map c8
def HR(rf:Qc):List Int:=(rf.Qa.map ZF).map oE
def HH(rf:Qc)(p:Int):List Int:=(ZC rf.Qa p).map c8
def Th(rf:Qc)(p:Int):List Int:=(ZC rf.Qa p).map oE
theorem PM{α:Type}[Inhabited α]{l:List α}{f:α->Span}{g:Span->Int}{k:Int}(h0:0<=k)(h:k<l.length):nth ((l.map f).map g) k=g (f (l.getD k.toNat La)):=by
 obtain⟨m,rfl⟩:∃m:Nat,k=m:=⟨k.toNat,by omega⟩
 have hm:m<l.length:=by omega
 show((l.map f).map g).getD ((m:Int).toNat) La=_;simp[Li,hm]
theorem mF{rf:Qc}(hr:X5 rf=true):Uv rf.Qa.length (Te rf) 2000/\Uv rf.Qa.length (HR rf) 2000:=by
 refine⟨⟨by simp[Te],fun k h0 h1=> ?_⟩,⟨by simp[HR],fun k h0 h1=> ?_⟩⟩
 ·have hp:=ZY ((Q6 hr).2 k h0 h1).1;unfold Te;rw[PM h0 h1];simp only[ZF,c8];omega
 ·have hp:=ZY ((Q6 hr).2 k h0 h1).1;unfold HR;rw[PM h0 h1];simp only[ZF,oE];omega
theorem PN{l:List Span}{g:Span->Int}{k:Int}(h0:0<=k)(h:k<l.length):nth (l.map g) k=g (l.getD k.toNat La):=by
 obtain⟨m,rfl⟩:∃m:Nat,k=m:=⟨k.toNat,by omega⟩
 have hm:m<l.length:=by omega
 show(l.map g).getD ((m:Int).toNat) La=_;simp[Li,hm]
theorem lC{rf:Qc}(hr:X5 rf=true)(p:Int):Uv rf.Qa.length (HH rf p) 1000000/\Uv rf.Qa.length (Th rf p) 1000000:=by
 refine⟨⟨by simp[HH,Uq],fun k h0 h1=> ?_⟩,⟨by simp[Th,Uq],fun k h0 h1=> ?_⟩⟩
 ·have hp:=lD hr (p:=p) h0 h1;unfold HH;rw[PN h0 (by rw[Uq];exact h1),YT h0 h1];simp only[c8];omega
 ·have hp:=lD hr (p:=p) h0 h1;unfold Th;rw[PN h0 (by rw[Uq];exact h1),YT h0 h1];simp only[oE];omega
def JN(xs:List Span)(i:Int)(ys:List Int):List Value:=[Value.func (Fn.func 76) #[] #[],.slice (some {block:=2,off:=0}) xs.length 1,Qn 1 (QJ xs.length (Qm Xf xs)),.int .i64 (↑xs.length:Int),.int .i64 i]
def U9(xs:List Span)(i:Int)(ys:List Int):List Obj:=[.cells (Qm Xv ys) 3 (0,0)]
def JO:List Item:=([.code [1,1,0,1,0,0],.inLoop [1,1,0,1,0,0],.inBlock 0,.code [1,1,1]]).map (it (Q9 YP 97))
def yJ(B:Lo)(c0:CF)(xs:List Span)(i:Int)(ys:List Int):Prop:=∃dJ:Nat->Value,(∀t,X0 (dJ t))/\GoE YP B c0 Za 1 (Xl 97 26 (([1,5,11,12,13]:List Nat).zip (JN xs i ys)) dJ JO) (Xj (U9 xs i ys)) (2+(U9 xs i ys).length) []
def SJ(xs:List Span)(i:Int):=(Span.lo (xs.getD i.toNat La))
def yE(xs:List Span)(i:Int):Array Value:=#[.int .i64 (SJ xs i),.int .i64 (Span.hi (xs.getD i.toNat La))]
def yD(xs:List Span)(i:Int)(ys:List Int):Array Value:=(Qm Xv (List.set ys i.toNat (SJ xs i)))
def mo(xs:List Span):Array Value:=(Qm (Kf [.int .i64 0]) (Lq xs.length ()))
theorem yH(B:Lo)(xs:List Span)(i:Int)(ys:List Int)(Qt:Nat->Value):let e:=yE xs i;let c:=yD xs i ys;let a:=Lb i;let d:=List.set ys a (SJ xs i);let b:=Span.lo (xs.getD a La);let f:=.int .i64 b;landM (Qs YP (Q0 YP) J0 B 13 1 (Xl 97 26 (([1,5,11,12,13]:List Nat).zip (JN xs i ys)) Qt JO) (Xj (U9 xs i ys)) (2+(U9 xs i ys).length)
 [(0,VT),(2,Ql.tidx a e),(11,Ql.pure (.int .i64 (SJ xs i)) []),(12,Ql.WJ (Hint.idx a)),(13,Ql.WJ (Hint.st c)),(14,VU (i+1))] 0 [] []) [1,5,11,12,13] [(2,KS.cells [] c)] []=some ⟨97,26,JO,[],.run,none,JN xs (i+1) d,U9 xs (i+1) d,
 [Ks 1 [] c c,wq (i+1)=i+1,0+Lb i*1+TypeInfo.size Try.t3<=Array.size (Qm Xv ys)/\splice (Qm Xv ys) (0+Lb i*1) (Value.cells (Xm {len:=16000,tr:=Tri.set 14 (Tri.set 14 Tri.lf 22 f) 23 (.pointer (some {block:=2,off:=0+Lb i*1}))} 22))=Qm Xv (List.set ys a b),i=(↑a:Int)/\Lb i<Lf xs,Qw []/\Qx YP J0 76 #[.agg e] f,eJ i xs.length (Qm Xf xs) Try.t38.size e,Zm i (↑xs.length:Int)=true]⟩:=by intro e c a d b f;kernel_rfl
theorem yG(B:Lo)(xs:List Span)(i:Int)(ys:List Int)(Qt:Nat->Value):let a:=Fz.cs {k:=2,rs:=[],cs:=Qm Xv ys};QW (Qs YP (Q0 YP) J0 B 9 1 (Xl 97 26 (([1,5,11,12,13]:List Nat).zip (JN xs i ys)) Qt JO) (Xj (U9 xs i ys)) (2+(U9 xs i ys).length)
 [(0,VI)] 0 [] []) [{k:=2,rs:=[],cs:=Qm Xv ys}]=some (QJ xs.length a,
 [Z7 (Fz.rs {k:=2,rs:=[],cs:=Qm Xv ys}) (Qm Xv ys) a,Zm i (↑xs.length:Int)=false]):=by intro a;kernel_rfl
theorem yF(B:Lo)(xs:List Span):let a:=Lf xs;let c:=Lq a 0;let b:=Xm {len:=16000,tr:=Tri.set 14 Tri.lf 9 (.int .i64 (↑a:Int))} 9;landM (Qs YP (Q0 YP) J0 B 9 1 (Qr YP 97 26 (([J4 xs,.func (.func 76) #[] #[]]).map (Qy 0 4))) Za 1
 [(3,Ql.WJ (Hint.mk a (mo xs)))] 0 [] []) [1,5,11,12,13] [(1,KS.rows [] [] [] (Qm Xv c))] []=some ⟨97,26,JO,[],.run,none,JN xs (0) c,U9 xs (0) c,
 [Jy 1 [] [] [] (mo xs) (Qm Xv c),Rf YP 25 b b=some (3,Qm (Kf [.int .i64 0]) (Lq a ()),Lf xs,TypeInfo.size Try.t3)]⟩:=by intro a c b;kernel_rfl
set_option maxHeartbeats 4000000 in
theorem yI(xs:List Span)(hn:xs.length<=1000000){B:Lo}(hJ:∀w,B.has w->J0 w){c0:CF}:∀m:Nat,(∀(i:Int) (ys:List Int),(xs.length-i.toNat)=m->∀(h0:0<=i) (hy:ys=Ji c8 0 xs i),yJ B c0 xs i ys->EndsT YP B c0 (XA (xs.map c8))):=by
 intro m0;induction m0 using LA with
 |_ m0 ih0=>
  intro i ys hm0 h0 hy ⟨Qt,KF,XW⟩;have hyl:ys.length=xs.length:=by rw[hy];exact Ph
  by_cases q0:(i:Int)<((↑xs.length:Int))
  ·exact((ih0 _ (by omega)) (i+1) (List.set ys i.toNat (Span.lo (xs.getD i.toNat La))) rfl (by omega) (by(subst hy;exact Pg (f:=c8) h0 q0))
    (XW.landM okF hJ Qd (yH B xs i ys Qt)
    ⟨(XP (XK (fun x=>List.all_eq_true.1 (by rfl)))),⟨(Xq (by omega) (by omega)),⟨(by exact J6 (z:=1) (k:=Lb i) (fun _=>rfl) (by first|omega|(rw[List.length_set];omega)|(rw[List.length_replicate];omega)) rfl rfl),⟨⟨by omega,by omega⟩,⟨⟨trivial,HN (Span.lo (xs.getD i.toNat La)) (Span.hi (xs.getD i.toNat La))⟩,⟨⟨by omega,by omega,(QT (z:=2) (fun _=>rfl) (by omega))⟩,⟨(XY q0),trivial⟩⟩⟩⟩⟩⟩⟩ (by kernel_rfl) (by kernel_rfl))).cast (by rfl)
  ·exact(GoE.endsT okF hJ Qd XW (yG B xs i ys Qt)
    ⟨(U2 (fun x=>List.all_eq_true.1 (by rfl))),⟨(XZ (Int.not_lt.1 q0)),trivial⟩⟩).cast (by exact Sv (hy.trans (Pj (by omega))) (by simp))
set_option maxHeartbeats 4000000 in
theorem BO(xs:List Span)(hn:xs.length<=1000000){B:Lo}(hJ:∀w,B.has w->J0 w):EndsT YP B (Qr YP 97 26 (([J4 xs,.func (.func 76) #[] #[]]).map (Qy 0 4))) (XA (xs.map c8)):=by
 exact((yI xs hn hJ _) (0) (Lq xs.length 0) rfl (by omega) (by exact bK)
  (GoE.start.landM okF hJ Qd (yF B xs)
  ⟨(by exact(UF (by exact⟨(.simple rfl),trivial⟩) _)),⟨(kV (bytes:=8) (by kernel_rfl) (by omega) (by omega) (by omega)),trivial⟩⟩ (by kernel_rfl) (by kernel_rfl))).cast (by rfl)
theorem BP(xs:List Span)(hn:xs.length<=1000000):Qx YP J0 97 #[J4 xs,.func (.func 76) #[] #[]] (XA (xs.map c8)):=
 Xn (ts:=[J4 xs,.func (.func 76) #[] #[]]) XQ (c0:=Qr YP 97 26 (([J4 xs,.func (.func 76) #[] #[]]).map (Qy 0 4))) (by kernel_rfl) (by kernel_rfl) fun B hJ=>BO xs hn hJ
def JP(xs:List Span)(i:Int)(ys:List Int):List Value:=[Value.func (Fn.func 77) #[] #[],.slice (some {block:=2,off:=0}) xs.length 1,Qn 1 (QJ xs.length (Qm Xf xs)),.int .i64 (↑xs.length:Int),.int .i64 i]
def UA(xs:List Span)(i:Int)(ys:List Int):List Obj:=[.cells (Qm Xv ys) 3 (0,0)]
def JQ:List Item:=([.code [1,1,0,1,0,0],.inLoop [1,1,0,1,0,0],.inBlock 0,.code [1,1,1]]).map (it (Q9 YP 97))
def yQ(B:Lo)(c0:CF)(xs:List Span)(i:Int)(ys:List Int):Prop:=∃dJ:Nat->Value,(∀t,X0 (dJ t))/\GoE YP B c0 Za 1 (Xl 97 26 (([1,5,11,12,13]:List Nat).zip (JP xs i ys)) dJ JQ) (Xj (UA xs i ys)) (2+(UA xs i ys).length) []
def SK(xs:List Span)(i:Int):=(Span.hi (xs.getD i.toNat La))
def yL(xs:List Span)(i:Int):Array Value:=#[.int .i64 (Span.lo (xs.getD i.toNat La)),.int .i64 (SK xs i)]
def yK(xs:List Span)(i:Int)(ys:List Int):Array Value:=(Qm Xv (List.set ys i.toNat (SK xs i)))
def mq(xs:List Span):Array Value:=(Qm (Kf [.int .i64 0]) (Lq xs.length ()))
theorem yO(B:Lo)(xs:List Span)(i:Int)(ys:List Int)(Qt:Nat->Value):let e:=yL xs i;let c:=yK xs i ys;let a:=Lb i;let d:=List.set ys a (SK xs i);let b:=Span.hi (xs.getD a La);let f:=.int .i64 b;landM (Qs YP (Q0 YP) J0 B 13 1 (Xl 97 26 (([1,5,11,12,13]:List Nat).zip (JP xs i ys)) Qt JQ) (Xj (UA xs i ys)) (2+(UA xs i ys).length)
 [(0,VT),(2,Ql.tidx a e),(11,Ql.pure (.int .i64 (SK xs i)) []),(12,Ql.WJ (Hint.idx a)),(13,Ql.WJ (Hint.st c)),(14,VU (i+1))] 0 [] []) [1,5,11,12,13] [(2,KS.cells [] c)] []=some ⟨97,26,JQ,[],.run,none,JP xs (i+1) d,UA xs (i+1) d,
 [Ks 1 [] c c,wq (i+1)=i+1,0+Lb i*1+TypeInfo.size Try.t3<=Array.size (Qm Xv ys)/\splice (Qm Xv ys) (0+Lb i*1) (Value.cells (Xm {len:=16000,tr:=Tri.set 14 (Tri.set 14 Tri.lf 22 f) 23 (.pointer (some {block:=2,off:=0+Lb i*1}))} 22))=Qm Xv (List.set ys a b),i=(↑a:Int)/\Lb i<Lf xs,Qw []/\Qx YP J0 77 #[.agg e] f,eJ i xs.length (Qm Xf xs) Try.t38.size e,Zm i (↑xs.length:Int)=true]⟩:=by intro e c a d b f;kernel_rfl
theorem yN(B:Lo)(xs:List Span)(i:Int)(ys:List Int)(Qt:Nat->Value):let a:=Fz.cs {k:=2,rs:=[],cs:=Qm Xv ys};QW (Qs YP (Q0 YP) J0 B 9 1 (Xl 97 26 (([1,5,11,12,13]:List Nat).zip (JP xs i ys)) Qt JQ) (Xj (UA xs i ys)) (2+(UA xs i ys).length)
 [(0,VI)] 0 [] []) [{k:=2,rs:=[],cs:=Qm Xv ys}]=some (QJ xs.length a,
 [Z7 (Fz.rs {k:=2,rs:=[],cs:=Qm Xv ys}) (Qm Xv ys) a,Zm i (↑xs.length:Int)=false]):=by intro a;kernel_rfl
theorem yM(B:Lo)(xs:List Span):let a:=Lf xs;let c:=Lq a 0;let b:=Xm {len:=16000,tr:=Tri.set 14 Tri.lf 9 (.int .i64 (↑a:Int))} 9;landM (Qs YP (Q0 YP) J0 B 9 1 (Qr YP 97 26 (([J4 xs,.func (.func 77) #[] #[]]).map (Qy 0 4))) Za 1
 [(3,Ql.WJ (Hint.mk a (mq xs)))] 0 [] []) [1,5,11,12,13] [(1,KS.rows [] [] [] (Qm Xv c))] []=some ⟨97,26,JQ,[],.run,none,JP xs (0) c,UA xs (0) c,
 [Jy 1 [] [] [] (mq xs) (Qm Xv c),Rf YP 25 b b=some (3,Qm (Kf [.int .i64 0]) (Lq a ()),Lf xs,TypeInfo.size Try.t3)]⟩:=by intro a c b;kernel_rfl
set_option maxHeartbeats 4000000 in
theorem yP(xs:List Span)(hn:xs.length<=1000000){B:Lo}(hJ:∀w,B.has w->J0 w){c0:CF}:∀m:Nat,(∀(i:Int) (ys:List Int),(xs.length-i.toNat)=m->∀(h0:0<=i) (hy:ys=Ji oE 0 xs i),yQ B c0 xs i ys->EndsT YP B c0 (XA (xs.map oE))):=by
 intro m0;induction m0 using LA with
 |_ m0 ih0=>
  intro i ys hm0 h0 hy ⟨Qt,KF,XW⟩;have hyl:ys.length=xs.length:=by rw[hy];exact Ph
  by_cases q0:(i:Int)<((↑xs.length:Int))
  ·exact((ih0 _ (by omega)) (i+1) (List.set ys i.toNat (Span.hi (xs.getD i.toNat La))) rfl (by omega) (by(subst hy;exact Pg (f:=oE) h0 q0))
    (XW.landM okF hJ Qd (yO B xs i ys Qt)
    ⟨(XP (XK (fun x=>List.all_eq_true.1 (by rfl)))),⟨(Xq (by omega) (by omega)),⟨(by exact J6 (z:=1) (k:=Lb i) (fun _=>rfl) (by first|omega|(rw[List.length_set];omega)|(rw[List.length_replicate];omega)) rfl rfl),⟨⟨by omega,by omega⟩,⟨⟨trivial,Hl (Span.lo (xs.getD i.toNat La)) (Span.hi (xs.getD i.toNat La))⟩,⟨⟨by omega,by omega,(QT (z:=2) (fun _=>rfl) (by omega))⟩,⟨(XY q0),trivial⟩⟩⟩⟩⟩⟩⟩ (by kernel_rfl) (by kernel_rfl))).cast (by rfl)
  ·exact(GoE.endsT okF hJ Qd XW (yN B xs i ys Qt)
    ⟨(U2 (fun x=>List.all_eq_true.1 (by rfl))),⟨(XZ (Int.not_lt.1 q0)),trivial⟩⟩).cast (by exact Sv (hy.trans (Pj (by omega))) (by simp))
set_option maxHeartbeats 4000000 in
theorem BQ(xs:List Span)(hn:xs.length<=1000000){B:Lo}(hJ:∀w,B.has w->J0 w):EndsT YP B (Qr YP 97 26 (([J4 xs,.func (.func 77) #[] #[]]).map (Qy 0 4))) (XA (xs.map oE)):=by
 exact((yP xs hn hJ _) (0) (Lq xs.length 0) rfl (by omega) (by exact bK)
  (GoE.start.landM okF hJ Qd (yM B xs)
  ⟨(by exact(UF (by exact⟨(.simple rfl),trivial⟩) _)),⟨(kV (bytes:=8) (by kernel_rfl) (by omega) (by omega) (by omega)),trivial⟩⟩ (by kernel_rfl) (by kernel_rfl))).cast (by rfl)
theorem Gk(xs:List Span)(hn:xs.length<=1000000):Qx YP J0 97 #[J4 xs,.func (.func 77) #[] #[]] (XA (xs.map oE)):=
 Xn (ts:=[J4 xs,.func (.func 77) #[] #[]]) XQ (c0:=Qr YP 97 26 (([J4 xs,.func (.func 77) #[] #[]]).map (Qy 0 4))) (by kernel_rfl) (by kernel_rfl) fun B hJ=>BQ xs hn hJ
def Ki(rf:Qc):=(List.map (Z8 rf.Qi) rf.Qa)
def vq(rf:Qc):Array Value:=#[.int .i64 (List.getD (List.map c8 (Ki rf)) 0 La),.int .i64 (List.getD (List.map c8 (Ki rf)) 1 La),.int .i64 (List.getD (List.map c8 (Ki rf)) 2 La),.int .i64 (List.getD (List.map c8 (Ki rf)) 3 La)]
def vp(rf:Qc):Array Value:=(Qm Xv (List.map c8 (Ki rf)))
def ik  :Array Value:=#[.int .i64 0,.int .i64 0,.int .i64 0,.int .i64 0]
theorem vt(B:Lo)(rf:Qc)(plan:List Int):let g:=vq rf;let f:=Ki rf;let e:=rf.Qa;let d:=vp rf;let a:=List.map (Z8 rf.Qi) e;let c:=Lf (List.map c8 a);let b:=Array.map (Vp 5) (LO d 0 (LL c 4*TypeInfo.size Try.t3));QW (Qs YP (Q0 YP) J0 B 10 1 (Qr YP 75 13 (([.agg (QB rf plan).toArray,.func (.func 76) #[] #[]]).map (Qy 0 4))) Za 1
 [(5,Ql.pure (QJ f.length (Qm Xf f)) []),(7,Ql.pure (QJ (Lf (List.map c8 f)) d) []),(8,Ql.tcpy g)] 0 [] []) []=some (.agg g,
 [0<Lf (List.map c8 a)/\0+LL c 4*TypeInfo.size Try.t3<=Array.size ik/\LL c 4*TypeInfo.size Try.t3<=Array.size d/\(Array.all d fun v=>simple v || VB v)=true/\ones b=true/\splice ik 0 b=g,Qw []/\Qx YP J0 97 #[QJ a.length (Qm Xf a),Value.func (Fn.func 76) #[] #[]] (QJ c d),Qw []/\Qx YP J0 82 #[.agg #[QJ e.length (Qm Qf e),.int .i64 rf.Qi,.int .i64 rf.Qb,.int .i64 (plan.getD 0 0),.int .i64 (plan.getD 1 0),.int .i64 (plan.getD 2 0),.int .i64 (plan.getD 3 0)]] (QJ a.length (Qm Xf a))]):=by intro g f e d a c b;kernel_rfl
set_option maxHeartbeats 4000000 in
theorem ye(rf:Qc)(plan:List Int)(hr:X5 rf=true){B:Lo}(hJ:∀w,B.has w->J0 w):EndsT YP B (Qr YP 75 13 (([.agg (QB rf plan).toArray,.func (.func 76) #[] #[]]).map (Qy 0 4))) (.agg #[.int .i64 ((um rf).getD 0 La),.int .i64 ((um rf).getD 1 La),.int .i64 ((um rf).getD 2 La),.int .i64 ((um rf).getD 3 La)]):=by
 have Zc:=Qz (Q6 hr).1;have hle1:((rf.Qa.map (Z8 rf.Qi)).map c8).length=rf.Qa.length:=by simp
 have hle2:((rf.Qa.map (Z8 rf.Qi)).map oE).length=rf.Qa.length:=by simp
 have hle3:(rf.Qa.map (Z8 rf.Qi)).length=rf.Qa.length:=by simp
 have hcc:∀k:Int,0<=k->k<rf.Qa.length->0<=(rf.Qa.getD k.toNat La).count/\(rf.Qa.getD k.toNat La).count<=1000000:=fun k h0 h1=>(ZY ((Q6 hr).2 k h0 h1).1).1
 exact(GoE.endsT okF hJ Qd GoE.start (vt B rf plan)
  ⟨(tS (fun _=>rfl) rfl (by omega) (by omega) rfl (YL rfl) rfl),⟨⟨trivial,BP (List.map (Z8 rf.Qi) rf.Qa) (by omega)⟩,⟨⟨trivial,DS (rf) (plan) (by omega) (by omega) (by with_reducible assumption)⟩,trivial⟩⟩⟩).cast (by rfl)
theorem Ea(rf:Qc)(plan:List Int)(hr:X5 rf=true):Qx YP J0 75 #[.agg (QB rf plan).toArray,.func (.func 76) #[] #[]] (.agg #[.int .i64 ((um rf).getD 0 La),.int .i64 ((um rf).getD 1 La),.int .i64 ((um rf).getD 2 La),.int .i64 ((um rf).getD 3 La)]):=
 Xn (ts:=[.agg (QB rf plan).toArray,.func (.func 76) #[] #[]]) XQ (c0:=Qr YP 75 13 (([.agg (QB rf plan).toArray,.func (.func 76) #[] #[]]).map (Qy 0 4))) (by kernel_rfl) (by kernel_rfl) fun B hJ=>ye rf plan hr hJ
def Y5(rf:Qc)(plan:List Int)(fa fb fc fd k:Int):Qj:=[(3,Obj.cells #[.int .i64 0,.int .i64 0,.int .i64 0,.int .i64 0] 111),(2,Obj.cells #[.int .i64 fa,.int .i64 fb,.int .i64 fc,.int .i64 fd] 111),(1,Obj.cells #[Qn 0 (QJ rf.Qa.length (Qm Qf rf.Qa)),.int .i64 rf.Qi,.int .i64 rf.Qb,.int .i64 (plan.getD 0 0),.int .i64 (plan.getD 1 0),.int .i64 (plan.getD 2 0),.int .i64 (plan.getD 3 0)] 84),(0,Obj.coro none)]
def PH(rf:Qc)(plan:List Int)(fa fb fc fd k:Int):CF:=⟨98,ofList 28 [.agg #[Qn 0 (QJ rf.Qa.length (Qm Qf rf.Qa)),.int .i64 rf.Qi,.int .i64 rf.Qb,.int .i64 (plan.getD 0 0),.int .i64 (plan.getD 1 0),.int .i64 (plan.getD 2 0),.int .i64 (plan.getD 3 0)],.agg #[.int .i64 fa,.int .i64 fb,.int .i64 fc,.int .i64 fd],.int .i64 k,Value.func (Fn.func 76) #[] #[],Value.func (Fn.func 77) #[] #[]],[Item.code (Q9 YP 98)],[],.run,none⟩
def iv(rf:Qc)(plan:List Int)(k:Int):=(List.map oE (ZC rf.Qa (plan.getD k.toNat 0)))
def iu(rf:Qc):=(List.map c8 (List.map ZF rf.Qa))
def iw(rf:Qc)(plan:List Int)(fa fb fc fd k:Int):Array Value:=let e:=X6 (iu rf) (iv rf plan k) rf.Qa {a:=fa,b:=fb,c:=fc,d:=fd};#[.int .i64 e.a,.int .i64 e.b,.int .i64 e.c,.int .i64 e.d]
def ir(rf:Qc)(plan:List Int):Array Value:=#[QJ rf.Qa.length (Qm Qf rf.Qa),.int .i64 rf.Qi,.int .i64 rf.Qb,.int .i64 (plan.getD 0 0),.int .i64 (plan.getD 1 0),.int .i64 (plan.getD 2 0),.int .i64 (plan.getD 3 0)]
def iq(rf:Qc)(plan:List Int)(k:Int):Value:=(QJ (Lf (ZC rf.Qa (plan.getD k.toNat 0))) (Qm Xf (ZC rf.Qa (plan.getD k.toNat 0))))
def il(rf:Qc):Value:=(QJ (Lf (List.map ZF rf.Qa)) (Qm Xf (List.map ZF rf.Qa)))
theorem vv(B:Lo)(rf:Qc)(plan:List Int)(fa fb fc fd k:Int):let h:=rf.Qi;let g:=rf.Qb;let f:=iu rf;let d:=iv rf plan k;let c:=rf.Qa;let e:=List.map ZF c;let i:=List.map c8 e;let b:=Value.slice none 0 0;let a:=ZC c (plan.getD k.toNat 0);let j:=List.map oE a;CE.finK 4 (Qs YP (Q0 YP) J0 B 10 4 (PH rf plan fa fb fc fd k) (Y5 rf plan fa fb fc fd k) 4
 [(10,Ql.pure (il rf) []),(12,Ql.pure (QJ f.length (Qm Xv f)) []),(15,Ql.pure (iq rf plan k) []),(17,Ql.pure (QJ d.length (Qm Xv d)) []),(18,Ql.wri [7] [9,11,0] [false] [] (nv c h g fa fb fc fd b b f d 0 0 0 0 0) (nu c h g fa fb fc fd b b f d 0 0 0 0 0) (ny c h g fa fb fc fd b b f d 0 0 0 0 0))] 0 [] []) [] [] []=some (OO.ret (.agg (iw rf plan fa fb fc fd k)),[],[],
 [Qw []/\DU c h g (fa) (fb) (fc) (fd) b b i j (0) (0) (0) (0) (0),Qw []/\Qx YP J0 97 #[QJ a.length (Qm Xf a),Value.func (Fn.func 77) #[] #[]] (QJ j.length (Qm Xv j)),Qw []/\Qx YP J0 84 #[.agg (ir rf plan),.int .i64 k] (iq rf plan k),Qw []/\Qx YP J0 97 #[QJ e.length (Qm Xf e),Value.func (Fn.func 76) #[] #[]] (QJ i.length (Qm Xv i)),Qw []/\Qx YP J0 83 #[.agg (ir rf plan)] (il rf)]):=by intro h g f d c e i b a j;kernel_rfl
theorem vu(B:Lo)(rf:Qc)(plan:List Int)(fa fb fc fd k:Int):let a:=iw rf plan fa fb fc fd k;QW (Qs YP (Q0 YP) J0 B 6 1 (Qr YP 78 11 (([.agg (QB rf plan).toArray,.agg #[.int .i64 fa,.int .i64 fb,.int .i64 fc,.int .i64 fd],.int .i64 k]).map (Qy 0 4))) Za 1
 [(6,Ql.call (Ld 4) (OO.ret (.agg a)) ([]++(4,QM)::QD 5 []) 5 [])] 0 [] []) []=some (.agg a,
 [FJ YP B (PH rf plan fa fb fc fd k) (Y5 rf plan fa fb fc fd k) 4 (OO.ret (.agg a)) (([]++((4,QM)::QD (4+1) []))++Y5 rf plan fa fb fc fd k) 5 (Ld 4) []]):=by intro a;kernel_rfl
set_option maxHeartbeats 4000000 in
theorem yf(rf:Qc)(plan:List Int)(fa fb fc fd k:Int)(hr:X5 rf=true)(hl:plan.length<=4)(hp:∀j:Nat,0<=plan.getD j 0/\plan.getD j 0<=1000000)(k0:0<=k)(k1:k<4)(hf:Jf ⟨fa,fb,fc,fd⟩)(hs:F4.sum ⟨fa,fb,fc,fd⟩<=10000000000){B:Lo}(hJ:∀w,B.has w->J0 w):EndsT YP B (Qr YP 78 11 (([.agg (QB rf plan).toArray,.agg #[.int .i64 fa,.int .i64 fb,.int .i64 fc,.int .i64 fd],.int .i64 k]).map (Qy 0 4))) (.agg #[.int .i64 (X6 (Te rf) (Th rf (plan.getD k.toNat 0)) rf.Qa ⟨fa,fb,fc,fd⟩).a,.int .i64 (X6 (Te rf) (Th rf (plan.getD k.toNat 0)) rf.Qa ⟨fa,fb,fc,fd⟩).b,.int .i64 (X6 (Te rf) (Th rf (plan.getD k.toNat 0)) rf.Qa ⟨fa,fb,fc,fd⟩).c,.int .i64 (X6 (Te rf) (Th rf (plan.getD k.toNat 0)) rf.Qa ⟨fa,fb,fc,fd⟩).d]):=by
 have Zc:=Qz (Q6 hr).1;have hpc:=Bi hr;have hg1:Uv rf.Qa.length ((rf.Qa.map ZF).map c8) 2000:=(mF hr).1;have ht1:Uv rf.Qa.length ((ZC rf.Qa (plan.getD k.toNat 0)).map oE) 1000000:=(lC hr (plan.getD k.toNat 0)).2;have hle1:(ZC rf.Qa (plan.getD k.toNat 0)).length=rf.Qa.length:=Uq;have hle2:(rf.Qa.map ZF).length=rf.Qa.length:=by simp
 have rj0:FJ YP B (PH rf plan fa fb fc fd k) (Y5 rf plan fa fb fc fd k) 4 (OO.ret (.agg #[.int .i64 (F4.a (X6 (List.map c8 (List.map ZF rf.Qa)) (List.map oE (ZC rf.Qa (plan.getD k.toNat 0))) rf.Qa {a:=fa,b:=fb,c:=fc,d:=fd})),.int .i64 (F4.b (X6 (List.map c8 (List.map ZF rf.Qa)) (List.map oE (ZC rf.Qa (plan.getD k.toNat 0))) rf.Qa {a:=fa,b:=fb,c:=fc,d:=fd})),.int .i64 (F4.c (X6 (List.map c8 (List.map ZF rf.Qa)) (List.map oE (ZC rf.Qa (plan.getD k.toNat 0))) rf.Qa {a:=fa,b:=fb,c:=fc,d:=fd})),.int .i64 (F4.d (X6 (List.map c8 (List.map ZF rf.Qa)) (List.map oE (ZC rf.Qa (plan.getD k.toNat 0))) rf.Qa {a:=fa,b:=fb,c:=fc,d:=fd}))])) (([]++((4,QM)::QD (4+1) []))++Y5 rf plan fa fb fc fd k) 5 (Ld 4) []:=by
  exact FinK.fjB (GoE.finK okF hJ Qd (Qk (by kernel_rfl)) (Qg (by kernel_rfl)) ((GoE.refl (P:=YP) (B:=B) (c0:=PH rf plan fa fb fc fd k) (Qk (by kernel_rfl))).widen (Wf:=((([]):List (Nat×KS)).map (·.1))) (by simp) (Qg (by kernel_rfl))) (vv B rf plan fa fb fc fd k)
   ⟨⟨trivial,Hg rf.Qa rf.Qi rf.Qb (fa) (fb) (fc) (fd) (.slice none 0 0) (.slice none 0 0) (List.map c8 (List.map ZF rf.Qa)) (List.map oE (ZC rf.Qa (plan.getD k.toNat 0))) (0) (0) (0) (0) (0) (by with_reducible assumption) (by with_reducible assumption) (by with_reducible assumption) (by with_reducible assumption) (by with_reducible assumption) (by omega) (by omega) (by omega)⟩,⟨⟨trivial,Gk (ZC rf.Qa (plan.getD k.toNat 0)) (by omega)⟩,⟨⟨trivial,FW (rf) (plan) (k) (by omega) (by with_reducible assumption) (by with_reducible assumption) (by with_reducible assumption) (by with_reducible assumption)⟩,⟨⟨trivial,BP (List.map ZF rf.Qa) (by omega)⟩,⟨⟨trivial,FZ (rf) (plan) (by omega)⟩,trivial⟩⟩⟩⟩⟩) (ex:=[]) (by kernel_rfl) (XD _)
 exact(GoE.endsT okF hJ Qd GoE.start (vu B rf plan fa fb fc fd k)
  ⟨rj0,trivial⟩).cast (by rfl)
theorem eP(rf:Qc)(plan:List Int)(fa fb fc fd k:Int)(hr:X5 rf=true)(hl:plan.length<=4)(hp:∀j:Nat,0<=plan.getD j 0/\plan.getD j 0<=1000000)(k0:0<=k)(k1:k<4)(hf:Jf ⟨fa,fb,fc,fd⟩)(hs:F4.sum ⟨fa,fb,fc,fd⟩<=10000000000):Qx YP J0 78 #[.agg (QB rf plan).toArray,.agg #[.int .i64 fa,.int .i64 fb,.int .i64 fc,.int .i64 fd],.int .i64 k] (.agg #[.int .i64 (X6 (Te rf) (Th rf (plan.getD k.toNat 0)) rf.Qa ⟨fa,fb,fc,fd⟩).a,.int .i64 (X6 (Te rf) (Th rf (plan.getD k.toNat 0)) rf.Qa ⟨fa,fb,fc,fd⟩).b,.int .i64 (X6 (Te rf) (Th rf (plan.getD k.toNat 0)) rf.Qa ⟨fa,fb,fc,fd⟩).c,.int .i64 (X6 (Te rf) (Th rf (plan.getD k.toNat 0)) rf.Qa ⟨fa,fb,fc,fd⟩).d]):=
 Xn (ts:=[.agg (QB rf plan).toArray,.agg #[.int .i64 fa,.int .i64 fb,.int .i64 fc,.int .i64 fd],.int .i64 k]) XQ (c0:=Qr YP 78 11 (([.agg (QB rf plan).toArray,.agg #[.int .i64 fa,.int .i64 fb,.int .i64 fc,.int .i64 fd],.int .i64 k]).map (Qy 0 4))) (by kernel_rfl) (by kernel_rfl) fun B hJ=>yf rf plan fa fb fc fd k hr hl hp k0 k1 hf hs hJ
end
end Go.Proofs.Ytncjjangllkokaa

