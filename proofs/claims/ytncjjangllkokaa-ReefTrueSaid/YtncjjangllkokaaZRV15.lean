import Derived.Test.YtncjjangllkokaaZRV14
import Derived.Test.YtncjjangllkokaaZRV07
import Derived.Test.YtncjjangllkokaaZRV10
set_option linter.all false
open List renaming getD_eq_getElem?_getD->Ol,length->Oc,getD->Ob,getElem?_eq_none->Ou,range->Oe
open Nat renaming strongRecOn->Ox,ble->ON,blt->On,beq->Of
open Int renaming toNat->Oa,le_refl->OV,tdiv_eq_ediv_of_nonneg->OI
open Array renaming eq_empty_of_size_eq_zero->OM,extract->Oy
open Inhabited renaming default->NZ
namespace Go.Proofs.Ytncjjangllkokaa
open Go Go.CE Go.RowKit
noncomputable section
set_option maxRecDepth 100000
def fE(xs:List Int)(ss:List Span)(i:Int):Bool:=(Rj i xs.length).all fun k=>V0 (xs.getD k.toNat NZ) (ss.getD k.toNat NZ).lo (ss.getD k.toNat NZ).hi
def Td(xs:List Int)(ss:List Span):Bool:=decide (xs.length=ss.length) && fE xs ss 0
theorem XV{xs:List Int}{ss:List Span}{i:Int}(h:i<xs.length):fE xs ss i=(V0 (xs.getD i.toNat NZ) (ss.getD i.toNat NZ).lo (ss.getD i.toNat NZ).hi && fE xs ss (i+1)):=by
 unfold fE;rw[kB h,List.all_cons]
theorem dx{xs:List Int}{ss:List Span}{i:Int}(h:xs.length<=i):fE xs ss i=true:=by
 unfold fE;rw[j9 h];rfl
def oJ(rf:Qi)(Qa:List Int)(gs ts:List (List Int))(s:Int):Bool:=Td (gs.getD s.toNat NZ) (rf.Qb.map Xg) && Td (ts.getD s.toNat NZ) (Xm rf.Qb (Qa.getD s.toNat 0))
def TK(rf:Qi)(Qa:List Int)(gs ts:List (List Int))(i:Int):Bool:=(Rj i rf.Qd).all fun s=>oJ rf Qa gs ts s
theorem VS{rf:Qi}{Qa:List Int}{gs ts:List (List Int)}{i:Int}(h:i<rf.Qd):TK rf Qa gs ts i=(oJ rf Qa gs ts i && TK rf Qa gs ts (i+1)):=by
 unfold TK;rw[kB h,List.all_cons]
theorem tv{rf:Qi}{Qa:List Int}{gs ts:List (List Int)}{i:Int}(h:rf.Qd<=i):TK rf Qa gs ts i=true:=by
 unfold TK;rw[j9 h];rfl
def QY(rf:Qi)(Qa:List Int)(t:Qv):Bool:=Td t.Qe (rf.Qb.map (X2 rf.Qc)) && (decide ((t.Qj.length:Int)=rf.Qd) && (decide ((t.Ql.length:Int)=rf.Qd) && TK rf Qa t.Qj t.Ql 0))
theorem EY{rf:Qi}{Qa:List Int}{gs ts:List (List Int)}{s:Int}(h:¬(gs.getD s.toNat NZ).length=rf.Qb.length\/¬(ts.getD s.toNat NZ).length=rf.Qb.length):oJ rf Qa gs ts s=false:=by
 unfold oJ Td;rw[List.length_map,show(Xm rf.Qb (Qa.getD s.toNat 0)).length=rf.Qb.length by rw[Xm,XK];omega];rcases h with h|h
 ·rw[decide_eq_false h];rfl
 ·rw[decide_eq_false h,Bool.false_and,Bool.and_false]
theorem Ij{rf:Qi}{Qa:List Int}{gs ts:List (List Int)}{s:Int}(h1:(gs.getD s.toNat NZ).length=rf.Qb.length)(h2:(ts.getD s.toNat NZ).length=rf.Qb.length):oJ rf Qa gs ts s=(fE (gs.getD s.toNat NZ) (rf.Qb.map Xg) 0 && fE (ts.getD s.toNat NZ) (Xm rf.Qb (Qa.getD s.toNat NZ)) 0):=by
 unfold oJ Td;rw[List.length_map,show(Xm rf.Qb (Qa.getD s.toNat 0)).length=rf.Qb.length by rw[Xm,XK];omega,decide_eq_true h1,decide_eq_true h2,Bool.true_and,Bool.true_and];rfl
theorem kD{rf:Qi}{Qa:List Int}{t:Qv}(h:¬t.Qe.length=rf.Qb.length\/¬(t.Qj.length:Int)=rf.Qd\/¬(t.Ql.length:Int)=rf.Qd):QY rf Qa t=false:=by
 unfold QY Td;rw[List.length_map];rcases h with h|h|h
 ·rw[decide_eq_false h];rfl
 ·rw[decide_eq_false h,Bool.false_and,Bool.and_false]
 ·rw[decide_eq_false h,Bool.false_and,Bool.and_false,Bool.and_false]
theorem Cb{rf:Qi}{Qa:List Int}{t:Qv}(h1:t.Qe.length=rf.Qb.length)(h2:(t.Qj.length:Int)=rf.Qd)(h3:(t.Ql.length:Int)=rf.Qd):QY rf Qa t=(fE t.Qe (rf.Qb.map (X2 rf.Qc)) 0 && TK rf Qa t.Qj t.Ql 0):=by
 unfold QY Td;rw[List.length_map,decide_eq_true h1,decide_eq_true h2,decide_eq_true h3,Bool.true_and,Bool.true_and,Bool.true_and]
theorem Z5{ps:List Qf}{f:Qf->Span}{i:Int}(h0:0<=i)(h:i<ps.length):(ps.map f).getD i.toNat NZ=f (ps.getD i.toNat NZ):=by
 have hk:i.toNat<ps.length:=by omega
 simp[Ol,hk]
def Yf(xs:List Int)(ss:List Span)(i:Int):List Value:=[Q2 1 (QI ss.length (Qh Qo ss)),Q2 1 (QI xs.length (Qh QR xs)),.int .i64 (↑xs.length:Int),.int .i64 i]
def Wx(xs:List Int)(ss:List Span)(i:Int):List Obj:=[]
def Yg:List Item:=([.code [1,1,0,1,0,0],.inLoop [1,1,0,1,0,0],.inBlock 0,.code [1,1,1]]).map (it (QP YP 81))
def wy(B:Lo)(c0:CF)(xs:List Int)(ss:List Span)(i:Int):Prop:=∃dJ:Nat->Value,(∀t,Xy (dJ t))/\GoE YP B c0 Zf 1 (QK 81 27 (([1,12,13,14]:List Nat).zip (Yf xs ss i)) dJ Yg) (QH (Wx xs ss i)) (2+(Wx xs ss i).length) []
def R6(ss:List Span)(i:Int):Array Value:=#[.int .i64 (Span.lo (ss.getD i.toNat NZ)),.int .i64 (Span.hi (ss.getD i.toNat NZ))]
def aM(B:Lo)(xs:List Int)(ss:List Span)(i:Int)(Qs:Nat->Value):List Prop:=[Yr i ss.length (Qh Qo ss) Try.t38.size (R6 ss i),Yr i xs.length (Qh QR xs) Try.t3.size #[.int .i64 (xs.getD i.toNat NZ)],XS i (↑xs.length:Int)=true]++([]:List Prop)
def iH(xs:List Int)(ss:List Span)(i:Int)(Qs:Nat->Value):QD:=[(0,ZF),(2,Qk.tidx i.toNat #[.int .i64 (xs.getD i.toNat NZ)]),(9,Qk.tidx i.toNat (R6 ss i))]
theorem wv(B:Lo)(xs:List Int)(ss:List Span)(i:Int)(Qs:Nat->Value):landM (Qu YP (Q9 YP) J0 B 16 1 (QK 81 27 (([1,12,13,14]:List Nat).zip (Yf xs ss i)) Qs Yg) (QH (Wx xs ss i)) (2+(Wx xs ss i).length)
 (iH xs ss i Qs++[(11,Qk.pure (.bool true) []),(13,WV (i+1))]) 0 [] []) [1,12,13,14] [] []=some ⟨81,27,Yg,[],.run,none,Yf xs ss (i+1),Wx xs ss (i+1),
 [wq (i+1)=i+1,Q6 []/\Q0 YP J0 101 #[.int .i64 (xs.getD i.toNat NZ),.agg (R6 ss i)] (.bool true)]++aM B xs ss i Qs⟩:=by kernel_rfl
theorem wu(B:Lo)(xs:List Int)(ss:List Span)(i:Int)(Qs:Nat->Value):QW (Qu YP (Q9 YP) J0 B 16 1 (QK 81 27 (([1,12,13,14]:List Nat).zip (Yf xs ss i)) Qs Yg) (QH (Wx xs ss i)) (2+(Wx xs ss i).length)
 (iH xs ss i Qs++[(11,Qk.pure (.bool false) [])]) 0 [] []) []=some (.bool false,
 [Q6 []/\Q0 YP J0 101 #[.int .i64 (xs.getD i.toNat NZ),.agg (R6 ss i)] (.bool false)]++aM B xs ss i Qs):=by kernel_rfl
theorem wo(B:Lo)(xs:List Int)(ss:List Span)(i:Int)(Qs:Nat->Value):QW (Qu YP (Q9 YP) J0 B 9 1 (QK 81 27 (([1,12,13,14]:List Nat).zip (Yf xs ss i)) Qs Yg) (QH (Wx xs ss i)) (2+(Wx xs ss i).length)
 [(0,Wm)] 0 [] []) []=some (.bool true,
 [XS i (↑xs.length:Int)=false]):=by kernel_rfl
theorem wm(B:Lo)(xs:List Int)(ss:List Span):QW (Qu YP (Q9 YP) J0 B 10 1 (Qx YP 81 27 (([XI xs,YI ss]).map (Q8 0 4))) Zf 1
 [(5,ZF)] 0 [] []) []=some (.bool false,
 [(!Y6 (↑xs.length:Int) (↑ss.length:Int))=true]):=by kernel_rfl
theorem wk(B:Lo)(xs:List Int)(ss:List Span):landM (Qu YP (Q9 YP) J0 B 12 1 (Qx YP 81 27 (([XI xs,YI ss]).map (Q8 0 4))) Zf 1
 [(5,Wm)] 0 [] []) [1,12,13,14] [] []=some ⟨81,27,Yg,[],.run,none,Yf xs ss (0),Wx xs ss (0),
 [(!Y6 (↑xs.length:Int) (↑ss.length:Int))=false]⟩:=by kernel_rfl
set_option maxHeartbeats 4000000 in
theorem wx(xs:List Int)(ss:List Span)  (X8:xs.length<=9223372036854775807/\ss.length<=9223372036854775807){B:Lo}(hJ:∀w,B.has w->J0 w){c0:CF}:∀m:Nat,(∀(i:Int),xs.length-i.toNat=m->∀(h0:0<=i) (hle:xs.length=ss.length),wy B c0 xs ss i->EndsT YP B c0 (.bool (fE xs ss i))):=by
 intro m0;induction m0 using Ox with
 |_ m0 ih0=>
  intro i JP h0 hle ⟨Qs,ZV,XF⟩;have hx:=X8.1;have hy:=X8.2;have hx:=X8.1;by_cases q0:(i:Int)<((↑xs.length:Int))
  ·have V5:Q6 (aM B xs ss i Qs):=by
    have s2:=XV (ss:=ss) q0;exact⟨⟨by omega,by omega,(QB (z:=2) (fun _=>rfl) (by omega))⟩,⟨⟨by omega,by omega,(QB (z:=1) (fun _=>rfl) (by omega))⟩,⟨(XC q0),trivial⟩⟩⟩
   cases q1:V0 (xs.getD i.toNat NZ) (Span.lo (ss.getD i.toNat NZ)) (Span.hi (ss.getD i.toNat NZ))with
   |true=>
    have s2:=XV (ss:=ss) q0;exact((ih0 _ (by omega)) (i+1) rfl (by omega) (by with_reducible assumption)
     (XF.landM okF hJ Qg (wv B xs ss i Qs)
     ⟨(Xq (by omega) (by omega)),⟨⟨trivial,(by have t_:=Bx (xs.getD i.toNat NZ) (Span.lo (ss.getD i.toNat NZ)) (Span.hi (ss.getD i.toNat NZ));rw[q1]at t_;exact t_)⟩,V5⟩⟩ (by kernel_rfl) (by kernel_rfl))).cast (by(rw[s2];simp_all;done))
   |false=>
    have s2:=XV (ss:=ss) q0;exact(GoE.endsT okF hJ Qg XF (wu B xs ss i Qs)
     ⟨⟨trivial,(by have t_:=Bx (xs.getD i.toNat NZ) (Span.lo (ss.getD i.toNat NZ)) (Span.hi (ss.getD i.toNat NZ));rw[q1]at t_;exact t_)⟩,V5⟩).cast (by(rw[s2];simp_all;done))
  ·have s2:=dx (xs:=xs) (ss:=ss) (i:=i) (by omega);exact(GoE.endsT okF hJ Qg XF (wo B xs ss i Qs)
    ⟨(XO (Int.not_lt.1 q0)),trivial⟩).cast (by(rw[s2];done))
set_option maxHeartbeats 4000000 in
theorem zP(xs:List Int)(ss:List Span)  (X8:xs.length<=9223372036854775807/\ss.length<=9223372036854775807){B:Lo}(hJ:∀w,B.has w->J0 w):EndsT YP B (Qx YP 81 27 (([XI xs,YI ss]).map (Q8 0 4))) (.bool (Td xs ss)):=by
 have hx:=X8.1;have hy:=X8.2;by_cases q0:((↑xs.length:Int):Int)≠((↑ss.length:Int))
 ·exact(GoE.endsT okF hJ Qg GoE.start (wm B xs ss)
   ⟨(Y1 q0),trivial⟩).cast (by(simp_all[Td];omega))
 ·exact((wx xs ss X8 hJ _) (0) rfl (by omega) (by omega)
   (GoE.start.landM okF hJ Qg (wk B xs ss)
   ⟨(Y2 (Decidable.of_not_not q0)),trivial⟩ (by kernel_rfl) (by kernel_rfl))).cast (by(simp_all[Td];omega))
theorem S6(xs:List Int)(ss:List Span)  :Q0 YP J0 81 #[XI xs,YI ss] (.bool (Td xs ss)):=
 Vj (ts:=[XI xs,YI ss]) (xs.length<=9223372036854775807/\ss.length<=9223372036854775807) (fun _ _ ht=>⟨ht.ln (i:=0) rfl,ht.ln (i:=1) rfl⟩) Zh (c0:=Qx YP 81 27 (([XI xs,YI ss]).map (Q8 0 4))) (by kernel_rfl) (by kernel_rfl) fun X8 B hJ=>zP xs ss  X8 hJ
def Uy(rf:Qi)(Qa:List Int)(t:Qv)(i:Int):List Value:=[pA 2 0,pA 3 0,.int .i64 rf.Qd,.int .i64 i]
def V3(rf:Qi)(Qa:List Int)(t:Qv)(i:Int):List Obj:=[Obj.cells #[Q2 1 (QI rf.Qb.length (Qh Qm rf.Qb)),.int .i64 rf.Qc,.int .i64 rf.Qd,.int .i64 (Qa.getD 0 0),.int .i64 (Qa.getD 1 0),.int .i64 (Qa.getD 2 0),.int .i64 (Qa.getD 3 0)] 84,Obj.cells #[Q2 1 (QI t.Qe.length (Qh QR t.Qe)),Q2 1 (QI t.Qj.length (Qh X1 t.Qj)),Q2 1 (QI t.Ql.length (Qh X1 t.Ql))] 42]
def Uz:List Item:=([.code [1,1,0,1,0,0],.inLoop [1,1,0,1,0,0],.inBlock 0,.code [1,1,1]]).map (it (QP YP 58))
def uA(B:Lo)(c0:CF)(rf:Qi)(Qa:List Int)(t:Qv)(i:Int):Prop:=∃dJ:Nat->Value,(∀t,Xy (dJ t))/\GoE YP B c0 Zf 1 (QK 58 58 (([2,3,32,33]:List Nat).zip (Uy rf Qa t i)) dJ Uz) (QH (V3 rf Qa t i)) (2+(V3 rf Qa t i).length) []
def ae(rf:Qi)(Qa:List Int):Array Value:=#[QI rf.Qb.length (Qh Qm rf.Qb),.int .i64 rf.Qc,.int .i64 rf.Qd,.int .i64 (Qa.getD 0 0),.int .i64 (Qa.getD 1 0),.int .i64 (Qa.getD 2 0),.int .i64 (Qa.getD 3 0)]
def Ru(rf:Qi):=(List.map (X2 rf.Qc) rf.Qb)
def hY(rf:Qi)(t:Qv):Array Value:=#[QI t.Qe.length (Qh QR t.Qe),QI (Oc (Ru rf)) (Qh Qo (Ru rf))]
def hU(rf:Qi):Value:=(QI (Oc (Ru rf)) (Qh Qo (Ru rf)))
def Rt(t:Qv)(i:Int):=(t.Ql.getD i.toNat NZ)
def hP(t:Qv)(i:Int):Array Value:=#[QI (Oc (Rt t i)) (Qh QR (Rt t i))]
def Rq(t:Qv)(i:Int):=(t.Qj.getD i.toNat NZ)
def hQ(t:Qv)(i:Int):Array Value:=#[QI (Oc (Rq t i)) (Qh QR (Rq t i))]
def Pd(rf:Qi)(Qa:List Int)(i:Int):=(Xm rf.Qb (Qa.getD i.toNat 0))
def ia(rf:Qi)(Qa:List Int)(t:Qv)(i:Int):Array Value:=#[QI (Oc (Rt t i)) (Qh QR (Rt t i)),QI (Oc (Pd rf Qa i)) (Qh Qo (Pd rf Qa i))]
def dY(rf:Qi)(Qa:List Int)(i:Int):Value:=(QI (Oc (Pd rf Qa i)) (Qh Qo (Pd rf Qa i)))
def Pc(rf:Qi):=(List.map Xg rf.Qb)
def hZ(rf:Qi)(t:Qv)(i:Int):Array Value:=#[QI (Oc (Rq t i)) (Qh QR (Rq t i)),QI (Oc (Pc rf)) (Qh Qo (Pc rf))]
def dX(rf:Qi):Value:=(QI (Oc (Pc rf)) (Qh Qo (Pc rf)))
def ak(B:Lo)(rf:Qi)(Qa:List Int)(t:Qv)(i:Int)(Qs:Nat->Value):List Prop:=[Q6 []/\Q0 YP J0 83 #[.agg (ae rf Qa)] (dX rf),Yr i t.Qj.length (Qh X1 t.Qj) Try.t25.size (hQ t i),XS i rf.Qd=true]++([]:List Prop)
def ik(rf:Qi)(Qa:List Int)(t:Qv)(i:Int)(Qs:Nat->Value):QD:=[(0,ZF),(6,Qk.tidx i.toNat (hQ t i)),(9,Qk.pure (dX rf) [])]
def aj(B:Lo)(rf:Qi)(Qa:List Int)(t:Qv)(i:Int)(Qs:Nat->Value):List Prop:=[Q6 []/\Q0 YP J0 84 #[.agg (ae rf Qa),.int .i64 i] (dY rf Qa i),Yr i t.Ql.length (Qh X1 t.Ql) Try.t25.size (hP t i),Q6 []/\Q0 YP J0 81 (hZ rf t i) (.bool true)]++ak B rf Qa t i Qs
def ij(rf:Qi)(Qa:List Int)(t:Qv)(i:Int)(Qs:Nat->Value):QD:=ik rf Qa t i Qs++[(10,Qk.pure (.bool true) []),(16,Qk.tidx i.toNat (hP t i)),(20,Qk.pure (dY rf Qa i) [])]
theorem u7(B:Lo)(rf:Qi)(Qa:List Int)(t:Qv)(i:Int)(Qs:Nat->Value):let a:=V3 rf Qa t i;landM (Qu YP (Q9 YP) J0 B 16 1 (QK 58 58 (([2,3,32,33]:List Nat).zip (Uy rf Qa t i)) Qs Uz) (QH a) (2+a.length)
 (ij rf Qa t i Qs++[(21,Qk.pure (.bool true) []),(24,WV (i+1))]) 0 [] []) [2,3,32,33] [(2,KS.auto),(3,KS.auto)] []=some ⟨58,58,Uz,[],.run,none,Uy rf Qa t (i+1),V3 rf Qa t (i+1),
 [wq (i+1)=i+1,Q6 []/\Q0 YP J0 81 (ia rf Qa t i) (.bool true)]++aj B rf Qa t i Qs⟩:=by intro a;kernel_rfl
theorem u6(B:Lo)(rf:Qi)(Qa:List Int)(t:Qv)(i:Int)(Qs:Nat->Value):let a:=V3 rf Qa t i;QW (Qu YP (Q9 YP) J0 B 16 1 (QK 58 58 (([2,3,32,33]:List Nat).zip (Uy rf Qa t i)) Qs Uz) (QH a) (2+a.length)
 (ij rf Qa t i Qs++[(21,Qk.pure (.bool false) [])]) 0 [] []) []=some (.bool false,
 [Q6 []/\Q0 YP J0 81 (ia rf Qa t i) (.bool false)]++aj B rf Qa t i Qs):=by intro a;kernel_rfl
theorem u5(B:Lo)(rf:Qi)(Qa:List Int)(t:Qv)(i:Int)(Qs:Nat->Value):let a:=V3 rf Qa t i;QW (Qu YP (Q9 YP) J0 B 16 1 (QK 58 58 (([2,3,32,33]:List Nat).zip (Uy rf Qa t i)) Qs Uz) (QH a) (2+a.length)
 (ik rf Qa t i Qs++[(10,Qk.pure (.bool false) [])]) 0 [] []) []=some (.bool false,
 [Q6 []/\Q0 YP J0 81 (hZ rf t i) (.bool false)]++ak B rf Qa t i Qs):=by intro a;kernel_rfl
theorem u4(B:Lo)(rf:Qi)(Qa:List Int)(t:Qv)(i:Int)(Qs:Nat->Value):let a:=V3 rf Qa t i;QW (Qu YP (Q9 YP) J0 B 9 1 (QK 58 58 (([2,3,32,33]:List Nat).zip (Uy rf Qa t i)) Qs Uz) (QH a) (2+a.length)
 [(0,Wm)] 0 [] []) []=some (.bool true,
 [XS i rf.Qd=false]):=by intro a;kernel_rfl
def ai(B:Lo)(rf:Qi)(Qa:List Int)(t:Qv):List Prop:=[Q6 []/\Q0 YP J0 82 #[.agg (ae rf Qa)] (hU rf)]++([]:List Prop)
def ig(rf:Qi)(Qa:List Int)(t:Qv):QD:=[(6,Qk.pure (hU rf) [])]
def ah(B:Lo)(rf:Qi)(Qa:List Int)(t:Qv):List Prop:=[Q6 []/\Q0 YP J0 81 (hY rf t) (.bool true)]++ai B rf Qa t
def ic(rf:Qi)(Qa:List Int)(t:Qv):QD:=ig rf Qa t++[(7,Qk.pure (.bool true) [])]
theorem u3(B:Lo)(rf:Qi)(Qa:List Int)(t:Qv):QW (Qu YP (Q9 YP) J0 B 10 1 (Qx YP 58 58 (([.agg (QL rf Qa).toArray,.agg #[XI t.Qe,QI t.Qj.length (Qh X1 t.Qj),QI t.Ql.length (Qh X1 t.Ql)]]).map (Q8 0 4))) Zf 1
 (ic rf Qa t++[(16,ZF)]) 0 [] []) []=some (.bool false,
 [(!Y6 (↑t.Qj.length:Int) rf.Qd)=true]++ah B rf Qa t):=by kernel_rfl
def ag(B:Lo)(rf:Qi)(Qa:List Int)(t:Qv):List Prop:=[(!Y6 (↑t.Qj.length:Int) rf.Qd)=false]++ah B rf Qa t
def ib(rf:Qi)(Qa:List Int)(t:Qv):QD:=ic rf Qa t++[(16,Wm)]
theorem u0(B:Lo)(rf:Qi)(Qa:List Int)(t:Qv):QW (Qu YP (Q9 YP) J0 B 10 1 (Qx YP 58 58 (([.agg (QL rf Qa).toArray,.agg #[XI t.Qe,QI t.Qj.length (Qh X1 t.Qj),QI t.Ql.length (Qh X1 t.Ql)]]).map (Q8 0 4))) Zf 1
 (ib rf Qa t++[(25,ZF)]) 0 [] []) []=some (.bool false,
 [(!Y6 (↑t.Ql.length:Int) rf.Qd)=true]++ag B rf Qa t):=by kernel_rfl
theorem uz(B:Lo)(rf:Qi)(Qa:List Int)(t:Qv):landM (Qu YP (Q9 YP) J0 B 12 1 (Qx YP 58 58 (([.agg (QL rf Qa).toArray,.agg #[XI t.Qe,QI t.Qj.length (Qh X1 t.Qj),QI t.Ql.length (Qh X1 t.Ql)]]).map (Q8 0 4))) Zf 1
 (ib rf Qa t++[(25,Wm)]) 0 [] []) [2,3,32,33] [(1,KS.auto),(2,KS.auto)] []=some ⟨58,58,Uz,[],.run,none,Uy rf Qa t (0),V3 rf Qa t (0),
 [(!Y6 (↑t.Ql.length:Int) rf.Qd)=false]++ag B rf Qa t⟩:=by kernel_rfl
theorem uy(B:Lo)(rf:Qi)(Qa:List Int)(t:Qv):QW (Qu YP (Q9 YP) J0 B 10 1 (Qx YP 58 58 (([.agg (QL rf Qa).toArray,.agg #[XI t.Qe,QI t.Qj.length (Qh X1 t.Qj),QI t.Ql.length (Qh X1 t.Ql)]]).map (Q8 0 4))) Zf 1
 (ig rf Qa t++[(7,Qk.pure (.bool false) [])]) 0 [] []) []=some (.bool false,
 [Q6 []/\Q0 YP J0 81 (hY rf t) (.bool false)]++ai B rf Qa t):=by kernel_rfl
set_option maxHeartbeats 4000000 in
theorem u9(rf:Qi)(Qa:List Int)(t:Qv)(hr:QC rf=true)(hl:Qa.length<=4)(hp:∀j:Nat,0<=Qa.getD j 0/\Qa.getD j 0<=1000000){B:Lo}(hJ:∀w,B.has w->J0 w){c0:CF}:∀m:Nat,(∀(i:Int),(rf.Qd-i).toNat=m->∀(h0:0<=i) (hgl:(t.Qj.length:Int)=rf.Qd) (htl:(t.Ql.length:Int)=rf.Qd),uA B c0 rf Qa t i->EndsT YP B c0 (.bool (TK rf Qa t.Qj t.Ql i))):=by
 intro m0;induction m0 using Ox with
 |_ m0 ih0=>
  intro i JP h0 hgl htl ⟨Qs,ZV,XF⟩;have Z8:=QA (QJ hr).1;have hcs:=(fun k h0 h1=>(Ju ((QJ hr).2 k h0 h1).1).1)
  have Z8:=QA (QJ hr).1;by_cases q0:(i:Int)<rf.Qd
  ·have V5:Q6 (ak B rf Qa t i Qs):=by
    have s2:=VS (Qa:=Qa) (gs:=t.Qj) (ts:=t.Ql) q0;exact⟨⟨trivial,z4 (rf) (Qa) (by omega)⟩,⟨⟨by omega,by omega,(QB (z:=1) (fun _=>rfl) (by omega))⟩,⟨(XC q0),trivial⟩⟩⟩
   cases q1:Td (t.Qj.getD i.toNat NZ) (List.map Xg rf.Qb)with
   |true=>
    have Kj:Q6 (aj B rf Qa t i Qs):=by
     have s2:=VS (Qa:=Qa) (gs:=t.Qj) (ts:=t.Ql) q0;exact⟨⟨trivial,yR (rf) (Qa) (i) (by omega) (by with_reducible assumption) (by with_reducible assumption) (by omega) (by with_reducible assumption)⟩,⟨⟨by omega,by omega,(QB (z:=1) (fun _=>rfl) (by omega))⟩,⟨⟨trivial,(by have t_:=S6 (t.Qj.getD i.toNat NZ) (List.map Xg rf.Qb);rw[q1]at t_;exact t_)⟩,V5⟩⟩⟩
    cases q2:Td (t.Ql.getD i.toNat NZ) (Xm rf.Qb (Qa.getD i.toNat 0))with
    |true=>
     have s2:=VS (Qa:=Qa) (gs:=t.Qj) (ts:=t.Ql) q0;exact((ih0 _ (by omega)) (i+1) rfl (by omega) (by with_reducible assumption) (by with_reducible assumption)
      (XF.landM okF hJ Qg (u7 B rf Qa t i Qs)
      ⟨(Xq (by omega) (by omega)),⟨⟨trivial,(by have t_:=S6 (t.Ql.getD i.toNat NZ) (Xm rf.Qb (Qa.getD i.toNat 0));rw[q2]at t_;exact t_)⟩,Kj⟩⟩ (by kernel_rfl) (by kernel_rfl))).cast (by(rw[s2];simp_all[oJ];done))
    |false=>
     have s2:=VS (Qa:=Qa) (gs:=t.Qj) (ts:=t.Ql) q0;exact(GoE.endsT okF hJ Qg XF (u6 B rf Qa t i Qs)
      ⟨⟨trivial,(by have t_:=S6 (t.Ql.getD i.toNat NZ) (Xm rf.Qb (Qa.getD i.toNat 0));rw[q2]at t_;exact t_)⟩,Kj⟩).cast (by(rw[s2];simp_all[oJ];done))
   |false=>
    have s2:=VS (Qa:=Qa) (gs:=t.Qj) (ts:=t.Ql) q0;exact(GoE.endsT okF hJ Qg XF (u5 B rf Qa t i Qs)
     ⟨⟨trivial,(by have t_:=S6 (t.Qj.getD i.toNat NZ) (List.map Xg rf.Qb);rw[q1]at t_;exact t_)⟩,V5⟩).cast (by(rw[s2];simp_all[oJ];done))
  ·have s2:=tv (rf:=rf) (Qa:=Qa) (gs:=t.Qj) (ts:=t.Ql) (i:=i) (by omega);exact(GoE.endsT okF hJ Qg XF (u4 B rf Qa t i Qs)
    ⟨(XO (Int.not_lt.1 q0)),trivial⟩).cast (by(rw[s2];done))
set_option maxHeartbeats 4000000 in
theorem zk(rf:Qi)(Qa:List Int)(t:Qv)(hr:QC rf=true)(hl:Qa.length<=4)(hp:∀j:Nat,0<=Qa.getD j 0/\Qa.getD j 0<=1000000){B:Lo}(hJ:∀w,B.has w->J0 w):EndsT YP B (Qx YP 58 58 (([.agg (QL rf Qa).toArray,.agg #[XI t.Qe,QI t.Qj.length (Qh X1 t.Qj),QI t.Ql.length (Qh X1 t.Ql)]]).map (Q8 0 4))) (.bool (QY rf Qa t)):=by
 have Z8:=QA (QJ hr).1;have hcs:=(fun k h0 h1=>(Ju ((QJ hr).2 k h0 h1).1).1)
 have Ph:Q6 (ai B rf Qa t):=by
  exact⟨⟨trivial,rj (rf) (Qa) (by omega) (by omega) (by with_reducible assumption)⟩,trivial⟩
 cases q0:Td t.Qe (List.map (X2 rf.Qc) rf.Qb)with
 |true=>
  have hp3:Q6 (ah B rf Qa t):=by
   exact⟨⟨trivial,(by have t_:=S6 t.Qe (List.map (X2 rf.Qc) rf.Qb);rw[q0]at t_;exact t_)⟩,Ph⟩
  by_cases q1:((↑t.Qj.length:Int):Int)≠rf.Qd
  ·exact(GoE.endsT okF hJ Qg GoE.start (u3 B rf Qa t)
    ⟨(Y1 q1),hp3⟩).cast (by(simp only[QY];simp[*];done))
  ·have hp4:Q6 (ag B rf Qa t):=by
    exact⟨(Y2 (Decidable.of_not_not q1)),hp3⟩
   by_cases q2:((↑t.Ql.length:Int):Int)≠rf.Qd
   ·exact(GoE.endsT okF hJ Qg GoE.start (u0 B rf Qa t)
     ⟨(Y1 q2),hp4⟩).cast (by(simp only[QY];simp[*];done))
   ·exact((u9 rf Qa t hr hl hp hJ _) (0) rfl (by omega) (by omega) (by omega)
     (GoE.start.landM okF hJ Qg (uz B rf Qa t)
     ⟨(Y2 (Decidable.of_not_not q2)),hp4⟩ (by kernel_rfl) (by kernel_rfl))).cast (by(simp_all[QY];done))
 |false=>
  exact(GoE.endsT okF hJ Qg GoE.start (uy B rf Qa t)
   ⟨⟨trivial,(by have t_:=S6 t.Qe (List.map (X2 rf.Qc) rf.Qb);rw[q0]at t_;exact t_)⟩,Ph⟩).cast (by(simp only[QY];simp[*];done))
theorem uB(rf:Qi)(Qa:List Int)(t:Qv)(hr:QC rf=true)(hl:Qa.length<=4)(hp:∀j:Nat,0<=Qa.getD j 0/\Qa.getD j 0<=1000000):Q0 YP J0 58 #[.agg (QL rf Qa).toArray,.agg #[XI t.Qe,QI t.Qj.length (Qh X1 t.Qj),QI t.Ql.length (Qh X1 t.Ql)]] (.bool (QY rf Qa t)):=
 Xo (ts:=[.agg (QL rf Qa).toArray,.agg #[XI t.Qe,QI t.Qj.length (Qh X1 t.Qj),QI t.Ql.length (Qh X1 t.Ql)]]) Zh (c0:=Qx YP 58 58 (([.agg (QL rf Qa).toArray,.agg #[XI t.Qe,QI t.Qj.length (Qh X1 t.Qj),QI t.Ql.length (Qh X1 t.Ql)]]).map (Q8 0 4))) (by kernel_rfl) (by kernel_rfl) fun B hJ=>zk rf Qa t hr hl hp hJ
def VU(x_:Qf):Array Value:=#[.int .i64 x_.count,.int .i64 x_.room,.int .i64 x_.glo,.int .i64 x_.ghi,.int .i64 x_.Xs,.int .i64 x_.Zt,.int .i64 x_.Pe,.int .i64 x_.Pf,.int .i64 x_.JU,.int .i64 x_.JV,.int .i64 x_.goal,.int .i64 x_.Uk]
def bq(x_:Qf):Array Value:=#[.int .i64 (if false=true then x_.JU else x_.Pe),.int .i64 (if false=true then x_.JV else x_.Pf)]
def bp(x_:Qf):Array Value:=#[.int .i64 (if true=true then x_.JU else x_.Pe),.int .i64 (if true=true then x_.JV else x_.Pf)]
def fH(rf:Qi):Array Value:=(Qh Qm rf.Qb)
def Pu(rf:Qi)(Qa:List Int)(t:Qv)(i:Int):List Value:=[Q2 1 (QI Qa.length (Qh QR Qa)),pA 2 0,pA 3 0,.int .i64 i]
def VX(rf:Qi)(Qa:List Int)(t:Qv)(i:Int):List Obj:=[Obj.cells #[Q2 1 (QI rf.Qb.length (Qh Qm rf.Qb)),.int .i64 rf.Qc,.int .i64 rf.Qd] 24,Obj.cells #[Q2 1 (QI t.Qe.length (Qh QR t.Qe)),Q2 1 (QI t.Qj.length (Qh X1 t.Qj)),Q2 1 (QI t.Ql.length (Qh X1 t.Ql))] 42]
def Pv:List Item:=([.code [1,1,0,1,0,0],.inLoop [1,1,0,1,0,0],.inBlock 0,.code [1,1,1]]).map (it (QP YP 27))
def Cv(B:Lo)(c0:CF)(rf:Qi)(Qa:List Int)(t:Qv)(i:Int):Prop:=∃dJ:Nat->Value,(∀t,Xy (dJ t))/\GoE YP B c0 Zf 1 (QK 27 136 (([1,3,5,7]:List Nat).zip (Pu rf Qa t i)) dJ Pv) (QH (VX rf Qa t i)) (2+(VX rf Qa t i).length) []
def YK(rf:Qi)(Qa:List Int)(t:Qv)(s:Int):List Value:=[Q2 1 (QI Qa.length (Qh QR Qa)),pA 2 0,pA 3 0,.int .i64 s]
def WI(rf:Qi)(Qa:List Int)(t:Qv)(s:Int):List Obj:=[Obj.cells #[Q2 1 (QI rf.Qb.length (Qh Qm rf.Qb)),.int .i64 rf.Qc,.int .i64 rf.Qd] 24,Obj.cells #[Q2 1 (QI t.Qe.length (Qh QR t.Qe)),Q2 1 (QI t.Qj.length (Qh X1 t.Qj)),Q2 1 (QI t.Ql.length (Qh X1 t.Ql))] 42]
def YM:List Item:=([.code [1,1,1,0,1,0,0],.inLoop [1,1,1,0,1,0,0],.inBlock 2,.code [1,1,1,1]]).map (it (QP YP 27))
def Cu(B:Lo)(c0:CF)(rf:Qi)(Qa:List Int)(t:Qv)(s:Int):Prop:=∃dJ:Nat->Value,(∀t,Xy (dJ t))/\GoE YP B c0 Zf 1 (QK 27 136 (([1,3,5,8]:List Nat).zip (YK rf Qa t s)) dJ YM) (QH (WI rf Qa t s)) (2+(WI rf Qa t s).length) []
def VV(rf:Qi)(Qa:List Int)(t:Qv)(s i:Int):List Value:=[Q2 1 (QI Qa.length (Qh QR Qa)),pA 2 0,pA 3 0,.int .i64 s,.int .i64 i]
def Vi(rf:Qi)(Qa:List Int)(t:Qv)(s i:Int):List Obj:=[Obj.cells #[Q2 1 (QI rf.Qb.length (Qh Qm rf.Qb)),.int .i64 rf.Qc,.int .i64 rf.Qd] 24,Obj.cells #[Q2 1 (QI t.Qe.length (Qh QR t.Qe)),Q2 1 (QI t.Qj.length (Qh X1 t.Qj)),Q2 1 (QI t.Ql.length (Qh X1 t.Ql))] 42]
def VW:List Item:=([.code [1,1,1,0,1,0,0,1,0,0,1,1,0,0],.inLoop [1,1,1,0,1,0,0,1,0,0,1,1,0,0],.inBlock 4,.inBlock 3,.code [1,1,1,0,1,0,0,1,1],.inLoop [1,1,1,0,1,0,0],.inBlock 2,.code [1,1,1,1]]).map (it (QP YP 27))
def Ct(B:Lo)(c0:CF)(rf:Qi)(Qa:List Int)(t:Qv)(s i:Int):Prop:=∃dJ:Nat->Value,(∀t,Xy (dJ t))/\GoE YP B c0 Zf 1 (QK 27 136 (([1,3,5,8,9]:List Nat).zip (VV rf Qa t s i)) dJ VW) (QH (Vi rf Qa t s i)) (2+(Vi rf Qa t s i).length) []
def fQ(B:Lo)(rf:Qi)(Qa:List Int)(t:Qv)(i:Int)(Qs:Nat->Value):List Prop:=let d:=fH rf;let c:=t.Qe;let b:=Oc rf.Qb;let a:=rf.Qb.getD i.toNat NZ;[Q6 []/\Q0 YP J0 60 #[.agg #[QI b d,.int .i64 rf.Qc,.int .i64 rf.Qd],.int .i64 a.count] (.int .i64 (ZZ rf.Qc a.count)),Yr i b d Try.t54.size (VU a),Yr i b d Try.t54.size (VU a),Yr i c.length (Qh QR c) Try.t3.size #[.int .i64 (c.getD i.toNat NZ)],XS i (↑b:Int)=true]++([]:List Prop)
def pr(rf:Qi)(Qa:List Int)(t:Qv)(i:Int)(Qs:Nat->Value):QD:=let b:=Oa i;let a:=rf.Qb.getD b NZ;[(4,ZF),(8,Qk.tidx b #[.int .i64 (t.Qe.getD b NZ)]),(13,Qk.tidx b (VU a)),(20,Qk.tidx b (VU a)),(23,Qk.pure (.int .i64 (ZZ rf.Qc a.count)) [])]
theorem Cr(B:Lo)(rf:Qi)(Qa:List Int)(t:Qv)(i:Int)(Qs:Nat->Value):let a:=Qf.count (rf.Qb.getD i.toNat NZ);landM (Qu YP (Q9 YP) J0 B 14 1 (QK 27 136 (([1,3,5,7]:List Nat).zip (Pu rf Qa t i)) Qs Pv) (QH (VX rf Qa t i)) (2+(VX rf Qa t i).length)
 (pr rf Qa t i Qs++[(24,Qk.pure (.bool true) []),(27,WV (i+1))]) 0 [] []) [1,3,5,7] [(2,KS.auto),(3,KS.auto)] []=some ⟨27,136,Pv,[],.run,none,Pu rf Qa t (i+1),VX rf Qa t (i+1),
 [wq (i+1)=i+1,Q6 []/\Q0 YP J0 55 #[.int .i64 (t.Qe.getD i.toNat NZ),.int .i64 a,.int .i64 (ZZ rf.Qc a)] (.bool true)]++fQ B rf Qa t i Qs⟩:=by intro a;kernel_rfl
theorem Cq(B:Lo)(rf:Qi)(Qa:List Int)(t:Qv)(i:Int)(Qs:Nat->Value):let a:=Qf.count (rf.Qb.getD i.toNat NZ);QW (Qu YP (Q9 YP) J0 B 14 1 (QK 27 136 (([1,3,5,7]:List Nat).zip (Pu rf Qa t i)) Qs Pv) (QH (VX rf Qa t i)) (2+(VX rf Qa t i).length)
 (pr rf Qa t i Qs++[(24,Qk.pure (.bool false) [])]) 0 [] []) []=some (.bool false,
 [Q6 []/\Q0 YP J0 55 #[.int .i64 (t.Qe.getD i.toNat NZ),.int .i64 a,.int .i64 (ZZ rf.Qc a)] (.bool false)]++fQ B rf Qa t i Qs):=by intro a;kernel_rfl
theorem Cp(B:Lo)(rf:Qi)(Qa:List Int)(t:Qv)(i:Int)(Qs:Nat->Value):landM (Qu YP (Q9 YP) J0 B 10 1 (QK 27 136 (([1,3,5,7]:List Nat).zip (Pu rf Qa t i)) Qs Pv) (QH (VX rf Qa t i)) (2+(VX rf Qa t i).length)
 [(4,Wm)] 0 [] []) [1,3,5,8] [(2,KS.auto),(3,KS.auto)] []=some ⟨27,136,YM,[],.run,none,YK rf Qa t (0),WI rf Qa t (0),
 [XS i (↑rf.Qb.length:Int)=false]⟩:=by kernel_rfl
def fP(B:Lo)(rf:Qi)(Qa:List Int)(t:Qv)(s:Int)(Qs:Nat->Value):List Prop:=[Yr s t.Qj.length (Qh X1 t.Qj) Try.t25.size #[QI (Oc (t.Qj.getD s.toNat NZ)) (Qh QR (t.Qj.getD s.toNat NZ))],XS s rf.Qd=true]++([]:List Prop)
def pq(rf:Qi)(Qa:List Int)(t:Qv)(s:Int)(Qs:Nat->Value):QD:=[(3,ZF),(7,Qk.tidx s.toNat #[QI (Oc (t.Qj.getD s.toNat NZ)) (Qh QR (t.Qj.getD s.toNat NZ))])]
theorem Co(B:Lo)(rf:Qi)(Qa:List Int)(t:Qv)(s:Int)(Qs:Nat->Value):QW (Qu YP (Q9 YP) J0 B 15 1 (QK 27 136 (([1,3,5,8]:List Nat).zip (YK rf Qa t s)) Qs YM) (QH (WI rf Qa t s)) (2+(WI rf Qa t s).length)
 (pq rf Qa t s Qs++[(13,ZF)]) 0 [] []) []=some (.bool false,
 [(!Y6 (↑(Oc (t.Qj.getD s.toNat NZ)):Int) (↑rf.Qb.length:Int))=true]++fP B rf Qa t s Qs):=by kernel_rfl
def fO(B:Lo)(rf:Qi)(Qa:List Int)(t:Qv)(s:Int)(Qs:Nat->Value):List Prop:=let b:=t.Ql;let a:=b.getD s.toNat NZ;[Yr s b.length (Qh X1 b) Try.t25.size #[QI a.length (Qh QR a)],(!Y6 (↑(Oc (t.Qj.getD s.toNat NZ)):Int) (↑rf.Qb.length:Int))=false]++fP B rf Qa t s Qs
def po(rf:Qi)(Qa:List Int)(t:Qv)(s:Int)(Qs:Nat->Value):QD:=pq rf Qa t s Qs++[(13,Wm),(18,Qk.tidx s.toNat #[QI (Oc (t.Ql.getD s.toNat NZ)) (Qh QR (t.Ql.getD s.toNat NZ))])]
theorem Cn(B:Lo)(rf:Qi)(Qa:List Int)(t:Qv)(s:Int)(Qs:Nat->Value):QW (Qu YP (Q9 YP) J0 B 15 1 (QK 27 136 (([1,3,5,8]:List Nat).zip (YK rf Qa t s)) Qs YM) (QH (WI rf Qa t s)) (2+(WI rf Qa t s).length)
 (po rf Qa t s Qs++[(24,ZF)]) 0 [] []) []=some (.bool false,
 [(!Y6 (↑(Oc (t.Ql.getD s.toNat NZ)):Int) (↑rf.Qb.length:Int))=true]++fO B rf Qa t s Qs):=by kernel_rfl
theorem Cm(B:Lo)(rf:Qi)(Qa:List Int)(t:Qv)(s:Int)(Qs:Nat->Value):landM (Qu YP (Q9 YP) J0 B 16 1 (QK 27 136 (([1,3,5,8]:List Nat).zip (YK rf Qa t s)) Qs YM) (QH (WI rf Qa t s)) (2+(WI rf Qa t s).length)
 (po rf Qa t s Qs++[(24,Wm)]) 0 [] []) [1,3,5,8,9] [(2,KS.auto),(3,KS.auto)] []=some ⟨27,136,VW,[],.run,none,VV rf Qa t (s) (0),Vi rf Qa t (s) (0),
 [(!Y6 (↑(Oc (t.Ql.getD s.toNat NZ)):Int) (↑rf.Qb.length:Int))=false]++fO B rf Qa t s Qs⟩:=by kernel_rfl
theorem Cl(B:Lo)(rf:Qi)(Qa:List Int)(t:Qv)(s:Int)(Qs:Nat->Value):QW (Qu YP (Q9 YP) J0 B 9 1 (QK 27 136 (([1,3,5,8]:List Nat).zip (YK rf Qa t s)) Qs YM) (QH (WI rf Qa t s)) (2+(WI rf Qa t s).length)
 [(3,Wm)] 0 [] []) []=some (.bool true,
 [XS s rf.Qd=false]):=by kernel_rfl
def fN(B:Lo)(rf:Qi)(Qa:List Int)(t:Qv)(s i:Int)(Qs:Nat->Value):List Prop:=let c:=t.Qj;let b:=rf.Qb;let a:=c.getD s.toNat NZ;[Yr i b.length (fH rf) Try.t54.size (VU (b.getD i.toNat NZ)),Yr i a.length (Qh QR a) Try.t3.size #[.int .i64 (a.getD i.toNat NZ)],Yr s c.length (Qh X1 c) Try.t25.size #[QI a.length (Qh QR a)],XS i (↑b.length:Int)=true]++([]:List Prop)
def pn(rf:Qi)(Qa:List Int)(t:Qv)(s i:Int)(Qs:Nat->Value):QD:=let b:=Oa i;let a:=t.Qj.getD s.toNat NZ;[(4,ZF),(8,Qk.tidx s.toNat #[QI a.length (Qh QR a)]),(11,Qk.tidx b #[.int .i64 (a.getD b NZ)]),(16,Qk.tidx b (VU (rf.Qb.getD b NZ)))]
def fM(B:Lo)(rf:Qi)(Qa:List Int)(t:Qv)(s i:Int)(Qs:Nat->Value):List Prop:=let e:=Oa s;let d:=Oa i;let c:=t.Ql;let b:=rf.Qb.getD d NZ;let a:=c.getD e NZ;[Yr s Qa.length (Qh QR Qa) Try.t3.size #[.int .i64 (Qa.getD e NZ)],Yr i rf.Qb.length (fH rf) Try.t54.size (VU b),Yr i a.length (Qh QR a) Try.t3.size #[.int .i64 (a.getD d NZ)],Yr s c.length (Qh X1 c) Try.t25.size #[QI a.length (Qh QR a)],Q6 []/\Q0 YP J0 32 #[.int .i64 (Ob (t.Qj.getD e NZ) d NZ),.agg #[.int .i64 b.glo,.int .i64 b.ghi]] (.bool true)]++fN B rf Qa t s i Qs
def pk(rf:Qi)(Qa:List Int)(t:Qv)(s i:Int)(Qs:Nat->Value):QD:=let c:=Oa i;let b:=Oa s;let a:=t.Ql.getD b NZ;pn rf Qa t s i Qs++[(19,Qk.pure (.bool true) []),(25,Qk.tidx b #[QI a.length (Qh QR a)]),(28,Qk.tidx c #[.int .i64 (a.getD c NZ)]),(33,Qk.tidx c (VU (rf.Qb.getD c NZ))),(37,Qk.tidx b #[.int .i64 (Qa.getD b NZ)])]
def fL(B:Lo)(rf:Qi)(Qa:List Int)(t:Qv)(s i:Int)(Qs:Nat->Value):List Prop:=let a:=rf.Qb.getD i.toNat NZ;[Q6 []/\Q0 YP J0 61 #[.agg (VU a),.bool true] (.agg (bp a)),Q6 []/\Q0 YP J0 47 #[.int .i64 (Qa.getD s.toNat NZ),.int .i64 i] (.bool true)]++fM B rf Qa t s i Qs
def pj(rf:Qi)(Qa:List Int)(t:Qv)(s i:Int)(Qs:Nat->Value):QD:=pk rf Qa t s i Qs++[(40,Qk.pure (.bool true) []),(41,Qk.pure (.agg (bp (rf.Qb.getD i.toNat NZ))) [])]
theorem Ck(B:Lo)(rf:Qi)(Qa:List Int)(t:Qv)(s i:Int)(Qs:Nat->Value):let a:=Vi rf Qa t s i;landM (Qu YP (Q9 YP) J0 B 14 1 (QK 27 136 (([1,3,5,8,9]:List Nat).zip (VV rf Qa t s i)) Qs VW) (QH a) (2+a.length)
 (pj rf Qa t s i Qs++[(42,Qk.pure (.bool true) []),(46,WV (i+1))]) 0 [] []) [1,3,5,8,9] [(2,KS.auto),(3,KS.auto)] []=some ⟨27,136,VW,[],.run,none,VV rf Qa t (s) (i+1),Vi rf Qa t (s) (i+1),
 [wq (i+1)=i+1,Q6 []/\Q0 YP J0 32 #[.int .i64 (Ob (t.Ql.getD s.toNat NZ) i.toNat NZ),.agg (bp (rf.Qb.getD i.toNat NZ))] (.bool true)]++fL B rf Qa t s i Qs⟩:=by intro a;kernel_rfl
theorem Cj(B:Lo)(rf:Qi)(Qa:List Int)(t:Qv)(s i:Int)(Qs:Nat->Value):let a:=Vi rf Qa t s i;QW (Qu YP (Q9 YP) J0 B 14 1 (QK 27 136 (([1,3,5,8,9]:List Nat).zip (VV rf Qa t s i)) Qs VW) (QH a) (2+a.length)
 (pj rf Qa t s i Qs++[(42,Qk.pure (.bool false) [])]) 0 [] []) []=some (.bool false,
 [Q6 []/\Q0 YP J0 32 #[.int .i64 (Ob (t.Ql.getD s.toNat NZ) i.toNat NZ),.agg (bp (rf.Qb.getD i.toNat NZ))] (.bool false)]++fL B rf Qa t s i Qs):=by intro a;kernel_rfl
def fK(B:Lo)(rf:Qi)(Qa:List Int)(t:Qv)(s i:Int)(Qs:Nat->Value):List Prop:=let a:=rf.Qb.getD i.toNat NZ;[Q6 []/\Q0 YP J0 61 #[.agg (VU a),.bool false] (.agg (bq a)),Q6 []/\Q0 YP J0 47 #[.int .i64 (Qa.getD s.toNat NZ),.int .i64 i] (.bool false)]++fM B rf Qa t s i Qs
def ph(rf:Qi)(Qa:List Int)(t:Qv)(s i:Int)(Qs:Nat->Value):QD:=pk rf Qa t s i Qs++[(40,Qk.pure (.bool false) []),(41,Qk.pure (.agg (bq (rf.Qb.getD i.toNat NZ))) [])]
theorem Ci(B:Lo)(rf:Qi)(Qa:List Int)(t:Qv)(s i:Int)(Qs:Nat->Value):let a:=Vi rf Qa t s i;landM (Qu YP (Q9 YP) J0 B 14 1 (QK 27 136 (([1,3,5,8,9]:List Nat).zip (VV rf Qa t s i)) Qs VW) (QH a) (2+a.length)
 (ph rf Qa t s i Qs++[(42,Qk.pure (.bool true) []),(46,WV (i+1))]) 0 [] []) [1,3,5,8,9] [(2,KS.auto),(3,KS.auto)] []=some ⟨27,136,VW,[],.run,none,VV rf Qa t (s) (i+1),Vi rf Qa t (s) (i+1),
 [wq (i+1)=i+1,Q6 []/\Q0 YP J0 32 #[.int .i64 (Ob (t.Ql.getD s.toNat NZ) i.toNat NZ),.agg (bq (rf.Qb.getD i.toNat NZ))] (.bool true)]++fK B rf Qa t s i Qs⟩:=by intro a;kernel_rfl
theorem yH(B:Lo)(rf:Qi)(Qa:List Int)(t:Qv)(s i:Int)(Qs:Nat->Value):let a:=Vi rf Qa t s i;QW (Qu YP (Q9 YP) J0 B 14 1 (QK 27 136 (([1,3,5,8,9]:List Nat).zip (VV rf Qa t s i)) Qs VW) (QH a) (2+a.length)
 (ph rf Qa t s i Qs++[(42,Qk.pure (.bool false) [])]) 0 [] []) []=some (.bool false,
 [Q6 []/\Q0 YP J0 32 #[.int .i64 (Ob (t.Ql.getD s.toNat NZ) i.toNat NZ),.agg (bq (rf.Qb.getD i.toNat NZ))] (.bool false)]++fK B rf Qa t s i Qs):=by intro a;kernel_rfl
theorem yG(B:Lo)(rf:Qi)(Qa:List Int)(t:Qv)(s i:Int)(Qs:Nat->Value):let b:=Vi rf Qa t s i;let a:=rf.Qb.getD i.toNat NZ;QW (Qu YP (Q9 YP) J0 B 14 1 (QK 27 136 (([1,3,5,8,9]:List Nat).zip (VV rf Qa t s i)) Qs VW) (QH b) (2+b.length)
 (pn rf Qa t s i Qs++[(19,Qk.pure (.bool false) [])]) 0 [] []) []=some (.bool false,
 [Q6 []/\Q0 YP J0 32 #[.int .i64 (Ob (t.Qj.getD s.toNat NZ) i.toNat NZ),.agg #[.int .i64 a.glo,.int .i64 a.ghi]] (.bool false)]++fN B rf Qa t s i Qs):=by intro b a;kernel_rfl
theorem yF(B:Lo)(rf:Qi)(Qa:List Int)(t:Qv)(s i:Int)(Qs:Nat->Value):let a:=Vi rf Qa t s i;landM (Qu YP (Q9 YP) J0 B 8 1 (QK 27 136 (([1,3,5,8,9]:List Nat).zip (VV rf Qa t s i)) Qs VW) (QH a) (2+a.length)
 [(4,Wm),(6,WV (s+1))] 0 [] []) [1,3,5,8] [(2,KS.auto),(3,KS.auto)] []=some ⟨27,136,YM,[],.run,none,YK rf Qa t (s+1),WI rf Qa t (s+1),
 [wq (s+1)=s+1,XS i (↑rf.Qb.length:Int)=false]⟩:=by intro a;kernel_rfl
theorem yE(B:Lo)(rf:Qi)(Qa:List Int)(t:Qv):QW (Qu YP (Q9 YP) J0 B 10 1 (Qx YP 27 136 (([.agg (Q5 rf).toArray,XI Qa,.agg #[XI t.Qe,QI t.Qj.length (Qh X1 t.Qj),QI t.Ql.length (Qh X1 t.Ql)]]).map (Q8 0 4))) Zf 1
 [(9,ZF)] 0 [] []) []=some (.bool false,
 [(!Y6 (↑t.Qe.length:Int) (↑rf.Qb.length:Int))=true]):=by kernel_rfl
def fJ(B:Lo)(rf:Qi)(Qa:List Int)(t:Qv):List Prop:=[(!Y6 (↑t.Qe.length:Int) (↑rf.Qb.length:Int))=false]++([]:List Prop)
def pf(rf:Qi)(Qa:List Int)(t:Qv):QD:=[(9,Wm)]
theorem yD(B:Lo)(rf:Qi)(Qa:List Int)(t:Qv):QW (Qu YP (Q9 YP) J0 B 10 1 (Qx YP 27 136 (([.agg (Q5 rf).toArray,XI Qa,.agg #[XI t.Qe,QI t.Qj.length (Qh X1 t.Qj),QI t.Ql.length (Qh X1 t.Ql)]]).map (Q8 0 4))) Zf 1
 (pf rf Qa t++[(16,ZF)]) 0 [] []) []=some (.bool false,
 [(!Y6 (↑t.Qj.length:Int) rf.Qd)=true]++fJ B rf Qa t):=by kernel_rfl
def fI(B:Lo)(rf:Qi)(Qa:List Int)(t:Qv):List Prop:=[(!Y6 (↑t.Qj.length:Int) rf.Qd)=false]++fJ B rf Qa t
def pc(rf:Qi)(Qa:List Int)(t:Qv):QD:=pf rf Qa t++[(16,Wm)]
theorem yC(B:Lo)(rf:Qi)(Qa:List Int)(t:Qv):QW (Qu YP (Q9 YP) J0 B 10 1 (Qx YP 27 136 (([.agg (Q5 rf).toArray,XI Qa,.agg #[XI t.Qe,QI t.Qj.length (Qh X1 t.Qj),QI t.Ql.length (Qh X1 t.Ql)]]).map (Q8 0 4))) Zf 1
 (pc rf Qa t++[(24,ZF)]) 0 [] []) []=some (.bool false,
 [(!Y6 (↑t.Ql.length:Int) rf.Qd)=true]++fI B rf Qa t):=by kernel_rfl
theorem yB(B:Lo)(rf:Qi)(Qa:List Int)(t:Qv):landM (Qu YP (Q9 YP) J0 B 12 1 (Qx YP 27 136 (([.agg (Q5 rf).toArray,XI Qa,.agg #[XI t.Qe,QI t.Qj.length (Qh X1 t.Qj),QI t.Ql.length (Qh X1 t.Ql)]]).map (Q8 0 4))) Zf 1
 (pc rf Qa t++[(24,Wm)]) 0 [] []) [1,3,5,7] [(1,KS.auto),(2,KS.auto)] []=some ⟨27,136,Pv,[],.run,none,Pu rf Qa t (0),VX rf Qa t (0),
 [(!Y6 (↑t.Ql.length:Int) rf.Qd)=false]++fI B rf Qa t⟩:=by kernel_rfl
set_option maxHeartbeats 4000000 in
theorem Cs(rf:Qi)(Qa:List Int)(t:Qv)(hr:QC rf=true)(hpl:(Qa.length:Int)=rf.Qd)(hp:∀j:Nat,0<=Qa.getD j NZ/\Qa.getD j NZ<=1000000){B:Lo}(hJ:∀w,B.has w->J0 w){c0:CF}:∀m:Nat,(∀(i:Int),(rf.Qb.length-i.toNat)+1000000=m->∀(h0:0<=i) (hgl:(t.Qj.length:Int)=rf.Qd) (htl:(t.Ql.length:Int)=rf.Qd) (hsl:t.Qe.length=rf.Qb.length),Cv B c0 rf Qa t i->EndsT YP B c0 (.bool (fE t.Qe (rf.Qb.map (X2 rf.Qc)) i && TK rf Qa t.Qj t.Ql 0)))/\(∀(s:Int),(rf.Qd-s).toNat*1000+900=m->∀(s0:0<=s) (hgl:(t.Qj.length:Int)=rf.Qd) (htl:(t.Ql.length:Int)=rf.Qd),Cu B c0 rf Qa t s->EndsT YP B c0 (.bool (TK rf Qa t.Qj t.Ql s)))/\(∀(s i:Int),(rf.Qd-s).toNat*1000+800-i.toNat=m->∀(s0:0<=s) (s1:s<rf.Qd) (i0:0<=i) (i1:i<=rf.Qb.length) (hgl:(t.Qj.length:Int)=rf.Qd) (htl:(t.Ql.length:Int)=rf.Qd) (hg:(t.Qj.getD s.toNat NZ).length=rf.Qb.length) (ht:(t.Ql.getD s.toNat NZ).length=rf.Qb.length),Ct B c0 rf Qa t s i->EndsT YP B c0 (.bool (fE (t.Qj.getD s.toNat NZ) (rf.Qb.map Xg) i && (fE (t.Ql.getD s.toNat NZ) (Xm rf.Qb (Qa.getD s.toNat NZ)) i && TK rf Qa t.Qj t.Ql (s+1))))):=by
 intro m0;induction m0 using Ox with
 |_ m0 ih0=>
  refine⟨?_, ?_, ?_⟩
  ·intro i JP h0 hgl htl hsl ⟨Qs,ZV,XF⟩;have Z8:=QA (QJ hr).1;have Z8:=QA (QJ hr).1;by_cases q0:(i:Int)<((↑rf.Qb.length:Int))
   ·have V5:Q6 (fQ B rf Qa t i Qs):=by
     have k1:t.Qe.length=rf.Qb.length:=(by omega)
     have k2:(t.Qj.length:Int)=rf.Qd:=(by omega)
     have k3:(t.Ql.length:Int)=rf.Qd:=(by omega)
     have hcs:=(Ju ((QJ hr).2 i h0 q0).1).1;have s2:=XV (xs:=t.Qe) (ss:=rf.Qb.map (X2 rf.Qc)) (i:=i) (by omega);have m1:=Z5 (f:=X2 rf.Qc) h0 q0;exact⟨⟨trivial,L4 (rf) (Qf.count (rf.Qb.getD i.toNat NZ)) (by omega) (by omega)⟩,⟨⟨by omega,by omega,(QB (z:=12) (fun _=>rfl) (by omega))⟩,⟨⟨by omega,by omega,(QB (z:=12) (fun _=>rfl) (by omega))⟩,⟨⟨by omega,by omega,(QB (z:=1) (fun _=>rfl) (by omega))⟩,⟨(XC q0),trivial⟩⟩⟩⟩⟩
    cases q1:V0 (t.Qe.getD i.toNat NZ) (Qf.count (rf.Qb.getD i.toNat NZ)) (ZZ rf.Qc (Qf.count (rf.Qb.getD i.toNat NZ)))with
    |true=>
     have k1:t.Qe.length=rf.Qb.length:=(by omega)
     have k2:(t.Qj.length:Int)=rf.Qd:=(by omega)
     have k3:(t.Ql.length:Int)=rf.Qd:=(by omega)
     have hcs:=(Ju ((QJ hr).2 i h0 q0).1).1;have s2:=XV (xs:=t.Qe) (ss:=rf.Qb.map (X2 rf.Qc)) (i:=i) (by omega);have m1:=Z5 (f:=X2 rf.Qc) h0 q0;exact((ih0 _ (by omega)).1 (i+1) rfl (by omega) (by with_reducible assumption) (by with_reducible assumption) (by with_reducible assumption)
      (XF.landM okF hJ Qg (Cr B rf Qa t i Qs)
      ⟨(Xq (by omega) (by omega)),⟨⟨trivial,(by have t_:=jD (t.Qe.getD i.toNat NZ) (Qf.count (rf.Qb.getD i.toNat NZ)) (ZZ rf.Qc (Qf.count (rf.Qb.getD i.toNat NZ)));rw[q1]at t_;exact t_)⟩,V5⟩⟩ (by kernel_rfl) (by kernel_rfl))).cast (by(rw[s2,m1];simp_all[X2];done))
    |false=>
     have k1:t.Qe.length=rf.Qb.length:=(by omega)
     have k2:(t.Qj.length:Int)=rf.Qd:=(by omega)
     have k3:(t.Ql.length:Int)=rf.Qd:=(by omega)
     have hcs:=(Ju ((QJ hr).2 i h0 q0).1).1;have s2:=XV (xs:=t.Qe) (ss:=rf.Qb.map (X2 rf.Qc)) (i:=i) (by omega);have m1:=Z5 (f:=X2 rf.Qc) h0 q0;exact(GoE.endsT okF hJ Qg XF (Cq B rf Qa t i Qs)
      ⟨⟨trivial,(by have t_:=jD (t.Qe.getD i.toNat NZ) (Qf.count (rf.Qb.getD i.toNat NZ)) (ZZ rf.Qc (Qf.count (rf.Qb.getD i.toNat NZ)));rw[q1]at t_;exact t_)⟩,V5⟩).cast (by(rw[s2,m1];simp_all[X2];done))
   ·have k1:t.Qe.length=rf.Qb.length:=(by omega)
    have k2:(t.Qj.length:Int)=rf.Qd:=(by omega)
    have k3:(t.Ql.length:Int)=rf.Qd:=(by omega)
    have s2:=dx (xs:=t.Qe) (ss:=rf.Qb.map (X2 rf.Qc)) (i:=i) (by omega);exact((ih0 _ (by omega)).2.1 (0) rfl (by omega) (by with_reducible assumption) (by with_reducible assumption)
     (XF.landM okF hJ Qg (Cp B rf Qa t i Qs)
     ⟨(XO (Int.not_lt.1 q0)),trivial⟩ (by kernel_rfl) (by kernel_rfl))).cast (by(rw[s2];simp;done))
  ·intro s JP s0 hgl htl ⟨Qs,ZV,XF⟩;have Z8:=QA (QJ hr).1;have Z8:=QA (QJ hr).1;have pd:Qa.getD s.toNat 0=Qa.getD s.toNat NZ:=rfl;by_cases q0:(s:Int)<rf.Qd
   ·have Kj:Q6 (fP B rf Qa t s Qs):=by
     have k2:(t.Qj.length:Int)=rf.Qd:=(by omega)
     have k3:(t.Ql.length:Int)=rf.Qd:=(by omega)
     have s2:=VS (Qa:=Qa) (gs:=t.Qj) (ts:=t.Ql) q0;exact⟨⟨by omega,by omega,(QB (z:=1) (fun _=>rfl) (by omega))⟩,⟨(XC q0),trivial⟩⟩
    by_cases q1:((↑(Oc (t.Qj.getD s.toNat NZ)):Int):Int)≠((↑rf.Qb.length:Int))
    ·have k2:(t.Qj.length:Int)=rf.Qd:=(by omega)
     have k3:(t.Ql.length:Int)=rf.Qd:=(by omega)
     have s2:=VS (Qa:=Qa) (gs:=t.Qj) (ts:=t.Ql) q0;exact(GoE.endsT okF hJ Qg XF (Co B rf Qa t s Qs)
      ⟨(Y1 q1),Kj⟩).cast (by(rw[s2,EY (by omega)];rfl))
    ·have Ph:Q6 (fO B rf Qa t s Qs):=by
      have k2:(t.Qj.length:Int)=rf.Qd:=(by omega)
      have k3:(t.Ql.length:Int)=rf.Qd:=(by omega)
      have s2:=VS (Qa:=Qa) (gs:=t.Qj) (ts:=t.Ql) q0;exact⟨⟨by omega,by omega,(QB (z:=1) (fun _=>rfl) (by omega))⟩,⟨(Y2 (Decidable.of_not_not q1)),Kj⟩⟩
     by_cases q2:((↑(Oc (t.Ql.getD s.toNat NZ)):Int):Int)≠((↑rf.Qb.length:Int))
     ·have k2:(t.Qj.length:Int)=rf.Qd:=(by omega)
      have k3:(t.Ql.length:Int)=rf.Qd:=(by omega)
      have s2:=VS (Qa:=Qa) (gs:=t.Qj) (ts:=t.Ql) q0;exact(GoE.endsT okF hJ Qg XF (Cn B rf Qa t s Qs)
       ⟨(Y1 q2),Ph⟩).cast (by(rw[s2,EY (by omega)];rfl))
     ·have k2:(t.Qj.length:Int)=rf.Qd:=(by omega)
      have k3:(t.Ql.length:Int)=rf.Qd:=(by omega)
      have s2:=VS (Qa:=Qa) (gs:=t.Qj) (ts:=t.Ql) q0;exact((ih0 _ (by omega)).2.2 (s) (0) rfl (by with_reducible assumption) (by with_reducible assumption) (by omega) (by omega) (by with_reducible assumption) (by with_reducible assumption) (by omega) (by omega)
       (XF.landM okF hJ Qg (Cm B rf Qa t s Qs)
       ⟨(Y2 (Decidable.of_not_not q2)),Ph⟩ (by kernel_rfl) (by kernel_rfl))).cast (by(rw[s2,Ij (by omega) (by omega),Bool.and_assoc];done))
   ·have k2:(t.Qj.length:Int)=rf.Qd:=(by omega)
    have k3:(t.Ql.length:Int)=rf.Qd:=(by omega)
    have s2:=tv (rf:=rf) (Qa:=Qa) (gs:=t.Qj) (ts:=t.Ql) (i:=s) (by omega);exact(GoE.endsT okF hJ Qg XF (Cl B rf Qa t s Qs)
     ⟨(XO (Int.not_lt.1 q0)),trivial⟩).cast (by(rw[s2];done))
  ·intro s i JP s0 s1 i0 i1 hgl htl hg ht ⟨Qs,ZV,XF⟩;have Z8:=QA (QJ hr).1;have Z8:=QA (QJ hr).1;have hpk:=hp s.toNat;by_cases q0:(i:Int)<((↑rf.Qb.length:Int))
   ·have hp3:Q6 (fN B rf Qa t s i Qs):=by
     have k2:(t.Qj.length:Int)=rf.Qd:=(by omega)
     have k3:(t.Ql.length:Int)=rf.Qd:=(by omega)
     have s2:=XV (xs:=(t.Qj.getD s.toNat NZ)) (ss:=rf.Qb.map Xg) (i:=i) (by omega);have s3:=XV (xs:=(t.Ql.getD s.toNat NZ)) (ss:=Xm rf.Qb (Qa.getD s.toNat NZ)) (i:=i) (by omega);have m1:=Z5 (f:=Xg) i0 q0;have m2:(Xm rf.Qb (Qa.getD s.toNat NZ)).getD i.toNat NZ=Wq (Qa.getD s.toNat NZ) i (rf.Qb.getD i.toNat NZ):=Xz i0 q0;exact⟨⟨by omega,by omega,(QB (z:=12) (fun _=>rfl) (by omega))⟩,⟨⟨by omega,by omega,(QB (z:=1) (fun _=>rfl) (by omega))⟩,⟨⟨by omega,by omega,(QB (z:=1) (fun _=>rfl) (by omega))⟩,⟨(XC q0),trivial⟩⟩⟩⟩
    cases q1:V0 (Ob (t.Qj.getD s.toNat NZ) i.toNat NZ) (Qf.glo (rf.Qb.getD i.toNat NZ)) (Qf.ghi (rf.Qb.getD i.toNat NZ))with
    |true=>
     have hp4:Q6 (fM B rf Qa t s i Qs):=by
      have k2:(t.Qj.length:Int)=rf.Qd:=(by omega)
      have k3:(t.Ql.length:Int)=rf.Qd:=(by omega)
      have s2:=XV (xs:=(t.Qj.getD s.toNat NZ)) (ss:=rf.Qb.map Xg) (i:=i) (by omega);have s3:=XV (xs:=(t.Ql.getD s.toNat NZ)) (ss:=Xm rf.Qb (Qa.getD s.toNat NZ)) (i:=i) (by omega);have m1:=Z5 (f:=Xg) i0 q0;have m2:(Xm rf.Qb (Qa.getD s.toNat NZ)).getD i.toNat NZ=Wq (Qa.getD s.toNat NZ) i (rf.Qb.getD i.toNat NZ):=Xz i0 q0;exact⟨⟨by omega,by omega,(QB (z:=1) (fun _=>rfl) (by omega))⟩,⟨⟨by omega,by omega,(QB (z:=12) (fun _=>rfl) (by omega))⟩,⟨⟨by omega,by omega,(QB (z:=1) (fun _=>rfl) (by omega))⟩,⟨⟨by omega,by omega,(QB (z:=1) (fun _=>rfl) (by omega))⟩,⟨⟨trivial,(by have t_:=Jh (Ob (t.Qj.getD s.toNat NZ) i.toNat NZ) (Qf.glo (rf.Qb.getD i.toNat NZ)) (Qf.ghi (rf.Qb.getD i.toNat NZ));rw[q1]at t_;exact t_)⟩,hp3⟩⟩⟩⟩⟩
     cases q2:hasB (Qa.getD s.toNat NZ) i with
     |true=>
      have hp5:Q6 (fL B rf Qa t s i Qs):=by
       have k2:(t.Qj.length:Int)=rf.Qd:=(by omega)
       have k3:(t.Ql.length:Int)=rf.Qd:=(by omega)
       have s2:=XV (xs:=(t.Qj.getD s.toNat NZ)) (ss:=rf.Qb.map Xg) (i:=i) (by omega);have s3:=XV (xs:=(t.Ql.getD s.toNat NZ)) (ss:=Xm rf.Qb (Qa.getD s.toNat NZ)) (i:=i) (by omega);have m1:=Z5 (f:=Xg) i0 q0;have m2:(Xm rf.Qb (Qa.getD s.toNat NZ)).getD i.toNat NZ=Wq (Qa.getD s.toNat NZ) i (rf.Qb.getD i.toNat NZ):=Xz i0 q0;exact⟨⟨trivial,Fj (rf.Qb.getD i.toNat NZ) (true)⟩,⟨⟨trivial,(by have t_:=MV (Qa.getD s.toNat NZ) (i) (by omega) (by omega);rw[q2]at t_;exact t_)⟩,hp4⟩⟩
      cases q3:V0 (Ob (t.Ql.getD s.toNat NZ) i.toNat NZ) (if true=true then Qf.JU (rf.Qb.getD i.toNat NZ)else Qf.Pe (rf.Qb.getD i.toNat NZ)) (if true=true then Qf.JV (rf.Qb.getD i.toNat NZ)else Qf.Pf (rf.Qb.getD i.toNat NZ))with
      |true=>
       have k2:(t.Qj.length:Int)=rf.Qd:=(by omega)
       have k3:(t.Ql.length:Int)=rf.Qd:=(by omega)
       have s2:=XV (xs:=(t.Qj.getD s.toNat NZ)) (ss:=rf.Qb.map Xg) (i:=i) (by omega);have s3:=XV (xs:=(t.Ql.getD s.toNat NZ)) (ss:=Xm rf.Qb (Qa.getD s.toNat NZ)) (i:=i) (by omega);have m1:=Z5 (f:=Xg) i0 q0;have m2:(Xm rf.Qb (Qa.getD s.toNat NZ)).getD i.toNat NZ=Wq (Qa.getD s.toNat NZ) i (rf.Qb.getD i.toNat NZ):=Xz i0 q0;exact((ih0 _ (by omega)).2.2 (s) (i+1) rfl (by with_reducible assumption) (by with_reducible assumption) (by omega) (by omega) (by with_reducible assumption) (by with_reducible assumption) (by with_reducible assumption) (by with_reducible assumption)
        (XF.landM okF hJ Qg (Ck B rf Qa t s i Qs)
        ⟨(Xq (by omega) (by omega)),⟨⟨trivial,(by have t_:=Jh (Ob (t.Ql.getD s.toNat NZ) i.toNat NZ) (if true=true then Qf.JU (rf.Qb.getD i.toNat NZ)else Qf.Pe (rf.Qb.getD i.toNat NZ)) (if true=true then Qf.JV (rf.Qb.getD i.toNat NZ)else Qf.Pf (rf.Qb.getD i.toNat NZ));rw[q3]at t_;exact t_)⟩,hp5⟩⟩ (by kernel_rfl) (by kernel_rfl))).cast (by(rw[s2,s3,m1,m2];simp_all[Xg,Wq,cy,VI];done))
      |false=>
       have k2:(t.Qj.length:Int)=rf.Qd:=(by omega)
       have k3:(t.Ql.length:Int)=rf.Qd:=(by omega)
       have s2:=XV (xs:=(t.Qj.getD s.toNat NZ)) (ss:=rf.Qb.map Xg) (i:=i) (by omega);have s3:=XV (xs:=(t.Ql.getD s.toNat NZ)) (ss:=Xm rf.Qb (Qa.getD s.toNat NZ)) (i:=i) (by omega);have m1:=Z5 (f:=Xg) i0 q0;have m2:(Xm rf.Qb (Qa.getD s.toNat NZ)).getD i.toNat NZ=Wq (Qa.getD s.toNat NZ) i (rf.Qb.getD i.toNat NZ):=Xz i0 q0;exact(GoE.endsT okF hJ Qg XF (Cj B rf Qa t s i Qs)
        ⟨⟨trivial,(by have t_:=Jh (Ob (t.Ql.getD s.toNat NZ) i.toNat NZ) (if true=true then Qf.JU (rf.Qb.getD i.toNat NZ)else Qf.Pe (rf.Qb.getD i.toNat NZ)) (if true=true then Qf.JV (rf.Qb.getD i.toNat NZ)else Qf.Pf (rf.Qb.getD i.toNat NZ));rw[q3]at t_;exact t_)⟩,hp5⟩).cast (by(rw[s2,s3,m1,m2];simp_all[Xg,Wq,cy,VI];done))
     |false=>
      have hp6:Q6 (fK B rf Qa t s i Qs):=by
       have k2:(t.Qj.length:Int)=rf.Qd:=(by omega)
       have k3:(t.Ql.length:Int)=rf.Qd:=(by omega)
       have s2:=XV (xs:=(t.Qj.getD s.toNat NZ)) (ss:=rf.Qb.map Xg) (i:=i) (by omega);have s3:=XV (xs:=(t.Ql.getD s.toNat NZ)) (ss:=Xm rf.Qb (Qa.getD s.toNat NZ)) (i:=i) (by omega);have m1:=Z5 (f:=Xg) i0 q0;have m2:(Xm rf.Qb (Qa.getD s.toNat NZ)).getD i.toNat NZ=Wq (Qa.getD s.toNat NZ) i (rf.Qb.getD i.toNat NZ):=Xz i0 q0;exact⟨⟨trivial,Fj (rf.Qb.getD i.toNat NZ) (false)⟩,⟨⟨trivial,(by have t_:=MV (Qa.getD s.toNat NZ) (i) (by omega) (by omega);rw[q2]at t_;exact t_)⟩,hp4⟩⟩
      cases q3:V0 (Ob (t.Ql.getD s.toNat NZ) i.toNat NZ) (if false=true then Qf.JU (rf.Qb.getD i.toNat NZ)else Qf.Pe (rf.Qb.getD i.toNat NZ)) (if false=true then Qf.JV (rf.Qb.getD i.toNat NZ)else Qf.Pf (rf.Qb.getD i.toNat NZ))with
      |true=>
       have k2:(t.Qj.length:Int)=rf.Qd:=(by omega)
       have k3:(t.Ql.length:Int)=rf.Qd:=(by omega)
       have s2:=XV (xs:=(t.Qj.getD s.toNat NZ)) (ss:=rf.Qb.map Xg) (i:=i) (by omega);have s3:=XV (xs:=(t.Ql.getD s.toNat NZ)) (ss:=Xm rf.Qb (Qa.getD s.toNat NZ)) (i:=i) (by omega);have m1:=Z5 (f:=Xg) i0 q0;have m2:(Xm rf.Qb (Qa.getD s.toNat NZ)).getD i.toNat NZ=Wq (Qa.getD s.toNat NZ) i (rf.Qb.getD i.toNat NZ):=Xz i0 q0;exact((ih0 _ (by omega)).2.2 (s) (i+1) rfl (by with_reducible assumption) (by with_reducible assumption) (by omega) (by omega) (by with_reducible assumption) (by with_reducible assumption) (by with_reducible assumption) (by with_reducible assumption)
        (XF.landM okF hJ Qg (Ci B rf Qa t s i Qs)
        ⟨(Xq (by omega) (by omega)),⟨⟨trivial,(by have t_:=Jh (Ob (t.Ql.getD s.toNat NZ) i.toNat NZ) (if false=true then Qf.JU (rf.Qb.getD i.toNat NZ)else Qf.Pe (rf.Qb.getD i.toNat NZ)) (if false=true then Qf.JV (rf.Qb.getD i.toNat NZ)else Qf.Pf (rf.Qb.getD i.toNat NZ));rw[q3]at t_;exact t_)⟩,hp6⟩⟩ (by kernel_rfl) (by kernel_rfl))).cast (by(rw[s2,s3,m1,m2];simp_all[Xg,Wq,cy,VI];done))
      |false=>
       have k2:(t.Qj.length:Int)=rf.Qd:=(by omega)
       have k3:(t.Ql.length:Int)=rf.Qd:=(by omega)
       have s2:=XV (xs:=(t.Qj.getD s.toNat NZ)) (ss:=rf.Qb.map Xg) (i:=i) (by omega);have s3:=XV (xs:=(t.Ql.getD s.toNat NZ)) (ss:=Xm rf.Qb (Qa.getD s.toNat NZ)) (i:=i) (by omega);have m1:=Z5 (f:=Xg) i0 q0;have m2:(Xm rf.Qb (Qa.getD s.toNat NZ)).getD i.toNat NZ=Wq (Qa.getD s.toNat NZ) i (rf.Qb.getD i.toNat NZ):=Xz i0 q0;exact(GoE.endsT okF hJ Qg XF (yH B rf Qa t s i Qs)
        ⟨⟨trivial,(by have t_:=Jh (Ob (t.Ql.getD s.toNat NZ) i.toNat NZ) (if false=true then Qf.JU (rf.Qb.getD i.toNat NZ)else Qf.Pe (rf.Qb.getD i.toNat NZ)) (if false=true then Qf.JV (rf.Qb.getD i.toNat NZ)else Qf.Pf (rf.Qb.getD i.toNat NZ));rw[q3]at t_;exact t_)⟩,hp6⟩).cast (by(rw[s2,s3,m1,m2];simp_all[Xg,Wq,cy,VI];done))
    |false=>
     have k2:(t.Qj.length:Int)=rf.Qd:=(by omega)
     have k3:(t.Ql.length:Int)=rf.Qd:=(by omega)
     have s2:=XV (xs:=(t.Qj.getD s.toNat NZ)) (ss:=rf.Qb.map Xg) (i:=i) (by omega);have s3:=XV (xs:=(t.Ql.getD s.toNat NZ)) (ss:=Xm rf.Qb (Qa.getD s.toNat NZ)) (i:=i) (by omega);have m1:=Z5 (f:=Xg) i0 q0;have m2:(Xm rf.Qb (Qa.getD s.toNat NZ)).getD i.toNat NZ=Wq (Qa.getD s.toNat NZ) i (rf.Qb.getD i.toNat NZ):=Xz i0 q0;exact(GoE.endsT okF hJ Qg XF (yG B rf Qa t s i Qs)
      ⟨⟨trivial,(by have t_:=Jh (Ob (t.Qj.getD s.toNat NZ) i.toNat NZ) (Qf.glo (rf.Qb.getD i.toNat NZ)) (Qf.ghi (rf.Qb.getD i.toNat NZ));rw[q1]at t_;exact t_)⟩,hp3⟩).cast (by(rw[s2,s3,m1,m2];simp_all[Xg,Wq,cy,VI];done))
   ·have k2:(t.Qj.length:Int)=rf.Qd:=(by omega)
    have k3:(t.Ql.length:Int)=rf.Qd:=(by omega)
    have s2:=dx (xs:=(t.Qj.getD s.toNat NZ)) (ss:=rf.Qb.map Xg) (i:=i) (by omega);have s3:=dx (xs:=(t.Ql.getD s.toNat NZ)) (ss:=Xm rf.Qb (Qa.getD s.toNat NZ)) (i:=i) (by omega);exact((ih0 _ (by omega)).2.1 (s+1) rfl (by omega) (by with_reducible assumption) (by with_reducible assumption)
     (XF.landM okF hJ Qg (yF B rf Qa t s i Qs)
     ⟨(Xq (by omega) (by omega)),⟨(XO (Int.not_lt.1 q0)),trivial⟩⟩ (by kernel_rfl) (by kernel_rfl))).cast (by(rw[s2,s3];simp;done))
set_option maxHeartbeats 4000000 in
theorem Fg(rf:Qi)(Qa:List Int)(t:Qv)(hr:QC rf=true)(hpl:(Qa.length:Int)=rf.Qd)(hp:∀j:Nat,0<=Qa.getD j NZ/\Qa.getD j NZ<=1000000){B:Lo}(hJ:∀w,B.has w->J0 w):EndsT YP B (Qx YP 27 136 (([.agg (Q5 rf).toArray,XI Qa,.agg #[XI t.Qe,QI t.Qj.length (Qh X1 t.Qj),QI t.Ql.length (Qh X1 t.Ql)]]).map (Q8 0 4))) (.bool (QY rf Qa t)):=by
 have Z8:=QA (QJ hr).1;by_cases q0:((↑t.Qe.length:Int):Int)≠((↑rf.Qb.length:Int))
 ·exact(GoE.endsT okF hJ Qg GoE.start (yE B rf Qa t)
   ⟨(Y1 q0),trivial⟩).cast (by(rw[kD (by omega)];done))
 ·have hp7:Q6 (fJ B rf Qa t):=by
   exact⟨(Y2 (Decidable.of_not_not q0)),trivial⟩
  by_cases q1:((↑t.Qj.length:Int):Int)≠rf.Qd
  ·have k1:t.Qe.length=rf.Qb.length:=(by omega)
   exact(GoE.endsT okF hJ Qg GoE.start (yD B rf Qa t)
    ⟨(Y1 q1),hp7⟩).cast (by(rw[kD (by omega)];done))
  ·have hp8:Q6 (fI B rf Qa t):=by
    exact⟨(Y2 (Decidable.of_not_not q1)),hp7⟩
   by_cases q2:((↑t.Ql.length:Int):Int)≠rf.Qd
   ·have k1:t.Qe.length=rf.Qb.length:=(by omega)
    have k2:(t.Qj.length:Int)=rf.Qd:=(by omega)
    exact(GoE.endsT okF hJ Qg GoE.start (yC B rf Qa t)
     ⟨(Y1 q2),hp8⟩).cast (by(rw[kD (by omega)];done))
   ·have k1:t.Qe.length=rf.Qb.length:=(by omega)
    have k2:(t.Qj.length:Int)=rf.Qd:=(by omega)
    have k3:(t.Ql.length:Int)=rf.Qd:=(by omega)
    exact((Cs rf Qa t hr hpl hp hJ _).1 (0) rfl (by omega) (by with_reducible assumption) (by with_reducible assumption) (by with_reducible assumption)
     (GoE.start.landM okF hJ Qg (yB B rf Qa t)
     ⟨(Y2 (Decidable.of_not_not q2)),hp8⟩ (by kernel_rfl) (by kernel_rfl))).cast (by(rw[Cb (by omega) (by omega) (by omega)];done))
theorem Fh(rf:Qi)(Qa:List Int)(t:Qv)(hr:QC rf=true)(hpl:(Qa.length:Int)=rf.Qd)(hp:∀j:Nat,0<=Qa.getD j NZ/\Qa.getD j NZ<=1000000):Q0 YP J0 27 #[.agg (Q5 rf).toArray,XI Qa,.agg #[XI t.Qe,QI t.Qj.length (Qh X1 t.Qj),QI t.Ql.length (Qh X1 t.Ql)]] (.bool (QY rf Qa t)):=
 Xo (ts:=[.agg (Q5 rf).toArray,XI Qa,.agg #[XI t.Qe,QI t.Qj.length (Qh X1 t.Qj),QI t.Ql.length (Qh X1 t.Ql)]]) Zh (c0:=Qx YP 27 136 (([.agg (Q5 rf).toArray,XI Qa,.agg #[XI t.Qe,QI t.Qj.length (Qh X1 t.Qj),QI t.Ql.length (Qh X1 t.Ql)]]).map (Q8 0 4))) (by kernel_rfl) (by kernel_rfl) fun B hJ=>Fg rf Qa t hr hpl hp hJ
end
end Go.Proofs.Ytncjjangllkokaa

namespace Go.Proofs.Ytncjjangllkokaa
open Go Go.CE Go.RowKit
noncomputable section
set_option maxRecDepth 100000
theorem Mg{n:Nat}(h:n<=4):((VO n:Nat):Int)<=16:=by
 unfold VO;have:n=0\/n=1\/n=2\/n=3\/n=4:=by omega
 rcases this with rfl|rfl|rfl|rfl|rfl <;> decide
theorem VP{rf:Qi}{Qa:List Int}(hr:Zd rf=true)(hp:QV rf Qa=true)(j:Nat):0<=Qa.getD j 0/\Qa.getD j 0<=15:=by
 have h:=(Xn hp).2;have h4:=Mg (n:=rf.Qb.length) (by have:=QA (QQ hr).1;omega);by_cases hj:j<Qa.length
 ·have e:Qa.getD j 0=Qa[j]:=by simp[Ol,hj]
  have:=h Qa[j] (List.getElem_mem hj);rw[e];omega
 ·rw[Ol,Ou (by omega)];exact⟨OV _,by decide⟩
theorem YH{xs:List Int}{ss:List Span}(h:Td xs ss=true):xs.length=ss.length/\∀k:Int,0<=k->k<xs.length->(ss.getD k.toNat NZ).lo<=xs.getD k.toNat NZ/\xs.getD k.toNat NZ<=(ss.getD k.toNat NZ).hi:=by
 unfold Td at h;simp only[YB,decide_eq_true_iff]at h;exact⟨h.1,fun k h0 h1=>R9.1 (jY h.2 h0 h1)⟩
theorem TG{rf:Qi}{Qa:List Int}{t:Qv}(h:QY rf Qa t=true):Td t.Qe (rf.Qb.map (X2 rf.Qc))=true/\(t.Qj.length:Int)=rf.Qd/\(t.Ql.length:Int)=rf.Qd/\∀s:Int,0<=s->s<rf.Qd->Td (t.Qj.getD s.toNat NZ) (rf.Qb.map Xg)=true/\Td (t.Ql.getD s.toNat NZ) (Xm rf.Qb (Qa.getD s.toNat 0))=true:=by
 unfold QY at h;simp only[YB,decide_eq_true_iff]at h;refine⟨h.1,h.2.1,h.2.2.1,fun s h0 h1=> ?_⟩;have:=jY h.2.2.2 h0 h1;unfold oJ at this;simpa only[YB]using this
theorem rm{rf:Qi}(hr:Zd rf=true):PW rf.Qb:=by
 have hs:=QA (QQ hr).1;refine⟨by omega,fun k h0 h1=> ?_⟩;have h:=(QQ hr).2 k h0 h1;have hp:=ZP h.1;exact⟨hp.2.1,hp.2.2.2.2.2.1,h.2.1,h.2.2⟩
theorem TI{ps:List Qf}{p k:Int}(h0:0<=k)(h:k<ps.length):(Xm ps p).getD k.toNat NZ=Wq p k (ps.getD k.toNat NZ):=Xz h0 h
theorem WW{ps:List Qf}{p:Int}:(Xm ps p).length=ps.length:=by rw[Xm,XK];omega
theorem fA{rf:Qi}(hr:Zd rf=true){p k:Int}(h0:0<=k)(h:k<rf.Qb.length):0<=(Wq p k (rf.Qb.getD k.toNat NZ)).lo/\(Wq p k (rf.Qb.getD k.toNat NZ)).lo<=(Wq p k (rf.Qb.getD k.toNat NZ)).hi/\(Wq p k (rf.Qb.getD k.toNat NZ)).hi<=1000000:=by
 have hp:=ZP ((QQ hr).2 k h0 h).1;unfold Wq;split
 ·exact hp.2.2.2.2.2.2.2.1
 ·exact hp.2.2.2.2.2.2.1
theorem Wt{rf:Qi}{Qa:List Int}{t:Qv}(hr:Zd rf=true)(ht:QY rf Qa t=true):OkT rf.Qb rf.Qd t.Qj t.Ql (Qz t.Qe)/\t.Qe.length=rf.Qb.length:=by
 have hs:=QA (QQ hr).1;obtain⟨h1,h2,h3,h4⟩:=TG ht;obtain⟨s1,s2⟩:=YH h1;rw[List.length_map]at s1;have st:∀k:Int,0<=k->k<4->0<=nth t.Qe k/\nth t.Qe k<=4000000:=fun k k0 k1=>by
  by_cases hk:k<rf.Qb.length
  ·have hp:=ZP ((QQ hr).2 k k0 hk).1;have:=s2 k k0 (by omega);rw[Z5 k0 hk]at this;have hm:=Tx (a:=(rf.Qb.getD k.toNat NZ).count) (r:=rf.Qc) (by omega) (by omega);have hm2:(rf.Qb.getD k.toNat NZ).count*rf.Qc<=1000000*2000:=Int.mul_le_mul hp.1.2 hs.2.1.2 hs.2.1.1 (by omega);have e2:((rf.Qb.getD k.toNat NZ).count*rf.Qc).tdiv 1000=((rf.Qb.getD k.toNat NZ).count*rf.Qc) / 1000:=OI hm.1;simp only[X2,ZZ]at this;unfold nth;omega
  ·unfold nth;rw[Ol,Ou (by omega)];exact⟨OV _,by decide⟩
 have a0:=st 0 (by omega) (by omega);have a1:=st 1 (by omega) (by omega);have a2:=st 2 (by omega) (by omega);have a3:=st 3 (by omega) (by omega);have es:(Qz t.Qe).sum=nth t.Qe 0+nth t.Qe 1+nth t.Qe 2+nth t.Qe 3:=rfl;refine⟨⟨rm hr,by omega,by omega,by omega,h2,h3,fun k hk=> ?_,fun k hk=> ?_,⟨⟨a0.1,a1.1,a2.1,a3.1⟩,by omega⟩,by omega⟩,s1⟩
 ·obtain⟨g1,g2⟩:=YH (h4 k (by omega) hk).1;rw[List.length_map]at g1;simp only[Int.toNat_natCast]at g1 g2;refine⟨g1,fun j j0 j1=> ?_⟩;have hp:=ZP ((QQ hr).2 j j0 (by omega)).1;have:=g2 j j0 (by rw[g1];exact j1);rw[Z5 j0 j1]at this;simp only[Xg]at this;show 0<=(t.Qj.getD k NZ).getD j.toNat NZ/\(t.Qj.getD k NZ).getD j.toNat NZ<=2000;omega
 ·obtain⟨g1,g2⟩:=YH (h4 k (by omega) hk).2;rw[WW]at g1;simp only[Int.toNat_natCast]at g1 g2;refine⟨g1,fun j j0 j1=> ?_⟩;have:=g2 j j0 (by rw[g1];exact j1);rw[TI j0 j1]at this;have hp:=fA hr (p:=Qa.getD k 0) j0 j1;show 0<=(t.Ql.getD k NZ).getD j.toNat NZ/\(t.Ql.getD k NZ).getD j.toNat NZ<=1000000;omega
abbrev Zp(xs:List (List Int)):Value:=QI xs.length (Qh X1 xs)
def GA(rf:Qi)(t:Qv):Array Value:=let e:=t.Ql;let d:=t.Qj;let c:=rf.Qb;let b:=rf.Qd;let a:=Qz t.Qe;#[.int .i64 a.sum,.int .i64 (Xt 0 b (K2 c d e a)),.int .i64 (Xt 0 b (WX c d e a)),.int .i64 (Xt 0 b (Kz c d e a)),.int .i64 (F4.sum (Sk c d e a b.toNat))]
def ej(rf:Qi)(Qa:List Int):Array Value:=#[QI rf.Qb.length (Qh Qm rf.Qb),.int .i64 rf.Qc,.int .i64 rf.Qd,.int .i64 (Qa.getD 0 0),.int .i64 (Qa.getD 1 0),.int .i64 (Qa.getD 2 0),.int .i64 (Qa.getD 3 0)]
def ei(rf:Qi):Array Value:=#[QI rf.Qb.length (Qh Qm rf.Qb),.int .i64 rf.Qc,.int .i64 rf.Qd]
def mw(t:Qv):Array Value:=#[QI t.Qe.length (Qh QR t.Qe),QI t.Qj.length (Qh X1 t.Qj),QI t.Ql.length (Qh X1 t.Ql)]
def mr  :Array Value:=#[QI 0 #[],.agg #[.int .i64 0,.int .i64 0,.int .i64 0,.int .i64 0,.int .i64 0],.int .i64 2]
def G9(rf:Qi)(t:Qv):=(Xl rf.Qd rf.Qb t.Qj t.Ql (Qz t.Qe))
def mq(rf:Qi)(Qa:List Int):Array Value:=#[.agg (ei rf),QI Qa.length (Qh QR Qa)]
def mz(B:Lo)(rf:Qi)(Qa:List Int)(t:Qv):List Prop:=[Q6 []/\Q0 YP J0 50 #[.agg (ei rf)] (.bool true)]++([]:List Prop)
def wi(rf:Qi)(Qa:List Int)(t:Qv):QD:=[(6,Qk.pure (.bool true) [])]
def my(B:Lo)(rf:Qi)(Qa:List Int)(t:Qv):List Prop:=[Q6 []/\Q0 YP J0 52 (mq rf Qa) (.agg (ej rf Qa)),Q6 []/\Q0 YP J0 51 (mq rf Qa) (.bool true)]++mz B rf Qa t
def wh(rf:Qi)(Qa:List Int)(t:Qv):QD:=wi rf Qa t++[(11,Qk.pure (.bool true) []),(17,Qk.pure (.agg (ej rf Qa)) [])]
theorem GF(B:Lo)(rf:Qi)(Qa:List Int)(t:Qv):let c:=GA rf t;let b:=G9 rf t;let a:=Xl rf.Qd rf.Qb t.Qj t.Ql (Qz t.Qe);QW (Qu YP (Q9 YP) J0 B 13 1 (Qx YP 26 37 (([.agg (Q5 rf).toArray,XI Qa,.agg #[XI t.Qe,Zp t.Qj,Zp t.Ql]]).map (Q8 0 4))) Zf 1
 (wh rf Qa t++[(19,Qk.pure (.bool true) []),(24,Qk.pure (.tuple #[QI b.length (Qh X1 b),.agg c]) [])]) 0 [] []) []=some (.tuple #[QI b.length (Qh X1 b),.agg c,.int .i64 0],
 [Q6 []/\Q0 YP J0 59 #[.agg (ei rf),.agg (mw t)] (.tuple #[QI a.length (Qh X1 a),.agg c]),Q6 []/\Q0 YP J0 58 #[.agg (ej rf Qa),.agg (mw t)] (.bool true)]++my B rf Qa t):=by intro c b a;kernel_rfl
theorem GD(B:Lo)(rf:Qi)(Qa:List Int)(t:Qv):QW (Qu YP (Q9 YP) J0 B 10 1 (Qx YP 26 37 (([.agg (Q5 rf).toArray,XI Qa,.agg #[XI t.Qe,Zp t.Qj,Zp t.Ql]]).map (Q8 0 4))) Zf 1
 (wh rf Qa t++[(19,Qk.pure (.bool false) [])]) 0 [] []) []=some (.tuple mr,
 [Q6 []/\Q0 YP J0 58 #[.agg (ej rf Qa),.agg (mw t)] (.bool false)]++my B rf Qa t):=by kernel_rfl
theorem GC(B:Lo)(rf:Qi)(Qa:List Int)(t:Qv):QW (Qu YP (Q9 YP) J0 B 10 1 (Qx YP 26 37 (([.agg (Q5 rf).toArray,XI Qa,.agg #[XI t.Qe,Zp t.Qj,Zp t.Ql]]).map (Q8 0 4))) Zf 1
 (wi rf Qa t++[(11,Qk.pure (.bool false) [])]) 0 [] []) []=some (.tuple mr,
 [Q6 []/\Q0 YP J0 51 (mq rf Qa) (.bool false)]++mz B rf Qa t):=by kernel_rfl
theorem GB(B:Lo)(rf:Qi)(Qa:List Int)(t:Qv):QW (Qu YP (Q9 YP) J0 B 10 1 (Qx YP 26 37 (([.agg (Q5 rf).toArray,XI Qa,.agg #[XI t.Qe,Zp t.Qj,Zp t.Ql]]).map (Q8 0 4))) Zf 1
 [(6,Qk.pure (.bool false) [])] 0 [] []) []=some (.tuple mr,
 [Q6 []/\Q0 YP J0 50 #[.agg (ei rf)] (.bool false)]):=by kernel_rfl
set_option maxHeartbeats 4000000 in
theorem ID(rf:Qi)(Qa:List Int)(t:Qv)  {B:Lo}(hJ:∀w,B.has w->J0 w):EndsT YP B (Qx YP 26 37 (([.agg (Q5 rf).toArray,XI Qa,.agg #[XI t.Qe,Zp t.Qj,Zp t.Ql]]).map (Q8 0 4))) (.tuple #[if QC rf && (QV rf Qa && QY rf Qa t)then Zp (Xl rf.Qd rf.Qb t.Qj t.Ql (Qz t.Qe))else Zp [],.agg #[.int .i64 (if QC rf && (QV rf Qa && QY rf Qa t)then(Qz t.Qe).sum else 0),.int .i64 (if QC rf && (QV rf Qa && QY rf Qa t)then Xt 0 rf.Qd (K2 rf.Qb t.Qj t.Ql (Qz t.Qe))else 0),.int .i64 (if QC rf && (QV rf Qa && QY rf Qa t)then Xt 0 rf.Qd (WX rf.Qb t.Qj t.Ql (Qz t.Qe))else 0),.int .i64 (if QC rf && (QV rf Qa && QY rf Qa t)then Xt 0 rf.Qd (Kz rf.Qb t.Qj t.Ql (Qz t.Qe))else 0),.int .i64 (if QC rf && (QV rf Qa && QY rf Qa t)then(Sk rf.Qb t.Qj t.Ql (Qz t.Qe) rf.Qd.toNat).sum else 0)],.int .i64 (if QC rf && (QV rf Qa && QY rf Qa t)then 0 else 2)]):=by
 cases q0:QC rf with
 |true=>
  have V5:Q6 (mz B rf Qa t):=by
   have Ui:=QO ‹QC rf=true›;have Z8:=QA (QJ ‹QC rf=true›).1;exact⟨⟨trivial,(by have t_:=bE (rf);rw[q0]at t_;exact t_)⟩,trivial⟩
  cases q1:QV rf Qa with
  |true=>
   have Kj:Q6 (my B rf Qa t):=by
    have Ui:=QO ‹QC rf=true›;have Z8:=QA (QJ ‹QC rf=true›).1;have hpf:=(Xn ‹QV rf Qa=true›).1;have hpg:=(fun j=>(fun h=>⟨h.1,by omega⟩) (VP Ui ‹QV rf Qa=true› j):∀j:Nat,0<=Qa.getD j 0/\Qa.getD j 0<=1000000)
    exact⟨⟨trivial,fW (rf) (Qa) (by omega) (by omega)⟩,⟨⟨trivial,(by have t_:=bF (rf) (Qa) (by omega);rw[q1]at t_;exact t_)⟩,V5⟩⟩
   cases q2:QY rf Qa t with
   |true=>
    have Ui:=QO ‹QC rf=true›;have Z8:=QA (QJ ‹QC rf=true›).1;have hpf:=(Xn ‹QV rf Qa=true›).1;have hpg:=(fun j=>(fun h=>⟨h.1,by omega⟩) (VP Ui ‹QV rf Qa=true› j):∀j:Nat,0<=Qa.getD j 0/\Qa.getD j 0<=1000000)
    have QF:=Wt Ui ‹QY rf Qa t=true›;have Wi:=QF.1;have Y5:=QF.2;exact(GoE.endsT okF hJ Qg GoE.start (GF B rf Qa t)
     ⟨⟨trivial,Nd (rf) (t) (by with_reducible assumption) (by with_reducible assumption) (by omega) (by omega)⟩,⟨⟨trivial,(by have t_:=uB (rf) (Qa) (t) (by with_reducible assumption) (by omega) (by with_reducible assumption);rw[q2]at t_;exact t_)⟩,Kj⟩⟩).cast (by rfl)
   |false=>
    have Ui:=QO ‹QC rf=true›;have Z8:=QA (QJ ‹QC rf=true›).1;have hpf:=(Xn ‹QV rf Qa=true›).1;have hpg:=(fun j=>(fun h=>⟨h.1,by omega⟩) (VP Ui ‹QV rf Qa=true› j):∀j:Nat,0<=Qa.getD j 0/\Qa.getD j 0<=1000000)
    exact(GoE.endsT okF hJ Qg GoE.start (GD B rf Qa t)
     ⟨⟨trivial,(by have t_:=uB (rf) (Qa) (t) (by with_reducible assumption) (by omega) (by with_reducible assumption);rw[q2]at t_;exact t_)⟩,Kj⟩).cast (by rfl)
  |false=>
   have Ui:=QO ‹QC rf=true›;have Z8:=QA (QJ ‹QC rf=true›).1;exact(GoE.endsT okF hJ Qg GoE.start (GC B rf Qa t)
    ⟨⟨trivial,(by have t_:=bF (rf) (Qa) (by omega);rw[q1]at t_;exact t_)⟩,V5⟩).cast (by rfl)
 |false=>
  exact(GoE.endsT okF hJ Qg GoE.start (GB B rf Qa t)
   ⟨⟨trivial,(by have t_:=bE (rf);rw[q0]at t_;exact t_)⟩,trivial⟩).cast (by rfl)
theorem Ng(rf:Qi)(Qa:List Int)(t:Qv)  :Q0 YP J0 26 #[.agg (Q5 rf).toArray,XI Qa,.agg #[XI t.Qe,Zp t.Qj,Zp t.Ql]] (.tuple #[if QC rf && (QV rf Qa && QY rf Qa t)then Zp (Xl rf.Qd rf.Qb t.Qj t.Ql (Qz t.Qe))else Zp [],.agg #[.int .i64 (if QC rf && (QV rf Qa && QY rf Qa t)then(Qz t.Qe).sum else 0),.int .i64 (if QC rf && (QV rf Qa && QY rf Qa t)then Xt 0 rf.Qd (K2 rf.Qb t.Qj t.Ql (Qz t.Qe))else 0),.int .i64 (if QC rf && (QV rf Qa && QY rf Qa t)then Xt 0 rf.Qd (WX rf.Qb t.Qj t.Ql (Qz t.Qe))else 0),.int .i64 (if QC rf && (QV rf Qa && QY rf Qa t)then Xt 0 rf.Qd (Kz rf.Qb t.Qj t.Ql (Qz t.Qe))else 0),.int .i64 (if QC rf && (QV rf Qa && QY rf Qa t)then(Sk rf.Qb t.Qj t.Ql (Qz t.Qe) rf.Qd.toNat).sum else 0)],.int .i64 (if QC rf && (QV rf Qa && QY rf Qa t)then 0 else 2)]):=
 Xo (ts:=[.agg (Q5 rf).toArray,XI Qa,.agg #[XI t.Qe,Zp t.Qj,Zp t.Ql]]) Zh (c0:=Qx YP 26 37 (([.agg (Q5 rf).toArray,XI Qa,.agg #[XI t.Qe,Zp t.Qj,Zp t.Ql]]).map (Q8 0 4))) (by kernel_rfl) (by kernel_rfl) fun B hJ=>ID rf Qa t  hJ
end
end Go.Proofs.Ytncjjangllkokaa

namespace Go.Proofs.Ytncjjangllkokaa
open Go Go.CE Go.RowKit
def Q3(n:Int):Value:=.int .i64 n
def Xr(g:FuncId):Bool:=ON 3 g && (On g 116 && !([]:List Nat).any (Of g))
theorem QG:∀g,Xr g=true->Q9 YP g=true:=by
 have h:(Oe 116).all (fun g=> !(Xr g) || Q9 YP g)=true:=by decide+kernel
 intro g hg;have hg':=hg;simp only[Xr,YB]at hg;have h1:g<116:=YL hg.2.1;have:=List.all_eq_true.1 h g (List.mem_range.2 h1);rw[hg']at this;simpa using this
def Uo:Obj:=.cells #[Q3 1000,Q3 2000,Q3 200,Q3 300,Q3 100,Q3 1,Q3 200,Q3 300,Q3 0,Q3 50,Q3 900,Q3 10,Q3 500,Q3 800,Q3 100,Q3 200,Q3 0,Q3 (-1),Q3 100,Q3 200,Q3 0,Q3 20,Q3 450,Q3 6] 54 (0,0)
def qB:Obj:=.cells #[.slice (some ⟨2104,0,none⟩) 2 12,Q3 200,Q3 2,Q3 1,Q3 1,Q3 0,Q3 0] 84 (0,0)
def NX:Obj:=.cells #[Q3 1000,Q3 2000,Q3 200,Q3 300,Q3 100,Q3 1,Q3 200,Q3 300,Q3 0,Q3 50,Q3 900,Q3 10,Q3 500,Q3 800,Q3 100,Q3 200,Q3 0,Q3 (-1),Q3 100,Q3 122,Q3 0,Q3 20,Q3 450,Q3 6] 54 (0,0)
def NW:Obj:=.cells #[Q3 1000,Q3 2000,Q3 200,Q3 300,Q3 100,Q3 1,Q3 200,Q3 300,Q3 0,Q3 50,Q3 900,Q3 10,Q3 500,Q3 800,Q3 100,Q3 200,Q3 0,Q3 (-1),Q3 100,Q3 183,Q3 0,Q3 20,Q3 450,Q3 6] 54 (0,0)
def NV:Obj:=.cells #[Q3 1000,Q3 2000,Q3 200,Q3 300,Q3 100,Q3 1,Q3 200,Q3 300,Q3 0,Q3 50,Q3 900,Q3 10,Q3 500,Q3 800,Q3 100,Q3 200,Q3 0,Q3 (-1),Q3 100,Q3 199,Q3 0,Q3 20,Q3 450,Q3 6] 54 (0,0)
def NU:Obj:=.cells #[Q3 1000,Q3 2000,Q3 200,Q3 300,Q3 100,Q3 1,Q3 200,Q3 300,Q3 0,Q3 50,Q3 900,Q3 10,Q3 500,Q3 800,Q3 100,Q3 200,Q3 0,Q3 (-1),Q3 100,Q3 191,Q3 0,Q3 20,Q3 450,Q3 6] 54 (0,0)
def NT:Obj:=.cells #[Q3 1000,Q3 2000,Q3 200,Q3 300,Q3 100,Q3 1,Q3 200,Q3 300,Q3 0,Q3 50,Q3 900,Q3 10,Q3 500,Q3 800,Q3 100,Q3 200,Q3 0,Q3 (-1),Q3 100,Q3 195,Q3 0,Q3 20,Q3 450,Q3 6] 54 (0,0)
def NS:Obj:=.cells #[Q3 1000,Q3 2000,Q3 200,Q3 300,Q3 100,Q3 1,Q3 200,Q3 300,Q3 0,Q3 50,Q3 900,Q3 10,Q3 500,Q3 800,Q3 100,Q3 200,Q3 0,Q3 (-1),Q3 100,Q3 197,Q3 0,Q3 20,Q3 450,Q3 6] 54 (0,0)
def NQ:Obj:=.cells #[Q3 1000,Q3 2000,Q3 200,Q3 300,Q3 100,Q3 1,Q3 200,Q3 300,Q3 0,Q3 50,Q3 900,Q3 10,Q3 500,Q3 800,Q3 100,Q3 200,Q3 0,Q3 (-1),Q3 100,Q3 196,Q3 0,Q3 20,Q3 450,Q3 6] 54 (0,0)
end Go.Proofs.Ytncjjangllkokaa

namespace Go.Proofs.Ytncjjangllkokaa
open Go Go.CE Go.RowKit
def Aq:Memo:=
 ⟨26,#[.agg #[.slice (some ⟨7,0,none⟩) 2 12,Q3 200,Q3 2],.slice (some ⟨8,0,none⟩) 2 1,.agg #[.slice (some ⟨9,0,none⟩) 2 1,.slice (some ⟨12,0,none⟩) 2 1,.slice (some ⟨15,0,none⟩) 2 1]],[(9,.cells #[Q3 1100,Q3 550] 3 (0,0)),(12,.cells #[.slice (some ⟨10,0,none⟩) 2 1,.slice (some ⟨11,0,none⟩) 2 1] 25 (0,0)),(10,.cells #[Q3 250,Q3 150] 3 (0,0)),(15,.cells #[.slice (some ⟨13,0,none⟩) 2 1,.slice (some ⟨14,0,none⟩) 2 1] 25 (0,0)),(13,.cells #[Q3 250,Q3 150] 3 (0,0)),(11,.cells #[Q3 200,Q3 100] 3 (0,0)),(14,.cells #[Q3 200,Q3 100] 3 (0,0)),(8,.cells #[Q3 0,Q3 0] 3 (0,0)),(7,Uo)],16,.tuple #[.slice (some ⟨107,0,none⟩) 2 1,.agg #[Q3 1650,Q3 615,Q3 700,Q3 0,Q3 1565],Q3 0],[(121,.cells #[Q3 867,Q3 698] 3 (0,0)),(114,.cells #[Q3 988,Q3 619] 3 (0,0)),(107,.cells #[.slice (some ⟨114,0,none⟩) 2 1,.slice (some ⟨121,0,none⟩) 2 1] 25 (0,0))],123⟩
theorem DM:QS Aq (Aq.run YP Xr X6 100000)=true:=by decide+kernel
def se:Memo:=
 ⟨18,#[.agg #[.slice (some ⟨131,0,none⟩) 2 12,Q3 200,Q3 2],.slice (some ⟨132,0,none⟩) 2 1],[(132,.cells #[Q3 0,Q3 0] 3 (0,0)),(131,Uo)],133,.tuple #[.slice (some ⟨191,0,none⟩) 2 1,Q3 0],[(375,.cells #[Q3 543,Q3 1209,Q3 410,Q3 856] 38 (0,0)),(283,.cells #[Q3 780,Q3 1204,Q3 470,Q3 776] 38 (0,0)),(191,.cells #[.slice (some ⟨283,0,none⟩) 2 2,.slice (some ⟨375,0,none⟩) 2 2] 36 (0,0))],376⟩
theorem Ar:QS se (se.run YP Xr X6 100000)=true:=by decide+kernel
def rZ:Memo:=
 ⟨88,#[.slice (some ⟨383,0,none⟩) 2 12,.agg #[Q3 1063,Q3 440,Q3 0,Q3 0]],[(383,Uo)],539,.tuple #[.agg #[Q3 1,Q3 10],.bool true],[],544⟩
theorem An:QS rZ (rZ.drun YP Xr X6 100000)=true:=by decide+kernel
def rU:Memo:=
 ⟨98,#[.agg #[.slice (some ⟨552,0,none⟩) 2 12,Q3 200,Q3 2,Q3 3,Q3 3,Q3 0,Q3 0],.agg #[Q3 1000,Q3 500,Q3 0,Q3 0],Q3 0,.func (.func 76) #[] #[],.func (.func 77) #[] #[]],[(552,Uo)],622,.agg #[Q3 1030,Q3 650,Q3 0,Q3 0],[],663⟩
theorem Ai:QS rU (rU.run YP Xr X6 100000)=true:=by decide+kernel
def rT:Memo:=
 ⟨98,#[.agg #[.slice (some ⟨552,0,none⟩) 2 12,Q3 200,Q3 2,Q3 3,Q3 3,Q3 0,Q3 0],.agg #[Q3 1030,Q3 650,Q3 0,Q3 0],Q3 1,.func (.func 76) #[] #[],.func (.func 77) #[] #[]],[(552,Uo)],666,.agg #[Q3 1063,Q3 818,Q3 0,Q3 0],[],707⟩
theorem Ah:QS rT (rT.run YP Xr X6 100000)=true:=by decide+kernel
def rY:Memo:=
 ⟨88,#[.slice (some ⟨552,0,none⟩) 2 12,.agg #[Q3 1063,Q3 818,Q3 0,Q3 0]],[(552,Uo)],707,.tuple #[.agg #[Q3 0,Q3 0],.bool false],[],712⟩
theorem Am:QS rY (rY.drun YP Xr X6 100000)=true:=by decide+kernel
def rS:Memo:=
 ⟨98,#[.agg #[.slice (some ⟨552,0,none⟩) 2 12,Q3 200,Q3 2,Q3 0,Q3 0,Q3 0,Q3 0],.agg #[Q3 1000,Q3 500,Q3 0,Q3 0],Q3 0,.func (.func 76) #[] #[],.func (.func 77) #[] #[]],[(552,Uo)],760,.agg #[Q3 780,Q3 470,Q3 0,Q3 0],[],801⟩
theorem Ag:QS rS (rS.run YP Xr X6 100000)=true:=by decide+kernel
def rR:Memo:=
 ⟨98,#[.agg #[.slice (some ⟨552,0,none⟩) 2 12,Q3 200,Q3 2,Q3 0,Q3 0,Q3 0,Q3 0],.agg #[Q3 780,Q3 470,Q3 0,Q3 0],Q3 1,.func (.func 76) #[] #[],.func (.func 77) #[] #[]],[(552,Uo)],804,.agg #[Q3 543,Q3 410,Q3 0,Q3 0],[],845⟩
theorem Af:QS rR (rR.run YP Xr X6 100000)=true:=by decide+kernel
def rX:Memo:=
 ⟨88,#[.slice (some ⟨552,0,none⟩) 2 12,.agg #[Q3 543,Q3 410,Q3 0,Q3 0]],[(552,Uo)],845,.tuple #[.agg #[Q3 0,Q3 357],.bool true],[],849⟩
theorem Al:QS rX (rX.drun YP Xr X6 100000)=true:=by decide+kernel
def rQ:Memo:=
 ⟨98,#[.agg #[.slice (some ⟨552,0,none⟩) 2 12,Q3 200,Q3 2,Q3 0,Q3 1,Q3 0,Q3 0],.agg #[Q3 780,Q3 470,Q3 0,Q3 0],Q3 1,.func (.func 76) #[] #[],.func (.func 77) #[] #[]],[(552,Uo)],876,.agg #[Q3 793,Q3 410,Q3 0,Q3 0],[],917⟩
theorem Ae:QS rQ (rQ.run YP Xr X6 100000)=true:=by decide+kernel
def rW:Memo:=
 ⟨88,#[.slice (some ⟨552,0,none⟩) 2 12,.agg #[Q3 793,Q3 410,Q3 0,Q3 0]],[(552,Uo)],917,.tuple #[.agg #[Q3 0,Q3 107],.bool true],[],921⟩
theorem Ak:QS rW (rW.drun YP Xr X6 100000)=true:=by decide+kernel
def rP:Memo:=
 ⟨98,#[.agg #[.slice (some ⟨552,0,none⟩) 2 12,Q3 200,Q3 2,Q3 0,Q3 2,Q3 0,Q3 0],.agg #[Q3 780,Q3 470,Q3 0,Q3 0],Q3 1,.func (.func 76) #[] #[],.func (.func 77) #[] #[]],[(552,Uo)],948,.agg #[Q3 543,Q3 590,Q3 0,Q3 0],[],989⟩
theorem Ad:QS rP (rP.run YP Xr X6 100000)=true:=by decide+kernel
def rV:Memo:=
 ⟨88,#[.slice (some ⟨552,0,none⟩) 2 12,.agg #[Q3 543,Q3 590,Q3 0,Q3 0]],[(552,Uo)],989,.tuple #[.agg #[Q3 0,Q3 357],.bool true],[],993⟩
theorem Aj:QS rV (rV.drun YP Xr X6 100000)=true:=by decide+kernel
def mS:Memo:=
 ⟨98,#[.agg #[.slice (some ⟨552,0,none⟩) 2 12,Q3 200,Q3 2,Q3 0,Q3 3,Q3 0,Q3 0],.agg #[Q3 780,Q3 470,Q3 0,Q3 0],Q3 1,.func (.func 76) #[] #[],.func (.func 77) #[] #[]],[(552,Uo)],1020,.agg #[Q3 793,Q3 590,Q3 0,Q3 0],[],1061⟩
theorem wJ:QS mS (mS.run YP Xr X6 100000)=true:=by decide+kernel
end Go.Proofs.Ytncjjangllkokaa

namespace Go.Proofs.Ytncjjangllkokaa
open Go Go.CE Go.RowKit
noncomputable def iJ:Vf:=Ze [rZ]
theorem m8(B:Lo):W5 YP B iJ:=Xb QG Qg (QM _ _) An (Zo _ _)
def sd:Memo:=
 ⟨35,#[.agg #[.slice (some ⟨383,0,none⟩) 2 12,Q3 200,Q3 2],.slice (some ⟨384,0,none⟩) 2 1],[(384,.cells #[Q3 1,Q3 1] 3 (0,0)),(383,Uo)],385,.tuple #[Q3 1,Q3 10,Q3 0],[],545⟩
theorem Ap:QS sd (sd.run YP Xr iJ 100000)=true:=by decide+kernel
end Go.Proofs.Ytncjjangllkokaa

namespace Go.Proofs.Ytncjjangllkokaa
open Go Go.CE Go.RowKit
def nR:Memo:=
 ⟨88,#[.slice (some ⟨552,0,none⟩) 2 12,.agg #[Q3 793,Q3 590,Q3 0,Q3 0]],[(552,Uo)],1061,.tuple #[.agg #[Q3 0,Q3 107],.bool true],[],1065⟩
theorem xK:QS nR (nR.drun YP Xr X6 100000)=true:=by decide+kernel
def mR:Memo:=
 ⟨98,#[.agg #[.slice (some ⟨552,0,none⟩) 2 12,Q3 200,Q3 2,Q3 1,Q3 0,Q3 0,Q3 0],.agg #[Q3 1000,Q3 500,Q3 0,Q3 0],Q3 0,.func (.func 76) #[] #[],.func (.func 77) #[] #[]],[(552,Uo)],1112,.agg #[Q3 1030,Q3 470,Q3 0,Q3 0],[],1153⟩
theorem wI:QS mR (mR.run YP Xr X6 100000)=true:=by decide+kernel
def mQ:Memo:=
 ⟨98,#[.agg #[.slice (some ⟨552,0,none⟩) 2 12,Q3 200,Q3 2,Q3 1,Q3 0,Q3 0,Q3 0],.agg #[Q3 1030,Q3 470,Q3 0,Q3 0],Q3 1,.func (.func 76) #[] #[],.func (.func 77) #[] #[]],[(552,Uo)],1156,.agg #[Q3 813,Q3 440,Q3 0,Q3 0],[],1197⟩
theorem wH:QS mQ (mQ.run YP Xr X6 100000)=true:=by decide+kernel
def nQ:Memo:=
 ⟨88,#[.slice (some ⟨552,0,none⟩) 2 12,.agg #[Q3 813,Q3 440,Q3 0,Q3 0]],[(552,Uo)],1197,.tuple #[.agg #[Q3 0,Q3 87],.bool true],[],1201⟩
theorem xJ:QS nQ (nQ.drun YP Xr X6 100000)=true:=by decide+kernel
def mP:Memo:=
 ⟨98,#[.agg #[.slice (some ⟨552,0,none⟩) 2 12,Q3 200,Q3 2,Q3 1,Q3 1,Q3 0,Q3 0],.agg #[Q3 1030,Q3 470,Q3 0,Q3 0],Q3 1,.func (.func 76) #[] #[],.func (.func 77) #[] #[]],[(552,Uo)],1228,.agg #[Q3 1063,Q3 440,Q3 0,Q3 0],[],1269⟩
theorem wG:QS mP (mP.run YP Xr X6 100000)=true:=by decide+kernel
def nP:Memo:=
 ⟨88,#[.slice (some ⟨552,0,none⟩) 2 12,.agg #[Q3 1063,Q3 440,Q3 0,Q3 0]],[(552,Uo)],1269,.tuple #[.agg #[Q3 1,Q3 10],.bool true],[],1274⟩
theorem xI:QS nP (nP.drun YP Xr X6 100000)=true:=by decide+kernel
def mO:Memo:=
 ⟨98,#[.agg #[.slice (some ⟨552,0,none⟩) 2 12,Q3 200,Q3 2,Q3 1,Q3 2,Q3 0,Q3 0],.agg #[Q3 1030,Q3 470,Q3 0,Q3 0],Q3 1,.func (.func 76) #[] #[],.func (.func 77) #[] #[]],[(552,Uo)],1301,.agg #[Q3 813,Q3 620,Q3 0,Q3 0],[],1342⟩
theorem wF:QS mO (mO.run YP Xr X6 100000)=true:=by decide+kernel
def nO:Memo:=
 ⟨88,#[.slice (some ⟨552,0,none⟩) 2 12,.agg #[Q3 813,Q3 620,Q3 0,Q3 0]],[(552,Uo)],1342,.tuple #[.agg #[Q3 0,Q3 87],.bool true],[],1346⟩
theorem xH:QS nO (nO.drun YP Xr X6 100000)=true:=by decide+kernel
def mN:Memo:=
 ⟨98,#[.agg #[.slice (some ⟨552,0,none⟩) 2 12,Q3 200,Q3 2,Q3 1,Q3 3,Q3 0,Q3 0],.agg #[Q3 1030,Q3 470,Q3 0,Q3 0],Q3 1,.func (.func 76) #[] #[],.func (.func 77) #[] #[]],[(552,Uo)],1373,.agg #[Q3 1063,Q3 620,Q3 0,Q3 0],[],1414⟩
theorem wE:QS mN (mN.run YP Xr X6 100000)=true:=by decide+kernel
def nN:Memo:=
 ⟨88,#[.slice (some ⟨552,0,none⟩) 2 12,.agg #[Q3 1063,Q3 620,Q3 0,Q3 0]],[(552,Uo)],1414,.tuple #[.agg #[Q3 0,Q3 0],.bool false],[],1419⟩
theorem xG:QS nN (nN.drun YP Xr X6 100000)=true:=by decide+kernel
def mM:Memo:=
 ⟨98,#[.agg #[.slice (some ⟨552,0,none⟩) 2 12,Q3 200,Q3 2,Q3 2,Q3 0,Q3 0,Q3 0],.agg #[Q3 1000,Q3 500,Q3 0,Q3 0],Q3 0,.func (.func 76) #[] #[],.func (.func 77) #[] #[]],[(552,Uo)],1486,.agg #[Q3 780,Q3 650,Q3 0,Q3 0],[],1527⟩
theorem wD:QS mM (mM.run YP Xr X6 100000)=true:=by decide+kernel
def mL:Memo:=
 ⟨98,#[.agg #[.slice (some ⟨552,0,none⟩) 2 12,Q3 200,Q3 2,Q3 2,Q3 0,Q3 0,Q3 0],.agg #[Q3 780,Q3 650,Q3 0,Q3 0],Q3 1,.func (.func 76) #[] #[],.func (.func 77) #[] #[]],[(552,Uo)],1530,.agg #[Q3 543,Q3 608,Q3 0,Q3 0],[],1571⟩
theorem wC:QS mL (mL.run YP Xr X6 100000)=true:=by decide+kernel
def nM:Memo:=
 ⟨88,#[.slice (some ⟨552,0,none⟩) 2 12,.agg #[Q3 543,Q3 608,Q3 0,Q3 0]],[(552,Uo)],1571,.tuple #[.agg #[Q3 0,Q3 357],.bool true],[],1575⟩
theorem xF:QS nM (nM.drun YP Xr X6 100000)=true:=by decide+kernel
def mK:Memo:=
 ⟨98,#[.agg #[.slice (some ⟨552,0,none⟩) 2 12,Q3 200,Q3 2,Q3 2,Q3 1,Q3 0,Q3 0],.agg #[Q3 780,Q3 650,Q3 0,Q3 0],Q3 1,.func (.func 76) #[] #[],.func (.func 77) #[] #[]],[(552,Uo)],1622,.agg #[Q3 793,Q3 608,Q3 0,Q3 0],[],1663⟩
theorem wB:QS mK (mK.run YP Xr X6 100000)=true:=by decide+kernel
end Go.Proofs.Ytncjjangllkokaa

namespace Go.Proofs.Ytncjjangllkokaa
open Go Go.CE Go.RowKit
def nL:Memo:=
 ⟨88,#[.slice (some ⟨552,0,none⟩) 2 12,.agg #[Q3 793,Q3 608,Q3 0,Q3 0]],[(552,Uo)],1663,.tuple #[.agg #[Q3 0,Q3 107],.bool true],[],1667⟩
theorem xE:QS nL (nL.drun YP Xr X6 100000)=true:=by decide+kernel
def mJ:Memo:=
 ⟨98,#[.agg #[.slice (some ⟨552,0,none⟩) 2 12,Q3 200,Q3 2,Q3 2,Q3 2,Q3 0,Q3 0],.agg #[Q3 780,Q3 650,Q3 0,Q3 0],Q3 1,.func (.func 76) #[] #[],.func (.func 77) #[] #[]],[(552,Uo)],1714,.agg #[Q3 543,Q3 788,Q3 0,Q3 0],[],1755⟩
theorem wA:QS mJ (mJ.run YP Xr X6 100000)=true:=by decide+kernel
def nK:Memo:=
 ⟨88,#[.slice (some ⟨552,0,none⟩) 2 12,.agg #[Q3 543,Q3 788,Q3 0,Q3 0]],[(552,Uo)],1755,.tuple #[.agg #[Q3 0,Q3 357],.bool true],[],1759⟩
theorem xD:QS nK (nK.drun YP Xr X6 100000)=true:=by decide+kernel
def mI:Memo:=
 ⟨98,#[.agg #[.slice (some ⟨552,0,none⟩) 2 12,Q3 200,Q3 2,Q3 2,Q3 3,Q3 0,Q3 0],.agg #[Q3 780,Q3 650,Q3 0,Q3 0],Q3 1,.func (.func 76) #[] #[],.func (.func 77) #[] #[]],[(552,Uo)],1806,.agg #[Q3 793,Q3 788,Q3 0,Q3 0],[],1847⟩
theorem w9:QS mI (mI.run YP Xr X6 100000)=true:=by decide+kernel
def nJ:Memo:=
 ⟨88,#[.slice (some ⟨552,0,none⟩) 2 12,.agg #[Q3 793,Q3 788,Q3 0,Q3 0]],[(552,Uo)],1847,.tuple #[.agg #[Q3 0,Q3 107],.bool true],[],1851⟩
theorem xC:QS nJ (nJ.drun YP Xr X6 100000)=true:=by decide+kernel
def mH:Memo:=
 ⟨98,#[.agg #[.slice (some ⟨552,0,none⟩) 2 12,Q3 200,Q3 2,Q3 3,Q3 0,Q3 0,Q3 0],.agg #[Q3 1030,Q3 650,Q3 0,Q3 0],Q3 1,.func (.func 76) #[] #[],.func (.func 77) #[] #[]],[(552,Uo)],1898,.agg #[Q3 813,Q3 638,Q3 0,Q3 0],[],1939⟩
theorem w8:QS mH (mH.run YP Xr X6 100000)=true:=by decide+kernel
def nI:Memo:=
 ⟨88,#[.slice (some ⟨552,0,none⟩) 2 12,.agg #[Q3 813,Q3 638,Q3 0,Q3 0]],[(552,Uo)],1939,.tuple #[.agg #[Q3 0,Q3 87],.bool true],[],1943⟩
theorem xB:QS nI (nI.drun YP Xr X6 100000)=true:=by decide+kernel
def mG:Memo:=
 ⟨98,#[.agg #[.slice (some ⟨552,0,none⟩) 2 12,Q3 200,Q3 2,Q3 3,Q3 2,Q3 0,Q3 0],.agg #[Q3 1030,Q3 650,Q3 0,Q3 0],Q3 1,.func (.func 76) #[] #[],.func (.func 77) #[] #[]],[(552,Uo)],2014,.agg #[Q3 813,Q3 818,Q3 0,Q3 0],[],2055⟩
theorem w7:QS mG (mG.run YP Xr X6 100000)=true:=by decide+kernel
def nH:Memo:=
 ⟨88,#[.slice (some ⟨552,0,none⟩) 2 12,.agg #[Q3 813,Q3 818,Q3 0,Q3 0]],[(552,Uo)],2055,.tuple #[.agg #[Q3 0,Q3 87],.bool true],[],2059⟩
theorem xA:QS nH (nH.drun YP Xr X6 100000)=true:=by decide+kernel
def nG:Memo:=
 ⟨88,#[.slice (some ⟨2134,0,none⟩) 2 12,.agg #[Q3 1063,Q3 440,Q3 0,Q3 0]],[(2134,Uo)],2266,.tuple #[.agg #[Q3 1,Q3 10],.bool true],[],2271⟩
theorem x9:QS nG (nG.drun YP Xr X6 100000)=true:=by decide+kernel
def nF:Memo:=
 ⟨88,#[.slice (some ⟨2274,0,none⟩) 2 12,.agg #[Q3 1063,Q3 440,Q3 0,Q3 0]],[(2274,Uo)],2406,.tuple #[.agg #[Q3 1,Q3 10],.bool true],[],2411⟩
theorem x6:QS nF (nF.drun YP Xr X6 100000)=true:=by decide+kernel
def nE:Memo:=
 ⟨88,#[.slice (some ⟨2414,0,none⟩) 2 12,.agg #[Q3 1063,Q3 440,Q3 0,Q3 0]],[(2414,Uo)],2546,.tuple #[.agg #[Q3 1,Q3 10],.bool true],[],2551⟩
theorem xz:QS nE (nE.drun YP Xr X6 100000)=true:=by decide+kernel
def nD:Memo:=
 ⟨88,#[.slice (some ⟨2554,0,none⟩) 2 12,.agg #[Q3 1063,Q3 440,Q3 0,Q3 0]],[(2554,Uo)],2686,.tuple #[.agg #[Q3 1,Q3 10],.bool true],[],2691⟩
theorem xx:QS nD (nD.drun YP Xr X6 100000)=true:=by decide+kernel
def nC:Memo:=
 ⟨88,#[.slice (some ⟨2694,0,none⟩) 2 12,.agg #[Q3 1063,Q3 440,Q3 0,Q3 0]],[(2694,Uo)],2826,.tuple #[.agg #[Q3 1,Q3 10],.bool true],[],2831⟩
theorem xw:QS nC (nC.drun YP Xr X6 100000)=true:=by decide+kernel
end Go.Proofs.Ytncjjangllkokaa

namespace Go.Proofs.Ytncjjangllkokaa
open Go Go.CE Go.RowKit
noncomputable def iI:Vf:=Ze [rU,rT,rY,rS,rR,rX,rQ,rW,rP,rV,mS,nR,mR,mQ,nQ,mP,nP,mO,nO,mN,nN,mM,mL,nM,mK,nL,mJ,nK,mI,nJ,mH,nI,mG,nH]
theorem m7(B:Lo):W5 YP B iI:=QX QG Qg (QM _ _) Ai (QX QG Qg (QM _ _) Ah (Xb QG Qg (QM _ _) Am (QX QG Qg (QM _ _) Ag (QX QG Qg (QM _ _) Af (Xb QG Qg (QM _ _) Al (QX QG Qg (QM _ _) Ae (Xb QG Qg (QM _ _) Ak (QX QG Qg (QM _ _) Ad (Xb QG Qg (QM _ _) Aj (QX QG Qg (QM _ _) wJ (Xb QG Qg (QM _ _) xK (QX QG Qg (QM _ _) wI (QX QG Qg (QM _ _) wH (Xb QG Qg (QM _ _) xJ (QX QG Qg (QM _ _) wG (Xb QG Qg (QM _ _) xI (QX QG Qg (QM _ _) wF (Xb QG Qg (QM _ _) xH (QX QG Qg (QM _ _) wE (Xb QG Qg (QM _ _) xG (QX QG Qg (QM _ _) wD (QX QG Qg (QM _ _) wC (Xb QG Qg (QM _ _) xF (QX QG Qg (QM _ _) wB (Xb QG Qg (QM _ _) xE (QX QG Qg (QM _ _) wA (Xb QG Qg (QM _ _) xD (QX QG Qg (QM _ _) w9 (Xb QG Qg (QM _ _) xC (QX QG Qg (QM _ _) w8 (Xb QG Qg (QM _ _) xB (QX QG Qg (QM _ _) w7 (Xb QG Qg (QM _ _) xA (Zo _ _))))))))))))))))))))))))))))))))))
def sb:Memo:=
 ⟨37,#[.agg #[.slice (some ⟨552,0,none⟩) 2 12,Q3 200,Q3 2]],[(552,Uo)],553,.tuple #[.slice (some ⟨2086,0,none⟩) 2 1,Q3 26,Q3 0],[(2086,.cells #[Q3 1,Q3 3] 3 (0,0))],2097⟩
theorem Ao:QS sb (sb.run YP Xr iI 100000)=true:=by decide+kernel
end Go.Proofs.Ytncjjangllkokaa

namespace Go.Proofs.Ytncjjangllkokaa
open Go Go.CE Go.RowKit
def nB:Memo:=
 ⟨88,#[.slice (some ⟨2834,0,none⟩) 2 12,.agg #[Q3 1063,Q3 440,Q3 0,Q3 0]],[(2834,Uo)],2966,.tuple #[.agg #[Q3 1,Q3 10],.bool true],[],2971⟩
theorem xu:QS nB (nB.drun YP Xr X6 100000)=true:=by decide+kernel
def nA:Memo:=
 ⟨88,#[.slice (some ⟨2974,0,none⟩) 2 12,.agg #[Q3 1063,Q3 440,Q3 0,Q3 0]],[(2974,Uo)],3106,.tuple #[.agg #[Q3 1,Q3 10],.bool true],[],3111⟩
theorem xt:QS nA (nA.drun YP Xr X6 100000)=true:=by decide+kernel
def n9:Memo:=
 ⟨88,#[.slice (some ⟨3114,0,none⟩) 2 12,.agg #[Q3 1063,Q3 440,Q3 0,Q3 0]],[(3114,Uo)],3246,.tuple #[.agg #[Q3 1,Q3 10],.bool true],[],3251⟩
theorem xq:QS n9 (n9.drun YP Xr X6 100000)=true:=by decide+kernel
def n8:Memo:=
 ⟨88,#[.slice (some ⟨3254,0,none⟩) 2 12,.agg #[Q3 1063,Q3 440,Q3 0,Q3 0]],[(3254,Uo)],3386,.tuple #[.agg #[Q3 1,Q3 10],.bool true],[],3391⟩
theorem xp:QS n8 (n8.drun YP Xr X6 100000)=true:=by decide+kernel
def n7:Memo:=
 ⟨88,#[.slice (some ⟨3394,0,none⟩) 2 12,.agg #[Q3 1063,Q3 440,Q3 0,Q3 0]],[(3394,Uo)],3526,.tuple #[.agg #[Q3 1,Q3 10],.bool true],[],3531⟩
theorem xo:QS n7 (n7.drun YP Xr X6 100000)=true:=by decide+kernel
def n6:Memo:=
 ⟨88,#[.slice (some ⟨3534,0,none⟩) 2 12,.agg #[Q3 1063,Q3 440,Q3 0,Q3 0]],[(3534,Uo)],3666,.tuple #[.agg #[Q3 1,Q3 10],.bool true],[],3671⟩
theorem xn:QS n6 (n6.drun YP Xr X6 100000)=true:=by decide+kernel
def n5:Memo:=
 ⟨88,#[.slice (some ⟨3674,0,none⟩) 2 12,.agg #[Q3 1063,Q3 440,Q3 0,Q3 0]],[(3674,Uo)],3806,.tuple #[.agg #[Q3 1,Q3 10],.bool true],[],3811⟩
theorem xm:QS n5 (n5.drun YP Xr X6 100000)=true:=by decide+kernel
def n4:Memo:=
 ⟨88,#[.slice (some ⟨3814,0,none⟩) 2 12,.agg #[Q3 1063,Q3 603,Q3 0,Q3 0]],[(3814,NX)],3946,.tuple #[.agg #[Q3 0,Q3 0],.bool false],[],3951⟩
theorem xl:QS n4 (n4.drun YP Xr X6 100000)=true:=by decide+kernel
def n3:Memo:=
 ⟨88,#[.slice (some ⟨3954,0,none⟩) 2 12,.agg #[Q3 1063,Q3 475,Q3 0,Q3 0]],[(3954,NW)],4086,.tuple #[.agg #[Q3 0,Q3 0],.bool false],[],4091⟩
theorem xk:QS n3 (n3.drun YP Xr X6 100000)=true:=by decide+kernel
def nz:Memo:=
 ⟨88,#[.slice (some ⟨4094,0,none⟩) 2 12,.agg #[Q3 1063,Q3 440,Q3 0,Q3 0]],[(4094,Uo)],4226,.tuple #[.agg #[Q3 1,Q3 10],.bool true],[],4231⟩
theorem xj:QS nz (nz.drun YP Xr X6 100000)=true:=by decide+kernel
def ny:Memo:=
 ⟨88,#[.slice (some ⟨4234,0,none⟩) 2 12,.agg #[Q3 1063,Q3 442,Q3 0,Q3 0]],[(4234,NV)],4366,.tuple #[.agg #[Q3 1,Q3 8],.bool true],[],4371⟩
theorem xi:QS ny (ny.drun YP Xr X6 100000)=true:=by decide+kernel
def nv:Memo:=
 ⟨88,#[.slice (some ⟨4374,0,none⟩) 2 12,.agg #[Q3 1063,Q3 458,Q3 0,Q3 0]],[(4374,NU)],4506,.tuple #[.agg #[Q3 0,Q3 0],.bool false],[],4511⟩
theorem xh:QS nv (nv.drun YP Xr X6 100000)=true:=by decide+kernel
def nu:Memo:=
 ⟨88,#[.slice (some ⟨4514,0,none⟩) 2 12,.agg #[Q3 1063,Q3 450,Q3 0,Q3 0]],[(4514,NT)],4646,.tuple #[.agg #[Q3 0,Q3 0],.bool false],[],4651⟩
theorem xg:QS nu (nu.drun YP Xr X6 100000)=true:=by decide+kernel
def nt:Memo:=
 ⟨88,#[.slice (some ⟨4654,0,none⟩) 2 12,.agg #[Q3 1063,Q3 446,Q3 0,Q3 0]],[(4654,NS)],4786,.tuple #[.agg #[Q3 1,Q3 4],.bool true],[],4791⟩
theorem xf:QS nt (nt.drun YP Xr X6 100000)=true:=by decide+kernel
end Go.Proofs.Ytncjjangllkokaa

namespace Go.Proofs.Ytncjjangllkokaa
open Go Go.CE Go.RowKit
noncomputable section
def eS:Vf:=Ze [nG]
theorem j4(B:Lo):W5 YP B eS:=Xb QG Qg (QM _ _) x9 (Zo _ _)
def nq:Memo:=
 ⟨93,#[Q3 500000,.pointer (some ⟨2130,0,none⟩),.pointer (some ⟨2131,0,none⟩)],[(2104,Uo),(2131,.cells #[Q3 1] 3 (0,0)),(2130,qB)],2132,.bool true,[],2272⟩
theorem xd:QS nq (nq.run YP Xr eS 100000)=true:=by decide+kernel
def eQ:Vf:=Ze [nF]
theorem j3(B:Lo):W5 YP B eQ:=Xb QG Qg (QM _ _) x6 (Zo _ _)
def np:Memo:=
 ⟨93,#[Q3 250000,.pointer (some ⟨2130,0,none⟩),.pointer (some ⟨2131,0,none⟩)],[(2104,Uo),(2131,.cells #[Q3 1] 3 (0,0)),(2130,qB)],2272,.bool true,[],2412⟩
theorem xc:QS np (np.run YP Xr eQ 100000)=true:=by decide+kernel
def eP:Vf:=Ze [nE]
theorem jz(B:Lo):W5 YP B eP:=Xb QG Qg (QM _ _) xz (Zo _ _)
def nn:Memo:=
 ⟨93,#[Q3 125000,.pointer (some ⟨2130,0,none⟩),.pointer (some ⟨2131,0,none⟩)],[(2104,Uo),(2131,.cells #[Q3 1] 3 (0,0)),(2130,qB)],2412,.bool true,[],2552⟩
theorem xb:QS nn (nn.run YP Xr eP 100000)=true:=by decide+kernel
def eO:Vf:=Ze [nD]
theorem jy(B:Lo):W5 YP B eO:=Xb QG Qg (QM _ _) xx (Zo _ _)
def nm:Memo:=
 ⟨93,#[Q3 62500,.pointer (some ⟨2130,0,none⟩),.pointer (some ⟨2131,0,none⟩)],[(2104,Uo),(2131,.cells #[Q3 1] 3 (0,0)),(2130,qB)],2552,.bool true,[],2692⟩
theorem xa:QS nm (nm.run YP Xr eO 100000)=true:=by decide+kernel
def eN:Vf:=Ze [nC]
theorem jx(B:Lo):W5 YP B eN:=Xb QG Qg (QM _ _) xw (Zo _ _)
def nk:Memo:=
 ⟨93,#[Q3 31250,.pointer (some ⟨2130,0,none⟩),.pointer (some ⟨2131,0,none⟩)],[(2104,Uo),(2131,.cells #[Q3 1] 3 (0,0)),(2130,qB)],2692,.bool true,[],2832⟩
theorem wZ:QS nk (nk.run YP Xr eN 100000)=true:=by decide+kernel
def eM:Vf:=Ze [nB]
theorem jv(B:Lo):W5 YP B eM:=Xb QG Qg (QM _ _) xu (Zo _ _)
def nj:Memo:=
 ⟨93,#[Q3 15625,.pointer (some ⟨2130,0,none⟩),.pointer (some ⟨2131,0,none⟩)],[(2104,Uo),(2131,.cells #[Q3 1] 3 (0,0)),(2130,qB)],2832,.bool true,[],2972⟩
theorem wY:QS nj (nj.run YP Xr eM 100000)=true:=by decide+kernel
def eK:Vf:=Ze [nA]
theorem ju(B:Lo):W5 YP B eK:=Xb QG Qg (QM _ _) xt (Zo _ _)
def ni:Memo:=
 ⟨93,#[Q3 7812,.pointer (some ⟨2130,0,none⟩),.pointer (some ⟨2131,0,none⟩)],[(2104,Uo),(2131,.cells #[Q3 1] 3 (0,0)),(2130,qB)],2972,.bool true,[],3112⟩
theorem wX:QS ni (ni.run YP Xr eK 100000)=true:=by decide+kernel
def eJ:Vf:=Ze [n9]
theorem jt(B:Lo):W5 YP B eJ:=Xb QG Qg (QM _ _) xq (Zo _ _)
def nh:Memo:=
 ⟨93,#[Q3 3906,.pointer (some ⟨2130,0,none⟩),.pointer (some ⟨2131,0,none⟩)],[(2104,Uo),(2131,.cells #[Q3 1] 3 (0,0)),(2130,qB)],3112,.bool true,[],3252⟩
theorem wW:QS nh (nh.run YP Xr eJ 100000)=true:=by decide+kernel
def eI:Vf:=Ze [n8]
theorem js(B:Lo):W5 YP B eI:=Xb QG Qg (QM _ _) xp (Zo _ _)
def ng:Memo:=
 ⟨93,#[Q3 1953,.pointer (some ⟨2130,0,none⟩),.pointer (some ⟨2131,0,none⟩)],[(2104,Uo),(2131,.cells #[Q3 1] 3 (0,0)),(2130,qB)],3252,.bool true,[],3392⟩
theorem wV:QS ng (ng.run YP Xr eI 100000)=true:=by decide+kernel
def eH:Vf:=Ze [n7]
theorem jr(B:Lo):W5 YP B eH:=Xb QG Qg (QM _ _) xo (Zo _ _)
def nf:Memo:=
 ⟨93,#[Q3 976,.pointer (some ⟨2130,0,none⟩),.pointer (some ⟨2131,0,none⟩)],[(2104,Uo),(2131,.cells #[Q3 1] 3 (0,0)),(2130,qB)],3392,.bool true,[],3532⟩
theorem wU:QS nf (nf.run YP Xr eH 100000)=true:=by decide+kernel
def eG:Vf:=Ze [n6]
theorem jq(B:Lo):W5 YP B eG:=Xb QG Qg (QM _ _) xn (Zo _ _)
def nc:Memo:=
 ⟨93,#[Q3 488,.pointer (some ⟨2130,0,none⟩),.pointer (some ⟨2131,0,none⟩)],[(2104,Uo),(2131,.cells #[Q3 1] 3 (0,0)),(2130,qB)],3532,.bool true,[],3672⟩
theorem wT:QS nc (nc.run YP Xr eG 100000)=true:=by decide+kernel
def eF:Vf:=Ze [n5]
theorem jo(B:Lo):W5 YP B eF:=Xb QG Qg (QM _ _) xm (Zo _ _)
def nb:Memo:=
 ⟨93,#[Q3 244,.pointer (some ⟨2130,0,none⟩),.pointer (some ⟨2131,0,none⟩)],[(2104,Uo),(2131,.cells #[Q3 1] 3 (0,0)),(2130,qB)],3672,.bool true,[],3812⟩
theorem wS:QS nb (nb.run YP Xr eF 100000)=true:=by decide+kernel
def eE:Vf:=Ze [n4]
theorem jn(B:Lo):W5 YP B eE:=Xb QG Qg (QM _ _) xl (Zo _ _)
def na:Memo:=
 ⟨93,#[Q3 122,.pointer (some ⟨2130,0,none⟩),.pointer (some ⟨2131,0,none⟩)],[(2104,Uo),(2131,.cells #[Q3 1] 3 (0,0)),(2130,qB)],3812,.bool false,[],3952⟩
theorem wR:QS na (na.run YP Xr eE 100000)=true:=by decide+kernel
def eD:Vf:=Ze [n3]
theorem jl(B:Lo):W5 YP B eD:=Xb QG Qg (QM _ _) xk (Zo _ _)
def mZ:Memo:=
 ⟨93,#[Q3 183,.pointer (some ⟨2130,0,none⟩),.pointer (some ⟨2131,0,none⟩)],[(2104,Uo),(2131,.cells #[Q3 1] 3 (0,0)),(2130,qB)],3952,.bool false,[],4092⟩
theorem wQ:QS mZ (mZ.run YP Xr eD 100000)=true:=by decide+kernel
end
end Go.Proofs.Ytncjjangllkokaa

namespace Go.Proofs.Ytncjjangllkokaa
open Go Go.CE Go.RowKit
def nr:Memo:=
 ⟨88,#[.slice (some ⟨4794,0,none⟩) 2 12,.agg #[Q3 1063,Q3 448,Q3 0,Q3 0]],[(4794,NQ)],4926,.tuple #[.agg #[Q3 1,Q3 2],.bool true],[],4931⟩
theorem xe:QS nr (nr.drun YP Xr X6 100000)=true:=by decide+kernel
end Go.Proofs.Ytncjjangllkokaa

namespace Go.Proofs.Ytncjjangllkokaa
open Go Go.CE Go.RowKit
noncomputable section
def eC:Vf:=Ze [nz]
theorem jk(B:Lo):W5 YP B eC:=Xb QG Qg (QM _ _) xj (Zo _ _)
def mY:Memo:=
 ⟨93,#[Q3 214,.pointer (some ⟨2130,0,none⟩),.pointer (some ⟨2131,0,none⟩)],[(2104,Uo),(2131,.cells #[Q3 1] 3 (0,0)),(2130,qB)],4092,.bool true,[],4232⟩
theorem wP:QS mY (mY.run YP Xr eC 100000)=true:=by decide+kernel
def eB:Vf:=Ze [ny]
theorem jj(B:Lo):W5 YP B eB:=Xb QG Qg (QM _ _) xi (Zo _ _)
def mX:Memo:=
 ⟨93,#[Q3 199,.pointer (some ⟨2130,0,none⟩),.pointer (some ⟨2131,0,none⟩)],[(2104,Uo),(2131,.cells #[Q3 1] 3 (0,0)),(2130,qB)],4232,.bool true,[],4372⟩
theorem wO:QS mX (mX.run YP Xr eB 100000)=true:=by decide+kernel
def eA:Vf:=Ze [nv]
theorem ji(B:Lo):W5 YP B eA:=Xb QG Qg (QM _ _) xh (Zo _ _)
def mW:Memo:=
 ⟨93,#[Q3 191,.pointer (some ⟨2130,0,none⟩),.pointer (some ⟨2131,0,none⟩)],[(2104,Uo),(2131,.cells #[Q3 1] 3 (0,0)),(2130,qB)],4372,.bool false,[],4512⟩
theorem wN:QS mW (mW.run YP Xr eA 100000)=true:=by decide+kernel
def ew:Vf:=Ze [nu]
theorem jh(B:Lo):W5 YP B ew:=Xb QG Qg (QM _ _) xg (Zo _ _)
def mV:Memo:=
 ⟨93,#[Q3 195,.pointer (some ⟨2130,0,none⟩),.pointer (some ⟨2131,0,none⟩)],[(2104,Uo),(2131,.cells #[Q3 1] 3 (0,0)),(2130,qB)],4512,.bool false,[],4652⟩
theorem wM:QS mV (mV.run YP Xr ew 100000)=true:=by decide+kernel
def eu:Vf:=Ze [nt]
theorem jg(B:Lo):W5 YP B eu:=Xb QG Qg (QM _ _) xf (Zo _ _)
def mU:Memo:=
 ⟨93,#[Q3 197,.pointer (some ⟨2130,0,none⟩),.pointer (some ⟨2131,0,none⟩)],[(2104,Uo),(2131,.cells #[Q3 1] 3 (0,0)),(2130,qB)],4652,.bool true,[],4792⟩
theorem wL:QS mU (mU.run YP Xr eu 100000)=true:=by decide+kernel
def ep:Vf:=Ze [nr]
theorem jf(B:Lo):W5 YP B ep:=Xb QG Qg (QM _ _) xe (Zo _ _)
def mT:Memo:=
 ⟨93,#[Q3 196,.pointer (some ⟨2130,0,none⟩),.pointer (some ⟨2131,0,none⟩)],[(2104,Uo),(2131,.cells #[Q3 1] 3 (0,0)),(2130,qB)],4792,.bool true,[],4932⟩
theorem wK:QS mT (mT.run YP Xr ep 100000)=true:=by decide+kernel
end
end Go.Proofs.Ytncjjangllkokaa

namespace Go.Proofs.Ytncjjangllkokaa
open Go Go.CE Go.RowKit
noncomputable def eT:Vf:=Ze [nq,np,nn,nm,nk,nj,ni,nh,ng,nf,nc,nb,na,mZ,mY,mX,mW,mV,mU,mT]
theorem j5(B:Lo):W5 YP B eT:=QX QG Qg (j4 _) xd (QX QG Qg (j3 _) xc (QX QG Qg (jz _) xb (QX QG Qg (jy _) xa (QX QG Qg (jx _) wZ (QX QG Qg (jv _) wY (QX QG Qg (ju _) wX (QX QG Qg (jt _) wW (QX QG Qg (js _) wV (QX QG Qg (jr _) wU (QX QG Qg (jq _) wT (QX QG Qg (jo _) wS (QX QG Qg (jn _) wR (QX QG Qg (jl _) wQ (QX QG Qg (jk _) wP (QX QG Qg (jj _) wO (QX QG Qg (ji _) wN (QX QG Qg (jh _) wM (QX QG Qg (jg _) wL (QX QG Qg (jf _) wK (Zo _ _))))))))))))))))))))
def nS:Memo:=
 ⟨43,#[.agg #[.slice (some ⟨2104,0,none⟩) 2 12,Q3 200,Q3 2],.slice (some ⟨2105,0,none⟩) 2 1,Q3 1],[(2105,.cells #[Q3 1,Q3 1] 3 (0,0)),(2104,Uo)],2106,.tuple #[Q3 195,Q3 0],[],4932⟩
theorem xL:QS nS (nS.run YP Xr eT 100000)=true:=by decide+kernel
end Go.Proofs.Ytncjjangllkokaa

namespace Go.Proofs.Ytncjjangllkokaa
open Go Go.CE Go.RowKit
noncomputable def GQ:Vf:=Ze [Aq,se,sd,sb,nS]
theorem DH(B:Lo):W5 YP B GQ:=QX QG Qg (QM _ _) DM (QX QG Qg (QM _ _) Ar (QX QG Qg (m8 _) Ap (QX QG Qg (m7 _) Ao (QX QG Qg (j5 _) xL (Zo _ _)))))
theorem Ek:B2 (o3 YP Xr GQ 100000 16 #[] (RV 0 []) ([]:List (Array Value×TypeId)).length) (.bool true) []=true:=by decide+kernel
theorem Ax(w:World):Calls YP 16 #[] w fun e w'=>e=.returned (.bool true)/\Below w.heap.size w w':=by
 have hc:=Ex QG Qg (at':=[]) (args':=#[]) Ek (w:=w) (I:=fun _=>True) (hI:=fun _ _ _ _=>trivial) (DH _) trivial rfl (fun i x a h=>by simp at h) ⟨rfl,fun i v v' h=>by simp at h⟩;intro cs;obtain⟨e,w',fr,⟨v',n',H',μ',he,hp,hv,hb,hun,hbel⟩,h1,h2,h3⟩:=hc cs;exact⟨e,w',fr,⟨by rw[he,SU rfl hv],hbel⟩,h1,h2,h3⟩
theorem known:Q0 YP J0 16 #[] (.bool true):=fun fm w args' _ _ ha=>by
 have e:args'=#[]:=by exact OM ha.1.symm
 subst e;exact(Ax w).mono fun _ _ h=>⟨_,h.1,h.2,.simple rfl⟩
end Go.Proofs.Ytncjjangllkokaa

namespace Go.Proofs.Ytncjjangllkokaa
open Go Go.CE Go.RowKit
noncomputable section
set_option maxRecDepth 100000
theorem Zm{rf:Qi}{Qa:List Int}(hr:Zd rf=true)(hp:QV rf Qa=true):∀j:Nat,0<=Qa.getD j NZ/\Qa.getD j NZ<=1000000:=fun j=>by
 have h:=VP hr hp j;show 0<=Qa.getD j 0/\Qa.getD j 0<=1000000;omega
def sizedB(t:Qv):Bool:=(decide (t.Qe.length<=8) && (decide (t.Qj.length<=8) && decide (t.Ql.length<=8))) && ((t.Qj.all fun l=>decide (l.length<=8)) && t.Ql.all fun l=>decide (l.length<=8))
def PA(t:Qv)(i:Int):List Value:=[pA 2 0,.int .i64 i]
def Ue(t:Qv)(i:Int):List Obj:=[Obj.cells #[Q2 1 (QI t.Qe.length (Qh QR t.Qe)),Q2 1 (QI t.Qj.length (Qh X1 t.Qj)),Q2 1 (QI t.Ql.length (Qh X1 t.Ql))] 42]
def PC:List Item:=([.code [1,1,0,1,0,0],.inLoop [1,1,0,1,0,0],.inBlock 0,.code [1,1,1]]).map (it (QP YP 25))
def DZ(B:Lo)(c0:CF)(t:Qv)(i:Int):Prop:=∃dJ:Nat->Value,(∀t,Xy (dJ t))/\GoE YP B c0 Zf 1 (QK 25 49 (([1,3]:List Nat).zip (PA t i)) dJ PC) (QH (Ue t i)) (2+(Ue t i).length) []
def P9(t:Qv)(i:Int):List Value:=[pA 2 0,.int .i64 i]
def Ud(t:Qv)(i:Int):List Obj:=[Obj.cells #[Q2 1 (QI t.Qe.length (Qh QR t.Qe)),Q2 1 (QI t.Qj.length (Qh X1 t.Qj)),Q2 1 (QI t.Ql.length (Qh X1 t.Ql))] 42]
def PB:List Item:=([.code [1,1,1,0,1,0,0],.inLoop [1,1,1,0,1,0,0],.inBlock 2,.code [1,1,1,1]]).map (it (QP YP 25))
def DY(B:Lo)(c0:CF)(t:Qv)(i:Int):Prop:=∃dJ:Nat->Value,(∀t,Xy (dJ t))/\GoE YP B c0 Zf 1 (QK 25 49 (([1,4]:List Nat).zip (P9 t i)) dJ PB) (QH (Ud t i)) (2+(Ud t i).length) []
def g9(B:Lo)(t:Qv)(i:Int)(Qs:Nat->Value):List Prop:=let a:=t.Qj;let b:=a.getD i.toNat NZ;[i=(↑i.toNat:Int)/\Oa i<Oc a/\Oy (Qh X1 a) (Oa i*TypeInfo.size Try.t25) (Oa i*TypeInfo.size Try.t25+TypeInfo.size Try.t25)=#[QI b.length (Qh QR b)],XS i (↑a.length:Int)=true]++([]:List Prop)
def qp(t:Qv)(i:Int)(Qs:Nat->Value):QD:=[(4,ZF),(8,Qk.tidx i.toNat #[QI (Oc (t.Qj.getD i.toNat NZ)) (Qh QR (t.Qj.getD i.toNat NZ))])]
theorem DW(B:Lo)(t:Qv)(i:Int)(Qs:Nat->Value):QW (Qu YP (Q9 YP) J0 B 14 1 (QK 25 49 (([1,3]:List Nat).zip (PA t i)) Qs PC) (QH (Ue t i)) (2+(Ue t i).length)
 (qp t i Qs++[(11,ZF)]) 0 [] []) []=some (.bool false,
 [XS 8 (↑(Oc (t.Qj.getD i.toNat NZ)):Int)=true]++g9 B t i Qs):=by kernel_rfl
theorem DV(B:Lo)(t:Qv)(i:Int)(Qs:Nat->Value):landM (Qu YP (Q9 YP) J0 B 14 1 (QK 25 49 (([1,3]:List Nat).zip (PA t i)) Qs PC) (QH (Ue t i)) (2+(Ue t i).length)
 (qp t i Qs++[(11,Wm),(13,WV (i+1))]) 0 [] []) [1,3] [(2,KS.auto)] []=some ⟨25,49,PC,[],.run,none,PA t (i+1),Ue t (i+1),
 [wq (i+1)=i+1,XS 8 (↑(Oc (t.Qj.getD i.toNat NZ)):Int)=false]++g9 B t i Qs⟩:=by kernel_rfl
theorem DU(B:Lo)(t:Qv)(i:Int)(Qs:Nat->Value):landM (Qu YP (Q9 YP) J0 B 10 1 (QK 25 49 (([1,3]:List Nat).zip (PA t i)) Qs PC) (QH (Ue t i)) (2+(Ue t i).length)
 [(4,Wm)] 0 [] []) [1,4] [(2,KS.auto)] []=some ⟨25,49,PB,[],.run,none,P9 t (0),Ud t (0),
 [XS i (↑t.Qj.length:Int)=false]⟩:=by kernel_rfl
def g8(B:Lo)(t:Qv)(i:Int)(Qs:Nat->Value):List Prop:=let a:=t.Ql;let b:=a.getD i.toNat NZ;[i=(↑i.toNat:Int)/\Oa i<Oc a/\Oy (Qh X1 a) (Oa i*TypeInfo.size Try.t25) (Oa i*TypeInfo.size Try.t25+TypeInfo.size Try.t25)=#[QI b.length (Qh QR b)],XS i (↑a.length:Int)=true]++([]:List Prop)
def qo(t:Qv)(i:Int)(Qs:Nat->Value):QD:=[(4,ZF),(8,Qk.tidx i.toNat #[QI (Oc (t.Ql.getD i.toNat NZ)) (Qh QR (t.Ql.getD i.toNat NZ))])]
theorem DT(B:Lo)(t:Qv)(i:Int)(Qs:Nat->Value):QW (Qu YP (Q9 YP) J0 B 14 1 (QK 25 49 (([1,4]:List Nat).zip (P9 t i)) Qs PB) (QH (Ud t i)) (2+(Ud t i).length)
 (qo t i Qs++[(11,ZF)]) 0 [] []) []=some (.bool false,
 [XS 8 (↑(Oc (t.Ql.getD i.toNat NZ)):Int)=true]++g8 B t i Qs):=by kernel_rfl
theorem DS(B:Lo)(t:Qv)(i:Int)(Qs:Nat->Value):landM (Qu YP (Q9 YP) J0 B 14 1 (QK 25 49 (([1,4]:List Nat).zip (P9 t i)) Qs PB) (QH (Ud t i)) (2+(Ud t i).length)
 (qo t i Qs++[(11,Wm),(13,WV (i+1))]) 0 [] []) [1,4] [(2,KS.auto)] []=some ⟨25,49,PB,[],.run,none,P9 t (i+1),Ud t (i+1),
 [wq (i+1)=i+1,XS 8 (↑(Oc (t.Ql.getD i.toNat NZ)):Int)=false]++g8 B t i Qs⟩:=by kernel_rfl
theorem DR(B:Lo)(t:Qv)(i:Int)(Qs:Nat->Value):QW (Qu YP (Q9 YP) J0 B 9 1 (QK 25 49 (([1,4]:List Nat).zip (P9 t i)) Qs PB) (QH (Ud t i)) (2+(Ud t i).length)
 [(4,Wm)] 0 [] []) []=some (.bool true,
 [XS i (↑t.Ql.length:Int)=false]):=by kernel_rfl
theorem DQ(B:Lo)(t:Qv):QW (Qu YP (Q9 YP) J0 B 10 1 (Qx YP 25 49 (([.agg #[XI t.Qe,Zp t.Qj,Zp t.Ql]]).map (Q8 0 4))) Zf 1
 [(5,ZF)] 0 [] []) []=some (.bool false,
 [XS 8 (↑t.Qe.length:Int)=true]):=by kernel_rfl
def gz(B:Lo)(t:Qv):List Prop:=[XS 8 (↑t.Qe.length:Int)=false]++([]:List Prop)
def qn(t:Qv):QD:=[(5,Wm)]
theorem DP(B:Lo)(t:Qv):QW (Qu YP (Q9 YP) J0 B 10 1 (Qx YP 25 49 (([.agg #[XI t.Qe,Zp t.Qj,Zp t.Ql]]).map (Q8 0 4))) Zf 1
 (qn t++[(10,ZF)]) 0 [] []) []=some (.bool false,
 [XS 8 (↑t.Qj.length:Int)=true]++gz B t):=by kernel_rfl
def gy(B:Lo)(t:Qv):List Prop:=[XS 8 (↑t.Qj.length:Int)=false]++gz B t
def qm(t:Qv):QD:=qn t++[(10,Wm)]
theorem DO(B:Lo)(t:Qv):QW (Qu YP (Q9 YP) J0 B 10 1 (Qx YP 25 49 (([.agg #[XI t.Qe,Zp t.Qj,Zp t.Ql]]).map (Q8 0 4))) Zf 1
 (qm t++[(16,ZF)]) 0 [] []) []=some (.bool false,
 [XS 8 (↑t.Ql.length:Int)=true]++gy B t):=by kernel_rfl
theorem DN(B:Lo)(t:Qv):landM (Qu YP (Q9 YP) J0 B 12 1 (Qx YP 25 49 (([.agg #[XI t.Qe,Zp t.Qj,Zp t.Ql]]).map (Q8 0 4))) Zf 1
 (qm t++[(16,Wm)]) 0 [] []) [1,3] [(1,KS.auto)] []=some ⟨25,49,PC,[],.run,none,PA t (0),Ue t (0),
 [XS 8 (↑t.Ql.length:Int)=false]++gy B t⟩:=by kernel_rfl
set_option maxHeartbeats 4000000 in
theorem DX(t:Qv)  (X8:t.Qe.length<=9223372036854775807/\t.Qj.length<=9223372036854775807/\t.Ql.length<=9223372036854775807){B:Lo}(hJ:∀w,B.has w->J0 w){c0:CF}:∀m:Nat,(∀(i:Int),(t.Qj.length-i.toNat)+1000=m->∀(h0:0<=i) (h8:t.Qe.length<=8/\t.Qj.length<=8/\t.Ql.length<=8),DZ B c0 t i->EndsT YP B c0 (.bool ((t.Qj.drop i.toNat).all (fun l=>decide (l.length<=8)) && t.Ql.all fun l=>decide (l.length<=8))))/\(∀(i:Int),(t.Ql.length-i.toNat)=m->∀(h0:0<=i) (h8:t.Qe.length<=8/\t.Qj.length<=8/\t.Ql.length<=8),DY B c0 t i->EndsT YP B c0 (.bool ((t.Ql.drop i.toNat).all (fun l=>decide (l.length<=8))))):=by
 intro m0;induction m0 using Ox with
 |_ m0 ih0=>
  refine⟨?_, ?_⟩
  ·intro i JP h0 h8 ⟨Qs,ZV,XF⟩;by_cases q0:(i:Int)<((↑t.Qj.length:Int))
   ·have V5:Q6 (g9 B t i Qs):=by
     have s2:=Kl (l:=t.Qj) (p:=fun l=>decide (l.length<=8)) h0 q0;exact⟨⟨by omega,by omega,(QB (z:=1) (fun _=>rfl) (by omega))⟩,⟨(XC q0),trivial⟩⟩
    by_cases q1:(8:Int)<((↑(Oc (t.Qj.getD i.toNat NZ)):Int))
    ·have s2:=Kl (l:=t.Qj) (p:=fun l=>decide (l.length<=8)) h0 q0;exact(GoE.endsT okF hJ Qg XF (DW B t i Qs)
      ⟨(XC q1),V5⟩).cast (by(rw[s2,decide_eq_false (by omega)];rfl))
    ·have s2:=Kl (l:=t.Qj) (p:=fun l=>decide (l.length<=8)) h0 q0;exact((ih0 _ (by omega)).1 (i+1) rfl (by omega) (by with_reducible assumption)
      (XF.landM okF hJ Qg (DV B t i Qs)
      ⟨(Xq (by omega) (by omega)),⟨(XO (Int.not_lt.1 q1)),V5⟩⟩ (by kernel_rfl) (by kernel_rfl))).cast (by(rw[s2,decide_eq_true (by omega),Bool.true_and];done))
   ·have s2:=bT (l:=t.Qj) (p:=fun l=>decide (l.length<=8)) (i:=i) (by omega);exact((ih0 _ (by omega)).2 (0) rfl (by omega) (by with_reducible assumption)
     (XF.landM okF hJ Qg (DU B t i Qs)
     ⟨(XO (Int.not_lt.1 q0)),trivial⟩ (by kernel_rfl) (by kernel_rfl))).cast (by(rw[s2];simp[*];done))
  ·intro i JP h0 h8 ⟨Qs,ZV,XF⟩;by_cases q0:(i:Int)<((↑t.Ql.length:Int))
   ·have Kj:Q6 (g8 B t i Qs):=by
     have s2:=Kl (l:=t.Ql) (p:=fun l=>decide (l.length<=8)) h0 q0;exact⟨⟨by omega,by omega,(QB (z:=1) (fun _=>rfl) (by omega))⟩,⟨(XC q0),trivial⟩⟩
    by_cases q1:(8:Int)<((↑(Oc (t.Ql.getD i.toNat NZ)):Int))
    ·have s2:=Kl (l:=t.Ql) (p:=fun l=>decide (l.length<=8)) h0 q0;exact(GoE.endsT okF hJ Qg XF (DT B t i Qs)
      ⟨(XC q1),Kj⟩).cast (by(rw[s2,decide_eq_false (by omega)];rfl))
    ·have s2:=Kl (l:=t.Ql) (p:=fun l=>decide (l.length<=8)) h0 q0;exact((ih0 _ (by omega)).2 (i+1) rfl (by omega) (by with_reducible assumption)
      (XF.landM okF hJ Qg (DS B t i Qs)
      ⟨(Xq (by omega) (by omega)),⟨(XO (Int.not_lt.1 q1)),Kj⟩⟩ (by kernel_rfl) (by kernel_rfl))).cast (by(rw[s2,decide_eq_true (by omega),Bool.true_and];done))
   ·have s2:=bT (l:=t.Ql) (p:=fun l=>decide (l.length<=8)) (i:=i) (by omega);exact(GoE.endsT okF hJ Qg XF (DR B t i Qs)
     ⟨(XO (Int.not_lt.1 q0)),trivial⟩).cast (by(rw[s2];done))
set_option maxHeartbeats 4000000 in
theorem GZ(t:Qv)  (X8:t.Qe.length<=9223372036854775807/\t.Qj.length<=9223372036854775807/\t.Ql.length<=9223372036854775807){B:Lo}(hJ:∀w,B.has w->J0 w):EndsT YP B (Qx YP 25 49 (([.agg #[XI t.Qe,Zp t.Qj,Zp t.Ql]]).map (Q8 0 4))) (.bool (sizedB t)):=by
 by_cases q0:(8:Int)<((↑t.Qe.length:Int))
 ·exact(GoE.endsT okF hJ Qg GoE.start (DQ B t)
   ⟨(XC q0),trivial⟩).cast (by(simp_all[sizedB];omega))
 ·have Ph:Q6 (gz B t):=by
   exact⟨(XO (Int.not_lt.1 q0)),trivial⟩
  by_cases q1:(8:Int)<((↑t.Qj.length:Int))
  ·exact(GoE.endsT okF hJ Qg GoE.start (DP B t)
    ⟨(XC q1),Ph⟩).cast (by(simp_all[sizedB];omega))
  ·have hp3:Q6 (gy B t):=by
    exact⟨(XO (Int.not_lt.1 q1)),Ph⟩
   by_cases q2:(8:Int)<((↑t.Ql.length:Int))
   ·exact(GoE.endsT okF hJ Qg GoE.start (DO B t)
     ⟨(XC q2),hp3⟩).cast (by(simp_all[sizedB];omega))
   ·exact((DX t X8 hJ _).1 (0) rfl (by omega) (by omega)
     (GoE.start.landM okF hJ Qg (DN B t)
     ⟨(XO (Int.not_lt.1 q2)),hp3⟩ (by kernel_rfl) (by kernel_rfl))).cast (by(simp_all[sizedB];omega))
theorem nT(t:Qv)  :Q0 YP J0 25 #[.agg #[XI t.Qe,Zp t.Qj,Zp t.Ql]] (.bool (sizedB t)):=
 Vj (ts:=[.agg #[XI t.Qe,Zp t.Qj,Zp t.Ql]]) (t.Qe.length<=9223372036854775807/\t.Qj.length<=9223372036854775807/\t.Ql.length<=9223372036854775807) (fun _ _ ht=>⟨ht.ln2 (i:=0) (j:=0) rfl rfl,ht.ln2 (i:=0) (j:=1) rfl rfl,ht.ln2 (i:=0) (j:=2) rfl rfl⟩) Zh (c0:=Qx YP 25 49 (([.agg #[XI t.Qe,Zp t.Qj,Zp t.Ql]]).map (Q8 0 4))) (by kernel_rfl) (by kernel_rfl) fun X8 B hJ=>GZ t  X8 hJ
end
end Go.Proofs.Ytncjjangllkokaa

namespace Go.Proofs.Ytncjjangllkokaa
open Go Go.CE Go.RowKit
def qO:Sh:=N3 [.int,.int]
def Bh:Sh:=N3 [.int,.int,qO,.int,.int,qO,qO,.int,.int]
def kM:Sh:=N3 [.slice Bh,.int,.int]
def dA:Sh:=N3 [.slice .int,.slice (.slice .int),.slice (.slice .int)]
theorem ov{cs:List Value}(h:qO.ok cs):∃s:Span,cs=Qo s:=by
 obtain⟨_,_,rfl,⟨a,_,rfl⟩,_,_,rfl,⟨b,_,rfl⟩,rfl⟩:=h;exact⟨⟨a,b⟩,rfl⟩
theorem Ev{cs:List Value}(h:Bh.ok cs):∃s:Qf,cs=Qm s:=by
 obtain⟨_,_,rfl,⟨a,_,rfl⟩,_,_,rfl,⟨b,_,rfl⟩,_,_,rfl,h3,_,_,rfl,⟨d,_,rfl⟩,_,_,rfl,⟨e,_,rfl⟩,_,_,rfl,h6,_,_,rfl,h7,_,_,rfl,⟨g,_,rfl⟩,_,_,rfl,⟨w,_,rfl⟩,rfl⟩:=h;obtain⟨x,rfl⟩:=ov h3;obtain⟨y,rfl⟩:=ov h6;obtain⟨z,rfl⟩:=ov h7;exact⟨⟨a,b,x.lo,x.hi,d,e,y.lo,y.hi,z.lo,z.hi,g,w⟩,rfl⟩
theorem HP{v:Value}(h:kM.arg v):∃r:Qi,v=.agg (Q5 r).toArray:=by
 obtain⟨cs,rfl,h⟩:=h;obtain⟨_,_,rfl,h1,_,_,rfl,⟨m,_,rfl⟩,_,_,rfl,⟨n,_,rfl⟩,rfl⟩:=h;obtain⟨xs,rfl⟩:=dz (fun _=>Ev) h1;exact⟨⟨xs,m,n⟩,rfl⟩
theorem fi{cs:List Value}(h:Sh.ok (.slice .int) cs):∃xs:List Int,cs=X1 xs:=dz (fun _=>LP) h
theorem HQ{v:Value}(h:Sh.arg (.slice .int) v):∃xs:List Int,v=XI xs:=by
 obtain⟨xs,hx⟩:=fi (show Sh.ok (.slice .int) [v]from h);exact⟨xs,by simpa using hx⟩
theorem E6{v:Value}(h:dA.arg v):∃t:Qv,v=.agg #[XI t.Qe,Zp t.Qj,Zp t.Ql]:=by
 obtain⟨cs,rfl,h⟩:=h;obtain⟨_,_,rfl,h1,_,_,rfl,h2,_,_,rfl,h3,rfl⟩:=h;obtain⟨xs,rfl⟩:=fi h1;obtain⟨ys,rfl⟩:=dz (fun _=>fi) h2;obtain⟨zs,rfl⟩:=dz (fun _=>fi) h3;exact⟨⟨xs,ys,zs⟩,rfl⟩
theorem Lp{v:Value}(h:Sh.arg .int v):∃z:Int,v=.int .i64 z:=by
 obtain⟨z,_,h⟩:=h;exact⟨z,by simpa using h⟩
end Go.Proofs.Ytncjjangllkokaa

