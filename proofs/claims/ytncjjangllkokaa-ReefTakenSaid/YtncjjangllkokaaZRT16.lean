/- Reef: truths. -/
import Derived.Test.YtncjjangllkokaaZRT15
import Derived.Test.YtncjjangllkokaaZRT07
import Derived.Test.YtncjjangllkokaaZRT11
import Derived.Test.YtncjjangllkokaaZRT10
set_option linter.all false
namespace Go.Proofs.Ytncjjangllkokaa
open Go Go.CE Go.RowKit
noncomputable section
set_option maxRecDepth 100000
def bW(xs:List Int)(ss:List Span)(i:Int):Bool:=(Sv i xs.length).all fun k=>WQ (xs.getD k.toNat default) (ss.getD k.toNat default).lo (ss.getD k.toNat default).hi
def Pk(xs:List Int)(ss:List Span):Bool:=decide (xs.length=ss.length) && bW xs ss 0
theorem XH{xs:List Int}{ss:List Span}{i:Int}(h:i<xs.length):bW xs ss i=(WQ (xs.getD i.toNat default) (ss.getD i.toNat default).lo (ss.getD i.toNat default).hi && bW xs ss (i+1)):=by
 unfold bW;rw[jV h,List.all_cons]
theorem bV{xs:List Int}{ss:List Span}{i:Int}(h:xs.length<=i):bW xs ss i=true:=by
 unfold bW;rw[jc h];rfl
def k8(rf:Qe)(Qa:List Int)(gs ts:List (List Int))(s:Int):Bool:=Pk (gs.getD s.toNat default) (rf.Qb.map Xl) && Pk (ts.getD s.toNat default) (Xk rf.Qb (Qa.getD s.toNat 0))
def Ss(rf:Qe)(Qa:List Int)(gs ts:List (List Int))(i:Int):Bool:=(Sv i rf.seasons).all fun s=>k8 rf Qa gs ts s
theorem V0{rf:Qe}{Qa:List Int}{gs ts:List (List Int)}{i:Int}(h:i<rf.seasons):Ss rf Qa gs ts i=(k8 rf Qa gs ts i && Ss rf Qa gs ts (i+1)):=by
 unfold Ss;rw[jV h,List.all_cons]
theorem tS{rf:Qe}{Qa:List Int}{gs ts:List (List Int)}{i:Int}(h:rf.seasons<=i):Ss rf Qa gs ts i=true:=by
 unfold Ss;rw[jc h];rfl
def Xz(rf:Qe)(Qa:List Int)(t:Ql):Bool:=Pk t.Qc (rf.Qb.map (Xw rf.miss)) && (decide ((t.Qi.length:Int)=rf.seasons) && (decide ((t.Qj.length:Int)=rf.seasons) && Ss rf Qa t.Qi t.Qj 0))
theorem Ez{rf:Qe}{Qa:List Int}{gs ts:List (List Int)}{s:Int}(h:¬(gs.getD s.toNat default).length=rf.Qb.length\/¬(ts.getD s.toNat default).length=rf.Qb.length):k8 rf Qa gs ts s=false:=by
 unfold k8 Pk;rw[List.length_map,show(Xk rf.Qb (Qa.getD s.toNat 0)).length=rf.Qb.length by rw[Xk,Zo];omega];rcases h with h|h
 ·rw[decide_eq_false h];rfl
 ·rw[decide_eq_false h,Bool.false_and,Bool.and_false]
theorem Iz{rf:Qe}{Qa:List Int}{gs ts:List (List Int)}{s:Int}(h1:(gs.getD s.toNat default).length=rf.Qb.length)(h2:(ts.getD s.toNat default).length=rf.Qb.length):k8 rf Qa gs ts s=(bW (gs.getD s.toNat default) (rf.Qb.map Xl) 0 && bW (ts.getD s.toNat default) (Xk rf.Qb (Qa.getD s.toNat default)) 0):=by
 unfold k8 Pk;rw[List.length_map,show(Xk rf.Qb (Qa.getD s.toNat 0)).length=rf.Qb.length by rw[Xk,Zo];omega,decide_eq_true h1,decide_eq_true h2,Bool.true_and,Bool.true_and];rfl
theorem jX{rf:Qe}{Qa:List Int}{t:Ql}(h:¬t.Qc.length=rf.Qb.length\/¬(t.Qi.length:Int)=rf.seasons\/¬(t.Qj.length:Int)=rf.seasons):Xz rf Qa t=false:=by
 unfold Xz Pk;rw[List.length_map];rcases h with h|h|h
 ·rw[decide_eq_false h];rfl
 ·rw[decide_eq_false h,Bool.false_and,Bool.and_false]
 ·rw[decide_eq_false h,Bool.false_and,Bool.and_false,Bool.and_false]
theorem BL{rf:Qe}{Qa:List Int}{t:Ql}(h1:t.Qc.length=rf.Qb.length)(h2:(t.Qi.length:Int)=rf.seasons)(h3:(t.Qj.length:Int)=rf.seasons):Xz rf Qa t=(bW t.Qc (rf.Qb.map (Xw rf.miss)) 0 && Ss rf Qa t.Qi t.Qj 0):=by
 unfold Xz Pk;rw[List.length_map,decide_eq_true h1,decide_eq_true h2,decide_eq_true h3,Bool.true_and,Bool.true_and,Bool.true_and]
theorem Zy{ps:List Qd}{f:Qd->Span}{i:Int}(h0:0<=i)(h:i<ps.length):(ps.map f).getD i.toNat default=f (ps.getD i.toNat default):=by
 have hk:i.toNat<ps.length:=by omega
 simp[List.getD_eq_getElem?_getD,hk]
def Kc(xs:List Int)(ss:List Span)(i:Int):List Value:=[Qt 1 (QE ss.length (Qg Xg ss)),Qt 1 (QE xs.length (Qg Q9 xs)),.int .i64 (↑xs.length:Int),.int .i64 i]
def Wq(xs:List Int)(ss:List Span)(i:Int):List Obj:=[]
def Kd:List Item:=([.code [1,1,0,1,0,0],.inLoop [1,1,0,1,0,0],.inBlock 0,.code [1,1,1]]).map (it (QT YP 81))
def vM(B:Lo)(c0:CF)(xs:List Int)(ss:List Span)(i:Int):Prop:=∃dJ:Nat->Value,(∀t,X6 (dJ t))/\GoE YP B c0 XV 1 (QJ 81 27 (([1,12,13,14]:List Nat).zip (Kc xs ss i)) dJ Kd) (QH (Wq xs ss i)) (2+(Wq xs ss i).length) []
def JV(ss:List Span)(i:Int):Array Value:=#[.int .i64 (Span.lo (ss.getD i.toNat default)),.int .i64 (Span.hi (ss.getD i.toNat default))]
def Te(B:Lo)(xs:List Int)(ss:List Span)(i:Int)(Qn:Nat->Value):List Prop:=[Ue i ss.length (Qg Xg ss) Try.t38.size (JV ss i),Ue i xs.length (Qg Q9 xs) Try.t3.size #[.int .i64 (xs.getD i.toNat default)],XU i (↑xs.length:Int)=true]++([]:List Prop)
def gY(xs:List Int)(ss:List Span)(i:Int)(Qn:Nat->Value):Q5:=[(0,Wo),(2,Qk.tidx i.toNat #[.int .i64 (xs.getD i.toNat default)]),(9,Qk.tidx i.toNat (JV ss i))]
theorem vK(B:Lo)(xs:List Int)(ss:List Span)(i:Int)(Qn:Nat->Value):landM (Qq YP (Q3 YP) J0 B 16 1 (QJ 81 27 (([1,12,13,14]:List Nat).zip (Kc xs ss i)) Qn Kd) (QH (Wq xs ss i)) (2+(Wq xs ss i).length)
 (gY xs ss i Qn++[(11,Qk.pure (.bool true) []),(13,VE (i+1))]) 0 [] []) [1,12,13,14] [] []=some ⟨81,27,Kd,[],.run,none,Kc xs ss (i+1),Wq xs ss (i+1),
 [wq (i+1)=i+1,Qz []/\Qx YP J0 101 #[.int .i64 (xs.getD i.toNat default),.agg (JV ss i)] (.bool true)]++Te B xs ss i Qn⟩:=by kernel_rfl
theorem vJ(B:Lo)(xs:List Int)(ss:List Span)(i:Int)(Qn:Nat->Value):QQ (Qq YP (Q3 YP) J0 B 16 1 (QJ 81 27 (([1,12,13,14]:List Nat).zip (Kc xs ss i)) Qn Kd) (QH (Wq xs ss i)) (2+(Wq xs ss i).length)
 (gY xs ss i Qn++[(11,Qk.pure (.bool false) [])]) 0 [] []) []=some (.bool false,
 [Qz []/\Qx YP J0 101 #[.int .i64 (xs.getD i.toNat default),.agg (JV ss i)] (.bool false)]++Te B xs ss i Qn):=by kernel_rfl
theorem vI(B:Lo)(xs:List Int)(ss:List Span)(i:Int)(Qn:Nat->Value):QQ (Qq YP (Q3 YP) J0 B 9 1 (QJ 81 27 (([1,12,13,14]:List Nat).zip (Kc xs ss i)) Qn Kd) (QH (Wq xs ss i)) (2+(Wq xs ss i).length)
 [(0,W8)] 0 [] []) []=some (.bool true,
 [XU i (↑xs.length:Int)=false]):=by kernel_rfl
theorem vH(B:Lo)(xs:List Int)(ss:List Span):QQ (Qq YP (Q3 YP) J0 B 10 1 (Qp YP 81 27 (([Xr xs,KQ ss]).map (Q2 0 4))) XV 1
 [(5,Wo)] 0 [] []) []=some (.bool false,
 [(!Km (↑xs.length:Int) (↑ss.length:Int))=true]):=by kernel_rfl
theorem vG(B:Lo)(xs:List Int)(ss:List Span):landM (Qq YP (Q3 YP) J0 B 12 1 (Qp YP 81 27 (([Xr xs,KQ ss]).map (Q2 0 4))) XV 1
 [(5,W8)] 0 [] []) [1,12,13,14] [] []=some ⟨81,27,Kd,[],.run,none,Kc xs ss (0),Wq xs ss (0),
 [(!Km (↑xs.length:Int) (↑ss.length:Int))=false]⟩:=by kernel_rfl
set_option maxHeartbeats 4000000 in
theorem vL(xs:List Int)(ss:List Span)  (Xt:xs.length<=9223372036854775807/\ss.length<=9223372036854775807){B:Lo}(hJ:∀w,B.has w->J0 w){c0:CF}:∀m:Nat,(∀(i:Int),xs.length-i.toNat=m->∀(h0:0<=i) (hle:xs.length=ss.length),vM B c0 xs ss i->EndsT YP B c0 (.bool (bW xs ss i))):=by
 intro m0;induction m0 using Nat.strongRecOn with
 |_ m0 ih0=>
  intro i hm0 h0 hle ⟨Qn,Ur,XM⟩;have hx:=Xt.1;have hy:=Xt.2;have hx:=Xt.1;by_cases q0:(i:Int)<((↑xs.length:Int))
  ·have WB:Qz (Te B xs ss i Qn):=by
    have s2:=XH (ss:=ss) q0;exact⟨⟨by omega,by omega,(Q4 (z:=2) (fun _=>rfl) (by omega))⟩,⟨⟨by omega,by omega,(Q4 (z:=1) (fun _=>rfl) (by omega))⟩,⟨(XF q0),trivial⟩⟩⟩
   cases q1:WQ (xs.getD i.toNat default) (Span.lo (ss.getD i.toNat default)) (Span.hi (ss.getD i.toNat default))with
   |true=>
    have s2:=XH (ss:=ss) q0;exact((ih0 _ (by omega)) (i+1) rfl (by omega) (by with_reducible assumption)
     (XM.landM okF hJ Qf (vK B xs ss i Qn)
     ⟨(Xy (by omega) (by omega)),⟨⟨trivial,(by have t_:=Bi (xs.getD i.toNat default) (Span.lo (ss.getD i.toNat default)) (Span.hi (ss.getD i.toNat default));rw[q1]at t_;exact t_)⟩,WB⟩⟩ (by kernel_rfl) (by kernel_rfl))).cast (by(rw[s2];simp_all;done))
   |false=>
    have s2:=XH (ss:=ss) q0;exact(GoE.endsT okF hJ Qf XM (vJ B xs ss i Qn)
     ⟨⟨trivial,(by have t_:=Bi (xs.getD i.toNat default) (Span.lo (ss.getD i.toNat default)) (Span.hi (ss.getD i.toNat default));rw[q1]at t_;exact t_)⟩,WB⟩).cast (by(rw[s2];simp_all;done))
  ·have s2:=bV (xs:=xs) (ss:=ss) (i:=i) (by omega);exact(GoE.endsT okF hJ Qf XM (vI B xs ss i Qn)
    ⟨(XO (Int.not_lt.1 q0)),trivial⟩).cast (by(rw[s2];done))
set_option maxHeartbeats 4000000 in
theorem zP(xs:List Int)(ss:List Span)  (Xt:xs.length<=9223372036854775807/\ss.length<=9223372036854775807){B:Lo}(hJ:∀w,B.has w->J0 w):EndsT YP B (Qp YP 81 27 (([Xr xs,KQ ss]).map (Q2 0 4))) (.bool (Pk xs ss)):=by
 have hx:=Xt.1;have hy:=Xt.2;by_cases q0:((↑xs.length:Int):Int)≠((↑ss.length:Int))
 ·exact(GoE.endsT okF hJ Qf GoE.start (vH B xs ss)
   ⟨(Jx q0),trivial⟩).cast (by(simp_all[Pk];omega))
 ·exact((vL xs ss Xt hJ _) (0) rfl (by omega) (by omega)
   (GoE.start.landM okF hJ Qf (vG B xs ss)
   ⟨(Yq (Decidable.of_not_not q0)),trivial⟩ (by kernel_rfl) (by kernel_rfl))).cast (by(simp_all[Pk];omega))
theorem Ra(xs:List Int)(ss:List Span)  :Qx YP J0 81 #[Xr xs,KQ ss] (.bool (Pk xs ss)):=
 Va (ts:=[Xr xs,KQ ss]) (xs.length<=9223372036854775807/\ss.length<=9223372036854775807) (fun _ _ ht=>⟨ht.ln (i:=0) rfl,ht.ln (i:=1) rfl⟩) Za (c0:=Qp YP 81 27 (([Xr xs,KQ ss]).map (Q2 0 4))) (by kernel_rfl) (by kernel_rfl) fun Xt B hJ=>zP xs ss  Xt hJ
def VX(rf:Qe)(Qa:List Int)(t:Ql)(i:Int):List Value:=[pA 2 0,pA 3 0,.int .i64 rf.seasons,.int .i64 i]
def Vk(rf:Qe)(Qa:List Int)(t:Ql)(i:Int):List Obj:=[Obj.cells #[Qt 1 (QE rf.Qb.length (Qg Qh rf.Qb)),.int .i64 rf.miss,.int .i64 rf.seasons,.int .i64 (Qa.getD 0 0),.int .i64 (Qa.getD 1 0),.int .i64 (Qa.getD 2 0),.int .i64 (Qa.getD 3 0)] 84,Obj.cells #[Qt 1 (QE t.Qc.length (Qg Q9 t.Qc)),Qt 1 (QE t.Qi.length (Qg QZ t.Qi)),Qt 1 (QE t.Qj.length (Qg QZ t.Qj))] 42]
def VY:List Item:=([.code [1,1,0,1,0,0],.inLoop [1,1,0,1,0,0],.inBlock 0,.code [1,1,1]]).map (it (QT YP 58))
def vm(B:Lo)(c0:CF)(rf:Qe)(Qa:List Int)(t:Ql)(i:Int):Prop:=∃dJ:Nat->Value,(∀t,X6 (dJ t))/\GoE YP B c0 XV 1 (QJ 58 58 (([2,3,32,33]:List Nat).zip (VX rf Qa t i)) dJ VY) (QH (Vk rf Qa t i)) (2+(Vk rf Qa t i).length) []
def SM(rf:Qe)(Qa:List Int):Array Value:=#[QE rf.Qb.length (Qg Qh rf.Qb),.int .i64 rf.miss,.int .i64 rf.seasons,.int .i64 (Qa.getD 0 0),.int .i64 (Qa.getD 1 0),.int .i64 (Qa.getD 2 0),.int .i64 (Qa.getD 3 0)]
def JT(rf:Qe):=(List.map (Xw rf.miss) rf.Qb)
def g8(rf:Qe)(t:Ql):Array Value:=#[QE t.Qc.length (Qg Q9 t.Qc),QE (List.length (JT rf)) (Qg Xg (JT rf))]
def gz(rf:Qe):Value:=(QE (List.length (JT rf)) (Qg Xg (JT rf)))
def JS(t:Ql)(i:Int):=(t.Qj.getD i.toNat default)
def gx(t:Ql)(i:Int):Array Value:=#[QE (List.length (JS t i)) (Qg Q9 (JS t i))]
def JR(t:Ql)(i:Int):=(t.Qi.getD i.toNat default)
def gy(t:Ql)(i:Int):Array Value:=#[QE (List.length (JR t i)) (Qg Q9 (JR t i))]
def Y0(rf:Qe)(Qa:List Int)(i:Int):=(Xk rf.Qb (Qa.getD i.toNat 0))
def gA(rf:Qe)(Qa:List Int)(t:Ql)(i:Int):Array Value:=#[QE (List.length (JS t i)) (Qg Q9 (JS t i)),QE (List.length (Y0 rf Qa i)) (Qg Xg (Y0 rf Qa i))]
def cG(rf:Qe)(Qa:List Int)(i:Int):Value:=(QE (List.length (Y0 rf Qa i)) (Qg Xg (Y0 rf Qa i)))
def Yz(rf:Qe):=(List.map Xl rf.Qb)
def g9(rf:Qe)(t:Ql)(i:Int):Array Value:=#[QE (List.length (JR t i)) (Qg Q9 (JR t i)),QE (List.length (Yz rf)) (Qg Xg (Yz rf))]
def cF(rf:Qe):Value:=(QE (List.length (Yz rf)) (Qg Xg (Yz rf)))
def SS(B:Lo)(rf:Qe)(Qa:List Int)(t:Ql)(i:Int)(Qn:Nat->Value):List Prop:=[Qz []/\Qx YP J0 83 #[.agg (SM rf Qa)] (cF rf),Ue i t.Qi.length (Qg QZ t.Qi) Try.t25.size (gy t i),XU i rf.seasons=true]++([]:List Prop)
def gG(rf:Qe)(Qa:List Int)(t:Ql)(i:Int)(Qn:Nat->Value):Q5:=[(0,Wo),(6,Qk.tidx i.toNat (gy t i)),(9,Qk.pure (cF rf) [])]
def SQ(B:Lo)(rf:Qe)(Qa:List Int)(t:Ql)(i:Int)(Qn:Nat->Value):List Prop:=[Qz []/\Qx YP J0 84 #[.agg (SM rf Qa),.int .i64 i] (cG rf Qa i),Ue i t.Qj.length (Qg QZ t.Qj) Try.t25.size (gx t i),Qz []/\Qx YP J0 81 (g9 rf t i) (.bool true)]++SS B rf Qa t i Qn
def gF(rf:Qe)(Qa:List Int)(t:Ql)(i:Int)(Qn:Nat->Value):Q5:=gG rf Qa t i Qn++[(10,Qk.pure (.bool true) []),(16,Qk.tidx i.toNat (gx t i)),(20,Qk.pure (cG rf Qa i) [])]
theorem vk(B:Lo)(rf:Qe)(Qa:List Int)(t:Ql)(i:Int)(Qn:Nat->Value):let a:=Vk rf Qa t i;landM (Qq YP (Q3 YP) J0 B 16 1 (QJ 58 58 (([2,3,32,33]:List Nat).zip (VX rf Qa t i)) Qn VY) (QH a) (2+a.length)
 (gF rf Qa t i Qn++[(21,Qk.pure (.bool true) []),(24,VE (i+1))]) 0 [] []) [2,3,32,33] [(2,KS.auto),(3,KS.auto)] []=some ⟨58,58,VY,[],.run,none,VX rf Qa t (i+1),Vk rf Qa t (i+1),
 [wq (i+1)=i+1,Qz []/\Qx YP J0 81 (gA rf Qa t i) (.bool true)]++SQ B rf Qa t i Qn⟩:=by intro a;kernel_rfl
theorem vj(B:Lo)(rf:Qe)(Qa:List Int)(t:Ql)(i:Int)(Qn:Nat->Value):let a:=Vk rf Qa t i;QQ (Qq YP (Q3 YP) J0 B 16 1 (QJ 58 58 (([2,3,32,33]:List Nat).zip (VX rf Qa t i)) Qn VY) (QH a) (2+a.length)
 (gF rf Qa t i Qn++[(21,Qk.pure (.bool false) [])]) 0 [] []) []=some (.bool false,
 [Qz []/\Qx YP J0 81 (gA rf Qa t i) (.bool false)]++SQ B rf Qa t i Qn):=by intro a;kernel_rfl
theorem vi(B:Lo)(rf:Qe)(Qa:List Int)(t:Ql)(i:Int)(Qn:Nat->Value):let a:=Vk rf Qa t i;QQ (Qq YP (Q3 YP) J0 B 16 1 (QJ 58 58 (([2,3,32,33]:List Nat).zip (VX rf Qa t i)) Qn VY) (QH a) (2+a.length)
 (gG rf Qa t i Qn++[(10,Qk.pure (.bool false) [])]) 0 [] []) []=some (.bool false,
 [Qz []/\Qx YP J0 81 (g9 rf t i) (.bool false)]++SS B rf Qa t i Qn):=by intro a;kernel_rfl
theorem vh(B:Lo)(rf:Qe)(Qa:List Int)(t:Ql)(i:Int)(Qn:Nat->Value):let a:=Vk rf Qa t i;QQ (Qq YP (Q3 YP) J0 B 9 1 (QJ 58 58 (([2,3,32,33]:List Nat).zip (VX rf Qa t i)) Qn VY) (QH a) (2+a.length)
 [(0,W8)] 0 [] []) []=some (.bool true,
 [XU i rf.seasons=false]):=by intro a;kernel_rfl
def SP(B:Lo)(rf:Qe)(Qa:List Int)(t:Ql):List Prop:=[Qz []/\Qx YP J0 82 #[.agg (SM rf Qa)] (gz rf)]++([]:List Prop)
def gE(rf:Qe)(Qa:List Int)(t:Ql):Q5:=[(6,Qk.pure (gz rf) [])]
def SO(B:Lo)(rf:Qe)(Qa:List Int)(t:Ql):List Prop:=[Qz []/\Qx YP J0 81 (g8 rf t) (.bool true)]++SP B rf Qa t
def gC(rf:Qe)(Qa:List Int)(t:Ql):Q5:=gE rf Qa t++[(7,Qk.pure (.bool true) [])]
theorem vg(B:Lo)(rf:Qe)(Qa:List Int)(t:Ql):QQ (Qq YP (Q3 YP) J0 B 10 1 (Qp YP 58 58 (([.agg (QL rf Qa).toArray,.agg #[Xr t.Qc,QE t.Qi.length (Qg QZ t.Qi),QE t.Qj.length (Qg QZ t.Qj)]]).map (Q2 0 4))) XV 1
 (gC rf Qa t++[(16,Wo)]) 0 [] []) []=some (.bool false,
 [(!Km (↑t.Qi.length:Int) rf.seasons)=true]++SO B rf Qa t):=by kernel_rfl
def SN(B:Lo)(rf:Qe)(Qa:List Int)(t:Ql):List Prop:=[(!Km (↑t.Qi.length:Int) rf.seasons)=false]++SO B rf Qa t
def gB(rf:Qe)(Qa:List Int)(t:Ql):Q5:=gC rf Qa t++[(16,W8)]
theorem vf(B:Lo)(rf:Qe)(Qa:List Int)(t:Ql):QQ (Qq YP (Q3 YP) J0 B 10 1 (Qp YP 58 58 (([.agg (QL rf Qa).toArray,.agg #[Xr t.Qc,QE t.Qi.length (Qg QZ t.Qi),QE t.Qj.length (Qg QZ t.Qj)]]).map (Q2 0 4))) XV 1
 (gB rf Qa t++[(25,Wo)]) 0 [] []) []=some (.bool false,
 [(!Km (↑t.Qj.length:Int) rf.seasons)=true]++SN B rf Qa t):=by kernel_rfl
theorem vd(B:Lo)(rf:Qe)(Qa:List Int)(t:Ql):landM (Qq YP (Q3 YP) J0 B 12 1 (Qp YP 58 58 (([.agg (QL rf Qa).toArray,.agg #[Xr t.Qc,QE t.Qi.length (Qg QZ t.Qi),QE t.Qj.length (Qg QZ t.Qj)]]).map (Q2 0 4))) XV 1
 (gB rf Qa t++[(25,W8)]) 0 [] []) [2,3,32,33] [(1,KS.auto),(2,KS.auto)] []=some ⟨58,58,VY,[],.run,none,VX rf Qa t (0),Vk rf Qa t (0),
 [(!Km (↑t.Qj.length:Int) rf.seasons)=false]++SN B rf Qa t⟩:=by kernel_rfl
theorem va(B:Lo)(rf:Qe)(Qa:List Int)(t:Ql):QQ (Qq YP (Q3 YP) J0 B 10 1 (Qp YP 58 58 (([.agg (QL rf Qa).toArray,.agg #[Xr t.Qc,QE t.Qi.length (Qg QZ t.Qi),QE t.Qj.length (Qg QZ t.Qj)]]).map (Q2 0 4))) XV 1
 (gE rf Qa t++[(7,Qk.pure (.bool false) [])]) 0 [] []) []=some (.bool false,
 [Qz []/\Qx YP J0 81 (g8 rf t) (.bool false)]++SP B rf Qa t):=by kernel_rfl
set_option maxHeartbeats 4000000 in
theorem vl(rf:Qe)(Qa:List Int)(t:Ql)(hr:QD rf=true)(hl:Qa.length<=4)(hp:∀j:Nat,0<=Qa.getD j 0/\Qa.getD j 0<=1000000){B:Lo}(hJ:∀w,B.has w->J0 w){c0:CF}:∀m:Nat,(∀(i:Int),(rf.seasons-i).toNat=m->∀(h0:0<=i) (hgl:(t.Qi.length:Int)=rf.seasons) (htl:(t.Qj.length:Int)=rf.seasons),vm B c0 rf Qa t i->EndsT YP B c0 (.bool (Ss rf Qa t.Qi t.Qj i))):=by
 intro m0;induction m0 using Nat.strongRecOn with
 |_ m0 ih0=>
  intro i hm0 h0 hgl htl ⟨Qn,Ur,XM⟩;have Zm:=Qy (Q7 hr).1;have hcs:=(fun k h0 h1=>(Vj ((Q7 hr).2 k h0 h1).1).1)
  have Zm:=Qy (Q7 hr).1;by_cases q0:(i:Int)<rf.seasons
  ·have WB:Qz (SS B rf Qa t i Qn):=by
    have s2:=V0 (Qa:=Qa) (gs:=t.Qi) (ts:=t.Qj) q0;exact⟨⟨trivial,Gd (rf) (Qa) (by omega)⟩,⟨⟨by omega,by omega,(Q4 (z:=1) (fun _=>rfl) (by omega))⟩,⟨(XF q0),trivial⟩⟩⟩
   cases q1:Pk (t.Qi.getD i.toNat default) (List.map Xl rf.Qb)with
   |true=>
    have JE:Qz (SQ B rf Qa t i Qn):=by
     have s2:=V0 (Qa:=Qa) (gs:=t.Qi) (ts:=t.Qj) q0;exact⟨⟨trivial,FB (rf) (Qa) (i) (by omega) (by with_reducible assumption) (by with_reducible assumption) (by omega) (by with_reducible assumption)⟩,⟨⟨by omega,by omega,(Q4 (z:=1) (fun _=>rfl) (by omega))⟩,⟨⟨trivial,(by have t_:=Ra (t.Qi.getD i.toNat default) (List.map Xl rf.Qb);rw[q1]at t_;exact t_)⟩,WB⟩⟩⟩
    cases q2:Pk (t.Qj.getD i.toNat default) (Xk rf.Qb (Qa.getD i.toNat 0))with
    |true=>
     have s2:=V0 (Qa:=Qa) (gs:=t.Qi) (ts:=t.Qj) q0;exact((ih0 _ (by omega)) (i+1) rfl (by omega) (by with_reducible assumption) (by with_reducible assumption)
      (XM.landM okF hJ Qf (vk B rf Qa t i Qn)
      ⟨(Xy (by omega) (by omega)),⟨⟨trivial,(by have t_:=Ra (t.Qj.getD i.toNat default) (Xk rf.Qb (Qa.getD i.toNat 0));rw[q2]at t_;exact t_)⟩,JE⟩⟩ (by kernel_rfl) (by kernel_rfl))).cast (by(rw[s2];simp_all[k8];done))
    |false=>
     have s2:=V0 (Qa:=Qa) (gs:=t.Qi) (ts:=t.Qj) q0;exact(GoE.endsT okF hJ Qf XM (vj B rf Qa t i Qn)
      ⟨⟨trivial,(by have t_:=Ra (t.Qj.getD i.toNat default) (Xk rf.Qb (Qa.getD i.toNat 0));rw[q2]at t_;exact t_)⟩,JE⟩).cast (by(rw[s2];simp_all[k8];done))
   |false=>
    have s2:=V0 (Qa:=Qa) (gs:=t.Qi) (ts:=t.Qj) q0;exact(GoE.endsT okF hJ Qf XM (vi B rf Qa t i Qn)
     ⟨⟨trivial,(by have t_:=Ra (t.Qi.getD i.toNat default) (List.map Xl rf.Qb);rw[q1]at t_;exact t_)⟩,WB⟩).cast (by(rw[s2];simp_all[k8];done))
  ·have s2:=tS (rf:=rf) (Qa:=Qa) (gs:=t.Qi) (ts:=t.Qj) (i:=i) (by omega);exact(GoE.endsT okF hJ Qf XM (vh B rf Qa t i Qn)
    ⟨(XO (Int.not_lt.1 q0)),trivial⟩).cast (by(rw[s2];done))
set_option maxHeartbeats 4000000 in
theorem zz(rf:Qe)(Qa:List Int)(t:Ql)(hr:QD rf=true)(hl:Qa.length<=4)(hp:∀j:Nat,0<=Qa.getD j 0/\Qa.getD j 0<=1000000){B:Lo}(hJ:∀w,B.has w->J0 w):EndsT YP B (Qp YP 58 58 (([.agg (QL rf Qa).toArray,.agg #[Xr t.Qc,QE t.Qi.length (Qg QZ t.Qi),QE t.Qj.length (Qg QZ t.Qj)]]).map (Q2 0 4))) (.bool (Xz rf Qa t)):=by
 have Zm:=Qy (Q7 hr).1;have hcs:=(fun k h0 h1=>(Vj ((Q7 hr).2 k h0 h1).1).1)
 have KE:Qz (SP B rf Qa t):=by
  exact⟨⟨trivial,Bg (rf) (Qa) (by omega) (by omega) (by with_reducible assumption)⟩,trivial⟩
 cases q0:Pk t.Qc (List.map (Xw rf.miss) rf.Qb)with
 |true=>
  have hp3:Qz (SO B rf Qa t):=by
   exact⟨⟨trivial,(by have t_:=Ra t.Qc (List.map (Xw rf.miss) rf.Qb);rw[q0]at t_;exact t_)⟩,KE⟩
  by_cases q1:((↑t.Qi.length:Int):Int)≠rf.seasons
  ·exact(GoE.endsT okF hJ Qf GoE.start (vg B rf Qa t)
    ⟨(Jx q1),hp3⟩).cast (by(simp only[Xz];simp[*];done))
  ·have hp4:Qz (SN B rf Qa t):=by
    exact⟨(Yq (Decidable.of_not_not q1)),hp3⟩
   by_cases q2:((↑t.Qj.length:Int):Int)≠rf.seasons
   ·exact(GoE.endsT okF hJ Qf GoE.start (vf B rf Qa t)
     ⟨(Jx q2),hp4⟩).cast (by(simp only[Xz];simp[*];done))
   ·exact((vl rf Qa t hr hl hp hJ _) (0) rfl (by omega) (by omega) (by omega)
     (GoE.start.landM okF hJ Qf (vd B rf Qa t)
     ⟨(Yq (Decidable.of_not_not q2)),hp4⟩ (by kernel_rfl) (by kernel_rfl))).cast (by(simp_all[Xz];done))
 |false=>
  exact(GoE.endsT okF hJ Qf GoE.start (va B rf Qa t)
   ⟨⟨trivial,(by have t_:=Ra t.Qc (List.map (Xw rf.miss) rf.Qb);rw[q0]at t_;exact t_)⟩,KE⟩).cast (by(simp only[Xz];simp[*];done))
theorem vn(rf:Qe)(Qa:List Int)(t:Ql)(hr:QD rf=true)(hl:Qa.length<=4)(hp:∀j:Nat,0<=Qa.getD j 0/\Qa.getD j 0<=1000000):Qx YP J0 58 #[.agg (QL rf Qa).toArray,.agg #[Xr t.Qc,QE t.Qi.length (Qg QZ t.Qi),QE t.Qj.length (Qg QZ t.Qj)]] (.bool (Xz rf Qa t)):=
 Xn (ts:=[.agg (QL rf Qa).toArray,.agg #[Xr t.Qc,QE t.Qi.length (Qg QZ t.Qi),QE t.Qj.length (Qg QZ t.Qj)]]) Za (c0:=Qp YP 58 58 (([.agg (QL rf Qa).toArray,.agg #[Xr t.Qc,QE t.Qi.length (Qg QZ t.Qi),QE t.Qj.length (Qg QZ t.Qj)]]).map (Q2 0 4))) (by kernel_rfl) (by kernel_rfl) fun B hJ=>zz rf Qa t hr hl hp hJ
def V1(x_:Qd):Array Value:=#[.int .i64 x_.count,.int .i64 x_.room,.int .i64 x_.glo,.int .i64 x_.ghi,.int .i64 x_.drift,.int .i64 x_.into,.int .i64 x_.olo,.int .i64 x_.ohi,.int .i64 x_.slo,.int .i64 x_.shi,.int .i64 x_.goal,.int .i64 x_.worth]
def TL(x_:Qd):Array Value:=#[.int .i64 (if false=true then x_.slo else x_.olo),.int .i64 (if false=true then x_.shi else x_.ohi)]
def TK(x_:Qd):Array Value:=#[.int .i64 (if true=true then x_.slo else x_.olo),.int .i64 (if true=true then x_.shi else x_.ohi)]
def eE(rf:Qe):Array Value:=(Qg Qh rf.Qb)
def YF(rf:Qe)(Qa:List Int)(t:Ql)(i:Int):List Value:=[Qt 1 (QE Qa.length (Qg Q9 Qa)),pA 2 0,pA 3 0,.int .i64 i]
def V4(rf:Qe)(Qa:List Int)(t:Ql)(i:Int):List Obj:=[Obj.cells #[Qt 1 (QE rf.Qb.length (Qg Qh rf.Qb)),.int .i64 rf.miss,.int .i64 rf.seasons] 24,Obj.cells #[Qt 1 (QE t.Qc.length (Qg Q9 t.Qc)),Qt 1 (QE t.Qi.length (Qg QZ t.Qi)),Qt 1 (QE t.Qj.length (Qg QZ t.Qj))] 42]
def YG:List Item:=([.code [1,1,0,1,0,0],.inLoop [1,1,0,1,0,0],.inBlock 0,.code [1,1,1]]).map (it (QT YP 27))
def Ce(B:Lo)(c0:CF)(rf:Qe)(Qa:List Int)(t:Ql)(i:Int):Prop:=∃dJ:Nat->Value,(∀t,X6 (dJ t))/\GoE YP B c0 XV 1 (QJ 27 136 (([1,3,5,7]:List Nat).zip (YF rf Qa t i)) dJ YG) (QH (V4 rf Qa t i)) (2+(V4 rf Qa t i).length) []
def K6(rf:Qe)(Qa:List Int)(t:Ql)(s:Int):List Value:=[Qt 1 (QE Qa.length (Qg Q9 Qa)),pA 2 0,pA 3 0,.int .i64 s]
def WC(rf:Qe)(Qa:List Int)(t:Ql)(s:Int):List Obj:=[Obj.cells #[Qt 1 (QE rf.Qb.length (Qg Qh rf.Qb)),.int .i64 rf.miss,.int .i64 rf.seasons] 24,Obj.cells #[Qt 1 (QE t.Qc.length (Qg Q9 t.Qc)),Qt 1 (QE t.Qi.length (Qg QZ t.Qi)),Qt 1 (QE t.Qj.length (Qg QZ t.Qj))] 42]
def K7:List Item:=([.code [1,1,1,0,1,0,0],.inLoop [1,1,1,0,1,0,0],.inBlock 2,.code [1,1,1,1]]).map (it (QT YP 27))
def Cd(B:Lo)(c0:CF)(rf:Qe)(Qa:List Int)(t:Ql)(s:Int):Prop:=∃dJ:Nat->Value,(∀t,X6 (dJ t))/\GoE YP B c0 XV 1 (QJ 27 136 (([1,3,5,8]:List Nat).zip (K6 rf Qa t s)) dJ K7) (QH (WC rf Qa t s)) (2+(WC rf Qa t s).length) []
def V2(rf:Qe)(Qa:List Int)(t:Ql)(s i:Int):List Value:=[Qt 1 (QE Qa.length (Qg Q9 Qa)),pA 2 0,pA 3 0,.int .i64 s,.int .i64 i]
def WZ(rf:Qe)(Qa:List Int)(t:Ql)(s i:Int):List Obj:=[Obj.cells #[Qt 1 (QE rf.Qb.length (Qg Qh rf.Qb)),.int .i64 rf.miss,.int .i64 rf.seasons] 24,Obj.cells #[Qt 1 (QE t.Qc.length (Qg Q9 t.Qc)),Qt 1 (QE t.Qi.length (Qg QZ t.Qi)),Qt 1 (QE t.Qj.length (Qg QZ t.Qj))] 42]
def V3:List Item:=([.code [1,1,1,0,1,0,0,1,0,0,1,1,0,0],.inLoop [1,1,1,0,1,0,0,1,0,0,1,1,0,0],.inBlock 4,.inBlock 3,.code [1,1,1,0,1,0,0,1,1],.inLoop [1,1,1,0,1,0,0],.inBlock 2,.code [1,1,1,1]]).map (it (QT YP 27))
def Cc(B:Lo)(c0:CF)(rf:Qe)(Qa:List Int)(t:Ql)(s i:Int):Prop:=∃dJ:Nat->Value,(∀t,X6 (dJ t))/\GoE YP B c0 XV 1 (QJ 27 136 (([1,3,5,8,9]:List Nat).zip (V2 rf Qa t s i)) dJ V3) (QH (WZ rf Qa t s i)) (2+(WZ rf Qa t s i).length) []
def eO(B:Lo)(rf:Qe)(Qa:List Int)(t:Ql)(i:Int)(Qn:Nat->Value):List Prop:=let d:=eE rf;let c:=t.Qc;let b:=List.length rf.Qb;let a:=rf.Qb.getD i.toNat default;[Qz []/\Qx YP J0 60 #[.agg #[QE b d,.int .i64 rf.miss,.int .i64 rf.seasons],.int .i64 a.count] (.int .i64 (Yk rf.miss a.count)),Ue i b d Try.t54.size (V1 a),Ue i b d Try.t54.size (V1 a),Ue i c.length (Qg Q9 c) Try.t3.size #[.int .i64 (c.getD i.toNat default)],XU i (↑b:Int)=true]++([]:List Prop)
def pF(rf:Qe)(Qa:List Int)(t:Ql)(i:Int)(Qn:Nat->Value):Q5:=let b:=Int.toNat i;let a:=rf.Qb.getD b default;[(4,Wo),(8,Qk.tidx b #[.int .i64 (t.Qc.getD b default)]),(13,Qk.tidx b (V1 a)),(20,Qk.tidx b (V1 a)),(23,Qk.pure (.int .i64 (Yk rf.miss a.count)) [])]
theorem Ca(B:Lo)(rf:Qe)(Qa:List Int)(t:Ql)(i:Int)(Qn:Nat->Value):let a:=Qd.count (rf.Qb.getD i.toNat default);landM (Qq YP (Q3 YP) J0 B 14 1 (QJ 27 136 (([1,3,5,7]:List Nat).zip (YF rf Qa t i)) Qn YG) (QH (V4 rf Qa t i)) (2+(V4 rf Qa t i).length)
 (pF rf Qa t i Qn++[(24,Qk.pure (.bool true) []),(27,VE (i+1))]) 0 [] []) [1,3,5,7] [(2,KS.auto),(3,KS.auto)] []=some ⟨27,136,YG,[],.run,none,YF rf Qa t (i+1),V4 rf Qa t (i+1),
 [wq (i+1)=i+1,Qz []/\Qx YP J0 55 #[.int .i64 (t.Qc.getD i.toNat default),.int .i64 a,.int .i64 (Yk rf.miss a)] (.bool true)]++eO B rf Qa t i Qn⟩:=by intro a;kernel_rfl
theorem BZ(B:Lo)(rf:Qe)(Qa:List Int)(t:Ql)(i:Int)(Qn:Nat->Value):let a:=Qd.count (rf.Qb.getD i.toNat default);QQ (Qq YP (Q3 YP) J0 B 14 1 (QJ 27 136 (([1,3,5,7]:List Nat).zip (YF rf Qa t i)) Qn YG) (QH (V4 rf Qa t i)) (2+(V4 rf Qa t i).length)
 (pF rf Qa t i Qn++[(24,Qk.pure (.bool false) [])]) 0 [] []) []=some (.bool false,
 [Qz []/\Qx YP J0 55 #[.int .i64 (t.Qc.getD i.toNat default),.int .i64 a,.int .i64 (Yk rf.miss a)] (.bool false)]++eO B rf Qa t i Qn):=by intro a;kernel_rfl
theorem BY(B:Lo)(rf:Qe)(Qa:List Int)(t:Ql)(i:Int)(Qn:Nat->Value):landM (Qq YP (Q3 YP) J0 B 10 1 (QJ 27 136 (([1,3,5,7]:List Nat).zip (YF rf Qa t i)) Qn YG) (QH (V4 rf Qa t i)) (2+(V4 rf Qa t i).length)
 [(4,W8)] 0 [] []) [1,3,5,8] [(2,KS.auto),(3,KS.auto)] []=some ⟨27,136,K7,[],.run,none,K6 rf Qa t (0),WC rf Qa t (0),
 [XU i (↑rf.Qb.length:Int)=false]⟩:=by kernel_rfl
def eN(B:Lo)(rf:Qe)(Qa:List Int)(t:Ql)(s:Int)(Qn:Nat->Value):List Prop:=[Ue s t.Qi.length (Qg QZ t.Qi) Try.t25.size #[QE (List.length (t.Qi.getD s.toNat default)) (Qg Q9 (t.Qi.getD s.toNat default))],XU s rf.seasons=true]++([]:List Prop)
def pE(rf:Qe)(Qa:List Int)(t:Ql)(s:Int)(Qn:Nat->Value):Q5:=[(3,Wo),(7,Qk.tidx s.toNat #[QE (List.length (t.Qi.getD s.toNat default)) (Qg Q9 (t.Qi.getD s.toNat default))])]
theorem BX(B:Lo)(rf:Qe)(Qa:List Int)(t:Ql)(s:Int)(Qn:Nat->Value):QQ (Qq YP (Q3 YP) J0 B 15 1 (QJ 27 136 (([1,3,5,8]:List Nat).zip (K6 rf Qa t s)) Qn K7) (QH (WC rf Qa t s)) (2+(WC rf Qa t s).length)
 (pE rf Qa t s Qn++[(13,Wo)]) 0 [] []) []=some (.bool false,
 [(!Km (↑(List.length (t.Qi.getD s.toNat default)):Int) (↑rf.Qb.length:Int))=true]++eN B rf Qa t s Qn):=by kernel_rfl
def eM(B:Lo)(rf:Qe)(Qa:List Int)(t:Ql)(s:Int)(Qn:Nat->Value):List Prop:=let b:=t.Qj;let a:=b.getD s.toNat default;[Ue s b.length (Qg QZ b) Try.t25.size #[QE a.length (Qg Q9 a)],(!Km (↑(List.length (t.Qi.getD s.toNat default)):Int) (↑rf.Qb.length:Int))=false]++eN B rf Qa t s Qn
def pD(rf:Qe)(Qa:List Int)(t:Ql)(s:Int)(Qn:Nat->Value):Q5:=pE rf Qa t s Qn++[(13,W8),(18,Qk.tidx s.toNat #[QE (List.length (t.Qj.getD s.toNat default)) (Qg Q9 (t.Qj.getD s.toNat default))])]
theorem BW(B:Lo)(rf:Qe)(Qa:List Int)(t:Ql)(s:Int)(Qn:Nat->Value):QQ (Qq YP (Q3 YP) J0 B 15 1 (QJ 27 136 (([1,3,5,8]:List Nat).zip (K6 rf Qa t s)) Qn K7) (QH (WC rf Qa t s)) (2+(WC rf Qa t s).length)
 (pD rf Qa t s Qn++[(24,Wo)]) 0 [] []) []=some (.bool false,
 [(!Km (↑(List.length (t.Qj.getD s.toNat default)):Int) (↑rf.Qb.length:Int))=true]++eM B rf Qa t s Qn):=by kernel_rfl
theorem BV(B:Lo)(rf:Qe)(Qa:List Int)(t:Ql)(s:Int)(Qn:Nat->Value):landM (Qq YP (Q3 YP) J0 B 16 1 (QJ 27 136 (([1,3,5,8]:List Nat).zip (K6 rf Qa t s)) Qn K7) (QH (WC rf Qa t s)) (2+(WC rf Qa t s).length)
 (pD rf Qa t s Qn++[(24,W8)]) 0 [] []) [1,3,5,8,9] [(2,KS.auto),(3,KS.auto)] []=some ⟨27,136,V3,[],.run,none,V2 rf Qa t (s) (0),WZ rf Qa t (s) (0),
 [(!Km (↑(List.length (t.Qj.getD s.toNat default)):Int) (↑rf.Qb.length:Int))=false]++eM B rf Qa t s Qn⟩:=by kernel_rfl
theorem BU(B:Lo)(rf:Qe)(Qa:List Int)(t:Ql)(s:Int)(Qn:Nat->Value):QQ (Qq YP (Q3 YP) J0 B 9 1 (QJ 27 136 (([1,3,5,8]:List Nat).zip (K6 rf Qa t s)) Qn K7) (QH (WC rf Qa t s)) (2+(WC rf Qa t s).length)
 [(3,W8)] 0 [] []) []=some (.bool true,
 [XU s rf.seasons=false]):=by kernel_rfl
def eK(B:Lo)(rf:Qe)(Qa:List Int)(t:Ql)(s i:Int)(Qn:Nat->Value):List Prop:=let c:=t.Qi;let b:=rf.Qb;let a:=c.getD s.toNat default;[Ue i b.length (eE rf) Try.t54.size (V1 (b.getD i.toNat default)),Ue i a.length (Qg Q9 a) Try.t3.size #[.int .i64 (a.getD i.toNat default)],Ue s c.length (Qg QZ c) Try.t25.size #[QE a.length (Qg Q9 a)],XU i (↑b.length:Int)=true]++([]:List Prop)
def pC(rf:Qe)(Qa:List Int)(t:Ql)(s i:Int)(Qn:Nat->Value):Q5:=let b:=Int.toNat i;let a:=t.Qi.getD s.toNat default;[(4,Wo),(8,Qk.tidx s.toNat #[QE a.length (Qg Q9 a)]),(11,Qk.tidx b #[.int .i64 (a.getD b default)]),(16,Qk.tidx b (V1 (rf.Qb.getD b default)))]
def eJ(B:Lo)(rf:Qe)(Qa:List Int)(t:Ql)(s i:Int)(Qn:Nat->Value):List Prop:=let e:=Int.toNat s;let d:=Int.toNat i;let c:=t.Qj;let b:=rf.Qb.getD d default;let a:=c.getD e default;[Ue s Qa.length (Qg Q9 Qa) Try.t3.size #[.int .i64 (Qa.getD e default)],Ue i rf.Qb.length (eE rf) Try.t54.size (V1 b),Ue i a.length (Qg Q9 a) Try.t3.size #[.int .i64 (a.getD d default)],Ue s c.length (Qg QZ c) Try.t25.size #[QE a.length (Qg Q9 a)],Qz []/\Qx YP J0 32 #[.int .i64 (List.getD (t.Qi.getD e default) d default),.agg #[.int .i64 b.glo,.int .i64 b.ghi]] (.bool true)]++eK B rf Qa t s i Qn
def pB(rf:Qe)(Qa:List Int)(t:Ql)(s i:Int)(Qn:Nat->Value):Q5:=let c:=Int.toNat i;let b:=Int.toNat s;let a:=t.Qj.getD b default;pC rf Qa t s i Qn++[(19,Qk.pure (.bool true) []),(25,Qk.tidx b #[QE a.length (Qg Q9 a)]),(28,Qk.tidx c #[.int .i64 (a.getD c default)]),(33,Qk.tidx c (V1 (rf.Qb.getD c default))),(37,Qk.tidx b #[.int .i64 (Qa.getD b default)])]
def eI(B:Lo)(rf:Qe)(Qa:List Int)(t:Ql)(s i:Int)(Qn:Nat->Value):List Prop:=let a:=rf.Qb.getD i.toNat default;[Qz []/\Qx YP J0 61 #[.agg (V1 a),.bool true] (.agg (TK a)),Qz []/\Qx YP J0 47 #[.int .i64 (Qa.getD s.toNat default),.int .i64 i] (.bool true)]++eJ B rf Qa t s i Qn
def p9(rf:Qe)(Qa:List Int)(t:Ql)(s i:Int)(Qn:Nat->Value):Q5:=pB rf Qa t s i Qn++[(40,Qk.pure (.bool true) []),(41,Qk.pure (.agg (TK (rf.Qb.getD i.toNat default))) [])]
theorem BT(B:Lo)(rf:Qe)(Qa:List Int)(t:Ql)(s i:Int)(Qn:Nat->Value):let a:=WZ rf Qa t s i;landM (Qq YP (Q3 YP) J0 B 14 1 (QJ 27 136 (([1,3,5,8,9]:List Nat).zip (V2 rf Qa t s i)) Qn V3) (QH a) (2+a.length)
 (p9 rf Qa t s i Qn++[(42,Qk.pure (.bool true) []),(46,VE (i+1))]) 0 [] []) [1,3,5,8,9] [(2,KS.auto),(3,KS.auto)] []=some ⟨27,136,V3,[],.run,none,V2 rf Qa t (s) (i+1),WZ rf Qa t (s) (i+1),
 [wq (i+1)=i+1,Qz []/\Qx YP J0 32 #[.int .i64 (List.getD (t.Qj.getD s.toNat default) i.toNat default),.agg (TK (rf.Qb.getD i.toNat default))] (.bool true)]++eI B rf Qa t s i Qn⟩:=by intro a;kernel_rfl
theorem BS(B:Lo)(rf:Qe)(Qa:List Int)(t:Ql)(s i:Int)(Qn:Nat->Value):let a:=WZ rf Qa t s i;QQ (Qq YP (Q3 YP) J0 B 14 1 (QJ 27 136 (([1,3,5,8,9]:List Nat).zip (V2 rf Qa t s i)) Qn V3) (QH a) (2+a.length)
 (p9 rf Qa t s i Qn++[(42,Qk.pure (.bool false) [])]) 0 [] []) []=some (.bool false,
 [Qz []/\Qx YP J0 32 #[.int .i64 (List.getD (t.Qj.getD s.toNat default) i.toNat default),.agg (TK (rf.Qb.getD i.toNat default))] (.bool false)]++eI B rf Qa t s i Qn):=by intro a;kernel_rfl
def eH(B:Lo)(rf:Qe)(Qa:List Int)(t:Ql)(s i:Int)(Qn:Nat->Value):List Prop:=let a:=rf.Qb.getD i.toNat default;[Qz []/\Qx YP J0 61 #[.agg (V1 a),.bool false] (.agg (TL a)),Qz []/\Qx YP J0 47 #[.int .i64 (Qa.getD s.toNat default),.int .i64 i] (.bool false)]++eJ B rf Qa t s i Qn
def p8(rf:Qe)(Qa:List Int)(t:Ql)(s i:Int)(Qn:Nat->Value):Q5:=pB rf Qa t s i Qn++[(40,Qk.pure (.bool false) []),(41,Qk.pure (.agg (TL (rf.Qb.getD i.toNat default))) [])]
theorem BR(B:Lo)(rf:Qe)(Qa:List Int)(t:Ql)(s i:Int)(Qn:Nat->Value):let a:=WZ rf Qa t s i;landM (Qq YP (Q3 YP) J0 B 14 1 (QJ 27 136 (([1,3,5,8,9]:List Nat).zip (V2 rf Qa t s i)) Qn V3) (QH a) (2+a.length)
 (p8 rf Qa t s i Qn++[(42,Qk.pure (.bool true) []),(46,VE (i+1))]) 0 [] []) [1,3,5,8,9] [(2,KS.auto),(3,KS.auto)] []=some ⟨27,136,V3,[],.run,none,V2 rf Qa t (s) (i+1),WZ rf Qa t (s) (i+1),
 [wq (i+1)=i+1,Qz []/\Qx YP J0 32 #[.int .i64 (List.getD (t.Qj.getD s.toNat default) i.toNat default),.agg (TL (rf.Qb.getD i.toNat default))] (.bool true)]++eH B rf Qa t s i Qn⟩:=by intro a;kernel_rfl
theorem ze(B:Lo)(rf:Qe)(Qa:List Int)(t:Ql)(s i:Int)(Qn:Nat->Value):let a:=WZ rf Qa t s i;QQ (Qq YP (Q3 YP) J0 B 14 1 (QJ 27 136 (([1,3,5,8,9]:List Nat).zip (V2 rf Qa t s i)) Qn V3) (QH a) (2+a.length)
 (p8 rf Qa t s i Qn++[(42,Qk.pure (.bool false) [])]) 0 [] []) []=some (.bool false,
 [Qz []/\Qx YP J0 32 #[.int .i64 (List.getD (t.Qj.getD s.toNat default) i.toNat default),.agg (TL (rf.Qb.getD i.toNat default))] (.bool false)]++eH B rf Qa t s i Qn):=by intro a;kernel_rfl
theorem zd(B:Lo)(rf:Qe)(Qa:List Int)(t:Ql)(s i:Int)(Qn:Nat->Value):let b:=WZ rf Qa t s i;let a:=rf.Qb.getD i.toNat default;QQ (Qq YP (Q3 YP) J0 B 14 1 (QJ 27 136 (([1,3,5,8,9]:List Nat).zip (V2 rf Qa t s i)) Qn V3) (QH b) (2+b.length)
 (pC rf Qa t s i Qn++[(19,Qk.pure (.bool false) [])]) 0 [] []) []=some (.bool false,
 [Qz []/\Qx YP J0 32 #[.int .i64 (List.getD (t.Qi.getD s.toNat default) i.toNat default),.agg #[.int .i64 a.glo,.int .i64 a.ghi]] (.bool false)]++eK B rf Qa t s i Qn):=by intro b a;kernel_rfl
theorem zb(B:Lo)(rf:Qe)(Qa:List Int)(t:Ql)(s i:Int)(Qn:Nat->Value):let a:=WZ rf Qa t s i;landM (Qq YP (Q3 YP) J0 B 8 1 (QJ 27 136 (([1,3,5,8,9]:List Nat).zip (V2 rf Qa t s i)) Qn V3) (QH a) (2+a.length)
 [(4,W8),(6,VE (s+1))] 0 [] []) [1,3,5,8] [(2,KS.auto),(3,KS.auto)] []=some ⟨27,136,K7,[],.run,none,K6 rf Qa t (s+1),WC rf Qa t (s+1),
 [wq (s+1)=s+1,XU i (↑rf.Qb.length:Int)=false]⟩:=by intro a;kernel_rfl
theorem za(B:Lo)(rf:Qe)(Qa:List Int)(t:Ql):QQ (Qq YP (Q3 YP) J0 B 10 1 (Qp YP 27 136 (([.agg (Q0 rf).toArray,Xr Qa,.agg #[Xr t.Qc,QE t.Qi.length (Qg QZ t.Qi),QE t.Qj.length (Qg QZ t.Qj)]]).map (Q2 0 4))) XV 1
 [(9,Wo)] 0 [] []) []=some (.bool false,
 [(!Km (↑t.Qc.length:Int) (↑rf.Qb.length:Int))=true]):=by kernel_rfl
def eG(B:Lo)(rf:Qe)(Qa:List Int)(t:Ql):List Prop:=[(!Km (↑t.Qc.length:Int) (↑rf.Qb.length:Int))=false]++([]:List Prop)
def pz(rf:Qe)(Qa:List Int)(t:Ql):Q5:=[(9,W8)]
theorem yZ(B:Lo)(rf:Qe)(Qa:List Int)(t:Ql):QQ (Qq YP (Q3 YP) J0 B 10 1 (Qp YP 27 136 (([.agg (Q0 rf).toArray,Xr Qa,.agg #[Xr t.Qc,QE t.Qi.length (Qg QZ t.Qi),QE t.Qj.length (Qg QZ t.Qj)]]).map (Q2 0 4))) XV 1
 (pz rf Qa t++[(16,Wo)]) 0 [] []) []=some (.bool false,
 [(!Km (↑t.Qi.length:Int) rf.seasons)=true]++eG B rf Qa t):=by kernel_rfl
def eF(B:Lo)(rf:Qe)(Qa:List Int)(t:Ql):List Prop:=[(!Km (↑t.Qi.length:Int) rf.seasons)=false]++eG B rf Qa t
def py(rf:Qe)(Qa:List Int)(t:Ql):Q5:=pz rf Qa t++[(16,W8)]
theorem yY(B:Lo)(rf:Qe)(Qa:List Int)(t:Ql):QQ (Qq YP (Q3 YP) J0 B 10 1 (Qp YP 27 136 (([.agg (Q0 rf).toArray,Xr Qa,.agg #[Xr t.Qc,QE t.Qi.length (Qg QZ t.Qi),QE t.Qj.length (Qg QZ t.Qj)]]).map (Q2 0 4))) XV 1
 (py rf Qa t++[(24,Wo)]) 0 [] []) []=some (.bool false,
 [(!Km (↑t.Qj.length:Int) rf.seasons)=true]++eF B rf Qa t):=by kernel_rfl
theorem yX(B:Lo)(rf:Qe)(Qa:List Int)(t:Ql):landM (Qq YP (Q3 YP) J0 B 12 1 (Qp YP 27 136 (([.agg (Q0 rf).toArray,Xr Qa,.agg #[Xr t.Qc,QE t.Qi.length (Qg QZ t.Qi),QE t.Qj.length (Qg QZ t.Qj)]]).map (Q2 0 4))) XV 1
 (py rf Qa t++[(24,W8)]) 0 [] []) [1,3,5,7] [(1,KS.auto),(2,KS.auto)] []=some ⟨27,136,YG,[],.run,none,YF rf Qa t (0),V4 rf Qa t (0),
 [(!Km (↑t.Qj.length:Int) rf.seasons)=false]++eF B rf Qa t⟩:=by kernel_rfl
set_option maxHeartbeats 4000000 in
theorem Cb(rf:Qe)(Qa:List Int)(t:Ql)(hr:QD rf=true)(hpl:(Qa.length:Int)=rf.seasons)(hp:∀j:Nat,0<=Qa.getD j default/\Qa.getD j default<=1000000){B:Lo}(hJ:∀w,B.has w->J0 w){c0:CF}:∀m:Nat,(∀(i:Int),(rf.Qb.length-i.toNat)+1000000=m->∀(h0:0<=i) (hgl:(t.Qi.length:Int)=rf.seasons) (htl:(t.Qj.length:Int)=rf.seasons) (hsl:t.Qc.length=rf.Qb.length),Ce B c0 rf Qa t i->EndsT YP B c0 (.bool (bW t.Qc (rf.Qb.map (Xw rf.miss)) i && Ss rf Qa t.Qi t.Qj 0)))/\(∀(s:Int),(rf.seasons-s).toNat*1000+900=m->∀(s0:0<=s) (hgl:(t.Qi.length:Int)=rf.seasons) (htl:(t.Qj.length:Int)=rf.seasons),Cd B c0 rf Qa t s->EndsT YP B c0 (.bool (Ss rf Qa t.Qi t.Qj s)))/\(∀(s i:Int),(rf.seasons-s).toNat*1000+800-i.toNat=m->∀(s0:0<=s) (s1:s<rf.seasons) (i0:0<=i) (i1:i<=rf.Qb.length) (hgl:(t.Qi.length:Int)=rf.seasons) (htl:(t.Qj.length:Int)=rf.seasons) (hg:(t.Qi.getD s.toNat default).length=rf.Qb.length) (ht:(t.Qj.getD s.toNat default).length=rf.Qb.length),Cc B c0 rf Qa t s i->EndsT YP B c0 (.bool (bW (t.Qi.getD s.toNat default) (rf.Qb.map Xl) i && (bW (t.Qj.getD s.toNat default) (Xk rf.Qb (Qa.getD s.toNat default)) i && Ss rf Qa t.Qi t.Qj (s+1))))):=by
 intro m0;induction m0 using Nat.strongRecOn with
 |_ m0 ih0=>
  refine⟨?_, ?_, ?_⟩
  ·intro i hm0 h0 hgl htl hsl ⟨Qn,Ur,XM⟩;have Zm:=Qy (Q7 hr).1;have Zm:=Qy (Q7 hr).1;by_cases q0:(i:Int)<((↑rf.Qb.length:Int))
   ·have WB:Qz (eO B rf Qa t i Qn):=by
     have k1:t.Qc.length=rf.Qb.length:=(by omega)
     have k2:(t.Qi.length:Int)=rf.seasons:=(by omega)
     have k3:(t.Qj.length:Int)=rf.seasons:=(by omega)
     have hcs:=(Vj ((Q7 hr).2 i h0 q0).1).1;have s2:=XH (xs:=t.Qc) (ss:=rf.Qb.map (Xw rf.miss)) (i:=i) (by omega);have m1:=Zy (f:=Xw rf.miss) h0 q0;exact⟨⟨trivial,NN (rf) (Qd.count (rf.Qb.getD i.toNat default)) (by omega) (by omega)⟩,⟨⟨by omega,by omega,(Q4 (z:=12) (fun _=>rfl) (by omega))⟩,⟨⟨by omega,by omega,(Q4 (z:=12) (fun _=>rfl) (by omega))⟩,⟨⟨by omega,by omega,(Q4 (z:=1) (fun _=>rfl) (by omega))⟩,⟨(XF q0),trivial⟩⟩⟩⟩⟩
    cases q1:WQ (t.Qc.getD i.toNat default) (Qd.count (rf.Qb.getD i.toNat default)) (Yk rf.miss (Qd.count (rf.Qb.getD i.toNat default)))with
    |true=>
     have k1:t.Qc.length=rf.Qb.length:=(by omega)
     have k2:(t.Qi.length:Int)=rf.seasons:=(by omega)
     have k3:(t.Qj.length:Int)=rf.seasons:=(by omega)
     have hcs:=(Vj ((Q7 hr).2 i h0 q0).1).1;have s2:=XH (xs:=t.Qc) (ss:=rf.Qb.map (Xw rf.miss)) (i:=i) (by omega);have m1:=Zy (f:=Xw rf.miss) h0 q0;exact((ih0 _ (by omega)).1 (i+1) rfl (by omega) (by with_reducible assumption) (by with_reducible assumption) (by with_reducible assumption)
      (XM.landM okF hJ Qf (Ca B rf Qa t i Qn)
      ⟨(Xy (by omega) (by omega)),⟨⟨trivial,(by have t_:=jh (t.Qc.getD i.toNat default) (Qd.count (rf.Qb.getD i.toNat default)) (Yk rf.miss (Qd.count (rf.Qb.getD i.toNat default)));rw[q1]at t_;exact t_)⟩,WB⟩⟩ (by kernel_rfl) (by kernel_rfl))).cast (by(rw[s2,m1];simp_all[Xw];done))
    |false=>
     have k1:t.Qc.length=rf.Qb.length:=(by omega)
     have k2:(t.Qi.length:Int)=rf.seasons:=(by omega)
     have k3:(t.Qj.length:Int)=rf.seasons:=(by omega)
     have hcs:=(Vj ((Q7 hr).2 i h0 q0).1).1;have s2:=XH (xs:=t.Qc) (ss:=rf.Qb.map (Xw rf.miss)) (i:=i) (by omega);have m1:=Zy (f:=Xw rf.miss) h0 q0;exact(GoE.endsT okF hJ Qf XM (BZ B rf Qa t i Qn)
      ⟨⟨trivial,(by have t_:=jh (t.Qc.getD i.toNat default) (Qd.count (rf.Qb.getD i.toNat default)) (Yk rf.miss (Qd.count (rf.Qb.getD i.toNat default)));rw[q1]at t_;exact t_)⟩,WB⟩).cast (by(rw[s2,m1];simp_all[Xw];done))
   ·have k1:t.Qc.length=rf.Qb.length:=(by omega)
    have k2:(t.Qi.length:Int)=rf.seasons:=(by omega)
    have k3:(t.Qj.length:Int)=rf.seasons:=(by omega)
    have s2:=bV (xs:=t.Qc) (ss:=rf.Qb.map (Xw rf.miss)) (i:=i) (by omega);exact((ih0 _ (by omega)).2.1 (0) rfl (by omega) (by with_reducible assumption) (by with_reducible assumption)
     (XM.landM okF hJ Qf (BY B rf Qa t i Qn)
     ⟨(XO (Int.not_lt.1 q0)),trivial⟩ (by kernel_rfl) (by kernel_rfl))).cast (by(rw[s2];simp;done))
  ·intro s hm0 s0 hgl htl ⟨Qn,Ur,XM⟩;have Zm:=Qy (Q7 hr).1;have Zm:=Qy (Q7 hr).1;have pd:Qa.getD s.toNat 0=Qa.getD s.toNat default:=rfl;by_cases q0:(s:Int)<rf.seasons
   ·have JE:Qz (eN B rf Qa t s Qn):=by
     have k2:(t.Qi.length:Int)=rf.seasons:=(by omega)
     have k3:(t.Qj.length:Int)=rf.seasons:=(by omega)
     have s2:=V0 (Qa:=Qa) (gs:=t.Qi) (ts:=t.Qj) q0;exact⟨⟨by omega,by omega,(Q4 (z:=1) (fun _=>rfl) (by omega))⟩,⟨(XF q0),trivial⟩⟩
    by_cases q1:((↑(List.length (t.Qi.getD s.toNat default)):Int):Int)≠((↑rf.Qb.length:Int))
    ·have k2:(t.Qi.length:Int)=rf.seasons:=(by omega)
     have k3:(t.Qj.length:Int)=rf.seasons:=(by omega)
     have s2:=V0 (Qa:=Qa) (gs:=t.Qi) (ts:=t.Qj) q0;exact(GoE.endsT okF hJ Qf XM (BX B rf Qa t s Qn)
      ⟨(Jx q1),JE⟩).cast (by(rw[s2,Ez (by omega)];rfl))
    ·have KE:Qz (eM B rf Qa t s Qn):=by
      have k2:(t.Qi.length:Int)=rf.seasons:=(by omega)
      have k3:(t.Qj.length:Int)=rf.seasons:=(by omega)
      have s2:=V0 (Qa:=Qa) (gs:=t.Qi) (ts:=t.Qj) q0;exact⟨⟨by omega,by omega,(Q4 (z:=1) (fun _=>rfl) (by omega))⟩,⟨(Yq (Decidable.of_not_not q1)),JE⟩⟩
     by_cases q2:((↑(List.length (t.Qj.getD s.toNat default)):Int):Int)≠((↑rf.Qb.length:Int))
     ·have k2:(t.Qi.length:Int)=rf.seasons:=(by omega)
      have k3:(t.Qj.length:Int)=rf.seasons:=(by omega)
      have s2:=V0 (Qa:=Qa) (gs:=t.Qi) (ts:=t.Qj) q0;exact(GoE.endsT okF hJ Qf XM (BW B rf Qa t s Qn)
       ⟨(Jx q2),KE⟩).cast (by(rw[s2,Ez (by omega)];rfl))
     ·have k2:(t.Qi.length:Int)=rf.seasons:=(by omega)
      have k3:(t.Qj.length:Int)=rf.seasons:=(by omega)
      have s2:=V0 (Qa:=Qa) (gs:=t.Qi) (ts:=t.Qj) q0;exact((ih0 _ (by omega)).2.2 (s) (0) rfl (by with_reducible assumption) (by with_reducible assumption) (by omega) (by omega) (by with_reducible assumption) (by with_reducible assumption) (by omega) (by omega)
       (XM.landM okF hJ Qf (BV B rf Qa t s Qn)
       ⟨(Yq (Decidable.of_not_not q2)),KE⟩ (by kernel_rfl) (by kernel_rfl))).cast (by(rw[s2,Iz (by omega) (by omega),Bool.and_assoc];done))
   ·have k2:(t.Qi.length:Int)=rf.seasons:=(by omega)
    have k3:(t.Qj.length:Int)=rf.seasons:=(by omega)
    have s2:=tS (rf:=rf) (Qa:=Qa) (gs:=t.Qi) (ts:=t.Qj) (i:=s) (by omega);exact(GoE.endsT okF hJ Qf XM (BU B rf Qa t s Qn)
     ⟨(XO (Int.not_lt.1 q0)),trivial⟩).cast (by(rw[s2];done))
  ·intro s i hm0 s0 s1 i0 i1 hgl htl hg ht ⟨Qn,Ur,XM⟩;have Zm:=Qy (Q7 hr).1;have Zm:=Qy (Q7 hr).1;have hpk:=hp s.toNat;by_cases q0:(i:Int)<((↑rf.Qb.length:Int))
   ·have hp3:Qz (eK B rf Qa t s i Qn):=by
     have k2:(t.Qi.length:Int)=rf.seasons:=(by omega)
     have k3:(t.Qj.length:Int)=rf.seasons:=(by omega)
     have s2:=XH (xs:=(t.Qi.getD s.toNat default)) (ss:=rf.Qb.map Xl) (i:=i) (by omega);have s3:=XH (xs:=(t.Qj.getD s.toNat default)) (ss:=Xk rf.Qb (Qa.getD s.toNat default)) (i:=i) (by omega);have m1:=Zy (f:=Xl) i0 q0;have m2:(Xk rf.Qb (Qa.getD s.toNat default)).getD i.toNat default=Z0 (Qa.getD s.toNat default) i (rf.Qb.getD i.toNat default):=X2 i0 q0;exact⟨⟨by omega,by omega,(Q4 (z:=12) (fun _=>rfl) (by omega))⟩,⟨⟨by omega,by omega,(Q4 (z:=1) (fun _=>rfl) (by omega))⟩,⟨⟨by omega,by omega,(Q4 (z:=1) (fun _=>rfl) (by omega))⟩,⟨(XF q0),trivial⟩⟩⟩⟩
    cases q1:WQ (List.getD (t.Qi.getD s.toNat default) i.toNat default) (Qd.glo (rf.Qb.getD i.toNat default)) (Qd.ghi (rf.Qb.getD i.toNat default))with
    |true=>
     have hp4:Qz (eJ B rf Qa t s i Qn):=by
      have k2:(t.Qi.length:Int)=rf.seasons:=(by omega)
      have k3:(t.Qj.length:Int)=rf.seasons:=(by omega)
      have s2:=XH (xs:=(t.Qi.getD s.toNat default)) (ss:=rf.Qb.map Xl) (i:=i) (by omega);have s3:=XH (xs:=(t.Qj.getD s.toNat default)) (ss:=Xk rf.Qb (Qa.getD s.toNat default)) (i:=i) (by omega);have m1:=Zy (f:=Xl) i0 q0;have m2:(Xk rf.Qb (Qa.getD s.toNat default)).getD i.toNat default=Z0 (Qa.getD s.toNat default) i (rf.Qb.getD i.toNat default):=X2 i0 q0;exact⟨⟨by omega,by omega,(Q4 (z:=1) (fun _=>rfl) (by omega))⟩,⟨⟨by omega,by omega,(Q4 (z:=12) (fun _=>rfl) (by omega))⟩,⟨⟨by omega,by omega,(Q4 (z:=1) (fun _=>rfl) (by omega))⟩,⟨⟨by omega,by omega,(Q4 (z:=1) (fun _=>rfl) (by omega))⟩,⟨⟨trivial,(by have t_:=TM (List.getD (t.Qi.getD s.toNat default) i.toNat default) (Qd.glo (rf.Qb.getD i.toNat default)) (Qd.ghi (rf.Qb.getD i.toNat default));rw[q1]at t_;exact t_)⟩,hp3⟩⟩⟩⟩⟩
     cases q2:hasB (Qa.getD s.toNat default) i with
     |true=>
      have hp5:Qz (eI B rf Qa t s i Qn):=by
       have k2:(t.Qi.length:Int)=rf.seasons:=(by omega)
       have k3:(t.Qj.length:Int)=rf.seasons:=(by omega)
       have s2:=XH (xs:=(t.Qi.getD s.toNat default)) (ss:=rf.Qb.map Xl) (i:=i) (by omega);have s3:=XH (xs:=(t.Qj.getD s.toNat default)) (ss:=Xk rf.Qb (Qa.getD s.toNat default)) (i:=i) (by omega);have m1:=Zy (f:=Xl) i0 q0;have m2:(Xk rf.Qb (Qa.getD s.toNat default)).getD i.toNat default=Z0 (Qa.getD s.toNat default) i (rf.Qb.getD i.toNat default):=X2 i0 q0;exact⟨⟨trivial,Pn (rf.Qb.getD i.toNat default) (true)⟩,⟨⟨trivial,(by have t_:=oH (Qa.getD s.toNat default) (i) (by omega) (by omega);rw[q2]at t_;exact t_)⟩,hp4⟩⟩
      cases q3:WQ (List.getD (t.Qj.getD s.toNat default) i.toNat default) (if true=true then Qd.slo (rf.Qb.getD i.toNat default)else Qd.olo (rf.Qb.getD i.toNat default)) (if true=true then Qd.shi (rf.Qb.getD i.toNat default)else Qd.ohi (rf.Qb.getD i.toNat default))with
      |true=>
       have k2:(t.Qi.length:Int)=rf.seasons:=(by omega)
       have k3:(t.Qj.length:Int)=rf.seasons:=(by omega)
       have s2:=XH (xs:=(t.Qi.getD s.toNat default)) (ss:=rf.Qb.map Xl) (i:=i) (by omega);have s3:=XH (xs:=(t.Qj.getD s.toNat default)) (ss:=Xk rf.Qb (Qa.getD s.toNat default)) (i:=i) (by omega);have m1:=Zy (f:=Xl) i0 q0;have m2:(Xk rf.Qb (Qa.getD s.toNat default)).getD i.toNat default=Z0 (Qa.getD s.toNat default) i (rf.Qb.getD i.toNat default):=X2 i0 q0;exact((ih0 _ (by omega)).2.2 (s) (i+1) rfl (by with_reducible assumption) (by with_reducible assumption) (by omega) (by omega) (by with_reducible assumption) (by with_reducible assumption) (by with_reducible assumption) (by with_reducible assumption)
        (XM.landM okF hJ Qf (BT B rf Qa t s i Qn)
        ⟨(Xy (by omega) (by omega)),⟨⟨trivial,(by have t_:=TM (List.getD (t.Qj.getD s.toNat default) i.toNat default) (if true=true then Qd.slo (rf.Qb.getD i.toNat default)else Qd.olo (rf.Qb.getD i.toNat default)) (if true=true then Qd.shi (rf.Qb.getD i.toNat default)else Qd.ohi (rf.Qb.getD i.toNat default));rw[q3]at t_;exact t_)⟩,hp5⟩⟩ (by kernel_rfl) (by kernel_rfl))).cast (by(rw[s2,s3,m1,m2];simp_all[Xl,Z0,RE,WS];done))
      |false=>
       have k2:(t.Qi.length:Int)=rf.seasons:=(by omega)
       have k3:(t.Qj.length:Int)=rf.seasons:=(by omega)
       have s2:=XH (xs:=(t.Qi.getD s.toNat default)) (ss:=rf.Qb.map Xl) (i:=i) (by omega);have s3:=XH (xs:=(t.Qj.getD s.toNat default)) (ss:=Xk rf.Qb (Qa.getD s.toNat default)) (i:=i) (by omega);have m1:=Zy (f:=Xl) i0 q0;have m2:(Xk rf.Qb (Qa.getD s.toNat default)).getD i.toNat default=Z0 (Qa.getD s.toNat default) i (rf.Qb.getD i.toNat default):=X2 i0 q0;exact(GoE.endsT okF hJ Qf XM (BS B rf Qa t s i Qn)
        ⟨⟨trivial,(by have t_:=TM (List.getD (t.Qj.getD s.toNat default) i.toNat default) (if true=true then Qd.slo (rf.Qb.getD i.toNat default)else Qd.olo (rf.Qb.getD i.toNat default)) (if true=true then Qd.shi (rf.Qb.getD i.toNat default)else Qd.ohi (rf.Qb.getD i.toNat default));rw[q3]at t_;exact t_)⟩,hp5⟩).cast (by(rw[s2,s3,m1,m2];simp_all[Xl,Z0,RE,WS];done))
     |false=>
      have hp6:Qz (eH B rf Qa t s i Qn):=by
       have k2:(t.Qi.length:Int)=rf.seasons:=(by omega)
       have k3:(t.Qj.length:Int)=rf.seasons:=(by omega)
       have s2:=XH (xs:=(t.Qi.getD s.toNat default)) (ss:=rf.Qb.map Xl) (i:=i) (by omega);have s3:=XH (xs:=(t.Qj.getD s.toNat default)) (ss:=Xk rf.Qb (Qa.getD s.toNat default)) (i:=i) (by omega);have m1:=Zy (f:=Xl) i0 q0;have m2:(Xk rf.Qb (Qa.getD s.toNat default)).getD i.toNat default=Z0 (Qa.getD s.toNat default) i (rf.Qb.getD i.toNat default):=X2 i0 q0;exact⟨⟨trivial,Pn (rf.Qb.getD i.toNat default) (false)⟩,⟨⟨trivial,(by have t_:=oH (Qa.getD s.toNat default) (i) (by omega) (by omega);rw[q2]at t_;exact t_)⟩,hp4⟩⟩
      cases q3:WQ (List.getD (t.Qj.getD s.toNat default) i.toNat default) (if false=true then Qd.slo (rf.Qb.getD i.toNat default)else Qd.olo (rf.Qb.getD i.toNat default)) (if false=true then Qd.shi (rf.Qb.getD i.toNat default)else Qd.ohi (rf.Qb.getD i.toNat default))with
      |true=>
       have k2:(t.Qi.length:Int)=rf.seasons:=(by omega)
       have k3:(t.Qj.length:Int)=rf.seasons:=(by omega)
       have s2:=XH (xs:=(t.Qi.getD s.toNat default)) (ss:=rf.Qb.map Xl) (i:=i) (by omega);have s3:=XH (xs:=(t.Qj.getD s.toNat default)) (ss:=Xk rf.Qb (Qa.getD s.toNat default)) (i:=i) (by omega);have m1:=Zy (f:=Xl) i0 q0;have m2:(Xk rf.Qb (Qa.getD s.toNat default)).getD i.toNat default=Z0 (Qa.getD s.toNat default) i (rf.Qb.getD i.toNat default):=X2 i0 q0;exact((ih0 _ (by omega)).2.2 (s) (i+1) rfl (by with_reducible assumption) (by with_reducible assumption) (by omega) (by omega) (by with_reducible assumption) (by with_reducible assumption) (by with_reducible assumption) (by with_reducible assumption)
        (XM.landM okF hJ Qf (BR B rf Qa t s i Qn)
        ⟨(Xy (by omega) (by omega)),⟨⟨trivial,(by have t_:=TM (List.getD (t.Qj.getD s.toNat default) i.toNat default) (if false=true then Qd.slo (rf.Qb.getD i.toNat default)else Qd.olo (rf.Qb.getD i.toNat default)) (if false=true then Qd.shi (rf.Qb.getD i.toNat default)else Qd.ohi (rf.Qb.getD i.toNat default));rw[q3]at t_;exact t_)⟩,hp6⟩⟩ (by kernel_rfl) (by kernel_rfl))).cast (by(rw[s2,s3,m1,m2];simp_all[Xl,Z0,RE,WS];done))
      |false=>
       have k2:(t.Qi.length:Int)=rf.seasons:=(by omega)
       have k3:(t.Qj.length:Int)=rf.seasons:=(by omega)
       have s2:=XH (xs:=(t.Qi.getD s.toNat default)) (ss:=rf.Qb.map Xl) (i:=i) (by omega);have s3:=XH (xs:=(t.Qj.getD s.toNat default)) (ss:=Xk rf.Qb (Qa.getD s.toNat default)) (i:=i) (by omega);have m1:=Zy (f:=Xl) i0 q0;have m2:(Xk rf.Qb (Qa.getD s.toNat default)).getD i.toNat default=Z0 (Qa.getD s.toNat default) i (rf.Qb.getD i.toNat default):=X2 i0 q0;exact(GoE.endsT okF hJ Qf XM (ze B rf Qa t s i Qn)
        ⟨⟨trivial,(by have t_:=TM (List.getD (t.Qj.getD s.toNat default) i.toNat default) (if false=true then Qd.slo (rf.Qb.getD i.toNat default)else Qd.olo (rf.Qb.getD i.toNat default)) (if false=true then Qd.shi (rf.Qb.getD i.toNat default)else Qd.ohi (rf.Qb.getD i.toNat default));rw[q3]at t_;exact t_)⟩,hp6⟩).cast (by(rw[s2,s3,m1,m2];simp_all[Xl,Z0,RE,WS];done))
    |false=>
     have k2:(t.Qi.length:Int)=rf.seasons:=(by omega)
     have k3:(t.Qj.length:Int)=rf.seasons:=(by omega)
     have s2:=XH (xs:=(t.Qi.getD s.toNat default)) (ss:=rf.Qb.map Xl) (i:=i) (by omega);have s3:=XH (xs:=(t.Qj.getD s.toNat default)) (ss:=Xk rf.Qb (Qa.getD s.toNat default)) (i:=i) (by omega);have m1:=Zy (f:=Xl) i0 q0;have m2:(Xk rf.Qb (Qa.getD s.toNat default)).getD i.toNat default=Z0 (Qa.getD s.toNat default) i (rf.Qb.getD i.toNat default):=X2 i0 q0;exact(GoE.endsT okF hJ Qf XM (zd B rf Qa t s i Qn)
      ⟨⟨trivial,(by have t_:=TM (List.getD (t.Qi.getD s.toNat default) i.toNat default) (Qd.glo (rf.Qb.getD i.toNat default)) (Qd.ghi (rf.Qb.getD i.toNat default));rw[q1]at t_;exact t_)⟩,hp3⟩).cast (by(rw[s2,s3,m1,m2];simp_all[Xl,Z0,RE,WS];done))
   ·have k2:(t.Qi.length:Int)=rf.seasons:=(by omega)
    have k3:(t.Qj.length:Int)=rf.seasons:=(by omega)
    have s2:=bV (xs:=(t.Qi.getD s.toNat default)) (ss:=rf.Qb.map Xl) (i:=i) (by omega);have s3:=bV (xs:=(t.Qj.getD s.toNat default)) (ss:=Xk rf.Qb (Qa.getD s.toNat default)) (i:=i) (by omega);exact((ih0 _ (by omega)).2.1 (s+1) rfl (by omega) (by with_reducible assumption) (by with_reducible assumption)
     (XM.landM okF hJ Qf (zb B rf Qa t s i Qn)
     ⟨(Xy (by omega) (by omega)),⟨(XO (Int.not_lt.1 q0)),trivial⟩⟩ (by kernel_rfl) (by kernel_rfl))).cast (by(rw[s2,s3];simp;done))
set_option maxHeartbeats 4000000 in
theorem E7(rf:Qe)(Qa:List Int)(t:Ql)(hr:QD rf=true)(hpl:(Qa.length:Int)=rf.seasons)(hp:∀j:Nat,0<=Qa.getD j default/\Qa.getD j default<=1000000){B:Lo}(hJ:∀w,B.has w->J0 w):EndsT YP B (Qp YP 27 136 (([.agg (Q0 rf).toArray,Xr Qa,.agg #[Xr t.Qc,QE t.Qi.length (Qg QZ t.Qi),QE t.Qj.length (Qg QZ t.Qj)]]).map (Q2 0 4))) (.bool (Xz rf Qa t)):=by
 have Zm:=Qy (Q7 hr).1;by_cases q0:((↑t.Qc.length:Int):Int)≠((↑rf.Qb.length:Int))
 ·exact(GoE.endsT okF hJ Qf GoE.start (za B rf Qa t)
   ⟨(Jx q0),trivial⟩).cast (by(rw[jX (by omega)];done))
 ·have hp7:Qz (eG B rf Qa t):=by
   exact⟨(Yq (Decidable.of_not_not q0)),trivial⟩
  by_cases q1:((↑t.Qi.length:Int):Int)≠rf.seasons
  ·have k1:t.Qc.length=rf.Qb.length:=(by omega)
   exact(GoE.endsT okF hJ Qf GoE.start (yZ B rf Qa t)
    ⟨(Jx q1),hp7⟩).cast (by(rw[jX (by omega)];done))
  ·have hp8:Qz (eF B rf Qa t):=by
    exact⟨(Yq (Decidable.of_not_not q1)),hp7⟩
   by_cases q2:((↑t.Qj.length:Int):Int)≠rf.seasons
   ·have k1:t.Qc.length=rf.Qb.length:=(by omega)
    have k2:(t.Qi.length:Int)=rf.seasons:=(by omega)
    exact(GoE.endsT okF hJ Qf GoE.start (yY B rf Qa t)
     ⟨(Jx q2),hp8⟩).cast (by(rw[jX (by omega)];done))
   ·have k1:t.Qc.length=rf.Qb.length:=(by omega)
    have k2:(t.Qi.length:Int)=rf.seasons:=(by omega)
    have k3:(t.Qj.length:Int)=rf.seasons:=(by omega)
    exact((Cb rf Qa t hr hpl hp hJ _).1 (0) rfl (by omega) (by with_reducible assumption) (by with_reducible assumption) (by with_reducible assumption)
     (GoE.start.landM okF hJ Qf (yX B rf Qa t)
     ⟨(Yq (Decidable.of_not_not q2)),hp8⟩ (by kernel_rfl) (by kernel_rfl))).cast (by(rw[BL (by omega) (by omega) (by omega)];done))
theorem MJ(rf:Qe)(Qa:List Int)(t:Ql)(hr:QD rf=true)(hpl:(Qa.length:Int)=rf.seasons)(hp:∀j:Nat,0<=Qa.getD j default/\Qa.getD j default<=1000000):Qx YP J0 27 #[.agg (Q0 rf).toArray,Xr Qa,.agg #[Xr t.Qc,QE t.Qi.length (Qg QZ t.Qi),QE t.Qj.length (Qg QZ t.Qj)]] (.bool (Xz rf Qa t)):=
 Xn (ts:=[.agg (Q0 rf).toArray,Xr Qa,.agg #[Xr t.Qc,QE t.Qi.length (Qg QZ t.Qi),QE t.Qj.length (Qg QZ t.Qj)]]) Za (c0:=Qp YP 27 136 (([.agg (Q0 rf).toArray,Xr Qa,.agg #[Xr t.Qc,QE t.Qi.length (Qg QZ t.Qi),QE t.Qj.length (Qg QZ t.Qj)]]).map (Q2 0 4))) (by kernel_rfl) (by kernel_rfl) fun B hJ=>E7 rf Qa t hr hpl hp hJ
end
end Go.Proofs.Ytncjjangllkokaa

namespace Go.Proofs.Ytncjjangllkokaa
open Go Go.CE Go.RowKit
noncomputable section
set_option maxRecDepth 100000
theorem MV{n:Nat}(h:n<=4):((Vz n:Nat):Int)<=16:=by
 unfold Vz;have:n=0\/n=1\/n=2\/n=3\/n=4:=by omega
 rcases this with rfl|rfl|rfl|rfl|rfl <;> decide
theorem Zq{rf:Qe}{Qa:List Int}(hr:XT rf=true)(hp:QG rf Qa=true)(j:Nat):0<=Qa.getD j 0/\Qa.getD j 0<=15:=by
 have h:=(QM hp).2;have h4:=MV (n:=rf.Qb.length) (by have:=Qy (Q8 hr).1;omega);by_cases hj:j<Qa.length
 ·have e:Qa.getD j 0=Qa[j]:=by simp[List.getD_eq_getElem?_getD,hj]
  have:=h Qa[j] (List.getElem_mem hj);rw[e];omega
 ·rw[List.getD_eq_getElem?_getD,List.getElem?_eq_none (by omega)];exact⟨Int.le_refl _,by decide⟩
theorem K4{xs:List Int}{ss:List Span}(h:Pk xs ss=true):xs.length=ss.length/\∀k:Int,0<=k->k<xs.length->(ss.getD k.toNat default).lo<=xs.getD k.toNat default/\xs.getD k.toNat default<=(ss.getD k.toNat default).hi:=by
 unfold Pk at h;simp only[YB,decide_eq_true_iff]at h;exact⟨h.1,fun k h0 h1=>VL.1 (j8 h.2 h0 h1)⟩
theorem Sy{rf:Qe}{Qa:List Int}{t:Ql}(h:Xz rf Qa t=true):Pk t.Qc (rf.Qb.map (Xw rf.miss))=true/\(t.Qi.length:Int)=rf.seasons/\(t.Qj.length:Int)=rf.seasons/\∀s:Int,0<=s->s<rf.seasons->Pk (t.Qi.getD s.toNat default) (rf.Qb.map Xl)=true/\Pk (t.Qj.getD s.toNat default) (Xk rf.Qb (Qa.getD s.toNat 0))=true:=by
 unfold Xz at h;simp only[YB,decide_eq_true_iff]at h;refine⟨h.1,h.2.1,h.2.2.1,fun s h0 h1=> ?_⟩;have:=j8 h.2.2.2 h0 h1;unfold k8 at this;simpa only[YB]using this
theorem zy{rf:Qe}(hr:XT rf=true):Jq rf.Qb:=by
 have hs:=Qy (Q8 hr).1;refine⟨by omega,fun k h0 h1=> ?_⟩;have h:=(Q8 hr).2 k h0 h1;have hp:=Xx h.1;exact⟨hp.2.1,hp.2.2.2.2.2.1,h.2.1,h.2.2⟩
theorem KO{ps:List Qd}{p k:Int}(h0:0<=k)(h:k<ps.length):(Xk ps p).getD k.toNat default=Z0 p k (ps.getD k.toNat default):=X2 h0 h
theorem Wg{ps:List Qd}{p:Int}:(Xk ps p).length=ps.length:=by rw[Xk,Zo];omega
theorem TF{rf:Qe}(hr:XT rf=true){p k:Int}(h0:0<=k)(h:k<rf.Qb.length):0<=(Z0 p k (rf.Qb.getD k.toNat default)).lo/\(Z0 p k (rf.Qb.getD k.toNat default)).lo<=(Z0 p k (rf.Qb.getD k.toNat default)).hi/\(Z0 p k (rf.Qb.getD k.toNat default)).hi<=1000000:=by
 have hp:=Xx ((Q8 hr).2 k h0 h).1;unfold Z0;split
 ·exact hp.2.2.2.2.2.2.2.1
 ·exact hp.2.2.2.2.2.2.1
theorem fx{rf:Qe}{Qa:List Int}{t:Ql}(hr:XT rf=true)(ht:Xz rf Qa t=true):OkT rf.Qb rf.seasons t.Qi t.Qj (Qu t.Qc)/\t.Qc.length=rf.Qb.length:=by
 have hs:=Qy (Q8 hr).1;obtain⟨h1,h2,h3,h4⟩:=Sy ht;obtain⟨s1,s2⟩:=K4 h1;rw[List.length_map]at s1;have st:∀k:Int,0<=k->k<4->0<=nth t.Qc k/\nth t.Qc k<=4000000:=fun k k0 k1=>by
  by_cases hk:k<rf.Qb.length
  ·have hp:=Xx ((Q8 hr).2 k k0 hk).1;have:=s2 k k0 (by omega);rw[Zy k0 hk]at this;have hm:=Po (a:=(rf.Qb.getD k.toNat default).count) (r:=rf.miss) (by omega) (by omega);have hm2:(rf.Qb.getD k.toNat default).count*rf.miss<=1000000*2000:=Int.mul_le_mul hp.1.2 hs.2.1.2 hs.2.1.1 (by omega);have e2:((rf.Qb.getD k.toNat default).count*rf.miss).tdiv 1000=((rf.Qb.getD k.toNat default).count*rf.miss) / 1000:=Int.tdiv_eq_ediv_of_nonneg hm.1;simp only[Xw,Yk]at this;unfold nth;omega
  ·unfold nth;rw[List.getD_eq_getElem?_getD,List.getElem?_eq_none (by omega)];exact⟨Int.le_refl _,by decide⟩
 have a0:=st 0 (by omega) (by omega);have a1:=st 1 (by omega) (by omega);have a2:=st 2 (by omega) (by omega);have a3:=st 3 (by omega) (by omega);have es:(Qu t.Qc).sum=nth t.Qc 0+nth t.Qc 1+nth t.Qc 2+nth t.Qc 3:=rfl;refine⟨⟨zy hr,by omega,by omega,by omega,h2,h3,fun k hk=> ?_,fun k hk=> ?_,⟨⟨a0.1,a1.1,a2.1,a3.1⟩,by omega⟩,by omega⟩,s1⟩
 ·obtain⟨g1,g2⟩:=K4 (h4 k (by omega) hk).1;rw[List.length_map]at g1;simp only[Int.toNat_natCast]at g1 g2;refine⟨g1,fun j j0 j1=> ?_⟩;have hp:=Xx ((Q8 hr).2 j j0 (by omega)).1;have:=g2 j j0 (by rw[g1];exact j1);rw[Zy j0 j1]at this;simp only[Xl]at this;show 0<=(t.Qi.getD k default).getD j.toNat default/\(t.Qi.getD k default).getD j.toNat default<=2000;omega
 ·obtain⟨g1,g2⟩:=K4 (h4 k (by omega) hk).2;rw[Wg]at g1;simp only[Int.toNat_natCast]at g1 g2;refine⟨g1,fun j j0 j1=> ?_⟩;have:=g2 j j0 (by rw[g1];exact j1);rw[KO j0 j1]at this;have hp:=TF hr (p:=Qa.getD k 0) j0 j1;show 0<=(t.Qj.getD k default).getD j.toNat default/\(t.Qj.getD k default).getD j.toNat default<=1000000;omega
abbrev X8(xs:List (List Int)):Value:=QE xs.length (Qg QZ xs)
def Gr(rf:Qe)(t:Ql):Array Value:=let e:=t.Qj;let d:=t.Qi;let c:=rf.Qb;let b:=rf.seasons;let a:=Qu t.Qc;#[.int .i64 a.sum,.int .i64 (Xb 0 b (Ul c d e a)),.int .i64 (Xb 0 b (Wv c d e a)),.int .i64 (Xb 0 b (Ug c d e a)),.int .i64 (F4.sum (Yn c d e a b.toNat))]
def cN(rf:Qe)(Qa:List Int):Array Value:=#[QE rf.Qb.length (Qg Qh rf.Qb),.int .i64 rf.miss,.int .i64 rf.seasons,.int .i64 (Qa.getD 0 0),.int .i64 (Qa.getD 1 0),.int .i64 (Qa.getD 2 0),.int .i64 (Qa.getD 3 0)]
def cM(rf:Qe):Array Value:=#[QE rf.Qb.length (Qg Qh rf.Qb),.int .i64 rf.miss,.int .i64 rf.seasons]
def mc(t:Ql):Array Value:=#[QE t.Qc.length (Qg Q9 t.Qc),QE t.Qi.length (Qg QZ t.Qi),QE t.Qj.length (Qg QZ t.Qj)]
def mb  :Array Value:=#[QE 0 #[],.agg #[.int .i64 0,.int .i64 0,.int .i64 0,.int .i64 0,.int .i64 0],.int .i64 2]
def Gq(rf:Qe)(t:Ql):=(XB rf.seasons rf.Qb t.Qi t.Qj (Qu t.Qc))
def ma(rf:Qe)(Qa:List Int):Array Value:=#[.agg (cM rf),QE Qa.length (Qg Q9 Qa)]
def me(B:Lo)(rf:Qe)(Qa:List Int)(t:Ql):List Prop:=[Qz []/\Qx YP J0 50 #[.agg (cM rf)] (.bool true)]++([]:List Prop)
def vE(rf:Qe)(Qa:List Int)(t:Ql):Q5:=[(6,Qk.pure (.bool true) [])]
def md(B:Lo)(rf:Qe)(Qa:List Int)(t:Ql):List Prop:=[Qz []/\Qx YP J0 52 (ma rf Qa) (.agg (cN rf Qa)),Qz []/\Qx YP J0 51 (ma rf Qa) (.bool true)]++me B rf Qa t
def vD(rf:Qe)(Qa:List Int)(t:Ql):Q5:=vE rf Qa t++[(11,Qk.pure (.bool true) []),(17,Qk.pure (.agg (cN rf Qa)) [])]
theorem Gv(B:Lo)(rf:Qe)(Qa:List Int)(t:Ql):let c:=Gr rf t;let b:=Gq rf t;let a:=XB rf.seasons rf.Qb t.Qi t.Qj (Qu t.Qc);QQ (Qq YP (Q3 YP) J0 B 13 1 (Qp YP 26 37 (([.agg (Q0 rf).toArray,Xr Qa,.agg #[Xr t.Qc,X8 t.Qi,X8 t.Qj]]).map (Q2 0 4))) XV 1
 (vD rf Qa t++[(19,Qk.pure (.bool true) []),(24,Qk.pure (.tuple #[QE b.length (Qg QZ b),.agg c]) [])]) 0 [] []) []=some (.tuple #[QE b.length (Qg QZ b),.agg c,.int .i64 0],
 [Qz []/\Qx YP J0 59 #[.agg (cM rf),.agg (mc t)] (.tuple #[QE a.length (Qg QZ a),.agg c]),Qz []/\Qx YP J0 58 #[.agg (cN rf Qa),.agg (mc t)] (.bool true)]++md B rf Qa t):=by intro c b a;kernel_rfl
theorem Gu(B:Lo)(rf:Qe)(Qa:List Int)(t:Ql):QQ (Qq YP (Q3 YP) J0 B 10 1 (Qp YP 26 37 (([.agg (Q0 rf).toArray,Xr Qa,.agg #[Xr t.Qc,X8 t.Qi,X8 t.Qj]]).map (Q2 0 4))) XV 1
 (vD rf Qa t++[(19,Qk.pure (.bool false) [])]) 0 [] []) []=some (.tuple mb,
 [Qz []/\Qx YP J0 58 #[.agg (cN rf Qa),.agg (mc t)] (.bool false)]++md B rf Qa t):=by kernel_rfl
theorem Gt(B:Lo)(rf:Qe)(Qa:List Int)(t:Ql):QQ (Qq YP (Q3 YP) J0 B 10 1 (Qp YP 26 37 (([.agg (Q0 rf).toArray,Xr Qa,.agg #[Xr t.Qc,X8 t.Qi,X8 t.Qj]]).map (Q2 0 4))) XV 1
 (vE rf Qa t++[(11,Qk.pure (.bool false) [])]) 0 [] []) []=some (.tuple mb,
 [Qz []/\Qx YP J0 51 (ma rf Qa) (.bool false)]++me B rf Qa t):=by kernel_rfl
theorem Gs(B:Lo)(rf:Qe)(Qa:List Int)(t:Ql):QQ (Qq YP (Q3 YP) J0 B 10 1 (Qp YP 26 37 (([.agg (Q0 rf).toArray,Xr Qa,.agg #[Xr t.Qc,X8 t.Qi,X8 t.Qj]]).map (Q2 0 4))) XV 1
 [(6,Qk.pure (.bool false) [])] 0 [] []) []=some (.tuple mb,
 [Qz []/\Qx YP J0 50 #[.agg (cM rf)] (.bool false)]):=by kernel_rfl
set_option maxHeartbeats 4000000 in
theorem IY(rf:Qe)(Qa:List Int)(t:Ql)  {B:Lo}(hJ:∀w,B.has w->J0 w):EndsT YP B (Qp YP 26 37 (([.agg (Q0 rf).toArray,Xr Qa,.agg #[Xr t.Qc,X8 t.Qi,X8 t.Qj]]).map (Q2 0 4))) (.tuple #[if QD rf && (QG rf Qa && Xz rf Qa t)then X8 (XB rf.seasons rf.Qb t.Qi t.Qj (Qu t.Qc))else X8 [],.agg #[.int .i64 (if QD rf && (QG rf Qa && Xz rf Qa t)then(Qu t.Qc).sum else 0),.int .i64 (if QD rf && (QG rf Qa && Xz rf Qa t)then Xb 0 rf.seasons (Ul rf.Qb t.Qi t.Qj (Qu t.Qc))else 0),.int .i64 (if QD rf && (QG rf Qa && Xz rf Qa t)then Xb 0 rf.seasons (Wv rf.Qb t.Qi t.Qj (Qu t.Qc))else 0),.int .i64 (if QD rf && (QG rf Qa && Xz rf Qa t)then Xb 0 rf.seasons (Ug rf.Qb t.Qi t.Qj (Qu t.Qc))else 0),.int .i64 (if QD rf && (QG rf Qa && Xz rf Qa t)then(Yn rf.Qb t.Qi t.Qj (Qu t.Qc) rf.seasons.toNat).sum else 0)],.int .i64 (if QD rf && (QG rf Qa && Xz rf Qa t)then 0 else 2)]):=by
 cases q0:QD rf with
 |true=>
  have WB:Qz (me B rf Qa t):=by
   have Wc:=XJ ‹QD rf=true›;have Zm:=Qy (Q7 ‹QD rf=true›).1;exact⟨⟨trivial,(by have t_:=ji (rf);rw[q0]at t_;exact t_)⟩,trivial⟩
  cases q1:QG rf Qa with
  |true=>
   have JE:Qz (md B rf Qa t):=by
    have Wc:=XJ ‹QD rf=true›;have Zm:=Qy (Q7 ‹QD rf=true›).1;have Pr:=(QM ‹QG rf Qa=true›).1;have hpg:=(fun j=>(fun h=>⟨h.1,by omega⟩) (Zq Wc ‹QG rf Qa=true› j):∀j:Nat,0<=Qa.getD j 0/\Qa.getD j 0<=1000000)
    exact⟨⟨trivial,pW (rf) (Qa) (by omega) (by omega)⟩,⟨⟨trivial,(by have t_:=jj (rf) (Qa) (by omega);rw[q1]at t_;exact t_)⟩,WB⟩⟩
   cases q2:Xz rf Qa t with
   |true=>
    have Wc:=XJ ‹QD rf=true›;have Zm:=Qy (Q7 ‹QD rf=true›).1;have Pr:=(QM ‹QG rf Qa=true›).1;have hpg:=(fun j=>(fun h=>⟨h.1,by omega⟩) (Zq Wc ‹QG rf Qa=true› j):∀j:Nat,0<=Qa.getD j 0/\Qa.getD j 0<=1000000)
    have QC:=fx Wc ‹Xz rf Qa t=true›;have hok1:=QC.1;have hok2:=QC.2;exact(GoE.endsT okF hJ Qf GoE.start (Gv B rf Qa t)
     ⟨⟨trivial,NY (rf) (t) (by with_reducible assumption) (by with_reducible assumption) (by omega) (by omega)⟩,⟨⟨trivial,(by have t_:=vn (rf) (Qa) (t) (by with_reducible assumption) (by omega) (by with_reducible assumption);rw[q2]at t_;exact t_)⟩,JE⟩⟩).cast (by rfl)
   |false=>
    have Wc:=XJ ‹QD rf=true›;have Zm:=Qy (Q7 ‹QD rf=true›).1;have Pr:=(QM ‹QG rf Qa=true›).1;have hpg:=(fun j=>(fun h=>⟨h.1,by omega⟩) (Zq Wc ‹QG rf Qa=true› j):∀j:Nat,0<=Qa.getD j 0/\Qa.getD j 0<=1000000)
    exact(GoE.endsT okF hJ Qf GoE.start (Gu B rf Qa t)
     ⟨⟨trivial,(by have t_:=vn (rf) (Qa) (t) (by with_reducible assumption) (by omega) (by with_reducible assumption);rw[q2]at t_;exact t_)⟩,JE⟩).cast (by rfl)
  |false=>
   have Wc:=XJ ‹QD rf=true›;have Zm:=Qy (Q7 ‹QD rf=true›).1;exact(GoE.endsT okF hJ Qf GoE.start (Gt B rf Qa t)
    ⟨⟨trivial,(by have t_:=jj (rf) (Qa) (by omega);rw[q1]at t_;exact t_)⟩,WB⟩).cast (by rfl)
 |false=>
  exact(GoE.endsT okF hJ Qf GoE.start (Gs B rf Qa t)
   ⟨⟨trivial,(by have t_:=ji (rf);rw[q0]at t_;exact t_)⟩,trivial⟩).cast (by rfl)
theorem Ob(rf:Qe)(Qa:List Int)(t:Ql)  :Qx YP J0 26 #[.agg (Q0 rf).toArray,Xr Qa,.agg #[Xr t.Qc,X8 t.Qi,X8 t.Qj]] (.tuple #[if QD rf && (QG rf Qa && Xz rf Qa t)then X8 (XB rf.seasons rf.Qb t.Qi t.Qj (Qu t.Qc))else X8 [],.agg #[.int .i64 (if QD rf && (QG rf Qa && Xz rf Qa t)then(Qu t.Qc).sum else 0),.int .i64 (if QD rf && (QG rf Qa && Xz rf Qa t)then Xb 0 rf.seasons (Ul rf.Qb t.Qi t.Qj (Qu t.Qc))else 0),.int .i64 (if QD rf && (QG rf Qa && Xz rf Qa t)then Xb 0 rf.seasons (Wv rf.Qb t.Qi t.Qj (Qu t.Qc))else 0),.int .i64 (if QD rf && (QG rf Qa && Xz rf Qa t)then Xb 0 rf.seasons (Ug rf.Qb t.Qi t.Qj (Qu t.Qc))else 0),.int .i64 (if QD rf && (QG rf Qa && Xz rf Qa t)then(Yn rf.Qb t.Qi t.Qj (Qu t.Qc) rf.seasons.toNat).sum else 0)],.int .i64 (if QD rf && (QG rf Qa && Xz rf Qa t)then 0 else 2)]):=
 Xn (ts:=[.agg (Q0 rf).toArray,Xr Qa,.agg #[Xr t.Qc,X8 t.Qi,X8 t.Qj]]) Za (c0:=Qp YP 26 37 (([.agg (Q0 rf).toArray,Xr Qa,.agg #[Xr t.Qc,X8 t.Qi,X8 t.Qj]]).map (Q2 0 4))) (by kernel_rfl) (by kernel_rfl) fun B hJ=>IY rf Qa t  hJ
end
end Go.Proofs.Ytncjjangllkokaa

namespace Go.Proofs.Ytncjjangllkokaa
open Go Go.CE Go.RowKit
def Qv(n:Int):Value:=.int .i64 n
def Xf(g:FuncId):Bool:=Nat.ble 3 g && (Nat.blt g 116 && !([]:List Nat).any (Nat.beq g))
theorem QA:∀g,Xf g=true->Q3 YP g=true:=by
 have h:(List.range 116).all (fun g=> !(Xf g) || Q3 YP g)=true:=by decide+kernel
 intro g hg;have hg':=hg;simp only[Xf,YB]at hg;have h1:g<116:=YL hg.2.1;have:=List.all_eq_true.1 h g (List.mem_range.2 h1);rw[hg']at this;simpa using this
def VN:Obj:=.cells #[Qv 1000,Qv 2000,Qv 200,Qv 300,Qv 100,Qv 1,Qv 200,Qv 300,Qv 0,Qv 50,Qv 900,Qv 10,Qv 500,Qv 800,Qv 100,Qv 200,Qv 0,Qv (-1),Qv 100,Qv 200,Qv 0,Qv 20,Qv 450,Qv 6] 54 (0,0)
def qZ:Obj:=.cells #[.slice (some ⟨2104,0,none⟩) 2 12,Qv 200,Qv 2,Qv 1,Qv 1,Qv 0,Qv 0] 84 (0,0)
def OY:Obj:=.cells #[Qv 1000,Qv 2000,Qv 200,Qv 300,Qv 100,Qv 1,Qv 200,Qv 300,Qv 0,Qv 50,Qv 900,Qv 10,Qv 500,Qv 800,Qv 100,Qv 200,Qv 0,Qv (-1),Qv 100,Qv 122,Qv 0,Qv 20,Qv 450,Qv 6] 54 (0,0)
def OX:Obj:=.cells #[Qv 1000,Qv 2000,Qv 200,Qv 300,Qv 100,Qv 1,Qv 200,Qv 300,Qv 0,Qv 50,Qv 900,Qv 10,Qv 500,Qv 800,Qv 100,Qv 200,Qv 0,Qv (-1),Qv 100,Qv 183,Qv 0,Qv 20,Qv 450,Qv 6] 54 (0,0)
def OW:Obj:=.cells #[Qv 1000,Qv 2000,Qv 200,Qv 300,Qv 100,Qv 1,Qv 200,Qv 300,Qv 0,Qv 50,Qv 900,Qv 10,Qv 500,Qv 800,Qv 100,Qv 200,Qv 0,Qv (-1),Qv 100,Qv 199,Qv 0,Qv 20,Qv 450,Qv 6] 54 (0,0)
def OV:Obj:=.cells #[Qv 1000,Qv 2000,Qv 200,Qv 300,Qv 100,Qv 1,Qv 200,Qv 300,Qv 0,Qv 50,Qv 900,Qv 10,Qv 500,Qv 800,Qv 100,Qv 200,Qv 0,Qv (-1),Qv 100,Qv 191,Qv 0,Qv 20,Qv 450,Qv 6] 54 (0,0)
def OU:Obj:=.cells #[Qv 1000,Qv 2000,Qv 200,Qv 300,Qv 100,Qv 1,Qv 200,Qv 300,Qv 0,Qv 50,Qv 900,Qv 10,Qv 500,Qv 800,Qv 100,Qv 200,Qv 0,Qv (-1),Qv 100,Qv 195,Qv 0,Qv 20,Qv 450,Qv 6] 54 (0,0)
def OT:Obj:=.cells #[Qv 1000,Qv 2000,Qv 200,Qv 300,Qv 100,Qv 1,Qv 200,Qv 300,Qv 0,Qv 50,Qv 900,Qv 10,Qv 500,Qv 800,Qv 100,Qv 200,Qv 0,Qv (-1),Qv 100,Qv 197,Qv 0,Qv 20,Qv 450,Qv 6] 54 (0,0)
def OS:Obj:=.cells #[Qv 1000,Qv 2000,Qv 200,Qv 300,Qv 100,Qv 1,Qv 200,Qv 300,Qv 0,Qv 50,Qv 900,Qv 10,Qv 500,Qv 800,Qv 100,Qv 200,Qv 0,Qv (-1),Qv 100,Qv 196,Qv 0,Qv 20,Qv 450,Qv 6] 54 (0,0)
end Go.Proofs.Ytncjjangllkokaa

namespace Go.Proofs.Ytncjjangllkokaa
open Go Go.CE Go.RowKit
def Al:Memo:=
 ⟨26,#[.agg #[.slice (some ⟨7,0,none⟩) 2 12,Qv 200,Qv 2],.slice (some ⟨8,0,none⟩) 2 1,.agg #[.slice (some ⟨9,0,none⟩) 2 1,.slice (some ⟨12,0,none⟩) 2 1,.slice (some ⟨15,0,none⟩) 2 1]],[(9,.cells #[Qv 1100,Qv 550] 3 (0,0)),(12,.cells #[.slice (some ⟨10,0,none⟩) 2 1,.slice (some ⟨11,0,none⟩) 2 1] 25 (0,0)),(10,.cells #[Qv 250,Qv 150] 3 (0,0)),(15,.cells #[.slice (some ⟨13,0,none⟩) 2 1,.slice (some ⟨14,0,none⟩) 2 1] 25 (0,0)),(13,.cells #[Qv 250,Qv 150] 3 (0,0)),(11,.cells #[Qv 200,Qv 100] 3 (0,0)),(14,.cells #[Qv 200,Qv 100] 3 (0,0)),(8,.cells #[Qv 0,Qv 0] 3 (0,0)),(7,VN)],16,.tuple #[.slice (some ⟨107,0,none⟩) 2 1,.agg #[Qv 1650,Qv 615,Qv 700,Qv 0,Qv 1565],Qv 0],[(121,.cells #[Qv 867,Qv 698] 3 (0,0)),(114,.cells #[Qv 988,Qv 619] 3 (0,0)),(107,.cells #[.slice (some ⟨114,0,none⟩) 2 1,.slice (some ⟨121,0,none⟩) 2 1] 25 (0,0))],123⟩
theorem D4:QO Al (Al.run YP Xf Xq 100000)=true:=by decide+kernel
def sx:Memo:=
 ⟨18,#[.agg #[.slice (some ⟨131,0,none⟩) 2 12,Qv 200,Qv 2],.slice (some ⟨132,0,none⟩) 2 1],[(132,.cells #[Qv 0,Qv 0] 3 (0,0)),(131,VN)],133,.tuple #[.slice (some ⟨191,0,none⟩) 2 1,Qv 0],[(375,.cells #[Qv 543,Qv 1209,Qv 410,Qv 856] 38 (0,0)),(283,.cells #[Qv 780,Qv 1204,Qv 470,Qv 776] 38 (0,0)),(191,.cells #[.slice (some ⟨283,0,none⟩) 2 2,.slice (some ⟨375,0,none⟩) 2 2] 36 (0,0))],376⟩
theorem Am:QO sx (sx.run YP Xf Xq 100000)=true:=by decide+kernel
def sr:Memo:=
 ⟨88,#[.slice (some ⟨383,0,none⟩) 2 12,.agg #[Qv 1063,Qv 440,Qv 0,Qv 0]],[(383,VN)],539,.tuple #[.agg #[Qv 1,Qv 10],.bool true],[],544⟩
theorem Ai:QO sr (sr.drun YP Xf Xq 100000)=true:=by decide+kernel
def sj:Memo:=
 ⟨98,#[.agg #[.slice (some ⟨552,0,none⟩) 2 12,Qv 200,Qv 2,Qv 3,Qv 3,Qv 0,Qv 0],.agg #[Qv 1000,Qv 500,Qv 0,Qv 0],Qv 0,.func (.func 76) #[] #[],.func (.func 77) #[] #[]],[(552,VN)],622,.agg #[Qv 1030,Qv 650,Qv 0,Qv 0],[],663⟩
theorem Ad:QO sj (sj.run YP Xf Xq 100000)=true:=by decide+kernel
def si:Memo:=
 ⟨98,#[.agg #[.slice (some ⟨552,0,none⟩) 2 12,Qv 200,Qv 2,Qv 3,Qv 3,Qv 0,Qv 0],.agg #[Qv 1030,Qv 650,Qv 0,Qv 0],Qv 1,.func (.func 76) #[] #[],.func (.func 77) #[] #[]],[(552,VN)],666,.agg #[Qv 1063,Qv 818,Qv 0,Qv 0],[],707⟩
theorem Ac:QO si (si.run YP Xf Xq 100000)=true:=by decide+kernel
def sq:Memo:=
 ⟨88,#[.slice (some ⟨552,0,none⟩) 2 12,.agg #[Qv 1063,Qv 818,Qv 0,Qv 0]],[(552,VN)],707,.tuple #[.agg #[Qv 0,Qv 0],.bool false],[],712⟩
theorem Ah:QO sq (sq.drun YP Xf Xq 100000)=true:=by decide+kernel
def sg:Memo:=
 ⟨98,#[.agg #[.slice (some ⟨552,0,none⟩) 2 12,Qv 200,Qv 2,Qv 0,Qv 0,Qv 0,Qv 0],.agg #[Qv 1000,Qv 500,Qv 0,Qv 0],Qv 0,.func (.func 76) #[] #[],.func (.func 77) #[] #[]],[(552,VN)],760,.agg #[Qv 780,Qv 470,Qv 0,Qv 0],[],801⟩
theorem Ab:QO sg (sg.run YP Xf Xq 100000)=true:=by decide+kernel
def sf:Memo:=
 ⟨98,#[.agg #[.slice (some ⟨552,0,none⟩) 2 12,Qv 200,Qv 2,Qv 0,Qv 0,Qv 0,Qv 0],.agg #[Qv 780,Qv 470,Qv 0,Qv 0],Qv 1,.func (.func 76) #[] #[],.func (.func 77) #[] #[]],[(552,VN)],804,.agg #[Qv 543,Qv 410,Qv 0,Qv 0],[],845⟩
theorem Aa:QO sf (sf.run YP Xf Xq 100000)=true:=by decide+kernel
def so:Memo:=
 ⟨88,#[.slice (some ⟨552,0,none⟩) 2 12,.agg #[Qv 543,Qv 410,Qv 0,Qv 0]],[(552,VN)],845,.tuple #[.agg #[Qv 0,Qv 357],.bool true],[],849⟩
theorem Ag:QO so (so.drun YP Xf Xq 100000)=true:=by decide+kernel
def sd:Memo:=
 ⟨98,#[.agg #[.slice (some ⟨552,0,none⟩) 2 12,Qv 200,Qv 2,Qv 0,Qv 1,Qv 0,Qv 0],.agg #[Qv 780,Qv 470,Qv 0,Qv 0],Qv 1,.func (.func 76) #[] #[],.func (.func 77) #[] #[]],[(552,VN)],876,.agg #[Qv 793,Qv 410,Qv 0,Qv 0],[],917⟩
theorem zZ:QO sd (sd.run YP Xf Xq 100000)=true:=by decide+kernel
def sm:Memo:=
 ⟨88,#[.slice (some ⟨552,0,none⟩) 2 12,.agg #[Qv 793,Qv 410,Qv 0,Qv 0]],[(552,VN)],917,.tuple #[.agg #[Qv 0,Qv 107],.bool true],[],921⟩
theorem Af:QO sm (sm.drun YP Xf Xq 100000)=true:=by decide+kernel
def rZ:Memo:=
 ⟨98,#[.agg #[.slice (some ⟨552,0,none⟩) 2 12,Qv 200,Qv 2,Qv 0,Qv 2,Qv 0,Qv 0],.agg #[Qv 780,Qv 470,Qv 0,Qv 0],Qv 1,.func (.func 76) #[] #[],.func (.func 77) #[] #[]],[(552,VN)],948,.agg #[Qv 543,Qv 590,Qv 0,Qv 0],[],989⟩
theorem zY:QO rZ (rZ.run YP Xf Xq 100000)=true:=by decide+kernel
def sk:Memo:=
 ⟨88,#[.slice (some ⟨552,0,none⟩) 2 12,.agg #[Qv 543,Qv 590,Qv 0,Qv 0]],[(552,VN)],989,.tuple #[.agg #[Qv 0,Qv 357],.bool true],[],993⟩
theorem Ae:QO sk (sk.drun YP Xf Xq 100000)=true:=by decide+kernel
def mD:Memo:=
 ⟨98,#[.agg #[.slice (some ⟨552,0,none⟩) 2 12,Qv 200,Qv 2,Qv 0,Qv 3,Qv 0,Qv 0],.agg #[Qv 780,Qv 470,Qv 0,Qv 0],Qv 1,.func (.func 76) #[] #[],.func (.func 77) #[] #[]],[(552,VN)],1020,.agg #[Qv 793,Qv 590,Qv 0,Qv 0],[],1061⟩
theorem wc:QO mD (mD.run YP Xf Xq 100000)=true:=by decide+kernel
end Go.Proofs.Ytncjjangllkokaa

namespace Go.Proofs.Ytncjjangllkokaa
open Go Go.CE Go.RowKit
noncomputable def hC:WW:=XN [sr]
theorem mj(B:Lo):Wu YP B hC:=QW QA Qf (QI _ _) Ai (XZ _ _)
def sw:Memo:=
 ⟨35,#[.agg #[.slice (some ⟨383,0,none⟩) 2 12,Qv 200,Qv 2],.slice (some ⟨384,0,none⟩) 2 1],[(384,.cells #[Qv 1,Qv 1] 3 (0,0)),(383,VN)],385,.tuple #[Qv 1,Qv 10,Qv 0],[],545⟩
theorem Ak:QO sw (sw.run YP Xf hC 100000)=true:=by decide+kernel
end Go.Proofs.Ytncjjangllkokaa

namespace Go.Proofs.Ytncjjangllkokaa
open Go Go.CE Go.RowKit
def nD:Memo:=
 ⟨88,#[.slice (some ⟨552,0,none⟩) 2 12,.agg #[Qv 793,Qv 590,Qv 0,Qv 0]],[(552,VN)],1061,.tuple #[.agg #[Qv 0,Qv 107],.bool true],[],1065⟩
theorem xg:QO nD (nD.drun YP Xf Xq 100000)=true:=by decide+kernel
def mC:Memo:=
 ⟨98,#[.agg #[.slice (some ⟨552,0,none⟩) 2 12,Qv 200,Qv 2,Qv 1,Qv 0,Qv 0,Qv 0],.agg #[Qv 1000,Qv 500,Qv 0,Qv 0],Qv 0,.func (.func 76) #[] #[],.func (.func 77) #[] #[]],[(552,VN)],1112,.agg #[Qv 1030,Qv 470,Qv 0,Qv 0],[],1153⟩
theorem wb:QO mC (mC.run YP Xf Xq 100000)=true:=by decide+kernel
def mB:Memo:=
 ⟨98,#[.agg #[.slice (some ⟨552,0,none⟩) 2 12,Qv 200,Qv 2,Qv 1,Qv 0,Qv 0,Qv 0],.agg #[Qv 1030,Qv 470,Qv 0,Qv 0],Qv 1,.func (.func 76) #[] #[],.func (.func 77) #[] #[]],[(552,VN)],1156,.agg #[Qv 813,Qv 440,Qv 0,Qv 0],[],1197⟩
theorem wa:QO mB (mB.run YP Xf Xq 100000)=true:=by decide+kernel
def nC:Memo:=
 ⟨88,#[.slice (some ⟨552,0,none⟩) 2 12,.agg #[Qv 813,Qv 440,Qv 0,Qv 0]],[(552,VN)],1197,.tuple #[.agg #[Qv 0,Qv 87],.bool true],[],1201⟩
theorem xf:QO nC (nC.drun YP Xf Xq 100000)=true:=by decide+kernel
def mA:Memo:=
 ⟨98,#[.agg #[.slice (some ⟨552,0,none⟩) 2 12,Qv 200,Qv 2,Qv 1,Qv 1,Qv 0,Qv 0],.agg #[Qv 1030,Qv 470,Qv 0,Qv 0],Qv 1,.func (.func 76) #[] #[],.func (.func 77) #[] #[]],[(552,VN)],1228,.agg #[Qv 1063,Qv 440,Qv 0,Qv 0],[],1269⟩
theorem vZ:QO mA (mA.run YP Xf Xq 100000)=true:=by decide+kernel
def nB:Memo:=
 ⟨88,#[.slice (some ⟨552,0,none⟩) 2 12,.agg #[Qv 1063,Qv 440,Qv 0,Qv 0]],[(552,VN)],1269,.tuple #[.agg #[Qv 1,Qv 10],.bool true],[],1274⟩
theorem xe:QO nB (nB.drun YP Xf Xq 100000)=true:=by decide+kernel
def m9:Memo:=
 ⟨98,#[.agg #[.slice (some ⟨552,0,none⟩) 2 12,Qv 200,Qv 2,Qv 1,Qv 2,Qv 0,Qv 0],.agg #[Qv 1030,Qv 470,Qv 0,Qv 0],Qv 1,.func (.func 76) #[] #[],.func (.func 77) #[] #[]],[(552,VN)],1301,.agg #[Qv 813,Qv 620,Qv 0,Qv 0],[],1342⟩
theorem vY:QO m9 (m9.run YP Xf Xq 100000)=true:=by decide+kernel
def nA:Memo:=
 ⟨88,#[.slice (some ⟨552,0,none⟩) 2 12,.agg #[Qv 813,Qv 620,Qv 0,Qv 0]],[(552,VN)],1342,.tuple #[.agg #[Qv 0,Qv 87],.bool true],[],1346⟩
theorem xd:QO nA (nA.drun YP Xf Xq 100000)=true:=by decide+kernel
def m8:Memo:=
 ⟨98,#[.agg #[.slice (some ⟨552,0,none⟩) 2 12,Qv 200,Qv 2,Qv 1,Qv 3,Qv 0,Qv 0],.agg #[Qv 1030,Qv 470,Qv 0,Qv 0],Qv 1,.func (.func 76) #[] #[],.func (.func 77) #[] #[]],[(552,VN)],1373,.agg #[Qv 1063,Qv 620,Qv 0,Qv 0],[],1414⟩
theorem vX:QO m8 (m8.run YP Xf Xq 100000)=true:=by decide+kernel
def n9:Memo:=
 ⟨88,#[.slice (some ⟨552,0,none⟩) 2 12,.agg #[Qv 1063,Qv 620,Qv 0,Qv 0]],[(552,VN)],1414,.tuple #[.agg #[Qv 0,Qv 0],.bool false],[],1419⟩
theorem xc:QO n9 (n9.drun YP Xf Xq 100000)=true:=by decide+kernel
def m7:Memo:=
 ⟨98,#[.agg #[.slice (some ⟨552,0,none⟩) 2 12,Qv 200,Qv 2,Qv 2,Qv 0,Qv 0,Qv 0],.agg #[Qv 1000,Qv 500,Qv 0,Qv 0],Qv 0,.func (.func 76) #[] #[],.func (.func 77) #[] #[]],[(552,VN)],1486,.agg #[Qv 780,Qv 650,Qv 0,Qv 0],[],1527⟩
theorem vW:QO m7 (m7.run YP Xf Xq 100000)=true:=by decide+kernel
def m6:Memo:=
 ⟨98,#[.agg #[.slice (some ⟨552,0,none⟩) 2 12,Qv 200,Qv 2,Qv 2,Qv 0,Qv 0,Qv 0],.agg #[Qv 780,Qv 650,Qv 0,Qv 0],Qv 1,.func (.func 76) #[] #[],.func (.func 77) #[] #[]],[(552,VN)],1530,.agg #[Qv 543,Qv 608,Qv 0,Qv 0],[],1571⟩
theorem vV:QO m6 (m6.run YP Xf Xq 100000)=true:=by decide+kernel
def n8:Memo:=
 ⟨88,#[.slice (some ⟨552,0,none⟩) 2 12,.agg #[Qv 543,Qv 608,Qv 0,Qv 0]],[(552,VN)],1571,.tuple #[.agg #[Qv 0,Qv 357],.bool true],[],1575⟩
theorem xb:QO n8 (n8.drun YP Xf Xq 100000)=true:=by decide+kernel
def m5:Memo:=
 ⟨98,#[.agg #[.slice (some ⟨552,0,none⟩) 2 12,Qv 200,Qv 2,Qv 2,Qv 1,Qv 0,Qv 0],.agg #[Qv 780,Qv 650,Qv 0,Qv 0],Qv 1,.func (.func 76) #[] #[],.func (.func 77) #[] #[]],[(552,VN)],1622,.agg #[Qv 793,Qv 608,Qv 0,Qv 0],[],1663⟩
theorem vU:QO m5 (m5.run YP Xf Xq 100000)=true:=by decide+kernel
end Go.Proofs.Ytncjjangllkokaa

namespace Go.Proofs.Ytncjjangllkokaa
open Go Go.CE Go.RowKit
def n7:Memo:=
 ⟨88,#[.slice (some ⟨552,0,none⟩) 2 12,.agg #[Qv 793,Qv 608,Qv 0,Qv 0]],[(552,VN)],1663,.tuple #[.agg #[Qv 0,Qv 107],.bool true],[],1667⟩
theorem xa:QO n7 (n7.drun YP Xf Xq 100000)=true:=by decide+kernel
def m4:Memo:=
 ⟨98,#[.agg #[.slice (some ⟨552,0,none⟩) 2 12,Qv 200,Qv 2,Qv 2,Qv 2,Qv 0,Qv 0],.agg #[Qv 780,Qv 650,Qv 0,Qv 0],Qv 1,.func (.func 76) #[] #[],.func (.func 77) #[] #[]],[(552,VN)],1714,.agg #[Qv 543,Qv 788,Qv 0,Qv 0],[],1755⟩
theorem vT:QO m4 (m4.run YP Xf Xq 100000)=true:=by decide+kernel
def n6:Memo:=
 ⟨88,#[.slice (some ⟨552,0,none⟩) 2 12,.agg #[Qv 543,Qv 788,Qv 0,Qv 0]],[(552,VN)],1755,.tuple #[.agg #[Qv 0,Qv 357],.bool true],[],1759⟩
theorem wZ:QO n6 (n6.drun YP Xf Xq 100000)=true:=by decide+kernel
def mz:Memo:=
 ⟨98,#[.agg #[.slice (some ⟨552,0,none⟩) 2 12,Qv 200,Qv 2,Qv 2,Qv 3,Qv 0,Qv 0],.agg #[Qv 780,Qv 650,Qv 0,Qv 0],Qv 1,.func (.func 76) #[] #[],.func (.func 77) #[] #[]],[(552,VN)],1806,.agg #[Qv 793,Qv 788,Qv 0,Qv 0],[],1847⟩
theorem vS:QO mz (mz.run YP Xf Xq 100000)=true:=by decide+kernel
def n5:Memo:=
 ⟨88,#[.slice (some ⟨552,0,none⟩) 2 12,.agg #[Qv 793,Qv 788,Qv 0,Qv 0]],[(552,VN)],1847,.tuple #[.agg #[Qv 0,Qv 107],.bool true],[],1851⟩
theorem wY:QO n5 (n5.drun YP Xf Xq 100000)=true:=by decide+kernel
def my:Memo:=
 ⟨98,#[.agg #[.slice (some ⟨552,0,none⟩) 2 12,Qv 200,Qv 2,Qv 3,Qv 0,Qv 0,Qv 0],.agg #[Qv 1030,Qv 650,Qv 0,Qv 0],Qv 1,.func (.func 76) #[] #[],.func (.func 77) #[] #[]],[(552,VN)],1898,.agg #[Qv 813,Qv 638,Qv 0,Qv 0],[],1939⟩
theorem vR:QO my (my.run YP Xf Xq 100000)=true:=by decide+kernel
def n4:Memo:=
 ⟨88,#[.slice (some ⟨552,0,none⟩) 2 12,.agg #[Qv 813,Qv 638,Qv 0,Qv 0]],[(552,VN)],1939,.tuple #[.agg #[Qv 0,Qv 87],.bool true],[],1943⟩
theorem wX:QO n4 (n4.drun YP Xf Xq 100000)=true:=by decide+kernel
def mw:Memo:=
 ⟨98,#[.agg #[.slice (some ⟨552,0,none⟩) 2 12,Qv 200,Qv 2,Qv 3,Qv 2,Qv 0,Qv 0],.agg #[Qv 1030,Qv 650,Qv 0,Qv 0],Qv 1,.func (.func 76) #[] #[],.func (.func 77) #[] #[]],[(552,VN)],2014,.agg #[Qv 813,Qv 818,Qv 0,Qv 0],[],2055⟩
theorem vQ:QO mw (mw.run YP Xf Xq 100000)=true:=by decide+kernel
def n3:Memo:=
 ⟨88,#[.slice (some ⟨552,0,none⟩) 2 12,.agg #[Qv 813,Qv 818,Qv 0,Qv 0]],[(552,VN)],2055,.tuple #[.agg #[Qv 0,Qv 87],.bool true],[],2059⟩
theorem wW:QO n3 (n3.drun YP Xf Xq 100000)=true:=by decide+kernel
def ny:Memo:=
 ⟨88,#[.slice (some ⟨2134,0,none⟩) 2 12,.agg #[Qv 1063,Qv 440,Qv 0,Qv 0]],[(2134,VN)],2266,.tuple #[.agg #[Qv 1,Qv 10],.bool true],[],2271⟩
theorem wV:QO ny (ny.drun YP Xf Xq 100000)=true:=by decide+kernel
def nv:Memo:=
 ⟨88,#[.slice (some ⟨2274,0,none⟩) 2 12,.agg #[Qv 1063,Qv 440,Qv 0,Qv 0]],[(2274,VN)],2406,.tuple #[.agg #[Qv 1,Qv 10],.bool true],[],2411⟩
theorem wU:QO nv (nv.drun YP Xf Xq 100000)=true:=by decide+kernel
def nu:Memo:=
 ⟨88,#[.slice (some ⟨2414,0,none⟩) 2 12,.agg #[Qv 1063,Qv 440,Qv 0,Qv 0]],[(2414,VN)],2546,.tuple #[.agg #[Qv 1,Qv 10],.bool true],[],2551⟩
theorem wT:QO nu (nu.drun YP Xf Xq 100000)=true:=by decide+kernel
def nt:Memo:=
 ⟨88,#[.slice (some ⟨2554,0,none⟩) 2 12,.agg #[Qv 1063,Qv 440,Qv 0,Qv 0]],[(2554,VN)],2686,.tuple #[.agg #[Qv 1,Qv 10],.bool true],[],2691⟩
theorem wS:QO nt (nt.drun YP Xf Xq 100000)=true:=by decide+kernel
def nr:Memo:=
 ⟨88,#[.slice (some ⟨2694,0,none⟩) 2 12,.agg #[Qv 1063,Qv 440,Qv 0,Qv 0]],[(2694,VN)],2826,.tuple #[.agg #[Qv 1,Qv 10],.bool true],[],2831⟩
theorem wR:QO nr (nr.drun YP Xf Xq 100000)=true:=by decide+kernel
end Go.Proofs.Ytncjjangllkokaa

namespace Go.Proofs.Ytncjjangllkokaa
open Go Go.CE Go.RowKit
noncomputable def gZ:WW:=XN [sj,si,sq,sg,sf,so,sd,sm,rZ,sk,mD,nD,mC,mB,nC,mA,nB,m9,nA,m8,n9,m7,m6,n8,m5,n7,m4,n6,mz,n5,my,n4,mw,n3]
theorem mh(B:Lo):Wu YP B gZ:=QS QA Qf (QI _ _) Ad (QS QA Qf (QI _ _) Ac (QW QA Qf (QI _ _) Ah (QS QA Qf (QI _ _) Ab (QS QA Qf (QI _ _) Aa (QW QA Qf (QI _ _) Ag (QS QA Qf (QI _ _) zZ (QW QA Qf (QI _ _) Af (QS QA Qf (QI _ _) zY (QW QA Qf (QI _ _) Ae (QS QA Qf (QI _ _) wc (QW QA Qf (QI _ _) xg (QS QA Qf (QI _ _) wb (QS QA Qf (QI _ _) wa (QW QA Qf (QI _ _) xf (QS QA Qf (QI _ _) vZ (QW QA Qf (QI _ _) xe (QS QA Qf (QI _ _) vY (QW QA Qf (QI _ _) xd (QS QA Qf (QI _ _) vX (QW QA Qf (QI _ _) xc (QS QA Qf (QI _ _) vW (QS QA Qf (QI _ _) vV (QW QA Qf (QI _ _) xb (QS QA Qf (QI _ _) vU (QW QA Qf (QI _ _) xa (QS QA Qf (QI _ _) vT (QW QA Qf (QI _ _) wZ (QS QA Qf (QI _ _) vS (QW QA Qf (QI _ _) wY (QS QA Qf (QI _ _) vR (QW QA Qf (QI _ _) wX (QS QA Qf (QI _ _) vQ (QW QA Qf (QI _ _) wW (XZ _ _))))))))))))))))))))))))))))))))))
def su:Memo:=
 ⟨37,#[.agg #[.slice (some ⟨552,0,none⟩) 2 12,Qv 200,Qv 2]],[(552,VN)],553,.tuple #[.slice (some ⟨2086,0,none⟩) 2 1,Qv 26,Qv 0],[(2086,.cells #[Qv 1,Qv 3] 3 (0,0))],2097⟩
theorem Aj:QO su (su.run YP Xf gZ 100000)=true:=by decide+kernel
end Go.Proofs.Ytncjjangllkokaa

namespace Go.Proofs.Ytncjjangllkokaa
open Go Go.CE Go.RowKit
def nq:Memo:=
 ⟨88,#[.slice (some ⟨2834,0,none⟩) 2 12,.agg #[Qv 1063,Qv 440,Qv 0,Qv 0]],[(2834,VN)],2966,.tuple #[.agg #[Qv 1,Qv 10],.bool true],[],2971⟩
theorem wQ:QO nq (nq.drun YP Xf Xq 100000)=true:=by decide+kernel
def np:Memo:=
 ⟨88,#[.slice (some ⟨2974,0,none⟩) 2 12,.agg #[Qv 1063,Qv 440,Qv 0,Qv 0]],[(2974,VN)],3106,.tuple #[.agg #[Qv 1,Qv 10],.bool true],[],3111⟩
theorem wP:QO np (np.drun YP Xf Xq 100000)=true:=by decide+kernel
def nn:Memo:=
 ⟨88,#[.slice (some ⟨3114,0,none⟩) 2 12,.agg #[Qv 1063,Qv 440,Qv 0,Qv 0]],[(3114,VN)],3246,.tuple #[.agg #[Qv 1,Qv 10],.bool true],[],3251⟩
theorem wO:QO nn (nn.drun YP Xf Xq 100000)=true:=by decide+kernel
def nm:Memo:=
 ⟨88,#[.slice (some ⟨3254,0,none⟩) 2 12,.agg #[Qv 1063,Qv 440,Qv 0,Qv 0]],[(3254,VN)],3386,.tuple #[.agg #[Qv 1,Qv 10],.bool true],[],3391⟩
theorem wN:QO nm (nm.drun YP Xf Xq 100000)=true:=by decide+kernel
def nk:Memo:=
 ⟨88,#[.slice (some ⟨3394,0,none⟩) 2 12,.agg #[Qv 1063,Qv 440,Qv 0,Qv 0]],[(3394,VN)],3526,.tuple #[.agg #[Qv 1,Qv 10],.bool true],[],3531⟩
theorem wM:QO nk (nk.drun YP Xf Xq 100000)=true:=by decide+kernel
def nj:Memo:=
 ⟨88,#[.slice (some ⟨3534,0,none⟩) 2 12,.agg #[Qv 1063,Qv 440,Qv 0,Qv 0]],[(3534,VN)],3666,.tuple #[.agg #[Qv 1,Qv 10],.bool true],[],3671⟩
theorem wL:QO nj (nj.drun YP Xf Xq 100000)=true:=by decide+kernel
def ni:Memo:=
 ⟨88,#[.slice (some ⟨3674,0,none⟩) 2 12,.agg #[Qv 1063,Qv 440,Qv 0,Qv 0]],[(3674,VN)],3806,.tuple #[.agg #[Qv 1,Qv 10],.bool true],[],3811⟩
theorem wK:QO ni (ni.drun YP Xf Xq 100000)=true:=by decide+kernel
def nh:Memo:=
 ⟨88,#[.slice (some ⟨3814,0,none⟩) 2 12,.agg #[Qv 1063,Qv 603,Qv 0,Qv 0]],[(3814,OY)],3946,.tuple #[.agg #[Qv 0,Qv 0],.bool false],[],3951⟩
theorem wJ:QO nh (nh.drun YP Xf Xq 100000)=true:=by decide+kernel
def ng:Memo:=
 ⟨88,#[.slice (some ⟨3954,0,none⟩) 2 12,.agg #[Qv 1063,Qv 475,Qv 0,Qv 0]],[(3954,OX)],4086,.tuple #[.agg #[Qv 0,Qv 0],.bool false],[],4091⟩
theorem wI:QO ng (ng.drun YP Xf Xq 100000)=true:=by decide+kernel
def nf:Memo:=
 ⟨88,#[.slice (some ⟨4094,0,none⟩) 2 12,.agg #[Qv 1063,Qv 440,Qv 0,Qv 0]],[(4094,VN)],4226,.tuple #[.agg #[Qv 1,Qv 10],.bool true],[],4231⟩
theorem wH:QO nf (nf.drun YP Xf Xq 100000)=true:=by decide+kernel
def nc:Memo:=
 ⟨88,#[.slice (some ⟨4234,0,none⟩) 2 12,.agg #[Qv 1063,Qv 442,Qv 0,Qv 0]],[(4234,OW)],4366,.tuple #[.agg #[Qv 1,Qv 8],.bool true],[],4371⟩
theorem wG:QO nc (nc.drun YP Xf Xq 100000)=true:=by decide+kernel
def nb:Memo:=
 ⟨88,#[.slice (some ⟨4374,0,none⟩) 2 12,.agg #[Qv 1063,Qv 458,Qv 0,Qv 0]],[(4374,OV)],4506,.tuple #[.agg #[Qv 0,Qv 0],.bool false],[],4511⟩
theorem wF:QO nb (nb.drun YP Xf Xq 100000)=true:=by decide+kernel
def na:Memo:=
 ⟨88,#[.slice (some ⟨4514,0,none⟩) 2 12,.agg #[Qv 1063,Qv 450,Qv 0,Qv 0]],[(4514,OU)],4646,.tuple #[.agg #[Qv 0,Qv 0],.bool false],[],4651⟩
theorem wE:QO na (na.drun YP Xf Xq 100000)=true:=by decide+kernel
def mZ:Memo:=
 ⟨88,#[.slice (some ⟨4654,0,none⟩) 2 12,.agg #[Qv 1063,Qv 446,Qv 0,Qv 0]],[(4654,OT)],4786,.tuple #[.agg #[Qv 1,Qv 4],.bool true],[],4791⟩
theorem wD:QO mZ (mZ.drun YP Xf Xq 100000)=true:=by decide+kernel
end Go.Proofs.Ytncjjangllkokaa

namespace Go.Proofs.Ytncjjangllkokaa
open Go Go.CE Go.RowKit
noncomputable section
def dn:WW:=XN [ny]
theorem iY(B:Lo):Wu YP B dn:=QW QA Qf (QI _ _) wV (XZ _ _)
def mX:Memo:=
 ⟨93,#[Qv 500000,.pointer (some ⟨2130,0,none⟩),.pointer (some ⟨2131,0,none⟩)],[(2104,VN),(2131,.cells #[Qv 1] 3 (0,0)),(2130,qZ)],2132,.bool true,[],2272⟩
theorem wB:QO mX (mX.run YP Xf dn 100000)=true:=by decide+kernel
def dm:WW:=XN [nv]
theorem iX(B:Lo):Wu YP B dm:=QW QA Qf (QI _ _) wU (XZ _ _)
def mW:Memo:=
 ⟨93,#[Qv 250000,.pointer (some ⟨2130,0,none⟩),.pointer (some ⟨2131,0,none⟩)],[(2104,VN),(2131,.cells #[Qv 1] 3 (0,0)),(2130,qZ)],2272,.bool true,[],2412⟩
theorem wA:QO mW (mW.run YP Xf dm 100000)=true:=by decide+kernel
def dj:WW:=XN [nu]
theorem iW(B:Lo):Wu YP B dj:=QW QA Qf (QI _ _) wT (XZ _ _)
def mV:Memo:=
 ⟨93,#[Qv 125000,.pointer (some ⟨2130,0,none⟩),.pointer (some ⟨2131,0,none⟩)],[(2104,VN),(2131,.cells #[Qv 1] 3 (0,0)),(2130,qZ)],2412,.bool true,[],2552⟩
theorem w9:QO mV (mV.run YP Xf dj 100000)=true:=by decide+kernel
def di:WW:=XN [nt]
theorem iV(B:Lo):Wu YP B di:=QW QA Qf (QI _ _) wS (XZ _ _)
def mU:Memo:=
 ⟨93,#[Qv 62500,.pointer (some ⟨2130,0,none⟩),.pointer (some ⟨2131,0,none⟩)],[(2104,VN),(2131,.cells #[Qv 1] 3 (0,0)),(2130,qZ)],2552,.bool true,[],2692⟩
theorem w8:QO mU (mU.run YP Xf di 100000)=true:=by decide+kernel
def dh:WW:=XN [nr]
theorem iU(B:Lo):Wu YP B dh:=QW QA Qf (QI _ _) wR (XZ _ _)
def mT:Memo:=
 ⟨93,#[Qv 31250,.pointer (some ⟨2130,0,none⟩),.pointer (some ⟨2131,0,none⟩)],[(2104,VN),(2131,.cells #[Qv 1] 3 (0,0)),(2130,qZ)],2692,.bool true,[],2832⟩
theorem w7:QO mT (mT.run YP Xf dh 100000)=true:=by decide+kernel
def dg:WW:=XN [nq]
theorem iT(B:Lo):Wu YP B dg:=QW QA Qf (QI _ _) wQ (XZ _ _)
def mS:Memo:=
 ⟨93,#[Qv 15625,.pointer (some ⟨2130,0,none⟩),.pointer (some ⟨2131,0,none⟩)],[(2104,VN),(2131,.cells #[Qv 1] 3 (0,0)),(2130,qZ)],2832,.bool true,[],2972⟩
theorem w6:QO mS (mS.run YP Xf dg 100000)=true:=by decide+kernel
def de:WW:=XN [np]
theorem iS(B:Lo):Wu YP B de:=QW QA Qf (QI _ _) wP (XZ _ _)
def mR:Memo:=
 ⟨93,#[Qv 7812,.pointer (some ⟨2130,0,none⟩),.pointer (some ⟨2131,0,none⟩)],[(2104,VN),(2131,.cells #[Qv 1] 3 (0,0)),(2130,qZ)],2972,.bool true,[],3112⟩
theorem w5:QO mR (mR.run YP Xf de 100000)=true:=by decide+kernel
def dd:WW:=XN [nn]
theorem iR(B:Lo):Wu YP B dd:=QW QA Qf (QI _ _) wO (XZ _ _)
def mQ:Memo:=
 ⟨93,#[Qv 3906,.pointer (some ⟨2130,0,none⟩),.pointer (some ⟨2131,0,none⟩)],[(2104,VN),(2131,.cells #[Qv 1] 3 (0,0)),(2130,qZ)],3112,.bool true,[],3252⟩
theorem wz:QO mQ (mQ.run YP Xf dd 100000)=true:=by decide+kernel
def dc:WW:=XN [nm]
theorem iQ(B:Lo):Wu YP B dc:=QW QA Qf (QI _ _) wN (XZ _ _)
def mP:Memo:=
 ⟨93,#[Qv 1953,.pointer (some ⟨2130,0,none⟩),.pointer (some ⟨2131,0,none⟩)],[(2104,VN),(2131,.cells #[Qv 1] 3 (0,0)),(2130,qZ)],3252,.bool true,[],3392⟩
theorem wy:QO mP (mP.run YP Xf dc 100000)=true:=by decide+kernel
def db:WW:=XN [nk]
theorem iP(B:Lo):Wu YP B db:=QW QA Qf (QI _ _) wM (XZ _ _)
def mO:Memo:=
 ⟨93,#[Qv 976,.pointer (some ⟨2130,0,none⟩),.pointer (some ⟨2131,0,none⟩)],[(2104,VN),(2131,.cells #[Qv 1] 3 (0,0)),(2130,qZ)],3392,.bool true,[],3532⟩
theorem wx:QO mO (mO.run YP Xf db 100000)=true:=by decide+kernel
def da:WW:=XN [nj]
theorem iO(B:Lo):Wu YP B da:=QW QA Qf (QI _ _) wL (XZ _ _)
def mN:Memo:=
 ⟨93,#[Qv 488,.pointer (some ⟨2130,0,none⟩),.pointer (some ⟨2131,0,none⟩)],[(2104,VN),(2131,.cells #[Qv 1] 3 (0,0)),(2130,qZ)],3532,.bool true,[],3672⟩
theorem wv:QO mN (mN.run YP Xf da 100000)=true:=by decide+kernel
def cZ:WW:=XN [ni]
theorem iN(B:Lo):Wu YP B cZ:=QW QA Qf (QI _ _) wK (XZ _ _)
def mM:Memo:=
 ⟨93,#[Qv 244,.pointer (some ⟨2130,0,none⟩),.pointer (some ⟨2131,0,none⟩)],[(2104,VN),(2131,.cells #[Qv 1] 3 (0,0)),(2130,qZ)],3672,.bool true,[],3812⟩
theorem wu:QO mM (mM.run YP Xf cZ 100000)=true:=by decide+kernel
def cY:WW:=XN [nh]
theorem iM(B:Lo):Wu YP B cY:=QW QA Qf (QI _ _) wJ (XZ _ _)
def mL:Memo:=
 ⟨93,#[Qv 122,.pointer (some ⟨2130,0,none⟩),.pointer (some ⟨2131,0,none⟩)],[(2104,VN),(2131,.cells #[Qv 1] 3 (0,0)),(2130,qZ)],3812,.bool false,[],3952⟩
theorem wo:QO mL (mL.run YP Xf cY 100000)=true:=by decide+kernel
def cX:WW:=XN [ng]
theorem iL(B:Lo):Wu YP B cX:=QW QA Qf (QI _ _) wI (XZ _ _)
def mK:Memo:=
 ⟨93,#[Qv 183,.pointer (some ⟨2130,0,none⟩),.pointer (some ⟨2131,0,none⟩)],[(2104,VN),(2131,.cells #[Qv 1] 3 (0,0)),(2130,qZ)],3952,.bool false,[],4092⟩
theorem wm:QO mK (mK.run YP Xf cX 100000)=true:=by decide+kernel
end
end Go.Proofs.Ytncjjangllkokaa

namespace Go.Proofs.Ytncjjangllkokaa
open Go Go.CE Go.RowKit
def mY:Memo:=
 ⟨88,#[.slice (some ⟨4794,0,none⟩) 2 12,.agg #[Qv 1063,Qv 448,Qv 0,Qv 0]],[(4794,OS)],4926,.tuple #[.agg #[Qv 1,Qv 2],.bool true],[],4931⟩
theorem wC:QO mY (mY.drun YP Xf Xq 100000)=true:=by decide+kernel
end Go.Proofs.Ytncjjangllkokaa

namespace Go.Proofs.Ytncjjangllkokaa
open Go Go.CE Go.RowKit
noncomputable section
def cW:WW:=XN [nf]
theorem iK(B:Lo):Wu YP B cW:=QW QA Qf (QI _ _) wH (XZ _ _)
def mJ:Memo:=
 ⟨93,#[Qv 214,.pointer (some ⟨2130,0,none⟩),.pointer (some ⟨2131,0,none⟩)],[(2104,VN),(2131,.cells #[Qv 1] 3 (0,0)),(2130,qZ)],4092,.bool true,[],4232⟩
theorem wk:QO mJ (mJ.run YP Xf cW 100000)=true:=by decide+kernel
def cV:WW:=XN [nc]
theorem iJ(B:Lo):Wu YP B cV:=QW QA Qf (QI _ _) wG (XZ _ _)
def mI:Memo:=
 ⟨93,#[Qv 199,.pointer (some ⟨2130,0,none⟩),.pointer (some ⟨2131,0,none⟩)],[(2104,VN),(2131,.cells #[Qv 1] 3 (0,0)),(2130,qZ)],4232,.bool true,[],4372⟩
theorem wj:QO mI (mI.run YP Xf cV 100000)=true:=by decide+kernel
def cU:WW:=XN [nb]
theorem iI(B:Lo):Wu YP B cU:=QW QA Qf (QI _ _) wF (XZ _ _)
def mH:Memo:=
 ⟨93,#[Qv 191,.pointer (some ⟨2130,0,none⟩),.pointer (some ⟨2131,0,none⟩)],[(2104,VN),(2131,.cells #[Qv 1] 3 (0,0)),(2130,qZ)],4372,.bool false,[],4512⟩
theorem wi:QO mH (mH.run YP Xf cU 100000)=true:=by decide+kernel
def cS:WW:=XN [na]
theorem iH(B:Lo):Wu YP B cS:=QW QA Qf (QI _ _) wE (XZ _ _)
def mG:Memo:=
 ⟨93,#[Qv 195,.pointer (some ⟨2130,0,none⟩),.pointer (some ⟨2131,0,none⟩)],[(2104,VN),(2131,.cells #[Qv 1] 3 (0,0)),(2130,qZ)],4512,.bool false,[],4652⟩
theorem wh:QO mG (mG.run YP Xf cS 100000)=true:=by decide+kernel
def cR:WW:=XN [mZ]
theorem iG(B:Lo):Wu YP B cR:=QW QA Qf (QI _ _) wD (XZ _ _)
def mF:Memo:=
 ⟨93,#[Qv 197,.pointer (some ⟨2130,0,none⟩),.pointer (some ⟨2131,0,none⟩)],[(2104,VN),(2131,.cells #[Qv 1] 3 (0,0)),(2130,qZ)],4652,.bool true,[],4792⟩
theorem wg:QO mF (mF.run YP Xf cR 100000)=true:=by decide+kernel
def cQ:WW:=XN [mY]
theorem iF(B:Lo):Wu YP B cQ:=QW QA Qf (QI _ _) wC (XZ _ _)
def mE:Memo:=
 ⟨93,#[Qv 196,.pointer (some ⟨2130,0,none⟩),.pointer (some ⟨2131,0,none⟩)],[(2104,VN),(2131,.cells #[Qv 1] 3 (0,0)),(2130,qZ)],4792,.bool true,[],4932⟩
theorem we:QO mE (mE.run YP Xf cQ 100000)=true:=by decide+kernel
end
end Go.Proofs.Ytncjjangllkokaa

namespace Go.Proofs.Ytncjjangllkokaa
open Go Go.CE Go.RowKit
noncomputable def dp:WW:=XN [mX,mW,mV,mU,mT,mS,mR,mQ,mP,mO,mN,mM,mL,mK,mJ,mI,mH,mG,mF,mE]
theorem iZ(B:Lo):Wu YP B dp:=QS QA Qf (iY _) wB (QS QA Qf (iX _) wA (QS QA Qf (iW _) w9 (QS QA Qf (iV _) w8 (QS QA Qf (iU _) w7 (QS QA Qf (iT _) w6 (QS QA Qf (iS _) w5 (QS QA Qf (iR _) wz (QS QA Qf (iQ _) wy (QS QA Qf (iP _) wx (QS QA Qf (iO _) wv (QS QA Qf (iN _) wu (QS QA Qf (iM _) wo (QS QA Qf (iL _) wm (QS QA Qf (iK _) wk (QS QA Qf (iJ _) wj (QS QA Qf (iI _) wi (QS QA Qf (iH _) wh (QS QA Qf (iG _) wg (QS QA Qf (iF _) we (XZ _ _))))))))))))))))))))
def nE:Memo:=
 ⟨43,#[.agg #[.slice (some ⟨2104,0,none⟩) 2 12,Qv 200,Qv 2],.slice (some ⟨2105,0,none⟩) 2 1,Qv 1],[(2105,.cells #[Qv 1,Qv 1] 3 (0,0)),(2104,VN)],2106,.tuple #[Qv 195,Qv 0],[],4932⟩
theorem xh:QO nE (nE.run YP Xf dp 100000)=true:=by decide+kernel
end Go.Proofs.Ytncjjangllkokaa

namespace Go.Proofs.Ytncjjangllkokaa
open Go Go.CE Go.RowKit
noncomputable def G9:WW:=XN [Al,sx,sw,su,nE]
theorem Dy(B:Lo):Wu YP B G9:=QS QA Qf (QI _ _) D4 (QS QA Qf (QI _ _) Am (QS QA Qf (mj _) Ak (QS QA Qf (mh _) Aj (QS QA Qf (iZ _) xh (XZ _ _)))))
theorem DP:Bq (ou YP Xf G9 100000 16 #[] (Pu 0 []) ([]:List (Array Value×TypeId)).length) (.bool true) []=true:=by decide+kernel
theorem At(w:World):Calls YP 16 #[] w fun e w'=>e=.returned (.bool true)/\Below w.heap.size w w':=by
 have hc:=DZ QA Qf (at':=[]) (args':=#[]) DP (w:=w) (I:=fun _=>True) (hI:=fun _ _ _ _=>trivial) (Dy _) trivial rfl (fun i x a h=>by simp at h) ⟨rfl,fun i v v' h=>by simp at h⟩;intro cs;obtain⟨e,w',fr,⟨v',n',H',μ',he,hp,hv,hb,hun,Si⟩,h1,h2,h3⟩:=hc cs;exact⟨e,w',fr,⟨by rw[he,Rz rfl hv],Si⟩,h1,h2,h3⟩
theorem known:Qx YP J0 16 #[] (.bool true):=fun fm w args' _ _ ha=>by
 have e:args'=#[]:=by exact Array.eq_empty_of_size_eq_zero ha.1.symm
 subst e;exact(At w).mono fun _ _ h=>⟨_,h.1,h.2,.simple rfl⟩
end Go.Proofs.Ytncjjangllkokaa

namespace Go.Proofs.Ytncjjangllkokaa
open Go Go.CE Go.RowKit
noncomputable section
set_option maxRecDepth 100000
theorem XD{rf:Qe}{Qa:List Int}(hr:XT rf=true)(hp:QG rf Qa=true):∀j:Nat,0<=Qa.getD j default/\Qa.getD j default<=1000000:=fun j=>by
 have h:=Zq hr hp j;show 0<=Qa.getD j 0/\Qa.getD j 0<=1000000;omega
def sizedB(t:Ql):Bool:=(decide (t.Qc.length<=8) && (decide (t.Qi.length<=8) && decide (t.Qj.length<=8))) && ((t.Qi.all fun l=>decide (l.length<=8)) && t.Qj.all fun l=>decide (l.length<=8))
def YY(t:Ql)(i:Int):List Value:=[pA 2 0,.int .i64 i]
def VB(t:Ql)(i:Int):List Obj:=[Obj.cells #[Qt 1 (QE t.Qc.length (Qg Q9 t.Qc)),Qt 1 (QE t.Qi.length (Qg QZ t.Qi)),Qt 1 (QE t.Qj.length (Qg QZ t.Qj))] 42]
def Ja:List Item:=([.code [1,1,0,1,0,0],.inLoop [1,1,0,1,0,0],.inBlock 0,.code [1,1,1]]).map (it (QT YP 25))
def DH(B:Lo)(c0:CF)(t:Ql)(i:Int):Prop:=∃dJ:Nat->Value,(∀t,X6 (dJ t))/\GoE YP B c0 XV 1 (QJ 25 49 (([1,3]:List Nat).zip (YY t i)) dJ Ja) (QH (VB t i)) (2+(VB t i).length) []
def YX(t:Ql)(i:Int):List Value:=[pA 2 0,.int .i64 i]
def VA(t:Ql)(i:Int):List Obj:=[Obj.cells #[Qt 1 (QE t.Qc.length (Qg Q9 t.Qc)),Qt 1 (QE t.Qi.length (Qg QZ t.Qi)),Qt 1 (QE t.Qj.length (Qg QZ t.Qj))] 42]
def YZ:List Item:=([.code [1,1,1,0,1,0,0],.inLoop [1,1,1,0,1,0,0],.inBlock 2,.code [1,1,1,1]]).map (it (QT YP 25))
def DG(B:Lo)(c0:CF)(t:Ql)(i:Int):Prop:=∃dJ:Nat->Value,(∀t,X6 (dJ t))/\GoE YP B c0 XV 1 (QJ 25 49 (([1,4]:List Nat).zip (YX t i)) dJ YZ) (QH (VA t i)) (2+(VA t i).length) []
def fD(B:Lo)(t:Ql)(i:Int)(Qn:Nat->Value):List Prop:=let a:=t.Qi;let b:=a.getD i.toNat default;[i=(↑i.toNat:Int)/\Int.toNat i<List.length a/\Array.extract (Qg QZ a) (Int.toNat i*TypeInfo.size Try.t25) (Int.toNat i*TypeInfo.size Try.t25+TypeInfo.size Try.t25)=#[QE b.length (Qg Q9 b)],XU i (↑a.length:Int)=true]++([]:List Prop)
def qK(t:Ql)(i:Int)(Qn:Nat->Value):Q5:=[(4,Wo),(8,Qk.tidx i.toNat #[QE (List.length (t.Qi.getD i.toNat default)) (Qg Q9 (t.Qi.getD i.toNat default))])]
theorem DE(B:Lo)(t:Ql)(i:Int)(Qn:Nat->Value):QQ (Qq YP (Q3 YP) J0 B 14 1 (QJ 25 49 (([1,3]:List Nat).zip (YY t i)) Qn Ja) (QH (VB t i)) (2+(VB t i).length)
 (qK t i Qn++[(11,Wo)]) 0 [] []) []=some (.bool false,
 [XU 8 (↑(List.length (t.Qi.getD i.toNat default)):Int)=true]++fD B t i Qn):=by kernel_rfl
theorem DD(B:Lo)(t:Ql)(i:Int)(Qn:Nat->Value):landM (Qq YP (Q3 YP) J0 B 14 1 (QJ 25 49 (([1,3]:List Nat).zip (YY t i)) Qn Ja) (QH (VB t i)) (2+(VB t i).length)
 (qK t i Qn++[(11,W8),(13,VE (i+1))]) 0 [] []) [1,3] [(2,KS.auto)] []=some ⟨25,49,Ja,[],.run,none,YY t (i+1),VB t (i+1),
 [wq (i+1)=i+1,XU 8 (↑(List.length (t.Qi.getD i.toNat default)):Int)=false]++fD B t i Qn⟩:=by kernel_rfl
theorem DC(B:Lo)(t:Ql)(i:Int)(Qn:Nat->Value):landM (Qq YP (Q3 YP) J0 B 10 1 (QJ 25 49 (([1,3]:List Nat).zip (YY t i)) Qn Ja) (QH (VB t i)) (2+(VB t i).length)
 [(4,W8)] 0 [] []) [1,4] [(2,KS.auto)] []=some ⟨25,49,YZ,[],.run,none,YX t (0),VA t (0),
 [XU i (↑t.Qi.length:Int)=false]⟩:=by kernel_rfl
def fC(B:Lo)(t:Ql)(i:Int)(Qn:Nat->Value):List Prop:=let a:=t.Qj;let b:=a.getD i.toNat default;[i=(↑i.toNat:Int)/\Int.toNat i<List.length a/\Array.extract (Qg QZ a) (Int.toNat i*TypeInfo.size Try.t25) (Int.toNat i*TypeInfo.size Try.t25+TypeInfo.size Try.t25)=#[QE b.length (Qg Q9 b)],XU i (↑a.length:Int)=true]++([]:List Prop)
def qJ(t:Ql)(i:Int)(Qn:Nat->Value):Q5:=[(4,Wo),(8,Qk.tidx i.toNat #[QE (List.length (t.Qj.getD i.toNat default)) (Qg Q9 (t.Qj.getD i.toNat default))])]
theorem DB(B:Lo)(t:Ql)(i:Int)(Qn:Nat->Value):QQ (Qq YP (Q3 YP) J0 B 14 1 (QJ 25 49 (([1,4]:List Nat).zip (YX t i)) Qn YZ) (QH (VA t i)) (2+(VA t i).length)
 (qJ t i Qn++[(11,Wo)]) 0 [] []) []=some (.bool false,
 [XU 8 (↑(List.length (t.Qj.getD i.toNat default)):Int)=true]++fC B t i Qn):=by kernel_rfl
theorem DA(B:Lo)(t:Ql)(i:Int)(Qn:Nat->Value):landM (Qq YP (Q3 YP) J0 B 14 1 (QJ 25 49 (([1,4]:List Nat).zip (YX t i)) Qn YZ) (QH (VA t i)) (2+(VA t i).length)
 (qJ t i Qn++[(11,W8),(13,VE (i+1))]) 0 [] []) [1,4] [(2,KS.auto)] []=some ⟨25,49,YZ,[],.run,none,YX t (i+1),VA t (i+1),
 [wq (i+1)=i+1,XU 8 (↑(List.length (t.Qj.getD i.toNat default)):Int)=false]++fC B t i Qn⟩:=by kernel_rfl
theorem D9(B:Lo)(t:Ql)(i:Int)(Qn:Nat->Value):QQ (Qq YP (Q3 YP) J0 B 9 1 (QJ 25 49 (([1,4]:List Nat).zip (YX t i)) Qn YZ) (QH (VA t i)) (2+(VA t i).length)
 [(4,W8)] 0 [] []) []=some (.bool true,
 [XU i (↑t.Qj.length:Int)=false]):=by kernel_rfl
theorem D8(B:Lo)(t:Ql):QQ (Qq YP (Q3 YP) J0 B 10 1 (Qp YP 25 49 (([.agg #[Xr t.Qc,X8 t.Qi,X8 t.Qj]]).map (Q2 0 4))) XV 1
 [(5,Wo)] 0 [] []) []=some (.bool false,
 [XU 8 (↑t.Qc.length:Int)=true]):=by kernel_rfl
def fB(B:Lo)(t:Ql):List Prop:=[XU 8 (↑t.Qc.length:Int)=false]++([]:List Prop)
def qI(t:Ql):Q5:=[(5,W8)]
theorem D7(B:Lo)(t:Ql):QQ (Qq YP (Q3 YP) J0 B 10 1 (Qp YP 25 49 (([.agg #[Xr t.Qc,X8 t.Qi,X8 t.Qj]]).map (Q2 0 4))) XV 1
 (qI t++[(10,Wo)]) 0 [] []) []=some (.bool false,
 [XU 8 (↑t.Qi.length:Int)=true]++fB B t):=by kernel_rfl
def fA(B:Lo)(t:Ql):List Prop:=[XU 8 (↑t.Qi.length:Int)=false]++fB B t
def qH(t:Ql):Q5:=qI t++[(10,W8)]
theorem D6(B:Lo)(t:Ql):QQ (Qq YP (Q3 YP) J0 B 10 1 (Qp YP 25 49 (([.agg #[Xr t.Qc,X8 t.Qi,X8 t.Qj]]).map (Q2 0 4))) XV 1
 (qH t++[(16,Wo)]) 0 [] []) []=some (.bool false,
 [XU 8 (↑t.Qj.length:Int)=true]++fA B t):=by kernel_rfl
theorem D5(B:Lo)(t:Ql):landM (Qq YP (Q3 YP) J0 B 12 1 (Qp YP 25 49 (([.agg #[Xr t.Qc,X8 t.Qi,X8 t.Qj]]).map (Q2 0 4))) XV 1
 (qH t++[(16,W8)]) 0 [] []) [1,3] [(1,KS.auto)] []=some ⟨25,49,Ja,[],.run,none,YY t (0),VB t (0),
 [XU 8 (↑t.Qj.length:Int)=false]++fA B t⟩:=by kernel_rfl
set_option maxHeartbeats 4000000 in
theorem DF(t:Ql)  (Xt:t.Qc.length<=9223372036854775807/\t.Qi.length<=9223372036854775807/\t.Qj.length<=9223372036854775807){B:Lo}(hJ:∀w,B.has w->J0 w){c0:CF}:∀m:Nat,(∀(i:Int),(t.Qi.length-i.toNat)+1000=m->∀(h0:0<=i) (h8:t.Qc.length<=8/\t.Qi.length<=8/\t.Qj.length<=8),DH B c0 t i->EndsT YP B c0 (.bool ((t.Qi.drop i.toNat).all (fun l=>decide (l.length<=8)) && t.Qj.all fun l=>decide (l.length<=8))))/\(∀(i:Int),(t.Qj.length-i.toNat)=m->∀(h0:0<=i) (h8:t.Qc.length<=8/\t.Qi.length<=8/\t.Qj.length<=8),DG B c0 t i->EndsT YP B c0 (.bool ((t.Qj.drop i.toNat).all (fun l=>decide (l.length<=8))))):=by
 intro m0;induction m0 using Nat.strongRecOn with
 |_ m0 ih0=>
  refine⟨?_, ?_⟩
  ·intro i hm0 h0 h8 ⟨Qn,Ur,XM⟩;by_cases q0:(i:Int)<((↑t.Qi.length:Int))
   ·have WB:Qz (fD B t i Qn):=by
     have s2:=Uu (l:=t.Qi) (p:=fun l=>decide (l.length<=8)) h0 q0;exact⟨⟨by omega,by omega,(Q4 (z:=1) (fun _=>rfl) (by omega))⟩,⟨(XF q0),trivial⟩⟩
    by_cases q1:(8:Int)<((↑(List.length (t.Qi.getD i.toNat default)):Int))
    ·have s2:=Uu (l:=t.Qi) (p:=fun l=>decide (l.length<=8)) h0 q0;exact(GoE.endsT okF hJ Qf XM (DE B t i Qn)
      ⟨(XF q1),WB⟩).cast (by(rw[s2,decide_eq_false (by omega)];rfl))
    ·have s2:=Uu (l:=t.Qi) (p:=fun l=>decide (l.length<=8)) h0 q0;exact((ih0 _ (by omega)).1 (i+1) rfl (by omega) (by with_reducible assumption)
      (XM.landM okF hJ Qf (DD B t i Qn)
      ⟨(Xy (by omega) (by omega)),⟨(XO (Int.not_lt.1 q1)),WB⟩⟩ (by kernel_rfl) (by kernel_rfl))).cast (by(rw[s2,decide_eq_true (by omega),Bool.true_and];done))
   ·have s2:=aD (l:=t.Qi) (p:=fun l=>decide (l.length<=8)) (i:=i) (by omega);exact((ih0 _ (by omega)).2 (0) rfl (by omega) (by with_reducible assumption)
     (XM.landM okF hJ Qf (DC B t i Qn)
     ⟨(XO (Int.not_lt.1 q0)),trivial⟩ (by kernel_rfl) (by kernel_rfl))).cast (by(rw[s2];simp[*];done))
  ·intro i hm0 h0 h8 ⟨Qn,Ur,XM⟩;by_cases q0:(i:Int)<((↑t.Qj.length:Int))
   ·have JE:Qz (fC B t i Qn):=by
     have s2:=Uu (l:=t.Qj) (p:=fun l=>decide (l.length<=8)) h0 q0;exact⟨⟨by omega,by omega,(Q4 (z:=1) (fun _=>rfl) (by omega))⟩,⟨(XF q0),trivial⟩⟩
    by_cases q1:(8:Int)<((↑(List.length (t.Qj.getD i.toNat default)):Int))
    ·have s2:=Uu (l:=t.Qj) (p:=fun l=>decide (l.length<=8)) h0 q0;exact(GoE.endsT okF hJ Qf XM (DB B t i Qn)
      ⟨(XF q1),JE⟩).cast (by(rw[s2,decide_eq_false (by omega)];rfl))
    ·have s2:=Uu (l:=t.Qj) (p:=fun l=>decide (l.length<=8)) h0 q0;exact((ih0 _ (by omega)).2 (i+1) rfl (by omega) (by with_reducible assumption)
      (XM.landM okF hJ Qf (DA B t i Qn)
      ⟨(Xy (by omega) (by omega)),⟨(XO (Int.not_lt.1 q1)),JE⟩⟩ (by kernel_rfl) (by kernel_rfl))).cast (by(rw[s2,decide_eq_true (by omega),Bool.true_and];done))
   ·have s2:=aD (l:=t.Qj) (p:=fun l=>decide (l.length<=8)) (i:=i) (by omega);exact(GoE.endsT okF hJ Qf XM (D9 B t i Qn)
     ⟨(XO (Int.not_lt.1 q0)),trivial⟩).cast (by(rw[s2];done))
set_option maxHeartbeats 4000000 in
theorem GL(t:Ql)  (Xt:t.Qc.length<=9223372036854775807/\t.Qi.length<=9223372036854775807/\t.Qj.length<=9223372036854775807){B:Lo}(hJ:∀w,B.has w->J0 w):EndsT YP B (Qp YP 25 49 (([.agg #[Xr t.Qc,X8 t.Qi,X8 t.Qj]]).map (Q2 0 4))) (.bool (sizedB t)):=by
 by_cases q0:(8:Int)<((↑t.Qc.length:Int))
 ·exact(GoE.endsT okF hJ Qf GoE.start (D8 B t)
   ⟨(XF q0),trivial⟩).cast (by(simp_all[sizedB];omega))
 ·have KE:Qz (fB B t):=by
   exact⟨(XO (Int.not_lt.1 q0)),trivial⟩
  by_cases q1:(8:Int)<((↑t.Qi.length:Int))
  ·exact(GoE.endsT okF hJ Qf GoE.start (D7 B t)
    ⟨(XF q1),KE⟩).cast (by(simp_all[sizedB];omega))
  ·have hp3:Qz (fA B t):=by
    exact⟨(XO (Int.not_lt.1 q1)),KE⟩
   by_cases q2:(8:Int)<((↑t.Qj.length:Int))
   ·exact(GoE.endsT okF hJ Qf GoE.start (D6 B t)
     ⟨(XF q2),hp3⟩).cast (by(simp_all[sizedB];omega))
   ·exact((DF t Xt hJ _).1 (0) rfl (by omega) (by omega)
     (GoE.start.landM okF hJ Qf (D5 B t)
     ⟨(XO (Int.not_lt.1 q2)),hp3⟩ (by kernel_rfl) (by kernel_rfl))).cast (by(simp_all[sizedB];omega))
theorem GM(t:Ql)  :Qx YP J0 25 #[.agg #[Xr t.Qc,X8 t.Qi,X8 t.Qj]] (.bool (sizedB t)):=
 Va (ts:=[.agg #[Xr t.Qc,X8 t.Qi,X8 t.Qj]]) (t.Qc.length<=9223372036854775807/\t.Qi.length<=9223372036854775807/\t.Qj.length<=9223372036854775807) (fun _ _ ht=>⟨ht.ln2 (i:=0) (j:=0) rfl rfl,ht.ln2 (i:=0) (j:=1) rfl rfl,ht.ln2 (i:=0) (j:=2) rfl rfl⟩) Za (c0:=Qp YP 25 49 (([.agg #[Xr t.Qc,X8 t.Qi,X8 t.Qj]]).map (Q2 0 4))) (by kernel_rfl) (by kernel_rfl) fun Xt B hJ=>GL t  Xt hJ
end
end Go.Proofs.Ytncjjangllkokaa

namespace Go.Proofs.Ytncjjangllkokaa
open Go Go.CE Go.RowKit
def ry:Sh:=O5 [.int,.int]
def AY:Sh:=O5 [.int,.int,ry,.int,.int,ry,ry,.int,.int]
def ky:Sh:=O5 [.slice AY,.int,.int]
def bY:Sh:=O5 [.slice .int,.slice (.slice .int),.slice (.slice .int)]
theorem og{cs:List Value}(h:ry.ok cs):∃s:Span,cs=Xg s:=by
 obtain⟨_,_,rfl,⟨a,_,rfl⟩,_,_,rfl,⟨b,_,rfl⟩,rfl⟩:=h;exact⟨⟨a,b⟩,rfl⟩
theorem DX{cs:List Value}(h:AY.ok cs):∃s:Qd,cs=Qh s:=by
 obtain⟨_,_,rfl,⟨a,_,rfl⟩,_,_,rfl,⟨b,_,rfl⟩,_,_,rfl,h3,_,_,rfl,⟨d,_,rfl⟩,_,_,rfl,⟨e,_,rfl⟩,_,_,rfl,h6,_,_,rfl,h7,_,_,rfl,⟨g,_,rfl⟩,_,_,rfl,⟨w,_,rfl⟩,rfl⟩:=h;obtain⟨x,rfl⟩:=og h3;obtain⟨y,rfl⟩:=og h6;obtain⟨z,rfl⟩:=og h7;exact⟨⟨a,b,x.lo,x.hi,d,e,y.lo,y.hi,z.lo,z.hi,g,w⟩,rfl⟩
theorem HZ{v:Value}(h:ky.arg v):∃r:Qe,v=.agg (Q0 r).toArray:=by
 obtain⟨cs,rfl,h⟩:=h;obtain⟨_,_,rfl,h1,_,_,rfl,⟨m,_,rfl⟩,_,_,rfl,⟨n,_,rfl⟩,rfl⟩:=h;obtain⟨xs,rfl⟩:=bX (fun _=>DX) h1;exact⟨⟨xs,m,n⟩,rfl⟩
theorem dM{cs:List Value}(h:Sh.ok (.slice .int) cs):∃xs:List Int,cs=QZ xs:=bX (fun _=>MD) h
theorem Ia{v:Value}(h:Sh.arg (.slice .int) v):∃xs:List Int,v=Xr xs:=by
 obtain⟨xs,hx⟩:=dM (show Sh.ok (.slice .int) [v]from h);exact⟨xs,by simpa using hx⟩
theorem Ei{v:Value}(h:bY.arg v):∃t:Ql,v=.agg #[Xr t.Qc,X8 t.Qi,X8 t.Qj]:=by
 obtain⟨cs,rfl,h⟩:=h;obtain⟨_,_,rfl,h1,_,_,rfl,h2,_,_,rfl,h3,rfl⟩:=h;obtain⟨xs,rfl⟩:=dM h1;obtain⟨ys,rfl⟩:=bX (fun _=>dM) h2;obtain⟨zs,rfl⟩:=bX (fun _=>dM) h3;exact⟨⟨xs,ys,zs⟩,rfl⟩
theorem B1{v:Value}(h:Sh.arg .int v):∃z:Int,v=.int .i64 z:=by
 obtain⟨z,_,h⟩:=h;exact⟨z,by simpa using h⟩
end Go.Proofs.Ytncjjangllkokaa

