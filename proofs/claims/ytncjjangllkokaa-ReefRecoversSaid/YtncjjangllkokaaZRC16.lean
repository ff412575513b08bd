/- Reef: truths. -/
import Derived.Test.YtncjjangllkokaaZRC15
import Derived.Test.YtncjjangllkokaaZRC07
import Derived.Test.YtncjjangllkokaaZRC11
import Derived.Test.YtncjjangllkokaaZRC10
set_option linter.all false
open List renaming getD_eq_getElem?_getD->MU,length->MO,getD->Na,getElem?_eq_none->Nf,range->MP
open Nat renaming strongRecOn->No,ble->Nr,blt->MY,beq->MQ
open Int renaming le_refl->Nx,tdiv_eq_ediv_of_nonneg->ND,toNat->MM
open Array renaming eq_empty_of_size_eq_zero->Ns,extract->Nu
open Inhabited renaming default->ML
namespace Go.Proofs.Ytncjjangllkokaa
open Go Go.CE Go.RowKit
noncomputable section
set_option maxRecDepth 100000
def c9(xs:List Int)(ss:List Span)(i:Int):Bool:=(aj i xs.length).all fun k=>WK (xs.getD k.toNat ML) (ss.getD k.toNat ML).lo (ss.getD k.toNat ML).hi
def PD(xs:List Int)(ss:List Span):Bool:=decide (xs.length=ss.length) && c9 xs ss 0
theorem XS{xs:List Int}{ss:List Span}{i:Int}(h:i<xs.length):c9 xs ss i=(WK (xs.getD i.toNat ML) (ss.getD i.toNat ML).lo (ss.getD i.toNat ML).hi && c9 xs ss (i+1)):=by
 unfold c9;rw[jH h,List.all_cons]
theorem c8{xs:List Int}{ss:List Span}{i:Int}(h:xs.length<=i):c9 xs ss i=true:=by
 unfold c9;rw[jd h];rfl
def jY(rf:Qe)(Qb:List Int)(gs ts:List (List Int))(s:Int):Bool:=PD (gs.getD s.toNat ML) (rf.Qa.map Xx) && PD (ts.getD s.toNat ML) (Xn rf.Qa (Qb.getD s.toNat 0))
def SZ(rf:Qe)(Qb:List Int)(gs ts:List (List Int))(i:Int):Bool:=(aj i rf.Qc).all fun s=>jY rf Qb gs ts s
theorem VN{rf:Qe}{Qb:List Int}{gs ts:List (List Int)}{i:Int}(h:i<rf.Qc):SZ rf Qb gs ts i=(jY rf Qb gs ts i && SZ rf Qb gs ts (i+1)):=by
 unfold SZ;rw[jH h,List.all_cons]
theorem tS{rf:Qe}{Qb:List Int}{gs ts:List (List Int)}{i:Int}(h:rf.Qc<=i):SZ rf Qb gs ts i=true:=by
 unfold SZ;rw[jd h];rfl
def QZ(rf:Qe)(Qb:List Int)(t:Qn):Bool:=PD t.starts (rf.Qa.map (Xt rf.Qk)) && (decide ((t.grows.length:Int)=rf.Qc) && (decide ((t.takes.length:Int)=rf.Qc) && SZ rf Qb t.grows t.takes 0))
theorem Db{rf:Qe}{Qb:List Int}{gs ts:List (List Int)}{s:Int}(h:¬(gs.getD s.toNat ML).length=rf.Qa.length\/¬(ts.getD s.toNat ML).length=rf.Qa.length):jY rf Qb gs ts s=false:=by
 unfold jY PD;rw[List.length_map,show(Xn rf.Qa (Qb.getD s.toNat 0)).length=rf.Qa.length by rw[Xn,Xu];omega];rcases h with h|h
 ·rw[decide_eq_false h];rfl
 ·rw[decide_eq_false h,Bool.false_and,Bool.and_false]
theorem Gy{rf:Qe}{Qb:List Int}{gs ts:List (List Int)}{s:Int}(h1:(gs.getD s.toNat ML).length=rf.Qa.length)(h2:(ts.getD s.toNat ML).length=rf.Qa.length):jY rf Qb gs ts s=(c9 (gs.getD s.toNat ML) (rf.Qa.map Xx) 0 && c9 (ts.getD s.toNat ML) (Xn rf.Qa (Qb.getD s.toNat ML)) 0):=by
 unfold jY PD;rw[List.length_map,show(Xn rf.Qa (Qb.getD s.toNat 0)).length=rf.Qa.length by rw[Xn,Xu];omega,decide_eq_true h1,decide_eq_true h2,Bool.true_and,Bool.true_and];rfl
theorem jJ{rf:Qe}{Qb:List Int}{t:Qn}(h:¬t.starts.length=rf.Qa.length\/¬(t.grows.length:Int)=rf.Qc\/¬(t.takes.length:Int)=rf.Qc):QZ rf Qb t=false:=by
 unfold QZ PD;rw[List.length_map];rcases h with h|h|h
 ·rw[decide_eq_false h];rfl
 ·rw[decide_eq_false h,Bool.false_and,Bool.and_false]
 ·rw[decide_eq_false h,Bool.false_and,Bool.and_false,Bool.and_false]
theorem A8{rf:Qe}{Qb:List Int}{t:Qn}(h1:t.starts.length=rf.Qa.length)(h2:(t.grows.length:Int)=rf.Qc)(h3:(t.takes.length:Int)=rf.Qc):QZ rf Qb t=(c9 t.starts (rf.Qa.map (Xt rf.Qk)) 0 && SZ rf Qb t.grows t.takes 0):=by
 unfold QZ PD;rw[List.length_map,decide_eq_true h1,decide_eq_true h2,decide_eq_true h3,Bool.true_and,Bool.true_and,Bool.true_and]
theorem ZA{ps:List Qd}{f:Qd->Span}{i:Int}(h0:0<=i)(h:i<ps.length):(ps.map f).getD i.toNat ML=f (ps.getD i.toNat ML):=by
 have hk:i.toNat<ps.length:=by omega
 simp[MU,hk]
def Ku(xs:List Int)(ss:List Span)(i:Int):List Value:=[Qv 1 (QJ ss.length (Qg QU ss)),Qv 1 (QJ xs.length (Qg Q9 xs)),.int .i64 (↑xs.length:Int),.int .i64 i]
def WA(xs:List Int)(ss:List Span)(i:Int):List Obj:=[]
def Kv:List Item:=([.code [1,1,0,1,0,0],.inLoop [1,1,0,1,0,0],.inBlock 0,.code [1,1,1]]).map (it (Xf YP 81))
def v5(B:Lo)(c0:CF)(xs:List Int)(ss:List Span)(i:Int):Prop:=∃dJ:Nat->Value,(∀t,XP (dJ t))/\GoE YP B c0 Zn 1 (QO 81 27 (([1,12,13,14]:List Nat).zip (Ku xs ss i)) dJ Kv) (QN (WA xs ss i)) (2+(WA xs ss i).length) []
def Py(ss:List Span)(i:Int):Array Value:=#[.int .i64 (Span.lo (ss.getD i.toNat ML)),.int .i64 (Span.hi (ss.getD i.toNat ML))]
def TI(B:Lo)(xs:List Int)(ss:List Span)(i:Int)(Qt:Nat->Value):List Prop:=[Ug i ss.length (Qg QU ss) Try.t38.size (Py ss i),Ug i xs.length (Qg Q9 xs) Try.t3.size #[.int .i64 (xs.getD i.toNat ML)],Zq i (↑xs.length:Int)=true]++([]:List Prop)
def gZ(xs:List Int)(ss:List Span)(i:Int)(Qt:Nat->Value):QB:=[(0,WR),(2,Ql.tidx i.toNat #[.int .i64 (xs.getD i.toNat ML)]),(9,Ql.tidx i.toNat (Py ss i))]
theorem vz(B:Lo)(xs:List Int)(ss:List Span)(i:Int)(Qt:Nat->Value):landM (Qu YP (Q8 YP) J0 B 16 1 (QO 81 27 (([1,12,13,14]:List Nat).zip (Ku xs ss i)) Qt Kv) (QN (WA xs ss i)) (2+(WA xs ss i).length)
 (gZ xs ss i Qt++[(11,Ql.pure (.bool true) []),(13,U2 (i+1))]) 0 [] []) [1,12,13,14] [] []=some ⟨81,27,Kv,[],.run,none,Ku xs ss (i+1),WA xs ss (i+1),
 [wq (i+1)=i+1,Q3 []/\Q0 YP J0 101 #[.int .i64 (xs.getD i.toNat ML),.agg (Py ss i)] (.bool true)]++TI B xs ss i Qt⟩:=by kernel_rfl
theorem vy(B:Lo)(xs:List Int)(ss:List Span)(i:Int)(Qt:Nat->Value):Xd (Qu YP (Q8 YP) J0 B 16 1 (QO 81 27 (([1,12,13,14]:List Nat).zip (Ku xs ss i)) Qt Kv) (QN (WA xs ss i)) (2+(WA xs ss i).length)
 (gZ xs ss i Qt++[(11,Ql.pure (.bool false) [])]) 0 [] []) []=some (.bool false,
 [Q3 []/\Q0 YP J0 101 #[.int .i64 (xs.getD i.toNat ML),.agg (Py ss i)] (.bool false)]++TI B xs ss i Qt):=by kernel_rfl
theorem vx(B:Lo)(xs:List Int)(ss:List Span)(i:Int)(Qt:Nat->Value):Xd (Qu YP (Q8 YP) J0 B 9 1 (QO 81 27 (([1,12,13,14]:List Nat).zip (Ku xs ss i)) Qt Kv) (QN (WA xs ss i)) (2+(WA xs ss i).length)
 [(0,Vs)] 0 [] []) []=some (.bool true,
 [Zq i (↑xs.length:Int)=false]):=by kernel_rfl
theorem vw(B:Lo)(xs:List Int)(ss:List Span):Xd (Qu YP (Q8 YP) J0 B 10 1 (Qq YP 81 27 (([XF xs,Yk ss]).map (Q5 0 4))) Zn 1
 [(5,WR)] 0 [] []) []=some (.bool false,
 [(!YI (↑xs.length:Int) (↑ss.length:Int))=true]):=by kernel_rfl
theorem vv(B:Lo)(xs:List Int)(ss:List Span):landM (Qu YP (Q8 YP) J0 B 12 1 (Qq YP 81 27 (([XF xs,Yk ss]).map (Q5 0 4))) Zn 1
 [(5,Vs)] 0 [] []) [1,12,13,14] [] []=some ⟨81,27,Kv,[],.run,none,Ku xs ss (0),WA xs ss (0),
 [(!YI (↑xs.length:Int) (↑ss.length:Int))=false]⟩:=by kernel_rfl
set_option maxHeartbeats 4000000 in
theorem v3(xs:List Int)(ss:List Span)  (XB:xs.length<=9223372036854775807/\ss.length<=9223372036854775807){B:Lo}(hJ:∀w,B.has w->J0 w){c0:CF}:∀m:Nat,(∀(i:Int),xs.length-i.toNat=m->∀(h0:0<=i) (hle:xs.length=ss.length),v5 B c0 xs ss i->EndsT YP B c0 (.bool (c9 xs ss i))):=by
 intro m0;induction m0 using No with
 |_ m0 ih0=>
  intro i hm0 h0 hle ⟨Qt,Kn,Zk⟩;have hx:=XB.1;have hy:=XB.2;have hx:=XB.1;by_cases q0:(i:Int)<((↑xs.length:Int))
  ·have Vb:Q3 (TI B xs ss i Qt):=by
    have s2:=XS (ss:=ss) q0;exact⟨⟨by omega,by omega,(QA (z:=2) (fun _=>rfl) (by omega))⟩,⟨⟨by omega,by omega,(QA (z:=1) (fun _=>rfl) (by omega))⟩,⟨(Zh q0),trivial⟩⟩⟩
   cases q1:WK (xs.getD i.toNat ML) (Span.lo (ss.getD i.toNat ML)) (Span.hi (ss.getD i.toNat ML))with
   |true=>
    have s2:=XS (ss:=ss) q0;exact((ih0 _ (by omega)) (i+1) rfl (by omega) (by with_reducible assumption)
     (Zk.landM okF hJ Qf (vz B xs ss i Qt)
     ⟨(XH (by omega) (by omega)),⟨⟨trivial,(by have t_:=Aj (xs.getD i.toNat ML) (Span.lo (ss.getD i.toNat ML)) (Span.hi (ss.getD i.toNat ML));rw[q1]at t_;exact t_)⟩,Vb⟩⟩ (by kernel_rfl) (by kernel_rfl))).cast (by(rw[s2];simp_all;done))
   |false=>
    have s2:=XS (ss:=ss) q0;exact(GoE.endsT okF hJ Qf Zk (vy B xs ss i Qt)
     ⟨⟨trivial,(by have t_:=Aj (xs.getD i.toNat ML) (Span.lo (ss.getD i.toNat ML)) (Span.hi (ss.getD i.toNat ML));rw[q1]at t_;exact t_)⟩,Vb⟩).cast (by(rw[s2];simp_all;done))
  ·have s2:=c8 (xs:=xs) (ss:=ss) (i:=i) (by omega);exact(GoE.endsT okF hJ Qf Zk (vx B xs ss i Qt)
    ⟨(Zr (Int.not_lt.1 q0)),trivial⟩).cast (by(rw[s2];done))
set_option maxHeartbeats 4000000 in
theorem yQ(xs:List Int)(ss:List Span)  (XB:xs.length<=9223372036854775807/\ss.length<=9223372036854775807){B:Lo}(hJ:∀w,B.has w->J0 w):EndsT YP B (Qq YP 81 27 (([XF xs,Yk ss]).map (Q5 0 4))) (.bool (PD xs ss)):=by
 have hx:=XB.1;have hy:=XB.2;by_cases q0:((↑xs.length:Int):Int)≠((↑ss.length:Int))
 ·exact(GoE.endsT okF hJ Qf GoE.start (vw B xs ss)
   ⟨(JO q0),trivial⟩).cast (by(simp_all[PD];omega))
 ·exact((v3 xs ss XB hJ _) (0) rfl (by omega) (by omega)
   (GoE.start.landM okF hJ Qf (vv B xs ss)
   ⟨(JP (Decidable.of_not_not q0)),trivial⟩ (by kernel_rfl) (by kernel_rfl))).cast (by(simp_all[PD];omega))
theorem RB(xs:List Int)(ss:List Span)  :Q0 YP J0 81 #[XF xs,Yk ss] (.bool (PD xs ss)):=
 Vk (ts:=[XF xs,Yk ss]) (xs.length<=9223372036854775807/\ss.length<=9223372036854775807) (fun _ _ ht=>⟨ht.ln (i:=0) rfl,ht.ln (i:=1) rfl⟩) Zs (c0:=Qq YP 81 27 (([XF xs,Yk ss]).map (Q5 0 4))) (by kernel_rfl) (by kernel_rfl) fun XB B hJ=>yQ xs ss  XB hJ
def Up(rf:Qe)(Qb:List Int)(t:Qn)(i:Int):List Value:=[pA 2 0,pA 3 0,.int .i64 rf.Qc,.int .i64 i]
def ZS(rf:Qe)(Qb:List Int)(t:Qn)(i:Int):List Obj:=[Obj.cells #[Qv 1 (QJ rf.Qa.length (Qg Qj rf.Qa)),.int .i64 rf.Qk,.int .i64 rf.Qc,.int .i64 (Qb.getD 0 0),.int .i64 (Qb.getD 1 0),.int .i64 (Qb.getD 2 0),.int .i64 (Qb.getD 3 0)] 84,Obj.cells #[Qv 1 (QJ t.starts.length (Qg Q9 t.starts)),Qv 1 (QJ t.grows.length (Qg Xq t.grows)),Qv 1 (QJ t.takes.length (Qg Xq t.takes))] 42]
def Uq:List Item:=([.code [1,1,0,1,0,0],.inLoop [1,1,0,1,0,0],.inBlock 0,.code [1,1,1]]).map (it (Xf YP 58))
def uU(B:Lo)(c0:CF)(rf:Qe)(Qb:List Int)(t:Qn)(i:Int):Prop:=∃dJ:Nat->Value,(∀t,XP (dJ t))/\GoE YP B c0 Zn 1 (QO 58 58 (([2,3,32,33]:List Nat).zip (Up rf Qb t i)) dJ Uq) (QN (ZS rf Qb t i)) (2+(ZS rf Qb t i).length) []
def Tx(rf:Qe)(Qb:List Int):Array Value:=#[QJ rf.Qa.length (Qg Qj rf.Qa),.int .i64 rf.Qk,.int .i64 rf.Qc,.int .i64 (Qb.getD 0 0),.int .i64 (Qb.getD 1 0),.int .i64 (Qb.getD 2 0),.int .i64 (Qb.getD 3 0)]
def Pv(rf:Qe):=(List.map (Xt rf.Qk) rf.Qa)
def g9(rf:Qe)(t:Qn):Array Value:=#[QJ t.starts.length (Qg Q9 t.starts),QJ (MO (Pv rf)) (Qg QU (Pv rf))]
def g8(rf:Qe):Value:=(QJ (MO (Pv rf)) (Qg QU (Pv rf)))
def Pu(t:Qn)(i:Int):=(t.takes.getD i.toNat ML)
def gy(t:Qn)(i:Int):Array Value:=#[QJ (MO (Pu t i)) (Qg Q9 (Pu t i))]
def Ps(t:Qn)(i:Int):=(t.grows.getD i.toNat ML)
def gz(t:Qn)(i:Int):Array Value:=#[QJ (MO (Ps t i)) (Qg Q9 (Ps t i))]
def Ja(rf:Qe)(Qb:List Int)(i:Int):=(Xn rf.Qa (Qb.getD i.toNat 0))
def gB(rf:Qe)(Qb:List Int)(t:Qn)(i:Int):Array Value:=#[QJ (MO (Pu t i)) (Qg Q9 (Pu t i)),QJ (MO (Ja rf Qb i)) (Qg QU (Ja rf Qb i))]
def dc(rf:Qe)(Qb:List Int)(i:Int):Value:=(QJ (MO (Ja rf Qb i)) (Qg QU (Ja rf Qb i)))
def YZ(rf:Qe):=(List.map Xx rf.Qa)
def gA(rf:Qe)(t:Qn)(i:Int):Array Value:=#[QJ (MO (Ps t i)) (Qg Q9 (Ps t i)),QJ (MO (YZ rf)) (Qg QU (YZ rf))]
def db(rf:Qe):Value:=(QJ (MO (YZ rf)) (Qg QU (YZ rf)))
def T4(B:Lo)(rf:Qe)(Qb:List Int)(t:Qn)(i:Int)(Qt:Nat->Value):List Prop:=[Q3 []/\Q0 YP J0 83 #[.agg (Tx rf Qb)] (db rf),Ug i t.grows.length (Qg Xq t.grows) Try.t25.size (gz t i),Zq i rf.Qc=true]++([]:List Prop)
def gH(rf:Qe)(Qb:List Int)(t:Qn)(i:Int)(Qt:Nat->Value):QB:=[(0,WR),(6,Ql.tidx i.toNat (gz t i)),(9,Ql.pure (db rf) [])]
def T3(B:Lo)(rf:Qe)(Qb:List Int)(t:Qn)(i:Int)(Qt:Nat->Value):List Prop:=[Q3 []/\Q0 YP J0 84 #[.agg (Tx rf Qb),.int .i64 i] (dc rf Qb i),Ug i t.takes.length (Qg Xq t.takes) Try.t25.size (gy t i),Q3 []/\Q0 YP J0 81 (gA rf t i) (.bool true)]++T4 B rf Qb t i Qt
def gG(rf:Qe)(Qb:List Int)(t:Qn)(i:Int)(Qt:Nat->Value):QB:=gH rf Qb t i Qt++[(10,Ql.pure (.bool true) []),(16,Ql.tidx i.toNat (gy t i)),(20,Ql.pure (dc rf Qb i) [])]
theorem uS(B:Lo)(rf:Qe)(Qb:List Int)(t:Qn)(i:Int)(Qt:Nat->Value):landM (Qu YP (Q8 YP) J0 B 16 1 (QO 58 58 (([2,3,32,33]:List Nat).zip (Up rf Qb t i)) Qt Uq) (QN (ZS rf Qb t i)) (2+(ZS rf Qb t i).length)
 (gG rf Qb t i Qt++[(21,Ql.pure (.bool true) []),(24,U2 (i+1))]) 0 [] []) [2,3,32,33] [(2,KS.auto),(3,KS.auto)] []=some ⟨58,58,Uq,[],.run,none,Up rf Qb t (i+1),ZS rf Qb t (i+1),
 [wq (i+1)=i+1,Q3 []/\Q0 YP J0 81 (gB rf Qb t i) (.bool true)]++T3 B rf Qb t i Qt⟩:=by kernel_rfl
theorem uR(B:Lo)(rf:Qe)(Qb:List Int)(t:Qn)(i:Int)(Qt:Nat->Value):Xd (Qu YP (Q8 YP) J0 B 16 1 (QO 58 58 (([2,3,32,33]:List Nat).zip (Up rf Qb t i)) Qt Uq) (QN (ZS rf Qb t i)) (2+(ZS rf Qb t i).length)
 (gG rf Qb t i Qt++[(21,Ql.pure (.bool false) [])]) 0 [] []) []=some (.bool false,
 [Q3 []/\Q0 YP J0 81 (gB rf Qb t i) (.bool false)]++T3 B rf Qb t i Qt):=by kernel_rfl
theorem uQ(B:Lo)(rf:Qe)(Qb:List Int)(t:Qn)(i:Int)(Qt:Nat->Value):Xd (Qu YP (Q8 YP) J0 B 16 1 (QO 58 58 (([2,3,32,33]:List Nat).zip (Up rf Qb t i)) Qt Uq) (QN (ZS rf Qb t i)) (2+(ZS rf Qb t i).length)
 (gH rf Qb t i Qt++[(10,Ql.pure (.bool false) [])]) 0 [] []) []=some (.bool false,
 [Q3 []/\Q0 YP J0 81 (gA rf t i) (.bool false)]++T4 B rf Qb t i Qt):=by kernel_rfl
theorem uP(B:Lo)(rf:Qe)(Qb:List Int)(t:Qn)(i:Int)(Qt:Nat->Value):Xd (Qu YP (Q8 YP) J0 B 9 1 (QO 58 58 (([2,3,32,33]:List Nat).zip (Up rf Qb t i)) Qt Uq) (QN (ZS rf Qb t i)) (2+(ZS rf Qb t i).length)
 [(0,Vs)] 0 [] []) []=some (.bool true,
 [Zq i rf.Qc=false]):=by kernel_rfl
def T0(B:Lo)(rf:Qe)(Qb:List Int)(t:Qn):List Prop:=[Q3 []/\Q0 YP J0 82 #[.agg (Tx rf Qb)] (g8 rf)]++([]:List Prop)
def gF(rf:Qe)(Qb:List Int)(t:Qn):QB:=[(6,Ql.pure (g8 rf) [])]
def Tz(B:Lo)(rf:Qe)(Qb:List Int)(t:Qn):List Prop:=[Q3 []/\Q0 YP J0 81 (g9 rf t) (.bool true)]++T0 B rf Qb t
def gE(rf:Qe)(Qb:List Int)(t:Qn):QB:=gF rf Qb t++[(7,Ql.pure (.bool true) [])]
theorem uO(B:Lo)(rf:Qe)(Qb:List Int)(t:Qn):Xd (Qu YP (Q8 YP) J0 B 10 1 (Qq YP 58 58 (([.agg (Xm rf Qb).toArray,.agg #[XF t.starts,QJ t.grows.length (Qg Xq t.grows),QJ t.takes.length (Qg Xq t.takes)]]).map (Q5 0 4))) Zn 1
 (gE rf Qb t++[(16,WR)]) 0 [] []) []=some (.bool false,
 [(!YI (↑t.grows.length:Int) rf.Qc)=true]++Tz B rf Qb t):=by kernel_rfl
def Ty(B:Lo)(rf:Qe)(Qb:List Int)(t:Qn):List Prop:=[(!YI (↑t.grows.length:Int) rf.Qc)=false]++Tz B rf Qb t
def gC(rf:Qe)(Qb:List Int)(t:Qn):QB:=gE rf Qb t++[(16,Vs)]
theorem uN(B:Lo)(rf:Qe)(Qb:List Int)(t:Qn):Xd (Qu YP (Q8 YP) J0 B 10 1 (Qq YP 58 58 (([.agg (Xm rf Qb).toArray,.agg #[XF t.starts,QJ t.grows.length (Qg Xq t.grows),QJ t.takes.length (Qg Xq t.takes)]]).map (Q5 0 4))) Zn 1
 (gC rf Qb t++[(25,WR)]) 0 [] []) []=some (.bool false,
 [(!YI (↑t.takes.length:Int) rf.Qc)=true]++Ty B rf Qb t):=by kernel_rfl
theorem uM(B:Lo)(rf:Qe)(Qb:List Int)(t:Qn):landM (Qu YP (Q8 YP) J0 B 12 1 (Qq YP 58 58 (([.agg (Xm rf Qb).toArray,.agg #[XF t.starts,QJ t.grows.length (Qg Xq t.grows),QJ t.takes.length (Qg Xq t.takes)]]).map (Q5 0 4))) Zn 1
 (gC rf Qb t++[(25,Vs)]) 0 [] []) [2,3,32,33] [(1,KS.auto),(2,KS.auto)] []=some ⟨58,58,Uq,[],.run,none,Up rf Qb t (0),ZS rf Qb t (0),
 [(!YI (↑t.takes.length:Int) rf.Qc)=false]++Ty B rf Qb t⟩:=by kernel_rfl
theorem uL(B:Lo)(rf:Qe)(Qb:List Int)(t:Qn):Xd (Qu YP (Q8 YP) J0 B 10 1 (Qq YP 58 58 (([.agg (Xm rf Qb).toArray,.agg #[XF t.starts,QJ t.grows.length (Qg Xq t.grows),QJ t.takes.length (Qg Xq t.takes)]]).map (Q5 0 4))) Zn 1
 (gF rf Qb t++[(7,Ql.pure (.bool false) [])]) 0 [] []) []=some (.bool false,
 [Q3 []/\Q0 YP J0 81 (g9 rf t) (.bool false)]++T0 B rf Qb t):=by kernel_rfl
set_option maxHeartbeats 4000000 in
theorem uT(rf:Qe)(Qb:List Int)(t:Qn)(hr:Qy rf=true)(hl:Qb.length<=4)(hp:∀j:Nat,0<=Qb.getD j 0/\Qb.getD j 0<=1000000){B:Lo}(hJ:∀w,B.has w->J0 w){c0:CF}:∀m:Nat,(∀(i:Int),(rf.Qc-i).toNat=m->∀(h0:0<=i) (hgl:(t.grows.length:Int)=rf.Qc) (htl:(t.takes.length:Int)=rf.Qc),uU B c0 rf Qb t i->EndsT YP B c0 (.bool (SZ rf Qb t.grows t.takes i))):=by
 intro m0;induction m0 using No with
 |_ m0 ih0=>
  intro i hm0 h0 hgl htl ⟨Qt,Kn,Zk⟩;have ZN:=Q6 (QD hr).1;have hcs:=(fun k h0 h1=>(Za ((QD hr).2 k h0 h1).1).1)
  have ZN:=Q6 (QD hr).1;by_cases q0:(i:Int)<rf.Qc
  ·have Vb:Q3 (T4 B rf Qb t i Qt):=by
    have s2:=VN (Qb:=Qb) (gs:=t.grows) (ts:=t.takes) q0;exact⟨⟨trivial,E2 (rf) (Qb) (by omega)⟩,⟨⟨by omega,by omega,(QA (z:=1) (fun _=>rfl) (by omega))⟩,⟨(Zh q0),trivial⟩⟩⟩
   cases q1:PD (t.grows.getD i.toNat ML) (List.map Xx rf.Qa)with
   |true=>
    have PV:Q3 (T3 B rf Qb t i Qt):=by
     have s2:=VN (Qb:=Qb) (gs:=t.grows) (ts:=t.takes) q0;exact⟨⟨trivial,Eg (rf) (Qb) (i) (by omega) (by with_reducible assumption) (by with_reducible assumption) (by omega) (by with_reducible assumption)⟩,⟨⟨by omega,by omega,(QA (z:=1) (fun _=>rfl) (by omega))⟩,⟨⟨trivial,(by have t_:=RB (t.grows.getD i.toNat ML) (List.map Xx rf.Qa);rw[q1]at t_;exact t_)⟩,Vb⟩⟩⟩
    cases q2:PD (t.takes.getD i.toNat ML) (Xn rf.Qa (Qb.getD i.toNat 0))with
    |true=>
     have s2:=VN (Qb:=Qb) (gs:=t.grows) (ts:=t.takes) q0;exact((ih0 _ (by omega)) (i+1) rfl (by omega) (by with_reducible assumption) (by with_reducible assumption)
      (Zk.landM okF hJ Qf (uS B rf Qb t i Qt)
      ⟨(XH (by omega) (by omega)),⟨⟨trivial,(by have t_:=RB (t.takes.getD i.toNat ML) (Xn rf.Qa (Qb.getD i.toNat 0));rw[q2]at t_;exact t_)⟩,PV⟩⟩ (by kernel_rfl) (by kernel_rfl))).cast (by(rw[s2];simp_all[jY];done))
    |false=>
     have s2:=VN (Qb:=Qb) (gs:=t.grows) (ts:=t.takes) q0;exact(GoE.endsT okF hJ Qf Zk (uR B rf Qb t i Qt)
      ⟨⟨trivial,(by have t_:=RB (t.takes.getD i.toNat ML) (Xn rf.Qa (Qb.getD i.toNat 0));rw[q2]at t_;exact t_)⟩,PV⟩).cast (by(rw[s2];simp_all[jY];done))
   |false=>
    have s2:=VN (Qb:=Qb) (gs:=t.grows) (ts:=t.takes) q0;exact(GoE.endsT okF hJ Qf Zk (uQ B rf Qb t i Qt)
     ⟨⟨trivial,(by have t_:=RB (t.grows.getD i.toNat ML) (List.map Xx rf.Qa);rw[q1]at t_;exact t_)⟩,Vb⟩).cast (by(rw[s2];simp_all[jY];done))
  ·have s2:=tS (rf:=rf) (Qb:=Qb) (gs:=t.grows) (ts:=t.takes) (i:=i) (by omega);exact(GoE.endsT okF hJ Qf Zk (uP B rf Qb t i Qt)
    ⟨(Zr (Int.not_lt.1 q0)),trivial⟩).cast (by(rw[s2];done))
set_option maxHeartbeats 4000000 in
theorem y2(rf:Qe)(Qb:List Int)(t:Qn)(hr:Qy rf=true)(hl:Qb.length<=4)(hp:∀j:Nat,0<=Qb.getD j 0/\Qb.getD j 0<=1000000){B:Lo}(hJ:∀w,B.has w->J0 w):EndsT YP B (Qq YP 58 58 (([.agg (Xm rf Qb).toArray,.agg #[XF t.starts,QJ t.grows.length (Qg Xq t.grows),QJ t.takes.length (Qg Xq t.takes)]]).map (Q5 0 4))) (.bool (QZ rf Qb t)):=by
 have ZN:=Q6 (QD hr).1;have hcs:=(fun k h0 h1=>(Za ((QD hr).2 k h0 h1).1).1)
 have KY:Q3 (T0 B rf Qb t):=by
  exact⟨⟨trivial,Ah (rf) (Qb) (by omega) (by omega) (by with_reducible assumption)⟩,trivial⟩
 cases q0:PD t.starts (List.map (Xt rf.Qk) rf.Qa)with
 |true=>
  have hp3:Q3 (Tz B rf Qb t):=by
   exact⟨⟨trivial,(by have t_:=RB t.starts (List.map (Xt rf.Qk) rf.Qa);rw[q0]at t_;exact t_)⟩,KY⟩
  by_cases q1:((↑t.grows.length:Int):Int)≠rf.Qc
  ·exact(GoE.endsT okF hJ Qf GoE.start (uO B rf Qb t)
    ⟨(JO q1),hp3⟩).cast (by(simp only[QZ];simp[*];done))
  ·have hp4:Q3 (Ty B rf Qb t):=by
    exact⟨(JP (Decidable.of_not_not q1)),hp3⟩
   by_cases q2:((↑t.takes.length:Int):Int)≠rf.Qc
   ·exact(GoE.endsT okF hJ Qf GoE.start (uN B rf Qb t)
     ⟨(JO q2),hp4⟩).cast (by(simp only[QZ];simp[*];done))
   ·exact((uT rf Qb t hr hl hp hJ _) (0) rfl (by omega) (by omega) (by omega)
     (GoE.start.landM okF hJ Qf (uM B rf Qb t)
     ⟨(JP (Decidable.of_not_not q2)),hp4⟩ (by kernel_rfl) (by kernel_rfl))).cast (by(simp_all[QZ];done))
 |false=>
  exact(GoE.endsT okF hJ Qf GoE.start (uL B rf Qb t)
   ⟨⟨trivial,(by have t_:=RB t.starts (List.map (Xt rf.Qk) rf.Qa);rw[q0]at t_;exact t_)⟩,KY⟩).cast (by(simp only[QZ];simp[*];done))
theorem uV(rf:Qe)(Qb:List Int)(t:Qn)(hr:Qy rf=true)(hl:Qb.length<=4)(hp:∀j:Nat,0<=Qb.getD j 0/\Qb.getD j 0<=1000000):Q0 YP J0 58 #[.agg (Xm rf Qb).toArray,.agg #[XF t.starts,QJ t.grows.length (Qg Xq t.grows),QJ t.takes.length (Qg Xq t.takes)]] (.bool (QZ rf Qb t)):=
 XD (ts:=[.agg (Xm rf Qb).toArray,.agg #[XF t.starts,QJ t.grows.length (Qg Xq t.grows),QJ t.takes.length (Qg Xq t.takes)]]) Zs (c0:=Qq YP 58 58 (([.agg (Xm rf Qb).toArray,.agg #[XF t.starts,QJ t.grows.length (Qg Xq t.grows),QJ t.takes.length (Qg Xq t.takes)]]).map (Q5 0 4))) (by kernel_rfl) (by kernel_rfl) fun B hJ=>y2 rf Qb t hr hl hp hJ
def VO(x_:Qd):Array Value:=#[.int .i64 x_.count,.int .i64 x_.room,.int .i64 x_.WO,.int .i64 x_.Sa,.int .i64 x_.QM,.int .i64 x_.XM,.int .i64 x_.K3,.int .i64 x_.ZT,.int .i64 x_.UI,.int .i64 x_.ZD,.int .i64 x_.goal,.int .i64 x_.Vh]
def az(x_:Qd):Array Value:=#[.int .i64 (if false=true then x_.UI else x_.K3),.int .i64 (if false=true then x_.ZD else x_.ZT)]
def ay(x_:Qd):Array Value:=#[.int .i64 (if true=true then x_.UI else x_.K3),.int .i64 (if true=true then x_.ZD else x_.ZT)]
def PZ(rf:Qe):Array Value:=(Qg Qj rf.Qa)
def Ji(rf:Qe)(Qb:List Int)(t:Qn)(i:Int):List Value:=[Qv 1 (QJ Qb.length (Qg Q9 Qb)),pA 2 0,pA 3 0,.int .i64 i]
def VS(rf:Qe)(Qb:List Int)(t:Qn)(i:Int):List Obj:=[Obj.cells #[Qv 1 (QJ rf.Qa.length (Qg Qj rf.Qa)),.int .i64 rf.Qk,.int .i64 rf.Qc] 24,Obj.cells #[Qv 1 (QJ t.starts.length (Qg Q9 t.starts)),Qv 1 (QJ t.grows.length (Qg Xq t.grows)),Qv 1 (QJ t.takes.length (Qg Xq t.takes))] 42]
def Jj:List Item:=([.code [1,1,0,1,0,0],.inLoop [1,1,0,1,0,0],.inBlock 0,.code [1,1,1]]).map (it (Xf YP 27))
def AS(B:Lo)(c0:CF)(rf:Qe)(Qb:List Int)(t:Qn)(i:Int):Prop:=∃dJ:Nat->Value,(∀t,XP (dJ t))/\GoE YP B c0 Zn 1 (QO 27 136 (([1,3,5,7]:List Nat).zip (Ji rf Qb t i)) dJ Jj) (QN (VS rf Qb t i)) (2+(VS rf Qb t i).length) []
def KO(rf:Qe)(Qb:List Int)(t:Qn)(s:Int):List Value:=[Qv 1 (QJ Qb.length (Qg Q9 Qb)),pA 2 0,pA 3 0,.int .i64 s]
def WS(rf:Qe)(Qb:List Int)(t:Qn)(s:Int):List Obj:=[Obj.cells #[Qv 1 (QJ rf.Qa.length (Qg Qj rf.Qa)),.int .i64 rf.Qk,.int .i64 rf.Qc] 24,Obj.cells #[Qv 1 (QJ t.starts.length (Qg Q9 t.starts)),Qv 1 (QJ t.grows.length (Qg Xq t.grows)),Qv 1 (QJ t.takes.length (Qg Xq t.takes))] 42]
def KP:List Item:=([.code [1,1,1,0,1,0,0],.inLoop [1,1,1,0,1,0,0],.inBlock 2,.code [1,1,1,1]]).map (it (Xf YP 27))
def AQ(B:Lo)(c0:CF)(rf:Qe)(Qb:List Int)(t:Qn)(s:Int):Prop:=∃dJ:Nat->Value,(∀t,XP (dJ t))/\GoE YP B c0 Zn 1 (QO 27 136 (([1,3,5,8]:List Nat).zip (KO rf Qb t s)) dJ KP) (QN (WS rf Qb t s)) (2+(WS rf Qb t s).length) []
def VP(rf:Qe)(Qb:List Int)(t:Qn)(s i:Int):List Value:=[Qv 1 (QJ Qb.length (Qg Q9 Qb)),pA 2 0,pA 3 0,.int .i64 s,.int .i64 i]
def Z6(rf:Qe)(Qb:List Int)(t:Qn)(s i:Int):List Obj:=[Obj.cells #[Qv 1 (QJ rf.Qa.length (Qg Qj rf.Qa)),.int .i64 rf.Qk,.int .i64 rf.Qc] 24,Obj.cells #[Qv 1 (QJ t.starts.length (Qg Q9 t.starts)),Qv 1 (QJ t.grows.length (Qg Xq t.grows)),Qv 1 (QJ t.takes.length (Qg Xq t.takes))] 42]
def VQ:List Item:=([.code [1,1,1,0,1,0,0,1,0,0,1,1,0,0],.inLoop [1,1,1,0,1,0,0,1,0,0,1,1,0,0],.inBlock 4,.inBlock 3,.code [1,1,1,0,1,0,0,1,1],.inLoop [1,1,1,0,1,0,0],.inBlock 2,.code [1,1,1,1]]).map (it (Xf YP 27))
def AP(B:Lo)(c0:CF)(rf:Qe)(Qb:List Int)(t:Qn)(s i:Int):Prop:=∃dJ:Nat->Value,(∀t,XP (dJ t))/\GoE YP B c0 Zn 1 (QO 27 136 (([1,3,5,8,9]:List Nat).zip (VP rf Qb t s i)) dJ VQ) (QN (Z6 rf Qb t s i)) (2+(Z6 rf Qb t s i).length) []
def eT(B:Lo)(rf:Qe)(Qb:List Int)(t:Qn)(i:Int)(Qt:Nat->Value):List Prop:=[Q3 []/\Q0 YP J0 60 #[.agg #[QJ rf.Qa.length (PZ rf),.int .i64 rf.Qk,.int .i64 rf.Qc],.int .i64 (Qd.count (rf.Qa.getD i.toNat ML))] (.int .i64 (Y2 rf.Qk (Qd.count (rf.Qa.getD i.toNat ML)))),Ug i rf.Qa.length (PZ rf) Try.t54.size (VO (rf.Qa.getD i.toNat ML)),Ug i rf.Qa.length (PZ rf) Try.t54.size (VO (rf.Qa.getD i.toNat ML)),Ug i t.starts.length (Qg Q9 t.starts) Try.t3.size #[.int .i64 (t.starts.getD i.toNat ML)],Zq i (↑rf.Qa.length:Int)=true]++([]:List Prop)
def px(rf:Qe)(Qb:List Int)(t:Qn)(i:Int)(Qt:Nat->Value):QB:=[(4,WR),(8,Ql.tidx i.toNat #[.int .i64 (t.starts.getD i.toNat ML)]),(13,Ql.tidx i.toNat (VO (rf.Qa.getD i.toNat ML))),(20,Ql.tidx i.toNat (VO (rf.Qa.getD i.toNat ML))),(23,Ql.pure (.int .i64 (Y2 rf.Qk (Qd.count (rf.Qa.getD i.toNat ML)))) [])]
theorem AN(B:Lo)(rf:Qe)(Qb:List Int)(t:Qn)(i:Int)(Qt:Nat->Value):landM (Qu YP (Q8 YP) J0 B 14 1 (QO 27 136 (([1,3,5,7]:List Nat).zip (Ji rf Qb t i)) Qt Jj) (QN (VS rf Qb t i)) (2+(VS rf Qb t i).length)
 (px rf Qb t i Qt++[(24,Ql.pure (.bool true) []),(27,U2 (i+1))]) 0 [] []) [1,3,5,7] [(2,KS.auto),(3,KS.auto)] []=some ⟨27,136,Jj,[],.run,none,Ji rf Qb t (i+1),VS rf Qb t (i+1),
 [wq (i+1)=i+1,Q3 []/\Q0 YP J0 55 #[.int .i64 (t.starts.getD i.toNat ML),.int .i64 (Qd.count (rf.Qa.getD i.toNat ML)),.int .i64 (Y2 rf.Qk (Qd.count (rf.Qa.getD i.toNat ML)))] (.bool true)]++eT B rf Qb t i Qt⟩:=by kernel_rfl
theorem AM(B:Lo)(rf:Qe)(Qb:List Int)(t:Qn)(i:Int)(Qt:Nat->Value):Xd (Qu YP (Q8 YP) J0 B 14 1 (QO 27 136 (([1,3,5,7]:List Nat).zip (Ji rf Qb t i)) Qt Jj) (QN (VS rf Qb t i)) (2+(VS rf Qb t i).length)
 (px rf Qb t i Qt++[(24,Ql.pure (.bool false) [])]) 0 [] []) []=some (.bool false,
 [Q3 []/\Q0 YP J0 55 #[.int .i64 (t.starts.getD i.toNat ML),.int .i64 (Qd.count (rf.Qa.getD i.toNat ML)),.int .i64 (Y2 rf.Qk (Qd.count (rf.Qa.getD i.toNat ML)))] (.bool false)]++eT B rf Qb t i Qt):=by kernel_rfl
theorem AL(B:Lo)(rf:Qe)(Qb:List Int)(t:Qn)(i:Int)(Qt:Nat->Value):landM (Qu YP (Q8 YP) J0 B 10 1 (QO 27 136 (([1,3,5,7]:List Nat).zip (Ji rf Qb t i)) Qt Jj) (QN (VS rf Qb t i)) (2+(VS rf Qb t i).length)
 [(4,Vs)] 0 [] []) [1,3,5,8] [(2,KS.auto),(3,KS.auto)] []=some ⟨27,136,KP,[],.run,none,KO rf Qb t (0),WS rf Qb t (0),
 [Zq i (↑rf.Qa.length:Int)=false]⟩:=by kernel_rfl
def eS(B:Lo)(rf:Qe)(Qb:List Int)(t:Qn)(s:Int)(Qt:Nat->Value):List Prop:=[Ug s t.grows.length (Qg Xq t.grows) Try.t25.size #[QJ (MO (t.grows.getD s.toNat ML)) (Qg Q9 (t.grows.getD s.toNat ML))],Zq s rf.Qc=true]++([]:List Prop)
def pw(rf:Qe)(Qb:List Int)(t:Qn)(s:Int)(Qt:Nat->Value):QB:=[(3,WR),(7,Ql.tidx s.toNat #[QJ (MO (t.grows.getD s.toNat ML)) (Qg Q9 (t.grows.getD s.toNat ML))])]
theorem AK(B:Lo)(rf:Qe)(Qb:List Int)(t:Qn)(s:Int)(Qt:Nat->Value):Xd (Qu YP (Q8 YP) J0 B 15 1 (QO 27 136 (([1,3,5,8]:List Nat).zip (KO rf Qb t s)) Qt KP) (QN (WS rf Qb t s)) (2+(WS rf Qb t s).length)
 (pw rf Qb t s Qt++[(13,WR)]) 0 [] []) []=some (.bool false,
 [(!YI (↑(MO (t.grows.getD s.toNat ML)):Int) (↑rf.Qa.length:Int))=true]++eS B rf Qb t s Qt):=by kernel_rfl
def eQ(B:Lo)(rf:Qe)(Qb:List Int)(t:Qn)(s:Int)(Qt:Nat->Value):List Prop:=[Ug s t.takes.length (Qg Xq t.takes) Try.t25.size #[QJ (MO (t.takes.getD s.toNat ML)) (Qg Q9 (t.takes.getD s.toNat ML))],(!YI (↑(MO (t.grows.getD s.toNat ML)):Int) (↑rf.Qa.length:Int))=false]++eS B rf Qb t s Qt
def pt(rf:Qe)(Qb:List Int)(t:Qn)(s:Int)(Qt:Nat->Value):QB:=pw rf Qb t s Qt++[(13,Vs),(18,Ql.tidx s.toNat #[QJ (MO (t.takes.getD s.toNat ML)) (Qg Q9 (t.takes.getD s.toNat ML))])]
theorem AJ(B:Lo)(rf:Qe)(Qb:List Int)(t:Qn)(s:Int)(Qt:Nat->Value):Xd (Qu YP (Q8 YP) J0 B 15 1 (QO 27 136 (([1,3,5,8]:List Nat).zip (KO rf Qb t s)) Qt KP) (QN (WS rf Qb t s)) (2+(WS rf Qb t s).length)
 (pt rf Qb t s Qt++[(24,WR)]) 0 [] []) []=some (.bool false,
 [(!YI (↑(MO (t.takes.getD s.toNat ML)):Int) (↑rf.Qa.length:Int))=true]++eQ B rf Qb t s Qt):=by kernel_rfl
theorem AI(B:Lo)(rf:Qe)(Qb:List Int)(t:Qn)(s:Int)(Qt:Nat->Value):landM (Qu YP (Q8 YP) J0 B 16 1 (QO 27 136 (([1,3,5,8]:List Nat).zip (KO rf Qb t s)) Qt KP) (QN (WS rf Qb t s)) (2+(WS rf Qb t s).length)
 (pt rf Qb t s Qt++[(24,Vs)]) 0 [] []) [1,3,5,8,9] [(2,KS.auto),(3,KS.auto)] []=some ⟨27,136,VQ,[],.run,none,VP rf Qb t (s) (0),Z6 rf Qb t (s) (0),
 [(!YI (↑(MO (t.takes.getD s.toNat ML)):Int) (↑rf.Qa.length:Int))=false]++eQ B rf Qb t s Qt⟩:=by kernel_rfl
theorem AH(B:Lo)(rf:Qe)(Qb:List Int)(t:Qn)(s:Int)(Qt:Nat->Value):Xd (Qu YP (Q8 YP) J0 B 9 1 (QO 27 136 (([1,3,5,8]:List Nat).zip (KO rf Qb t s)) Qt KP) (QN (WS rf Qb t s)) (2+(WS rf Qb t s).length)
 [(3,Vs)] 0 [] []) []=some (.bool true,
 [Zq s rf.Qc=false]):=by kernel_rfl
def eP(B:Lo)(rf:Qe)(Qb:List Int)(t:Qn)(s i:Int)(Qt:Nat->Value):List Prop:=[Ug i rf.Qa.length (PZ rf) Try.t54.size (VO (rf.Qa.getD i.toNat ML)),Ug i (MO (t.grows.getD s.toNat ML)) (Qg Q9 (t.grows.getD s.toNat ML)) Try.t3.size #[.int .i64 (Na (t.grows.getD s.toNat ML) i.toNat ML)],Ug s t.grows.length (Qg Xq t.grows) Try.t25.size #[QJ (MO (t.grows.getD s.toNat ML)) (Qg Q9 (t.grows.getD s.toNat ML))],Zq i (↑rf.Qa.length:Int)=true]++([]:List Prop)
def pr(rf:Qe)(Qb:List Int)(t:Qn)(s i:Int)(Qt:Nat->Value):QB:=[(4,WR),(8,Ql.tidx s.toNat #[QJ (MO (t.grows.getD s.toNat ML)) (Qg Q9 (t.grows.getD s.toNat ML))]),(11,Ql.tidx i.toNat #[.int .i64 (Na (t.grows.getD s.toNat ML) i.toNat ML)]),(16,Ql.tidx i.toNat (VO (rf.Qa.getD i.toNat ML)))]
def eO(B:Lo)(rf:Qe)(Qb:List Int)(t:Qn)(s i:Int)(Qt:Nat->Value):List Prop:=[Ug s Qb.length (Qg Q9 Qb) Try.t3.size #[.int .i64 (Qb.getD s.toNat ML)],Ug i rf.Qa.length (PZ rf) Try.t54.size (VO (rf.Qa.getD i.toNat ML)),Ug i (MO (t.takes.getD s.toNat ML)) (Qg Q9 (t.takes.getD s.toNat ML)) Try.t3.size #[.int .i64 (Na (t.takes.getD s.toNat ML) i.toNat ML)],Ug s t.takes.length (Qg Xq t.takes) Try.t25.size #[QJ (MO (t.takes.getD s.toNat ML)) (Qg Q9 (t.takes.getD s.toNat ML))],Q3 []/\Q0 YP J0 32 #[.int .i64 (Na (t.grows.getD s.toNat ML) i.toNat ML),.agg #[.int .i64 (Qd.WO (rf.Qa.getD i.toNat ML)),.int .i64 (Qd.Sa (rf.Qa.getD i.toNat ML))]] (.bool true)]++eP B rf Qb t s i Qt
def pq(rf:Qe)(Qb:List Int)(t:Qn)(s i:Int)(Qt:Nat->Value):QB:=pr rf Qb t s i Qt++[(19,Ql.pure (.bool true) []),(25,Ql.tidx s.toNat #[QJ (MO (t.takes.getD s.toNat ML)) (Qg Q9 (t.takes.getD s.toNat ML))]),(28,Ql.tidx i.toNat #[.int .i64 (Na (t.takes.getD s.toNat ML) i.toNat ML)]),(33,Ql.tidx i.toNat (VO (rf.Qa.getD i.toNat ML))),(37,Ql.tidx s.toNat #[.int .i64 (Qb.getD s.toNat ML)])]
def eN(B:Lo)(rf:Qe)(Qb:List Int)(t:Qn)(s i:Int)(Qt:Nat->Value):List Prop:=[Q3 []/\Q0 YP J0 61 #[.agg (VO (rf.Qa.getD i.toNat ML)),.bool true] (.agg (ay (rf.Qa.getD i.toNat ML))),Q3 []/\Q0 YP J0 47 #[.int .i64 (Qb.getD s.toNat ML),.int .i64 i] (.bool true)]++eO B rf Qb t s i Qt
def po(rf:Qe)(Qb:List Int)(t:Qn)(s i:Int)(Qt:Nat->Value):QB:=pq rf Qb t s i Qt++[(40,Ql.pure (.bool true) []),(41,Ql.pure (.agg (ay (rf.Qa.getD i.toNat ML))) [])]
theorem AG(B:Lo)(rf:Qe)(Qb:List Int)(t:Qn)(s i:Int)(Qt:Nat->Value):landM (Qu YP (Q8 YP) J0 B 14 1 (QO 27 136 (([1,3,5,8,9]:List Nat).zip (VP rf Qb t s i)) Qt VQ) (QN (Z6 rf Qb t s i)) (2+(Z6 rf Qb t s i).length)
 (po rf Qb t s i Qt++[(42,Ql.pure (.bool true) []),(46,U2 (i+1))]) 0 [] []) [1,3,5,8,9] [(2,KS.auto),(3,KS.auto)] []=some ⟨27,136,VQ,[],.run,none,VP rf Qb t (s) (i+1),Z6 rf Qb t (s) (i+1),
 [wq (i+1)=i+1,Q3 []/\Q0 YP J0 32 #[.int .i64 (Na (t.takes.getD s.toNat ML) i.toNat ML),.agg (ay (rf.Qa.getD i.toNat ML))] (.bool true)]++eN B rf Qb t s i Qt⟩:=by kernel_rfl
theorem AF(B:Lo)(rf:Qe)(Qb:List Int)(t:Qn)(s i:Int)(Qt:Nat->Value):Xd (Qu YP (Q8 YP) J0 B 14 1 (QO 27 136 (([1,3,5,8,9]:List Nat).zip (VP rf Qb t s i)) Qt VQ) (QN (Z6 rf Qb t s i)) (2+(Z6 rf Qb t s i).length)
 (po rf Qb t s i Qt++[(42,Ql.pure (.bool false) [])]) 0 [] []) []=some (.bool false,
 [Q3 []/\Q0 YP J0 32 #[.int .i64 (Na (t.takes.getD s.toNat ML) i.toNat ML),.agg (ay (rf.Qa.getD i.toNat ML))] (.bool false)]++eN B rf Qb t s i Qt):=by kernel_rfl
def eM(B:Lo)(rf:Qe)(Qb:List Int)(t:Qn)(s i:Int)(Qt:Nat->Value):List Prop:=[Q3 []/\Q0 YP J0 61 #[.agg (VO (rf.Qa.getD i.toNat ML)),.bool false] (.agg (az (rf.Qa.getD i.toNat ML))),Q3 []/\Q0 YP J0 47 #[.int .i64 (Qb.getD s.toNat ML),.int .i64 i] (.bool false)]++eO B rf Qb t s i Qt
def pn(rf:Qe)(Qb:List Int)(t:Qn)(s i:Int)(Qt:Nat->Value):QB:=pq rf Qb t s i Qt++[(40,Ql.pure (.bool false) []),(41,Ql.pure (.agg (az (rf.Qa.getD i.toNat ML))) [])]
theorem AE(B:Lo)(rf:Qe)(Qb:List Int)(t:Qn)(s i:Int)(Qt:Nat->Value):landM (Qu YP (Q8 YP) J0 B 14 1 (QO 27 136 (([1,3,5,8,9]:List Nat).zip (VP rf Qb t s i)) Qt VQ) (QN (Z6 rf Qb t s i)) (2+(Z6 rf Qb t s i).length)
 (pn rf Qb t s i Qt++[(42,Ql.pure (.bool true) []),(46,U2 (i+1))]) 0 [] []) [1,3,5,8,9] [(2,KS.auto),(3,KS.auto)] []=some ⟨27,136,VQ,[],.run,none,VP rf Qb t (s) (i+1),Z6 rf Qb t (s) (i+1),
 [wq (i+1)=i+1,Q3 []/\Q0 YP J0 32 #[.int .i64 (Na (t.takes.getD s.toNat ML) i.toNat ML),.agg (az (rf.Qa.getD i.toNat ML))] (.bool true)]++eM B rf Qb t s i Qt⟩:=by kernel_rfl
theorem yl(B:Lo)(rf:Qe)(Qb:List Int)(t:Qn)(s i:Int)(Qt:Nat->Value):Xd (Qu YP (Q8 YP) J0 B 14 1 (QO 27 136 (([1,3,5,8,9]:List Nat).zip (VP rf Qb t s i)) Qt VQ) (QN (Z6 rf Qb t s i)) (2+(Z6 rf Qb t s i).length)
 (pn rf Qb t s i Qt++[(42,Ql.pure (.bool false) [])]) 0 [] []) []=some (.bool false,
 [Q3 []/\Q0 YP J0 32 #[.int .i64 (Na (t.takes.getD s.toNat ML) i.toNat ML),.agg (az (rf.Qa.getD i.toNat ML))] (.bool false)]++eM B rf Qb t s i Qt):=by kernel_rfl
theorem yj(B:Lo)(rf:Qe)(Qb:List Int)(t:Qn)(s i:Int)(Qt:Nat->Value):Xd (Qu YP (Q8 YP) J0 B 14 1 (QO 27 136 (([1,3,5,8,9]:List Nat).zip (VP rf Qb t s i)) Qt VQ) (QN (Z6 rf Qb t s i)) (2+(Z6 rf Qb t s i).length)
 (pr rf Qb t s i Qt++[(19,Ql.pure (.bool false) [])]) 0 [] []) []=some (.bool false,
 [Q3 []/\Q0 YP J0 32 #[.int .i64 (Na (t.grows.getD s.toNat ML) i.toNat ML),.agg #[.int .i64 (Qd.WO (rf.Qa.getD i.toNat ML)),.int .i64 (Qd.Sa (rf.Qa.getD i.toNat ML))]] (.bool false)]++eP B rf Qb t s i Qt):=by kernel_rfl
theorem yi(B:Lo)(rf:Qe)(Qb:List Int)(t:Qn)(s i:Int)(Qt:Nat->Value):landM (Qu YP (Q8 YP) J0 B 8 1 (QO 27 136 (([1,3,5,8,9]:List Nat).zip (VP rf Qb t s i)) Qt VQ) (QN (Z6 rf Qb t s i)) (2+(Z6 rf Qb t s i).length)
 [(4,Vs),(6,U2 (s+1))] 0 [] []) [1,3,5,8] [(2,KS.auto),(3,KS.auto)] []=some ⟨27,136,KP,[],.run,none,KO rf Qb t (s+1),WS rf Qb t (s+1),
 [wq (s+1)=s+1,Zq i (↑rf.Qa.length:Int)=false]⟩:=by kernel_rfl
theorem yh(B:Lo)(rf:Qe)(Qb:List Int)(t:Qn):Xd (Qu YP (Q8 YP) J0 B 10 1 (Qq YP 27 136 (([.agg (Q1 rf).toArray,XF Qb,.agg #[XF t.starts,QJ t.grows.length (Qg Xq t.grows),QJ t.takes.length (Qg Xq t.takes)]]).map (Q5 0 4))) Zn 1
 [(9,WR)] 0 [] []) []=some (.bool false,
 [(!YI (↑t.starts.length:Int) (↑rf.Qa.length:Int))=true]):=by kernel_rfl
def eK(B:Lo)(rf:Qe)(Qb:List Int)(t:Qn):List Prop:=[(!YI (↑t.starts.length:Int) (↑rf.Qa.length:Int))=false]++([]:List Prop)
def pk(rf:Qe)(Qb:List Int)(t:Qn):QB:=[(9,Vs)]
theorem yg(B:Lo)(rf:Qe)(Qb:List Int)(t:Qn):Xd (Qu YP (Q8 YP) J0 B 10 1 (Qq YP 27 136 (([.agg (Q1 rf).toArray,XF Qb,.agg #[XF t.starts,QJ t.grows.length (Qg Xq t.grows),QJ t.takes.length (Qg Xq t.takes)]]).map (Q5 0 4))) Zn 1
 (pk rf Qb t++[(16,WR)]) 0 [] []) []=some (.bool false,
 [(!YI (↑t.grows.length:Int) rf.Qc)=true]++eK B rf Qb t):=by kernel_rfl
def eJ(B:Lo)(rf:Qe)(Qb:List Int)(t:Qn):List Prop:=[(!YI (↑t.grows.length:Int) rf.Qc)=false]++eK B rf Qb t
def pj(rf:Qe)(Qb:List Int)(t:Qn):QB:=pk rf Qb t++[(16,Vs)]
theorem yf(B:Lo)(rf:Qe)(Qb:List Int)(t:Qn):Xd (Qu YP (Q8 YP) J0 B 10 1 (Qq YP 27 136 (([.agg (Q1 rf).toArray,XF Qb,.agg #[XF t.starts,QJ t.grows.length (Qg Xq t.grows),QJ t.takes.length (Qg Xq t.takes)]]).map (Q5 0 4))) Zn 1
 (pj rf Qb t++[(24,WR)]) 0 [] []) []=some (.bool false,
 [(!YI (↑t.takes.length:Int) rf.Qc)=true]++eJ B rf Qb t):=by kernel_rfl
theorem ye(B:Lo)(rf:Qe)(Qb:List Int)(t:Qn):landM (Qu YP (Q8 YP) J0 B 12 1 (Qq YP 27 136 (([.agg (Q1 rf).toArray,XF Qb,.agg #[XF t.starts,QJ t.grows.length (Qg Xq t.grows),QJ t.takes.length (Qg Xq t.takes)]]).map (Q5 0 4))) Zn 1
 (pj rf Qb t++[(24,Vs)]) 0 [] []) [1,3,5,7] [(1,KS.auto),(2,KS.auto)] []=some ⟨27,136,Jj,[],.run,none,Ji rf Qb t (0),VS rf Qb t (0),
 [(!YI (↑t.takes.length:Int) rf.Qc)=false]++eJ B rf Qb t⟩:=by kernel_rfl
set_option maxHeartbeats 4000000 in
theorem AO(rf:Qe)(Qb:List Int)(t:Qn)(hr:Qy rf=true)(hpl:(Qb.length:Int)=rf.Qc)(hp:∀j:Nat,0<=Qb.getD j ML/\Qb.getD j ML<=1000000){B:Lo}(hJ:∀w,B.has w->J0 w){c0:CF}:∀m:Nat,(∀(i:Int),(rf.Qa.length-i.toNat)+1000000=m->∀(h0:0<=i) (hgl:(t.grows.length:Int)=rf.Qc) (htl:(t.takes.length:Int)=rf.Qc) (hsl:t.starts.length=rf.Qa.length),AS B c0 rf Qb t i->EndsT YP B c0 (.bool (c9 t.starts (rf.Qa.map (Xt rf.Qk)) i && SZ rf Qb t.grows t.takes 0)))/\(∀(s:Int),(rf.Qc-s).toNat*1000+900=m->∀(s0:0<=s) (hgl:(t.grows.length:Int)=rf.Qc) (htl:(t.takes.length:Int)=rf.Qc),AQ B c0 rf Qb t s->EndsT YP B c0 (.bool (SZ rf Qb t.grows t.takes s)))/\(∀(s i:Int),(rf.Qc-s).toNat*1000+800-i.toNat=m->∀(s0:0<=s) (s1:s<rf.Qc) (i0:0<=i) (i1:i<=rf.Qa.length) (hgl:(t.grows.length:Int)=rf.Qc) (htl:(t.takes.length:Int)=rf.Qc) (hg:(t.grows.getD s.toNat ML).length=rf.Qa.length) (ht:(t.takes.getD s.toNat ML).length=rf.Qa.length),AP B c0 rf Qb t s i->EndsT YP B c0 (.bool (c9 (t.grows.getD s.toNat ML) (rf.Qa.map Xx) i && (c9 (t.takes.getD s.toNat ML) (Xn rf.Qa (Qb.getD s.toNat ML)) i && SZ rf Qb t.grows t.takes (s+1))))):=by
 intro m0;induction m0 using No with
 |_ m0 ih0=>
  refine⟨?_, ?_, ?_⟩
  ·intro i hm0 h0 hgl htl hsl ⟨Qt,Kn,Zk⟩;have ZN:=Q6 (QD hr).1;have ZN:=Q6 (QD hr).1;by_cases q0:(i:Int)<((↑rf.Qa.length:Int))
   ·have Vb:Q3 (eT B rf Qb t i Qt):=by
     have k1:t.starts.length=rf.Qa.length:=(by omega)
     have k2:(t.grows.length:Int)=rf.Qc:=(by omega)
     have k3:(t.takes.length:Int)=rf.Qc:=(by omega)
     have hcs:=(Za ((QD hr).2 i h0 q0).1).1;have s2:=XS (xs:=t.starts) (ss:=rf.Qa.map (Xt rf.Qk)) (i:=i) (by omega);have m1:=ZA (f:=Xt rf.Qk) h0 q0;exact⟨⟨trivial,LG (rf) (Qd.count (rf.Qa.getD i.toNat ML)) (by omega) (by omega)⟩,⟨⟨by omega,by omega,(QA (z:=12) (fun _=>rfl) (by omega))⟩,⟨⟨by omega,by omega,(QA (z:=12) (fun _=>rfl) (by omega))⟩,⟨⟨by omega,by omega,(QA (z:=1) (fun _=>rfl) (by omega))⟩,⟨(Zh q0),trivial⟩⟩⟩⟩⟩
    cases q1:WK (t.starts.getD i.toNat ML) (Qd.count (rf.Qa.getD i.toNat ML)) (Y2 rf.Qk (Qd.count (rf.Qa.getD i.toNat ML)))with
    |true=>
     have k1:t.starts.length=rf.Qa.length:=(by omega)
     have k2:(t.grows.length:Int)=rf.Qc:=(by omega)
     have k3:(t.takes.length:Int)=rf.Qc:=(by omega)
     have hcs:=(Za ((QD hr).2 i h0 q0).1).1;have s2:=XS (xs:=t.starts) (ss:=rf.Qa.map (Xt rf.Qk)) (i:=i) (by omega);have m1:=ZA (f:=Xt rf.Qk) h0 q0;exact((ih0 _ (by omega)).1 (i+1) rfl (by omega) (by with_reducible assumption) (by with_reducible assumption) (by with_reducible assumption)
      (Zk.landM okF hJ Qf (AN B rf Qb t i Qt)
      ⟨(XH (by omega) (by omega)),⟨⟨trivial,(by have t_:=jg (t.starts.getD i.toNat ML) (Qd.count (rf.Qa.getD i.toNat ML)) (Y2 rf.Qk (Qd.count (rf.Qa.getD i.toNat ML)));rw[q1]at t_;exact t_)⟩,Vb⟩⟩ (by kernel_rfl) (by kernel_rfl))).cast (by(rw[s2,m1];simp_all[Xt];done))
    |false=>
     have k1:t.starts.length=rf.Qa.length:=(by omega)
     have k2:(t.grows.length:Int)=rf.Qc:=(by omega)
     have k3:(t.takes.length:Int)=rf.Qc:=(by omega)
     have hcs:=(Za ((QD hr).2 i h0 q0).1).1;have s2:=XS (xs:=t.starts) (ss:=rf.Qa.map (Xt rf.Qk)) (i:=i) (by omega);have m1:=ZA (f:=Xt rf.Qk) h0 q0;exact(GoE.endsT okF hJ Qf Zk (AM B rf Qb t i Qt)
      ⟨⟨trivial,(by have t_:=jg (t.starts.getD i.toNat ML) (Qd.count (rf.Qa.getD i.toNat ML)) (Y2 rf.Qk (Qd.count (rf.Qa.getD i.toNat ML)));rw[q1]at t_;exact t_)⟩,Vb⟩).cast (by(rw[s2,m1];simp_all[Xt];done))
   ·have k1:t.starts.length=rf.Qa.length:=(by omega)
    have k2:(t.grows.length:Int)=rf.Qc:=(by omega)
    have k3:(t.takes.length:Int)=rf.Qc:=(by omega)
    have s2:=c8 (xs:=t.starts) (ss:=rf.Qa.map (Xt rf.Qk)) (i:=i) (by omega);exact((ih0 _ (by omega)).2.1 (0) rfl (by omega) (by with_reducible assumption) (by with_reducible assumption)
     (Zk.landM okF hJ Qf (AL B rf Qb t i Qt)
     ⟨(Zr (Int.not_lt.1 q0)),trivial⟩ (by kernel_rfl) (by kernel_rfl))).cast (by(rw[s2];simp;done))
  ·intro s hm0 s0 hgl htl ⟨Qt,Kn,Zk⟩;have ZN:=Q6 (QD hr).1;have ZN:=Q6 (QD hr).1;have pd:Qb.getD s.toNat 0=Qb.getD s.toNat ML:=rfl;by_cases q0:(s:Int)<rf.Qc
   ·have PV:Q3 (eS B rf Qb t s Qt):=by
     have k2:(t.grows.length:Int)=rf.Qc:=(by omega)
     have k3:(t.takes.length:Int)=rf.Qc:=(by omega)
     have s2:=VN (Qb:=Qb) (gs:=t.grows) (ts:=t.takes) q0;exact⟨⟨by omega,by omega,(QA (z:=1) (fun _=>rfl) (by omega))⟩,⟨(Zh q0),trivial⟩⟩
    by_cases q1:((↑(MO (t.grows.getD s.toNat ML)):Int):Int)≠((↑rf.Qa.length:Int))
    ·have k2:(t.grows.length:Int)=rf.Qc:=(by omega)
     have k3:(t.takes.length:Int)=rf.Qc:=(by omega)
     have s2:=VN (Qb:=Qb) (gs:=t.grows) (ts:=t.takes) q0;exact(GoE.endsT okF hJ Qf Zk (AK B rf Qb t s Qt)
      ⟨(JO q1),PV⟩).cast (by(rw[s2,Db (by omega)];rfl))
    ·have KY:Q3 (eQ B rf Qb t s Qt):=by
      have k2:(t.grows.length:Int)=rf.Qc:=(by omega)
      have k3:(t.takes.length:Int)=rf.Qc:=(by omega)
      have s2:=VN (Qb:=Qb) (gs:=t.grows) (ts:=t.takes) q0;exact⟨⟨by omega,by omega,(QA (z:=1) (fun _=>rfl) (by omega))⟩,⟨(JP (Decidable.of_not_not q1)),PV⟩⟩
     by_cases q2:((↑(MO (t.takes.getD s.toNat ML)):Int):Int)≠((↑rf.Qa.length:Int))
     ·have k2:(t.grows.length:Int)=rf.Qc:=(by omega)
      have k3:(t.takes.length:Int)=rf.Qc:=(by omega)
      have s2:=VN (Qb:=Qb) (gs:=t.grows) (ts:=t.takes) q0;exact(GoE.endsT okF hJ Qf Zk (AJ B rf Qb t s Qt)
       ⟨(JO q2),KY⟩).cast (by(rw[s2,Db (by omega)];rfl))
     ·have k2:(t.grows.length:Int)=rf.Qc:=(by omega)
      have k3:(t.takes.length:Int)=rf.Qc:=(by omega)
      have s2:=VN (Qb:=Qb) (gs:=t.grows) (ts:=t.takes) q0;exact((ih0 _ (by omega)).2.2 (s) (0) rfl (by with_reducible assumption) (by with_reducible assumption) (by omega) (by omega) (by with_reducible assumption) (by with_reducible assumption) (by omega) (by omega)
       (Zk.landM okF hJ Qf (AI B rf Qb t s Qt)
       ⟨(JP (Decidable.of_not_not q2)),KY⟩ (by kernel_rfl) (by kernel_rfl))).cast (by(rw[s2,Gy (by omega) (by omega),Bool.and_assoc];done))
   ·have k2:(t.grows.length:Int)=rf.Qc:=(by omega)
    have k3:(t.takes.length:Int)=rf.Qc:=(by omega)
    have s2:=tS (rf:=rf) (Qb:=Qb) (gs:=t.grows) (ts:=t.takes) (i:=s) (by omega);exact(GoE.endsT okF hJ Qf Zk (AH B rf Qb t s Qt)
     ⟨(Zr (Int.not_lt.1 q0)),trivial⟩).cast (by(rw[s2];done))
  ·intro s i hm0 s0 s1 i0 i1 hgl htl hg ht ⟨Qt,Kn,Zk⟩;have ZN:=Q6 (QD hr).1;have ZN:=Q6 (QD hr).1;have hpk:=hp s.toNat;by_cases q0:(i:Int)<((↑rf.Qa.length:Int))
   ·have hp3:Q3 (eP B rf Qb t s i Qt):=by
     have k2:(t.grows.length:Int)=rf.Qc:=(by omega)
     have k3:(t.takes.length:Int)=rf.Qc:=(by omega)
     have s2:=XS (xs:=(t.grows.getD s.toNat ML)) (ss:=rf.Qa.map Xx) (i:=i) (by omega);have s3:=XS (xs:=(t.takes.getD s.toNat ML)) (ss:=Xn rf.Qa (Qb.getD s.toNat ML)) (i:=i) (by omega);have m1:=ZA (f:=Xx) i0 q0;have m2:(Xn rf.Qa (Qb.getD s.toNat ML)).getD i.toNat ML=ZX (Qb.getD s.toNat ML) i (rf.Qa.getD i.toNat ML):=XR i0 q0;exact⟨⟨by omega,by omega,(QA (z:=12) (fun _=>rfl) (by omega))⟩,⟨⟨by omega,by omega,(QA (z:=1) (fun _=>rfl) (by omega))⟩,⟨⟨by omega,by omega,(QA (z:=1) (fun _=>rfl) (by omega))⟩,⟨(Zh q0),trivial⟩⟩⟩⟩
    cases q1:WK (Na (t.grows.getD s.toNat ML) i.toNat ML) (Qd.WO (rf.Qa.getD i.toNat ML)) (Qd.Sa (rf.Qa.getD i.toNat ML))with
    |true=>
     have hp4:Q3 (eO B rf Qb t s i Qt):=by
      have k2:(t.grows.length:Int)=rf.Qc:=(by omega)
      have k3:(t.takes.length:Int)=rf.Qc:=(by omega)
      have s2:=XS (xs:=(t.grows.getD s.toNat ML)) (ss:=rf.Qa.map Xx) (i:=i) (by omega);have s3:=XS (xs:=(t.takes.getD s.toNat ML)) (ss:=Xn rf.Qa (Qb.getD s.toNat ML)) (i:=i) (by omega);have m1:=ZA (f:=Xx) i0 q0;have m2:(Xn rf.Qa (Qb.getD s.toNat ML)).getD i.toNat ML=ZX (Qb.getD s.toNat ML) i (rf.Qa.getD i.toNat ML):=XR i0 q0;exact⟨⟨by omega,by omega,(QA (z:=1) (fun _=>rfl) (by omega))⟩,⟨⟨by omega,by omega,(QA (z:=12) (fun _=>rfl) (by omega))⟩,⟨⟨by omega,by omega,(QA (z:=1) (fun _=>rfl) (by omega))⟩,⟨⟨by omega,by omega,(QA (z:=1) (fun _=>rfl) (by omega))⟩,⟨⟨trivial,(by have t_:=a6 (Na (t.grows.getD s.toNat ML) i.toNat ML) (Qd.WO (rf.Qa.getD i.toNat ML)) (Qd.Sa (rf.Qa.getD i.toNat ML));rw[q1]at t_;exact t_)⟩,hp3⟩⟩⟩⟩⟩
     cases q2:hasB (Qb.getD s.toNat ML) i with
     |true=>
      have hp5:Q3 (eN B rf Qb t s i Qt):=by
       have k2:(t.grows.length:Int)=rf.Qc:=(by omega)
       have k3:(t.takes.length:Int)=rf.Qc:=(by omega)
       have s2:=XS (xs:=(t.grows.getD s.toNat ML)) (ss:=rf.Qa.map Xx) (i:=i) (by omega);have s3:=XS (xs:=(t.takes.getD s.toNat ML)) (ss:=Xn rf.Qa (Qb.getD s.toNat ML)) (i:=i) (by omega);have m1:=ZA (f:=Xx) i0 q0;have m2:(Xn rf.Qa (Qb.getD s.toNat ML)).getD i.toNat ML=ZX (Qb.getD s.toNat ML) i (rf.Qa.getD i.toNat ML):=XR i0 q0;exact⟨⟨trivial,PF (rf.Qa.getD i.toNat ML) (true)⟩,⟨⟨trivial,(by have t_:=oM (Qb.getD s.toNat ML) (i) (by omega) (by omega);rw[q2]at t_;exact t_)⟩,hp4⟩⟩
      cases q3:WK (Na (t.takes.getD s.toNat ML) i.toNat ML) (if true=true then Qd.UI (rf.Qa.getD i.toNat ML)else Qd.K3 (rf.Qa.getD i.toNat ML)) (if true=true then Qd.ZD (rf.Qa.getD i.toNat ML)else Qd.ZT (rf.Qa.getD i.toNat ML))with
      |true=>
       have k2:(t.grows.length:Int)=rf.Qc:=(by omega)
       have k3:(t.takes.length:Int)=rf.Qc:=(by omega)
       have s2:=XS (xs:=(t.grows.getD s.toNat ML)) (ss:=rf.Qa.map Xx) (i:=i) (by omega);have s3:=XS (xs:=(t.takes.getD s.toNat ML)) (ss:=Xn rf.Qa (Qb.getD s.toNat ML)) (i:=i) (by omega);have m1:=ZA (f:=Xx) i0 q0;have m2:(Xn rf.Qa (Qb.getD s.toNat ML)).getD i.toNat ML=ZX (Qb.getD s.toNat ML) i (rf.Qa.getD i.toNat ML):=XR i0 q0;exact((ih0 _ (by omega)).2.2 (s) (i+1) rfl (by with_reducible assumption) (by with_reducible assumption) (by omega) (by omega) (by with_reducible assumption) (by with_reducible assumption) (by with_reducible assumption) (by with_reducible assumption)
        (Zk.landM okF hJ Qf (AG B rf Qb t s i Qt)
        ⟨(XH (by omega) (by omega)),⟨⟨trivial,(by have t_:=a6 (Na (t.takes.getD s.toNat ML) i.toNat ML) (if true=true then Qd.UI (rf.Qa.getD i.toNat ML)else Qd.K3 (rf.Qa.getD i.toNat ML)) (if true=true then Qd.ZD (rf.Qa.getD i.toNat ML)else Qd.ZT (rf.Qa.getD i.toNat ML));rw[q3]at t_;exact t_)⟩,hp5⟩⟩ (by kernel_rfl) (by kernel_rfl))).cast (by(rw[s2,s3,m1,m2];simp_all[Xx,ZX,b8,Wy];done))
      |false=>
       have k2:(t.grows.length:Int)=rf.Qc:=(by omega)
       have k3:(t.takes.length:Int)=rf.Qc:=(by omega)
       have s2:=XS (xs:=(t.grows.getD s.toNat ML)) (ss:=rf.Qa.map Xx) (i:=i) (by omega);have s3:=XS (xs:=(t.takes.getD s.toNat ML)) (ss:=Xn rf.Qa (Qb.getD s.toNat ML)) (i:=i) (by omega);have m1:=ZA (f:=Xx) i0 q0;have m2:(Xn rf.Qa (Qb.getD s.toNat ML)).getD i.toNat ML=ZX (Qb.getD s.toNat ML) i (rf.Qa.getD i.toNat ML):=XR i0 q0;exact(GoE.endsT okF hJ Qf Zk (AF B rf Qb t s i Qt)
        ⟨⟨trivial,(by have t_:=a6 (Na (t.takes.getD s.toNat ML) i.toNat ML) (if true=true then Qd.UI (rf.Qa.getD i.toNat ML)else Qd.K3 (rf.Qa.getD i.toNat ML)) (if true=true then Qd.ZD (rf.Qa.getD i.toNat ML)else Qd.ZT (rf.Qa.getD i.toNat ML));rw[q3]at t_;exact t_)⟩,hp5⟩).cast (by(rw[s2,s3,m1,m2];simp_all[Xx,ZX,b8,Wy];done))
     |false=>
      have hp6:Q3 (eM B rf Qb t s i Qt):=by
       have k2:(t.grows.length:Int)=rf.Qc:=(by omega)
       have k3:(t.takes.length:Int)=rf.Qc:=(by omega)
       have s2:=XS (xs:=(t.grows.getD s.toNat ML)) (ss:=rf.Qa.map Xx) (i:=i) (by omega);have s3:=XS (xs:=(t.takes.getD s.toNat ML)) (ss:=Xn rf.Qa (Qb.getD s.toNat ML)) (i:=i) (by omega);have m1:=ZA (f:=Xx) i0 q0;have m2:(Xn rf.Qa (Qb.getD s.toNat ML)).getD i.toNat ML=ZX (Qb.getD s.toNat ML) i (rf.Qa.getD i.toNat ML):=XR i0 q0;exact⟨⟨trivial,PF (rf.Qa.getD i.toNat ML) (false)⟩,⟨⟨trivial,(by have t_:=oM (Qb.getD s.toNat ML) (i) (by omega) (by omega);rw[q2]at t_;exact t_)⟩,hp4⟩⟩
      cases q3:WK (Na (t.takes.getD s.toNat ML) i.toNat ML) (if false=true then Qd.UI (rf.Qa.getD i.toNat ML)else Qd.K3 (rf.Qa.getD i.toNat ML)) (if false=true then Qd.ZD (rf.Qa.getD i.toNat ML)else Qd.ZT (rf.Qa.getD i.toNat ML))with
      |true=>
       have k2:(t.grows.length:Int)=rf.Qc:=(by omega)
       have k3:(t.takes.length:Int)=rf.Qc:=(by omega)
       have s2:=XS (xs:=(t.grows.getD s.toNat ML)) (ss:=rf.Qa.map Xx) (i:=i) (by omega);have s3:=XS (xs:=(t.takes.getD s.toNat ML)) (ss:=Xn rf.Qa (Qb.getD s.toNat ML)) (i:=i) (by omega);have m1:=ZA (f:=Xx) i0 q0;have m2:(Xn rf.Qa (Qb.getD s.toNat ML)).getD i.toNat ML=ZX (Qb.getD s.toNat ML) i (rf.Qa.getD i.toNat ML):=XR i0 q0;exact((ih0 _ (by omega)).2.2 (s) (i+1) rfl (by with_reducible assumption) (by with_reducible assumption) (by omega) (by omega) (by with_reducible assumption) (by with_reducible assumption) (by with_reducible assumption) (by with_reducible assumption)
        (Zk.landM okF hJ Qf (AE B rf Qb t s i Qt)
        ⟨(XH (by omega) (by omega)),⟨⟨trivial,(by have t_:=a6 (Na (t.takes.getD s.toNat ML) i.toNat ML) (if false=true then Qd.UI (rf.Qa.getD i.toNat ML)else Qd.K3 (rf.Qa.getD i.toNat ML)) (if false=true then Qd.ZD (rf.Qa.getD i.toNat ML)else Qd.ZT (rf.Qa.getD i.toNat ML));rw[q3]at t_;exact t_)⟩,hp6⟩⟩ (by kernel_rfl) (by kernel_rfl))).cast (by(rw[s2,s3,m1,m2];simp_all[Xx,ZX,b8,Wy];done))
      |false=>
       have k2:(t.grows.length:Int)=rf.Qc:=(by omega)
       have k3:(t.takes.length:Int)=rf.Qc:=(by omega)
       have s2:=XS (xs:=(t.grows.getD s.toNat ML)) (ss:=rf.Qa.map Xx) (i:=i) (by omega);have s3:=XS (xs:=(t.takes.getD s.toNat ML)) (ss:=Xn rf.Qa (Qb.getD s.toNat ML)) (i:=i) (by omega);have m1:=ZA (f:=Xx) i0 q0;have m2:(Xn rf.Qa (Qb.getD s.toNat ML)).getD i.toNat ML=ZX (Qb.getD s.toNat ML) i (rf.Qa.getD i.toNat ML):=XR i0 q0;exact(GoE.endsT okF hJ Qf Zk (yl B rf Qb t s i Qt)
        ⟨⟨trivial,(by have t_:=a6 (Na (t.takes.getD s.toNat ML) i.toNat ML) (if false=true then Qd.UI (rf.Qa.getD i.toNat ML)else Qd.K3 (rf.Qa.getD i.toNat ML)) (if false=true then Qd.ZD (rf.Qa.getD i.toNat ML)else Qd.ZT (rf.Qa.getD i.toNat ML));rw[q3]at t_;exact t_)⟩,hp6⟩).cast (by(rw[s2,s3,m1,m2];simp_all[Xx,ZX,b8,Wy];done))
    |false=>
     have k2:(t.grows.length:Int)=rf.Qc:=(by omega)
     have k3:(t.takes.length:Int)=rf.Qc:=(by omega)
     have s2:=XS (xs:=(t.grows.getD s.toNat ML)) (ss:=rf.Qa.map Xx) (i:=i) (by omega);have s3:=XS (xs:=(t.takes.getD s.toNat ML)) (ss:=Xn rf.Qa (Qb.getD s.toNat ML)) (i:=i) (by omega);have m1:=ZA (f:=Xx) i0 q0;have m2:(Xn rf.Qa (Qb.getD s.toNat ML)).getD i.toNat ML=ZX (Qb.getD s.toNat ML) i (rf.Qa.getD i.toNat ML):=XR i0 q0;exact(GoE.endsT okF hJ Qf Zk (yj B rf Qb t s i Qt)
      ⟨⟨trivial,(by have t_:=a6 (Na (t.grows.getD s.toNat ML) i.toNat ML) (Qd.WO (rf.Qa.getD i.toNat ML)) (Qd.Sa (rf.Qa.getD i.toNat ML));rw[q1]at t_;exact t_)⟩,hp3⟩).cast (by(rw[s2,s3,m1,m2];simp_all[Xx,ZX,b8,Wy];done))
   ·have k2:(t.grows.length:Int)=rf.Qc:=(by omega)
    have k3:(t.takes.length:Int)=rf.Qc:=(by omega)
    have s2:=c8 (xs:=(t.grows.getD s.toNat ML)) (ss:=rf.Qa.map Xx) (i:=i) (by omega);have s3:=c8 (xs:=(t.takes.getD s.toNat ML)) (ss:=Xn rf.Qa (Qb.getD s.toNat ML)) (i:=i) (by omega);exact((ih0 _ (by omega)).2.1 (s+1) rfl (by omega) (by with_reducible assumption) (by with_reducible assumption)
     (Zk.landM okF hJ Qf (yi B rf Qb t s i Qt)
     ⟨(XH (by omega) (by omega)),⟨(Zr (Int.not_lt.1 q0)),trivial⟩⟩ (by kernel_rfl) (by kernel_rfl))).cast (by(rw[s2,s3];simp;done))
set_option maxHeartbeats 4000000 in
theorem Dj(rf:Qe)(Qb:List Int)(t:Qn)(hr:Qy rf=true)(hpl:(Qb.length:Int)=rf.Qc)(hp:∀j:Nat,0<=Qb.getD j ML/\Qb.getD j ML<=1000000){B:Lo}(hJ:∀w,B.has w->J0 w):EndsT YP B (Qq YP 27 136 (([.agg (Q1 rf).toArray,XF Qb,.agg #[XF t.starts,QJ t.grows.length (Qg Xq t.grows),QJ t.takes.length (Qg Xq t.takes)]]).map (Q5 0 4))) (.bool (QZ rf Qb t)):=by
 have ZN:=Q6 (QD hr).1;by_cases q0:((↑t.starts.length:Int):Int)≠((↑rf.Qa.length:Int))
 ·exact(GoE.endsT okF hJ Qf GoE.start (yh B rf Qb t)
   ⟨(JO q0),trivial⟩).cast (by(rw[jJ (by omega)];done))
 ·have hp7:Q3 (eK B rf Qb t):=by
   exact⟨(JP (Decidable.of_not_not q0)),trivial⟩
  by_cases q1:((↑t.grows.length:Int):Int)≠rf.Qc
  ·have k1:t.starts.length=rf.Qa.length:=(by omega)
   exact(GoE.endsT okF hJ Qf GoE.start (yg B rf Qb t)
    ⟨(JO q1),hp7⟩).cast (by(rw[jJ (by omega)];done))
  ·have hp8:Q3 (eJ B rf Qb t):=by
    exact⟨(JP (Decidable.of_not_not q1)),hp7⟩
   by_cases q2:((↑t.takes.length:Int):Int)≠rf.Qc
   ·have k1:t.starts.length=rf.Qa.length:=(by omega)
    have k2:(t.grows.length:Int)=rf.Qc:=(by omega)
    exact(GoE.endsT okF hJ Qf GoE.start (yf B rf Qb t)
     ⟨(JO q2),hp8⟩).cast (by(rw[jJ (by omega)];done))
   ·have k1:t.starts.length=rf.Qa.length:=(by omega)
    have k2:(t.grows.length:Int)=rf.Qc:=(by omega)
    have k3:(t.takes.length:Int)=rf.Qc:=(by omega)
    exact((AO rf Qb t hr hpl hp hJ _).1 (0) rfl (by omega) (by with_reducible assumption) (by with_reducible assumption) (by with_reducible assumption)
     (GoE.start.landM okF hJ Qf (ye B rf Qb t)
     ⟨(JP (Decidable.of_not_not q2)),hp8⟩ (by kernel_rfl) (by kernel_rfl))).cast (by(rw[A8 (by omega) (by omega) (by omega)];done))
theorem Dk(rf:Qe)(Qb:List Int)(t:Qn)(hr:Qy rf=true)(hpl:(Qb.length:Int)=rf.Qc)(hp:∀j:Nat,0<=Qb.getD j ML/\Qb.getD j ML<=1000000):Q0 YP J0 27 #[.agg (Q1 rf).toArray,XF Qb,.agg #[XF t.starts,QJ t.grows.length (Qg Xq t.grows),QJ t.takes.length (Qg Xq t.takes)]] (.bool (QZ rf Qb t)):=
 XD (ts:=[.agg (Q1 rf).toArray,XF Qb,.agg #[XF t.starts,QJ t.grows.length (Qg Xq t.grows),QJ t.takes.length (Qg Xq t.takes)]]) Zs (c0:=Qq YP 27 136 (([.agg (Q1 rf).toArray,XF Qb,.agg #[XF t.starts,QJ t.grows.length (Qg Xq t.grows),QJ t.takes.length (Qg Xq t.takes)]]).map (Q5 0 4))) (by kernel_rfl) (by kernel_rfl) fun B hJ=>Dj rf Qb t hr hpl hp hJ
end
end Go.Proofs.Ytncjjangllkokaa

namespace Go.Proofs.Ytncjjangllkokaa
open Go Go.CE Go.RowKit
noncomputable section
set_option maxRecDepth 100000
theorem IN{n:Nat}(h:n<=4):((Vd n:Nat):Int)<=16:=by
 unfold Vd;have:n=0\/n=1\/n=2\/n=3\/n=4:=by omega
 rcases this with rfl|rfl|rfl|rfl|rfl <;> decide
theorem Z2{rf:Qe}{Qb:List Int}(hr:ZE rf=true)(hp:QQ rf Qb=true)(j:Nat):0<=Qb.getD j 0/\Qb.getD j 0<=15:=by
 have h:=(Xa hp).2;have h4:=IN (n:=rf.Qa.length) (by have:=Q6 (QH hr).1;omega);by_cases hj:j<Qb.length
 ·have e:Qb.getD j 0=Qb[j]:=by simp[MU,hj]
  have:=h Qb[j] (List.getElem_mem hj);rw[e];omega
 ·rw[MU,Nf (by omega)];exact⟨Nx _,by decide⟩
theorem KM{xs:List Int}{ss:List Span}(h:PD xs ss=true):xs.length=ss.length/\∀k:Int,0<=k->k<xs.length->(ss.getD k.toNat ML).lo<=xs.getD k.toNat ML/\xs.getD k.toNat ML<=(ss.getD k.toNat ML).hi:=by
 unfold PD at h;simp only[YB,decide_eq_true_iff]at h;exact⟨h.1,fun k h0 h1=>P0.1 (j7 h.2 h0 h1)⟩
theorem Tf{rf:Qe}{Qb:List Int}{t:Qn}(h:QZ rf Qb t=true):PD t.starts (rf.Qa.map (Xt rf.Qk))=true/\(t.grows.length:Int)=rf.Qc/\(t.takes.length:Int)=rf.Qc/\∀s:Int,0<=s->s<rf.Qc->PD (t.grows.getD s.toNat ML) (rf.Qa.map Xx)=true/\PD (t.takes.getD s.toNat ML) (Xn rf.Qa (Qb.getD s.toNat 0))=true:=by
 unfold QZ at h;simp only[YB,decide_eq_true_iff]at h;refine⟨h.1,h.2.1,h.2.2.1,fun s h0 h1=> ?_⟩;have:=j7 h.2.2.2 h0 h1;unfold jY at this;simpa only[YB]using this
theorem y1{rf:Qe}(hr:ZE rf=true):JI rf.Qa:=by
 have hs:=Q6 (QH hr).1;refine⟨by omega,fun k h0 h1=> ?_⟩;have h:=(QH hr).2 k h0 h1;have hp:=XG h.1;exact⟨hp.2.1,hp.2.2.2.2.2.1,h.2.1,h.2.2⟩
theorem Pk{ps:List Qd}{p k:Int}(h0:0<=k)(h:k<ps.length):(Xn ps p).getD k.toNat ML=ZX p k (ps.getD k.toNat ML):=XR h0 h
theorem WG{ps:List Qd}{p:Int}:(Xn ps p).length=ps.length:=by rw[Xn,Xu];omega
theorem aq{rf:Qe}(hr:ZE rf=true){p k:Int}(h0:0<=k)(h:k<rf.Qa.length):0<=(ZX p k (rf.Qa.getD k.toNat ML)).lo/\(ZX p k (rf.Qa.getD k.toNat ML)).lo<=(ZX p k (rf.Qa.getD k.toNat ML)).hi/\(ZX p k (rf.Qa.getD k.toNat ML)).hi<=1000000:=by
 have hp:=XG ((QH hr).2 k h0 h).1;unfold ZX;split
 ·exact hp.2.2.2.2.2.2.2.1
 ·exact hp.2.2.2.2.2.2.1
theorem Ze{rf:Qe}{Qb:List Int}{t:Qn}(hr:ZE rf=true)(ht:QZ rf Qb t=true):OkT rf.Qa rf.Qc t.grows t.takes (Qh t.starts)/\t.starts.length=rf.Qa.length:=by
 have hs:=Q6 (QH hr).1;obtain⟨h1,h2,h3,h4⟩:=Tf ht;obtain⟨s1,s2⟩:=KM h1;rw[List.length_map]at s1;have st:∀k:Int,0<=k->k<4->0<=nth t.starts k/\nth t.starts k<=4000000:=fun k k0 k1=>by
  by_cases hk:k<rf.Qa.length
  ·have hp:=XG ((QH hr).2 k k0 hk).1;have:=s2 k k0 (by omega);rw[ZA k0 hk]at this;have hm:=PJ (a:=(rf.Qa.getD k.toNat ML).count) (r:=rf.Qk) (by omega) (by omega);have hm2:(rf.Qa.getD k.toNat ML).count*rf.Qk<=1000000*2000:=Int.mul_le_mul hp.1.2 hs.2.1.2 hs.2.1.1 (by omega);have e2:((rf.Qa.getD k.toNat ML).count*rf.Qk).tdiv 1000=((rf.Qa.getD k.toNat ML).count*rf.Qk) / 1000:=ND hm.1;simp only[Xt,Y2]at this;unfold nth;omega
  ·unfold nth;rw[MU,Nf (by omega)];exact⟨Nx _,by decide⟩
 have a0:=st 0 (by omega) (by omega);have a1:=st 1 (by omega) (by omega);have a2:=st 2 (by omega) (by omega);have a3:=st 3 (by omega) (by omega);have es:(Qh t.starts).sum=nth t.starts 0+nth t.starts 1+nth t.starts 2+nth t.starts 3:=rfl;refine⟨⟨y1 hr,by omega,by omega,by omega,h2,h3,fun k hk=> ?_,fun k hk=> ?_,⟨⟨a0.1,a1.1,a2.1,a3.1⟩,by omega⟩,by omega⟩,s1⟩
 ·obtain⟨g1,g2⟩:=KM (h4 k (by omega) hk).1;rw[List.length_map]at g1;simp only[Int.toNat_natCast]at g1 g2;refine⟨g1,fun j j0 j1=> ?_⟩;have hp:=XG ((QH hr).2 j j0 (by omega)).1;have:=g2 j j0 (by rw[g1];exact j1);rw[ZA j0 j1]at this;simp only[Xx]at this;show 0<=(t.grows.getD k ML).getD j.toNat ML/\(t.grows.getD k ML).getD j.toNat ML<=2000;omega
 ·obtain⟨g1,g2⟩:=KM (h4 k (by omega) hk).2;rw[WG]at g1;simp only[Int.toNat_natCast]at g1 g2;refine⟨g1,fun j j0 j1=> ?_⟩;have:=g2 j j0 (by rw[g1];exact j1);rw[Pk j0 j1]at this;have hp:=aq hr (p:=Qb.getD k 0) j0 j1;show 0<=(t.takes.getD k ML).getD j.toNat ML/\(t.takes.getD k ML).getD j.toNat ML<=1000000;omega
abbrev XU(xs:List (List Int)):Value:=QJ xs.length (Qg Xq xs)
def lO(rf:Qe)(t:Qn):Array Value:=#[.int .i64 (F4.sum (Qh t.starts)),.int .i64 (Xp 0 rf.Qc (UH rf.Qa t.grows t.takes (Qh t.starts))),.int .i64 (Xp 0 rf.Qc (WQ rf.Qa t.grows t.takes (Qh t.starts))),.int .i64 (Xp 0 rf.Qc (UG rf.Qa t.grows t.takes (Qh t.starts))),.int .i64 (F4.sum (PC rf.Qa t.grows t.takes (Qh t.starts) (MM rf.Qc)))]
def dp(rf:Qe)(Qb:List Int):Array Value:=#[QJ rf.Qa.length (Qg Qj rf.Qa),.int .i64 rf.Qk,.int .i64 rf.Qc,.int .i64 (Qb.getD 0 0),.int .i64 (Qb.getD 1 0),.int .i64 (Qb.getD 2 0),.int .i64 (Qb.getD 3 0)]
def dn(rf:Qe):Array Value:=#[QJ rf.Qa.length (Qg Qj rf.Qa),.int .i64 rf.Qk,.int .i64 rf.Qc]
def lN(t:Qn):Array Value:=#[QJ t.starts.length (Qg Q9 t.starts),QJ t.grows.length (Qg Xq t.grows),QJ t.takes.length (Qg Xq t.takes)]
def lM  :Array Value:=#[QJ 0 #[],.agg #[.int .i64 0,.int .i64 0,.int .i64 0,.int .i64 0,.int .i64 0],.int .i64 2]
def dm(rf:Qe)(t:Qn):=(QI rf.Qc rf.Qa t.grows t.takes (Qh t.starts))
def lL(rf:Qe)(Qb:List Int):Array Value:=#[.agg (dn rf),QJ Qb.length (Qg Q9 Qb)]
def lQ(B:Lo)(rf:Qe)(Qb:List Int)(t:Qn):List Prop:=[Q3 []/\Q0 YP J0 50 #[.agg (dn rf)] (.bool true)]++([]:List Prop)
def vt(rf:Qe)(Qb:List Int)(t:Qn):QB:=[(6,Ql.pure (.bool true) [])]
def lP(B:Lo)(rf:Qe)(Qb:List Int)(t:Qn):List Prop:=[Q3 []/\Q0 YP J0 52 (lL rf Qb) (.agg (dp rf Qb)),Q3 []/\Q0 YP J0 51 (lL rf Qb) (.bool true)]++lQ B rf Qb t
def vq(rf:Qe)(Qb:List Int)(t:Qn):QB:=vt rf Qb t++[(11,Ql.pure (.bool true) []),(17,Ql.pure (.agg (dp rf Qb)) [])]
theorem EE(B:Lo)(rf:Qe)(Qb:List Int)(t:Qn):Xd (Qu YP (Q8 YP) J0 B 13 1 (Qq YP 26 37 (([.agg (Q1 rf).toArray,XF Qb,.agg #[XF t.starts,XU t.grows,XU t.takes]]).map (Q5 0 4))) Zn 1
 (vq rf Qb t++[(19,Ql.pure (.bool true) []),(24,Ql.pure (.tuple #[QJ (MO (dm rf t)) (Qg Xq (dm rf t)),.agg (lO rf t)]) [])]) 0 [] []) []=some (.tuple #[QJ (MO (dm rf t)) (Qg Xq (dm rf t)),.agg (lO rf t),.int .i64 0],
 [Q3 []/\Q0 YP J0 59 #[.agg (dn rf),.agg (lN t)] (.tuple #[QJ (MO (QI rf.Qc rf.Qa t.grows t.takes (Qh t.starts))) (Qg Xq (QI rf.Qc rf.Qa t.grows t.takes (Qh t.starts))),.agg (lO rf t)]),Q3 []/\Q0 YP J0 58 #[.agg (dp rf Qb),.agg (lN t)] (.bool true)]++lP B rf Qb t):=by kernel_rfl
theorem ED(B:Lo)(rf:Qe)(Qb:List Int)(t:Qn):Xd (Qu YP (Q8 YP) J0 B 10 1 (Qq YP 26 37 (([.agg (Q1 rf).toArray,XF Qb,.agg #[XF t.starts,XU t.grows,XU t.takes]]).map (Q5 0 4))) Zn 1
 (vq rf Qb t++[(19,Ql.pure (.bool false) [])]) 0 [] []) []=some (.tuple lM,
 [Q3 []/\Q0 YP J0 58 #[.agg (dp rf Qb),.agg (lN t)] (.bool false)]++lP B rf Qb t):=by kernel_rfl
theorem EC(B:Lo)(rf:Qe)(Qb:List Int)(t:Qn):Xd (Qu YP (Q8 YP) J0 B 10 1 (Qq YP 26 37 (([.agg (Q1 rf).toArray,XF Qb,.agg #[XF t.starts,XU t.grows,XU t.takes]]).map (Q5 0 4))) Zn 1
 (vt rf Qb t++[(11,Ql.pure (.bool false) [])]) 0 [] []) []=some (.tuple lM,
 [Q3 []/\Q0 YP J0 51 (lL rf Qb) (.bool false)]++lQ B rf Qb t):=by kernel_rfl
theorem EB(B:Lo)(rf:Qe)(Qb:List Int)(t:Qn):Xd (Qu YP (Q8 YP) J0 B 10 1 (Qq YP 26 37 (([.agg (Q1 rf).toArray,XF Qb,.agg #[XF t.starts,XU t.grows,XU t.takes]]).map (Q5 0 4))) Zn 1
 [(6,Ql.pure (.bool false) [])] 0 [] []) []=some (.tuple lM,
 [Q3 []/\Q0 YP J0 50 #[.agg (dn rf)] (.bool false)]):=by kernel_rfl
set_option maxHeartbeats 4000000 in
theorem GZ(rf:Qe)(Qb:List Int)(t:Qn)  {B:Lo}(hJ:∀w,B.has w->J0 w):EndsT YP B (Qq YP 26 37 (([.agg (Q1 rf).toArray,XF Qb,.agg #[XF t.starts,XU t.grows,XU t.takes]]).map (Q5 0 4))) (.tuple #[if Qy rf && (QQ rf Qb && QZ rf Qb t)then XU (QI rf.Qc rf.Qa t.grows t.takes (Qh t.starts))else XU [],.agg #[.int .i64 (if Qy rf && (QQ rf Qb && QZ rf Qb t)then(Qh t.starts).sum else 0),.int .i64 (if Qy rf && (QQ rf Qb && QZ rf Qb t)then Xp 0 rf.Qc (UH rf.Qa t.grows t.takes (Qh t.starts))else 0),.int .i64 (if Qy rf && (QQ rf Qb && QZ rf Qb t)then Xp 0 rf.Qc (WQ rf.Qa t.grows t.takes (Qh t.starts))else 0),.int .i64 (if Qy rf && (QQ rf Qb && QZ rf Qb t)then Xp 0 rf.Qc (UG rf.Qa t.grows t.takes (Qh t.starts))else 0),.int .i64 (if Qy rf && (QQ rf Qb && QZ rf Qb t)then(PC rf.Qa t.grows t.takes (Qh t.starts) rf.Qc.toNat).sum else 0)],.int .i64 (if Qy rf && (QQ rf Qb && QZ rf Qb t)then 0 else 2)]):=by
 cases q0:Qy rf with
 |true=>
  have Vb:Q3 (lQ B rf Qb t):=by
   have UL:=QC ‹Qy rf=true›;have ZN:=Q6 (QD ‹Qy rf=true›).1;exact⟨⟨trivial,(by have t_:=jh (rf);rw[q0]at t_;exact t_)⟩,trivial⟩
  cases q1:QQ rf Qb with
  |true=>
   have PV:Q3 (lP B rf Qb t):=by
    have UL:=QC ‹Qy rf=true›;have ZN:=Q6 (QD ‹Qy rf=true›).1;have hpf:=(Xa ‹QQ rf Qb=true›).1;have hpg:=(fun j=>(fun h=>⟨h.1,by omega⟩) (Z2 UL ‹QQ rf Qb=true› j):∀j:Nat,0<=Qb.getD j 0/\Qb.getD j 0<=1000000)
    exact⟨⟨trivial,pN (rf) (Qb) (by omega) (by omega)⟩,⟨⟨trivial,(by have t_:=ji (rf) (Qb) (by omega);rw[q1]at t_;exact t_)⟩,Vb⟩⟩
   cases q2:QZ rf Qb t with
   |true=>
    have UL:=QC ‹Qy rf=true›;have ZN:=Q6 (QD ‹Qy rf=true›).1;have hpf:=(Xa ‹QQ rf Qb=true›).1;have hpg:=(fun j=>(fun h=>⟨h.1,by omega⟩) (Z2 UL ‹QQ rf Qb=true› j):∀j:Nat,0<=Qb.getD j 0/\Qb.getD j 0<=1000000)
    have QF:=Ze UL ‹QZ rf Qb t=true›;have Uv:=QF.1;have PM:=QF.2;exact(GoE.endsT okF hJ Qf GoE.start (EE B rf Qb t)
     ⟨⟨trivial,LP (rf) (t) (by with_reducible assumption) (by with_reducible assumption) (by omega) (by omega)⟩,⟨⟨trivial,(by have t_:=uV (rf) (Qb) (t) (by with_reducible assumption) (by omega) (by with_reducible assumption);rw[q2]at t_;exact t_)⟩,PV⟩⟩).cast (by rfl)
   |false=>
    have UL:=QC ‹Qy rf=true›;have ZN:=Q6 (QD ‹Qy rf=true›).1;have hpf:=(Xa ‹QQ rf Qb=true›).1;have hpg:=(fun j=>(fun h=>⟨h.1,by omega⟩) (Z2 UL ‹QQ rf Qb=true› j):∀j:Nat,0<=Qb.getD j 0/\Qb.getD j 0<=1000000)
    exact(GoE.endsT okF hJ Qf GoE.start (ED B rf Qb t)
     ⟨⟨trivial,(by have t_:=uV (rf) (Qb) (t) (by with_reducible assumption) (by omega) (by with_reducible assumption);rw[q2]at t_;exact t_)⟩,PV⟩).cast (by rfl)
  |false=>
   have UL:=QC ‹Qy rf=true›;have ZN:=Q6 (QD ‹Qy rf=true›).1;exact(GoE.endsT okF hJ Qf GoE.start (EC B rf Qb t)
    ⟨⟨trivial,(by have t_:=ji (rf) (Qb) (by omega);rw[q1]at t_;exact t_)⟩,Vb⟩).cast (by rfl)
 |false=>
  exact(GoE.endsT okF hJ Qf GoE.start (EB B rf Qb t)
   ⟨⟨trivial,(by have t_:=jh (rf);rw[q0]at t_;exact t_)⟩,trivial⟩).cast (by rfl)
theorem EF(rf:Qe)(Qb:List Int)(t:Qn)  :Q0 YP J0 26 #[.agg (Q1 rf).toArray,XF Qb,.agg #[XF t.starts,XU t.grows,XU t.takes]] (.tuple #[if Qy rf && (QQ rf Qb && QZ rf Qb t)then XU (QI rf.Qc rf.Qa t.grows t.takes (Qh t.starts))else XU [],.agg #[.int .i64 (if Qy rf && (QQ rf Qb && QZ rf Qb t)then(Qh t.starts).sum else 0),.int .i64 (if Qy rf && (QQ rf Qb && QZ rf Qb t)then Xp 0 rf.Qc (UH rf.Qa t.grows t.takes (Qh t.starts))else 0),.int .i64 (if Qy rf && (QQ rf Qb && QZ rf Qb t)then Xp 0 rf.Qc (WQ rf.Qa t.grows t.takes (Qh t.starts))else 0),.int .i64 (if Qy rf && (QQ rf Qb && QZ rf Qb t)then Xp 0 rf.Qc (UG rf.Qa t.grows t.takes (Qh t.starts))else 0),.int .i64 (if Qy rf && (QQ rf Qb && QZ rf Qb t)then(PC rf.Qa t.grows t.takes (Qh t.starts) rf.Qc.toNat).sum else 0)],.int .i64 (if Qy rf && (QQ rf Qb && QZ rf Qb t)then 0 else 2)]):=
 XD (ts:=[.agg (Q1 rf).toArray,XF Qb,.agg #[XF t.starts,XU t.grows,XU t.takes]]) Zs (c0:=Qq YP 26 37 (([.agg (Q1 rf).toArray,XF Qb,.agg #[XF t.starts,XU t.grows,XU t.takes]]).map (Q5 0 4))) (by kernel_rfl) (by kernel_rfl) fun B hJ=>GZ rf Qb t  hJ
end
end Go.Proofs.Ytncjjangllkokaa

namespace Go.Proofs.Ytncjjangllkokaa
open Go Go.CE Go.RowKit
def Qw(n:Int):Value:=.int .i64 n
def X0(g:FuncId):Bool:=Nr 3 g && (MY g 116 && !([]:List Nat).any (MQ g))
theorem QG:∀g,X0 g=true->Q8 YP g=true:=by
 have h:(MP 116).all (fun g=> !(X0 g) || Q8 YP g)=true:=by decide+kernel
 intro g hg;have hg':=hg;simp only[X0,YB]at hg;have h1:g<116:=YL hg.2.1;have:=List.all_eq_true.1 h g (List.mem_range.2 h1);rw[hg']at this;simpa using this
def Uh:Obj:=.cells #[Qw 1000,Qw 2000,Qw 200,Qw 300,Qw 100,Qw 1,Qw 200,Qw 300,Qw 0,Qw 50,Qw 900,Qw 10,Qw 500,Qw 800,Qw 100,Qw 200,Qw 0,Qw (-1),Qw 100,Qw 200,Qw 0,Qw 20,Qw 450,Qw 6] 54 (0,0)
def qN:Obj:=.cells #[.slice (some ⟨2104,0,none⟩) 2 12,Qw 200,Qw 2,Qw 1,Qw 1,Qw 0,Qw 0] 84 (0,0)
def MK:Obj:=.cells #[Qw 1000,Qw 2000,Qw 200,Qw 300,Qw 100,Qw 1,Qw 200,Qw 300,Qw 0,Qw 50,Qw 900,Qw 10,Qw 500,Qw 800,Qw 100,Qw 200,Qw 0,Qw (-1),Qw 100,Qw 122,Qw 0,Qw 20,Qw 450,Qw 6] 54 (0,0)
def MJ:Obj:=.cells #[Qw 1000,Qw 2000,Qw 200,Qw 300,Qw 100,Qw 1,Qw 200,Qw 300,Qw 0,Qw 50,Qw 900,Qw 10,Qw 500,Qw 800,Qw 100,Qw 200,Qw 0,Qw (-1),Qw 100,Qw 183,Qw 0,Qw 20,Qw 450,Qw 6] 54 (0,0)
def MI:Obj:=.cells #[Qw 1000,Qw 2000,Qw 200,Qw 300,Qw 100,Qw 1,Qw 200,Qw 300,Qw 0,Qw 50,Qw 900,Qw 10,Qw 500,Qw 800,Qw 100,Qw 200,Qw 0,Qw (-1),Qw 100,Qw 199,Qw 0,Qw 20,Qw 450,Qw 6] 54 (0,0)
def MH:Obj:=.cells #[Qw 1000,Qw 2000,Qw 200,Qw 300,Qw 100,Qw 1,Qw 200,Qw 300,Qw 0,Qw 50,Qw 900,Qw 10,Qw 500,Qw 800,Qw 100,Qw 200,Qw 0,Qw (-1),Qw 100,Qw 191,Qw 0,Qw 20,Qw 450,Qw 6] 54 (0,0)
def MG:Obj:=.cells #[Qw 1000,Qw 2000,Qw 200,Qw 300,Qw 100,Qw 1,Qw 200,Qw 300,Qw 0,Qw 50,Qw 900,Qw 10,Qw 500,Qw 800,Qw 100,Qw 200,Qw 0,Qw (-1),Qw 100,Qw 195,Qw 0,Qw 20,Qw 450,Qw 6] 54 (0,0)
def MF:Obj:=.cells #[Qw 1000,Qw 2000,Qw 200,Qw 300,Qw 100,Qw 1,Qw 200,Qw 300,Qw 0,Qw 50,Qw 900,Qw 10,Qw 500,Qw 800,Qw 100,Qw 200,Qw 0,Qw (-1),Qw 100,Qw 197,Qw 0,Qw 20,Qw 450,Qw 6] 54 (0,0)
def ME:Obj:=.cells #[Qw 1000,Qw 2000,Qw 200,Qw 300,Qw 100,Qw 1,Qw 200,Qw 300,Qw 0,Qw 50,Qw 900,Qw 10,Qw 500,Qw 800,Qw 100,Qw 200,Qw 0,Qw (-1),Qw 100,Qw 196,Qw 0,Qw 20,Qw 450,Qw 6] 54 (0,0)
end Go.Proofs.Ytncjjangllkokaa

namespace Go.Proofs.Ytncjjangllkokaa
open Go Go.CE Go.RowKit
def zo:Memo:=
 ⟨26,#[.agg #[.slice (some ⟨7,0,none⟩) 2 12,Qw 200,Qw 2],.slice (some ⟨8,0,none⟩) 2 1,.agg #[.slice (some ⟨9,0,none⟩) 2 1,.slice (some ⟨12,0,none⟩) 2 1,.slice (some ⟨15,0,none⟩) 2 1]],[(9,.cells #[Qw 1100,Qw 550] 3 (0,0)),(12,.cells #[.slice (some ⟨10,0,none⟩) 2 1,.slice (some ⟨11,0,none⟩) 2 1] 25 (0,0)),(10,.cells #[Qw 250,Qw 150] 3 (0,0)),(15,.cells #[.slice (some ⟨13,0,none⟩) 2 1,.slice (some ⟨14,0,none⟩) 2 1] 25 (0,0)),(13,.cells #[Qw 250,Qw 150] 3 (0,0)),(11,.cells #[Qw 200,Qw 100] 3 (0,0)),(14,.cells #[Qw 200,Qw 100] 3 (0,0)),(8,.cells #[Qw 0,Qw 0] 3 (0,0)),(7,Uh)],16,.tuple #[.slice (some ⟨107,0,none⟩) 2 1,.agg #[Qw 1650,Qw 615,Qw 700,Qw 0,Qw 1565],Qw 0],[(121,.cells #[Qw 867,Qw 698] 3 (0,0)),(114,.cells #[Qw 988,Qw 619] 3 (0,0)),(107,.cells #[.slice (some ⟨114,0,none⟩) 2 1,.slice (some ⟨121,0,none⟩) 2 1] 25 (0,0))],123⟩
theorem Cd:QT zo (zo.run YP X0 X7 100000)=true:=by decide+kernel
def sy:Memo:=
 ⟨18,#[.agg #[.slice (some ⟨131,0,none⟩) 2 12,Qw 200,Qw 2],.slice (some ⟨132,0,none⟩) 2 1],[(132,.cells #[Qw 0,Qw 0] 3 (0,0)),(131,Uh)],133,.tuple #[.slice (some ⟨191,0,none⟩) 2 1,Qw 0],[(375,.cells #[Qw 543,Qw 1209,Qw 410,Qw 856] 38 (0,0)),(283,.cells #[Qw 780,Qw 1204,Qw 470,Qw 776] 38 (0,0)),(191,.cells #[.slice (some ⟨283,0,none⟩) 2 2,.slice (some ⟨375,0,none⟩) 2 2] 36 (0,0))],376⟩
theorem zp:QT sy (sy.run YP X0 X7 100000)=true:=by decide+kernel
def su:Memo:=
 ⟨88,#[.slice (some ⟨383,0,none⟩) 2 12,.agg #[Qw 1063,Qw 440,Qw 0,Qw 0]],[(383,Uh)],539,.tuple #[.agg #[Qw 1,Qw 10],.bool true],[],544⟩
theorem zk:QT su (su.drun YP X0 X7 100000)=true:=by decide+kernel
def sk:Memo:=
 ⟨98,#[.agg #[.slice (some ⟨552,0,none⟩) 2 12,Qw 200,Qw 2,Qw 3,Qw 3,Qw 0,Qw 0],.agg #[Qw 1000,Qw 500,Qw 0,Qw 0],Qw 0,.func (.func 76) #[] #[],.func (.func 77) #[] #[]],[(552,Uh)],622,.agg #[Qw 1030,Qw 650,Qw 0,Qw 0],[],663⟩
theorem zf:QT sk (sk.run YP X0 X7 100000)=true:=by decide+kernel
def sj:Memo:=
 ⟨98,#[.agg #[.slice (some ⟨552,0,none⟩) 2 12,Qw 200,Qw 2,Qw 3,Qw 3,Qw 0,Qw 0],.agg #[Qw 1030,Qw 650,Qw 0,Qw 0],Qw 1,.func (.func 76) #[] #[],.func (.func 77) #[] #[]],[(552,Uh)],666,.agg #[Qw 1063,Qw 818,Qw 0,Qw 0],[],707⟩
theorem ze:QT sj (sj.run YP X0 X7 100000)=true:=by decide+kernel
def sr:Memo:=
 ⟨88,#[.slice (some ⟨552,0,none⟩) 2 12,.agg #[Qw 1063,Qw 818,Qw 0,Qw 0]],[(552,Uh)],707,.tuple #[.agg #[Qw 0,Qw 0],.bool false],[],712⟩
theorem zj:QT sr (sr.drun YP X0 X7 100000)=true:=by decide+kernel
def si:Memo:=
 ⟨98,#[.agg #[.slice (some ⟨552,0,none⟩) 2 12,Qw 200,Qw 2,Qw 0,Qw 0,Qw 0,Qw 0],.agg #[Qw 1000,Qw 500,Qw 0,Qw 0],Qw 0,.func (.func 76) #[] #[],.func (.func 77) #[] #[]],[(552,Uh)],760,.agg #[Qw 780,Qw 470,Qw 0,Qw 0],[],801⟩
theorem zd:QT si (si.run YP X0 X7 100000)=true:=by decide+kernel
def sh:Memo:=
 ⟨98,#[.agg #[.slice (some ⟨552,0,none⟩) 2 12,Qw 200,Qw 2,Qw 0,Qw 0,Qw 0,Qw 0],.agg #[Qw 780,Qw 470,Qw 0,Qw 0],Qw 1,.func (.func 76) #[] #[],.func (.func 77) #[] #[]],[(552,Uh)],804,.agg #[Qw 543,Qw 410,Qw 0,Qw 0],[],845⟩
theorem zb:QT sh (sh.run YP X0 X7 100000)=true:=by decide+kernel
def sq:Memo:=
 ⟨88,#[.slice (some ⟨552,0,none⟩) 2 12,.agg #[Qw 543,Qw 410,Qw 0,Qw 0]],[(552,Uh)],845,.tuple #[.agg #[Qw 0,Qw 357],.bool true],[],849⟩
theorem zi:QT sq (sq.drun YP X0 X7 100000)=true:=by decide+kernel
def sg:Memo:=
 ⟨98,#[.agg #[.slice (some ⟨552,0,none⟩) 2 12,Qw 200,Qw 2,Qw 0,Qw 1,Qw 0,Qw 0],.agg #[Qw 780,Qw 470,Qw 0,Qw 0],Qw 1,.func (.func 76) #[] #[],.func (.func 77) #[] #[]],[(552,Uh)],876,.agg #[Qw 793,Qw 410,Qw 0,Qw 0],[],917⟩
theorem za:QT sg (sg.run YP X0 X7 100000)=true:=by decide+kernel
def so:Memo:=
 ⟨88,#[.slice (some ⟨552,0,none⟩) 2 12,.agg #[Qw 793,Qw 410,Qw 0,Qw 0]],[(552,Uh)],917,.tuple #[.agg #[Qw 0,Qw 107],.bool true],[],921⟩
theorem zh:QT so (so.drun YP X0 X7 100000)=true:=by decide+kernel
def sf:Memo:=
 ⟨98,#[.agg #[.slice (some ⟨552,0,none⟩) 2 12,Qw 200,Qw 2,Qw 0,Qw 2,Qw 0,Qw 0],.agg #[Qw 780,Qw 470,Qw 0,Qw 0],Qw 1,.func (.func 76) #[] #[],.func (.func 77) #[] #[]],[(552,Uh)],948,.agg #[Qw 543,Qw 590,Qw 0,Qw 0],[],989⟩
theorem yZ:QT sf (sf.run YP X0 X7 100000)=true:=by decide+kernel
def sm:Memo:=
 ⟨88,#[.slice (some ⟨552,0,none⟩) 2 12,.agg #[Qw 543,Qw 590,Qw 0,Qw 0]],[(552,Uh)],989,.tuple #[.agg #[Qw 0,Qw 357],.bool true],[],993⟩
theorem zg:QT sm (sm.drun YP X0 X7 100000)=true:=by decide+kernel
def mn:Memo:=
 ⟨98,#[.agg #[.slice (some ⟨552,0,none⟩) 2 12,Qw 200,Qw 2,Qw 0,Qw 3,Qw 0,Qw 0],.agg #[Qw 780,Qw 470,Qw 0,Qw 0],Qw 1,.func (.func 76) #[] #[],.func (.func 77) #[] #[]],[(552,Uh)],1020,.agg #[Qw 793,Qw 590,Qw 0,Qw 0],[],1061⟩
theorem vM:QT mn (mn.run YP X0 X7 100000)=true:=by decide+kernel
end Go.Proofs.Ytncjjangllkokaa

namespace Go.Proofs.Ytncjjangllkokaa
open Go Go.CE Go.RowKit
noncomputable def hO:Vg:=XX [su]
theorem lU(B:Lo):WE YP B hO:=Xh QG Qf (QL _ _) zk (Zm _ _)
def sx:Memo:=
 ⟨35,#[.agg #[.slice (some ⟨383,0,none⟩) 2 12,Qw 200,Qw 2],.slice (some ⟨384,0,none⟩) 2 1],[(384,.cells #[Qw 1,Qw 1] 3 (0,0)),(383,Uh)],385,.tuple #[Qw 1,Qw 10,Qw 0],[],545⟩
theorem zm:QT sx (sx.run YP X0 hO 100000)=true:=by decide+kernel
end Go.Proofs.Ytncjjangllkokaa

namespace Go.Proofs.Ytncjjangllkokaa
open Go Go.CE Go.RowKit
def nq:Memo:=
 ⟨88,#[.slice (some ⟨552,0,none⟩) 2 12,.agg #[Qw 793,Qw 590,Qw 0,Qw 0]],[(552,Uh)],1061,.tuple #[.agg #[Qw 0,Qw 107],.bool true],[],1065⟩
theorem wQ:QT nq (nq.drun YP X0 X7 100000)=true:=by decide+kernel
def mm:Memo:=
 ⟨98,#[.agg #[.slice (some ⟨552,0,none⟩) 2 12,Qw 200,Qw 2,Qw 1,Qw 0,Qw 0,Qw 0],.agg #[Qw 1000,Qw 500,Qw 0,Qw 0],Qw 0,.func (.func 76) #[] #[],.func (.func 77) #[] #[]],[(552,Uh)],1112,.agg #[Qw 1030,Qw 470,Qw 0,Qw 0],[],1153⟩
theorem vL:QT mm (mm.run YP X0 X7 100000)=true:=by decide+kernel
def ml:Memo:=
 ⟨98,#[.agg #[.slice (some ⟨552,0,none⟩) 2 12,Qw 200,Qw 2,Qw 1,Qw 0,Qw 0,Qw 0],.agg #[Qw 1030,Qw 470,Qw 0,Qw 0],Qw 1,.func (.func 76) #[] #[],.func (.func 77) #[] #[]],[(552,Uh)],1156,.agg #[Qw 813,Qw 440,Qw 0,Qw 0],[],1197⟩
theorem vK:QT ml (ml.run YP X0 X7 100000)=true:=by decide+kernel
def np:Memo:=
 ⟨88,#[.slice (some ⟨552,0,none⟩) 2 12,.agg #[Qw 813,Qw 440,Qw 0,Qw 0]],[(552,Uh)],1197,.tuple #[.agg #[Qw 0,Qw 87],.bool true],[],1201⟩
theorem wP:QT np (np.drun YP X0 X7 100000)=true:=by decide+kernel
def mj:Memo:=
 ⟨98,#[.agg #[.slice (some ⟨552,0,none⟩) 2 12,Qw 200,Qw 2,Qw 1,Qw 1,Qw 0,Qw 0],.agg #[Qw 1030,Qw 470,Qw 0,Qw 0],Qw 1,.func (.func 76) #[] #[],.func (.func 77) #[] #[]],[(552,Uh)],1228,.agg #[Qw 1063,Qw 440,Qw 0,Qw 0],[],1269⟩
theorem vJ:QT mj (mj.run YP X0 X7 100000)=true:=by decide+kernel
def nn:Memo:=
 ⟨88,#[.slice (some ⟨552,0,none⟩) 2 12,.agg #[Qw 1063,Qw 440,Qw 0,Qw 0]],[(552,Uh)],1269,.tuple #[.agg #[Qw 1,Qw 10],.bool true],[],1274⟩
theorem wO:QT nn (nn.drun YP X0 X7 100000)=true:=by decide+kernel
def mi:Memo:=
 ⟨98,#[.agg #[.slice (some ⟨552,0,none⟩) 2 12,Qw 200,Qw 2,Qw 1,Qw 2,Qw 0,Qw 0],.agg #[Qw 1030,Qw 470,Qw 0,Qw 0],Qw 1,.func (.func 76) #[] #[],.func (.func 77) #[] #[]],[(552,Uh)],1301,.agg #[Qw 813,Qw 620,Qw 0,Qw 0],[],1342⟩
theorem vI:QT mi (mi.run YP X0 X7 100000)=true:=by decide+kernel
def nm:Memo:=
 ⟨88,#[.slice (some ⟨552,0,none⟩) 2 12,.agg #[Qw 813,Qw 620,Qw 0,Qw 0]],[(552,Uh)],1342,.tuple #[.agg #[Qw 0,Qw 87],.bool true],[],1346⟩
theorem wN:QT nm (nm.drun YP X0 X7 100000)=true:=by decide+kernel
def mh:Memo:=
 ⟨98,#[.agg #[.slice (some ⟨552,0,none⟩) 2 12,Qw 200,Qw 2,Qw 1,Qw 3,Qw 0,Qw 0],.agg #[Qw 1030,Qw 470,Qw 0,Qw 0],Qw 1,.func (.func 76) #[] #[],.func (.func 77) #[] #[]],[(552,Uh)],1373,.agg #[Qw 1063,Qw 620,Qw 0,Qw 0],[],1414⟩
theorem vH:QT mh (mh.run YP X0 X7 100000)=true:=by decide+kernel
def nk:Memo:=
 ⟨88,#[.slice (some ⟨552,0,none⟩) 2 12,.agg #[Qw 1063,Qw 620,Qw 0,Qw 0]],[(552,Uh)],1414,.tuple #[.agg #[Qw 0,Qw 0],.bool false],[],1419⟩
theorem wM:QT nk (nk.drun YP X0 X7 100000)=true:=by decide+kernel
def mg:Memo:=
 ⟨98,#[.agg #[.slice (some ⟨552,0,none⟩) 2 12,Qw 200,Qw 2,Qw 2,Qw 0,Qw 0,Qw 0],.agg #[Qw 1000,Qw 500,Qw 0,Qw 0],Qw 0,.func (.func 76) #[] #[],.func (.func 77) #[] #[]],[(552,Uh)],1486,.agg #[Qw 780,Qw 650,Qw 0,Qw 0],[],1527⟩
theorem vG:QT mg (mg.run YP X0 X7 100000)=true:=by decide+kernel
def mf:Memo:=
 ⟨98,#[.agg #[.slice (some ⟨552,0,none⟩) 2 12,Qw 200,Qw 2,Qw 2,Qw 0,Qw 0,Qw 0],.agg #[Qw 780,Qw 650,Qw 0,Qw 0],Qw 1,.func (.func 76) #[] #[],.func (.func 77) #[] #[]],[(552,Uh)],1530,.agg #[Qw 543,Qw 608,Qw 0,Qw 0],[],1571⟩
theorem vF:QT mf (mf.run YP X0 X7 100000)=true:=by decide+kernel
def nj:Memo:=
 ⟨88,#[.slice (some ⟨552,0,none⟩) 2 12,.agg #[Qw 543,Qw 608,Qw 0,Qw 0]],[(552,Uh)],1571,.tuple #[.agg #[Qw 0,Qw 357],.bool true],[],1575⟩
theorem wL:QT nj (nj.drun YP X0 X7 100000)=true:=by decide+kernel
def me:Memo:=
 ⟨98,#[.agg #[.slice (some ⟨552,0,none⟩) 2 12,Qw 200,Qw 2,Qw 2,Qw 1,Qw 0,Qw 0],.agg #[Qw 780,Qw 650,Qw 0,Qw 0],Qw 1,.func (.func 76) #[] #[],.func (.func 77) #[] #[]],[(552,Uh)],1622,.agg #[Qw 793,Qw 608,Qw 0,Qw 0],[],1663⟩
theorem vE:QT me (me.run YP X0 X7 100000)=true:=by decide+kernel
end Go.Proofs.Ytncjjangllkokaa

namespace Go.Proofs.Ytncjjangllkokaa
open Go Go.CE Go.RowKit
def ni:Memo:=
 ⟨88,#[.slice (some ⟨552,0,none⟩) 2 12,.agg #[Qw 793,Qw 608,Qw 0,Qw 0]],[(552,Uh)],1663,.tuple #[.agg #[Qw 0,Qw 107],.bool true],[],1667⟩
theorem wK:QT ni (ni.drun YP X0 X7 100000)=true:=by decide+kernel
def md:Memo:=
 ⟨98,#[.agg #[.slice (some ⟨552,0,none⟩) 2 12,Qw 200,Qw 2,Qw 2,Qw 2,Qw 0,Qw 0],.agg #[Qw 780,Qw 650,Qw 0,Qw 0],Qw 1,.func (.func 76) #[] #[],.func (.func 77) #[] #[]],[(552,Uh)],1714,.agg #[Qw 543,Qw 788,Qw 0,Qw 0],[],1755⟩
theorem vD:QT md (md.run YP X0 X7 100000)=true:=by decide+kernel
def nh:Memo:=
 ⟨88,#[.slice (some ⟨552,0,none⟩) 2 12,.agg #[Qw 543,Qw 788,Qw 0,Qw 0]],[(552,Uh)],1755,.tuple #[.agg #[Qw 0,Qw 357],.bool true],[],1759⟩
theorem wJ:QT nh (nh.drun YP X0 X7 100000)=true:=by decide+kernel
def mc:Memo:=
 ⟨98,#[.agg #[.slice (some ⟨552,0,none⟩) 2 12,Qw 200,Qw 2,Qw 2,Qw 3,Qw 0,Qw 0],.agg #[Qw 780,Qw 650,Qw 0,Qw 0],Qw 1,.func (.func 76) #[] #[],.func (.func 77) #[] #[]],[(552,Uh)],1806,.agg #[Qw 793,Qw 788,Qw 0,Qw 0],[],1847⟩
theorem vC:QT mc (mc.run YP X0 X7 100000)=true:=by decide+kernel
def ng:Memo:=
 ⟨88,#[.slice (some ⟨552,0,none⟩) 2 12,.agg #[Qw 793,Qw 788,Qw 0,Qw 0]],[(552,Uh)],1847,.tuple #[.agg #[Qw 0,Qw 107],.bool true],[],1851⟩
theorem wI:QT ng (ng.drun YP X0 X7 100000)=true:=by decide+kernel
def mb:Memo:=
 ⟨98,#[.agg #[.slice (some ⟨552,0,none⟩) 2 12,Qw 200,Qw 2,Qw 3,Qw 0,Qw 0,Qw 0],.agg #[Qw 1030,Qw 650,Qw 0,Qw 0],Qw 1,.func (.func 76) #[] #[],.func (.func 77) #[] #[]],[(552,Uh)],1898,.agg #[Qw 813,Qw 638,Qw 0,Qw 0],[],1939⟩
theorem vB:QT mb (mb.run YP X0 X7 100000)=true:=by decide+kernel
def nf:Memo:=
 ⟨88,#[.slice (some ⟨552,0,none⟩) 2 12,.agg #[Qw 813,Qw 638,Qw 0,Qw 0]],[(552,Uh)],1939,.tuple #[.agg #[Qw 0,Qw 87],.bool true],[],1943⟩
theorem wH:QT nf (nf.drun YP X0 X7 100000)=true:=by decide+kernel
def ma:Memo:=
 ⟨98,#[.agg #[.slice (some ⟨552,0,none⟩) 2 12,Qw 200,Qw 2,Qw 3,Qw 2,Qw 0,Qw 0],.agg #[Qw 1030,Qw 650,Qw 0,Qw 0],Qw 1,.func (.func 76) #[] #[],.func (.func 77) #[] #[]],[(552,Uh)],2014,.agg #[Qw 813,Qw 818,Qw 0,Qw 0],[],2055⟩
theorem vA:QT ma (ma.run YP X0 X7 100000)=true:=by decide+kernel
def nc:Memo:=
 ⟨88,#[.slice (some ⟨552,0,none⟩) 2 12,.agg #[Qw 813,Qw 818,Qw 0,Qw 0]],[(552,Uh)],2055,.tuple #[.agg #[Qw 0,Qw 87],.bool true],[],2059⟩
theorem wG:QT nc (nc.drun YP X0 X7 100000)=true:=by decide+kernel
def nb:Memo:=
 ⟨88,#[.slice (some ⟨2134,0,none⟩) 2 12,.agg #[Qw 1063,Qw 440,Qw 0,Qw 0]],[(2134,Uh)],2266,.tuple #[.agg #[Qw 1,Qw 10],.bool true],[],2271⟩
theorem wF:QT nb (nb.drun YP X0 X7 100000)=true:=by decide+kernel
def na:Memo:=
 ⟨88,#[.slice (some ⟨2274,0,none⟩) 2 12,.agg #[Qw 1063,Qw 440,Qw 0,Qw 0]],[(2274,Uh)],2406,.tuple #[.agg #[Qw 1,Qw 10],.bool true],[],2411⟩
theorem wE:QT na (na.drun YP X0 X7 100000)=true:=by decide+kernel
def mZ:Memo:=
 ⟨88,#[.slice (some ⟨2414,0,none⟩) 2 12,.agg #[Qw 1063,Qw 440,Qw 0,Qw 0]],[(2414,Uh)],2546,.tuple #[.agg #[Qw 1,Qw 10],.bool true],[],2551⟩
theorem wD:QT mZ (mZ.drun YP X0 X7 100000)=true:=by decide+kernel
def mY:Memo:=
 ⟨88,#[.slice (some ⟨2554,0,none⟩) 2 12,.agg #[Qw 1063,Qw 440,Qw 0,Qw 0]],[(2554,Uh)],2686,.tuple #[.agg #[Qw 1,Qw 10],.bool true],[],2691⟩
theorem wC:QT mY (mY.drun YP X0 X7 100000)=true:=by decide+kernel
def mX:Memo:=
 ⟨88,#[.slice (some ⟨2694,0,none⟩) 2 12,.agg #[Qw 1063,Qw 440,Qw 0,Qw 0]],[(2694,Uh)],2826,.tuple #[.agg #[Qw 1,Qw 10],.bool true],[],2831⟩
theorem wB:QT mX (mX.drun YP X0 X7 100000)=true:=by decide+kernel
end Go.Proofs.Ytncjjangllkokaa

namespace Go.Proofs.Ytncjjangllkokaa
open Go Go.CE Go.RowKit
noncomputable def hC:Vg:=XX [sk,sj,sr,si,sh,sq,sg,so,sf,sm,mn,nq,mm,ml,np,mj,nn,mi,nm,mh,nk,mg,mf,nj,me,ni,md,nh,mc,ng,mb,nf,ma,nc]
theorem lT(B:Lo):WE YP B hC:=Xb QG Qf (QL _ _) zf (Xb QG Qf (QL _ _) ze (Xh QG Qf (QL _ _) zj (Xb QG Qf (QL _ _) zd (Xb QG Qf (QL _ _) zb (Xh QG Qf (QL _ _) zi (Xb QG Qf (QL _ _) za (Xh QG Qf (QL _ _) zh (Xb QG Qf (QL _ _) yZ (Xh QG Qf (QL _ _) zg (Xb QG Qf (QL _ _) vM (Xh QG Qf (QL _ _) wQ (Xb QG Qf (QL _ _) vL (Xb QG Qf (QL _ _) vK (Xh QG Qf (QL _ _) wP (Xb QG Qf (QL _ _) vJ (Xh QG Qf (QL _ _) wO (Xb QG Qf (QL _ _) vI (Xh QG Qf (QL _ _) wN (Xb QG Qf (QL _ _) vH (Xh QG Qf (QL _ _) wM (Xb QG Qf (QL _ _) vG (Xb QG Qf (QL _ _) vF (Xh QG Qf (QL _ _) wL (Xb QG Qf (QL _ _) vE (Xh QG Qf (QL _ _) wK (Xb QG Qf (QL _ _) vD (Xh QG Qf (QL _ _) wJ (Xb QG Qf (QL _ _) vC (Xh QG Qf (QL _ _) wI (Xb QG Qf (QL _ _) vB (Xh QG Qf (QL _ _) wH (Xb QG Qf (QL _ _) vA (Xh QG Qf (QL _ _) wG (Zm _ _))))))))))))))))))))))))))))))))))
def sw:Memo:=
 ⟨37,#[.agg #[.slice (some ⟨552,0,none⟩) 2 12,Qw 200,Qw 2]],[(552,Uh)],553,.tuple #[.slice (some ⟨2086,0,none⟩) 2 1,Qw 26,Qw 0],[(2086,.cells #[Qw 1,Qw 3] 3 (0,0))],2097⟩
theorem zl:QT sw (sw.run YP X0 hC 100000)=true:=by decide+kernel
end Go.Proofs.Ytncjjangllkokaa

namespace Go.Proofs.Ytncjjangllkokaa
open Go Go.CE Go.RowKit
def mW:Memo:=
 ⟨88,#[.slice (some ⟨2834,0,none⟩) 2 12,.agg #[Qw 1063,Qw 440,Qw 0,Qw 0]],[(2834,Uh)],2966,.tuple #[.agg #[Qw 1,Qw 10],.bool true],[],2971⟩
theorem wA:QT mW (mW.drun YP X0 X7 100000)=true:=by decide+kernel
def mV:Memo:=
 ⟨88,#[.slice (some ⟨2974,0,none⟩) 2 12,.agg #[Qw 1063,Qw 440,Qw 0,Qw 0]],[(2974,Uh)],3106,.tuple #[.agg #[Qw 1,Qw 10],.bool true],[],3111⟩
theorem w9:QT mV (mV.drun YP X0 X7 100000)=true:=by decide+kernel
def mU:Memo:=
 ⟨88,#[.slice (some ⟨3114,0,none⟩) 2 12,.agg #[Qw 1063,Qw 440,Qw 0,Qw 0]],[(3114,Uh)],3246,.tuple #[.agg #[Qw 1,Qw 10],.bool true],[],3251⟩
theorem w8:QT mU (mU.drun YP X0 X7 100000)=true:=by decide+kernel
def mT:Memo:=
 ⟨88,#[.slice (some ⟨3254,0,none⟩) 2 12,.agg #[Qw 1063,Qw 440,Qw 0,Qw 0]],[(3254,Uh)],3386,.tuple #[.agg #[Qw 1,Qw 10],.bool true],[],3391⟩
theorem w7:QT mT (mT.drun YP X0 X7 100000)=true:=by decide+kernel
def mS:Memo:=
 ⟨88,#[.slice (some ⟨3394,0,none⟩) 2 12,.agg #[Qw 1063,Qw 440,Qw 0,Qw 0]],[(3394,Uh)],3526,.tuple #[.agg #[Qw 1,Qw 10],.bool true],[],3531⟩
theorem w6:QT mS (mS.drun YP X0 X7 100000)=true:=by decide+kernel
def mR:Memo:=
 ⟨88,#[.slice (some ⟨3534,0,none⟩) 2 12,.agg #[Qw 1063,Qw 440,Qw 0,Qw 0]],[(3534,Uh)],3666,.tuple #[.agg #[Qw 1,Qw 10],.bool true],[],3671⟩
theorem w5:QT mR (mR.drun YP X0 X7 100000)=true:=by decide+kernel
def mQ:Memo:=
 ⟨88,#[.slice (some ⟨3674,0,none⟩) 2 12,.agg #[Qw 1063,Qw 440,Qw 0,Qw 0]],[(3674,Uh)],3806,.tuple #[.agg #[Qw 1,Qw 10],.bool true],[],3811⟩
theorem wz:QT mQ (mQ.drun YP X0 X7 100000)=true:=by decide+kernel
def mP:Memo:=
 ⟨88,#[.slice (some ⟨3814,0,none⟩) 2 12,.agg #[Qw 1063,Qw 603,Qw 0,Qw 0]],[(3814,MK)],3946,.tuple #[.agg #[Qw 0,Qw 0],.bool false],[],3951⟩
theorem wy:QT mP (mP.drun YP X0 X7 100000)=true:=by decide+kernel
def mO:Memo:=
 ⟨88,#[.slice (some ⟨3954,0,none⟩) 2 12,.agg #[Qw 1063,Qw 475,Qw 0,Qw 0]],[(3954,MJ)],4086,.tuple #[.agg #[Qw 0,Qw 0],.bool false],[],4091⟩
theorem wx:QT mO (mO.drun YP X0 X7 100000)=true:=by decide+kernel
def mN:Memo:=
 ⟨88,#[.slice (some ⟨4094,0,none⟩) 2 12,.agg #[Qw 1063,Qw 440,Qw 0,Qw 0]],[(4094,Uh)],4226,.tuple #[.agg #[Qw 1,Qw 10],.bool true],[],4231⟩
theorem wv:QT mN (mN.drun YP X0 X7 100000)=true:=by decide+kernel
def mM:Memo:=
 ⟨88,#[.slice (some ⟨4234,0,none⟩) 2 12,.agg #[Qw 1063,Qw 442,Qw 0,Qw 0]],[(4234,MI)],4366,.tuple #[.agg #[Qw 1,Qw 8],.bool true],[],4371⟩
theorem wu:QT mM (mM.drun YP X0 X7 100000)=true:=by decide+kernel
def mL:Memo:=
 ⟨88,#[.slice (some ⟨4374,0,none⟩) 2 12,.agg #[Qw 1063,Qw 458,Qw 0,Qw 0]],[(4374,MH)],4506,.tuple #[.agg #[Qw 0,Qw 0],.bool false],[],4511⟩
theorem wo:QT mL (mL.drun YP X0 X7 100000)=true:=by decide+kernel
def mK:Memo:=
 ⟨88,#[.slice (some ⟨4514,0,none⟩) 2 12,.agg #[Qw 1063,Qw 450,Qw 0,Qw 0]],[(4514,MG)],4646,.tuple #[.agg #[Qw 0,Qw 0],.bool false],[],4651⟩
theorem wm:QT mK (mK.drun YP X0 X7 100000)=true:=by decide+kernel
def mJ:Memo:=
 ⟨88,#[.slice (some ⟨4654,0,none⟩) 2 12,.agg #[Qw 1063,Qw 446,Qw 0,Qw 0]],[(4654,MF)],4786,.tuple #[.agg #[Qw 1,Qw 4],.bool true],[],4791⟩
theorem wk:QT mJ (mJ.drun YP X0 X7 100000)=true:=by decide+kernel
end Go.Proofs.Ytncjjangllkokaa

namespace Go.Proofs.Ytncjjangllkokaa
open Go Go.CE Go.RowKit
noncomputable section
def dO:Vg:=XX [nb]
theorem iX(B:Lo):WE YP B dO:=Xh QG Qf (QL _ _) wF (Zm _ _)
def mH:Memo:=
 ⟨93,#[Qw 500000,.pointer (some ⟨2130,0,none⟩),.pointer (some ⟨2131,0,none⟩)],[(2104,Uh),(2131,.cells #[Qw 1] 3 (0,0)),(2130,qN)],2132,.bool true,[],2272⟩
theorem wi:QT mH (mH.run YP X0 dO 100000)=true:=by decide+kernel
def dN:Vg:=XX [na]
theorem iW(B:Lo):WE YP B dN:=Xh QG Qf (QL _ _) wE (Zm _ _)
def mG:Memo:=
 ⟨93,#[Qw 250000,.pointer (some ⟨2130,0,none⟩),.pointer (some ⟨2131,0,none⟩)],[(2104,Uh),(2131,.cells #[Qw 1] 3 (0,0)),(2130,qN)],2272,.bool true,[],2412⟩
theorem wh:QT mG (mG.run YP X0 dN 100000)=true:=by decide+kernel
def dM:Vg:=XX [mZ]
theorem iV(B:Lo):WE YP B dM:=Xh QG Qf (QL _ _) wD (Zm _ _)
def mF:Memo:=
 ⟨93,#[Qw 125000,.pointer (some ⟨2130,0,none⟩),.pointer (some ⟨2131,0,none⟩)],[(2104,Uh),(2131,.cells #[Qw 1] 3 (0,0)),(2130,qN)],2412,.bool true,[],2552⟩
theorem wg:QT mF (mF.run YP X0 dM 100000)=true:=by decide+kernel
def dL:Vg:=XX [mY]
theorem iU(B:Lo):WE YP B dL:=Xh QG Qf (QL _ _) wC (Zm _ _)
def mE:Memo:=
 ⟨93,#[Qw 62500,.pointer (some ⟨2130,0,none⟩),.pointer (some ⟨2131,0,none⟩)],[(2104,Uh),(2131,.cells #[Qw 1] 3 (0,0)),(2130,qN)],2552,.bool true,[],2692⟩
theorem we:QT mE (mE.run YP X0 dL 100000)=true:=by decide+kernel
def dK:Vg:=XX [mX]
theorem iT(B:Lo):WE YP B dK:=Xh QG Qf (QL _ _) wB (Zm _ _)
def mD:Memo:=
 ⟨93,#[Qw 31250,.pointer (some ⟨2130,0,none⟩),.pointer (some ⟨2131,0,none⟩)],[(2104,Uh),(2131,.cells #[Qw 1] 3 (0,0)),(2130,qN)],2692,.bool true,[],2832⟩
theorem wc:QT mD (mD.run YP X0 dK 100000)=true:=by decide+kernel
def dI:Vg:=XX [mW]
theorem iS(B:Lo):WE YP B dI:=Xh QG Qf (QL _ _) wA (Zm _ _)
def mC:Memo:=
 ⟨93,#[Qw 15625,.pointer (some ⟨2130,0,none⟩),.pointer (some ⟨2131,0,none⟩)],[(2104,Uh),(2131,.cells #[Qw 1] 3 (0,0)),(2130,qN)],2832,.bool true,[],2972⟩
theorem wb:QT mC (mC.run YP X0 dI 100000)=true:=by decide+kernel
def dH:Vg:=XX [mV]
theorem iR(B:Lo):WE YP B dH:=Xh QG Qf (QL _ _) w9 (Zm _ _)
def mB:Memo:=
 ⟨93,#[Qw 7812,.pointer (some ⟨2130,0,none⟩),.pointer (some ⟨2131,0,none⟩)],[(2104,Uh),(2131,.cells #[Qw 1] 3 (0,0)),(2130,qN)],2972,.bool true,[],3112⟩
theorem wa:QT mB (mB.run YP X0 dH 100000)=true:=by decide+kernel
def dG:Vg:=XX [mU]
theorem iQ(B:Lo):WE YP B dG:=Xh QG Qf (QL _ _) w8 (Zm _ _)
def mA:Memo:=
 ⟨93,#[Qw 3906,.pointer (some ⟨2130,0,none⟩),.pointer (some ⟨2131,0,none⟩)],[(2104,Uh),(2131,.cells #[Qw 1] 3 (0,0)),(2130,qN)],3112,.bool true,[],3252⟩
theorem vZ:QT mA (mA.run YP X0 dG 100000)=true:=by decide+kernel
def dF:Vg:=XX [mT]
theorem iP(B:Lo):WE YP B dF:=Xh QG Qf (QL _ _) w7 (Zm _ _)
def m9:Memo:=
 ⟨93,#[Qw 1953,.pointer (some ⟨2130,0,none⟩),.pointer (some ⟨2131,0,none⟩)],[(2104,Uh),(2131,.cells #[Qw 1] 3 (0,0)),(2130,qN)],3252,.bool true,[],3392⟩
theorem vY:QT m9 (m9.run YP X0 dF 100000)=true:=by decide+kernel
def dE:Vg:=XX [mS]
theorem iO(B:Lo):WE YP B dE:=Xh QG Qf (QL _ _) w6 (Zm _ _)
def m8:Memo:=
 ⟨93,#[Qw 976,.pointer (some ⟨2130,0,none⟩),.pointer (some ⟨2131,0,none⟩)],[(2104,Uh),(2131,.cells #[Qw 1] 3 (0,0)),(2130,qN)],3392,.bool true,[],3532⟩
theorem vX:QT m8 (m8.run YP X0 dE 100000)=true:=by decide+kernel
def dC:Vg:=XX [mR]
theorem iN(B:Lo):WE YP B dC:=Xh QG Qf (QL _ _) w5 (Zm _ _)
def m7:Memo:=
 ⟨93,#[Qw 488,.pointer (some ⟨2130,0,none⟩),.pointer (some ⟨2131,0,none⟩)],[(2104,Uh),(2131,.cells #[Qw 1] 3 (0,0)),(2130,qN)],3532,.bool true,[],3672⟩
theorem vW:QT m7 (m7.run YP X0 dC 100000)=true:=by decide+kernel
def dB:Vg:=XX [mQ]
theorem iM(B:Lo):WE YP B dB:=Xh QG Qf (QL _ _) wz (Zm _ _)
def m6:Memo:=
 ⟨93,#[Qw 244,.pointer (some ⟨2130,0,none⟩),.pointer (some ⟨2131,0,none⟩)],[(2104,Uh),(2131,.cells #[Qw 1] 3 (0,0)),(2130,qN)],3672,.bool true,[],3812⟩
theorem vV:QT m6 (m6.run YP X0 dB 100000)=true:=by decide+kernel
def dA:Vg:=XX [mP]
theorem iL(B:Lo):WE YP B dA:=Xh QG Qf (QL _ _) wy (Zm _ _)
def m5:Memo:=
 ⟨93,#[Qw 122,.pointer (some ⟨2130,0,none⟩),.pointer (some ⟨2131,0,none⟩)],[(2104,Uh),(2131,.cells #[Qw 1] 3 (0,0)),(2130,qN)],3812,.bool false,[],3952⟩
theorem vU:QT m5 (m5.run YP X0 dA 100000)=true:=by decide+kernel
def dz:Vg:=XX [mO]
theorem iK(B:Lo):WE YP B dz:=Xh QG Qf (QL _ _) wx (Zm _ _)
def m4:Memo:=
 ⟨93,#[Qw 183,.pointer (some ⟨2130,0,none⟩),.pointer (some ⟨2131,0,none⟩)],[(2104,Uh),(2131,.cells #[Qw 1] 3 (0,0)),(2130,qN)],3952,.bool false,[],4092⟩
theorem vT:QT m4 (m4.run YP X0 dz 100000)=true:=by decide+kernel
end
end Go.Proofs.Ytncjjangllkokaa

namespace Go.Proofs.Ytncjjangllkokaa
open Go Go.CE Go.RowKit
def mI:Memo:=
 ⟨88,#[.slice (some ⟨4794,0,none⟩) 2 12,.agg #[Qw 1063,Qw 448,Qw 0,Qw 0]],[(4794,ME)],4926,.tuple #[.agg #[Qw 1,Qw 2],.bool true],[],4931⟩
theorem wj:QT mI (mI.drun YP X0 X7 100000)=true:=by decide+kernel
end Go.Proofs.Ytncjjangllkokaa

namespace Go.Proofs.Ytncjjangllkokaa
open Go Go.CE Go.RowKit
noncomputable section
def dy:Vg:=XX [mN]
theorem iJ(B:Lo):WE YP B dy:=Xh QG Qf (QL _ _) wv (Zm _ _)
def mz:Memo:=
 ⟨93,#[Qw 214,.pointer (some ⟨2130,0,none⟩),.pointer (some ⟨2131,0,none⟩)],[(2104,Uh),(2131,.cells #[Qw 1] 3 (0,0)),(2130,qN)],4092,.bool true,[],4232⟩
theorem vS:QT mz (mz.run YP X0 dy 100000)=true:=by decide+kernel
def dx:Vg:=XX [mM]
theorem iI(B:Lo):WE YP B dx:=Xh QG Qf (QL _ _) wu (Zm _ _)
def my:Memo:=
 ⟨93,#[Qw 199,.pointer (some ⟨2130,0,none⟩),.pointer (some ⟨2131,0,none⟩)],[(2104,Uh),(2131,.cells #[Qw 1] 3 (0,0)),(2130,qN)],4232,.bool true,[],4372⟩
theorem vR:QT my (my.run YP X0 dx 100000)=true:=by decide+kernel
def dw:Vg:=XX [mL]
theorem iH(B:Lo):WE YP B dw:=Xh QG Qf (QL _ _) wo (Zm _ _)
def mw:Memo:=
 ⟨93,#[Qw 191,.pointer (some ⟨2130,0,none⟩),.pointer (some ⟨2131,0,none⟩)],[(2104,Uh),(2131,.cells #[Qw 1] 3 (0,0)),(2130,qN)],4372,.bool false,[],4512⟩
theorem vQ:QT mw (mw.run YP X0 dw 100000)=true:=by decide+kernel
def dv:Vg:=XX [mK]
theorem iG(B:Lo):WE YP B dv:=Xh QG Qf (QL _ _) wm (Zm _ _)
def mr:Memo:=
 ⟨93,#[Qw 195,.pointer (some ⟨2130,0,none⟩),.pointer (some ⟨2131,0,none⟩)],[(2104,Uh),(2131,.cells #[Qw 1] 3 (0,0)),(2130,qN)],4512,.bool false,[],4652⟩
theorem vP:QT mr (mr.run YP X0 dv 100000)=true:=by decide+kernel
def du:Vg:=XX [mJ]
theorem iF(B:Lo):WE YP B du:=Xh QG Qf (QL _ _) wk (Zm _ _)
def mq:Memo:=
 ⟨93,#[Qw 197,.pointer (some ⟨2130,0,none⟩),.pointer (some ⟨2131,0,none⟩)],[(2104,Uh),(2131,.cells #[Qw 1] 3 (0,0)),(2130,qN)],4652,.bool true,[],4792⟩
theorem vO:QT mq (mq.run YP X0 du 100000)=true:=by decide+kernel
def dt:Vg:=XX [mI]
theorem iE(B:Lo):WE YP B dt:=Xh QG Qf (QL _ _) wj (Zm _ _)
def mo:Memo:=
 ⟨93,#[Qw 196,.pointer (some ⟨2130,0,none⟩),.pointer (some ⟨2131,0,none⟩)],[(2104,Uh),(2131,.cells #[Qw 1] 3 (0,0)),(2130,qN)],4792,.bool true,[],4932⟩
theorem vN:QT mo (mo.run YP X0 dt 100000)=true:=by decide+kernel
end
end Go.Proofs.Ytncjjangllkokaa

namespace Go.Proofs.Ytncjjangllkokaa
open Go Go.CE Go.RowKit
noncomputable def dP:Vg:=XX [mH,mG,mF,mE,mD,mC,mB,mA,m9,m8,m7,m6,m5,m4,mz,my,mw,mr,mq,mo]
theorem iY(B:Lo):WE YP B dP:=Xb QG Qf (iX _) wi (Xb QG Qf (iW _) wh (Xb QG Qf (iV _) wg (Xb QG Qf (iU _) we (Xb QG Qf (iT _) wc (Xb QG Qf (iS _) wb (Xb QG Qf (iR _) wa (Xb QG Qf (iQ _) vZ (Xb QG Qf (iP _) vY (Xb QG Qf (iO _) vX (Xb QG Qf (iN _) vW (Xb QG Qf (iM _) vV (Xb QG Qf (iL _) vU (Xb QG Qf (iK _) vT (Xb QG Qf (iJ _) vS (Xb QG Qf (iI _) vR (Xb QG Qf (iH _) vQ (Xb QG Qf (iG _) vP (Xb QG Qf (iF _) vO (Xb QG Qf (iE _) vN (Zm _ _))))))))))))))))))))
def nr:Memo:=
 ⟨43,#[.agg #[.slice (some ⟨2104,0,none⟩) 2 12,Qw 200,Qw 2],.slice (some ⟨2105,0,none⟩) 2 1,Qw 1],[(2105,.cells #[Qw 1,Qw 1] 3 (0,0)),(2104,Uh)],2106,.tuple #[Qw 195,Qw 0],[],4932⟩
theorem wR:QT nr (nr.run YP X0 dP 100000)=true:=by decide+kernel
end Go.Proofs.Ytncjjangllkokaa

namespace Go.Proofs.Ytncjjangllkokaa
open Go Go.CE Go.RowKit
noncomputable def ET:Vg:=XX [zo,sy,sx,sw,nr]
theorem BY(B:Lo):WE YP B ET:=Xb QG Qf (QL _ _) Cd (Xb QG Qf (QL _ _) zp (Xb QG Qf (lU _) zm (Xb QG Qf (lT _) zl (Xb QG Qf (iY _) wR (Zm _ _)))))
theorem Cz:Aq (nZ YP X0 ET 100000 16 #[] (PO 0 []) ([]:List (Array Value×TypeId)).length) (.bool true) []=true:=by decide+kernel
theorem zy(w:World):Calls YP 16 #[] w fun e w'=>e=.returned (.bool true)/\Below w.heap.size w w':=by
 have hc:=C9 QG Qf (at':=[]) (args':=#[]) Cz (w:=w) (I:=fun _=>True) (hI:=fun _ _ _ _=>trivial) (BY _) trivial rfl (fun i x a h=>by simp at h) ⟨rfl,fun i v v' h=>by simp at h⟩;intro cs;obtain⟨e,w',fr,⟨v',n',H',μ',he,hp,hv,hb,hun,SN⟩,h1,h2,h3⟩:=hc cs;exact⟨e,w',fr,⟨by rw[he,Sl rfl hv],SN⟩,h1,h2,h3⟩
theorem known:Q0 YP J0 16 #[] (.bool true):=fun fm w args' _ _ ha=>by
 have e:args'=#[]:=by exact Ns ha.1.symm
 subst e;exact(zy w).mono fun _ _ h=>⟨_,h.1,h.2,.simple rfl⟩
end Go.Proofs.Ytncjjangllkokaa

namespace Go.Proofs.Ytncjjangllkokaa
open Go Go.CE Go.RowKit
noncomputable section
set_option maxRecDepth 100000
theorem Z0{rf:Qe}{Qb:List Int}(hr:ZE rf=true)(hp:QQ rf Qb=true):∀j:Nat,0<=Qb.getD j ML/\Qb.getD j ML<=1000000:=fun j=>by
 have h:=Z2 hr hp j;show 0<=Qb.getD j 0/\Qb.getD j 0<=1000000;omega
def sizedB(t:Qn):Bool:=(decide (t.starts.length<=8) && (decide (t.grows.length<=8) && decide (t.takes.length<=8))) && ((t.grows.all fun l=>decide (l.length<=8)) && t.takes.all fun l=>decide (l.length<=8))
def Jy(t:Qn)(i:Int):List Value:=[pA 2 0,.int .i64 i]
def VY(t:Qn)(i:Int):List Obj:=[Obj.cells #[Qv 1 (QJ t.starts.length (Qg Q9 t.starts)),Qv 1 (QJ t.grows.length (Qg Xq t.grows)),Qv 1 (QJ t.takes.length (Qg Xq t.takes))] 42]
def J1:List Item:=([.code [1,1,0,1,0,0],.inLoop [1,1,0,1,0,0],.inBlock 0,.code [1,1,1]]).map (it (Xf YP 25))
def Cq(B:Lo)(c0:CF)(t:Qn)(i:Int):Prop:=∃dJ:Nat->Value,(∀t,XP (dJ t))/\GoE YP B c0 Zn 1 (QO 25 49 (([1,3]:List Nat).zip (Jy t i)) dJ J1) (QN (VY t i)) (2+(VY t i).length) []
def Jx(t:Qn)(i:Int):List Value:=[pA 2 0,.int .i64 i]
def VX(t:Qn)(i:Int):List Obj:=[Obj.cells #[Qv 1 (QJ t.starts.length (Qg Q9 t.starts)),Qv 1 (QJ t.grows.length (Qg Xq t.grows)),Qv 1 (QJ t.takes.length (Qg Xq t.takes))] 42]
def Jz:List Item:=([.code [1,1,1,0,1,0,0],.inLoop [1,1,1,0,1,0,0],.inBlock 2,.code [1,1,1,1]]).map (it (Xf YP 25))
def Cp(B:Lo)(c0:CF)(t:Qn)(i:Int):Prop:=∃dJ:Nat->Value,(∀t,XP (dJ t))/\GoE YP B c0 Zn 1 (QO 25 49 (([1,4]:List Nat).zip (Jx t i)) dJ Jz) (QN (VX t i)) (2+(VX t i).length) []
def fL(B:Lo)(t:Qn)(i:Int)(Qt:Nat->Value):List Prop:=[i=(↑i.toNat:Int)/\MM i<MO t.grows/\Nu (Qg Xq t.grows) (MM i*TypeInfo.size Try.t25) (MM i*TypeInfo.size Try.t25+TypeInfo.size Try.t25)=#[QJ (MO (t.grows.getD i.toNat ML)) (Qg Q9 (t.grows.getD i.toNat ML))],Zq i (↑t.grows.length:Int)=true]++([]:List Prop)
def qA(t:Qn)(i:Int)(Qt:Nat->Value):QB:=[(4,WR),(8,Ql.tidx i.toNat #[QJ (MO (t.grows.getD i.toNat ML)) (Qg Q9 (t.grows.getD i.toNat ML))])]
theorem Cn(B:Lo)(t:Qn)(i:Int)(Qt:Nat->Value):Xd (Qu YP (Q8 YP) J0 B 14 1 (QO 25 49 (([1,3]:List Nat).zip (Jy t i)) Qt J1) (QN (VY t i)) (2+(VY t i).length)
 (qA t i Qt++[(11,WR)]) 0 [] []) []=some (.bool false,
 [Zq 8 (↑(MO (t.grows.getD i.toNat ML)):Int)=true]++fL B t i Qt):=by kernel_rfl
theorem Cm(B:Lo)(t:Qn)(i:Int)(Qt:Nat->Value):landM (Qu YP (Q8 YP) J0 B 14 1 (QO 25 49 (([1,3]:List Nat).zip (Jy t i)) Qt J1) (QN (VY t i)) (2+(VY t i).length)
 (qA t i Qt++[(11,Vs),(13,U2 (i+1))]) 0 [] []) [1,3] [(2,KS.auto)] []=some ⟨25,49,J1,[],.run,none,Jy t (i+1),VY t (i+1),
 [wq (i+1)=i+1,Zq 8 (↑(MO (t.grows.getD i.toNat ML)):Int)=false]++fL B t i Qt⟩:=by kernel_rfl
theorem Cl(B:Lo)(t:Qn)(i:Int)(Qt:Nat->Value):landM (Qu YP (Q8 YP) J0 B 10 1 (QO 25 49 (([1,3]:List Nat).zip (Jy t i)) Qt J1) (QN (VY t i)) (2+(VY t i).length)
 [(4,Vs)] 0 [] []) [1,4] [(2,KS.auto)] []=some ⟨25,49,Jz,[],.run,none,Jx t (0),VX t (0),
 [Zq i (↑t.grows.length:Int)=false]⟩:=by kernel_rfl
def fK(B:Lo)(t:Qn)(i:Int)(Qt:Nat->Value):List Prop:=[i=(↑i.toNat:Int)/\MM i<MO t.takes/\Nu (Qg Xq t.takes) (MM i*TypeInfo.size Try.t25) (MM i*TypeInfo.size Try.t25+TypeInfo.size Try.t25)=#[QJ (MO (t.takes.getD i.toNat ML)) (Qg Q9 (t.takes.getD i.toNat ML))],Zq i (↑t.takes.length:Int)=true]++([]:List Prop)
def qz(t:Qn)(i:Int)(Qt:Nat->Value):QB:=[(4,WR),(8,Ql.tidx i.toNat #[QJ (MO (t.takes.getD i.toNat ML)) (Qg Q9 (t.takes.getD i.toNat ML))])]
theorem Ck(B:Lo)(t:Qn)(i:Int)(Qt:Nat->Value):Xd (Qu YP (Q8 YP) J0 B 14 1 (QO 25 49 (([1,4]:List Nat).zip (Jx t i)) Qt Jz) (QN (VX t i)) (2+(VX t i).length)
 (qz t i Qt++[(11,WR)]) 0 [] []) []=some (.bool false,
 [Zq 8 (↑(MO (t.takes.getD i.toNat ML)):Int)=true]++fK B t i Qt):=by kernel_rfl
theorem Cj(B:Lo)(t:Qn)(i:Int)(Qt:Nat->Value):landM (Qu YP (Q8 YP) J0 B 14 1 (QO 25 49 (([1,4]:List Nat).zip (Jx t i)) Qt Jz) (QN (VX t i)) (2+(VX t i).length)
 (qz t i Qt++[(11,Vs),(13,U2 (i+1))]) 0 [] []) [1,4] [(2,KS.auto)] []=some ⟨25,49,Jz,[],.run,none,Jx t (i+1),VX t (i+1),
 [wq (i+1)=i+1,Zq 8 (↑(MO (t.takes.getD i.toNat ML)):Int)=false]++fK B t i Qt⟩:=by kernel_rfl
theorem Ci(B:Lo)(t:Qn)(i:Int)(Qt:Nat->Value):Xd (Qu YP (Q8 YP) J0 B 9 1 (QO 25 49 (([1,4]:List Nat).zip (Jx t i)) Qt Jz) (QN (VX t i)) (2+(VX t i).length)
 [(4,Vs)] 0 [] []) []=some (.bool true,
 [Zq i (↑t.takes.length:Int)=false]):=by kernel_rfl
theorem Ch(B:Lo)(t:Qn):Xd (Qu YP (Q8 YP) J0 B 10 1 (Qq YP 25 49 (([.agg #[XF t.starts,XU t.grows,XU t.takes]]).map (Q5 0 4))) Zn 1
 [(5,WR)] 0 [] []) []=some (.bool false,
 [Zq 8 (↑t.starts.length:Int)=true]):=by kernel_rfl
def fJ(B:Lo)(t:Qn):List Prop:=[Zq 8 (↑t.starts.length:Int)=false]++([]:List Prop)
def qy(t:Qn):QB:=[(5,Vs)]
theorem Cg(B:Lo)(t:Qn):Xd (Qu YP (Q8 YP) J0 B 10 1 (Qq YP 25 49 (([.agg #[XF t.starts,XU t.grows,XU t.takes]]).map (Q5 0 4))) Zn 1
 (qy t++[(10,WR)]) 0 [] []) []=some (.bool false,
 [Zq 8 (↑t.grows.length:Int)=true]++fJ B t):=by kernel_rfl
def fI(B:Lo)(t:Qn):List Prop:=[Zq 8 (↑t.grows.length:Int)=false]++fJ B t
def qx(t:Qn):QB:=qy t++[(10,Vs)]
theorem Cf(B:Lo)(t:Qn):Xd (Qu YP (Q8 YP) J0 B 10 1 (Qq YP 25 49 (([.agg #[XF t.starts,XU t.grows,XU t.takes]]).map (Q5 0 4))) Zn 1
 (qx t++[(16,WR)]) 0 [] []) []=some (.bool false,
 [Zq 8 (↑t.takes.length:Int)=true]++fI B t):=by kernel_rfl
theorem Ce(B:Lo)(t:Qn):landM (Qu YP (Q8 YP) J0 B 12 1 (Qq YP 25 49 (([.agg #[XF t.starts,XU t.grows,XU t.takes]]).map (Q5 0 4))) Zn 1
 (qx t++[(16,Vs)]) 0 [] []) [1,3] [(1,KS.auto)] []=some ⟨25,49,J1,[],.run,none,Jy t (0),VY t (0),
 [Zq 8 (↑t.takes.length:Int)=false]++fI B t⟩:=by kernel_rfl
set_option maxHeartbeats 4000000 in
theorem Co(t:Qn)  (XB:t.starts.length<=9223372036854775807/\t.grows.length<=9223372036854775807/\t.takes.length<=9223372036854775807){B:Lo}(hJ:∀w,B.has w->J0 w){c0:CF}:∀m:Nat,(∀(i:Int),(t.grows.length-i.toNat)+1000=m->∀(h0:0<=i) (h8:t.starts.length<=8/\t.grows.length<=8/\t.takes.length<=8),Cq B c0 t i->EndsT YP B c0 (.bool ((t.grows.drop i.toNat).all (fun l=>decide (l.length<=8)) && t.takes.all fun l=>decide (l.length<=8))))/\(∀(i:Int),(t.takes.length-i.toNat)=m->∀(h0:0<=i) (h8:t.starts.length<=8/\t.grows.length<=8/\t.takes.length<=8),Cp B c0 t i->EndsT YP B c0 (.bool ((t.takes.drop i.toNat).all (fun l=>decide (l.length<=8))))):=by
 intro m0;induction m0 using No with
 |_ m0 ih0=>
  refine⟨?_, ?_⟩
  ·intro i hm0 h0 h8 ⟨Qt,Kn,Zk⟩;by_cases q0:(i:Int)<((↑t.grows.length:Int))
   ·have Vb:Q3 (fL B t i Qt):=by
     have s2:=Vq (l:=t.grows) (p:=fun l=>decide (l.length<=8)) h0 q0;exact⟨⟨by omega,by omega,(QA (z:=1) (fun _=>rfl) (by omega))⟩,⟨(Zh q0),trivial⟩⟩
    by_cases q1:(8:Int)<((↑(MO (t.grows.getD i.toNat ML)):Int))
    ·have s2:=Vq (l:=t.grows) (p:=fun l=>decide (l.length<=8)) h0 q0;exact(GoE.endsT okF hJ Qf Zk (Cn B t i Qt)
      ⟨(Zh q1),Vb⟩).cast (by(rw[s2,decide_eq_false (by omega)];rfl))
    ·have s2:=Vq (l:=t.grows) (p:=fun l=>decide (l.length<=8)) h0 q0;exact((ih0 _ (by omega)).1 (i+1) rfl (by omega) (by with_reducible assumption)
      (Zk.landM okF hJ Qf (Cm B t i Qt)
      ⟨(XH (by omega) (by omega)),⟨(Zr (Int.not_lt.1 q1)),Vb⟩⟩ (by kernel_rfl) (by kernel_rfl))).cast (by(rw[s2,decide_eq_true (by omega),Bool.true_and];done))
   ·have s2:=Yc (l:=t.grows) (p:=fun l=>decide (l.length<=8)) (i:=i) (by omega);exact((ih0 _ (by omega)).2 (0) rfl (by omega) (by with_reducible assumption)
     (Zk.landM okF hJ Qf (Cl B t i Qt)
     ⟨(Zr (Int.not_lt.1 q0)),trivial⟩ (by kernel_rfl) (by kernel_rfl))).cast (by(rw[s2];simp[*];done))
  ·intro i hm0 h0 h8 ⟨Qt,Kn,Zk⟩;by_cases q0:(i:Int)<((↑t.takes.length:Int))
   ·have PV:Q3 (fK B t i Qt):=by
     have s2:=Vq (l:=t.takes) (p:=fun l=>decide (l.length<=8)) h0 q0;exact⟨⟨by omega,by omega,(QA (z:=1) (fun _=>rfl) (by omega))⟩,⟨(Zh q0),trivial⟩⟩
    by_cases q1:(8:Int)<((↑(MO (t.takes.getD i.toNat ML)):Int))
    ·have s2:=Vq (l:=t.takes) (p:=fun l=>decide (l.length<=8)) h0 q0;exact(GoE.endsT okF hJ Qf Zk (Ck B t i Qt)
      ⟨(Zh q1),PV⟩).cast (by(rw[s2,decide_eq_false (by omega)];rfl))
    ·have s2:=Vq (l:=t.takes) (p:=fun l=>decide (l.length<=8)) h0 q0;exact((ih0 _ (by omega)).2 (i+1) rfl (by omega) (by with_reducible assumption)
      (Zk.landM okF hJ Qf (Cj B t i Qt)
      ⟨(XH (by omega) (by omega)),⟨(Zr (Int.not_lt.1 q1)),PV⟩⟩ (by kernel_rfl) (by kernel_rfl))).cast (by(rw[s2,decide_eq_true (by omega),Bool.true_and];done))
   ·have s2:=Yc (l:=t.takes) (p:=fun l=>decide (l.length<=8)) (i:=i) (by omega);exact(GoE.endsT okF hJ Qf Zk (Ci B t i Qt)
     ⟨(Zr (Int.not_lt.1 q0)),trivial⟩).cast (by(rw[s2];done))
set_option maxHeartbeats 4000000 in
theorem Fe(t:Qn)  (XB:t.starts.length<=9223372036854775807/\t.grows.length<=9223372036854775807/\t.takes.length<=9223372036854775807){B:Lo}(hJ:∀w,B.has w->J0 w):EndsT YP B (Qq YP 25 49 (([.agg #[XF t.starts,XU t.grows,XU t.takes]]).map (Q5 0 4))) (.bool (sizedB t)):=by
 by_cases q0:(8:Int)<((↑t.starts.length:Int))
 ·exact(GoE.endsT okF hJ Qf GoE.start (Ch B t)
   ⟨(Zh q0),trivial⟩).cast (by(simp_all[sizedB];omega))
 ·have KY:Q3 (fJ B t):=by
   exact⟨(Zr (Int.not_lt.1 q0)),trivial⟩
  by_cases q1:(8:Int)<((↑t.grows.length:Int))
  ·exact(GoE.endsT okF hJ Qf GoE.start (Cg B t)
    ⟨(Zh q1),KY⟩).cast (by(simp_all[sizedB];omega))
  ·have hp3:Q3 (fI B t):=by
    exact⟨(Zr (Int.not_lt.1 q1)),KY⟩
   by_cases q2:(8:Int)<((↑t.takes.length:Int))
   ·exact(GoE.endsT okF hJ Qf GoE.start (Cf B t)
     ⟨(Zh q2),hp3⟩).cast (by(simp_all[sizedB];omega))
   ·exact((Co t XB hJ _).1 (0) rfl (by omega) (by omega)
     (GoE.start.landM okF hJ Qf (Ce B t)
     ⟨(Zr (Int.not_lt.1 q2)),hp3⟩ (by kernel_rfl) (by kernel_rfl))).cast (by(simp_all[sizedB];omega))
theorem nt(t:Qn)  :Q0 YP J0 25 #[.agg #[XF t.starts,XU t.grows,XU t.takes]] (.bool (sizedB t)):=
 Vk (ts:=[.agg #[XF t.starts,XU t.grows,XU t.takes]]) (t.starts.length<=9223372036854775807/\t.grows.length<=9223372036854775807/\t.takes.length<=9223372036854775807) (fun _ _ ht=>⟨ht.ln2 (i:=0) (j:=0) rfl rfl,ht.ln2 (i:=0) (j:=1) rfl rfl,ht.ln2 (i:=0) (j:=2) rfl rfl⟩) Zs (c0:=Qq YP 25 49 (([.agg #[XF t.starts,XU t.grows,XU t.takes]]).map (Q5 0 4))) (by kernel_rfl) (by kernel_rfl) fun XB B hJ=>Fe t  XB hJ
end
end Go.Proofs.Ytncjjangllkokaa

namespace Go.Proofs.Ytncjjangllkokaa
open Go Go.CE Go.RowKit
def rz:Sh:=Mr [.int,.int]
def zZ:Sh:=Mr [.int,.int,rz,.int,.int,rz,rz,.int,.int]
def jW:Sh:=Mr [.slice zZ,.int,.int]
def cB:Sh:=Mr [.slice .int,.slice (.slice .int),.slice (.slice .int)]
theorem nU{cs:List Value}(h:rz.ok cs):∃s:Span,cs=QU s:=by
 obtain⟨_,_,rfl,⟨a,_,rfl⟩,_,_,rfl,⟨b,_,rfl⟩,rfl⟩:=h;exact⟨⟨a,b⟩,rfl⟩
theorem C7{cs:List Value}(h:zZ.ok cs):∃s:Qd,cs=Qj s:=by
 obtain⟨_,_,rfl,⟨a,_,rfl⟩,_,_,rfl,⟨b,_,rfl⟩,_,_,rfl,h3,_,_,rfl,⟨d,_,rfl⟩,_,_,rfl,⟨e,_,rfl⟩,_,_,rfl,h6,_,_,rfl,h7,_,_,rfl,⟨g,_,rfl⟩,_,_,rfl,⟨w,_,rfl⟩,rfl⟩:=h;obtain⟨x,rfl⟩:=nU h3;obtain⟨y,rfl⟩:=nU h6;obtain⟨z,rfl⟩:=nU h7;exact⟨⟨a,b,x.lo,x.hi,d,e,y.lo,y.hi,z.lo,z.hi,g,w⟩,rfl⟩
theorem Gf{v:Value}(h:jW.arg v):∃r:Qe,v=.agg (Q1 r).toArray:=by
 obtain⟨cs,rfl,h⟩:=h;obtain⟨_,_,rfl,h1,_,_,rfl,⟨m,_,rfl⟩,_,_,rfl,⟨n,_,rfl⟩,rfl⟩:=h;obtain⟨xs,rfl⟩:=cA (fun _=>C7) h1;exact⟨⟨xs,m,n⟩,rfl⟩
theorem eo{cs:List Value}(h:Sh.ok (.slice .int) cs):∃xs:List Int,cs=Xq xs:=cA (fun _=>I7) h
theorem Gg{v:Value}(h:Sh.arg (.slice .int) v):∃xs:List Int,v=XF xs:=by
 obtain⟨xs,hx⟩:=eo (show Sh.ok (.slice .int) [v]from h);exact⟨xs,by simpa using hx⟩
theorem CL{v:Value}(h:cB.arg v):∃t:Qn,v=.agg #[XF t.starts,XU t.grows,XU t.takes]:=by
 obtain⟨cs,rfl,h⟩:=h;obtain⟨_,_,rfl,h1,_,_,rfl,h2,_,_,rfl,h3,rfl⟩:=h;obtain⟨xs,rfl⟩:=eo h1;obtain⟨ys,rfl⟩:=cA (fun _=>eo) h2;obtain⟨zs,rfl⟩:=cA (fun _=>eo) h3;exact⟨⟨xs,ys,zs⟩,rfl⟩
end Go.Proofs.Ytncjjangllkokaa

