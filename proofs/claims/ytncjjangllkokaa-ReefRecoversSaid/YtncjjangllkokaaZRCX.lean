/- ReefRecovers: whatever the input, it returns true, and each argument reads as it did. The row, from the walk. -/
import Derived.Test.YtncjjangllkokaaZRC18
import Derived.Test.YtncjjangllkokaaZRC16
import Derived.JoinedOf
import Derived.Test.YtncjjangllkokaaRows
set_option linter.all false
open Int renaming toNat->MM
open List renaming length->MO,getD->Na,length_set->Ny,length_replicate->Nv,range->MP
open Array renaming extract->Nu
open Nat renaming strongRecOn->No
open Inhabited renaming default->ML
namespace Go.Proofs.Ytncjjangllkokaa
open Go Go.CE Go.RowKit
noncomputable section
def Kf(rf:Qe)(l:List (List Int))(s:Int):List Value:=[Qv 1 (QJ l.length (Qg Xq l)),pA 2 0,.int .i64 s]
def Wx(rf:Qe)(l:List (List Int))(s:Int):List Obj:=[Obj.cells #[Qv 1 (QJ rf.Qa.length (Qg Qj rf.Qa)),.int .i64 rf.Qk,.int .i64 rf.Qc] 24]
def Kh:List Item:=([.code [1,0,1,0,0],.inLoop [1,0,1,0,0],.inBlock 0,.code [1,1]]).map (it (Xf YP 31))
def xY(B:Lo)(c0:CF)(rf:Qe)(l:List (List Int))(s:Int):Prop:=∃dJ:Nat->Value,(∀t,XP (dJ t))/\GoE YP B c0 Zn 1 (QO 31 54 (([1,2,5]:List Nat).zip (Kf rf l s)) dJ Kh) (QN (Wx rf l s)) (2+(Wx rf l s).length) []
def Ke(rf:Qe)(l:List (List Int))(s i:Int):List Value:=[Qv 1 (QJ l.length (Qg Xq l)),pA 2 0,.int .i64 s,.int .i64 i]
def Ww(rf:Qe)(l:List (List Int))(s i:Int):List Obj:=[Obj.cells #[Qv 1 (QJ rf.Qa.length (Qg Qj rf.Qa)),.int .i64 rf.Qk,.int .i64 rf.Qc] 24]
def Kg:List Item:=([.code [1,0,1,0,0,1,0,0,1,1,0,0],.inLoop [1,0,1,0,0,1,0,0,1,1,0,0],.inBlock 2,.inBlock 1,.code [1,0,1,0,0,1,1],.inLoop [1,0,1,0,0],.inBlock 0,.code [1,1]]).map (it (Xf YP 31))
def xX(B:Lo)(c0:CF)(rf:Qe)(l:List (List Int))(s i:Int):Prop:=∃dJ:Nat->Value,(∀t,XP (dJ t))/\GoE YP B c0 Zn 1 (QO 31 54 (([1,2,5,6]:List Nat).zip (Ke rf l s i)) dJ Kg) (QN (Ww rf l s i)) (2+(Ww rf l s i).length) []
def b5(B:Lo)(rf:Qe)(l:List (List Int))(s:Int)(Qt:Nat->Value):List Prop:=[s=(↑s.toNat:Int)/\MM s<MO l/\Nu (Qg Xq l) (MM s*TypeInfo.size Try.t25) (MM s*TypeInfo.size Try.t25+TypeInfo.size Try.t25)=#[QJ (MO (l.getD s.toNat ML)) (Qg Q9 (l.getD s.toNat ML))],Zq s (↑l.length:Int)=true]++([]:List Prop)
def jE(rf:Qe)(l:List (List Int))(s:Int)(Qt:Nat->Value):QB:=[(3,WR),(6,Ql.tidx s.toNat #[QJ (MO (l.getD s.toNat ML)) (Qg Q9 (l.getD s.toNat ML))])]
set_option maxRecDepth 100000 in
theorem xV(B:Lo)(rf:Qe)(l:List (List Int))(s:Int)(Qt:Nat->Value):Xd (Qu YP (Q8 YP) J0 B 15 1 (QO 31 54 (([1,2,5]:List Nat).zip (Kf rf l s)) Qt Kh) (QN (Wx rf l s)) (2+(Wx rf l s).length)
 (jE rf l s Qt++[(12,WR)]) 0 [] []) []=some (.bool false,
 [(!YI (↑(MO (l.getD s.toNat ML)):Int) (↑rf.Qa.length:Int))=true]++b5 B rf l s Qt):=by kernel_rfl
set_option maxRecDepth 100000 in
theorem xU(B:Lo)(rf:Qe)(l:List (List Int))(s:Int)(Qt:Nat->Value):landM (Qu YP (Q8 YP) J0 B 16 1 (QO 31 54 (([1,2,5]:List Nat).zip (Kf rf l s)) Qt Kh) (QN (Wx rf l s)) (2+(Wx rf l s).length)
 (jE rf l s Qt++[(12,Vs)]) 0 [] []) [1,2,5,6] [(2,KS.auto)] []=some ⟨31,54,Kg,[],.run,none,Ke rf l (s) (0),Ww rf l (s) (0),
 [(!YI (↑(MO (l.getD s.toNat ML)):Int) (↑rf.Qa.length:Int))=false]++b5 B rf l s Qt⟩:=by kernel_rfl
def b4(B:Lo)(rf:Qe)(l:List (List Int))(s:Int)(Qt:Nat->Value):List Prop:=[Zq s (↑l.length:Int)=false]++([]:List Prop)
def jD(rf:Qe)(l:List (List Int))(s:Int)(Qt:Nat->Value):QB:=[(3,Vs)]
set_option maxRecDepth 100000 in
theorem xT(B:Lo)(rf:Qe)(l:List (List Int))(s:Int)(Qt:Nat->Value):Xd (Qu YP (Q8 YP) J0 B 9 1 (QO 31 54 (([1,2,5]:List Nat).zip (Kf rf l s)) Qt Kh) (QN (Wx rf l s)) (2+(Wx rf l s).length)
 (jD rf l s Qt++[(8,WR)]) 0 [] []) []=some (.bool true,
 [YI (↑l.length:Int) rf.Qc=true]++b4 B rf l s Qt):=by kernel_rfl
set_option maxRecDepth 100000 in
theorem xS(B:Lo)(rf:Qe)(l:List (List Int))(s:Int)(Qt:Nat->Value):Xd (Qu YP (Q8 YP) J0 B 9 1 (QO 31 54 (([1,2,5]:List Nat).zip (Kf rf l s)) Qt Kh) (QN (Wx rf l s)) (2+(Wx rf l s).length)
 (jD rf l s Qt++[(8,Vs)]) 0 [] []) []=some (.bool false,
 [YI (↑l.length:Int) rf.Qc=false]++b4 B rf l s Qt):=by kernel_rfl
def bz(B:Lo)(rf:Qe)(l:List (List Int))(s i:Int)(Qt:Nat->Value):List Prop:=[s=(↑s.toNat:Int)/\MM s<MO l/\Nu (Qg Xq l) (MM s*TypeInfo.size Try.t25) (MM s*TypeInfo.size Try.t25+TypeInfo.size Try.t25)=#[QJ (MO (l.getD s.toNat ML)) (Qg Q9 (l.getD s.toNat ML))]]++([]:List Prop)
def jC(rf:Qe)(l:List (List Int))(s i:Int)(Qt:Nat->Value):QB:=[(3,Ql.tidx s.toNat #[QJ (MO (l.getD s.toNat ML)) (Qg Q9 (l.getD s.toNat ML))])]
def bw(B:Lo)(rf:Qe)(l:List (List Int))(s i:Int)(Qt:Nat->Value):List Prop:=[i=(↑i.toNat:Int)/\MM i<MO (l.getD s.toNat ML)/\Nu (Qg Q9 (l.getD s.toNat ML)) (MM i*TypeInfo.size Try.t3) (MM i*TypeInfo.size Try.t3+TypeInfo.size Try.t3)=#[.int .i64 (Na (l.getD s.toNat ML) i.toNat ML)],s=(↑s.toNat:Int)/\MM s<MO l/\Nu (Qg Xq l) (MM s*TypeInfo.size Try.t25) (MM s*TypeInfo.size Try.t25+TypeInfo.size Try.t25)=#[QJ (MO (l.getD s.toNat ML)) (Qg Q9 (l.getD s.toNat ML))],Zq i (↑(MO (l.getD s.toNat ML)):Int)=true]++bz B rf l s i Qt
def jB(rf:Qe)(l:List (List Int))(s i:Int)(Qt:Nat->Value):QB:=jC rf l s i Qt++[(6,WR),(9,Ql.tidx s.toNat #[QJ (MO (l.getD s.toNat ML)) (Qg Q9 (l.getD s.toNat ML))]),(12,Ql.tidx i.toNat #[.int .i64 (Na (l.getD s.toNat ML) i.toNat ML)])]
set_option maxRecDepth 100000 in
theorem xR(B:Lo)(rf:Qe)(l:List (List Int))(s i:Int)(Qt:Nat->Value):Xd (Qu YP (Q8 YP) J0 B 14 1 (QO 31 54 (([1,2,5,6]:List Nat).zip (Ke rf l s i)) Qt Kg) (QN (Ww rf l s i)) (2+(Ww rf l s i).length)
 (jB rf l s i Qt++[(14,WR)]) 0 [] []) []=some (.bool false,
 [Zq (Na (l.getD s.toNat ML) i.toNat ML) 0=true]++bw B rf l s i Qt):=by kernel_rfl
def bu(B:Lo)(rf:Qe)(l:List (List Int))(s i:Int)(Qt:Nat->Value):List Prop:=[i=(↑i.toNat:Int)/\MM i<MO (l.getD s.toNat ML)/\Nu (Qg Q9 (l.getD s.toNat ML)) (MM i*TypeInfo.size Try.t3) (MM i*TypeInfo.size Try.t3+TypeInfo.size Try.t3)=#[.int .i64 (Na (l.getD s.toNat ML) i.toNat ML)],s=(↑s.toNat:Int)/\MM s<MO l/\Nu (Qg Xq l) (MM s*TypeInfo.size Try.t25) (MM s*TypeInfo.size Try.t25+TypeInfo.size Try.t25)=#[QJ (MO (l.getD s.toNat ML)) (Qg Q9 (l.getD s.toNat ML))],Zq (Na (l.getD s.toNat ML) i.toNat ML) 0=false]++bw B rf l s i Qt
def jA(rf:Qe)(l:List (List Int))(s i:Int)(Qt:Nat->Value):QB:=jB rf l s i Qt++[(14,Vs),(18,Ql.tidx s.toNat #[QJ (MO (l.getD s.toNat ML)) (Qg Q9 (l.getD s.toNat ML))]),(21,Ql.tidx i.toNat #[.int .i64 (Na (l.getD s.toNat ML) i.toNat ML)])]
set_option maxRecDepth 100000 in
theorem xQ(B:Lo)(rf:Qe)(l:List (List Int))(s i:Int)(Qt:Nat->Value):Xd (Qu YP (Q8 YP) J0 B 14 1 (QO 31 54 (([1,2,5,6]:List Nat).zip (Ke rf l s i)) Qt Kg) (QN (Ww rf l s i)) (2+(Ww rf l s i).length)
 (jA rf l s i Qt++[(23,WR)]) 0 [] []) []=some (.bool false,
 [Zq 1000000000 (Na (l.getD s.toNat ML) i.toNat ML)=true]++bu B rf l s i Qt):=by kernel_rfl
set_option maxRecDepth 100000 in
theorem xP(B:Lo)(rf:Qe)(l:List (List Int))(s i:Int)(Qt:Nat->Value):landM (Qu YP (Q8 YP) J0 B 14 1 (QO 31 54 (([1,2,5,6]:List Nat).zip (Ke rf l s i)) Qt Kg) (QN (Ww rf l s i)) (2+(Ww rf l s i).length)
 (jA rf l s i Qt++[(23,Vs),(26,U2 (i+1))]) 0 [] []) [1,2,5,6] [(2,KS.auto)] []=some ⟨31,54,Kg,[],.run,none,Ke rf l (s) (i+1),Ww rf l (s) (i+1),
 [wq (i+1)=i+1,Zq 1000000000 (Na (l.getD s.toNat ML) i.toNat ML)=false]++bu B rf l s i Qt⟩:=by kernel_rfl
set_option maxRecDepth 100000 in
theorem xO(B:Lo)(rf:Qe)(l:List (List Int))(s i:Int)(Qt:Nat->Value):landM (Qu YP (Q8 YP) J0 B 8 1 (QO 31 54 (([1,2,5,6]:List Nat).zip (Ke rf l s i)) Qt Kg) (QN (Ww rf l s i)) (2+(Ww rf l s i).length)
 (jC rf l s i Qt++[(6,Vs),(8,U2 (s+1))]) 0 [] []) [1,2,5] [(2,KS.auto)] []=some ⟨31,54,Kh,[],.run,none,Kf rf l (s+1),Wx rf l (s+1),
 [wq (s+1)=s+1,Zq i (↑(MO (l.getD s.toNat ML)):Int)=false]++bz B rf l s i Qt⟩:=by kernel_rfl
set_option maxRecDepth 100000 in
theorem xN(B:Lo)(rf:Qe)(l:List (List Int)):landM (Qu YP (Q8 YP) J0 B 7 1 (Qq YP 31 54 (([.agg (Q1 rf).toArray,XU l]).map (Q5 0 4))) Zn 1
 [] 0 [] []) [1,2,5] [(1,KS.auto)] []=some ⟨31,54,Kh,[],.run,none,Kf rf l (0),Wx rf l (0),
 []⟩:=by kernel_rfl
set_option maxHeartbeats 4000000 in
theorem xW(rf:Qe)(l:List (List Int))(hl:Zc rf.Qa.length rf.Qc l)(hn:rf.Qa.length<=8)(XB:l.length<=9223372036854775807/\rf.Qa.length<=9223372036854775807){B:Lo}(hJ:∀w,B.has w->J0 w){c0:CF}:∀m:Nat,(∀(s:Int),100*(l.length-s.toNat)=m->∀(h0:0<=s),xY B c0 rf l s->EndsT YP B c0 (.bool true))/\(∀(s i:Int),100*(l.length-s.toNat)-99+((l.getD s.toNat ML).length-i.toNat)=m->∀(h0:0<=s) (h1:s<rf.Qc) (h2:0<=i),xX B c0 rf l s i->EndsT YP B c0 (.bool true)):=by
 intro m0;induction m0 using No with
 |_ m0 ih0=>
  refine⟨?_, ?_⟩
  ·intro s hm0 h0 ⟨Qt,Kn,Zk⟩;have hl1:=hl.1;have hl1:=hl.1;by_cases q0:(s:Int)<((↑l.length:Int))
   ·have Vb:Q3 (b5 B rf l s Qt):=by
     try have hls:=hl.2 s (by omega) (by omega)
     try have hl2:=hls.1
     exact⟨⟨by omega,by omega,(QA (z:=1) (fun _=>rfl) (by first|omega|(rw[Ny];omega)|(rw[Nv];omega)))⟩,⟨(Zh q0),trivial⟩⟩
    by_cases q1:((↑(MO (l.getD s.toNat ML)):Int):Int)≠((↑rf.Qa.length:Int))
    ·try have hls:=hl.2 s (by omega) (by omega)
     try have hl2:=hls.1
     exact(GoE.endsT okF hJ Qf Zk (xV B rf l s Qt)
      ⟨(JO q1),Vb⟩).cast (by first|rfl|(rw[decide_eq_true (by omega)];done)|(simp[*];done)|omega)
    ·try have hls:=hl.2 s (by omega) (by omega)
     try have hl2:=hls.1
     exact((ih0 _ (by omega)).2 (s) (0) rfl (by first|with_reducible assumption|omega|rfl) (by first|with_reducible assumption|omega|rfl) (by first|with_reducible assumption|omega|rfl)
      (Zk.landM okF hJ Qf (xU B rf l s Qt)
      ⟨(JP (Decidable.of_not_not q1)),Vb⟩ (by kernel_rfl) (by kernel_rfl))).cast (by first|rfl|(rw[decide_eq_true (by omega)];done)|(simp[*];done)|omega)
   ·have PV:Q3 (b4 B rf l s Qt):=by
     exact⟨(Zr (Int.not_lt.1 q0)),trivial⟩
    by_cases q1:((↑l.length:Int):Int)=rf.Qc
    ·exact(GoE.endsT okF hJ Qf Zk (xT B rf l s Qt)
      ⟨(bn q1),PV⟩).cast rfl
    ·try have hls:=hl.2 s (by omega) (by omega)
     try have hl2:=hls.1
     exact(GoE.endsT okF hJ Qf Zk (xS B rf l s Qt)
      ⟨(bo q1),PV⟩).cast (by first|rfl|(rw[decide_eq_true (by omega)];done)|(simp[*];done)|omega)
  ·intro s i hm0 h0 h1 h2 ⟨Qt,Kn,Zk⟩;have hl1:=hl.1;have hl1:=hl.1;have hls:=hl.2 s h0 h1;have hl2:=hls.1;have KY:Q3 (bz B rf l s i Qt):=by
    try have P2:=hls.2 i h2 (by omega)
    exact⟨⟨by omega,by omega,(QA (z:=1) (fun _=>rfl) (by first|omega|(rw[Ny];omega)|(rw[Nv];omega)))⟩,trivial⟩
   by_cases q0:(i:Int)<((↑(MO (l.getD s.toNat ML)):Int))
   ·have hp3:Q3 (bw B rf l s i Qt):=by
     try have P2:=hls.2 i h2 (by omega)
     exact⟨⟨by omega,by omega,(QA (z:=1) (fun _=>rfl) (by first|omega|(rw[Ny];omega)|(rw[Nv];omega)))⟩,⟨⟨by omega,by omega,(QA (z:=1) (fun _=>rfl) (by first|omega|(rw[Ny];omega)|(rw[Nv];omega)))⟩,⟨(Zh q0),KY⟩⟩⟩
    by_cases q1:(Na (l.getD s.toNat ML) i.toNat ML:Int)<(0)
    ·try have P2:=hls.2 i h2 (by omega)
     exact(GoE.endsT okF hJ Qf Zk (xR B rf l s i Qt)
      ⟨(Zh q1),hp3⟩).cast (by first|rfl|(rw[decide_eq_true (by omega)];done)|(simp[*];done)|omega)
    ·have hp4:Q3 (bu B rf l s i Qt):=by
      try have P2:=hls.2 i h2 (by omega)
      exact⟨⟨by omega,by omega,(QA (z:=1) (fun _=>rfl) (by first|omega|(rw[Ny];omega)|(rw[Nv];omega)))⟩,⟨⟨by omega,by omega,(QA (z:=1) (fun _=>rfl) (by first|omega|(rw[Ny];omega)|(rw[Nv];omega)))⟩,⟨(Zr (Int.not_lt.1 q1)),hp3⟩⟩⟩
     by_cases q2:(1000000000:Int)<(Na (l.getD s.toNat ML) i.toNat ML)
     ·try have P2:=hls.2 i h2 (by omega)
      exact(GoE.endsT okF hJ Qf Zk (xQ B rf l s i Qt)
       ⟨(Zh q2),hp4⟩).cast (by first|rfl|(rw[decide_eq_true (by omega)];done)|(simp[*];done)|omega)
     ·try have P2:=hls.2 i h2 (by omega)
      exact((ih0 _ (by omega)).2 (s) (i+1) rfl (by first|with_reducible assumption|omega|rfl) (by first|with_reducible assumption|omega|rfl) (by first|with_reducible assumption|omega|rfl)
       (Zk.landM okF hJ Qf (xP B rf l s i Qt)
       ⟨(XH (by omega) (by omega)),⟨(Zr (Int.not_lt.1 q2)),hp4⟩⟩ (by kernel_rfl) (by kernel_rfl))).cast (by first|rfl|(rw[decide_eq_true (by omega)];done)|(simp[*];done)|omega)
   ·try have P2:=hls.2 i h2 (by omega)
    exact((ih0 _ (by omega)).1 (s+1) rfl (by first|with_reducible assumption|omega|rfl)
     (Zk.landM okF hJ Qf (xO B rf l s i Qt)
     ⟨(XH (by omega) (by omega)),⟨(Zr (Int.not_lt.1 q0)),KY⟩⟩ (by kernel_rfl) (by kernel_rfl))).cast (by first|rfl|(rw[decide_eq_true (by omega)];done)|(simp[*];done)|omega)
set_option maxHeartbeats 4000000 in
theorem A6(rf:Qe)(l:List (List Int))(hl:Zc rf.Qa.length rf.Qc l)(hn:rf.Qa.length<=8)(XB:l.length<=9223372036854775807/\rf.Qa.length<=9223372036854775807){B:Lo}(hJ:∀w,B.has w->J0 w):EndsT YP B (Qq YP 31 54 (([.agg (Q1 rf).toArray,XU l]).map (Q5 0 4))) (.bool true):=by
 have hl1:=hl.1;exact((xW rf l hl hn XB hJ _).1 (0) rfl (by first|with_reducible assumption|omega|rfl)
  (GoE.start.landM okF hJ Qf (xN B rf l)
  trivial (by kernel_rfl) (by kernel_rfl))).cast (by first|rfl|(simp[*];done)|omega)
theorem jc(rf:Qe)(l:List (List Int))(hl:Zc rf.Qa.length rf.Qc l)(hn:rf.Qa.length<=8):Q0 YP J0 31 #[.agg (Q1 rf).toArray,XU l] (.bool true):=
 Vk (ts:=[.agg (Q1 rf).toArray,XU l]) (l.length<=9223372036854775807/\rf.Qa.length<=9223372036854775807) (fun _ _ ht=>⟨ht.ln (i:=1) rfl,ht.ln2 (i:=0) (j:=0) rfl rfl⟩) Zs (c0:=Qq YP 31 54 (([.agg (Q1 rf).toArray,XU l]).map (Q5 0 4))) (by kernel_rfl) (by kernel_rfl) fun XB B hJ=>A6 rf l hl hn XB hJ
end
end Go.Proofs.Ytncjjangllkokaa

namespace Go.Proofs.Ytncjjangllkokaa
open Go Go.CE Go.RowKit
noncomputable section
set_option maxRecDepth 100000
theorem rS(rf:Qe)(Qb:List Int)(st:List Int)(gs ts:List (List Int)):Q0 YP J0 26 #[.agg (Q1 rf).toArray,XF Qb,.agg #[XF st,XU gs,XU ts]] (.tuple #[if Qy rf && (QQ rf Qb && QZ rf Qb ⟨st,gs,ts⟩)then XU (QI rf.Qc rf.Qa gs ts (Qh st))else XU [],.agg #[.int .i64 (if Qy rf && (QQ rf Qb && QZ rf Qb ⟨st,gs,ts⟩)then(Qh st).sum else 0),.int .i64 (if Qy rf && (QQ rf Qb && QZ rf Qb ⟨st,gs,ts⟩)then Xp 0 rf.Qc (UH rf.Qa gs ts (Qh st))else 0),.int .i64 (if Qy rf && (QQ rf Qb && QZ rf Qb ⟨st,gs,ts⟩)then Xp 0 rf.Qc (WQ rf.Qa gs ts (Qh st))else 0),.int .i64 (if Qy rf && (QQ rf Qb && QZ rf Qb ⟨st,gs,ts⟩)then Xp 0 rf.Qc (UG rf.Qa gs ts (Qh st))else 0),.int .i64 (if Qy rf && (QQ rf Qb && QZ rf Qb ⟨st,gs,ts⟩)then(PC rf.Qa gs ts (Qh st) rf.Qc.toNat).sum else 0)],.int .i64 (if Qy rf && (QQ rf Qb && QZ rf Qb ⟨st,gs,ts⟩)then 0 else 2)]):=EF rf Qb ⟨st,gs,ts⟩
theorem U8{rf:Qe}{gs ts:List (List Int)}{f:F4}{i:Int}(h4:rf.Qa.length<=4)(h1:1<=rf.Qc)(i0:0<=i)(i1:i<rf.Qa.length):((QI rf.Qc rf.Qa gs ts f).getD (rf.Qc-1).toNat ML).getD i.toNat ML=(PC rf.Qa gs ts f rf.Qc.toNat).at i:=by
 rw[E0 h4 (by omega) (by omega) i0 i1,show(rf.Qc-1).toNat+1=rf.Qc.toNat by omega]
def YY(x_:Qd):Array Value:=#[.int .i64 x_.count,.int .i64 x_.room,.int .i64 x_.WO,.int .i64 x_.Sa,.int .i64 x_.QM,.int .i64 x_.XM,.int .i64 x_.K3,.int .i64 x_.ZT,.int .i64 x_.UI,.int .i64 x_.ZD,.int .i64 x_.goal,.int .i64 x_.Vh]
def YX(rf:Qe)(t:Qn):Value:=(.tuple #[QJ (MO (QI rf.Qc rf.Qa t.grows t.takes (Qh t.starts))) (Qg Xq (QI rf.Qc rf.Qa t.grows t.takes (Qh t.starts))),.agg #[.int .i64 (F4.sum (Qh t.starts)),.int .i64 (Xp 0 rf.Qc (UH rf.Qa t.grows t.takes (Qh t.starts))),.int .i64 (Xp 0 rf.Qc (WQ rf.Qa t.grows t.takes (Qh t.starts))),.int .i64 (Xp 0 rf.Qc (UG rf.Qa t.grows t.takes (Qh t.starts))),.int .i64 (F4.sum (PC rf.Qa t.grows t.takes (Qh t.starts) (MM rf.Qc)))],.int .i64 0])
def YW(rf:Qe)(Qb:List Int):Value:=(.tuple #[QJ (MO (QI rf.Qc rf.Qa (Xs rf) (Xr rf Qb) (Qh (Zo rf)))) (Qg Xq (QI rf.Qc rf.Qa (Xs rf) (Xr rf Qb) (Qh (Zo rf)))),.agg #[.int .i64 (F4.sum (Qh (Zo rf))),.int .i64 (Xp 0 rf.Qc (UH rf.Qa (Xs rf) (Xr rf Qb) (Qh (Zo rf)))),.int .i64 (Xp 0 rf.Qc (WQ rf.Qa (Xs rf) (Xr rf Qb) (Qh (Zo rf)))),.int .i64 (Xp 0 rf.Qc (UG rf.Qa (Xs rf) (Xr rf Qb) (Qh (Zo rf)))),.int .i64 (F4.sum (PC rf.Qa (Xs rf) (Xr rf Qb) (Qh (Zo rf)) (MM rf.Qc)))],.int .i64 0])
def YV(rf:Qe)(Qb:List Int)(t:Qn):Array Value:=#[.agg #[QJ rf.Qa.length (Qg Qj rf.Qa),.int .i64 rf.Qk,.int .i64 rf.Qc],QJ Qb.length (Qg Q9 Qb),.agg #[QJ t.starts.length (Qg Q9 t.starts),QJ t.grows.length (Qg Xq t.grows),QJ t.takes.length (Qg Xq t.takes)]]
def YU(rf:Qe)(Qb:List Int):Array Value:=#[.agg #[QJ rf.Qa.length (Qg Qj rf.Qa),.int .i64 rf.Qk,.int .i64 rf.Qc],QJ Qb.length (Qg Q9 Qb),.agg #[QJ (MO (Zo rf)) (Qg Q9 (Zo rf)),QJ (MO (Xs rf)) (Qg Xq (Xs rf)),QJ (MO (Xr rf Qb)) (Qg Xq (Xr rf Qb))]]
def K6(t:Qn):Array Value:=#[.agg #[QJ t.starts.length (Qg Q9 t.starts),QJ t.grows.length (Qg Xq t.grows),QJ t.takes.length (Qg Xq t.takes)]]
def U5(rf:Qe)(Qb:List Int):Array Value:=#[.agg #[QJ rf.Qa.length (Qg Qj rf.Qa),.int .i64 rf.Qk,.int .i64 rf.Qc],QJ Qb.length (Qg Q9 Qb)]
def YT  :Value:=(.tuple #[QJ 0 #[],.agg #[.int .i64 0,.int .i64 0,.int .i64 0,.int .i64 0,.int .i64 0],.int .i64 2])
def YS(rf:Qe)(Qb:List Int):Value:=(.agg #[QJ (MO (Zo rf)) (Qg Q9 (Zo rf)),QJ (MO (Xs rf)) (Qg Xq (Xs rf)),QJ (MO (Xr rf Qb)) (Qg Xq (Xr rf Qb))])
def Vy(rf:Qe):Array Value:=#[.agg #[QJ rf.Qa.length (Qg Qj rf.Qa),.int .i64 rf.Qk,.int .i64 rf.Qc]]
def U4(rf:Qe):Array Value:=#[QJ rf.Qa.length (Qg Qj rf.Qa),.int .i64 rf.Qk,.int .i64 rf.Qc]
def Vz(rf:Qe)(Qb:List Int)(t:Qn)(many i:Int):List Value:=[pA 2 0,Qv 1 (QJ (MO (QI rf.Qc rf.Qa t.grows t.takes (Qh t.starts))) (Qg Xq (QI rf.Qc rf.Qa t.grows t.takes (Qh t.starts)))),.int .i64 many,.int .i64 i]
def ZH(rf:Qe)(Qb:List Int)(t:Qn)(many i:Int):List Obj:=[Obj.cells #[Qv 1 (QJ rf.Qa.length (Qg Qj rf.Qa)),.int .i64 rf.Qk,.int .i64 rf.Qc] 24]
def V0:List Item:=([.code [1,1,1,1,1,1,1,1,0,1,0,0],.inLoop [1,1,1,1,1,1,1,1,0,1,0,0],.inBlock 0,.code [1,1,1,1,1,1,1,1,1]]).map (it (Xf YP 9))
def rk(B:Lo)(c0:CF)(rf:Qe)(Qb:List Int)(t:Qn)(many i:Int):Prop:=∃dJ:Nat->Value,(∀t,XP (dJ t))/\GoE YP B c0 Zn 1 (QO 9 138 (([3,10,16,17]:List Nat).zip (Vz rf Qb t many i)) dJ V0) (QN (ZH rf Qb t many i)) (2+(ZH rf Qb t many i).length) []
def Sx(B:Lo)(rf:Qe)(Qb:List Int)(t:Qn)(many i:Int)(Qt:Nat->Value):List Prop:=[i=(↑i.toNat:Int)/\MM i<MO rf.Qa/\Nu (Qg Qj rf.Qa) (MM i*TypeInfo.size Try.t54) (MM i*TypeInfo.size Try.t54+TypeInfo.size Try.t54)=(YY (rf.Qa.getD i.toNat ML)),i=(↑i.toNat:Int)/\MM i<MO (Na (QI rf.Qc rf.Qa t.grows t.takes (Qh t.starts)) (MM (rf.Qc-1)) ML)/\Nu (Qg Q9 (Na (QI rf.Qc rf.Qa t.grows t.takes (Qh t.starts)) (MM (rf.Qc-1)) ML)) (MM i*TypeInfo.size Try.t3) (MM i*TypeInfo.size Try.t3+TypeInfo.size Try.t3)=#[.int .i64 (Na (Na (QI rf.Qc rf.Qa t.grows t.takes (Qh t.starts)) (MM (rf.Qc-1)) ML) i.toNat ML)],rf.Qc-1=(↑(MM (rf.Qc-1)):Int)/\MM (rf.Qc-1)<MO (QI rf.Qc rf.Qa t.grows t.takes (Qh t.starts))/\Nu (Qg Xq (QI rf.Qc rf.Qa t.grows t.takes (Qh t.starts))) (MM (rf.Qc-1)*TypeInfo.size Try.t25) (MM (rf.Qc-1)*TypeInfo.size Try.t25+TypeInfo.size Try.t25)=#[QJ (MO (Na (QI rf.Qc rf.Qa t.grows t.takes (Qh t.starts)) (MM (rf.Qc-1)) ML)) (Qg Q9 (Na (QI rf.Qc rf.Qa t.grows t.takes (Qh t.starts)) (MM (rf.Qc-1)) ML))],wq (rf.Qc-1)=rf.Qc-1,Zq i many=true]++([]:List Prop)
def ct(rf:Qe)(Qb:List Int)(t:Qn)(many i:Int)(Qt:Nat->Value):QB:=[(2,WR),(6,U2 (rf.Qc-1)),(7,Ql.tidx (MM (rf.Qc-1)) #[QJ (MO (Na (QI rf.Qc rf.Qa t.grows t.takes (Qh t.starts)) (MM (rf.Qc-1)) ML)) (Qg Q9 (Na (QI rf.Qc rf.Qa t.grows t.takes (Qh t.starts)) (MM (rf.Qc-1)) ML))]),(10,Ql.tidx i.toNat #[.int .i64 (Na (Na (QI rf.Qc rf.Qa t.grows t.takes (Qh t.starts)) (MM (rf.Qc-1)) ML) i.toNat ML)]),(15,Ql.tidx i.toNat (YY (rf.Qa.getD i.toNat ML)))]
theorem rj(B:Lo)(rf:Qe)(Qb:List Int)(t:Qn)(many i:Int)(Qt:Nat->Value):Xd (Qu YP (Q8 YP) J0 B 14 1 (QO 9 138 (([3,10,16,17]:List Nat).zip (Vz rf Qb t many i)) Qt V0) (QN (ZH rf Qb t many i)) (2+(ZH rf Qb t many i).length)
 (ct rf Qb t many i Qt++[(18,WR)]) 0 [] []) []=some (.bool false,
 [Zq (Na (Na (QI rf.Qc rf.Qa t.grows t.takes (Qh t.starts)) (MM (rf.Qc-1)) ML) i.toNat ML) (Qd.goal (rf.Qa.getD i.toNat ML))=true]++Sx B rf Qb t many i Qt):=by kernel_rfl
theorem ri(B:Lo)(rf:Qe)(Qb:List Int)(t:Qn)(many i:Int)(Qt:Nat->Value):landM (Qu YP (Q8 YP) J0 B 14 1 (QO 9 138 (([3,10,16,17]:List Nat).zip (Vz rf Qb t many i)) Qt V0) (QN (ZH rf Qb t many i)) (2+(ZH rf Qb t many i).length)
 (ct rf Qb t many i Qt++[(18,Vs),(20,U2 (i+1))]) 0 [] []) [3,10,16,17] [(2,KS.auto)] []=some ⟨9,138,V0,[],.run,none,Vz rf Qb t (many) (i+1),ZH rf Qb t (many) (i+1),
 [wq (i+1)=i+1,Zq (Na (Na (QI rf.Qc rf.Qa t.grows t.takes (Qh t.starts)) (MM (rf.Qc-1)) ML) i.toNat ML) (Qd.goal (rf.Qa.getD i.toNat ML))=false]++Sx B rf Qb t many i Qt⟩:=by kernel_rfl
theorem rh(B:Lo)(rf:Qe)(Qb:List Int)(t:Qn)(many i:Int)(Qt:Nat->Value):Xd (Qu YP (Q8 YP) J0 B 9 1 (QO 9 138 (([3,10,16,17]:List Nat).zip (Vz rf Qb t many i)) Qt V0) (QN (ZH rf Qb t many i)) (2+(ZH rf Qb t many i).length)
 [(2,Vs),(3,Ql.pure (.bool true) [])] 0 [] []) []=some (.bool true,
 [Q3 []/\Q0 YP J0 16 #[] (.bool true),Zq i many=false]):=by kernel_rfl
def QP(rf:Qe)(Qb:List Int)(t:Qn):Qm:=[(2,Obj.cells #[Qv 0 (QJ t.starts.length (Qg Q9 t.starts)),Qv 0 (QJ t.grows.length (Qg Xq t.grows)),Qv 0 (QJ t.takes.length (Qg Xq t.takes))] 42),(1,Obj.cells #[Qv 0 (QJ rf.Qa.length (Qg Qj rf.Qa)),.int .i64 rf.Qk,.int .i64 rf.Qc] 24),(0,Obj.coro none)]
def Xj(rf:Qe)(Qb:List Int)(t:Qn):CF:=⟨30,ofList 29 [.agg #[Qv 0 (QJ rf.Qa.length (Qg Qj rf.Qa)),.int .i64 rf.Qk,.int .i64 rf.Qc],Qv 0 (QJ Qb.length (Qg Q9 Qb)),.agg #[Qv 0 (QJ t.starts.length (Qg Q9 t.starts)),Qv 0 (QJ t.grows.length (Qg Xq t.grows)),Qv 0 (QJ t.takes.length (Qg Xq t.takes))]],[Item.code (Xf YP 30)],[],.run,none⟩
theorem re(B:Lo)(rf:Qe)(Qb:List Int)(t:Qn):CE.finK 3 (Qu YP (Q8 YP) J0 B 6 3 (Xj rf Qb t) (QP rf Qb t) 3
 [(4,Ql.pure (.bool true) []),(8,WR),(12,Ql.pure (.bool true) []),(17,Ql.pure (.bool true) []),(23,Ql.pure (.bool true) [])] 0 [] []) [] [] []=some (OO.ret (.bool true),[],[],
 [Q3 []/\Q0 YP J0 27 (YV rf Qb t) (.bool true),Q3 []/\Q0 YP J0 21 (U5 rf Qb) (.bool true),Q3 []/\Q0 YP J0 25 (K6 t) (.bool true),(!Zq 8 (↑Qb.length:Int))=true,Q3 []/\Q0 YP J0 15 (Vy rf) (.bool true)]):=by kernel_rfl
def Sw(B:Lo)(rf:Qe)(Qb:List Int)(t:Qn):List Prop:=[FJ YP B (Xj rf Qb t) (QP rf Qb t) 3 (OO.ret (.bool true)) (([]++((3,Xo)::Xc (3+1) []))++QP rf Qb t) 4 (MP 3) []]++([]:List Prop)
def cr(rf:Qe)(Qb:List Int)(t:Qn):QB:=[(6,Ql.call (MP 3) (OO.ret (.bool true)) ([]++(3,Xo)::Xc 4 []) 4 [])]
def Sv(B:Lo)(rf:Qe)(Qb:List Int)(t:Qn):List Prop:=[Q3 []/\Q0 YP J0 34 #[.agg (U4 rf),QJ Qb.length (Qg Q9 Qb),.bool false] (YS rf Qb),Q3 []/\Q0 YP J0 26 (YV rf Qb t) (YX rf t),Q3 []/\Q0 YP J0 35 (U5 rf Qb) (.tuple #[.int .i64 (Prod.fst (Prod.snd (Qo rf Qb))),.int .i64 (Prod.snd (Prod.snd (Qo rf Qb))),.int .i64 0])]++Sw B rf Qb t
def cq(rf:Qe)(Qb:List Int)(t:Qn):QB:=cr rf Qb t++[(10,Ql.pure (.tuple #[.int .i64 (Prod.fst (Prod.snd (Qo rf Qb))),.int .i64 (Prod.snd (Prod.snd (Qo rf Qb))),.int .i64 0]) []),(21,Ql.pure (YX rf t) []),(34,Ql.pure (YS rf Qb) [])]
def Su(B:Lo)(rf:Qe)(Qb:List Int)(t:Qn):List Prop:=[Q3 []/\Q0 YP J0 31 #[.agg (U4 rf),QJ (MO (QI rf.Qc rf.Qa (Xs rf) (Xr rf Qb) (Qh (Zo rf)))) (Qg Xq (QI rf.Qc rf.Qa (Xs rf) (Xr rf Qb) (Qh (Zo rf))))] (.bool true),Q3 []/\Q0 YP J0 31 #[.agg (U4 rf),QJ (MO (QI rf.Qc rf.Qa t.grows t.takes (Qh t.starts))) (Qg Xq (QI rf.Qc rf.Qa t.grows t.takes (Qh t.starts)))] (.bool true),Q3 []/\Q0 YP J0 26 (YU rf Qb) (YW rf Qb)]++Sv B rf Qb t
def cn(rf:Qe)(Qb:List Int)(t:Qn):QB:=cq rf Qb t++[(35,Ql.pure (YW rf Qb) []),(53,Ql.pure (.bool true) []),(59,Ql.pure (.bool true) [])]
theorem qZ(B:Lo)(rf:Qe)(Qb:List Int)(t:Qn):Xd (Qu YP (Q8 YP) J0 B 32 1 (Qq YP 9 138 (([.agg (Q1 rf).toArray,XF Qb,.agg #[XF t.starts,XU t.grows,XU t.takes]]).map (Q5 0 4))) Zn 1
 (cn rf Qb t++[(77,WR)]) 0 [] []) []=some (.bool false,
 [Zq (Prod.fst (Prod.snd (Qo rf Qb))) 0=true]++Su B rf Qb t):=by kernel_rfl
def St(B:Lo)(rf:Qe)(Qb:List Int)(t:Qn):List Prop:=[Zq (Prod.fst (Prod.snd (Qo rf Qb))) 0=false]++Su B rf Qb t
def cm(rf:Qe)(Qb:List Int)(t:Qn):QB:=cn rf Qb t++[(77,Vs)]
theorem qY(B:Lo)(rf:Qe)(Qb:List Int)(t:Qn):Xd (Qu YP (Q8 YP) J0 B 32 1 (Qq YP 9 138 (([.agg (Q1 rf).toArray,XF Qb,.agg #[XF t.starts,XU t.grows,XU t.takes]]).map (Q5 0 4))) Zn 1
 (cm rf Qb t++[(81,WR)]) 0 [] []) []=some (.bool false,
 [(!Zq (Prod.fst (Prod.snd (Qo rf Qb))) (↑rf.Qa.length:Int))=true]++St B rf Qb t):=by kernel_rfl
def Ss(B:Lo)(rf:Qe)(Qb:List Int)(t:Qn):List Prop:=[(!Zq (Prod.fst (Prod.snd (Qo rf Qb))) (↑rf.Qa.length:Int))=false]++St B rf Qb t
def cl(rf:Qe)(Qb:List Int)(t:Qn):QB:=cm rf Qb t++[(81,Vs)]
theorem qX(B:Lo)(rf:Qe)(Qb:List Int)(t:Qn):Xd (Qu YP (Q8 YP) J0 B 32 1 (Qq YP 9 138 (([.agg (Q1 rf).toArray,XF Qb,.agg #[XF t.starts,XU t.grows,XU t.takes]]).map (Q5 0 4))) Zn 1
 (cl rf Qb t++[(85,WR)]) 0 [] []) []=some (.bool false,
 [(!Zq 0 (Prod.snd (Prod.snd (Qo rf Qb))))=true]++Ss B rf Qb t):=by kernel_rfl
def Sr(B:Lo)(rf:Qe)(Qb:List Int)(t:Qn):List Prop:=[(!Zq 0 (Prod.snd (Prod.snd (Qo rf Qb))))=false]++Ss B rf Qb t
def cj(rf:Qe)(Qb:List Int)(t:Qn):QB:=cl rf Qb t++[(85,Vs)]
theorem qW(B:Lo)(rf:Qe)(Qb:List Int)(t:Qn):Xd (Qu YP (Q8 YP) J0 B 32 1 (Qq YP 9 138 (([.agg (Q1 rf).toArray,XF Qb,.agg #[XF t.starts,XU t.grows,XU t.takes]]).map (Q5 0 4))) Zn 1
 (cj rf Qb t++[(89,WR)]) 0 [] []) []=some (.bool false,
 [Zq 1000000 (Prod.snd (Prod.snd (Qo rf Qb)))=true]++Sr B rf Qb t):=by kernel_rfl
def Sq(B:Lo)(rf:Qe)(Qb:List Int)(t:Qn):List Prop:=[Prod.fst (Prod.snd (Qo rf Qb))=(↑(MM (Prod.fst (Prod.snd (Qo rf Qb)))):Int)/\MM (Prod.fst (Prod.snd (Qo rf Qb)))<MO rf.Qa/\Nu (Qg Qj rf.Qa) (MM (Prod.fst (Prod.snd (Qo rf Qb)))*TypeInfo.size Try.t54) (MM (Prod.fst (Prod.snd (Qo rf Qb)))*TypeInfo.size Try.t54+TypeInfo.size Try.t54)=(YY (rf.Qa.getD (MM (Prod.fst (Prod.snd (Qo rf Qb)))) ML)),wq (Na (Na (QI rf.Qc rf.Qa (Xs rf) (Xr rf Qb) (Qh (Zo rf))) (MM (rf.Qc-1)) ML) (MM (Prod.fst (Prod.snd (Qo rf Qb)))) ML+Prod.snd (Prod.snd (Qo rf Qb)))=Na (Na (QI rf.Qc rf.Qa (Xs rf) (Xr rf Qb) (Qh (Zo rf))) (MM (rf.Qc-1)) ML) (MM (Prod.fst (Prod.snd (Qo rf Qb)))) ML+Prod.snd (Prod.snd (Qo rf Qb)),Prod.fst (Prod.snd (Qo rf Qb))=(↑(MM (Prod.fst (Prod.snd (Qo rf Qb)))):Int)/\MM (Prod.fst (Prod.snd (Qo rf Qb)))<MO (Na (QI rf.Qc rf.Qa (Xs rf) (Xr rf Qb) (Qh (Zo rf))) (MM (rf.Qc-1)) ML)/\Nu (Qg Q9 (Na (QI rf.Qc rf.Qa (Xs rf) (Xr rf Qb) (Qh (Zo rf))) (MM (rf.Qc-1)) ML)) (MM (Prod.fst (Prod.snd (Qo rf Qb)))*TypeInfo.size Try.t3) (MM (Prod.fst (Prod.snd (Qo rf Qb)))*TypeInfo.size Try.t3+TypeInfo.size Try.t3)=#[.int .i64 (Na (Na (QI rf.Qc rf.Qa (Xs rf) (Xr rf Qb) (Qh (Zo rf))) (MM (rf.Qc-1)) ML) (MM (Prod.fst (Prod.snd (Qo rf Qb)))) ML)],rf.Qc-1=(↑(MM (rf.Qc-1)):Int)/\MM (rf.Qc-1)<MO (QI rf.Qc rf.Qa (Xs rf) (Xr rf Qb) (Qh (Zo rf)))/\Nu (Qg Xq (QI rf.Qc rf.Qa (Xs rf) (Xr rf Qb) (Qh (Zo rf)))) (MM (rf.Qc-1)*TypeInfo.size Try.t25) (MM (rf.Qc-1)*TypeInfo.size Try.t25+TypeInfo.size Try.t25)=#[QJ (MO (Na (QI rf.Qc rf.Qa (Xs rf) (Xr rf Qb) (Qh (Zo rf))) (MM (rf.Qc-1)) ML)) (Qg Q9 (Na (QI rf.Qc rf.Qa (Xs rf) (Xr rf Qb) (Qh (Zo rf))) (MM (rf.Qc-1)) ML))],wq (rf.Qc-1)=rf.Qc-1,Zq 1000000 (Prod.snd (Prod.snd (Qo rf Qb)))=false]++Sr B rf Qb t
def cg(rf:Qe)(Qb:List Int)(t:Qn):QB:=cj rf Qb t++[(89,Vs),(95,U2 (rf.Qc-1)),(96,Ql.tidx (MM (rf.Qc-1)) #[QJ (MO (Na (QI rf.Qc rf.Qa (Xs rf) (Xr rf Qb) (Qh (Zo rf))) (MM (rf.Qc-1)) ML)) (Qg Q9 (Na (QI rf.Qc rf.Qa (Xs rf) (Xr rf Qb) (Qh (Zo rf))) (MM (rf.Qc-1)) ML))]),(99,Ql.tidx (MM (Prod.fst (Prod.snd (Qo rf Qb)))) #[.int .i64 (Na (Na (QI rf.Qc rf.Qa (Xs rf) (Xr rf Qb) (Qh (Zo rf))) (MM (rf.Qc-1)) ML) (MM (Prod.fst (Prod.snd (Qo rf Qb)))) ML)]),(102,U2 (Na (Na (QI rf.Qc rf.Qa (Xs rf) (Xr rf Qb) (Qh (Zo rf))) (MM (rf.Qc-1)) ML) (MM (Prod.fst (Prod.snd (Qo rf Qb)))) ML+Prod.snd (Prod.snd (Qo rf Qb)))),(106,Ql.tidx (MM (Prod.fst (Prod.snd (Qo rf Qb)))) (YY (rf.Qa.getD (MM (Prod.fst (Prod.snd (Qo rf Qb)))) ML)))]
theorem qU(B:Lo)(rf:Qe)(Qb:List Int)(t:Qn):Xd (Qu YP (Q8 YP) J0 B 32 1 (Qq YP 9 138 (([.agg (Q1 rf).toArray,XF Qb,.agg #[XF t.starts,XU t.grows,XU t.takes]]).map (Q5 0 4))) Zn 1
 (cg rf Qb t++[(109,WR)]) 0 [] []) []=some (.bool false,
 [(!YI (Na (Na (QI rf.Qc rf.Qa (Xs rf) (Xr rf Qb) (Qh (Zo rf))) (MM (rf.Qc-1)) ML) (MM (Prod.fst (Prod.snd (Qo rf Qb)))) ML+Prod.snd (Prod.snd (Qo rf Qb))) (Qd.goal (rf.Qa.getD (MM (Prod.fst (Prod.snd (Qo rf Qb)))) ML)))=true]++Sq B rf Qb t):=by kernel_rfl
theorem qT(B:Lo)(rf:Qe)(Qb:List Int)(t:Qn):landM (Qu YP (Q8 YP) J0 B 35 1 (Qq YP 9 138 (([.agg (Q1 rf).toArray,XF Qb,.agg #[XF t.starts,XU t.grows,XU t.takes]]).map (Q5 0 4))) Zn 1
 (cg rf Qb t++[(109,Vs)]) 0 [] []) [3,10,16,17] [(1,KS.auto)] []=some ⟨9,138,V0,[],.run,none,Vz rf Qb t (Prod.fst (Prod.snd (Qo rf Qb))) (0),ZH rf Qb t (Prod.fst (Prod.snd (Qo rf Qb))) (0),
 [(!YI (Na (Na (QI rf.Qc rf.Qa (Xs rf) (Xr rf Qb) (Qh (Zo rf))) (MM (rf.Qc-1)) ML) (MM (Prod.fst (Prod.snd (Qo rf Qb)))) ML+Prod.snd (Prod.snd (Qo rf Qb))) (Qd.goal (rf.Qa.getD (MM (Prod.fst (Prod.snd (Qo rf Qb)))) ML)))=false]++Sq B rf Qb t⟩:=by kernel_rfl
theorem oK(B:Lo)(rf:Qe)(Qb:List Int)(t:Qn):Xd (Qu YP (Q8 YP) J0 B 21 1 (Qq YP 9 138 (([.agg (Q1 rf).toArray,XF Qb,.agg #[XF t.starts,XU t.grows,XU t.takes]]).map (Q5 0 4))) Zn 1
 (cq rf Qb t++[(35,Ql.pure YT [])]) 0 [] []) []=some (.bool false,
 [Q3 []/\Q0 YP J0 26 (YU rf Qb) YT]++Sv B rf Qb t):=by kernel_rfl
def Sp(B:Lo)(rf:Qe)(Qb:List Int)(t:Qn):List Prop:=[Q3 []/\Q0 YP J0 34 #[.agg (U4 rf),QJ Qb.length (Qg Q9 Qb),.bool false] (YS rf Qb),Q3 []/\Q0 YP J0 26 (YV rf Qb t) (YX rf t),Q3 []/\Q0 YP J0 35 (U5 rf Qb) (.tuple #[.int .i64 (Prod.fst (Prod.snd (Qo rf Qb))),.int .i64 (Prod.snd (Prod.snd (Qo rf Qb))),.int .i64 5])]++Sw B rf Qb t
def cf(rf:Qe)(Qb:List Int)(t:Qn):QB:=cr rf Qb t++[(10,Ql.pure (.tuple #[.int .i64 (Prod.fst (Prod.snd (Qo rf Qb))),.int .i64 (Prod.snd (Prod.snd (Qo rf Qb))),.int .i64 5]) []),(21,Ql.pure (YX rf t) []),(34,Ql.pure (YS rf Qb) [])]
theorem oJ(B:Lo)(rf:Qe)(Qb:List Int)(t:Qn):landM (Qu YP (Q8 YP) J0 B 30 1 (Qq YP 9 138 (([.agg (Q1 rf).toArray,XF Qb,.agg #[XF t.starts,XU t.grows,XU t.takes]]).map (Q5 0 4))) Zn 1
 (cf rf Qb t++[(35,Ql.pure (YW rf Qb) []),(53,Ql.pure (.bool true) []),(59,Ql.pure (.bool true) [])]) 0 [] []) [3,10,16,17] [(1,KS.auto)] []=some ⟨9,138,V0,[],.run,none,Vz rf Qb t ((↑rf.Qa.length:Int)) (0),ZH rf Qb t ((↑rf.Qa.length:Int)) (0),
 [Q3 []/\Q0 YP J0 31 #[.agg (U4 rf),QJ (MO (QI rf.Qc rf.Qa (Xs rf) (Xr rf Qb) (Qh (Zo rf)))) (Qg Xq (QI rf.Qc rf.Qa (Xs rf) (Xr rf Qb) (Qh (Zo rf))))] (.bool true),Q3 []/\Q0 YP J0 31 #[.agg (U4 rf),QJ (MO (QI rf.Qc rf.Qa t.grows t.takes (Qh t.starts))) (Qg Xq (QI rf.Qc rf.Qa t.grows t.takes (Qh t.starts)))] (.bool true),Q3 []/\Q0 YP J0 26 (YU rf Qb) (YW rf Qb)]++Sp B rf Qb t⟩:=by kernel_rfl
theorem oI(B:Lo)(rf:Qe)(Qb:List Int)(t:Qn):Xd (Qu YP (Q8 YP) J0 B 21 1 (Qq YP 9 138 (([.agg (Q1 rf).toArray,XF Qb,.agg #[XF t.starts,XU t.grows,XU t.takes]]).map (Q5 0 4))) Zn 1
 (cf rf Qb t++[(35,Ql.pure YT [])]) 0 [] []) []=some (.bool false,
 [Q3 []/\Q0 YP J0 26 (YU rf Qb) YT]++Sp B rf Qb t):=by kernel_rfl
theorem oH(B:Lo)(rf:Qe)(Qb:List Int)(t:Qn):CE.finK 3 (Qu YP (Q8 YP) J0 B 6 3 (Xj rf Qb t) (QP rf Qb t) 3
 [(4,Ql.pure (.bool true) []),(8,WR),(12,Ql.pure (.bool true) []),(17,Ql.pure (.bool true) []),(23,Ql.pure (.bool false) [])] 0 [] []) [] [] []=some (OO.ret (.bool false),[],[],
 [Q3 []/\Q0 YP J0 27 (YV rf Qb t) (.bool false),Q3 []/\Q0 YP J0 21 (U5 rf Qb) (.bool true),Q3 []/\Q0 YP J0 25 (K6 t) (.bool true),(!Zq 8 (↑Qb.length:Int))=true,Q3 []/\Q0 YP J0 15 (Vy rf) (.bool true)]):=by kernel_rfl
theorem oG(B:Lo)(rf:Qe)(Qb:List Int)(t:Qn):Xd (Qu YP (Q8 YP) J0 B 10 1 (Qq YP 9 138 (([.agg (Q1 rf).toArray,XF Qb,.agg #[XF t.starts,XU t.grows,XU t.takes]]).map (Q5 0 4))) Zn 1
 [(6,Ql.call (MP 3) (OO.ret (.bool false)) ([]++(3,Xo)::Xc 4 []) 4 []),(8,Ql.pure (.bool true) [])] 0 [] []) []=some (.bool true,
 [Q3 []/\Q0 YP J0 16 #[] (.bool true),FJ YP B (Xj rf Qb t) (QP rf Qb t) 3 (OO.ret (.bool false)) (([]++((3,Xo)::Xc (3+1) []))++QP rf Qb t) 4 (MP 3) []]):=by kernel_rfl
theorem oF(B:Lo)(rf:Qe)(Qb:List Int)(t:Qn):CE.finK 3 (Qu YP (Q8 YP) J0 B 6 3 (Xj rf Qb t) (QP rf Qb t) 3
 [(4,Ql.pure (.bool true) []),(8,WR),(12,Ql.pure (.bool true) []),(17,Ql.pure (.bool false) [])] 0 [] []) [] [] []=some (OO.ret (.bool false),[],[],
 [Q3 []/\Q0 YP J0 21 (U5 rf Qb) (.bool false),Q3 []/\Q0 YP J0 25 (K6 t) (.bool true),(!Zq 8 (↑Qb.length:Int))=true,Q3 []/\Q0 YP J0 15 (Vy rf) (.bool true)]):=by kernel_rfl
theorem oE(B:Lo)(rf:Qe)(Qb:List Int)(t:Qn):Xd (Qu YP (Q8 YP) J0 B 10 1 (Qq YP 9 138 (([.agg (Q1 rf).toArray,XF Qb,.agg #[XF t.starts,XU t.grows,XU t.takes]]).map (Q5 0 4))) Zn 1
 [(6,Ql.call (MP 3) (OO.ret (.bool false)) ([]++(3,Xo)::Xc 4 []) 4 []),(8,Ql.pure (.bool true) [])] 0 [] []) []=some (.bool true,
 [Q3 []/\Q0 YP J0 16 #[] (.bool true),FJ YP B (Xj rf Qb t) (QP rf Qb t) 3 (OO.ret (.bool false)) (([]++((3,Xo)::Xc (3+1) []))++QP rf Qb t) 4 (MP 3) []]):=by kernel_rfl
theorem oD(B:Lo)(rf:Qe)(Qb:List Int)(t:Qn):CE.finK 3 (Qu YP (Q8 YP) J0 B 6 3 (Xj rf Qb t) (QP rf Qb t) 3
 [(4,Ql.pure (.bool true) []),(8,WR),(12,Ql.pure (.bool true) []),(17,Ql.pure (.bool false) [])] 0 [] []) [] [] []=some (OO.ret (.bool false),[],[],
 [Q3 []/\Q0 YP J0 21 (U5 rf Qb) (.bool false),Q3 []/\Q0 YP J0 25 (K6 t) (.bool true),(!Zq 8 (↑Qb.length:Int))=true,Q3 []/\Q0 YP J0 15 (Vy rf) (.bool true)]):=by kernel_rfl
theorem oC(B:Lo)(rf:Qe)(Qb:List Int)(t:Qn):Xd (Qu YP (Q8 YP) J0 B 10 1 (Qq YP 9 138 (([.agg (Q1 rf).toArray,XF Qb,.agg #[XF t.starts,XU t.grows,XU t.takes]]).map (Q5 0 4))) Zn 1
 [(6,Ql.call (MP 3) (OO.ret (.bool false)) ([]++(3,Xo)::Xc 4 []) 4 []),(8,Ql.pure (.bool true) [])] 0 [] []) []=some (.bool true,
 [Q3 []/\Q0 YP J0 16 #[] (.bool true),FJ YP B (Xj rf Qb t) (QP rf Qb t) 3 (OO.ret (.bool false)) (([]++((3,Xo)::Xc (3+1) []))++QP rf Qb t) 4 (MP 3) []]):=by kernel_rfl
theorem oB(B:Lo)(rf:Qe)(Qb:List Int)(t:Qn):CE.finK 3 (Qu YP (Q8 YP) J0 B 6 3 (Xj rf Qb t) (QP rf Qb t) 3
 [(4,Ql.pure (.bool true) []),(8,WR),(12,Ql.pure (.bool false) [])] 0 [] []) [] [] []=some (OO.ret (.bool false),[],[],
 [Q3 []/\Q0 YP J0 25 (K6 t) (.bool false),(!Zq 8 (↑Qb.length:Int))=true,Q3 []/\Q0 YP J0 15 (Vy rf) (.bool true)]):=by kernel_rfl
theorem oA(B:Lo)(rf:Qe)(Qb:List Int)(t:Qn):Xd (Qu YP (Q8 YP) J0 B 10 1 (Qq YP 9 138 (([.agg (Q1 rf).toArray,XF Qb,.agg #[XF t.starts,XU t.grows,XU t.takes]]).map (Q5 0 4))) Zn 1
 [(6,Ql.call (MP 3) (OO.ret (.bool false)) ([]++(3,Xo)::Xc 4 []) 4 []),(8,Ql.pure (.bool true) [])] 0 [] []) []=some (.bool true,
 [Q3 []/\Q0 YP J0 16 #[] (.bool true),FJ YP B (Xj rf Qb t) (QP rf Qb t) 3 (OO.ret (.bool false)) (([]++((3,Xo)::Xc (3+1) []))++QP rf Qb t) 4 (MP 3) []]):=by kernel_rfl
theorem o9(B:Lo)(rf:Qe)(Qb:List Int)(t:Qn):CE.finK 3 (Qu YP (Q8 YP) J0 B 6 3 (Xj rf Qb t) (QP rf Qb t) 3
 [(4,Ql.pure (.bool true) []),(8,Vs)] 0 [] []) [] [] []=some (OO.ret (.bool false),[],[],
 [(!Zq 8 (↑Qb.length:Int))=false,Q3 []/\Q0 YP J0 15 (Vy rf) (.bool true)]):=by kernel_rfl
theorem o8(B:Lo)(rf:Qe)(Qb:List Int)(t:Qn):Xd (Qu YP (Q8 YP) J0 B 10 1 (Qq YP 9 138 (([.agg (Q1 rf).toArray,XF Qb,.agg #[XF t.starts,XU t.grows,XU t.takes]]).map (Q5 0 4))) Zn 1
 [(6,Ql.call (MP 3) (OO.ret (.bool false)) ([]++(3,Xo)::Xc 4 []) 4 []),(8,Ql.pure (.bool true) [])] 0 [] []) []=some (.bool true,
 [Q3 []/\Q0 YP J0 16 #[] (.bool true),FJ YP B (Xj rf Qb t) (QP rf Qb t) 3 (OO.ret (.bool false)) (([]++((3,Xo)::Xc (3+1) []))++QP rf Qb t) 4 (MP 3) []]):=by kernel_rfl
theorem o7(B:Lo)(rf:Qe)(Qb:List Int)(t:Qn):CE.finK 3 (Qu YP (Q8 YP) J0 B 6 3 (Xj rf Qb t) (QP rf Qb t) 3
 [(4,Ql.pure (.bool false) [])] 0 [] []) [] [] []=some (OO.ret (.bool false),[],[],
 [Q3 []/\Q0 YP J0 15 (Vy rf) (.bool false)]):=by kernel_rfl
theorem o6(B:Lo)(rf:Qe)(Qb:List Int)(t:Qn):Xd (Qu YP (Q8 YP) J0 B 10 1 (Qq YP 9 138 (([.agg (Q1 rf).toArray,XF Qb,.agg #[XF t.starts,XU t.grows,XU t.takes]]).map (Q5 0 4))) Zn 1
 [(6,Ql.call (MP 3) (OO.ret (.bool false)) ([]++(3,Xo)::Xc 4 []) 4 []),(8,Ql.pure (.bool true) [])] 0 [] []) []=some (.bool true,
 [Q3 []/\Q0 YP J0 16 #[] (.bool true),FJ YP B (Xj rf Qb t) (QP rf Qb t) 3 (OO.ret (.bool false)) (([]++((3,Xo)::Xc (3+1) []))++QP rf Qb t) 4 (MP 3) []]):=by kernel_rfl
set_option maxHeartbeats 4000000 in
theorem cu(rf:Qe)(Qb:List Int)(t:Qn)  (XB:Qb.length<=9223372036854775807){B:Lo}(hJ:∀w,B.has w->J0 w){c0:CF}:∀m:Nat,(∀(many i:Int),(many-i).toNat=m->∀(hr:Qy rf=true) (hpl:QQ rf Qb=true) (htr:QZ rf Qb t=true) (h0:0<=i) (hm1:many<=rf.Qa.length) (hm:∀k:Int,0<=k->k<many->(PI rf.Qa k).goal<=(Qz rf Qb rf.Qc.toNat).at k),rk B c0 rf Qb t many i->EndsT YP B c0 (.bool true)):=by
 intro m0;induction m0 using No with
 |_ m0 ih0=>
  intro many i hm0 hr hpl htr h0 hm1 hm ⟨Qt,Kn,Zk⟩;have ZN:=Q6 (QD hr).1;have Uv:=(Ze hr htr).1;have hq1:(QI rf.Qc rf.Qa t.grows t.takes (Qh t.starts)).length=rf.Qc.toNat:=Xu;have hq2:=Zp (rf:=rf) (gs:=t.grows) (ts:=t.takes) (f:=Qh t.starts) (s:=rf.Qc-1) (by omega) (by omega) (by omega);by_cases q0:(i:Int)<(many)
  ·have Vb:Q3 (Sx B rf Qb t many i Qt):=by
    have UL:=QC ‹Qy rf=true›;have ZN:=Q6 (QD ‹Qy rf=true›).1;have hpf:=(Xa ‹QQ rf Qb=true›).1;have hpg:=Z0 (QC ‹Qy rf=true›) ‹QQ rf Qb=true›;have QF:=Ze (QC ‹Qy rf=true›) ‹QZ rf Qb t=true›;have Uv:=QF.1;have PM:=QF.2;have het:=Zf (Qb:=Qb) ‹Qy rf=true›;have hoe:=(Ze (QC ‹Qy rf=true›) het).1;have hshp:Zc rf.Qa.length rf.Qc (QI rf.Qc rf.Qa t.grows t.takes (Qh t.starts)):=Uv.shape (QV (QC ‹Qy rf=true›) ‹QZ rf Qb t=true›);have hshe:Zc rf.Qa.length rf.Qc (QI rf.Qc rf.Qa (Xs rf) (Xr rf Qb) (Qh (Zo rf))):=hoe.shape (QV (QC ‹Qy rf=true›) het);have hq1:(QI rf.Qc rf.Qa (Xs rf) (Xr rf Qb) (Qh (Zo rf))).length=rf.Qc.toNat:=Xu;have hq2:=Zp (rf:=rf) (gs:=Xs rf) (ts:=Xr rf Qb) (f:=Qh (Zo rf)) (s:=rf.Qc-1) (by omega) (by omega) (by omega);have hla:=U8 (rf:=rf) (gs:=t.grows) (ts:=t.takes) (f:=Qh t.starts) (i:=i) (by omega) (by omega) h0 (by omega);have hti:=(jK hr htr (k:=rf.Qc.toNat) (by omega)).1 i h0 (by omega);have hmi:(rf.Qa.getD i.toNat ML).goal<=(Qz rf Qb rf.Qc.toNat).at i:=hm i h0 q0;exact⟨⟨by omega,by omega,(QA (z:=12) (fun _=>rfl) (by omega))⟩,⟨⟨by omega,by omega,(QA (z:=1) (fun _=>rfl) (by omega))⟩,⟨⟨by omega,by omega,(QA (z:=1) (fun _=>rfl) (by omega))⟩,⟨(XH (by omega) (by omega)),⟨(Zh q0),trivial⟩⟩⟩⟩⟩
   by_cases q1:(Na (Na (QI rf.Qc rf.Qa t.grows t.takes (Qh t.starts)) (MM (rf.Qc-1)) ML) i.toNat ML:Int)<(Qd.goal (rf.Qa.getD i.toNat ML))
   ·have UL:=QC ‹Qy rf=true›;have ZN:=Q6 (QD ‹Qy rf=true›).1;have hpf:=(Xa ‹QQ rf Qb=true›).1;have hpg:=Z0 (QC ‹Qy rf=true›) ‹QQ rf Qb=true›;have QF:=Ze (QC ‹Qy rf=true›) ‹QZ rf Qb t=true›;have Uv:=QF.1;have PM:=QF.2;have het:=Zf (Qb:=Qb) ‹Qy rf=true›;have hoe:=(Ze (QC ‹Qy rf=true›) het).1;have hshp:Zc rf.Qa.length rf.Qc (QI rf.Qc rf.Qa t.grows t.takes (Qh t.starts)):=Uv.shape (QV (QC ‹Qy rf=true›) ‹QZ rf Qb t=true›);have hshe:Zc rf.Qa.length rf.Qc (QI rf.Qc rf.Qa (Xs rf) (Xr rf Qb) (Qh (Zo rf))):=hoe.shape (QV (QC ‹Qy rf=true›) het);have hq1:(QI rf.Qc rf.Qa (Xs rf) (Xr rf Qb) (Qh (Zo rf))).length=rf.Qc.toNat:=Xu;have hq2:=Zp (rf:=rf) (gs:=Xs rf) (ts:=Xr rf Qb) (f:=Qh (Zo rf)) (s:=rf.Qc-1) (by omega) (by omega) (by omega);have hla:=U8 (rf:=rf) (gs:=t.grows) (ts:=t.takes) (f:=Qh t.starts) (i:=i) (by omega) (by omega) h0 (by omega);have hti:=(jK hr htr (k:=rf.Qc.toNat) (by omega)).1 i h0 (by omega);have hmi:(rf.Qa.getD i.toNat ML).goal<=(Qz rf Qb rf.Qc.toNat).at i:=hm i h0 q0;exact(GoE.endsT okF hJ Qf Zk (rj B rf Qb t many i Qt)
     ⟨(Zh q1),Vb⟩).cast (by(exfalso;omega))
   ·have UL:=QC ‹Qy rf=true›;have ZN:=Q6 (QD ‹Qy rf=true›).1;have hpf:=(Xa ‹QQ rf Qb=true›).1;have hpg:=Z0 (QC ‹Qy rf=true›) ‹QQ rf Qb=true›;have QF:=Ze (QC ‹Qy rf=true›) ‹QZ rf Qb t=true›;have Uv:=QF.1;have PM:=QF.2;have het:=Zf (Qb:=Qb) ‹Qy rf=true›;have hoe:=(Ze (QC ‹Qy rf=true›) het).1;have hshp:Zc rf.Qa.length rf.Qc (QI rf.Qc rf.Qa t.grows t.takes (Qh t.starts)):=Uv.shape (QV (QC ‹Qy rf=true›) ‹QZ rf Qb t=true›);have hshe:Zc rf.Qa.length rf.Qc (QI rf.Qc rf.Qa (Xs rf) (Xr rf Qb) (Qh (Zo rf))):=hoe.shape (QV (QC ‹Qy rf=true›) het);have hq1:(QI rf.Qc rf.Qa (Xs rf) (Xr rf Qb) (Qh (Zo rf))).length=rf.Qc.toNat:=Xu;have hq2:=Zp (rf:=rf) (gs:=Xs rf) (ts:=Xr rf Qb) (f:=Qh (Zo rf)) (s:=rf.Qc-1) (by omega) (by omega) (by omega);have hla:=U8 (rf:=rf) (gs:=t.grows) (ts:=t.takes) (f:=Qh t.starts) (i:=i) (by omega) (by omega) h0 (by omega);have hti:=(jK hr htr (k:=rf.Qc.toNat) (by omega)).1 i h0 (by omega);have hmi:(rf.Qa.getD i.toNat ML).goal<=(Qz rf Qb rf.Qc.toNat).at i:=hm i h0 q0;exact((ih0 _ (by omega)) (many) (i+1) rfl (by with_reducible assumption) (by with_reducible assumption) (by with_reducible assumption) (by omega) (by with_reducible assumption) (by with_reducible assumption)
     (Zk.landM okF hJ Qf (ri B rf Qb t many i Qt)
     ⟨(XH (by omega) (by omega)),⟨(Zr (Int.not_lt.1 q1)),Vb⟩⟩ (by kernel_rfl) (by kernel_rfl))).cast (by rfl)
  ·exact(GoE.endsT okF hJ Qf Zk (rh B rf Qb t many i Qt)
    ⟨⟨trivial,known⟩,⟨(Zr (Int.not_lt.1 q0)),trivial⟩⟩).cast rfl
set_option maxHeartbeats 4000000 in
theorem tC(rf:Qe)(Qb:List Int)(t:Qn)  (XB:Qb.length<=9223372036854775807){B:Lo}(hJ:∀w,B.has w->J0 w):EndsT YP B (Qq YP 9 138 (([.agg (Q1 rf).toArray,XF Qb,.agg #[XF t.starts,XU t.grows,XU t.takes]]).map (Q5 0 4))) (.bool true):=by
 cases q0:decide (MO rf.Qa<=8)with
 |true=>
  by_cases q1:((↑Qb.length:Int):Int)<=(8)
  ·cases q2:sizedB t with
   |true=>
    cases q3:Qy rf with
    |true=>
     cases q4:QQ rf Qb with
     |true=>
      cases q5:QZ rf Qb t with
      |true=>
       have rj0:FJ YP B (Xj rf Qb t) (QP rf Qb t) 3 (OO.ret (.bool true)) (([]++((3,Xo)::Xc (3+1) []))++QP rf Qb t) 4 (MP 3) []:=by
        have UL:=QC ‹Qy rf=true›;have ZN:=Q6 (QD ‹Qy rf=true›).1;have hpf:=(Xa ‹QQ rf Qb=true›).1;have hpg:=Z0 (QC ‹Qy rf=true›) ‹QQ rf Qb=true›;have QF:=Ze (QC ‹Qy rf=true›) ‹QZ rf Qb t=true›;have Uv:=QF.1;have PM:=QF.2;have het:=Zf (Qb:=Qb) ‹Qy rf=true›;have hoe:=(Ze (QC ‹Qy rf=true›) het).1;have hshp:Zc rf.Qa.length rf.Qc (QI rf.Qc rf.Qa t.grows t.takes (Qh t.starts)):=Uv.shape (QV (QC ‹Qy rf=true›) ‹QZ rf Qb t=true›);have hshe:Zc rf.Qa.length rf.Qc (QI rf.Qc rf.Qa (Xs rf) (Xr rf Qb) (Qh (Zo rf))):=hoe.shape (QV (QC ‹Qy rf=true›) het);have hq1:(QI rf.Qc rf.Qa (Xs rf) (Xr rf Qb) (Qh (Zo rf))).length=rf.Qc.toNat:=Xu;have hq2:=Zp (rf:=rf) (gs:=Xs rf) (ts:=Xr rf Qb) (f:=Qh (Zo rf)) (s:=rf.Qc-1) (by omega) (by omega) (by omega);exact FinK.fjB (GoE.finK okF hJ Qf (Q4 (by kernel_rfl)) (Qp (by kernel_rfl)) ((GoE.refl (P:=YP) (B:=B) (c0:=Xj rf Qb t) (Q4 (by kernel_rfl))).widen (Wf:=((([]):List (Nat×KS)).map (·.1))) (by simp) (Qp (by kernel_rfl))) (re B rf Qb t)
         ⟨⟨trivial,(by have t_:=Dk (rf) (Qb) (t) (by with_reducible assumption) (by with_reducible assumption) (by with_reducible assumption);rw[q5]at t_;exact t_)⟩,⟨⟨trivial,(by have t_:=sJ (rf) (Qb);rw[q3,q4]at t_;exact t_)⟩,⟨⟨trivial,(by have t_:=nt (t);rw[q2]at t_;exact t_)⟩,⟨(Vn q1),⟨⟨trivial,(by have t_:=bP (rf);rw[q0]at t_;exact t_)⟩,trivial⟩⟩⟩⟩⟩) (ex:=[]) (by kernel_rfl) (Wp _)
       have PV:Q3 (Sw B rf Qb t):=by
        exact⟨rj0,trivial⟩
       cases q6:Prod.fst (Qo rf Qb)with
       |true=>
        have KY:Q3 (Sv B rf Qb t):=by
         have UL:=QC ‹Qy rf=true›;have ZN:=Q6 (QD ‹Qy rf=true›).1;have hpf:=(Xa ‹QQ rf Qb=true›).1;have hpg:=Z0 (QC ‹Qy rf=true›) ‹QQ rf Qb=true›;have QF:=Ze (QC ‹Qy rf=true›) ‹QZ rf Qb t=true›;have Uv:=QF.1;have PM:=QF.2;have het:=Zf (Qb:=Qb) ‹Qy rf=true›;have hoe:=(Ze (QC ‹Qy rf=true›) het).1;have hshp:Zc rf.Qa.length rf.Qc (QI rf.Qc rf.Qa t.grows t.takes (Qh t.starts)):=Uv.shape (QV (QC ‹Qy rf=true›) ‹QZ rf Qb t=true›);have hshe:Zc rf.Qa.length rf.Qc (QI rf.Qc rf.Qa (Xs rf) (Xr rf Qb) (Qh (Zo rf))):=hoe.shape (QV (QC ‹Qy rf=true›) het);have U3:=VM (rf:=rf) (Qb:=Qb) ‹(Qo rf Qb).1=true›;have hq1:(QI rf.Qc rf.Qa (Xs rf) (Xr rf Qb) (Qh (Zo rf))).length=rf.Qc.toNat:=Xu;have hq2:=Zp (rf:=rf) (gs:=Xs rf) (ts:=Xr rf Qb) (f:=Qh (Zo rf)) (s:=rf.Qc-1) (by omega) (by omega) (by omega);have hlw:((QI rf.Qc rf.Qa (Xs rf) (Xr rf Qb) (Qh (Zo rf))).getD (rf.Qc-1).toNat ML).getD (Qo rf Qb).2.1.toNat ML=(Qz rf Qb rf.Qc.toNat).at (Qo rf Qb).2.1:=U8 (by omega) (by omega) U3.1 U3.2.1;have P5:=W5 (VD (Qb:=Qb) (QC ‹Qy rf=true›) (s:=rf.Qc.toNat) (by omega)).1 U3.1 (show(Qo rf Qb).2.1<4 by omega);have hf5:0<=(Qz rf Qb rf.Qc.toNat).at (Qo rf Qb).2.1/\(Qz rf Qb rf.Qc.toNat).at (Qo rf Qb).2.1<=100000000000:=⟨P5.1,Int.le_trans P5.2.1 P5.2.2⟩
         have YA:=(Za ((QD ‹Qy rf=true›).2 (Qo rf Qb).2.1 U3.1 U3.2.1).1).2.2.1;have hsy4:(Qo rf Qb).2.2=(rf.Qa.getD (Qo rf Qb).2.1.toNat ML).goal-(Qz rf Qb rf.Qc.toNat).at (Qo rf Qb).2.1:=U3.2.2.2.1;exact⟨⟨trivial,Ie (rf) (Qb) (by with_reducible assumption) (by with_reducible assumption)⟩,⟨⟨trivial,(by have t_:=EF (rf) (Qb) (t);rw[q3,q4,q5]at t_;exact t_)⟩,⟨⟨trivial,(by have t_:=EA (rf) (Qb);rw[q3,q4,q6]at t_;exact t_)⟩,PV⟩⟩⟩
        cases q7:QZ rf Qb {starts:=Zo rf,grows:=Xs rf,takes:=Xr rf Qb}with
        |true=>
         have hp3:Q3 (Su B rf Qb t):=by
          have UL:=QC ‹Qy rf=true›;have ZN:=Q6 (QD ‹Qy rf=true›).1;have hpf:=(Xa ‹QQ rf Qb=true›).1;have hpg:=Z0 (QC ‹Qy rf=true›) ‹QQ rf Qb=true›;have QF:=Ze (QC ‹Qy rf=true›) ‹QZ rf Qb t=true›;have Uv:=QF.1;have PM:=QF.2;have het:=Zf (Qb:=Qb) ‹Qy rf=true›;have hoe:=(Ze (QC ‹Qy rf=true›) het).1;have hshp:Zc rf.Qa.length rf.Qc (QI rf.Qc rf.Qa t.grows t.takes (Qh t.starts)):=Uv.shape (QV (QC ‹Qy rf=true›) ‹QZ rf Qb t=true›);have hshe:Zc rf.Qa.length rf.Qc (QI rf.Qc rf.Qa (Xs rf) (Xr rf Qb) (Qh (Zo rf))):=hoe.shape (QV (QC ‹Qy rf=true›) het);have U3:=VM (rf:=rf) (Qb:=Qb) ‹(Qo rf Qb).1=true›;have hq1:(QI rf.Qc rf.Qa (Xs rf) (Xr rf Qb) (Qh (Zo rf))).length=rf.Qc.toNat:=Xu;have hq2:=Zp (rf:=rf) (gs:=Xs rf) (ts:=Xr rf Qb) (f:=Qh (Zo rf)) (s:=rf.Qc-1) (by omega) (by omega) (by omega);have hlw:((QI rf.Qc rf.Qa (Xs rf) (Xr rf Qb) (Qh (Zo rf))).getD (rf.Qc-1).toNat ML).getD (Qo rf Qb).2.1.toNat ML=(Qz rf Qb rf.Qc.toNat).at (Qo rf Qb).2.1:=U8 (by omega) (by omega) U3.1 U3.2.1;have P5:=W5 (VD (Qb:=Qb) (QC ‹Qy rf=true›) (s:=rf.Qc.toNat) (by omega)).1 U3.1 (show(Qo rf Qb).2.1<4 by omega);have hf5:0<=(Qz rf Qb rf.Qc.toNat).at (Qo rf Qb).2.1/\(Qz rf Qb rf.Qc.toNat).at (Qo rf Qb).2.1<=100000000000:=⟨P5.1,Int.le_trans P5.2.1 P5.2.2⟩
          have YA:=(Za ((QD ‹Qy rf=true›).2 (Qo rf Qb).2.1 U3.1 U3.2.1).1).2.2.1;have hsy4:(Qo rf Qb).2.2=(rf.Qa.getD (Qo rf Qb).2.1.toNat ML).goal-(Qz rf Qb rf.Qc.toNat).at (Qo rf Qb).2.1:=U3.2.2.2.1;exact⟨⟨trivial,jc (rf) (QI rf.Qc rf.Qa (Xs rf) (Xr rf Qb) (Qh (Zo rf))) (by with_reducible assumption) (by omega)⟩,⟨⟨trivial,jc (rf) (QI rf.Qc rf.Qa t.grows t.takes (Qh t.starts)) (by with_reducible assumption) (by omega)⟩,⟨⟨trivial,(by have t_:=rS (rf) (Qb) (Zo rf) (Xs rf) (Xr rf Qb);rw[q3,q4,q7]at t_;exact t_)⟩,KY⟩⟩⟩
         by_cases q8:(Prod.fst (Prod.snd (Qo rf Qb)):Int)<(0)
         ·have UL:=QC ‹Qy rf=true›;have ZN:=Q6 (QD ‹Qy rf=true›).1;have hpf:=(Xa ‹QQ rf Qb=true›).1;have hpg:=Z0 (QC ‹Qy rf=true›) ‹QQ rf Qb=true›;have QF:=Ze (QC ‹Qy rf=true›) ‹QZ rf Qb t=true›;have Uv:=QF.1;have PM:=QF.2;have het:=Zf (Qb:=Qb) ‹Qy rf=true›;have hoe:=(Ze (QC ‹Qy rf=true›) het).1;have hshp:Zc rf.Qa.length rf.Qc (QI rf.Qc rf.Qa t.grows t.takes (Qh t.starts)):=Uv.shape (QV (QC ‹Qy rf=true›) ‹QZ rf Qb t=true›);have hshe:Zc rf.Qa.length rf.Qc (QI rf.Qc rf.Qa (Xs rf) (Xr rf Qb) (Qh (Zo rf))):=hoe.shape (QV (QC ‹Qy rf=true›) het);have U3:=VM (rf:=rf) (Qb:=Qb) ‹(Qo rf Qb).1=true›;have hq1:(QI rf.Qc rf.Qa (Xs rf) (Xr rf Qb) (Qh (Zo rf))).length=rf.Qc.toNat:=Xu;have hq2:=Zp (rf:=rf) (gs:=Xs rf) (ts:=Xr rf Qb) (f:=Qh (Zo rf)) (s:=rf.Qc-1) (by omega) (by omega) (by omega);have hlw:((QI rf.Qc rf.Qa (Xs rf) (Xr rf Qb) (Qh (Zo rf))).getD (rf.Qc-1).toNat ML).getD (Qo rf Qb).2.1.toNat ML=(Qz rf Qb rf.Qc.toNat).at (Qo rf Qb).2.1:=U8 (by omega) (by omega) U3.1 U3.2.1;have P5:=W5 (VD (Qb:=Qb) (QC ‹Qy rf=true›) (s:=rf.Qc.toNat) (by omega)).1 U3.1 (show(Qo rf Qb).2.1<4 by omega);have hf5:0<=(Qz rf Qb rf.Qc.toNat).at (Qo rf Qb).2.1/\(Qz rf Qb rf.Qc.toNat).at (Qo rf Qb).2.1<=100000000000:=⟨P5.1,Int.le_trans P5.2.1 P5.2.2⟩
          have YA:=(Za ((QD ‹Qy rf=true›).2 (Qo rf Qb).2.1 U3.1 U3.2.1).1).2.2.1;have hsy4:(Qo rf Qb).2.2=(rf.Qa.getD (Qo rf Qb).2.1.toNat ML).goal-(Qz rf Qb rf.Qc.toNat).at (Qo rf Qb).2.1:=U3.2.2.2.1;exact(GoE.endsT okF hJ Qf GoE.start (qZ B rf Qb t)
           ⟨(Zh q8),hp3⟩).cast (by(exfalso;omega))
         ·have hp4:Q3 (St B rf Qb t):=by
           exact⟨(Zr (Int.not_lt.1 q8)),hp3⟩
          by_cases q9:((↑rf.Qa.length:Int):Int)<=(Prod.fst (Prod.snd (Qo rf Qb)))
          ·have UL:=QC ‹Qy rf=true›;have ZN:=Q6 (QD ‹Qy rf=true›).1;have hpf:=(Xa ‹QQ rf Qb=true›).1;have hpg:=Z0 (QC ‹Qy rf=true›) ‹QQ rf Qb=true›;have QF:=Ze (QC ‹Qy rf=true›) ‹QZ rf Qb t=true›;have Uv:=QF.1;have PM:=QF.2;have het:=Zf (Qb:=Qb) ‹Qy rf=true›;have hoe:=(Ze (QC ‹Qy rf=true›) het).1;have hshp:Zc rf.Qa.length rf.Qc (QI rf.Qc rf.Qa t.grows t.takes (Qh t.starts)):=Uv.shape (QV (QC ‹Qy rf=true›) ‹QZ rf Qb t=true›);have hshe:Zc rf.Qa.length rf.Qc (QI rf.Qc rf.Qa (Xs rf) (Xr rf Qb) (Qh (Zo rf))):=hoe.shape (QV (QC ‹Qy rf=true›) het);have U3:=VM (rf:=rf) (Qb:=Qb) ‹(Qo rf Qb).1=true›;have hq1:(QI rf.Qc rf.Qa (Xs rf) (Xr rf Qb) (Qh (Zo rf))).length=rf.Qc.toNat:=Xu;have hq2:=Zp (rf:=rf) (gs:=Xs rf) (ts:=Xr rf Qb) (f:=Qh (Zo rf)) (s:=rf.Qc-1) (by omega) (by omega) (by omega);have hlw:((QI rf.Qc rf.Qa (Xs rf) (Xr rf Qb) (Qh (Zo rf))).getD (rf.Qc-1).toNat ML).getD (Qo rf Qb).2.1.toNat ML=(Qz rf Qb rf.Qc.toNat).at (Qo rf Qb).2.1:=U8 (by omega) (by omega) U3.1 U3.2.1;have P5:=W5 (VD (Qb:=Qb) (QC ‹Qy rf=true›) (s:=rf.Qc.toNat) (by omega)).1 U3.1 (show(Qo rf Qb).2.1<4 by omega);have hf5:0<=(Qz rf Qb rf.Qc.toNat).at (Qo rf Qb).2.1/\(Qz rf Qb rf.Qc.toNat).at (Qo rf Qb).2.1<=100000000000:=⟨P5.1,Int.le_trans P5.2.1 P5.2.2⟩
           have YA:=(Za ((QD ‹Qy rf=true›).2 (Qo rf Qb).2.1 U3.1 U3.2.1).1).2.2.1;have hsy4:(Qo rf Qb).2.2=(rf.Qa.getD (Qo rf Qb).2.1.toNat ML).goal-(Qz rf Qb rf.Qc.toNat).at (Qo rf Qb).2.1:=U3.2.2.2.1;exact(GoE.endsT okF hJ Qf GoE.start (qY B rf Qb t)
            ⟨(Vn q9),hp4⟩).cast (by(exfalso;omega))
          ·have hp5:Q3 (Ss B rf Qb t):=by
            exact⟨(UK (Int.not_le.1 q9)),hp4⟩
           by_cases q10:(Prod.snd (Prod.snd (Qo rf Qb)):Int)<=(0)
           ·have UL:=QC ‹Qy rf=true›;have ZN:=Q6 (QD ‹Qy rf=true›).1;have hpf:=(Xa ‹QQ rf Qb=true›).1;have hpg:=Z0 (QC ‹Qy rf=true›) ‹QQ rf Qb=true›;have QF:=Ze (QC ‹Qy rf=true›) ‹QZ rf Qb t=true›;have Uv:=QF.1;have PM:=QF.2;have het:=Zf (Qb:=Qb) ‹Qy rf=true›;have hoe:=(Ze (QC ‹Qy rf=true›) het).1;have hshp:Zc rf.Qa.length rf.Qc (QI rf.Qc rf.Qa t.grows t.takes (Qh t.starts)):=Uv.shape (QV (QC ‹Qy rf=true›) ‹QZ rf Qb t=true›);have hshe:Zc rf.Qa.length rf.Qc (QI rf.Qc rf.Qa (Xs rf) (Xr rf Qb) (Qh (Zo rf))):=hoe.shape (QV (QC ‹Qy rf=true›) het);have U3:=VM (rf:=rf) (Qb:=Qb) ‹(Qo rf Qb).1=true›;have hq1:(QI rf.Qc rf.Qa (Xs rf) (Xr rf Qb) (Qh (Zo rf))).length=rf.Qc.toNat:=Xu;have hq2:=Zp (rf:=rf) (gs:=Xs rf) (ts:=Xr rf Qb) (f:=Qh (Zo rf)) (s:=rf.Qc-1) (by omega) (by omega) (by omega);have hlw:((QI rf.Qc rf.Qa (Xs rf) (Xr rf Qb) (Qh (Zo rf))).getD (rf.Qc-1).toNat ML).getD (Qo rf Qb).2.1.toNat ML=(Qz rf Qb rf.Qc.toNat).at (Qo rf Qb).2.1:=U8 (by omega) (by omega) U3.1 U3.2.1;have P5:=W5 (VD (Qb:=Qb) (QC ‹Qy rf=true›) (s:=rf.Qc.toNat) (by omega)).1 U3.1 (show(Qo rf Qb).2.1<4 by omega);have hf5:0<=(Qz rf Qb rf.Qc.toNat).at (Qo rf Qb).2.1/\(Qz rf Qb rf.Qc.toNat).at (Qo rf Qb).2.1<=100000000000:=⟨P5.1,Int.le_trans P5.2.1 P5.2.2⟩
            have YA:=(Za ((QD ‹Qy rf=true›).2 (Qo rf Qb).2.1 U3.1 U3.2.1).1).2.2.1;have hsy4:(Qo rf Qb).2.2=(rf.Qa.getD (Qo rf Qb).2.1.toNat ML).goal-(Qz rf Qb rf.Qc.toNat).at (Qo rf Qb).2.1:=U3.2.2.2.1;exact(GoE.endsT okF hJ Qf GoE.start (qX B rf Qb t)
             ⟨(Vn q10),hp5⟩).cast (by(exfalso;omega))
           ·have hp6:Q3 (Sr B rf Qb t):=by
             exact⟨(UK (Int.not_le.1 q10)),hp5⟩
            by_cases q11:(1000000:Int)<(Prod.snd (Prod.snd (Qo rf Qb)))
            ·have UL:=QC ‹Qy rf=true›;have ZN:=Q6 (QD ‹Qy rf=true›).1;have hpf:=(Xa ‹QQ rf Qb=true›).1;have hpg:=Z0 (QC ‹Qy rf=true›) ‹QQ rf Qb=true›;have QF:=Ze (QC ‹Qy rf=true›) ‹QZ rf Qb t=true›;have Uv:=QF.1;have PM:=QF.2;have het:=Zf (Qb:=Qb) ‹Qy rf=true›;have hoe:=(Ze (QC ‹Qy rf=true›) het).1;have hshp:Zc rf.Qa.length rf.Qc (QI rf.Qc rf.Qa t.grows t.takes (Qh t.starts)):=Uv.shape (QV (QC ‹Qy rf=true›) ‹QZ rf Qb t=true›);have hshe:Zc rf.Qa.length rf.Qc (QI rf.Qc rf.Qa (Xs rf) (Xr rf Qb) (Qh (Zo rf))):=hoe.shape (QV (QC ‹Qy rf=true›) het);have U3:=VM (rf:=rf) (Qb:=Qb) ‹(Qo rf Qb).1=true›;have hq1:(QI rf.Qc rf.Qa (Xs rf) (Xr rf Qb) (Qh (Zo rf))).length=rf.Qc.toNat:=Xu;have hq2:=Zp (rf:=rf) (gs:=Xs rf) (ts:=Xr rf Qb) (f:=Qh (Zo rf)) (s:=rf.Qc-1) (by omega) (by omega) (by omega);have hlw:((QI rf.Qc rf.Qa (Xs rf) (Xr rf Qb) (Qh (Zo rf))).getD (rf.Qc-1).toNat ML).getD (Qo rf Qb).2.1.toNat ML=(Qz rf Qb rf.Qc.toNat).at (Qo rf Qb).2.1:=U8 (by omega) (by omega) U3.1 U3.2.1;have P5:=W5 (VD (Qb:=Qb) (QC ‹Qy rf=true›) (s:=rf.Qc.toNat) (by omega)).1 U3.1 (show(Qo rf Qb).2.1<4 by omega);have hf5:0<=(Qz rf Qb rf.Qc.toNat).at (Qo rf Qb).2.1/\(Qz rf Qb rf.Qc.toNat).at (Qo rf Qb).2.1<=100000000000:=⟨P5.1,Int.le_trans P5.2.1 P5.2.2⟩
             have YA:=(Za ((QD ‹Qy rf=true›).2 (Qo rf Qb).2.1 U3.1 U3.2.1).1).2.2.1;have hsy4:(Qo rf Qb).2.2=(rf.Qa.getD (Qo rf Qb).2.1.toNat ML).goal-(Qz rf Qb rf.Qc.toNat).at (Qo rf Qb).2.1:=U3.2.2.2.1;exact(GoE.endsT okF hJ Qf GoE.start (qW B rf Qb t)
              ⟨(Zh q11),hp6⟩).cast (by(exfalso;omega))
            ·have hp7:Q3 (Sq B rf Qb t):=by
              have UL:=QC ‹Qy rf=true›;have ZN:=Q6 (QD ‹Qy rf=true›).1;have hpf:=(Xa ‹QQ rf Qb=true›).1;have hpg:=Z0 (QC ‹Qy rf=true›) ‹QQ rf Qb=true›;have QF:=Ze (QC ‹Qy rf=true›) ‹QZ rf Qb t=true›;have Uv:=QF.1;have PM:=QF.2;have het:=Zf (Qb:=Qb) ‹Qy rf=true›;have hoe:=(Ze (QC ‹Qy rf=true›) het).1;have hshp:Zc rf.Qa.length rf.Qc (QI rf.Qc rf.Qa t.grows t.takes (Qh t.starts)):=Uv.shape (QV (QC ‹Qy rf=true›) ‹QZ rf Qb t=true›);have hshe:Zc rf.Qa.length rf.Qc (QI rf.Qc rf.Qa (Xs rf) (Xr rf Qb) (Qh (Zo rf))):=hoe.shape (QV (QC ‹Qy rf=true›) het);have U3:=VM (rf:=rf) (Qb:=Qb) ‹(Qo rf Qb).1=true›;have hq1:(QI rf.Qc rf.Qa (Xs rf) (Xr rf Qb) (Qh (Zo rf))).length=rf.Qc.toNat:=Xu;have hq2:=Zp (rf:=rf) (gs:=Xs rf) (ts:=Xr rf Qb) (f:=Qh (Zo rf)) (s:=rf.Qc-1) (by omega) (by omega) (by omega);have hlw:((QI rf.Qc rf.Qa (Xs rf) (Xr rf Qb) (Qh (Zo rf))).getD (rf.Qc-1).toNat ML).getD (Qo rf Qb).2.1.toNat ML=(Qz rf Qb rf.Qc.toNat).at (Qo rf Qb).2.1:=U8 (by omega) (by omega) U3.1 U3.2.1;have P5:=W5 (VD (Qb:=Qb) (QC ‹Qy rf=true›) (s:=rf.Qc.toNat) (by omega)).1 U3.1 (show(Qo rf Qb).2.1<4 by omega);have hf5:0<=(Qz rf Qb rf.Qc.toNat).at (Qo rf Qb).2.1/\(Qz rf Qb rf.Qc.toNat).at (Qo rf Qb).2.1<=100000000000:=⟨P5.1,Int.le_trans P5.2.1 P5.2.2⟩
              have YA:=(Za ((QD ‹Qy rf=true›).2 (Qo rf Qb).2.1 U3.1 U3.2.1).1).2.2.1;have hsy4:(Qo rf Qb).2.2=(rf.Qa.getD (Qo rf Qb).2.1.toNat ML).goal-(Qz rf Qb rf.Qc.toNat).at (Qo rf Qb).2.1:=U3.2.2.2.1;exact⟨⟨by omega,by omega,(QA (z:=12) (fun _=>rfl) (by omega))⟩,⟨(XH (by omega) (by omega)),⟨⟨by omega,by omega,(QA (z:=1) (fun _=>rfl) (by omega))⟩,⟨⟨by omega,by omega,(QA (z:=1) (fun _=>rfl) (by omega))⟩,⟨(XH (by omega) (by omega)),⟨(Zr (Int.not_lt.1 q11)),hp6⟩⟩⟩⟩⟩⟩
             by_cases q12:(Na (Na (QI rf.Qc rf.Qa (Xs rf) (Xr rf Qb) (Qh (Zo rf))) (MM (rf.Qc-1)) ML) (MM (Prod.fst (Prod.snd (Qo rf Qb)))) ML+Prod.snd (Prod.snd (Qo rf Qb)):Int)≠(Qd.goal (rf.Qa.getD (MM (Prod.fst (Prod.snd (Qo rf Qb)))) ML))
             ·have UL:=QC ‹Qy rf=true›;have ZN:=Q6 (QD ‹Qy rf=true›).1;have hpf:=(Xa ‹QQ rf Qb=true›).1;have hpg:=Z0 (QC ‹Qy rf=true›) ‹QQ rf Qb=true›;have QF:=Ze (QC ‹Qy rf=true›) ‹QZ rf Qb t=true›;have Uv:=QF.1;have PM:=QF.2;have het:=Zf (Qb:=Qb) ‹Qy rf=true›;have hoe:=(Ze (QC ‹Qy rf=true›) het).1;have hshp:Zc rf.Qa.length rf.Qc (QI rf.Qc rf.Qa t.grows t.takes (Qh t.starts)):=Uv.shape (QV (QC ‹Qy rf=true›) ‹QZ rf Qb t=true›);have hshe:Zc rf.Qa.length rf.Qc (QI rf.Qc rf.Qa (Xs rf) (Xr rf Qb) (Qh (Zo rf))):=hoe.shape (QV (QC ‹Qy rf=true›) het);have U3:=VM (rf:=rf) (Qb:=Qb) ‹(Qo rf Qb).1=true›;have hq1:(QI rf.Qc rf.Qa (Xs rf) (Xr rf Qb) (Qh (Zo rf))).length=rf.Qc.toNat:=Xu;have hq2:=Zp (rf:=rf) (gs:=Xs rf) (ts:=Xr rf Qb) (f:=Qh (Zo rf)) (s:=rf.Qc-1) (by omega) (by omega) (by omega);have hlw:((QI rf.Qc rf.Qa (Xs rf) (Xr rf Qb) (Qh (Zo rf))).getD (rf.Qc-1).toNat ML).getD (Qo rf Qb).2.1.toNat ML=(Qz rf Qb rf.Qc.toNat).at (Qo rf Qb).2.1:=U8 (by omega) (by omega) U3.1 U3.2.1;have P5:=W5 (VD (Qb:=Qb) (QC ‹Qy rf=true›) (s:=rf.Qc.toNat) (by omega)).1 U3.1 (show(Qo rf Qb).2.1<4 by omega);have hf5:0<=(Qz rf Qb rf.Qc.toNat).at (Qo rf Qb).2.1/\(Qz rf Qb rf.Qc.toNat).at (Qo rf Qb).2.1<=100000000000:=⟨P5.1,Int.le_trans P5.2.1 P5.2.2⟩
              have YA:=(Za ((QD ‹Qy rf=true›).2 (Qo rf Qb).2.1 U3.1 U3.2.1).1).2.2.1;have hsy4:(Qo rf Qb).2.2=(rf.Qa.getD (Qo rf Qb).2.1.toNat ML).goal-(Qz rf Qb rf.Qc.toNat).at (Qo rf Qb).2.1:=U3.2.2.2.1;exact(GoE.endsT okF hJ Qf GoE.start (qU B rf Qb t)
               ⟨(JO q12),hp7⟩).cast (by(exfalso;omega))
             ·have UL:=QC ‹Qy rf=true›;have ZN:=Q6 (QD ‹Qy rf=true›).1;have hpf:=(Xa ‹QQ rf Qb=true›).1;have hpg:=Z0 (QC ‹Qy rf=true›) ‹QQ rf Qb=true›;have QF:=Ze (QC ‹Qy rf=true›) ‹QZ rf Qb t=true›;have Uv:=QF.1;have PM:=QF.2;have het:=Zf (Qb:=Qb) ‹Qy rf=true›;have hoe:=(Ze (QC ‹Qy rf=true›) het).1;have hshp:Zc rf.Qa.length rf.Qc (QI rf.Qc rf.Qa t.grows t.takes (Qh t.starts)):=Uv.shape (QV (QC ‹Qy rf=true›) ‹QZ rf Qb t=true›);have hshe:Zc rf.Qa.length rf.Qc (QI rf.Qc rf.Qa (Xs rf) (Xr rf Qb) (Qh (Zo rf))):=hoe.shape (QV (QC ‹Qy rf=true›) het);have U3:=VM (rf:=rf) (Qb:=Qb) ‹(Qo rf Qb).1=true›;have hq1:(QI rf.Qc rf.Qa (Xs rf) (Xr rf Qb) (Qh (Zo rf))).length=rf.Qc.toNat:=Xu;have hq2:=Zp (rf:=rf) (gs:=Xs rf) (ts:=Xr rf Qb) (f:=Qh (Zo rf)) (s:=rf.Qc-1) (by omega) (by omega) (by omega);have hlw:((QI rf.Qc rf.Qa (Xs rf) (Xr rf Qb) (Qh (Zo rf))).getD (rf.Qc-1).toNat ML).getD (Qo rf Qb).2.1.toNat ML=(Qz rf Qb rf.Qc.toNat).at (Qo rf Qb).2.1:=U8 (by omega) (by omega) U3.1 U3.2.1;have P5:=W5 (VD (Qb:=Qb) (QC ‹Qy rf=true›) (s:=rf.Qc.toNat) (by omega)).1 U3.1 (show(Qo rf Qb).2.1<4 by omega);have hf5:0<=(Qz rf Qb rf.Qc.toNat).at (Qo rf Qb).2.1/\(Qz rf Qb rf.Qc.toNat).at (Qo rf Qb).2.1<=100000000000:=⟨P5.1,Int.le_trans P5.2.1 P5.2.2⟩
              have YA:=(Za ((QD ‹Qy rf=true›).2 (Qo rf Qb).2.1 U3.1 U3.2.1).1).2.2.1;have hsy4:(Qo rf Qb).2.2=(rf.Qa.getD (Qo rf Qb).2.1.toNat ML).goal-(Qz rf Qb rf.Qc.toNat).at (Qo rf Qb).2.1:=U3.2.2.2.1;exact((cu rf Qb t XB hJ _) (Prod.fst (Prod.snd (Qo rf Qb))) (0) rfl (by with_reducible assumption) (by with_reducible assumption) (by with_reducible assumption) (by omega) (by omega) (by exact U3.2.2.2.2)
               (GoE.start.landM okF hJ Qf (qT B rf Qb t)
               ⟨(JP (Decidable.of_not_not q12)),hp7⟩ (by kernel_rfl) (by kernel_rfl))).cast (by rfl)
        |false=>
         have UL:=QC ‹Qy rf=true›;have ZN:=Q6 (QD ‹Qy rf=true›).1;have hpf:=(Xa ‹QQ rf Qb=true›).1;have hpg:=Z0 (QC ‹Qy rf=true›) ‹QQ rf Qb=true›;have QF:=Ze (QC ‹Qy rf=true›) ‹QZ rf Qb t=true›;have Uv:=QF.1;have PM:=QF.2;have het:=Zf (Qb:=Qb) ‹Qy rf=true›;have hoe:=(Ze (QC ‹Qy rf=true›) het).1;have hshp:Zc rf.Qa.length rf.Qc (QI rf.Qc rf.Qa t.grows t.takes (Qh t.starts)):=Uv.shape (QV (QC ‹Qy rf=true›) ‹QZ rf Qb t=true›);have hshe:Zc rf.Qa.length rf.Qc (QI rf.Qc rf.Qa (Xs rf) (Xr rf Qb) (Qh (Zo rf))):=hoe.shape (QV (QC ‹Qy rf=true›) het);have U3:=VM (rf:=rf) (Qb:=Qb) ‹(Qo rf Qb).1=true›;have hq1:(QI rf.Qc rf.Qa (Xs rf) (Xr rf Qb) (Qh (Zo rf))).length=rf.Qc.toNat:=Xu;have hq2:=Zp (rf:=rf) (gs:=Xs rf) (ts:=Xr rf Qb) (f:=Qh (Zo rf)) (s:=rf.Qc-1) (by omega) (by omega) (by omega);have hlw:((QI rf.Qc rf.Qa (Xs rf) (Xr rf Qb) (Qh (Zo rf))).getD (rf.Qc-1).toNat ML).getD (Qo rf Qb).2.1.toNat ML=(Qz rf Qb rf.Qc.toNat).at (Qo rf Qb).2.1:=U8 (by omega) (by omega) U3.1 U3.2.1;have P5:=W5 (VD (Qb:=Qb) (QC ‹Qy rf=true›) (s:=rf.Qc.toNat) (by omega)).1 U3.1 (show(Qo rf Qb).2.1<4 by omega);have hf5:0<=(Qz rf Qb rf.Qc.toNat).at (Qo rf Qb).2.1/\(Qz rf Qb rf.Qc.toNat).at (Qo rf Qb).2.1<=100000000000:=⟨P5.1,Int.le_trans P5.2.1 P5.2.2⟩
         have YA:=(Za ((QD ‹Qy rf=true›).2 (Qo rf Qb).2.1 U3.1 U3.2.1).1).2.2.1;have hsy4:(Qo rf Qb).2.2=(rf.Qa.getD (Qo rf Qb).2.1.toNat ML).goal-(Qz rf Qb rf.Qc.toNat).at (Qo rf Qb).2.1:=U3.2.2.2.1;exact(GoE.endsT okF hJ Qf GoE.start (oK B rf Qb t)
          ⟨⟨trivial,(by have t_:=rS (rf) (Qb) (Zo rf) (Xs rf) (Xr rf Qb);rw[q3,q4,q7]at t_;exact t_)⟩,KY⟩).cast (by(exfalso;simp_all;done))
       |false=>
        have hp8:Q3 (Sp B rf Qb t):=by
         have UL:=QC ‹Qy rf=true›;have ZN:=Q6 (QD ‹Qy rf=true›).1;have hpf:=(Xa ‹QQ rf Qb=true›).1;have hpg:=Z0 (QC ‹Qy rf=true›) ‹QQ rf Qb=true›;have QF:=Ze (QC ‹Qy rf=true›) ‹QZ rf Qb t=true›;have Uv:=QF.1;have PM:=QF.2;have het:=Zf (Qb:=Qb) ‹Qy rf=true›;have hoe:=(Ze (QC ‹Qy rf=true›) het).1;have hshp:Zc rf.Qa.length rf.Qc (QI rf.Qc rf.Qa t.grows t.takes (Qh t.starts)):=Uv.shape (QV (QC ‹Qy rf=true›) ‹QZ rf Qb t=true›);have hshe:Zc rf.Qa.length rf.Qc (QI rf.Qc rf.Qa (Xs rf) (Xr rf Qb) (Qh (Zo rf))):=hoe.shape (QV (QC ‹Qy rf=true›) het);have hsn:=jU (rf:=rf) (Qb:=Qb) ‹(Qo rf Qb).1=false›;have hq1:(QI rf.Qc rf.Qa (Xs rf) (Xr rf Qb) (Qh (Zo rf))).length=rf.Qc.toNat:=Xu;have hq2:=Zp (rf:=rf) (gs:=Xs rf) (ts:=Xr rf Qb) (f:=Qh (Zo rf)) (s:=rf.Qc-1) (by omega) (by omega) (by omega);exact⟨⟨trivial,Ie (rf) (Qb) (by with_reducible assumption) (by with_reducible assumption)⟩,⟨⟨trivial,(by have t_:=EF (rf) (Qb) (t);rw[q3,q4,q5]at t_;exact t_)⟩,⟨⟨trivial,(by have t_:=EA (rf) (Qb);rw[q3,q4,q6]at t_;exact t_)⟩,PV⟩⟩⟩
        cases q7:QZ rf Qb {starts:=Zo rf,grows:=Xs rf,takes:=Xr rf Qb}with
        |true=>
         have UL:=QC ‹Qy rf=true›;have ZN:=Q6 (QD ‹Qy rf=true›).1;have hpf:=(Xa ‹QQ rf Qb=true›).1;have hpg:=Z0 (QC ‹Qy rf=true›) ‹QQ rf Qb=true›;have QF:=Ze (QC ‹Qy rf=true›) ‹QZ rf Qb t=true›;have Uv:=QF.1;have PM:=QF.2;have het:=Zf (Qb:=Qb) ‹Qy rf=true›;have hoe:=(Ze (QC ‹Qy rf=true›) het).1;have hshp:Zc rf.Qa.length rf.Qc (QI rf.Qc rf.Qa t.grows t.takes (Qh t.starts)):=Uv.shape (QV (QC ‹Qy rf=true›) ‹QZ rf Qb t=true›);have hshe:Zc rf.Qa.length rf.Qc (QI rf.Qc rf.Qa (Xs rf) (Xr rf Qb) (Qh (Zo rf))):=hoe.shape (QV (QC ‹Qy rf=true›) het);have hsn:=jU (rf:=rf) (Qb:=Qb) ‹(Qo rf Qb).1=false›;have hq1:(QI rf.Qc rf.Qa (Xs rf) (Xr rf Qb) (Qh (Zo rf))).length=rf.Qc.toNat:=Xu;have hq2:=Zp (rf:=rf) (gs:=Xs rf) (ts:=Xr rf Qb) (f:=Qh (Zo rf)) (s:=rf.Qc-1) (by omega) (by omega) (by omega);exact((cu rf Qb t XB hJ _) ((↑rf.Qa.length:Int)) (0) rfl (by with_reducible assumption) (by with_reducible assumption) (by with_reducible assumption) (by omega) (by omega) (by with_reducible assumption)
          (GoE.start.landM okF hJ Qf (oJ B rf Qb t)
          ⟨⟨trivial,jc (rf) (QI rf.Qc rf.Qa (Xs rf) (Xr rf Qb) (Qh (Zo rf))) (by with_reducible assumption) (by omega)⟩,⟨⟨trivial,jc (rf) (QI rf.Qc rf.Qa t.grows t.takes (Qh t.starts)) (by with_reducible assumption) (by omega)⟩,⟨⟨trivial,(by have t_:=rS (rf) (Qb) (Zo rf) (Xs rf) (Xr rf Qb);rw[q3,q4,q7]at t_;exact t_)⟩,hp8⟩⟩⟩ (by kernel_rfl) (by kernel_rfl))).cast (by rfl)
        |false=>
         have UL:=QC ‹Qy rf=true›;have ZN:=Q6 (QD ‹Qy rf=true›).1;have hpf:=(Xa ‹QQ rf Qb=true›).1;have hpg:=Z0 (QC ‹Qy rf=true›) ‹QQ rf Qb=true›;have QF:=Ze (QC ‹Qy rf=true›) ‹QZ rf Qb t=true›;have Uv:=QF.1;have PM:=QF.2;have het:=Zf (Qb:=Qb) ‹Qy rf=true›;have hoe:=(Ze (QC ‹Qy rf=true›) het).1;have hshp:Zc rf.Qa.length rf.Qc (QI rf.Qc rf.Qa t.grows t.takes (Qh t.starts)):=Uv.shape (QV (QC ‹Qy rf=true›) ‹QZ rf Qb t=true›);have hshe:Zc rf.Qa.length rf.Qc (QI rf.Qc rf.Qa (Xs rf) (Xr rf Qb) (Qh (Zo rf))):=hoe.shape (QV (QC ‹Qy rf=true›) het);have hsn:=jU (rf:=rf) (Qb:=Qb) ‹(Qo rf Qb).1=false›;have hq1:(QI rf.Qc rf.Qa (Xs rf) (Xr rf Qb) (Qh (Zo rf))).length=rf.Qc.toNat:=Xu;have hq2:=Zp (rf:=rf) (gs:=Xs rf) (ts:=Xr rf Qb) (f:=Qh (Zo rf)) (s:=rf.Qc-1) (by omega) (by omega) (by omega);exact(GoE.endsT okF hJ Qf GoE.start (oI B rf Qb t)
          ⟨⟨trivial,(by have t_:=rS (rf) (Qb) (Zo rf) (Xs rf) (Xr rf Qb);rw[q3,q4,q7]at t_;exact t_)⟩,hp8⟩).cast (by(exfalso;simp_all;done))
      |false=>
       have rj0:FJ YP B (Xj rf Qb t) (QP rf Qb t) 3 (OO.ret (.bool false)) (([]++((3,Xo)::Xc (3+1) []))++QP rf Qb t) 4 (MP 3) []:=by
        have UL:=QC ‹Qy rf=true›;have ZN:=Q6 (QD ‹Qy rf=true›).1;have hpf:=(Xa ‹QQ rf Qb=true›).1;have hpg:=Z0 (QC ‹Qy rf=true›) ‹QQ rf Qb=true›;have het:=Zf (Qb:=Qb) ‹Qy rf=true›;have hoe:=(Ze (QC ‹Qy rf=true›) het).1;have hshe:Zc rf.Qa.length rf.Qc (QI rf.Qc rf.Qa (Xs rf) (Xr rf Qb) (Qh (Zo rf))):=hoe.shape (QV (QC ‹Qy rf=true›) het);have hq1:(QI rf.Qc rf.Qa (Xs rf) (Xr rf Qb) (Qh (Zo rf))).length=rf.Qc.toNat:=Xu;have hq2:=Zp (rf:=rf) (gs:=Xs rf) (ts:=Xr rf Qb) (f:=Qh (Zo rf)) (s:=rf.Qc-1) (by omega) (by omega) (by omega);exact FinK.fjB (GoE.finK okF hJ Qf (Q4 (by kernel_rfl)) (Qp (by kernel_rfl)) ((GoE.refl (P:=YP) (B:=B) (c0:=Xj rf Qb t) (Q4 (by kernel_rfl))).widen (Wf:=((([]):List (Nat×KS)).map (·.1))) (by simp) (Qp (by kernel_rfl))) (oH B rf Qb t)
         ⟨⟨trivial,(by have t_:=Dk (rf) (Qb) (t) (by with_reducible assumption) (by with_reducible assumption) (by with_reducible assumption);rw[q5]at t_;exact t_)⟩,⟨⟨trivial,(by have t_:=sJ (rf) (Qb);rw[q3,q4]at t_;exact t_)⟩,⟨⟨trivial,(by have t_:=nt (t);rw[q2]at t_;exact t_)⟩,⟨(Vn q1),⟨⟨trivial,(by have t_:=bP (rf);rw[q0]at t_;exact t_)⟩,trivial⟩⟩⟩⟩⟩) (ex:=[]) (by kernel_rfl) (Wp _)
       exact(GoE.endsT okF hJ Qf GoE.start (oG B rf Qb t)
        ⟨⟨trivial,known⟩,⟨rj0,trivial⟩⟩).cast rfl
     |false=>
      have rj0:FJ YP B (Xj rf Qb t) (QP rf Qb t) 3 (OO.ret (.bool false)) (([]++((3,Xo)::Xc (3+1) []))++QP rf Qb t) 4 (MP 3) []:=by
       have UL:=QC ‹Qy rf=true›;have ZN:=Q6 (QD ‹Qy rf=true›).1;have het:=Zf (Qb:=Qb) ‹Qy rf=true›;have hoe:=(Ze (QC ‹Qy rf=true›) het).1;have hshe:Zc rf.Qa.length rf.Qc (QI rf.Qc rf.Qa (Xs rf) (Xr rf Qb) (Qh (Zo rf))):=hoe.shape (QV (QC ‹Qy rf=true›) het);have hq1:(QI rf.Qc rf.Qa (Xs rf) (Xr rf Qb) (Qh (Zo rf))).length=rf.Qc.toNat:=Xu;have hq2:=Zp (rf:=rf) (gs:=Xs rf) (ts:=Xr rf Qb) (f:=Qh (Zo rf)) (s:=rf.Qc-1) (by omega) (by omega) (by omega);exact FinK.fjB (GoE.finK okF hJ Qf (Q4 (by kernel_rfl)) (Qp (by kernel_rfl)) ((GoE.refl (P:=YP) (B:=B) (c0:=Xj rf Qb t) (Q4 (by kernel_rfl))).widen (Wf:=((([]):List (Nat×KS)).map (·.1))) (by simp) (Qp (by kernel_rfl))) (oF B rf Qb t)
        ⟨⟨trivial,(by have t_:=sJ (rf) (Qb);rw[q3,q4]at t_;exact t_)⟩,⟨⟨trivial,(by have t_:=nt (t);rw[q2]at t_;exact t_)⟩,⟨(Vn q1),⟨⟨trivial,(by have t_:=bP (rf);rw[q0]at t_;exact t_)⟩,trivial⟩⟩⟩⟩) (ex:=[]) (by kernel_rfl) (Wp _)
      exact(GoE.endsT okF hJ Qf GoE.start (oE B rf Qb t)
       ⟨⟨trivial,known⟩,⟨rj0,trivial⟩⟩).cast rfl
    |false=>
     have rj0:FJ YP B (Xj rf Qb t) (QP rf Qb t) 3 (OO.ret (.bool false)) (([]++((3,Xo)::Xc (3+1) []))++QP rf Qb t) 4 (MP 3) []:=by
      have hq1:(QI rf.Qc rf.Qa (Xs rf) (Xr rf Qb) (Qh (Zo rf))).length=rf.Qc.toNat:=Xu;exact FinK.fjB (GoE.finK okF hJ Qf (Q4 (by kernel_rfl)) (Qp (by kernel_rfl)) ((GoE.refl (P:=YP) (B:=B) (c0:=Xj rf Qb t) (Q4 (by kernel_rfl))).widen (Wf:=((([]):List (Nat×KS)).map (·.1))) (by simp) (Qp (by kernel_rfl))) (oD B rf Qb t)
       ⟨⟨trivial,(by have t_:=sJ (rf) (Qb);rw[q3]at t_;exact t_)⟩,⟨⟨trivial,(by have t_:=nt (t);rw[q2]at t_;exact t_)⟩,⟨(Vn q1),⟨⟨trivial,(by have t_:=bP (rf);rw[q0]at t_;exact t_)⟩,trivial⟩⟩⟩⟩) (ex:=[]) (by kernel_rfl) (Wp _)
     exact(GoE.endsT okF hJ Qf GoE.start (oC B rf Qb t)
      ⟨⟨trivial,known⟩,⟨rj0,trivial⟩⟩).cast rfl
   |false=>
    have rj0:FJ YP B (Xj rf Qb t) (QP rf Qb t) 3 (OO.ret (.bool false)) (([]++((3,Xo)::Xc (3+1) []))++QP rf Qb t) 4 (MP 3) []:=by
     have hq1:(QI rf.Qc rf.Qa (Xs rf) (Xr rf Qb) (Qh (Zo rf))).length=rf.Qc.toNat:=Xu;exact FinK.fjB (GoE.finK okF hJ Qf (Q4 (by kernel_rfl)) (Qp (by kernel_rfl)) ((GoE.refl (P:=YP) (B:=B) (c0:=Xj rf Qb t) (Q4 (by kernel_rfl))).widen (Wf:=((([]):List (Nat×KS)).map (·.1))) (by simp) (Qp (by kernel_rfl))) (oB B rf Qb t)
      ⟨⟨trivial,(by have t_:=nt (t);rw[q2]at t_;exact t_)⟩,⟨(Vn q1),⟨⟨trivial,(by have t_:=bP (rf);rw[q0]at t_;exact t_)⟩,trivial⟩⟩⟩) (ex:=[]) (by kernel_rfl) (Wp _)
    exact(GoE.endsT okF hJ Qf GoE.start (oA B rf Qb t)
     ⟨⟨trivial,known⟩,⟨rj0,trivial⟩⟩).cast rfl
  ·have rj0:FJ YP B (Xj rf Qb t) (QP rf Qb t) 3 (OO.ret (.bool false)) (([]++((3,Xo)::Xc (3+1) []))++QP rf Qb t) 4 (MP 3) []:=by
    have hq1:(QI rf.Qc rf.Qa (Xs rf) (Xr rf Qb) (Qh (Zo rf))).length=rf.Qc.toNat:=Xu;exact FinK.fjB (GoE.finK okF hJ Qf (Q4 (by kernel_rfl)) (Qp (by kernel_rfl)) ((GoE.refl (P:=YP) (B:=B) (c0:=Xj rf Qb t) (Q4 (by kernel_rfl))).widen (Wf:=((([]):List (Nat×KS)).map (·.1))) (by simp) (Qp (by kernel_rfl))) (o9 B rf Qb t)
     ⟨(UK (Int.not_le.1 q1)),⟨⟨trivial,(by have t_:=bP (rf);rw[q0]at t_;exact t_)⟩,trivial⟩⟩) (ex:=[]) (by kernel_rfl) (Wp _)
   exact(GoE.endsT okF hJ Qf GoE.start (o8 B rf Qb t)
    ⟨⟨trivial,known⟩,⟨rj0,trivial⟩⟩).cast rfl
 |false=>
  have rj0:FJ YP B (Xj rf Qb t) (QP rf Qb t) 3 (OO.ret (.bool false)) (([]++((3,Xo)::Xc (3+1) []))++QP rf Qb t) 4 (MP 3) []:=by
   have hq1:(QI rf.Qc rf.Qa (Xs rf) (Xr rf Qb) (Qh (Zo rf))).length=rf.Qc.toNat:=Xu;exact FinK.fjB (GoE.finK okF hJ Qf (Q4 (by kernel_rfl)) (Qp (by kernel_rfl)) ((GoE.refl (P:=YP) (B:=B) (c0:=Xj rf Qb t) (Q4 (by kernel_rfl))).widen (Wf:=((([]):List (Nat×KS)).map (·.1))) (by simp) (Qp (by kernel_rfl))) (o7 B rf Qb t)
    ⟨⟨trivial,(by have t_:=bP (rf);rw[q0]at t_;exact t_)⟩,trivial⟩) (ex:=[]) (by kernel_rfl) (Wp _)
  exact(GoE.endsT okF hJ Qf GoE.start (o6 B rf Qb t)
   ⟨⟨trivial,known⟩,⟨rj0,trivial⟩⟩).cast rfl
theorem A7(rf:Qe)(Qb:List Int)(t:Qn)  :Q0 YP J0 9 #[.agg (Q1 rf).toArray,XF Qb,.agg #[XF t.starts,XU t.grows,XU t.takes]] (.bool true):=
 Vk (ts:=[.agg (Q1 rf).toArray,XF Qb,.agg #[XF t.starts,XU t.grows,XU t.takes]]) (Qb.length<=9223372036854775807) (fun _ _ ht=>ht.ln (i:=1) rfl) Zs (c0:=Qq YP 9 138 (([.agg (Q1 rf).toArray,XF Qb,.agg #[XF t.starts,XU t.grows,XU t.takes]]).map (Q5 0 4))) (by kernel_rfl) (by kernel_rfl) fun XB B hJ=>tC rf Qb t  XB hJ
end
end Go.Proofs.Ytncjjangllkokaa

namespace Go.Proofs.Ytncjjangllkokaa
open Go Go.CE Go.RowKit
theorem r5:∀trs,tx [jW,.slice .int,cB] trs->Q0 YP J0 9 trs.toArray (.bool true):=by
 rintro trs ⟨t0,_,rfl,h0,t1,_,rfl,h1,t2,_,rfl,h2,rfl⟩;obtain⟨r,rfl⟩:=Gf h0;obtain⟨l,rfl⟩:=Gg h1;obtain⟨t,rfl⟩:=CL h2;exact A7 r l t
end Go.Proofs.Ytncjjangllkokaa

namespace Go.Proofs.Ytncjjangllkokaa
open Go Go.CE Go.ChangeShapes Go.WideShapes Go.RowKit
set_option maxRecDepth 100000 in
theorem bg(os:Os)(started:os.Started)(H:Type)(enc:TypeId×Value->H):
 ReturnsInHanded {} Try.checked os 9 .any (Rows.reefRecoversSpec.pre6 enc YP Try.f9 Rows.reefRecoversRow.domain false) (Rows.reefRecoversSpec.post enc YP Try.f9 false true false false):=by
 refine returnsInHanded_of_change (C:=Try.checked) (show ownKnob YP.godebug=none by kernel_rfl) started (by kernel_rfl) Try.func9
  (ChangeSpec.witness6 (enc:=enc) (C:=Try.checked) false ⟨#[],#[Sh.zeroA jW,Sh.zeroA (.slice .int),Sh.zeroA cB],[]⟩ 8 (by kernel_rfl) (by kernel_rfl) (by kernel_rfl) (by kernel_rfl)) ?_
 intro W base args ds gs before hval0 hW _ _;have hval:∀(j:Nat) t v,Try.f9.params[j]? =some t->args[j]? =some v->Value.okWide YP W .any base t v:=hval0;have hW':=hW;obtain⟨p,q,hA0,hV,rfl,_,_⟩:=hW;obtain⟨rfl,rfl⟩:=trodVars_none hV;have hA1:DataW.TrodAll enc YP W 0 (fun _=>true) true Try.f9.params.toList args.toList ds p:=hA0;have X2:∀x∈p,x.block<W.heap.size:=fun x hx=>hW'.lt x (by simpa using hx)
 have PR:bU YP [jW,(.slice .int),cB] Try.f9.params.toList=true:=by kernel_rfl
 have hrd:(Try.f9.params.toList.all fun t=>YP.readableRec t && decide (t<YP.types.size))=true:=by kernel_rfl
 refine(Fs (J:=J0) (ss:=[jW,(.slice .int),cB]) trivial PR hA1 (fun j t v h1 h2=>hval j t v (by simpa using h1) h2) r5).mono fun e W' ⟨he,hB⟩=> ?_
 subst he;have hB2:=bk (show laidOutB YP=true by kernel_rfl) hB _ _ _ _ hrd hA1 X2;have hA:DataW.TrodAll enc YP W 0 (fun _=>true) true Try.f9.params.toList args.toList ds p:=hA1;rw[Try.params9]at hA;simp only[List.toList_toArray]at hA;have hA:=hA;obtain⟨v0,vs0,d0,ds0,p0,q0,_,rfl,_,h0,_⟩:=CE.trodAll_cons hA;obtain⟨v1,vs1,d1,ds1,p1,q1,_,rfl,_,h1,_⟩:=CE.trodAll_cons h0;obtain⟨v2,vs2,d2,ds2,p2,q2,_,rfl,_,h2,_⟩:=CE.trodAll_cons h1;obtain⟨_,rfl,_⟩:=CE.trodAll_nil h2;exact⟨_,rfl,_,_,_,[],_,[],hW',trodAll_mk1 (shut_bool Try.underlying4 _),hB2,rfl,hB.frame _,fun h=>by cases h⟩
theorem reefRecovers_row:Rows.ReefRecoversSaid:=
 OpenClaim.holds_of_wide 9 Try.f9 rfl rfl rfl rfl rfl rfl rfl ⟨rfl,rfl,rfl,rfl,rfl⟩ rfl rfl rfl rfl rfl (by kernel_rfl) Try.func9 (by kernel_rfl)
  (of_decide_eq_true (by kernel_rfl)) (by unfold Func.isWrapper;first|(rw[if_pos (by decide+kernel)];kernel_rfl)|(rw[if_neg (by decide+kernel)];exact⟨rfl,rfl⟩))
  (fun os started H enc _=>bg os started H enc)
end Go.Proofs.Ytncjjangllkokaa
