/- ReefSharp: whatever the input, it returns true, and each argument reads as it did. The row, from the walk. -/
import Derived.Test.YtncjjangllkokaaZRH17
import Derived.Test.YtncjjangllkokaaZRH18
import Derived.Test.YtncjjangllkokaaZRH15
import Derived.JoinedOf
import Derived.Test.YtncjjangllkokaaRows
set_option linter.all false
open Int renaming le_refl->LR,toNat->Lb
open List renaming length->Lc,getD->Ld
open Array renaming extract->Lh
open Nat renaming strongRecOn->Lz
open Inhabited renaming default->La
namespace Go.Proofs.Ytncjjangllkokaa
open Go Go.CE Go.RowKit
noncomputable section
set_option maxRecDepth 100000
theorem Nn{rf:Ql}{Qa:List Int}{k:Nat}:aH rf.Qb (Z3 rf) (ZQ rf Qa) (Qu (Zr rf)) k=Wx rf Qa k:=rfl
theorem G9{rf:Ql}{Qa:List Int}{k:Nat}:aH rf.Qb (Z4 rf) (ZP rf Qa) (Qu (Zs rf)) k=Zy rf Qa k:=rfl
theorem Ks{rf:Ql}{Qa:List Int}(hr:QL rf=true){s i:Int}(s0:0<=s)(s1:s<rf.Qd)(i0:0<=i)(i1:i<rf.Qb.length):
 ((QW rf.Qd rf.Qb (Z3 rf) (ZQ rf Qa) (Qu (Zr rf))).getD s.toNat La).getD i.toNat La=(((QH rf Qa).getD s.toNat La).getD i.toNat La).lo/\0<=(((QB rf Qa).getD s.toNat La).getD i.toNat La).lo/\(((QB rf Qa).getD s.toNat La).getD i.toNat La).lo<=(((QH rf Qa).getD s.toNat La).getD i.toNat La).lo/\(((QH rf Qa).getD s.toNat La).getD i.toNat La).lo<=Zm rf.Qc (((QB rf Qa).getD s.toNat La).getD i.toNat La).lo/\(0<(((QB rf Qa).getD s.toNat La).getD i.toNat La).lo->¬(((QH rf Qa).getD s.toNat La).getD i.toNat La).lo<=Zm rf.Qc ((((QB rf Qa).getD s.toNat La).getD i.toNat La).lo-1))/\(((QH rf Qa).getD s.toNat La).getD i.toNat La).lo<=100000000000:=by
 have ZA:=Q4 (QR hr).1;rw[vx s0 s1 i0 i1,Al s0 s1 i0 i1,DG (by omega) s0 s1 i0 i1,Nn];have hf:=YG (((aq Qa (ZV hr)).st (s.toNat+1) (by omega)).1) i0 (by omega);have hl:=pV (r:=rf.Qc) (n:=(YJ rf Qa s i).lo) ZA.2.1 hf.1;refine⟨rfl,hl.1,hl.2.1, ?_,fun h=> ?_,Int.le_trans hf.2.1 hf.2.2⟩
 ·have:=hl.2.2.2 _ (LR _);simp only[ZK,decide_eq_true_iff]at this;exact this
 ·have h1:0<XP rf.Qc (YJ rf Qa s i).lo:=h;have:=hl.2.2.1 (XP rf.Qc (YJ rf Qa s i).lo-1) (by omega) (by omega);simp only[ZK,decide_eq_false_iff_not]at this;exact this
theorem cu{rf:Ql}{Qa:List Int}(hr:QL rf=true){s i:Int}(s0:0<=s)(s1:s<rf.Qd)(i0:0<=i)(i1:i<rf.Qb.length):
 ((QW rf.Qd rf.Qb (Z4 rf) (ZP rf Qa) (Qu (Zs rf))).getD s.toNat La).getD i.toNat La=(((QH rf Qa).getD s.toNat La).getD i.toNat La).hi/\0<=(((QB rf Qa).getD s.toNat La).getD i.toNat La).hi/\(((QB rf Qa).getD s.toNat La).getD i.toNat La).hi=(((QH rf Qa).getD s.toNat La).getD i.toNat La).hi/\(((QH rf Qa).getD s.toNat La).getD i.toNat La).hi<=Zm rf.Qc (((QB rf Qa).getD s.toNat La).getD i.toNat La).hi/\(((QH rf Qa).getD s.toNat La).getD i.toNat La).hi<=100000000000:=by
 have ZA:=Q4 (QR hr).1;rw[vx s0 s1 i0 i1,Al s0 s1 i0 i1,DG (by omega) s0 s1 i0 i1,G9];have hf:=YG (((Sa Qa (ZV hr)).st (s.toNat+1) (by omega)).1) i0 (by omega);have hb:(Zy rf Qa (s.toNat+1)).at i<=100000000000:=Int.le_trans hf.2.1 hf.2.2;have h0:0<=(Zy rf Qa (s.toNat+1)).at i:=hf.1;exact⟨rfl,h0,rfl,(DO (a:=(Zy rf Qa (s.toNat+1)).at i) (r:=rf.Qc) ⟨h0,by omega⟩ ZA.2.1).1,hb⟩
section
variable (B:Lo)(c0:CF)(rf:Ql)(Qa:List Int)(s i:Int)(Qm:Nat->Value)
def K3:List Value:=let a:=QW rf.Qd rf.Qb (Z3 rf) (ZQ rf Qa) (Qu (Zr rf));[.bool false,pA 2 0,Qw 1 (QC a.length (Qe XA a)),Qw 1 (QC (Lc (QH rf Qa)) (Qe ZL (QH rf Qa))),Qw 1 (QC (Lc (QB rf Qa)) (Qe ZL (QB rf Qa))),YI s]
def Wj(Qa:List Int)(s:Int):List Obj:=[Obj.cells #[Qw 1 (QC rf.Qb.length (Qe Qi rf.Qb)),YI rf.Qc,YI rf.Qd] 24]
def K4:List Item:=([.code [1,1,1,1,1,1,0,1,0,0],.inLoop [1,1,1,1,1,1,0,1,0,0],.inBlock 0,.code [1,1,1,1,1,1,1]]).map (it (QG YP 7))
def Bf:Prop:=∃dJ:Nat->Value,(∀t,Xi (dJ t))/\GoE YP B c0 XW 1 (QA 7 199 (([2,3,7,10,12,14]:List Nat).zip (K3 rf Qa s)) dJ K4) (Q9 (Wj rf Qa s)) (2+(Wj rf Qa s).length) []
def Zz:List Value:=let a:=QW rf.Qd rf.Qb (Z3 rf) (ZQ rf Qa) (Qu (Zr rf));[.bool false,pA 2 0,Qw 1 (QC a.length (Qe XA a)),Qw 1 (QC (Lc (QH rf Qa)) (Qe ZL (QH rf Qa))),Qw 1 (QC (Lc (QB rf Qa)) (Qe ZL (QB rf Qa))),YI s,YI i]
def Zt(Qa:List Int)(s i:Int):List Obj:=[Obj.cells #[Qw 1 (QC rf.Qb.length (Qe Qi rf.Qb)),YI rf.Qc,YI rf.Qd] 24]
def Z0:List Item:=([.code [1,1,1,1,1,1,0,1,0,0,1,0,0,1,1,0,0],.inLoop [1,1,1,1,1,1,0,1,0,0,1,0,0,1,1,0,0],.inBlock 2,.inBlock 1,.code [1,1,1,1,1,1,0,1,0,0,1,1],.inLoop [1,1,1,1,1,1,0,1,0,0],.inBlock 0,.code [1,1,1,1,1,1,1]]).map (it (QG YP 7))
def Be:Prop:=∃dJ:Nat->Value,(∀t,Xi (dJ t))/\GoE YP B c0 XW 1 (QA 7 199 (([2,3,7,10,12,14,15]:List Nat).zip (Zz rf Qa s i)) dJ Z0) (Q9 (Zt rf Qa s i)) (2+(Zt rf Qa s i).length) []
def K2:Array Value:=#[.agg #[QC rf.Qb.length (Qe Qi rf.Qb),YI rf.Qc,YI rf.Qd],QC Qa.length (Qe Q5 Qa)]
def TE:Array Value:=#[QC (Lc (Zr rf)) (Qe Q5 (Zr rf)),QC (Lc (Z3 rf)) (Qe XA (Z3 rf)),QC (Lc (ZQ rf Qa)) (Qe XA (ZQ rf Qa))]
def Wi:Array Value:=#[QC rf.Qb.length (Qe Qi rf.Qb),YI rf.Qc,YI rf.Qd]
def TD:Value:=(.tuple #[QC (Lc (QB rf Qa)) (Qe ZL (QB rf Qa)),YI 0])
def TC:Value:=(.tuple #[QC (Lc (QH rf Qa)) (Qe ZL (QH rf Qa)),YI 0])
def dZ(B:Lo)(rf:Ql)(Qa:List Int)(s:Int)(Qm:Nat->Value):List Prop:=let c:=QH rf Qa;let b:=Lb s;let a:=QW rf.Qd rf.Qb (Z3 rf) (ZQ rf Qa) (Qu (Zr rf));[s=(↑b:Int)/\Lb s<Lc a/\Lh (Qe XA a) (Lb s*TypeInfo.size Try.t25) (Lb s*TypeInfo.size Try.t25+TypeInfo.size Try.t25)=#[QC (Lc (a.getD b La)) (Qe Q5 (a.getD b La))],s=(↑b:Int)/\Lb s<Lc c/\Lh (Qe ZL c) (Lb s*TypeInfo.size Try.t36) (Lb s*TypeInfo.size Try.t36+TypeInfo.size Try.t36)=#[QC (Lc (c.getD b La)) (Qe Qj (c.getD b La))],XC s (↑a.length:Int)=true]++([]:List Prop)
def mq(Qm:Nat->Value):Q7:=let c:=Lb s;let b:=Ld (QH rf Qa) c La;let a:=Ld (QW rf.Qd rf.Qb (Z3 rf) (ZQ rf Qa) (Qu (Zr rf))) c La;[(3,Z5),(6,Qh.tidx c #[QC b.length (Qe Qj b)]),(11,Qh.tidx c #[QC a.length (Qe Q5 a)])]
theorem Bc:QO (Qo YP (Q1 YP) J0 B 15 1 (QA 7 199 (([2,3,7,10,12,14]:List Nat).zip (K3 rf Qa s)) Qm K4) (Q9 (Wj rf Qa s)) (2+(Wj rf Qa s).length)
 (mq rf Qa s Qm++[(14,Z5)]) 0 [] []) []=some (.bool false,
 [(!Yo (↑(Lc (Ld (QH rf Qa) s.toNat La)):Int) (↑(Lc (Ld (QW rf.Qd rf.Qb (Z3 rf) (ZQ rf Qa) (Qu (Zr rf))) s.toNat La)):Int))=true]++dZ B rf Qa s Qm):=by kernel_rfl
def dY:List Prop:=let c:=QB rf Qa;let b:=Lb s;let a:=QW rf.Qd rf.Qb (Z3 rf) (ZQ rf Qa) (Qu (Zr rf));let d:=a.getD b La;[s=(↑b:Int)/\Lb s<Lc a/\Lh (Qe XA a) (Lb s*TypeInfo.size Try.t25) (Lb s*TypeInfo.size Try.t25+TypeInfo.size Try.t25)=#[QC d.length (Qe Q5 d)],s=(↑b:Int)/\Lb s<Lc c/\Lh (Qe ZL c) (Lb s*TypeInfo.size Try.t36) (Lb s*TypeInfo.size Try.t36+TypeInfo.size Try.t36)=#[QC (Lc (c.getD b La)) (Qe Qj (c.getD b La))],(!Yo (↑(Lc (Ld (QH rf Qa) b La)):Int) (↑d.length:Int))=false]++dZ B rf Qa s Qm
def mo:Q7:=let c:=Lb s;let b:=Ld (QB rf Qa) c La;let a:=Ld (QW rf.Qd rf.Qb (Z3 rf) (ZQ rf Qa) (Qu (Zr rf))) c La;mq rf Qa s Qm++[(14,ZW),(18,Qh.tidx c #[QC b.length (Qe Qj b)]),(23,Qh.tidx c #[QC a.length (Qe Q5 a)])]
theorem Bb:QO (Qo YP (Q1 YP) J0 B 15 1 (QA 7 199 (([2,3,7,10,12,14]:List Nat).zip (K3 rf Qa s)) Qm K4) (Q9 (Wj rf Qa s)) (2+(Wj rf Qa s).length)
 (mo rf Qa s Qm++[(26,Z5)]) 0 [] []) []=some (.bool false,
 [(!Yo (↑(Lc (Ld (QB rf Qa) s.toNat La)):Int) (↑(Lc (Ld (QW rf.Qd rf.Qb (Z3 rf) (ZQ rf Qa) (Qu (Zr rf))) s.toNat La)):Int))=true]++dY B rf Qa s Qm):=by kernel_rfl
theorem Ba:landM (Qo YP (Q1 YP) J0 B 16 1 (QA 7 199 (([2,3,7,10,12,14]:List Nat).zip (K3 rf Qa s)) Qm K4) (Q9 (Wj rf Qa s)) (2+(Wj rf Qa s).length)
 (mo rf Qa s Qm++[(26,ZW)]) 0 [] []) [2,3,7,10,12,14,15] [(2,KS.auto)] []=some ⟨7,199,Z0,[],.run,none,Zz rf Qa (s) (0),Zt rf Qa (s) (0),
 [(!Yo (↑(Lc (Ld (QB rf Qa) s.toNat La)):Int) (↑(Lc (Ld (QW rf.Qd rf.Qb (Z3 rf) (ZQ rf Qa) (Qu (Zr rf))) s.toNat La)):Int))=false]++dY B rf Qa s Qm⟩:=by kernel_rfl
theorem AZ:QO (Qo YP (Q1 YP) J0 B 9 1 (QA 7 199 (([2,3,7,10,12,14]:List Nat).zip (K3 rf Qa s)) Qm K4) (Q9 (Wj rf Qa s)) (2+(Wj rf Qa s).length)
 [(3,ZW),(4,Qh.pure (.bool true) [])] 0 [] []) []=some (.bool true,
 [Qr []/\Qn YP J0 16 #[] (.bool true),XC s (↑(Lc (QW rf.Qd rf.Qb (Z3 rf) (ZQ rf Qa) (Qu (Zr rf)))):Int)=false]):=by kernel_rfl
def dX(B:Lo)(rf:Ql)(Qa:List Int)(s i:Int)(Qm:Nat->Value):List Prop:=let a:=QW rf.Qd rf.Qb (Z3 rf) (ZQ rf Qa) (Qu (Zr rf));let b:=a.getD s.toNat La;[s=(↑s.toNat:Int)/\Lb s<Lc a/\Lh (Qe XA a) (Lb s*TypeInfo.size Try.t25) (Lb s*TypeInfo.size Try.t25+TypeInfo.size Try.t25)=#[QC b.length (Qe Q5 b)]]++([]:List Prop)
def mn(s i:Int)(Qm:Nat->Value):Q7:=let a:=Ld (QW rf.Qd rf.Qb (Z3 rf) (ZQ rf Qa) (Qu (Zr rf))) s.toNat La;[(3,Qh.tidx s.toNat #[QC a.length (Qe Q5 a)])]
def dW:List Prop:=let m:=QB rf Qa;let l:=QH rf Qa;let k:=Lb s*TypeInfo.size Try.t36;let j:=Lb i*TypeInfo.size Try.t38;let h:=Lb s*TypeInfo.size Try.t36+TypeInfo.size Try.t36;let g:=Lb i*TypeInfo.size Try.t38+TypeInfo.size Try.t38;let f:=Lb s;let e:=Lb i;let c:=l.getD f La;let b:=m.getD f La;let a:=QW rf.Qd rf.Qb (Z3 rf) (ZQ rf Qa) (Qu (Zr rf));let d:=a.getD f La;[i=(↑e:Int)/\Lb i<Lc d/\Lh (Qe Q5 d) (Lb i*TypeInfo.size Try.t3) (Lb i*TypeInfo.size Try.t3+TypeInfo.size Try.t3)=#[YI (d.getD e La)],s=(↑f:Int)/\Lb s<Lc a/\Lh (Qe XA a) (Lb s*TypeInfo.size Try.t25) (Lb s*TypeInfo.size Try.t25+TypeInfo.size Try.t25)=#[QC d.length (Qe Q5 d)],i=(↑e:Int)/\Lb i<Lc b/\Lh (Qe Qj b) j g=#[YI (Span.lo (b.getD e La)),YI (Span.hi (b.getD e La))],s=(↑f:Int)/\Lb s<Lc m/\Lh (Qe ZL m) k h=#[QC b.length (Qe Qj b)],i=(↑e:Int)/\Lb i<Lc c/\Lh (Qe Qj c) j g=#[YI (Span.lo (c.getD e La)),YI (Span.hi (c.getD e La))],s=(↑f:Int)/\Lb s<Lc l/\Lh (Qe ZL l) k h=#[QC c.length (Qe Qj c)],XC i (↑d.length:Int)=true]++dX B rf Qa s i Qm
def mm:Q7:=let e:=Lb s;let d:=Lb i;let c:=Ld (QB rf Qa) e La;let b:=Ld (QH rf Qa) e La;let a:=Ld (QW rf.Qd rf.Qb (Z3 rf) (ZQ rf Qa) (Qu (Zr rf))) e La;mn rf Qa s i Qm++[(6,Z5),(9,Qh.tidx e #[QC b.length (Qe Qj b)]),(12,Qh.tidx d #[YI (Span.lo (b.getD d La)),YI (Span.hi (b.getD d La))]),(17,Qh.tidx e #[QC c.length (Qe Qj c)]),(20,Qh.tidx d #[YI (Span.lo (c.getD d La)),YI (Span.hi (c.getD d La))]),(28,Qh.tidx e #[QC a.length (Qe Q5 a)]),(31,Qh.tidx d #[YI (a.getD d La)])]
theorem AY(B:Lo)(rf:Ql)(Qa:List Int)(s i:Int)(Qm:Nat->Value):let a:=Zt rf Qa s i;QO (Qo YP (Q1 YP) J0 B 21 1 (QA 7 199 (([2,3,7,10,12,14,15]:List Nat).zip (Zz rf Qa s i)) Qm Z0) (Q9 a) (2+a.length)
 (mm rf Qa s i Qm++[(34,Z5)]) 0 [] []) []=some (.bool false,
 [(!Yo (Ld (Ld (QW rf.Qd rf.Qb (Z3 rf) (ZQ rf Qa) (Qu (Zr rf))) s.toNat La) i.toNat La) (Span.lo (Ld (Ld (QH rf Qa) s.toNat La) i.toNat La)))=true]++dW B rf Qa s i Qm):=by intro a;kernel_rfl
def dV:List Prop:=[(!Yo (Ld (Ld (QW rf.Qd rf.Qb (Z3 rf) (ZQ rf Qa) (Qu (Zr rf))) s.toNat La) i.toNat La) (Span.lo (Ld (Ld (QH rf Qa) s.toNat La) i.toNat La)))=false]++dW B rf Qa s i Qm
def ml:Q7:=mm rf Qa s i Qm++[(34,ZW)]
theorem AX(B:Lo)(rf:Ql)(Qa:List Int)(s i:Int)(Qm:Nat->Value):let a:=Zt rf Qa s i;QO (Qo YP (Q1 YP) J0 B 21 1 (QA 7 199 (([2,3,7,10,12,14,15]:List Nat).zip (Zz rf Qa s i)) Qm Z0) (Q9 a) (2+a.length)
 (ml rf Qa s i Qm++[(37,Z5)]) 0 [] []) []=some (.bool false,
 [XC (Span.lo (Ld (Ld (QB rf Qa) s.toNat La) i.toNat La)) 0=true]++dV B rf Qa s i Qm):=by intro a;kernel_rfl
def dU:List Prop:=[XC (Span.lo (Ld (Ld (QB rf Qa) s.toNat La) i.toNat La)) 0=false]++dV B rf Qa s i Qm
def mj:Q7:=ml rf Qa s i Qm++[(37,ZW)]
theorem AW(B:Lo)(rf:Ql)(Qa:List Int)(s i:Int)(Qm:Nat->Value):let a:=Zt rf Qa s i;QO (Qo YP (Q1 YP) J0 B 21 1 (QA 7 199 (([2,3,7,10,12,14,15]:List Nat).zip (Zz rf Qa s i)) Qm Z0) (Q9 a) (2+a.length)
 (mj rf Qa s i Qm++[(42,Z5)]) 0 [] []) []=some (.bool false,
 [XC (Span.lo (Ld (Ld (QH rf Qa) s.toNat La) i.toNat La)) (Span.lo (Ld (Ld (QB rf Qa) s.toNat La) i.toNat La))=true]++dU B rf Qa s i Qm):=by intro a;kernel_rfl
def TG:List Prop:=[XC (Span.lo (Ld (Ld (QH rf Qa) s.toNat La) i.toNat La)) (Span.lo (Ld (Ld (QB rf Qa) s.toNat La) i.toNat La))=false]++dU B rf Qa s i Qm
def dR:Q7:=mj rf Qa s i Qm++[(42,ZW)]
def dT:List Prop:=[Qr []/\Qn YP J0 33 #[.agg (Wi rf),YI (Span.lo (Ld (Ld (QB rf Qa) s.toNat La) i.toNat La)),YI (Span.lo (Ld (Ld (QH rf Qa) s.toNat La) i.toNat La))] (.bool true)]++TG B rf Qa s i Qm
def mi:Q7:=dR rf Qa s i Qm++[(48,Qh.pure (.bool true) [])]
def TF:List Prop:=let a:=Ld (Ld (QB rf Qa) s.toNat La) i.toNat La;[wq (a.lo-1)=a.lo-1,XC 0 a.lo=true]++dT B rf Qa s i Qm
def dQ:Q7:=mi rf Qa s i Qm++[(56,Z5),(61,Wy (Span.lo (Ld (Ld (QB rf Qa) s.toNat La) i.toNat La)-1))]
theorem AV(B:Lo)(rf:Ql)(Qa:List Int)(s i:Int)(Qm:Nat->Value):let a:=Zt rf Qa s i;QO (Qo YP (Q1 YP) J0 B 21 1 (QA 7 199 (([2,3,7,10,12,14,15]:List Nat).zip (Zz rf Qa s i)) Qm Z0) (Q9 a) (2+a.length)
 (dQ rf Qa s i Qm++[(63,Qh.pure (.bool true) [])]) 0 [] []) []=some (.bool false,
 [Qr []/\Qn YP J0 33 #[.agg (Wi rf),YI (Span.lo (Ld (Ld (QB rf Qa) s.toNat La) i.toNat La)-1),YI (Span.lo (Ld (Ld (QH rf Qa) s.toNat La) i.toNat La))] (.bool true)]++TF B rf Qa s i Qm):=by intro a;kernel_rfl
theorem AU(B:Lo)(rf:Ql)(Qa:List Int)(s i:Int)(Qm:Nat->Value):let a:=Zt rf Qa s i;landM (Qo YP (Q1 YP) J0 B 21 1 (QA 7 199 (([2,3,7,10,12,14,15]:List Nat).zip (Zz rf Qa s i)) Qm Z0) (Q9 a) (2+a.length)
 (dQ rf Qa s i Qm++[(63,Qh.pure (.bool false) []),(67,Wy (i+1))]) 0 [] []) [2,3,7,10,12,14,15] [(2,KS.auto)] []=some ⟨7,199,Z0,[],.run,none,Zz rf Qa (s) (i+1),Zt rf Qa (s) (i+1),
 [wq (i+1)=i+1,Qr []/\Qn YP J0 33 #[.agg (Wi rf),YI (Span.lo (Ld (Ld (QB rf Qa) s.toNat La) i.toNat La)-1),YI (Span.lo (Ld (Ld (QH rf Qa) s.toNat La) i.toNat La))] (.bool false)]++TF B rf Qa s i Qm⟩:=by intro a;kernel_rfl
theorem AT(B:Lo)(rf:Ql)(Qa:List Int)(s i:Int)(Qm:Nat->Value):let a:=Zt rf Qa s i;landM (Qo YP (Q1 YP) J0 B 21 1 (QA 7 199 (([2,3,7,10,12,14,15]:List Nat).zip (Zz rf Qa s i)) Qm Z0) (Q9 a) (2+a.length)
 (dQ rf Qa s i Qm++[(63,Qh.pure (.bool false) []),(67,Wy (i+1))]) 0 [] []) [2,3,7,10,12,14,15] [(2,KS.auto)] []=some ⟨7,199,Z0,[],.run,none,Zz rf Qa (s) (i+1),Zt rf Qa (s) (i+1),
 [wq (i+1)=i+1,Qr []/\Qn YP J0 33 #[.agg (Wi rf),YI (Span.lo (Ld (Ld (QB rf Qa) s.toNat La) i.toNat La)-1),YI (Span.lo (Ld (Ld (QH rf Qa) s.toNat La) i.toNat La))] (.bool false)]++TF B rf Qa s i Qm⟩:=by intro a;kernel_rfl
theorem vn(B:Lo)(rf:Ql)(Qa:List Int)(s i:Int)(Qm:Nat->Value):let a:=Zt rf Qa s i;landM (Qo YP (Q1 YP) J0 B 21 1 (QA 7 199 (([2,3,7,10,12,14,15]:List Nat).zip (Zz rf Qa s i)) Qm Z0) (Q9 a) (2+a.length)
 (mi rf Qa s i Qm++[(56,ZW),(67,Wy (i+1))]) 0 [] []) [2,3,7,10,12,14,15] [(2,KS.auto)] []=some ⟨7,199,Z0,[],.run,none,Zz rf Qa (s) (i+1),Zt rf Qa (s) (i+1),
 [wq (i+1)=i+1,XC 0 (Span.lo (Ld (Ld (QB rf Qa) s.toNat La) i.toNat La))=false]++dT B rf Qa s i Qm⟩:=by intro a;kernel_rfl
theorem vm(B:Lo)(rf:Ql)(Qa:List Int)(s i:Int)(Qm:Nat->Value):let a:=Zt rf Qa s i;QO (Qo YP (Q1 YP) J0 B 21 1 (QA 7 199 (([2,3,7,10,12,14,15]:List Nat).zip (Zz rf Qa s i)) Qm Z0) (Q9 a) (2+a.length)
 (dR rf Qa s i Qm++[(48,Qh.pure (.bool false) [])]) 0 [] []) []=some (.bool false,
 [Qr []/\Qn YP J0 33 #[.agg (Wi rf),YI (Span.lo (Ld (Ld (QB rf Qa) s.toNat La) i.toNat La)),YI (Span.lo (Ld (Ld (QH rf Qa) s.toNat La) i.toNat La))] (.bool false)]++TG B rf Qa s i Qm):=by intro a;kernel_rfl
theorem vl(B:Lo)(rf:Ql)(Qa:List Int)(s i:Int)(Qm:Nat->Value):let a:=Zt rf Qa s i;QO (Qo YP (Q1 YP) J0 B 21 1 (QA 7 199 (([2,3,7,10,12,14,15]:List Nat).zip (Zz rf Qa s i)) Qm Z0) (Q9 a) (2+a.length)
 (dR rf Qa s i Qm++[(48,Qh.pure (.bool false) [])]) 0 [] []) []=some (.bool false,
 [Qr []/\Qn YP J0 33 #[.agg (Wi rf),YI (Span.lo (Ld (Ld (QB rf Qa) s.toNat La) i.toNat La)),YI (Span.lo (Ld (Ld (QH rf Qa) s.toNat La) i.toNat La))] (.bool false)]++TG B rf Qa s i Qm):=by intro a;kernel_rfl
theorem vk(B:Lo)(rf:Ql)(Qa:List Int)(s i:Int)(Qm:Nat->Value):let a:=Zt rf Qa s i;landM (Qo YP (Q1 YP) J0 B 8 1 (QA 7 199 (([2,3,7,10,12,14,15]:List Nat).zip (Zz rf Qa s i)) Qm Z0) (Q9 a) (2+a.length)
 (mn rf Qa s i Qm++[(6,ZW),(8,Wy (s+1))]) 0 [] []) [2,3,7,10,12,14] [(2,KS.auto)] []=some ⟨7,199,K4,[],.run,none,K3 rf Qa (s+1),Wj rf Qa (s+1),
 [wq (s+1)=s+1,XC i (↑(Lc (Ld (QW rf.Qd rf.Qb (Z3 rf) (ZQ rf Qa) (Qu (Zr rf))) s.toNat La)):Int)=false]++dX B rf Qa s i Qm⟩:=by intro a;kernel_rfl
def dS(B:Lo)(rf:Ql)(Qa:List Int):List Prop:=[Qr []/\Qn YP J0 15 #[.agg (Wi rf)] (.bool true)]++([]:List Prop)
def mh(rf:Ql)(Qa:List Int):Q7:=[(3,Qh.pure (.bool true) [])]
theorem vj:QO (Qo YP (Q1 YP) J0 B 10 1 (Qp YP 7 199 (([.agg (Qv rf).toArray,XH Qa,.bool false]).map (Q2 0 4))) XW 1
 (mh rf Qa++[(8,Z5),(16,Qh.pure (.bool true) [])]) 0 [] []) []=some (.bool true,
 [Qr []/\Qn YP J0 16 #[] (.bool true),XC 8 (↑Qa.length:Int)=true]++dS B rf Qa):=by kernel_rfl
def R6:List Prop:=[XC 8 (↑Qa.length:Int)=false]++dS B rf Qa
def aN:Q7:=mh rf Qa++[(8,ZW)]
def aQ:List Prop:=[Qr []/\Qn YP J0 34 #[.agg (Wi rf),QC Qa.length (Qe Q5 Qa),.bool false] (.agg (TE rf Qa)),Qr []/\Qn YP J0 21 (K2 rf Qa) (.bool true)]++R6 B rf Qa
def jn:Q7:=aN rf Qa++[(13,Qh.pure (.bool true) []),(21,Qh.pure (.agg (TE rf Qa)) [])]
def aP:List Prop:=let e:=ZQ rf Qa;let d:=rf.Qb;let c:=rf.Qd;let b:=Qu (Zr rf);let a:=QW c d (Z3 rf) e b;[Qr []/\Qn YP J0 31 #[.agg (Wi rf),QC a.length (Qe XA a)] (.bool true),Qr []/\Qn YP J0 19 (K2 rf Qa) (TD rf Qa),Qr []/\Qn YP J0 18 (K2 rf Qa) (TC rf Qa),Qr []/\Qn YP J0 26 #[.agg (Wi rf),QC Qa.length (Qe Q5 Qa),.agg (TE rf Qa)] (.tuple #[QC a.length (Qe XA a),.agg #[YI b.sum,YI (Xn 0 c (Ym d (Z3 rf) e b)),YI (Xn 0 c (Va d (Z3 rf) e b)),YI (Xn 0 c (Yj d (Z3 rf) e b)),YI (F4.sum (aH d (Z3 rf) e b c.toNat))],YI 0])]++aQ B rf Qa
def jl:Q7:=let d:=ZQ rf Qa;let c:=rf.Qb;let b:=rf.Qd;let a:=Qu (Zr rf);let e:=QW b c (Z3 rf) d a;jn rf Qa++[(22,Qh.pure (.tuple #[QC e.length (Qe XA e),.agg #[YI a.sum,YI (Xn 0 b (Ym c (Z3 rf) d a)),YI (Xn 0 b (Va c (Z3 rf) d a)),YI (Xn 0 b (Yj c (Z3 rf) d a)),YI (F4.sum (aH c (Z3 rf) d a b.toNat))],YI 0]) []),(33,Qh.pure (TC rf Qa) []),(41,Qh.pure (TD rf Qa) []),(60,Qh.pure (.bool true) [])]
theorem vi:QO (Qo YP (Q1 YP) J0 B 21 1 (Qp YP 7 199 (([.agg (Qv rf).toArray,XH Qa,.bool false]).map (Q2 0 4))) XW 1
 (jl rf Qa++[(68,Z5)]) 0 [] []) []=some (.bool false,
 [(!Yo (↑(Lc (QH rf Qa)):Int) (↑(Lc (QW rf.Qd rf.Qb (Z3 rf) (ZQ rf Qa) (Qu (Zr rf)))):Int))=true]++aP B rf Qa):=by kernel_rfl
def aO:List Prop:=[(!Yo (↑(Lc (QH rf Qa)):Int) (↑(Lc (QW rf.Qd rf.Qb (Z3 rf) (ZQ rf Qa) (Qu (Zr rf)))):Int))=false]++aP B rf Qa
def jk:Q7:=jl rf Qa++[(68,ZW)]
theorem vh:QO (Qo YP (Q1 YP) J0 B 21 1 (Qp YP 7 199 (([.agg (Qv rf).toArray,XH Qa,.bool false]).map (Q2 0 4))) XW 1
 (jk rf Qa++[(75,Z5)]) 0 [] []) []=some (.bool false,
 [(!Yo (↑(Lc (QB rf Qa)):Int) (↑(Lc (QW rf.Qd rf.Qb (Z3 rf) (ZQ rf Qa) (Qu (Zr rf)))):Int))=true]++aO B rf Qa):=by kernel_rfl
theorem vg:landM (Qo YP (Q1 YP) J0 B 23 1 (Qp YP 7 199 (([.agg (Qv rf).toArray,XH Qa,.bool false]).map (Q2 0 4))) XW 1
 (jk rf Qa++[(75,ZW)]) 0 [] []) [2,3,7,10,12,14] [(1,KS.auto)] []=some ⟨7,199,K4,[],.run,none,K3 rf Qa (0),Wj rf Qa (0),
 [(!Yo (↑(Lc (QB rf Qa)):Int) (↑(Lc (QW rf.Qd rf.Qb (Z3 rf) (ZQ rf Qa) (Qu (Zr rf)))):Int))=false]++aO B rf Qa⟩:=by kernel_rfl
theorem vf(B:Lo)(rf:Ql)(Qa:List Int):let a:=Value.tuple #[QC 0 #[],.agg #[YI 0,YI 0,YI 0,YI 0,YI 0],YI 2];QO (Qo YP (Q1 YP) J0 B 21 1 (Qp YP 7 199 (([.agg (Qv rf).toArray,XH Qa,.bool false]).map (Q2 0 4))) XW 1
 (jn rf Qa++[(22,Qh.pure a []),(33,Qh.pure (TC rf Qa) []),(41,Qh.pure (TD rf Qa) [])]) 0 [] []) []=some (.bool false,
 [Qr []/\Qn YP J0 19 (K2 rf Qa) (TD rf Qa),Qr []/\Qn YP J0 18 (K2 rf Qa) (TC rf Qa),Qr []/\Qn YP J0 26 #[.agg (Wi rf),QC Qa.length (Qe Q5 Qa),.agg (TE rf Qa)] a]++aQ B rf Qa):=by intro a;kernel_rfl
theorem vd:QO (Qo YP (Q1 YP) J0 B 10 1 (Qp YP 7 199 (([.agg (Qv rf).toArray,XH Qa,.bool false]).map (Q2 0 4))) XW 1
 (aN rf Qa++[(13,Qh.pure (.bool false) []),(16,Qh.pure (.bool true) [])]) 0 [] []) []=some (.bool true,
 [Qr []/\Qn YP J0 16 #[] (.bool true),Qr []/\Qn YP J0 21 (K2 rf Qa) (.bool false)]++R6 B rf Qa):=by kernel_rfl
theorem va:QO (Qo YP (Q1 YP) J0 B 10 1 (Qp YP 7 199 (([.agg (Qv rf).toArray,XH Qa,.bool false]).map (Q2 0 4))) XW 1
 (aN rf Qa++[(13,Qh.pure (.bool false) []),(16,Qh.pure (.bool true) [])]) 0 [] []) []=some (.bool true,
 [Qr []/\Qn YP J0 16 #[] (.bool true),Qr []/\Qn YP J0 21 (K2 rf Qa) (.bool false)]++R6 B rf Qa):=by kernel_rfl
theorem uZ:QO (Qo YP (Q1 YP) J0 B 10 1 (Qp YP 7 199 (([.agg (Qv rf).toArray,XH Qa,.bool false]).map (Q2 0 4))) XW 1
 [(3,Qh.pure (.bool false) []),(16,Qh.pure (.bool true) [])] 0 [] []) []=some (.bool true,
 [Qr []/\Qn YP J0 16 #[] (.bool true),Qr []/\Qn YP J0 15 #[.agg (Wi rf)] (.bool false)]):=by kernel_rfl
end
set_option maxHeartbeats 4000000 in
theorem Bd(rf:Ql)(Qa:List Int)  (X2:Qa.length<=9223372036854775807){B:Lo}(hJ:∀w,B.has w->J0 w){c0:CF}:∀m:Nat,(∀(s:Int),100*(rf.Qd-s).toNat=m->∀(hr:QL rf=true) (hpl:Xo rf Qa=true) (s0:0<=s),Bf B c0 rf Qa s->EndsT YP B c0 (.bool true))/\(∀(s i:Int),100*(rf.Qd-s).toNat-50+(rf.Qb.length-i.toNat)=m->∀(hr:QL rf=true) (hpl:Xo rf Qa=true) (s0:0<=s) (s1:s<rf.Qd) (i0:0<=i),Be B c0 rf Qa s i->EndsT YP B c0 (.bool true)):=by
 intro m0;induction m0 using Lz with
 |_ m0 ih0=>
  refine⟨?_, ?_⟩
  ·intro s YA hr hpl s0 ⟨Qm,ZF,Xs⟩;have hkl:(QH rf Qa).length=rf.Qd.toNat:=Xk;have hcl:(QB rf Qa).length=rf.Qd.toNat:=Xk;have ZA:=Q4 (QR hr).1;have het:=Rn (Qa:=Qa) hr;have hoe:=(al hr het).1;have Ss:PR rf.Qb.length rf.Qd (QW rf.Qd rf.Qb (Z3 rf) (ZQ rf Qa) (Qu (Zr rf))):=hoe.shape (Vx hr het);have hs1:=Ss.1;by_cases q0:(s:Int)<((↑(Lc (QW rf.Qd rf.Qb (Z3 rf) (ZQ rf Qa) (Qu (Zr rf)))):Int))
   ·have Vw:Qr (dZ B rf Qa s Qm):=by
     exact⟨⟨by omega,by omega,(Qs (z:=1) (fun _=>rfl) (by omega))⟩,⟨⟨by omega,by omega,(Qs (z:=1) (fun _=>rfl) (by omega))⟩,⟨(Xd q0),trivial⟩⟩⟩
    by_cases q1:((↑(Lc (Ld (QH rf Qa) s.toNat La)):Int):Int)≠((↑(Lc (Ld (QW rf.Qd rf.Qb (Z3 rf) (ZQ rf Qa) (Qu (Zr rf))) s.toNat La)):Int))
    ·have hls:=(Ss.2 s s0 (by omega)).1;have hlc:=PK (rf:=rf) (Qa:=Qa) s0 (by omega);exact(GoE.endsT okF hJ Qf Xs (Bc B rf Qa s Qm)
      ⟨(KE q1),Vw⟩).cast (by(exfalso;omega))
    ·have UP:Qr (dY B rf Qa s Qm):=by
      exact⟨⟨by omega,by omega,(Qs (z:=1) (fun _=>rfl) (by omega))⟩,⟨⟨by omega,by omega,(Qs (z:=1) (fun _=>rfl) (by omega))⟩,⟨(KF (Decidable.of_not_not q1)),Vw⟩⟩⟩
     by_cases q2:((↑(Lc (Ld (QB rf Qa) s.toNat La)):Int):Int)≠((↑(Lc (Ld (QW rf.Qd rf.Qb (Z3 rf) (ZQ rf Qa) (Qu (Zr rf))) s.toNat La)):Int))
     ·have hls:=(Ss.2 s s0 (by omega)).1;have hlc:=PK (rf:=rf) (Qa:=Qa) s0 (by omega);exact(GoE.endsT okF hJ Qf Xs (Bb B rf Qa s Qm)
       ⟨(KE q2),UP⟩).cast (by(exfalso;omega))
     ·have hls:=(Ss.2 s s0 (by omega)).1;exact((ih0 _ (by omega)).2 (s) (0) rfl (by with_reducible assumption) (by with_reducible assumption) (by with_reducible assumption) (by omega) (by omega)
       (Xs.landM okF hJ Qf (Ba B rf Qa s Qm)
       ⟨(KF (Decidable.of_not_not q2)),UP⟩ (by kernel_rfl) (by kernel_rfl))).cast (by rfl)
   ·exact(GoE.endsT okF hJ Qf Xs (AZ B rf Qa s Qm)
     ⟨⟨trivial,known⟩,⟨(X9 (Int.not_lt.1 q0)),trivial⟩⟩).cast rfl
  ·intro s i YA hr hpl s0 s1 i0 ⟨Qm,ZF,Xs⟩;have hkl:(QH rf Qa).length=rf.Qd.toNat:=Xk;have hcl:(QB rf Qa).length=rf.Qd.toNat:=Xk;have ZA:=Q4 (QR hr).1;have het:=Rn (Qa:=Qa) hr;have hoe:=(al hr het).1;have Ss:PR rf.Qb.length rf.Qd (QW rf.Qd rf.Qb (Z3 rf) (ZQ rf Qa) (Qu (Zr rf))):=hoe.shape (Vx hr het);have hs1:=Ss.1;have hls:=(Ss.2 s s0 (by omega)).1;have hlc:=PK (rf:=rf) (Qa:=Qa) s0 s1;have Pb:Qr (dX B rf Qa s i Qm):=by
    exact⟨⟨by omega,by omega,(Qs (z:=1) (fun _=>rfl) (by omega))⟩,trivial⟩
   by_cases q0:(i:Int)<((↑(Lc (Ld (QW rf.Qd rf.Qb (Z3 rf) (ZQ rf Qa) (Qu (Zr rf))) s.toNat La)):Int))
   ·have hp3:Qr (dW B rf Qa s i Qm):=by
     have YF:=Ks (Qa:=Qa) hr s0 s1 i0 (by omega);exact⟨⟨by omega,by omega,(Qs (z:=1) (fun _=>rfl) (by omega))⟩,⟨⟨by omega,by omega,(Qs (z:=1) (fun _=>rfl) (by omega))⟩,⟨⟨by omega,by omega,(Qs (z:=2) (fun _=>rfl) (by omega))⟩,⟨⟨by omega,by omega,(Qs (z:=1) (fun _=>rfl) (by omega))⟩,⟨⟨by omega,by omega,(Qs (z:=2) (fun _=>rfl) (by omega))⟩,⟨⟨by omega,by omega,(Qs (z:=1) (fun _=>rfl) (by omega))⟩,⟨(Xd q0),Pb⟩⟩⟩⟩⟩⟩⟩
    by_cases q1:(Ld (Ld (QW rf.Qd rf.Qb (Z3 rf) (ZQ rf Qa) (Qu (Zr rf))) s.toNat La) i.toNat La:Int)≠(Span.lo (Ld (Ld (QH rf Qa) s.toNat La) i.toNat La))
    ·have YF:=Ks (Qa:=Qa) hr s0 s1 i0 (by omega);exact(GoE.endsT okF hJ Qf Xs (AY B rf Qa s i Qm)
      ⟨(KE q1),hp3⟩).cast (by(exfalso;omega))
    ·have T5:Qr (dV B rf Qa s i Qm):=by
      exact⟨(KF (Decidable.of_not_not q1)),hp3⟩
     by_cases q2:(Span.lo (Ld (Ld (QB rf Qa) s.toNat La) i.toNat La):Int)<(0)
     ·have YF:=Ks (Qa:=Qa) hr s0 s1 i0 (by omega);exact(GoE.endsT okF hJ Qf Xs (AX B rf Qa s i Qm)
       ⟨(Xd q2),T5⟩).cast (by(exfalso;omega))
     ·have hp5:Qr (dU B rf Qa s i Qm):=by
       exact⟨(X9 (Int.not_lt.1 q2)),T5⟩
      by_cases q3:(Span.lo (Ld (Ld (QH rf Qa) s.toNat La) i.toNat La):Int)<(Span.lo (Ld (Ld (QB rf Qa) s.toNat La) i.toNat La))
      ·have YF:=Ks (Qa:=Qa) hr s0 s1 i0 (by omega);exact(GoE.endsT okF hJ Qf Xs (AW B rf Qa s i Qm)
        ⟨(Xd q3),hp5⟩).cast (by(exfalso;omega))
      ·have hp6:Qr (TG B rf Qa s i Qm):=by
        exact⟨(X9 (Int.not_lt.1 q3)),hp5⟩
       cases q4:decide (Span.lo (Ld (Ld (QB rf Qa) s.toNat La) i.toNat La)<=Span.lo (Ld (Ld (QH rf Qa) s.toNat La) i.toNat La))with
       |true=>
        cases q5:decide (Span.lo (Ld (Ld (QH rf Qa) s.toNat La) i.toNat La)<=Zm rf.Qc (Span.lo (Ld (Ld (QB rf Qa) s.toNat La) i.toNat La)))with
        |true=>
         have hp7:Qr (dT B rf Qa s i Qm):=by
          have YF:=Ks (Qa:=Qa) hr s0 s1 i0 (by omega);exact⟨⟨trivial,(by have t_:=Ps (rf) (Span.lo (Ld (Ld (QB rf Qa) s.toNat La) i.toNat La)) (Span.lo (Ld (Ld (QH rf Qa) s.toNat La) i.toNat La)) (by omega) (by omega);rw[q4,q5]at t_;exact t_)⟩,hp6⟩
         by_cases q6:(0:Int)<(Span.lo (Ld (Ld (QB rf Qa) s.toNat La) i.toNat La))
         ·have hp8:Qr (TF B rf Qa s i Qm):=by
           have YF:=Ks (Qa:=Qa) hr s0 s1 i0 (by omega);exact⟨(QY (by omega) (by omega)),⟨(Xd q6),hp7⟩⟩
          cases q7:decide (Span.lo (Ld (Ld (QB rf Qa) s.toNat La) i.toNat La)-1<=Span.lo (Ld (Ld (QH rf Qa) s.toNat La) i.toNat La))with
          |true=>
           cases q8:decide (Span.lo (Ld (Ld (QH rf Qa) s.toNat La) i.toNat La)<=Zm rf.Qc (Span.lo (Ld (Ld (QB rf Qa) s.toNat La) i.toNat La)-1))with
           |true=>
            have YF:=Ks (Qa:=Qa) hr s0 s1 i0 (by omega);exact(GoE.endsT okF hJ Qf Xs (AV B rf Qa s i Qm)
             ⟨⟨trivial,(by have t_:=Ps (rf) (Span.lo (Ld (Ld (QB rf Qa) s.toNat La) i.toNat La)-1) (Span.lo (Ld (Ld (QH rf Qa) s.toNat La) i.toNat La)) (by omega) (by omega);rw[q7,q8]at t_;exact t_)⟩,hp8⟩).cast (by(exfalso;simp only[decide_eq_true_iff,decide_eq_false_iff_not]at *;omega))
           |false=>
            have YF:=Ks (Qa:=Qa) hr s0 s1 i0 (by omega);exact((ih0 _ (by omega)).2 (s) (i+1) rfl (by with_reducible assumption) (by with_reducible assumption) (by with_reducible assumption) (by with_reducible assumption) (by omega)
             (Xs.landM okF hJ Qf (AU B rf Qa s i Qm)
             ⟨(QY (by omega) (by omega)),⟨⟨trivial,(by have t_:=Ps (rf) (Span.lo (Ld (Ld (QB rf Qa) s.toNat La) i.toNat La)-1) (Span.lo (Ld (Ld (QH rf Qa) s.toNat La) i.toNat La)) (by omega) (by omega);rw[q7,q8]at t_;exact t_)⟩,hp8⟩⟩ (by kernel_rfl) (by kernel_rfl))).cast (by rfl)
          |false=>
           have YF:=Ks (Qa:=Qa) hr s0 s1 i0 (by omega);exact((ih0 _ (by omega)).2 (s) (i+1) rfl (by with_reducible assumption) (by with_reducible assumption) (by with_reducible assumption) (by with_reducible assumption) (by omega)
            (Xs.landM okF hJ Qf (AT B rf Qa s i Qm)
            ⟨(QY (by omega) (by omega)),⟨⟨trivial,(by have t_:=Ps (rf) (Span.lo (Ld (Ld (QB rf Qa) s.toNat La) i.toNat La)-1) (Span.lo (Ld (Ld (QH rf Qa) s.toNat La) i.toNat La)) (by omega) (by omega);rw[q7]at t_;exact t_)⟩,hp8⟩⟩ (by kernel_rfl) (by kernel_rfl))).cast (by rfl)
         ·have YF:=Ks (Qa:=Qa) hr s0 s1 i0 (by omega);exact((ih0 _ (by omega)).2 (s) (i+1) rfl (by with_reducible assumption) (by with_reducible assumption) (by with_reducible assumption) (by with_reducible assumption) (by omega)
           (Xs.landM okF hJ Qf (vn B rf Qa s i Qm)
           ⟨(QY (by omega) (by omega)),⟨(X9 (Int.not_lt.1 q6)),hp7⟩⟩ (by kernel_rfl) (by kernel_rfl))).cast (by rfl)
        |false=>
         have YF:=Ks (Qa:=Qa) hr s0 s1 i0 (by omega);exact(GoE.endsT okF hJ Qf Xs (vm B rf Qa s i Qm)
          ⟨⟨trivial,(by have t_:=Ps (rf) (Span.lo (Ld (Ld (QB rf Qa) s.toNat La) i.toNat La)) (Span.lo (Ld (Ld (QH rf Qa) s.toNat La) i.toNat La)) (by omega) (by omega);rw[q4,q5]at t_;exact t_)⟩,hp6⟩).cast (by(exfalso;simp only[decide_eq_true_iff,decide_eq_false_iff_not]at *;omega))
       |false=>
        have YF:=Ks (Qa:=Qa) hr s0 s1 i0 (by omega);exact(GoE.endsT okF hJ Qf Xs (vl B rf Qa s i Qm)
         ⟨⟨trivial,(by have t_:=Ps (rf) (Span.lo (Ld (Ld (QB rf Qa) s.toNat La) i.toNat La)) (Span.lo (Ld (Ld (QH rf Qa) s.toNat La) i.toNat La)) (by omega) (by omega);rw[q4]at t_;exact t_)⟩,hp6⟩).cast (by(exfalso;simp only[decide_eq_true_iff,decide_eq_false_iff_not]at *;omega))
   ·exact((ih0 _ (by omega)).1 (s+1) rfl (by with_reducible assumption) (by with_reducible assumption) (by omega)
     (Xs.landM okF hJ Qf (vk B rf Qa s i Qm)
     ⟨(QY (by omega) (by omega)),⟨(X9 (Int.not_lt.1 q0)),Pb⟩⟩ (by kernel_rfl) (by kernel_rfl))).cast (by rfl)
set_option maxHeartbeats 4000000 in
theorem Eo(rf:Ql)(Qa:List Int)  (X2:Qa.length<=9223372036854775807){B:Lo}(hJ:∀w,B.has w->J0 w):EndsT YP B (Qp YP 7 199 (([.agg (Qv rf).toArray,XH Qa,.bool false]).map (Q2 0 4))) (.bool true):=by
 have hkl:(QH rf Qa).length=rf.Qd.toNat:=Xk;have hcl:(QB rf Qa).length=rf.Qd.toNat:=Xk;cases q0:decide (Lc rf.Qb<=8)with
 |true=>
  have hp9:Qr (dS B rf Qa):=by
   exact⟨⟨trivial,(by have t_:=ue (rf);rw[q0]at t_;exact t_)⟩,trivial⟩
  by_cases q1:(8:Int)<((↑Qa.length:Int))
  ·exact(GoE.endsT okF hJ Qf GoE.start (vj B rf Qa)
    ⟨⟨trivial,known⟩,⟨(Xd q1),hp9⟩⟩).cast rfl
  ·have hp10:Qr (R6 B rf Qa):=by
    exact⟨(X9 (Int.not_lt.1 q1)),hp9⟩
   cases q2:QL rf with
   |true=>
    cases q3:Xo rf Qa with
    |true=>
     have hp11:Qr (aQ B rf Qa):=by
      have Ja:=ZV ‹QL rf=true›;exact⟨⟨trivial,QaQ (rf) (Qa) (by with_reducible assumption) (by with_reducible assumption)⟩,⟨⟨trivial,(by have t_:=iU (rf) (Qa);rw[q2,q3]at t_;exact t_)⟩,hp10⟩⟩
     cases q4:Za rf Qa {starts:=Zr rf,grows:=Z3 rf,takes:=ZQ rf Qa}with
     |true=>
      have hp12:Qr (aP B rf Qa):=by
       have ZA:=Q4 (QR ‹QL rf=true›).1;have het:=Rn (Qa:=Qa) ‹QL rf=true›;have hoe:=(al (ZV ‹QL rf=true›) het).1;have Ss:PR rf.Qb.length rf.Qd (QW rf.Qd rf.Qb (Z3 rf) (ZQ rf Qa) (Qu (Zr rf))):=hoe.shape (Vx (ZV ‹QL rf=true›) het);exact⟨⟨trivial,Dy (rf) (QW rf.Qd rf.Qb (Z3 rf) (ZQ rf Qa) (Qu (Zr rf))) (by with_reducible assumption) (by omega)⟩,⟨⟨trivial,(by have t_:=l6 (rf) (Qa);rw[q2,q3]at t_;exact t_)⟩,⟨⟨trivial,(by have t_:=l5 (rf) (Qa);rw[q2,q3]at t_;exact t_)⟩,⟨⟨trivial,(by have t_:=tG (rf) (Qa) (Zr rf) (Z3 rf) (ZQ rf Qa);rw[q2,q3,q4]at t_;exact t_)⟩,hp11⟩⟩⟩⟩
      by_cases q5:((↑(Lc (QH rf Qa)):Int):Int)≠((↑(Lc (QW rf.Qd rf.Qb (Z3 rf) (ZQ rf Qa) (Qu (Zr rf)))):Int))
      ·have ZA:=Q4 (QR ‹QL rf=true›).1;have het:=Rn (Qa:=Qa) ‹QL rf=true›;have hoe:=(al (ZV ‹QL rf=true›) het).1;have Ss:PR rf.Qb.length rf.Qd (QW rf.Qd rf.Qb (Z3 rf) (ZQ rf Qa) (Qu (Zr rf))):=hoe.shape (Vx (ZV ‹QL rf=true›) het);have hs1:=Ss.1;exact(GoE.endsT okF hJ Qf GoE.start (vi B rf Qa)
        ⟨(KE q5),hp12⟩).cast (by(exfalso;omega))
      ·have hp13:Qr (aO B rf Qa):=by
        exact⟨(KF (Decidable.of_not_not q5)),hp12⟩
       by_cases q6:((↑(Lc (QB rf Qa)):Int):Int)≠((↑(Lc (QW rf.Qd rf.Qb (Z3 rf) (ZQ rf Qa) (Qu (Zr rf)))):Int))
       ·exact(GoE.endsT okF hJ Qf GoE.start (vh B rf Qa)
         ⟨(KE q6),hp13⟩).cast (by(exfalso;omega))
       ·exact((Bd rf Qa X2 hJ _).1 (0) rfl (by with_reducible assumption) (by with_reducible assumption) (by omega)
         (GoE.start.landM okF hJ Qf (vg B rf Qa)
         ⟨(KF (Decidable.of_not_not q6)),hp13⟩ (by kernel_rfl) (by kernel_rfl))).cast (by rfl)
     |false=>
      have het:=Rn (Qa:=Qa) ‹QL rf=true›;exact(GoE.endsT okF hJ Qf GoE.start (vf B rf Qa)
       ⟨⟨trivial,(by have t_:=l6 (rf) (Qa);rw[q2,q3]at t_;exact t_)⟩,⟨⟨trivial,(by have t_:=l5 (rf) (Qa);rw[q2,q3]at t_;exact t_)⟩,⟨⟨trivial,(by have t_:=tG (rf) (Qa) (Zr rf) (Z3 rf) (ZQ rf Qa);rw[q2,q3,q4]at t_;exact t_)⟩,hp11⟩⟩⟩).cast (by(exfalso;simp_all;done))
    |false=>
     exact(GoE.endsT okF hJ Qf GoE.start (vd B rf Qa)
      ⟨⟨trivial,known⟩,⟨⟨trivial,(by have t_:=iU (rf) (Qa);rw[q2,q3]at t_;exact t_)⟩,hp10⟩⟩).cast rfl
   |false=>
    exact(GoE.endsT okF hJ Qf GoE.start (va B rf Qa)
     ⟨⟨trivial,known⟩,⟨⟨trivial,(by have t_:=iU (rf) (Qa);rw[q2]at t_;exact t_)⟩,hp10⟩⟩).cast rfl
 |false=>
  exact(GoE.endsT okF hJ Qf GoE.start (uZ B rf Qa)
   ⟨⟨trivial,known⟩,⟨⟨trivial,(by have t_:=ue (rf);rw[q0]at t_;exact t_)⟩,trivial⟩⟩).cast rfl
theorem Ng(rf:Ql)(Qa:List Int)  :Qn YP J0 7 #[.agg (Qv rf).toArray,XH Qa,.bool false] (.bool true):=
 Vd (ts:=[.agg (Qv rf).toArray,XH Qa,.bool false]) (Qa.length<=9223372036854775807) (fun _ _ ht=>ht.ln (i:=1) rfl) XZ (c0:=Qp YP 7 199 (([.agg (Qv rf).toArray,XH Qa,.bool false]).map (Q2 0 4))) (by kernel_rfl) (by kernel_rfl) fun X2 B hJ=>Eo rf Qa  X2 hJ
section
variable (B:Lo)(c0:CF)(rf:Ql)(Qa:List Int)(s i:Int)(Qm:Nat->Value)
def K0:List Value:=let a:=QW rf.Qd rf.Qb (Z4 rf) (ZP rf Qa) (Qu (Zs rf));[.bool true,pA 2 0,Qw 1 (QC a.length (Qe XA a)),Qw 1 (QC (Lc (QH rf Qa)) (Qe ZL (QH rf Qa))),Qw 1 (QC (Lc (QB rf Qa)) (Qe ZL (QB rf Qa))),YI s]
def Wh(Qa:List Int)(s:Int):List Obj:=[Obj.cells #[Qw 1 (QC rf.Qb.length (Qe Qi rf.Qb)),YI rf.Qc,YI rf.Qd] 24]
def K1:List Item:=([.code [1,1,1,1,1,1,0,1,0,0],.inLoop [1,1,1,1,1,1,0,1,0,0],.inBlock 0,.code [1,1,1,1,1,1,1]]).map (it (QG YP 7))
def AS:Prop:=∃dJ:Nat->Value,(∀t,Xi (dJ t))/\GoE YP B c0 XW 1 (QA 7 199 (([2,3,7,10,12,14]:List Nat).zip (K0 rf Qa s)) dJ K1) (Q9 (Wh rf Qa s)) (2+(Wh rf Qa s).length) []
def WQ:List Value:=let a:=QW rf.Qd rf.Qb (Z4 rf) (ZP rf Qa) (Qu (Zs rf));[.bool true,pA 2 0,Qw 1 (QC a.length (Qe XA a)),Qw 1 (QC (Lc (QH rf Qa)) (Qe ZL (QH rf Qa))),Qw 1 (QC (Lc (QB rf Qa)) (Qe ZL (QB rf Qa))),YI s,YI i]
def W4(Qa:List Int)(s i:Int):List Obj:=[Obj.cells #[Qw 1 (QC rf.Qb.length (Qe Qi rf.Qb)),YI rf.Qc,YI rf.Qd] 24]
def WR:List Item:=([.code [1,1,1,1,1,1,0,1,0,0,1,0,0,1,1,0,0],.inLoop [1,1,1,1,1,1,0,1,0,0,1,0,0,1,1,0,0],.inBlock 2,.inBlock 1,.code [1,1,1,1,1,1,0,1,0,0,1,1],.inLoop [1,1,1,1,1,1,0,1,0,0],.inBlock 0,.code [1,1,1,1,1,1,1]]).map (it (QG YP 7))
def AQ:Prop:=∃dJ:Nat->Value,(∀t,Xi (dJ t))/\GoE YP B c0 XW 1 (QA 7 199 (([2,3,7,10,12,14,15]:List Nat).zip (WQ rf Qa s i)) dJ WR) (Q9 (W4 rf Qa s i)) (2+(W4 rf Qa s i).length) []
def Kz:Array Value:=#[.agg #[QC rf.Qb.length (Qe Qi rf.Qb),YI rf.Qc,YI rf.Qd],QC Qa.length (Qe Q5 Qa)]
def T9:Array Value:=#[QC (Lc (Zs rf)) (Qe Q5 (Zs rf)),QC (Lc (Z4 rf)) (Qe XA (Z4 rf)),QC (Lc (ZP rf Qa)) (Qe XA (ZP rf Qa))]
def V3:Array Value:=#[QC rf.Qb.length (Qe Qi rf.Qb),YI rf.Qc,YI rf.Qd]
def T8:Value:=(.tuple #[QC (Lc (QB rf Qa)) (Qe ZL (QB rf Qa)),YI 0])
def T7:Value:=(.tuple #[QC (Lc (QH rf Qa)) (Qe ZL (QH rf Qa)),YI 0])
def dP(B:Lo)(rf:Ql)(Qa:List Int)(s:Int)(Qm:Nat->Value):List Prop:=let c:=QH rf Qa;let b:=Lb s;let a:=QW rf.Qd rf.Qb (Z4 rf) (ZP rf Qa) (Qu (Zs rf));[s=(↑b:Int)/\Lb s<Lc a/\Lh (Qe XA a) (Lb s*TypeInfo.size Try.t25) (Lb s*TypeInfo.size Try.t25+TypeInfo.size Try.t25)=#[QC (Lc (a.getD b La)) (Qe Q5 (a.getD b La))],s=(↑b:Int)/\Lb s<Lc c/\Lh (Qe ZL c) (Lb s*TypeInfo.size Try.t36) (Lb s*TypeInfo.size Try.t36+TypeInfo.size Try.t36)=#[QC (Lc (c.getD b La)) (Qe Qj (c.getD b La))],XC s (↑a.length:Int)=true]++([]:List Prop)
def mg(Qm:Nat->Value):Q7:=let c:=Lb s;let b:=Ld (QH rf Qa) c La;let a:=Ld (QW rf.Qd rf.Qb (Z4 rf) (ZP rf Qa) (Qu (Zs rf))) c La;[(3,Z5),(6,Qh.tidx c #[QC b.length (Qe Qj b)]),(11,Qh.tidx c #[QC a.length (Qe Q5 a)])]
theorem AO:QO (Qo YP (Q1 YP) J0 B 15 1 (QA 7 199 (([2,3,7,10,12,14]:List Nat).zip (K0 rf Qa s)) Qm K1) (Q9 (Wh rf Qa s)) (2+(Wh rf Qa s).length)
 (mg rf Qa s Qm++[(14,Z5)]) 0 [] []) []=some (.bool false,
 [(!Yo (↑(Lc (Ld (QH rf Qa) s.toNat La)):Int) (↑(Lc (Ld (QW rf.Qd rf.Qb (Z4 rf) (ZP rf Qa) (Qu (Zs rf))) s.toNat La)):Int))=true]++dP B rf Qa s Qm):=by kernel_rfl
def dO:List Prop:=let c:=QB rf Qa;let b:=Lb s;let a:=QW rf.Qd rf.Qb (Z4 rf) (ZP rf Qa) (Qu (Zs rf));let d:=a.getD b La;[s=(↑b:Int)/\Lb s<Lc a/\Lh (Qe XA a) (Lb s*TypeInfo.size Try.t25) (Lb s*TypeInfo.size Try.t25+TypeInfo.size Try.t25)=#[QC d.length (Qe Q5 d)],s=(↑b:Int)/\Lb s<Lc c/\Lh (Qe ZL c) (Lb s*TypeInfo.size Try.t36) (Lb s*TypeInfo.size Try.t36+TypeInfo.size Try.t36)=#[QC (Lc (c.getD b La)) (Qe Qj (c.getD b La))],(!Yo (↑(Lc (Ld (QH rf Qa) b La)):Int) (↑d.length:Int))=false]++dP B rf Qa s Qm
def mf:Q7:=let c:=Lb s;let b:=Ld (QB rf Qa) c La;let a:=Ld (QW rf.Qd rf.Qb (Z4 rf) (ZP rf Qa) (Qu (Zs rf))) c La;mg rf Qa s Qm++[(14,ZW),(18,Qh.tidx c #[QC b.length (Qe Qj b)]),(23,Qh.tidx c #[QC a.length (Qe Q5 a)])]
theorem AN:QO (Qo YP (Q1 YP) J0 B 15 1 (QA 7 199 (([2,3,7,10,12,14]:List Nat).zip (K0 rf Qa s)) Qm K1) (Q9 (Wh rf Qa s)) (2+(Wh rf Qa s).length)
 (mf rf Qa s Qm++[(26,Z5)]) 0 [] []) []=some (.bool false,
 [(!Yo (↑(Lc (Ld (QB rf Qa) s.toNat La)):Int) (↑(Lc (Ld (QW rf.Qd rf.Qb (Z4 rf) (ZP rf Qa) (Qu (Zs rf))) s.toNat La)):Int))=true]++dO B rf Qa s Qm):=by kernel_rfl
theorem AM:landM (Qo YP (Q1 YP) J0 B 16 1 (QA 7 199 (([2,3,7,10,12,14]:List Nat).zip (K0 rf Qa s)) Qm K1) (Q9 (Wh rf Qa s)) (2+(Wh rf Qa s).length)
 (mf rf Qa s Qm++[(26,ZW)]) 0 [] []) [2,3,7,10,12,14,15] [(2,KS.auto)] []=some ⟨7,199,WR,[],.run,none,WQ rf Qa (s) (0),W4 rf Qa (s) (0),
 [(!Yo (↑(Lc (Ld (QB rf Qa) s.toNat La)):Int) (↑(Lc (Ld (QW rf.Qd rf.Qb (Z4 rf) (ZP rf Qa) (Qu (Zs rf))) s.toNat La)):Int))=false]++dO B rf Qa s Qm⟩:=by kernel_rfl
theorem AL:QO (Qo YP (Q1 YP) J0 B 9 1 (QA 7 199 (([2,3,7,10,12,14]:List Nat).zip (K0 rf Qa s)) Qm K1) (Q9 (Wh rf Qa s)) (2+(Wh rf Qa s).length)
 [(3,ZW),(4,Qh.pure (.bool true) [])] 0 [] []) []=some (.bool true,
 [Qr []/\Qn YP J0 16 #[] (.bool true),XC s (↑(Lc (QW rf.Qd rf.Qb (Z4 rf) (ZP rf Qa) (Qu (Zs rf)))):Int)=false]):=by kernel_rfl
def dN(B:Lo)(rf:Ql)(Qa:List Int)(s i:Int)(Qm:Nat->Value):List Prop:=let a:=QW rf.Qd rf.Qb (Z4 rf) (ZP rf Qa) (Qu (Zs rf));let b:=a.getD s.toNat La;[s=(↑s.toNat:Int)/\Lb s<Lc a/\Lh (Qe XA a) (Lb s*TypeInfo.size Try.t25) (Lb s*TypeInfo.size Try.t25+TypeInfo.size Try.t25)=#[QC b.length (Qe Q5 b)]]++([]:List Prop)
def me(s i:Int)(Qm:Nat->Value):Q7:=let a:=Ld (QW rf.Qd rf.Qb (Z4 rf) (ZP rf Qa) (Qu (Zs rf))) s.toNat La;[(3,Qh.tidx s.toNat #[QC a.length (Qe Q5 a)])]
def dM:List Prop:=let o:=QB rf Qa;let n:=QH rf Qa;let k:=Lb s;let j:=Lb s*TypeInfo.size Try.t36;let h:=Lb i*TypeInfo.size Try.t38;let g:=Lb i;let e:=Lb s*TypeInfo.size Try.t36+TypeInfo.size Try.t36;let d:=Lb i*TypeInfo.size Try.t38+TypeInfo.size Try.t38;let c:=n.getD k La;let m:=c.getD g La;let b:=o.getD k La;let l:=b.getD g La;let a:=QW rf.Qd rf.Qb (Z4 rf) (ZP rf Qa) (Qu (Zs rf));let f:=a.getD k La;[i=(↑g:Int)/\Lb i<Lc f/\Lh (Qe Q5 f) (Lb i*TypeInfo.size Try.t3) (Lb i*TypeInfo.size Try.t3+TypeInfo.size Try.t3)=#[YI (f.getD g La)],s=(↑k:Int)/\Lb s<Lc a/\Lh (Qe XA a) (Lb s*TypeInfo.size Try.t25) (Lb s*TypeInfo.size Try.t25+TypeInfo.size Try.t25)=#[QC f.length (Qe Q5 f)],i=(↑g:Int)/\Lb i<Lc b/\Lh (Qe Qj b) h d=#[YI l.lo,YI l.hi],s=(↑k:Int)/\Lb s<Lc o/\Lh (Qe ZL o) j e=#[QC b.length (Qe Qj b)],i=(↑g:Int)/\Lb i<Lc c/\Lh (Qe Qj c) h d=#[YI m.lo,YI m.hi],s=(↑k:Int)/\Lb s<Lc n/\Lh (Qe ZL n) j e=#[QC c.length (Qe Qj c)],i=(↑g:Int)/\Lb i<Lc b/\Lh (Qe Qj b) h d=#[YI l.lo,YI l.hi],s=(↑k:Int)/\Lb s<Lc o/\Lh (Qe ZL o) j e=#[QC b.length (Qe Qj b)],i=(↑g:Int)/\Lb i<Lc c/\Lh (Qe Qj c) h d=#[YI m.lo,YI m.hi],s=(↑k:Int)/\Lb s<Lc n/\Lh (Qe ZL n) j e=#[QC c.length (Qe Qj c)],XC i (↑f.length:Int)=true]++dN B rf Qa s i Qm
def md:Q7:=let e:=Lb s;let d:=Lb i;let c:=Ld (QW rf.Qd rf.Qb (Z4 rf) (ZP rf Qa) (Qu (Zs rf))) e La;let b:=Ld (QB rf Qa) e La;let g:=b.getD d La;let a:=Ld (QH rf Qa) e La;let f:=a.getD d La;me rf Qa s i Qm++[(6,Z5),(9,Qh.tidx e #[QC a.length (Qe Qj a)]),(12,Qh.tidx d #[YI f.lo,YI f.hi]),(17,Qh.tidx e #[QC b.length (Qe Qj b)]),(20,Qh.tidx d #[YI g.lo,YI g.hi]),(28,Qh.tidx e #[QC a.length (Qe Qj a)]),(31,Qh.tidx d #[YI f.lo,YI f.hi]),(36,Qh.tidx e #[QC b.length (Qe Qj b)]),(39,Qh.tidx d #[YI g.lo,YI g.hi]),(46,Qh.tidx e #[QC c.length (Qe Q5 c)]),(49,Qh.tidx d #[YI (c.getD d La)])]
theorem AK(B:Lo)(rf:Ql)(Qa:List Int)(s i:Int)(Qm:Nat->Value):let a:=W4 rf Qa s i;QO (Qo YP (Q1 YP) J0 B 21 1 (QA 7 199 (([2,3,7,10,12,14,15]:List Nat).zip (WQ rf Qa s i)) Qm WR) (Q9 a) (2+a.length)
 (md rf Qa s i Qm++[(52,Z5)]) 0 [] []) []=some (.bool false,
 [(!Yo (Ld (Ld (QW rf.Qd rf.Qb (Z4 rf) (ZP rf Qa) (Qu (Zs rf))) s.toNat La) i.toNat La) (Span.hi (Ld (Ld (QH rf Qa) s.toNat La) i.toNat La)))=true]++dM B rf Qa s i Qm):=by intro a;kernel_rfl
def dL:List Prop:=[(!Yo (Ld (Ld (QW rf.Qd rf.Qb (Z4 rf) (ZP rf Qa) (Qu (Zs rf))) s.toNat La) i.toNat La) (Span.hi (Ld (Ld (QH rf Qa) s.toNat La) i.toNat La)))=false]++dM B rf Qa s i Qm
def mc:Q7:=md rf Qa s i Qm++[(52,ZW)]
theorem AJ(B:Lo)(rf:Ql)(Qa:List Int)(s i:Int)(Qm:Nat->Value):let a:=W4 rf Qa s i;QO (Qo YP (Q1 YP) J0 B 21 1 (QA 7 199 (([2,3,7,10,12,14,15]:List Nat).zip (WQ rf Qa s i)) Qm WR) (Q9 a) (2+a.length)
 (mc rf Qa s i Qm++[(55,Z5)]) 0 [] []) []=some (.bool false,
 [XC (Span.hi (Ld (Ld (QB rf Qa) s.toNat La) i.toNat La)) 0=true]++dL B rf Qa s i Qm):=by intro a;kernel_rfl
def dK:List Prop:=[XC (Span.hi (Ld (Ld (QB rf Qa) s.toNat La) i.toNat La)) 0=false]++dL B rf Qa s i Qm
def mb:Q7:=mc rf Qa s i Qm++[(55,ZW)]
theorem AI(B:Lo)(rf:Ql)(Qa:List Int)(s i:Int)(Qm:Nat->Value):let a:=W4 rf Qa s i;QO (Qo YP (Q1 YP) J0 B 21 1 (QA 7 199 (([2,3,7,10,12,14,15]:List Nat).zip (WQ rf Qa s i)) Qm WR) (Q9 a) (2+a.length)
 (mb rf Qa s i Qm++[(60,Z5)]) 0 [] []) []=some (.bool false,
 [XC (Span.hi (Ld (Ld (QH rf Qa) s.toNat La) i.toNat La)) (Span.hi (Ld (Ld (QB rf Qa) s.toNat La) i.toNat La))=true]++dK B rf Qa s i Qm):=by intro a;kernel_rfl
def TB:List Prop:=[XC (Span.hi (Ld (Ld (QH rf Qa) s.toNat La) i.toNat La)) (Span.hi (Ld (Ld (QB rf Qa) s.toNat La) i.toNat La))=false]++dK B rf Qa s i Qm
def dG:Q7:=mb rf Qa s i Qm++[(60,ZW)]
theorem AH(B:Lo)(rf:Ql)(Qa:List Int)(s i:Int)(Qm:Nat->Value):let a:=W4 rf Qa s i;landM (Qo YP (Q1 YP) J0 B 21 1 (QA 7 199 (([2,3,7,10,12,14,15]:List Nat).zip (WQ rf Qa s i)) Qm WR) (Q9 a) (2+a.length)
 (dG rf Qa s i Qm++[(66,Qh.pure (.bool true) []),(85,Wy (i+1))]) 0 [] []) [2,3,7,10,12,14,15] [(2,KS.auto)] []=some ⟨7,199,WR,[],.run,none,WQ rf Qa (s) (i+1),W4 rf Qa (s) (i+1),
 [wq (i+1)=i+1,Qr []/\Qn YP J0 33 #[.agg (V3 rf),YI (Span.hi (Ld (Ld (QB rf Qa) s.toNat La) i.toNat La)),YI (Span.hi (Ld (Ld (QH rf Qa) s.toNat La) i.toNat La))] (.bool true)]++TB B rf Qa s i Qm⟩:=by intro a;kernel_rfl
theorem AG(B:Lo)(rf:Ql)(Qa:List Int)(s i:Int)(Qm:Nat->Value):let a:=W4 rf Qa s i;QO (Qo YP (Q1 YP) J0 B 21 1 (QA 7 199 (([2,3,7,10,12,14,15]:List Nat).zip (WQ rf Qa s i)) Qm WR) (Q9 a) (2+a.length)
 (dG rf Qa s i Qm++[(66,Qh.pure (.bool false) [])]) 0 [] []) []=some (.bool false,
 [Qr []/\Qn YP J0 33 #[.agg (V3 rf),YI (Span.hi (Ld (Ld (QB rf Qa) s.toNat La) i.toNat La)),YI (Span.hi (Ld (Ld (QH rf Qa) s.toNat La) i.toNat La))] (.bool false)]++TB B rf Qa s i Qm):=by intro a;kernel_rfl
theorem AF(B:Lo)(rf:Ql)(Qa:List Int)(s i:Int)(Qm:Nat->Value):let a:=W4 rf Qa s i;QO (Qo YP (Q1 YP) J0 B 21 1 (QA 7 199 (([2,3,7,10,12,14,15]:List Nat).zip (WQ rf Qa s i)) Qm WR) (Q9 a) (2+a.length)
 (dG rf Qa s i Qm++[(66,Qh.pure (.bool false) [])]) 0 [] []) []=some (.bool false,
 [Qr []/\Qn YP J0 33 #[.agg (V3 rf),YI (Span.hi (Ld (Ld (QB rf Qa) s.toNat La) i.toNat La)),YI (Span.hi (Ld (Ld (QH rf Qa) s.toNat La) i.toNat La))] (.bool false)]++TB B rf Qa s i Qm):=by intro a;kernel_rfl
theorem uY(B:Lo)(rf:Ql)(Qa:List Int)(s i:Int)(Qm:Nat->Value):let a:=W4 rf Qa s i;landM (Qo YP (Q1 YP) J0 B 8 1 (QA 7 199 (([2,3,7,10,12,14,15]:List Nat).zip (WQ rf Qa s i)) Qm WR) (Q9 a) (2+a.length)
 (me rf Qa s i Qm++[(6,ZW),(8,Wy (s+1))]) 0 [] []) [2,3,7,10,12,14] [(2,KS.auto)] []=some ⟨7,199,K1,[],.run,none,K0 rf Qa (s+1),Wh rf Qa (s+1),
 [wq (s+1)=s+1,XC i (↑(Lc (Ld (QW rf.Qd rf.Qb (Z4 rf) (ZP rf Qa) (Qu (Zs rf))) s.toNat La)):Int)=false]++dN B rf Qa s i Qm⟩:=by intro a;kernel_rfl
def dI(B:Lo)(rf:Ql)(Qa:List Int):List Prop:=[Qr []/\Qn YP J0 15 #[.agg (V3 rf)] (.bool true)]++([]:List Prop)
def ma(rf:Ql)(Qa:List Int):Q7:=[(3,Qh.pure (.bool true) [])]
theorem uX:QO (Qo YP (Q1 YP) J0 B 10 1 (Qp YP 7 199 (([.agg (Qv rf).toArray,XH Qa,.bool true]).map (Q2 0 4))) XW 1
 (ma rf Qa++[(8,Z5),(16,Qh.pure (.bool true) [])]) 0 [] []) []=some (.bool true,
 [Qr []/\Qn YP J0 16 #[] (.bool true),XC 8 (↑Qa.length:Int)=true]++dI B rf Qa):=by kernel_rfl
def TA:List Prop:=[XC 8 (↑Qa.length:Int)=false]++dI B rf Qa
def dF:Q7:=ma rf Qa++[(8,ZW)]
def dH:List Prop:=[Qr []/\Qn YP J0 34 #[.agg (V3 rf),QC Qa.length (Qe Q5 Qa),.bool true] (.agg (T9 rf Qa)),Qr []/\Qn YP J0 21 (Kz rf Qa) (.bool true)]++TA B rf Qa
def lZ:Q7:=dF rf Qa++[(13,Qh.pure (.bool true) []),(21,Qh.pure (.agg (T9 rf Qa)) [])]
def aM:List Prop:=let e:=ZP rf Qa;let d:=rf.Qb;let c:=rf.Qd;let b:=Qu (Zs rf);let a:=QW c d (Z4 rf) e b;[Qr []/\Qn YP J0 31 #[.agg (V3 rf),QC a.length (Qe XA a)] (.bool true),Qr []/\Qn YP J0 19 (Kz rf Qa) (T8 rf Qa),Qr []/\Qn YP J0 18 (Kz rf Qa) (T7 rf Qa),Qr []/\Qn YP J0 26 #[.agg (V3 rf),QC Qa.length (Qe Q5 Qa),.agg (T9 rf Qa)] (.tuple #[QC a.length (Qe XA a),.agg #[YI b.sum,YI (Xn 0 c (Ym d (Z4 rf) e b)),YI (Xn 0 c (Va d (Z4 rf) e b)),YI (Xn 0 c (Yj d (Z4 rf) e b)),YI (F4.sum (aH d (Z4 rf) e b c.toNat))],YI 0])]++dH B rf Qa
def jj:Q7:=let d:=ZP rf Qa;let c:=rf.Qb;let b:=rf.Qd;let a:=Qu (Zs rf);let e:=QW b c (Z4 rf) d a;lZ rf Qa++[(22,Qh.pure (.tuple #[QC e.length (Qe XA e),.agg #[YI a.sum,YI (Xn 0 b (Ym c (Z4 rf) d a)),YI (Xn 0 b (Va c (Z4 rf) d a)),YI (Xn 0 b (Yj c (Z4 rf) d a)),YI (F4.sum (aH c (Z4 rf) d a b.toNat))],YI 0]) []),(33,Qh.pure (T7 rf Qa) []),(41,Qh.pure (T8 rf Qa) []),(60,Qh.pure (.bool true) [])]
theorem uW:QO (Qo YP (Q1 YP) J0 B 21 1 (Qp YP 7 199 (([.agg (Qv rf).toArray,XH Qa,.bool true]).map (Q2 0 4))) XW 1
 (jj rf Qa++[(68,Z5)]) 0 [] []) []=some (.bool false,
 [(!Yo (↑(Lc (QH rf Qa)):Int) (↑(Lc (QW rf.Qd rf.Qb (Z4 rf) (ZP rf Qa) (Qu (Zs rf)))):Int))=true]++aM B rf Qa):=by kernel_rfl
def aL:List Prop:=[(!Yo (↑(Lc (QH rf Qa)):Int) (↑(Lc (QW rf.Qd rf.Qb (Z4 rf) (ZP rf Qa) (Qu (Zs rf)))):Int))=false]++aM B rf Qa
def ji:Q7:=jj rf Qa++[(68,ZW)]
theorem uV:QO (Qo YP (Q1 YP) J0 B 21 1 (Qp YP 7 199 (([.agg (Qv rf).toArray,XH Qa,.bool true]).map (Q2 0 4))) XW 1
 (ji rf Qa++[(75,Z5)]) 0 [] []) []=some (.bool false,
 [(!Yo (↑(Lc (QB rf Qa)):Int) (↑(Lc (QW rf.Qd rf.Qb (Z4 rf) (ZP rf Qa) (Qu (Zs rf)))):Int))=true]++aL B rf Qa):=by kernel_rfl
theorem uU:landM (Qo YP (Q1 YP) J0 B 23 1 (Qp YP 7 199 (([.agg (Qv rf).toArray,XH Qa,.bool true]).map (Q2 0 4))) XW 1
 (ji rf Qa++[(75,ZW)]) 0 [] []) [2,3,7,10,12,14] [(1,KS.auto)] []=some ⟨7,199,K1,[],.run,none,K0 rf Qa (0),Wh rf Qa (0),
 [(!Yo (↑(Lc (QB rf Qa)):Int) (↑(Lc (QW rf.Qd rf.Qb (Z4 rf) (ZP rf Qa) (Qu (Zs rf)))):Int))=false]++aL B rf Qa⟩:=by kernel_rfl
theorem uT(B:Lo)(rf:Ql)(Qa:List Int):let a:=Value.tuple #[QC 0 #[],.agg #[YI 0,YI 0,YI 0,YI 0,YI 0],YI 2];QO (Qo YP (Q1 YP) J0 B 21 1 (Qp YP 7 199 (([.agg (Qv rf).toArray,XH Qa,.bool true]).map (Q2 0 4))) XW 1
 (lZ rf Qa++[(22,Qh.pure a []),(33,Qh.pure (T7 rf Qa) []),(41,Qh.pure (T8 rf Qa) [])]) 0 [] []) []=some (.bool false,
 [Qr []/\Qn YP J0 19 (Kz rf Qa) (T8 rf Qa),Qr []/\Qn YP J0 18 (Kz rf Qa) (T7 rf Qa),Qr []/\Qn YP J0 26 #[.agg (V3 rf),QC Qa.length (Qe Q5 Qa),.agg (T9 rf Qa)] a]++dH B rf Qa):=by intro a;kernel_rfl
theorem uS:QO (Qo YP (Q1 YP) J0 B 10 1 (Qp YP 7 199 (([.agg (Qv rf).toArray,XH Qa,.bool true]).map (Q2 0 4))) XW 1
 (dF rf Qa++[(13,Qh.pure (.bool false) []),(16,Qh.pure (.bool true) [])]) 0 [] []) []=some (.bool true,
 [Qr []/\Qn YP J0 16 #[] (.bool true),Qr []/\Qn YP J0 21 (Kz rf Qa) (.bool false)]++TA B rf Qa):=by kernel_rfl
theorem uR:QO (Qo YP (Q1 YP) J0 B 10 1 (Qp YP 7 199 (([.agg (Qv rf).toArray,XH Qa,.bool true]).map (Q2 0 4))) XW 1
 (dF rf Qa++[(13,Qh.pure (.bool false) []),(16,Qh.pure (.bool true) [])]) 0 [] []) []=some (.bool true,
 [Qr []/\Qn YP J0 16 #[] (.bool true),Qr []/\Qn YP J0 21 (Kz rf Qa) (.bool false)]++TA B rf Qa):=by kernel_rfl
theorem uQ:QO (Qo YP (Q1 YP) J0 B 10 1 (Qp YP 7 199 (([.agg (Qv rf).toArray,XH Qa,.bool true]).map (Q2 0 4))) XW 1
 [(3,Qh.pure (.bool false) []),(16,Qh.pure (.bool true) [])] 0 [] []) []=some (.bool true,
 [Qr []/\Qn YP J0 16 #[] (.bool true),Qr []/\Qn YP J0 15 #[.agg (V3 rf)] (.bool false)]):=by kernel_rfl
end
set_option maxHeartbeats 4000000 in
theorem AP(rf:Ql)(Qa:List Int)  (X2:Qa.length<=9223372036854775807){B:Lo}(hJ:∀w,B.has w->J0 w){c0:CF}:∀m:Nat,(∀(s:Int),100*(rf.Qd-s).toNat=m->∀(hr:QL rf=true) (hpl:Xo rf Qa=true) (s0:0<=s),AS B c0 rf Qa s->EndsT YP B c0 (.bool true))/\(∀(s i:Int),100*(rf.Qd-s).toNat-50+(rf.Qb.length-i.toNat)=m->∀(hr:QL rf=true) (hpl:Xo rf Qa=true) (s0:0<=s) (s1:s<rf.Qd) (i0:0<=i),AQ B c0 rf Qa s i->EndsT YP B c0 (.bool true)):=by
 intro m0;induction m0 using Lz with
 |_ m0 ih0=>
  refine⟨?_, ?_⟩
  ·intro s YA hr hpl s0 ⟨Qm,ZF,Xs⟩;have hkl:(QH rf Qa).length=rf.Qd.toNat:=Xk;have hcl:(QB rf Qa).length=rf.Qd.toNat:=Xk;have ZA:=Q4 (QR hr).1;have het:=Rm (Qa:=Qa) hr;have hoe:=(al hr het).1;have Ss:PR rf.Qb.length rf.Qd (QW rf.Qd rf.Qb (Z4 rf) (ZP rf Qa) (Qu (Zs rf))):=hoe.shape (Vx hr het);have hs1:=Ss.1;by_cases q0:(s:Int)<((↑(Lc (QW rf.Qd rf.Qb (Z4 rf) (ZP rf Qa) (Qu (Zs rf)))):Int))
   ·have Vw:Qr (dP B rf Qa s Qm):=by
     exact⟨⟨by omega,by omega,(Qs (z:=1) (fun _=>rfl) (by omega))⟩,⟨⟨by omega,by omega,(Qs (z:=1) (fun _=>rfl) (by omega))⟩,⟨(Xd q0),trivial⟩⟩⟩
    by_cases q1:((↑(Lc (Ld (QH rf Qa) s.toNat La)):Int):Int)≠((↑(Lc (Ld (QW rf.Qd rf.Qb (Z4 rf) (ZP rf Qa) (Qu (Zs rf))) s.toNat La)):Int))
    ·have hls:=(Ss.2 s s0 (by omega)).1;have hlc:=PK (rf:=rf) (Qa:=Qa) s0 (by omega);exact(GoE.endsT okF hJ Qf Xs (AO B rf Qa s Qm)
      ⟨(KE q1),Vw⟩).cast (by(exfalso;omega))
    ·have UP:Qr (dO B rf Qa s Qm):=by
      exact⟨⟨by omega,by omega,(Qs (z:=1) (fun _=>rfl) (by omega))⟩,⟨⟨by omega,by omega,(Qs (z:=1) (fun _=>rfl) (by omega))⟩,⟨(KF (Decidable.of_not_not q1)),Vw⟩⟩⟩
     by_cases q2:((↑(Lc (Ld (QB rf Qa) s.toNat La)):Int):Int)≠((↑(Lc (Ld (QW rf.Qd rf.Qb (Z4 rf) (ZP rf Qa) (Qu (Zs rf))) s.toNat La)):Int))
     ·have hls:=(Ss.2 s s0 (by omega)).1;have hlc:=PK (rf:=rf) (Qa:=Qa) s0 (by omega);exact(GoE.endsT okF hJ Qf Xs (AN B rf Qa s Qm)
       ⟨(KE q2),UP⟩).cast (by(exfalso;omega))
     ·have hls:=(Ss.2 s s0 (by omega)).1;exact((ih0 _ (by omega)).2 (s) (0) rfl (by with_reducible assumption) (by with_reducible assumption) (by with_reducible assumption) (by omega) (by omega)
       (Xs.landM okF hJ Qf (AM B rf Qa s Qm)
       ⟨(KF (Decidable.of_not_not q2)),UP⟩ (by kernel_rfl) (by kernel_rfl))).cast (by rfl)
   ·exact(GoE.endsT okF hJ Qf Xs (AL B rf Qa s Qm)
     ⟨⟨trivial,known⟩,⟨(X9 (Int.not_lt.1 q0)),trivial⟩⟩).cast rfl
  ·intro s i YA hr hpl s0 s1 i0 ⟨Qm,ZF,Xs⟩;have hkl:(QH rf Qa).length=rf.Qd.toNat:=Xk;have hcl:(QB rf Qa).length=rf.Qd.toNat:=Xk;have ZA:=Q4 (QR hr).1;have het:=Rm (Qa:=Qa) hr;have hoe:=(al hr het).1;have Ss:PR rf.Qb.length rf.Qd (QW rf.Qd rf.Qb (Z4 rf) (ZP rf Qa) (Qu (Zs rf))):=hoe.shape (Vx hr het);have hs1:=Ss.1;have hls:=(Ss.2 s s0 (by omega)).1;have hlc:=PK (rf:=rf) (Qa:=Qa) s0 s1;have Pb:Qr (dN B rf Qa s i Qm):=by
    exact⟨⟨by omega,by omega,(Qs (z:=1) (fun _=>rfl) (by omega))⟩,trivial⟩
   by_cases q0:(i:Int)<((↑(Lc (Ld (QW rf.Qd rf.Qb (Z4 rf) (ZP rf Qa) (Qu (Zs rf))) s.toNat La)):Int))
   ·have hp3:Qr (dM B rf Qa s i Qm):=by
     exact⟨⟨by omega,by omega,(Qs (z:=1) (fun _=>rfl) (by omega))⟩,⟨⟨by omega,by omega,(Qs (z:=1) (fun _=>rfl) (by omega))⟩,⟨⟨by omega,by omega,(Qs (z:=2) (fun _=>rfl) (by omega))⟩,⟨⟨by omega,by omega,(Qs (z:=1) (fun _=>rfl) (by omega))⟩,⟨⟨by omega,by omega,(Qs (z:=2) (fun _=>rfl) (by omega))⟩,⟨⟨by omega,by omega,(Qs (z:=1) (fun _=>rfl) (by omega))⟩,⟨⟨by omega,by omega,(Qs (z:=2) (fun _=>rfl) (by omega))⟩,⟨⟨by omega,by omega,(Qs (z:=1) (fun _=>rfl) (by omega))⟩,⟨⟨by omega,by omega,(Qs (z:=2) (fun _=>rfl) (by omega))⟩,⟨⟨by omega,by omega,(Qs (z:=1) (fun _=>rfl) (by omega))⟩,⟨(Xd q0),Pb⟩⟩⟩⟩⟩⟩⟩⟩⟩⟩⟩
    by_cases q1:(Ld (Ld (QW rf.Qd rf.Qb (Z4 rf) (ZP rf Qa) (Qu (Zs rf))) s.toNat La) i.toNat La:Int)≠(Span.hi (Ld (Ld (QH rf Qa) s.toNat La) i.toNat La))
    ·have YF:=cu (Qa:=Qa) hr s0 s1 i0 (by omega);exact(GoE.endsT okF hJ Qf Xs (AK B rf Qa s i Qm)
      ⟨(KE q1),hp3⟩).cast (by(exfalso;omega))
    ·have T5:Qr (dL B rf Qa s i Qm):=by
      exact⟨(KF (Decidable.of_not_not q1)),hp3⟩
     by_cases q2:(Span.hi (Ld (Ld (QB rf Qa) s.toNat La) i.toNat La):Int)<(0)
     ·have YF:=cu (Qa:=Qa) hr s0 s1 i0 (by omega);exact(GoE.endsT okF hJ Qf Xs (AJ B rf Qa s i Qm)
       ⟨(Xd q2),T5⟩).cast (by(exfalso;omega))
     ·have hp5:Qr (dK B rf Qa s i Qm):=by
       exact⟨(X9 (Int.not_lt.1 q2)),T5⟩
      by_cases q3:(Span.hi (Ld (Ld (QH rf Qa) s.toNat La) i.toNat La):Int)<(Span.hi (Ld (Ld (QB rf Qa) s.toNat La) i.toNat La))
      ·have YF:=cu (Qa:=Qa) hr s0 s1 i0 (by omega);exact(GoE.endsT okF hJ Qf Xs (AI B rf Qa s i Qm)
        ⟨(Xd q3),hp5⟩).cast (by(exfalso;omega))
      ·have hp6:Qr (TB B rf Qa s i Qm):=by
        exact⟨(X9 (Int.not_lt.1 q3)),hp5⟩
       cases q4:decide (Span.hi (Ld (Ld (QB rf Qa) s.toNat La) i.toNat La)<=Span.hi (Ld (Ld (QH rf Qa) s.toNat La) i.toNat La))with
       |true=>
        cases q5:decide (Span.hi (Ld (Ld (QH rf Qa) s.toNat La) i.toNat La)<=Zm rf.Qc (Span.hi (Ld (Ld (QB rf Qa) s.toNat La) i.toNat La)))with
        |true=>
         have YF:=cu (Qa:=Qa) hr s0 s1 i0 (by omega);exact((ih0 _ (by omega)).2 (s) (i+1) rfl (by with_reducible assumption) (by with_reducible assumption) (by with_reducible assumption) (by with_reducible assumption) (by omega)
          (Xs.landM okF hJ Qf (AH B rf Qa s i Qm)
          ⟨(QY (by omega) (by omega)),⟨⟨trivial,(by have t_:=Ps (rf) (Span.hi (Ld (Ld (QB rf Qa) s.toNat La) i.toNat La)) (Span.hi (Ld (Ld (QH rf Qa) s.toNat La) i.toNat La)) (by omega) (by omega);rw[q4,q5]at t_;exact t_)⟩,hp6⟩⟩ (by kernel_rfl) (by kernel_rfl))).cast (by rfl)
        |false=>
         have YF:=cu (Qa:=Qa) hr s0 s1 i0 (by omega);exact(GoE.endsT okF hJ Qf Xs (AG B rf Qa s i Qm)
          ⟨⟨trivial,(by have t_:=Ps (rf) (Span.hi (Ld (Ld (QB rf Qa) s.toNat La) i.toNat La)) (Span.hi (Ld (Ld (QH rf Qa) s.toNat La) i.toNat La)) (by omega) (by omega);rw[q4,q5]at t_;exact t_)⟩,hp6⟩).cast (by(exfalso;simp only[decide_eq_true_iff,decide_eq_false_iff_not]at *;omega))
       |false=>
        have YF:=cu (Qa:=Qa) hr s0 s1 i0 (by omega);exact(GoE.endsT okF hJ Qf Xs (AF B rf Qa s i Qm)
         ⟨⟨trivial,(by have t_:=Ps (rf) (Span.hi (Ld (Ld (QB rf Qa) s.toNat La) i.toNat La)) (Span.hi (Ld (Ld (QH rf Qa) s.toNat La) i.toNat La)) (by omega) (by omega);rw[q4]at t_;exact t_)⟩,hp6⟩).cast (by(exfalso;simp only[decide_eq_true_iff,decide_eq_false_iff_not]at *;omega))
   ·exact((ih0 _ (by omega)).1 (s+1) rfl (by with_reducible assumption) (by with_reducible assumption) (by omega)
     (Xs.landM okF hJ Qf (uY B rf Qa s i Qm)
     ⟨(QY (by omega) (by omega)),⟨(X9 (Int.not_lt.1 q0)),Pb⟩⟩ (by kernel_rfl) (by kernel_rfl))).cast (by rfl)
set_option maxHeartbeats 4000000 in
theorem En(rf:Ql)(Qa:List Int)  (X2:Qa.length<=9223372036854775807){B:Lo}(hJ:∀w,B.has w->J0 w):EndsT YP B (Qp YP 7 199 (([.agg (Qv rf).toArray,XH Qa,.bool true]).map (Q2 0 4))) (.bool true):=by
 have hkl:(QH rf Qa).length=rf.Qd.toNat:=Xk;have hcl:(QB rf Qa).length=rf.Qd.toNat:=Xk;cases q0:decide (Lc rf.Qb<=8)with
 |true=>
  have hp7:Qr (dI B rf Qa):=by
   exact⟨⟨trivial,(by have t_:=ue (rf);rw[q0]at t_;exact t_)⟩,trivial⟩
  by_cases q1:(8:Int)<((↑Qa.length:Int))
  ·exact(GoE.endsT okF hJ Qf GoE.start (uX B rf Qa)
    ⟨⟨trivial,known⟩,⟨(Xd q1),hp7⟩⟩).cast rfl
  ·have hp8:Qr (TA B rf Qa):=by
    exact⟨(X9 (Int.not_lt.1 q1)),hp7⟩
   cases q2:QL rf with
   |true=>
    cases q3:Xo rf Qa with
    |true=>
     have hp9:Qr (dH B rf Qa):=by
      have Ja:=ZV ‹QL rf=true›;exact⟨⟨trivial,QaP (rf) (Qa) (by with_reducible assumption) (by with_reducible assumption)⟩,⟨⟨trivial,(by have t_:=iU (rf) (Qa);rw[q2,q3]at t_;exact t_)⟩,hp8⟩⟩
     cases q4:Za rf Qa {starts:=Zs rf,grows:=Z4 rf,takes:=ZP rf Qa}with
     |true=>
      have hp10:Qr (aM B rf Qa):=by
       have ZA:=Q4 (QR ‹QL rf=true›).1;have het:=Rm (Qa:=Qa) ‹QL rf=true›;have hoe:=(al (ZV ‹QL rf=true›) het).1;have Ss:PR rf.Qb.length rf.Qd (QW rf.Qd rf.Qb (Z4 rf) (ZP rf Qa) (Qu (Zs rf))):=hoe.shape (Vx (ZV ‹QL rf=true›) het);exact⟨⟨trivial,Dy (rf) (QW rf.Qd rf.Qb (Z4 rf) (ZP rf Qa) (Qu (Zs rf))) (by with_reducible assumption) (by omega)⟩,⟨⟨trivial,(by have t_:=l6 (rf) (Qa);rw[q2,q3]at t_;exact t_)⟩,⟨⟨trivial,(by have t_:=l5 (rf) (Qa);rw[q2,q3]at t_;exact t_)⟩,⟨⟨trivial,(by have t_:=tG (rf) (Qa) (Zs rf) (Z4 rf) (ZP rf Qa);rw[q2,q3,q4]at t_;exact t_)⟩,hp9⟩⟩⟩⟩
      by_cases q5:((↑(Lc (QH rf Qa)):Int):Int)≠((↑(Lc (QW rf.Qd rf.Qb (Z4 rf) (ZP rf Qa) (Qu (Zs rf)))):Int))
      ·have ZA:=Q4 (QR ‹QL rf=true›).1;have het:=Rm (Qa:=Qa) ‹QL rf=true›;have hoe:=(al (ZV ‹QL rf=true›) het).1;have Ss:PR rf.Qb.length rf.Qd (QW rf.Qd rf.Qb (Z4 rf) (ZP rf Qa) (Qu (Zs rf))):=hoe.shape (Vx (ZV ‹QL rf=true›) het);have hs1:=Ss.1;exact(GoE.endsT okF hJ Qf GoE.start (uW B rf Qa)
        ⟨(KE q5),hp10⟩).cast (by(exfalso;omega))
      ·have hp11:Qr (aL B rf Qa):=by
        exact⟨(KF (Decidable.of_not_not q5)),hp10⟩
       by_cases q6:((↑(Lc (QB rf Qa)):Int):Int)≠((↑(Lc (QW rf.Qd rf.Qb (Z4 rf) (ZP rf Qa) (Qu (Zs rf)))):Int))
       ·exact(GoE.endsT okF hJ Qf GoE.start (uV B rf Qa)
         ⟨(KE q6),hp11⟩).cast (by(exfalso;omega))
       ·exact((AP rf Qa X2 hJ _).1 (0) rfl (by with_reducible assumption) (by with_reducible assumption) (by omega)
         (GoE.start.landM okF hJ Qf (uU B rf Qa)
         ⟨(KF (Decidable.of_not_not q6)),hp11⟩ (by kernel_rfl) (by kernel_rfl))).cast (by rfl)
     |false=>
      have het:=Rm (Qa:=Qa) ‹QL rf=true›;exact(GoE.endsT okF hJ Qf GoE.start (uT B rf Qa)
       ⟨⟨trivial,(by have t_:=l6 (rf) (Qa);rw[q2,q3]at t_;exact t_)⟩,⟨⟨trivial,(by have t_:=l5 (rf) (Qa);rw[q2,q3]at t_;exact t_)⟩,⟨⟨trivial,(by have t_:=tG (rf) (Qa) (Zs rf) (Z4 rf) (ZP rf Qa);rw[q2,q3,q4]at t_;exact t_)⟩,hp9⟩⟩⟩).cast (by(exfalso;simp_all;done))
    |false=>
     exact(GoE.endsT okF hJ Qf GoE.start (uS B rf Qa)
      ⟨⟨trivial,known⟩,⟨⟨trivial,(by have t_:=iU (rf) (Qa);rw[q2,q3]at t_;exact t_)⟩,hp8⟩⟩).cast rfl
   |false=>
    exact(GoE.endsT okF hJ Qf GoE.start (uR B rf Qa)
     ⟨⟨trivial,known⟩,⟨⟨trivial,(by have t_:=iU (rf) (Qa);rw[q2]at t_;exact t_)⟩,hp8⟩⟩).cast rfl
 |false=>
  exact(GoE.endsT okF hJ Qf GoE.start (uQ B rf Qa)
   ⟨⟨trivial,known⟩,⟨⟨trivial,(by have t_:=ue (rf);rw[q0]at t_;exact t_)⟩,trivial⟩⟩).cast rfl
theorem Nf(rf:Ql)(Qa:List Int)  :Qn YP J0 7 #[.agg (Qv rf).toArray,XH Qa,.bool true] (.bool true):=
 Vd (ts:=[.agg (Qv rf).toArray,XH Qa,.bool true]) (Qa.length<=9223372036854775807) (fun _ _ ht=>ht.ln (i:=1) rfl) XZ (c0:=Qp YP 7 199 (([.agg (Qv rf).toArray,XH Qa,.bool true]).map (Q2 0 4))) (by kernel_rfl) (by kernel_rfl) fun X2 B hJ=>En rf Qa  X2 hJ
theorem OH(rf:Ql)(Qa:List Int)(many:Bool):Qn YP J0 7 #[.agg (Qv rf).toArray,XH Qa,.bool many] (.bool true):=by
 cases many with
 |false=>exact Ng rf Qa
 |true=>exact Nf rf Qa
end
end Go.Proofs.Ytncjjangllkokaa

namespace Go.Proofs.Ytncjjangllkokaa
open Go Go.CE Go.RowKit
theorem MX{v:Value}(h:Sh.arg .bool v):∃z:Bool,v=.bool z:=by
 first|(obtain⟨z,h⟩:=h;exact⟨z,by simpa using h⟩)|(obtain⟨z,_,h⟩:=h;exact⟨z,by simpa using h⟩)
theorem Ev:∀trs,uM [mA,.slice .int,.bool] trs->Qn YP J0 7 trs.toArray (.bool true):=by
 rintro trs ⟨t0,_,rfl,h0,t1,_,rfl,h1,t2,_,rfl,h2,rfl⟩;obtain⟨r,rfl⟩:=MV h0;obtain⟨l,rfl⟩:=MW h1;obtain⟨b,rfl⟩:=MX h2;exact OH r l b
end Go.Proofs.Ytncjjangllkokaa

namespace Go.Proofs.Ytncjjangllkokaa
open Go Go.CE Go.ChangeShapes Go.WideShapes Go.RowKit
set_option maxRecDepth 100000 in
theorem iA(os:Os)(started:os.Started)(H:Type)(enc:TypeId×Value->H):
 ReturnsInHanded {} Try.checked os 7 .any (Rows.reefSharpSpec.pre6 enc YP Try.f7 Rows.reefSharpRow.domain false) (Rows.reefSharpSpec.post enc YP Try.f7 false true false false):=by
 refine returnsInHanded_of_change (C:=Try.checked) (show ownKnob YP.godebug=none by kernel_rfl) started (by kernel_rfl) Try.func7
  (ChangeSpec.witness6 (enc:=enc) (C:=Try.checked) false ⟨#[],#[Sh.zeroA mA,Sh.zeroA (.slice .int),Sh.zeroA .bool],[]⟩ 8 (by kernel_rfl) (by kernel_rfl) (by kernel_rfl) (by kernel_rfl)) ?_
 intro W base args ds gs before hval0 hW _ _;have hval:∀(j:Nat) t v,Try.f7.params[j]? =some t->args[j]? =some v->Value.okWide YP W .any base t v:=hval0;have hW':=hW;obtain⟨p,q,hA0,hV,rfl,_,_⟩:=hW;obtain⟨rfl,rfl⟩:=trodVars_none hV;have hA1:DataW.TrodAll enc YP W 0 (fun _=>true) true Try.f7.params.toList args.toList ds p:=hA0;have Xp:∀x∈p,x.block<W.heap.size:=fun x hx=>hW'.lt x (by simpa using hx)
 have Sw:eY YP [mA,.slice .int,.bool] Try.f7.params.toList=true:=by kernel_rfl
 have hrd:(Try.f7.params.toList.all fun t=>YP.readableRec t && decide (t<YP.types.size))=true:=by kernel_rfl
 refine(Mi (J:=J0) (ss:=[mA,.slice .int,.bool]) trivial Sw hA1 (fun j t v h1 h2=>hval j t v (by simpa using h1) h2) Ev).mono fun e W' ⟨he,hB⟩=> ?_
 subst he;have hB2:=dn (show laidOutB YP=true by kernel_rfl) hB _ _ _ _ hrd hA1 Xp;have hA:DataW.TrodAll enc YP W 0 (fun _=>true) true Try.f7.params.toList args.toList ds p:=hA1;rw[Try.params7]at hA;simp only[List.toList_toArray]at hA;have hA:=hA;obtain⟨v0,vs0,d0,ds0,p0,q0,_,rfl,_,h0,_⟩:=CE.trodAll_cons hA;obtain⟨v1,vs1,d1,ds1,p1,q1,_,rfl,_,h1,_⟩:=CE.trodAll_cons h0;obtain⟨v2,vs2,d2,ds2,p2,q2,_,rfl,_,h2,_⟩:=CE.trodAll_cons h1;obtain⟨_,rfl,_⟩:=CE.trodAll_nil h2;exact⟨_,rfl,_,_,_,[],_,[],hW',trodAll_mk1 (shut_bool Try.underlying4 _),hB2,rfl,hB.frame _,fun h=>by cases h⟩
theorem reefSharp_row:Rows.ReefSharpSaid:=
 OpenClaim.holds_of_wide 7 Try.f7 rfl rfl rfl rfl rfl rfl rfl ⟨rfl,rfl,rfl,rfl,rfl⟩ rfl rfl rfl rfl rfl (by kernel_rfl) Try.func7 (by kernel_rfl)
  (of_decide_eq_true (by kernel_rfl)) (by unfold Func.isWrapper;first|(rw[if_pos (by decide+kernel)];kernel_rfl)|(rw[if_neg (by decide+kernel)];exact⟨rfl,rfl⟩))
  (fun os started H enc _=>iA os started H enc)
end Go.Proofs.Ytncjjangllkokaa
