/- ReefTrue: whatever the input, it returns true, and each argument reads as it did. The row, from the walk. -/
import Derived.Test.YtncjjangllkokaaZRV17
import Derived.Test.YtncjjangllkokaaZRV16
import Derived.Test.YtncjjangllkokaaZRV15
import Derived.JoinedOf
import Derived.Test.YtncjjangllkokaaRows
set_option linter.all false
open List renaming length->Oc,getD_eq_getElem?_getD->Ol,getElem?_eq_none->Ou,getD->Ob,range->Oe
open Int renaming tdiv_eq_ediv_of_nonneg->OI,toNat->Oa,le_refl->OV
open Array renaming extract->Oy
open Nat renaming strongRecOn->Ox
open Inhabited renaming default->NZ
namespace Go.Proofs.Ytncjjangllkokaa
open Go Go.CE Go.RowKit
noncomputable section
theorem IB(rf:Qi)(Qa:List Int)(hr:Zd rf=true)(hl:Qa.length<=4)(hp:∀j:Nat,0<=Qa.getD j 0/\Qa.getD j 0<=1000000):Q0 YP J0 54 #[.agg (QL rf Qa).toArray] (Kr (Xh rf Qa)):=by
 have Z8:=QA (QQ hr).1;obtain⟨ps,Qc,n⟩:=rf;simp only at Z8;rcases(show n=1\/n=2\/n=3\/n=4 by omega)with rfl|rfl|rfl|rfl
 ·exact G7 ps Qc Qa hr (by omega) hl hp
 ·exact G6 ps Qc Qa hr (by omega) hl hp
 ·exact G5 ps Qc Qa hr (by omega) hl hp
 ·exact G4 ps Qc Qa hr (by omega) hl hp
def cR(rf:Qi)(Qa:List Int):Array Value:=#[QI rf.Qb.length (Qh Qm rf.Qb),.int .i64 rf.Qc,.int .i64 rf.Qd,.int .i64 (Qa.getD 0 0),.int .i64 (Qa.getD 1 0),.int .i64 (Qa.getD 2 0),.int .i64 (Qa.getD 3 0)]
def cQ(rf:Qi)(Qa:List Int):Array Value:=#[.agg #[QI rf.Qb.length (Qh Qm rf.Qb),.int .i64 rf.Qc,.int .i64 rf.Qd],QI Qa.length (Qh QR Qa)]
def cS(B:Lo)(rf:Qi)(Qa:List Int):List Prop:=[Q6 []/\Q0 YP J0 50 #[.agg #[QI rf.Qb.length (Qh Qm rf.Qb),.int .i64 rf.Qc,.int .i64 rf.Qd]] (.bool true)]++([]:List Prop)
def m6(rf:Qi)(Qa:List Int):QD:=[(4,Qk.pure (.bool true) [])]
set_option maxRecDepth 100000 in
theorem zW(B:Lo)(rf:Qi)(Qa:List Int):QW (Qu YP (Q9 YP) J0 B 11 1 (Qx YP 19 19 (([.agg (Q5 rf).toArray,XI Qa]).map (Q8 0 4))) Zf 1
 (m6 rf Qa++[(9,Qk.pure (.bool true) []),(14,Qk.pure (.agg (cR rf Qa)) []),(15,Qk.pure (QI (Oc (Xh rf Qa)) (Qh Vh (Xh rf Qa))) [])]) 0 [] []) []=some (.tuple #[QI (Oc (Xh rf Qa)) (Qh Vh (Xh rf Qa)),.int .i64 0],
 [Q6 []/\Q0 YP J0 54 #[.agg (cR rf Qa)] (QI (Oc (Xh rf Qa)) (Qh Vh (Xh rf Qa))),Q6 []/\Q0 YP J0 52 (cQ rf Qa) (.agg (cR rf Qa)),Q6 []/\Q0 YP J0 51 (cQ rf Qa) (.bool true)]++cS B rf Qa):=by kernel_rfl
set_option maxRecDepth 100000 in
theorem zV(B:Lo)(rf:Qi)(Qa:List Int):QW (Qu YP (Q9 YP) J0 B 10 1 (Qx YP 19 19 (([.agg (Q5 rf).toArray,XI Qa]).map (Q8 0 4))) Zf 1
 (m6 rf Qa++[(9,Qk.pure (.bool false) [])]) 0 [] []) []=some (.tuple #[QI 0 #[],.int .i64 2],
 [Q6 []/\Q0 YP J0 51 (cQ rf Qa) (.bool false)]++cS B rf Qa):=by kernel_rfl
set_option maxRecDepth 100000 in
theorem zU(B:Lo)(rf:Qi)(Qa:List Int):QW (Qu YP (Q9 YP) J0 B 10 1 (Qx YP 19 19 (([.agg (Q5 rf).toArray,XI Qa]).map (Q8 0 4))) Zf 1
 [(4,Qk.pure (.bool false) [])] 0 [] []) []=some (.tuple #[QI 0 #[],.int .i64 2],
 [Q6 []/\Q0 YP J0 50 #[.agg #[QI rf.Qb.length (Qh Qm rf.Qb),.int .i64 rf.Qc,.int .i64 rf.Qd]] (.bool false)]):=by kernel_rfl
set_option maxHeartbeats 4000000 in
theorem DA(rf:Qi)(Qa:List Int)  {B:Lo}(hJ:∀w,B.has w->J0 w):EndsT YP B (Qx YP 19 19 (([.agg (Q5 rf).toArray,XI Qa]).map (Q8 0 4))) (.tuple #[if QC rf && QV rf Qa then Kr (Xh rf Qa)else Kr [],.int .i64 (if QC rf && QV rf Qa then 0 else 2)]):=by
 cases q0:QC rf with
 |true=>
  have V5:Q6 (cS B rf Qa):=by
   try have Ui:=QO ‹QC rf=true›
   try have Z8:=QA (QJ ‹QC rf=true›).1
   try have hpf:=(Xn ‹QV rf Qa=true›).1
   try have hpg:=(fun j=>(fun h=>⟨h.1,by omega⟩) (VP Ui ‹QV rf Qa=true› j):∀j:Nat,0<=Qa.getD j 0/\Qa.getD j 0<=1000000)
   exact⟨⟨trivial,(by have t_:=bE (rf);rw[q0]at t_;exact t_)⟩,trivial⟩
  cases q1:QV rf Qa with
  |true=>
   try have Ui:=QO ‹QC rf=true›
   try have Z8:=QA (QJ ‹QC rf=true›).1
   try have hpf:=(Xn ‹QV rf Qa=true›).1
   try have hpg:=(fun j=>(fun h=>⟨h.1,by omega⟩) (VP Ui ‹QV rf Qa=true› j):∀j:Nat,0<=Qa.getD j 0/\Qa.getD j 0<=1000000)
   exact(GoE.endsT okF hJ Qg GoE.start (zW B rf Qa)
    ⟨⟨trivial,IB (rf) (Qa) (by first|with_reducible assumption|omega|simp_all) (by first|with_reducible assumption|omega|simp_all) (by first|with_reducible assumption|omega|simp_all)⟩,⟨⟨trivial,fW (rf) (Qa) (by first|with_reducible assumption|omega|simp_all) (by first|with_reducible assumption|omega|simp_all)⟩,⟨⟨trivial,(by have t_:=bF (rf) (Qa) (by first|with_reducible assumption|omega|simp_all);rw[q1]at t_;exact t_)⟩,V5⟩⟩⟩).cast (by first|rfl|(simp[*];done)|(simp_all;done))
  |false=>
   try have Ui:=QO ‹QC rf=true›
   try have Z8:=QA (QJ ‹QC rf=true›).1
   try have hpf:=(Xn ‹QV rf Qa=true›).1
   try have hpg:=(fun j=>(fun h=>⟨h.1,by omega⟩) (VP Ui ‹QV rf Qa=true› j):∀j:Nat,0<=Qa.getD j 0/\Qa.getD j 0<=1000000)
   exact(GoE.endsT okF hJ Qg GoE.start (zV B rf Qa)
    ⟨⟨trivial,(by have t_:=bF (rf) (Qa) (by first|with_reducible assumption|omega|simp_all);rw[q1]at t_;exact t_)⟩,V5⟩).cast (by first|rfl|(simp[*];done)|(simp_all;done))
 |false=>
  try have Ui:=QO ‹QC rf=true›
  try have Z8:=QA (QJ ‹QC rf=true›).1
  try have hpf:=(Xn ‹QV rf Qa=true›).1
  try have hpg:=(fun j=>(fun h=>⟨h.1,by omega⟩) (VP Ui ‹QV rf Qa=true› j):∀j:Nat,0<=Qa.getD j 0/\Qa.getD j 0<=1000000)
  exact(GoE.endsT okF hJ Qg GoE.start (zU B rf Qa)
   ⟨⟨trivial,(by have t_:=bE (rf);rw[q0]at t_;exact t_)⟩,trivial⟩).cast (by first|rfl|(simp[*];done)|(simp_all;done))
theorem IH(rf:Qi)(Qa:List Int)  :Q0 YP J0 19 #[.agg (Q5 rf).toArray,XI Qa] (.tuple #[if QC rf && QV rf Qa then Kr (Xh rf Qa)else Kr [],.int .i64 (if QC rf && QV rf Qa then 0 else 2)]):=
 Xo (ts:=[.agg (Q5 rf).toArray,XI Qa]) Zh (c0:=Qx YP 19 19 (([.agg (Q5 rf).toArray,XI Qa]).map (Q8 0 4))) (by kernel_rfl) (by kernel_rfl) fun B hJ=>DA rf Qa  hJ
end
end Go.Proofs.Ytncjjangllkokaa

namespace Go.Proofs.Ytncjjangllkokaa
open Go Go.CE Go.RowKit
theorem Bf{g h:Int->Int}:∀(k:Nat),(∀m:Int,0<=m->m<k->g m<=h m)->Xt 0 k g<=Xt 0 k h
 |0,_=>by rw[Yw (by omega),Yw (by omega)];omega
 |k+1,H=>by
  have ih:=Bf k fun m h0 h1=>H m h0 (by omega)
  have h2:=H k (by omega) (by omega);rw[show((k+1:Nat):Int)=(k:Int)+1 by omega,XM (by omega),XM (by omega)];omega
section
variable {ps:List Qf} {n:Int} {gs ts:List (List Int)} {f:F4}
theorem lG{k:Int}(k0:0<=k)(k1:k<n):(Xl n ps gs ts f).getD k.toNat NZ=kO ps gs ts f k:=by
 unfold Xl;exact Xz k0 k1
theorem qP{k i:Int}(h4:ps.length<=4)(i0:0<=i)(i1:i<ps.length):(kO ps gs ts f k).getD i.toNat NZ=(Sk ps gs ts f (k.toNat+1)).at i:=by
 unfold kO;rw[<-Ln h4];exact Xz i0 i1
theorem OkT.row(h:OkT ps n gs ts f){k i:Int}(k0:0<=k)(k1:k<n)(i0:0<=i)(i1:i<ps.length):0<=nth ((Xl n ps gs ts f).getD k.toNat NZ) i/\nth ((Xl n ps gs ts f).getD k.toNat NZ) i<=1000000000+16000000:=by
 have h4:=h.s4;have hp4:=h.hp.1;have hs:=h.st (k.toNat+1) (by omega);have ha:=Yn hs.1 i0 (by omega);have h9:=h.hs;rw[lG k0 k1];unfold nth;rw[qP hp4 i0 i1];have:=hs.2;omega
end
theorem XG{rf:Qi}{Qa:List Int}{t:Qv}(hr:Zd rf=true)(ht:QY rf Qa t=true):(Qz t.Qe).sum<=16000000:=by
 have hs:=QA (QQ hr).1;obtain⟨h1,h2,h3,h4⟩:=TG ht;obtain⟨s1,s2⟩:=YH h1;rw[List.length_map]at s1;have st:∀k:Int,0<=k->k<4->nth t.Qe k<=4000000:=fun k k0 k1=>by
  by_cases hk:k<rf.Qb.length
  ·have hp:=ZP ((QQ hr).2 k k0 hk).1;have:=s2 k k0 (by omega);rw[Z5 k0 hk]at this;have hm:=Tx (a:=(rf.Qb.getD k.toNat NZ).count) (r:=rf.Qc) (by omega) (by omega);have hm2:(rf.Qb.getD k.toNat NZ).count*rf.Qc<=1000000*2000:=Int.mul_le_mul hp.1.2 hs.2.1.2 hs.2.1.1 (by omega);have e2:((rf.Qb.getD k.toNat NZ).count*rf.Qc).tdiv 1000=((rf.Qb.getD k.toNat NZ).count*rf.Qc) / 1000:=OI hm.1;simp only[X2,ZZ]at this;unfold nth;omega
  ·unfold nth;rw[Ol,Ou (by omega)];show(0:Int)<=4000000;omega
 have a0:=st 0 (by omega) (by omega);have a1:=st 1 (by omega) (by omega);have a2:=st 2 (by omega) (by omega);have a3:=st 3 (by omega) (by omega);have es:(Qz t.Qe).sum=nth t.Qe 0+nth t.Qe 1+nth t.Qe 2+nth t.Qe 3:=rfl;omega
theorem OkT.shape{ps:List Qf}{n:Int}{gs ts:List (List Int)}{f:F4}(h:OkT ps n gs ts f)(hf:f.sum<=16000000):(Xl n ps gs ts f).length=n/\∀s:Int,0<=s->s<n->((Xl n ps gs ts f).getD s.toNat NZ).length=ps.length/\∀i:Int,0<=i->i<ps.length->0<=((Xl n ps gs ts f).getD s.toNat NZ).getD i.toNat NZ/\((Xl n ps gs ts f).getD s.toNat NZ).getD i.toNat NZ<=32000000:=by
 have h9:=h.s0;have h4:=h.s4;refine⟨by unfold Xl;rw[XK];omega,fun s s0 s1=> ?_⟩;rw[lG s0 s1];refine⟨tC h.hp.1,fun i i0 i1=> ?_⟩;have hp4:=h.hp.1;have hs:=h.st (s.toNat+1) (by omega);have ha:=Yn hs.1 i0 (by omega);rw[qP hp4 i0 i1];have:=hs.2;omega
def Wg(m:Nat)(n:Int)(l:List (List Int)):Prop:=l.length=n/\∀s:Int,0<=s->s<n->(l.getD s.toNat NZ).length=m/\∀i:Int,0<=i->i<m->0<=(l.getD s.toNat NZ).getD i.toNat NZ/\(l.getD s.toNat NZ).getD i.toNat NZ<=32000000
end Go.Proofs.Ytncjjangllkokaa

namespace Go.Proofs.Ytncjjangllkokaa
open Go Go.CE Go.RowKit
noncomputable section
set_option maxRecDepth 100000
def K9(rf:Qi)(l:List (List Int))(s:Int):List Value:=[Q2 1 (QI l.length (Qh X1 l)),pA 2 0,.int .i64 s]
def Wc(rf:Qi)(l:List (List Int))(s:Int):List Obj:=[Obj.cells #[Q2 1 (QI rf.Qb.length (Qh Qm rf.Qb)),.int .i64 rf.Qc,.int .i64 rf.Qd] 24]
def KB:List Item:=([.code [1,0,1,0,0],.inLoop [1,0,1,0,0],.inBlock 0,.code [1,1]]).map (it (QP YP 31))
def y4(B:Lo)(c0:CF)(rf:Qi)(l:List (List Int))(s:Int):Prop:=∃dJ:Nat->Value,(∀t,Xy (dJ t))/\GoE YP B c0 Zf 1 (QK 31 54 (([1,2,5]:List Nat).zip (K9 rf l s)) dJ KB) (QH (Wc rf l s)) (2+(Wc rf l s).length) []
def K8(rf:Qi)(l:List (List Int))(s i:Int):List Value:=[Q2 1 (QI l.length (Qh X1 l)),pA 2 0,.int .i64 s,.int .i64 i]
def Wb(rf:Qi)(l:List (List Int))(s i:Int):List Obj:=[Obj.cells #[Q2 1 (QI rf.Qb.length (Qh Qm rf.Qb)),.int .i64 rf.Qc,.int .i64 rf.Qd] 24]
def KA:List Item:=([.code [1,0,1,0,0,1,0,0,1,1,0,0],.inLoop [1,0,1,0,0,1,0,0,1,1,0,0],.inBlock 2,.inBlock 1,.code [1,0,1,0,0,1,1],.inLoop [1,0,1,0,0],.inBlock 0,.code [1,1]]).map (it (QP YP 31))
def y3(B:Lo)(c0:CF)(rf:Qi)(l:List (List Int))(s i:Int):Prop:=∃dJ:Nat->Value,(∀t,Xy (dJ t))/\GoE YP B c0 Zf 1 (QK 31 54 (([1,2,5,6]:List Nat).zip (K8 rf l s i)) dJ KA) (QH (Wb rf l s i)) (2+(Wb rf l s i).length) []
def cv(B:Lo)(rf:Qi)(l:List (List Int))(s:Int)(Qs:Nat->Value):List Prop:=let a:=l.getD s.toNat NZ;[s=(↑s.toNat:Int)/\Oa s<Oc l/\Oy (Qh X1 l) (Oa s*TypeInfo.size Try.t25) (Oa s*TypeInfo.size Try.t25+TypeInfo.size Try.t25)=#[QI a.length (Qh QR a)],XS s (↑l.length:Int)=true]++([]:List Prop)
def kh(rf:Qi)(l:List (List Int))(s:Int)(Qs:Nat->Value):QD:=[(3,ZF),(6,Qk.tidx s.toNat #[QI (Oc (l.getD s.toNat NZ)) (Qh QR (l.getD s.toNat NZ))])]
theorem y1(B:Lo)(rf:Qi)(l:List (List Int))(s:Int)(Qs:Nat->Value):QW (Qu YP (Q9 YP) J0 B 15 1 (QK 31 54 (([1,2,5]:List Nat).zip (K9 rf l s)) Qs KB) (QH (Wc rf l s)) (2+(Wc rf l s).length)
 (kh rf l s Qs++[(12,ZF)]) 0 [] []) []=some (.bool false,
 [(!Y6 (↑(Oc (l.getD s.toNat NZ)):Int) (↑rf.Qb.length:Int))=true]++cv B rf l s Qs):=by kernel_rfl
theorem y0(B:Lo)(rf:Qi)(l:List (List Int))(s:Int)(Qs:Nat->Value):landM (Qu YP (Q9 YP) J0 B 16 1 (QK 31 54 (([1,2,5]:List Nat).zip (K9 rf l s)) Qs KB) (QH (Wc rf l s)) (2+(Wc rf l s).length)
 (kh rf l s Qs++[(12,Wm)]) 0 [] []) [1,2,5,6] [(2,KS.auto)] []=some ⟨31,54,KA,[],.run,none,K8 rf l (s) (0),Wb rf l (s) (0),
 [(!Y6 (↑(Oc (l.getD s.toNat NZ)):Int) (↑rf.Qb.length:Int))=false]++cv B rf l s Qs⟩:=by kernel_rfl
def cu(B:Lo)(rf:Qi)(l:List (List Int))(s:Int)(Qs:Nat->Value):List Prop:=[XS s (↑l.length:Int)=false]++([]:List Prop)
def kg(rf:Qi)(l:List (List Int))(s:Int)(Qs:Nat->Value):QD:=[(3,Wm)]
theorem yz(B:Lo)(rf:Qi)(l:List (List Int))(s:Int)(Qs:Nat->Value):QW (Qu YP (Q9 YP) J0 B 9 1 (QK 31 54 (([1,2,5]:List Nat).zip (K9 rf l s)) Qs KB) (QH (Wc rf l s)) (2+(Wc rf l s).length)
 (kg rf l s Qs++[(8,ZF)]) 0 [] []) []=some (.bool true,
 [Y6 (↑l.length:Int) rf.Qd=true]++cu B rf l s Qs):=by kernel_rfl
theorem yy(B:Lo)(rf:Qi)(l:List (List Int))(s:Int)(Qs:Nat->Value):QW (Qu YP (Q9 YP) J0 B 9 1 (QK 31 54 (([1,2,5]:List Nat).zip (K9 rf l s)) Qs KB) (QH (Wc rf l s)) (2+(Wc rf l s).length)
 (kg rf l s Qs++[(8,Wm)]) 0 [] []) []=some (.bool false,
 [Y6 (↑l.length:Int) rf.Qd=false]++cu B rf l s Qs):=by kernel_rfl
def ct(B:Lo)(rf:Qi)(l:List (List Int))(s i:Int)(Qs:Nat->Value):List Prop:=let a:=l.getD s.toNat NZ;[s=(↑s.toNat:Int)/\Oa s<Oc l/\Oy (Qh X1 l) (Oa s*TypeInfo.size Try.t25) (Oa s*TypeInfo.size Try.t25+TypeInfo.size Try.t25)=#[QI a.length (Qh QR a)]]++([]:List Prop)
def kf(rf:Qi)(l:List (List Int))(s i:Int)(Qs:Nat->Value):QD:=[(3,Qk.tidx s.toNat #[QI (Oc (l.getD s.toNat NZ)) (Qh QR (l.getD s.toNat NZ))])]
def cr(B:Lo)(rf:Qi)(l:List (List Int))(s i:Int)(Qs:Nat->Value):List Prop:=let a:=l.getD s.toNat NZ;[i=(↑i.toNat:Int)/\Oa i<Oc a/\Oy (Qh QR a) (Oa i*TypeInfo.size Try.t3) (Oa i*TypeInfo.size Try.t3+TypeInfo.size Try.t3)=#[.int .i64 (a.getD i.toNat NZ)],s=(↑s.toNat:Int)/\Oa s<Oc l/\Oy (Qh X1 l) (Oa s*TypeInfo.size Try.t25) (Oa s*TypeInfo.size Try.t25+TypeInfo.size Try.t25)=#[QI a.length (Qh QR a)],XS i (↑a.length:Int)=true]++ct B rf l s i Qs
def ke(rf:Qi)(l:List (List Int))(s i:Int)(Qs:Nat->Value):QD:=let a:=l.getD s.toNat NZ;kf rf l s i Qs++[(6,ZF),(9,Qk.tidx s.toNat #[QI a.length (Qh QR a)]),(12,Qk.tidx i.toNat #[.int .i64 (a.getD i.toNat NZ)])]
theorem yx(B:Lo)(rf:Qi)(l:List (List Int))(s i:Int)(Qs:Nat->Value):QW (Qu YP (Q9 YP) J0 B 14 1 (QK 31 54 (([1,2,5,6]:List Nat).zip (K8 rf l s i)) Qs KA) (QH (Wb rf l s i)) (2+(Wb rf l s i).length)
 (ke rf l s i Qs++[(14,ZF)]) 0 [] []) []=some (.bool false,
 [XS (Ob (l.getD s.toNat NZ) i.toNat NZ) 0=true]++cr B rf l s i Qs):=by kernel_rfl
def cq(B:Lo)(rf:Qi)(l:List (List Int))(s i:Int)(Qs:Nat->Value):List Prop:=let a:=l.getD s.toNat NZ;let b:=a.getD i.toNat NZ;[i=(↑i.toNat:Int)/\Oa i<Oc a/\Oy (Qh QR a) (Oa i*TypeInfo.size Try.t3) (Oa i*TypeInfo.size Try.t3+TypeInfo.size Try.t3)=#[.int .i64 b],s=(↑s.toNat:Int)/\Oa s<Oc l/\Oy (Qh X1 l) (Oa s*TypeInfo.size Try.t25) (Oa s*TypeInfo.size Try.t25+TypeInfo.size Try.t25)=#[QI a.length (Qh QR a)],XS b 0=false]++cr B rf l s i Qs
def kb(rf:Qi)(l:List (List Int))(s i:Int)(Qs:Nat->Value):QD:=let a:=l.getD s.toNat NZ;ke rf l s i Qs++[(14,Wm),(18,Qk.tidx s.toNat #[QI a.length (Qh QR a)]),(21,Qk.tidx i.toNat #[.int .i64 (a.getD i.toNat NZ)])]
theorem yw(B:Lo)(rf:Qi)(l:List (List Int))(s i:Int)(Qs:Nat->Value):QW (Qu YP (Q9 YP) J0 B 14 1 (QK 31 54 (([1,2,5,6]:List Nat).zip (K8 rf l s i)) Qs KA) (QH (Wb rf l s i)) (2+(Wb rf l s i).length)
 (kb rf l s i Qs++[(23,ZF)]) 0 [] []) []=some (.bool false,
 [XS 1000000000 (Ob (l.getD s.toNat NZ) i.toNat NZ)=true]++cq B rf l s i Qs):=by kernel_rfl
theorem yv(B:Lo)(rf:Qi)(l:List (List Int))(s i:Int)(Qs:Nat->Value):landM (Qu YP (Q9 YP) J0 B 14 1 (QK 31 54 (([1,2,5,6]:List Nat).zip (K8 rf l s i)) Qs KA) (QH (Wb rf l s i)) (2+(Wb rf l s i).length)
 (kb rf l s i Qs++[(23,Wm),(26,WV (i+1))]) 0 [] []) [1,2,5,6] [(2,KS.auto)] []=some ⟨31,54,KA,[],.run,none,K8 rf l (s) (i+1),Wb rf l (s) (i+1),
 [wq (i+1)=i+1,XS 1000000000 (Ob (l.getD s.toNat NZ) i.toNat NZ)=false]++cq B rf l s i Qs⟩:=by kernel_rfl
theorem yu(B:Lo)(rf:Qi)(l:List (List Int))(s i:Int)(Qs:Nat->Value):landM (Qu YP (Q9 YP) J0 B 8 1 (QK 31 54 (([1,2,5,6]:List Nat).zip (K8 rf l s i)) Qs KA) (QH (Wb rf l s i)) (2+(Wb rf l s i).length)
 (kf rf l s i Qs++[(6,Wm),(8,WV (s+1))]) 0 [] []) [1,2,5] [(2,KS.auto)] []=some ⟨31,54,KB,[],.run,none,K9 rf l (s+1),Wc rf l (s+1),
 [wq (s+1)=s+1,XS i (↑(Oc (l.getD s.toNat NZ)):Int)=false]++ct B rf l s i Qs⟩:=by kernel_rfl
theorem yr(B:Lo)(rf:Qi)(l:List (List Int)):landM (Qu YP (Q9 YP) J0 B 7 1 (Qx YP 31 54 (([.agg (Q5 rf).toArray,Zp l]).map (Q8 0 4))) Zf 1
 [] 0 [] []) [1,2,5] [(1,KS.auto)] []=some ⟨31,54,KB,[],.run,none,K9 rf l (0),Wc rf l (0),
 []⟩:=by kernel_rfl
set_option maxHeartbeats 4000000 in
theorem y2(rf:Qi)(l:List (List Int))(hl:Wg rf.Qb.length rf.Qd l)(hn:rf.Qb.length<=8)(X8:l.length<=9223372036854775807/\rf.Qb.length<=9223372036854775807){B:Lo}(hJ:∀w,B.has w->J0 w){c0:CF}:∀m:Nat,(∀(s:Int),100*(l.length-s.toNat)=m->∀(h0:0<=s),y4 B c0 rf l s->EndsT YP B c0 (.bool true))/\(∀(s i:Int),100*(l.length-s.toNat)-99+((l.getD s.toNat NZ).length-i.toNat)=m->∀(h0:0<=s) (h1:s<rf.Qd) (h2:0<=i),y3 B c0 rf l s i->EndsT YP B c0 (.bool true)):=by
 intro m0;induction m0 using Ox with
 |_ m0 ih0=>
  refine⟨?_, ?_⟩
  ·intro s JP h0 ⟨Qs,ZV,XF⟩;have hl1:=hl.1;have hl1:=hl.1;by_cases q0:(s:Int)<((↑l.length:Int))
   ·have V5:Q6 (cv B rf l s Qs):=by
     have hls:=hl.2 s (by omega) (by omega);have hl2:=hls.1;exact⟨⟨by omega,by omega,(QB (z:=1) (fun _=>rfl) (by omega))⟩,⟨(XC q0),trivial⟩⟩
    by_cases q1:((↑(Oc (l.getD s.toNat NZ)):Int):Int)≠((↑rf.Qb.length:Int))
    ·have hls:=hl.2 s (by omega) (by omega);have hl2:=hls.1;exact(GoE.endsT okF hJ Qg XF (y1 B rf l s Qs)
      ⟨(Y1 q1),V5⟩).cast (by omega)
    ·have hls:=hl.2 s (by omega) (by omega);have hl2:=hls.1;exact((ih0 _ (by omega)).2 (s) (0) rfl (by with_reducible assumption) (by omega) (by omega)
      (XF.landM okF hJ Qg (y0 B rf l s Qs)
      ⟨(Y2 (Decidable.of_not_not q1)),V5⟩ (by kernel_rfl) (by kernel_rfl))).cast (by rfl)
   ·have Kj:Q6 (cu B rf l s Qs):=by
     exact⟨(XO (Int.not_lt.1 q0)),trivial⟩
    by_cases q1:((↑l.length:Int):Int)=rf.Qd
    ·exact(GoE.endsT okF hJ Qg XF (yz B rf l s Qs)
      ⟨(aX q1),Kj⟩).cast rfl
    ·have hls:=hl.2 s (by omega) (by omega);have hl2:=hls.1;exact(GoE.endsT okF hJ Qg XF (yy B rf l s Qs)
      ⟨(aY q1),Kj⟩).cast (by omega)
  ·intro s i JP h0 h1 h2 ⟨Qs,ZV,XF⟩;have hl1:=hl.1;have hl1:=hl.1;have hls:=hl.2 s h0 h1;have hl2:=hls.1;have Ph:Q6 (ct B rf l s i Qs):=by
    exact⟨⟨by omega,by omega,(QB (z:=1) (fun _=>rfl) (by omega))⟩,trivial⟩
   by_cases q0:(i:Int)<((↑(Oc (l.getD s.toNat NZ)):Int))
   ·have hp3:Q6 (cr B rf l s i Qs):=by
     have Sd:=hls.2 i h2 (by omega);exact⟨⟨by omega,by omega,(QB (z:=1) (fun _=>rfl) (by omega))⟩,⟨⟨by omega,by omega,(QB (z:=1) (fun _=>rfl) (by omega))⟩,⟨(XC q0),Ph⟩⟩⟩
    by_cases q1:(Ob (l.getD s.toNat NZ) i.toNat NZ:Int)<(0)
    ·have Sd:=hls.2 i h2 (by omega);exact(GoE.endsT okF hJ Qg XF (yx B rf l s i Qs)
      ⟨(XC q1),hp3⟩).cast (by omega)
    ·have hp4:Q6 (cq B rf l s i Qs):=by
      have Sd:=hls.2 i h2 (by omega);exact⟨⟨by omega,by omega,(QB (z:=1) (fun _=>rfl) (by omega))⟩,⟨⟨by omega,by omega,(QB (z:=1) (fun _=>rfl) (by omega))⟩,⟨(XO (Int.not_lt.1 q1)),hp3⟩⟩⟩
     by_cases q2:(1000000000:Int)<(Ob (l.getD s.toNat NZ) i.toNat NZ)
     ·have Sd:=hls.2 i h2 (by omega);exact(GoE.endsT okF hJ Qg XF (yw B rf l s i Qs)
       ⟨(XC q2),hp4⟩).cast (by omega)
     ·have Sd:=hls.2 i h2 (by omega);exact((ih0 _ (by omega)).2 (s) (i+1) rfl (by with_reducible assumption) (by with_reducible assumption) (by omega)
       (XF.landM okF hJ Qg (yv B rf l s i Qs)
       ⟨(Xq (by omega) (by omega)),⟨(XO (Int.not_lt.1 q2)),hp4⟩⟩ (by kernel_rfl) (by kernel_rfl))).cast (by rfl)
   ·exact((ih0 _ (by omega)).1 (s+1) rfl (by omega)
     (XF.landM okF hJ Qg (yu B rf l s i Qs)
     ⟨(Xq (by omega) (by omega)),⟨(XO (Int.not_lt.1 q0)),Ph⟩⟩ (by kernel_rfl) (by kernel_rfl))).cast (by rfl)
set_option maxHeartbeats 4000000 in
theorem BI(rf:Qi)(l:List (List Int))(hl:Wg rf.Qb.length rf.Qd l)(hn:rf.Qb.length<=8)(X8:l.length<=9223372036854775807/\rf.Qb.length<=9223372036854775807){B:Lo}(hJ:∀w,B.has w->J0 w):EndsT YP B (Qx YP 31 54 (([.agg (Q5 rf).toArray,Zp l]).map (Q8 0 4))) (.bool true):=by
 have hl1:=hl.1;exact((y2 rf l hl hn X8 hJ _).1 (0) rfl (by omega)
  (GoE.start.landM okF hJ Qg (yr B rf l)
  trivial (by kernel_rfl) (by kernel_rfl))).cast (by rfl)
theorem HW(rf:Qi)(l:List (List Int))(hl:Wg rf.Qb.length rf.Qd l)(hn:rf.Qb.length<=8):Q0 YP J0 31 #[.agg (Q5 rf).toArray,Zp l] (.bool true):=
 Vj (ts:=[.agg (Q5 rf).toArray,Zp l]) (l.length<=9223372036854775807/\rf.Qb.length<=9223372036854775807) (fun _ _ ht=>⟨ht.ln (i:=1) rfl,ht.ln2 (i:=0) (j:=0) rfl rfl⟩) Zh (c0:=Qx YP 31 54 (([.agg (Q5 rf).toArray,Zp l]).map (Q8 0 4))) (by kernel_rfl) (by kernel_rfl) fun X8 B hJ=>BI rf l hl hn X8 hJ
end
end Go.Proofs.Ytncjjangllkokaa

namespace Go.Proofs.Ytncjjangllkokaa
open Go Go.CE Go.RowKit
def Eg(f g:F4):Prop:=∀j:Int,0<=j->j<4->f.at j<=g.at j
def IQ(n:Nat)(xs ys:List Int):Prop:=∀k:Int,0<=k->k<n->nth xs k<=nth ys k
theorem dr{a:Int}(h:0<=a):a.tdiv 1000=a / 1000:=OI h
theorem A3{room x y g g':Int}(x0:0<=x)(xy:x<=y)(g0:0<=g)(gg:g<=g'):x+nZ room x g<=y+nZ room y g':=by
 have h0:0<=x*g:=Int.mul_nonneg x0 g0;have h1:x*g<=y*g':=Int.mul_le_mul xy gg g0 (by omega);have e1:=dr h0;have e2:=dr (a:=y*g') (by omega);unfold nZ;rw[e1,e2];have hd:x*g / 1000<=y*g' / 1000:=Int.ediv_le_ediv (by omega) h1;have hn:0<=x*g / 1000:=Int.ediv_nonneg h0 (by omega);split <;> split <;> (try split) <;> (try split) <;> omega
theorem IW{gs gs':List Int}{ps:List Qf}{f f':F4}(hg:Ko ps.length gs 2000)(hgg:IQ ps.length gs gs')(hf:Pm f)(hff:Eg f f'):Eg (RZ gs ps f) (RZ gs' ps f'):=fun j j0 j1=>by
 unfold RZ;rw[bm j0 j1,bm j0 j1];unfold XQ ZO;have h:=hff j j0 j1;split
 ·rename_i hj;have a:=hg.2 j j0 hj;have b:=hgg j j0 hj;have c:=(Yn hf j0 j1).1;exact A3 c h a.1 b
 ·exact h
theorem qE{x y d:Int}(x0:0<=x)(xy:x<=y)(d0:0<=d)(d1:d<=1000):(x*d).tdiv 1000<=(y*d).tdiv 1000/\x-(x*d).tdiv 1000<=y-(y*d).tdiv 1000:=by
 have h0:0<=x*d:=Int.mul_nonneg x0 d0;have h1:x*d<=y*d:=Int.mul_le_mul_of_nonneg_right xy d0;have h2:(y-x)*d<=(y-x)*1000:=Int.mul_le_mul_of_nonneg_left d1 (by omega);have h3:(y-x)*d=y*d-x*d:=Int.sub_mul ..;rw[dr h0,dr (a:=y*d) (by omega)];omega
theorem Le{ps:List Qf}{b b':F4}(hp:PW ps)(hf:Pm b)(h:Eg b b'):Eg (j7 ps b) (j7 ps b'):=fun j j0 j1=>by
 have h4:=hp.1;unfold j7;rw[bm j0 j1,bm j0 j1];unfold V2;have hs:Xt 0 ps.length (fun m=>if(gh ps m).Zt=j then Un ps b m else 0)<=Xt 0 ps.length (fun m=>if(gh ps m).Zt=j then Un ps b' m else 0):=Bf ps.length fun m m0 m1=>by
  have hd:=(hp.2 m m0 m1).2.1;have:=(qE (Yn hf m0 (by omega)).1 (h m m0 (by omega)) hd.1 hd.2).1;show(if(gh ps m).Zt=j then Un ps b m else 0)<=(if(gh ps m).Zt=j then Un ps b' m else 0)
  unfold Un;split <;> omega
 have hj:=h j j0 j1;split
 ·rename_i hn;have hd:=(hp.2 j j0 hn).2.1;have:b.at j-Un ps b j<=b'.at j-Un ps b' j:=(qE (Yn hf j0 j1).1 hj hd.1 hd.2).2;omega
 ·omega
theorem Ia{ts ts':List Int}{ps:List Qf}{b b':F4}(ht:IQ ps.length ts' ts)(h:Eg b b'):Eg (LN ts ps b) (LN ts' ps b'):=fun j j0 j1=>by
 unfold LN;rw[bm j0 j1,bm j0 j1];unfold SY Zv;have hj:=h j j0 j1;split
 ·rename_i hn;have:=ht j j0 hn;split <;> split <;> omega
 ·exact hj
theorem Dk{gs gs' ts ts':List Int}{ps:List Qf}{f f':F4}(hp:PW ps)(hg:Ko ps.length gs 2000)(hgg:IQ ps.length gs gs')(ht:IQ ps.length ts' ts)(hf:Pm f)(hs:f.sum<=10000000000)(hff:Eg f f'):Eg (Qr gs ts ps f) (Qr gs' ts' ps f'):=
 Ia ht (Le hp (Hn hp hg hf hs) (IW hg hgg hf hff))
theorem qM{ps:List Qf}{n:Int}{gs gs' ts ts':List (List Int)}{f f':F4}(h:OkT ps n gs ts f)(hgg:∀k:Nat,k<n->IQ ps.length (gs.getD k NZ) (gs'.getD k NZ))(htt:∀k:Nat,k<n->IQ ps.length (ts'.getD k NZ) (ts.getD k NZ))(hff:Eg f f'):∀k:Nat,k<=n->Eg (Sk ps gs ts f k) (Sk ps gs' ts' f' k)
 |0,_=>hff
 |k+1,hk=>by
  have h4:=h.s4;have h9:=h.hs;have Wh:=h.st k (by omega);have:=Wh.2;exact Dk h.hp (h.rg k (by omega)) (hgg k (by omega)) (htt k (by omega)) Wh.1 (by omega) (qM h hgg htt hff k (by omega))
theorem oU{l l':List Int}{n:Nat}(hl:l.length=n)(hl':l'.length=n)(h:IQ n l l'):Eg (Qz l) (Qz l'):=fun j j0 j1=>by
 rw[<-oV j0 j1,<-oV j0 j1];by_cases hj:j<n
 ·exact h j j0 hj
 ·unfold nth;rw[Ol,Ol,Ou (by omega),Ou (by omega)];exact OV _
theorem ES{rf:Qi}{Qa:List Int}{t:Qv}(hr:QC rf=true)(ht:QY rf Qa t=true){k:Nat}(hk:k<=rf.Qd):Eg (W4 rf Qa k) (Sk rf.Qb t.Qj t.Ql (Qz t.Qe) k)/\Eg (Sk rf.Qb t.Qj t.Ql (Qz t.Qe) k) (ZD rf Qa k):=by
 obtain⟨ho,hl⟩:=Wt hr ht;obtain⟨h1,h2,h3,h4⟩:=TG ht;obtain⟨s1,s2⟩:=YH h1;rw[List.length_map]at s1;have hg:∀s:Nat,s<rf.Qd->∀j:Int,0<=j->j<rf.Qb.length->nth (Wn rf) j<=nth (t.Qj.getD s NZ) j/\nth (t.Qj.getD s NZ) j<=nth (Wo rf) j:=fun s hs j j0 j1=>by
  obtain⟨g1,g2⟩:=YH (h4 s (by omega) hs).1;rw[List.length_map]at g1;simp only[Int.toNat_natCast]at g1 g2;have:=g2 j j0 (by rw[g1];exact j1);rw[Z5 j0 j1]at this;unfold Wn Wo;rw[VJ j0 j1,VJ j0 j1];exact this
 have hk2:∀s:Nat,s<rf.Qd->∀j:Int,0<=j->j<rf.Qb.length->nth (Wd rf (Qa.getD s 0)) j<=nth (t.Ql.getD s NZ) j/\nth (t.Ql.getD s NZ) j<=nth (We rf (Qa.getD s 0)) j:=fun s hs j j0 j1=>by
  obtain⟨g1,g2⟩:=YH (h4 s (by omega) hs).2;rw[WW]at g1;simp only[Int.toNat_natCast]at g1 g2;have:=g2 j j0 (by rw[g1];exact j1);unfold Wd We;rw[Ty j0 (by rw[WW];exact j1),Ty j0 (by rw[WW];exact j1)];exact this
 have Wh:IQ rf.Qb.length (Xi rf) t.Qe/\IQ rf.Qb.length t.Qe (Xj rf):=by
  have h:∀j:Int,0<=j->j<rf.Qb.length->nth (Xi rf) j<=nth t.Qe j/\nth t.Qe j<=nth (Xj rf) j:=fun j j0 j1=>by
   have:=s2 j j0 (by omega);rw[Z5 j0 j1]at this;unfold Xi Xj;rw[VJ j0 j1,VJ j0 j1];exact this
  exact⟨fun j a b=>(h j a b).1,fun j a b=>(h j a b).2⟩
 have eL:∀s:Nat,s<rf.Qd->(Em rf).getD s NZ=Wn rf/\(En rf).getD s NZ=Wo rf/\(y7 rf Qa).getD s NZ=We rf (Qa.getD s 0)/\(y6 rf Qa).getD s NZ=Wd rf (Qa.getD s 0):=fun s hs=>by
  refine⟨Xz (k:=(s:Int)) (by omega) hs,Xz (k:=(s:Int)) (by omega) hs, ?_, ?_⟩
  ·have:(y7 rf Qa).getD s NZ=We rf (Qa.getD ((s:Int)).toNat 0):=Xz (k:=(s:Int)) (by omega) hs;simpa using this
  ·have:(y6 rf Qa).getD s NZ=Wd rf (Qa.getD ((s:Int)).toNat 0):=Xz (k:=(s:Int)) (by omega) hs;simpa using this
 constructor
 ·refine qM (RQ Qa hr) (fun s hs=> ?_) (fun s hs=> ?_) (oU (by simp[Xi]) hl Wh.1) k hk
  ·rw[(eL s hs).1];exact fun j a b=>(hg s hs j a b).1
  ·rw[(eL s hs).2.2.1];exact fun j a b=>(hk2 s hs j a b).2
 ·refine qM ho (fun s hs=> ?_) (fun s hs=> ?_) (oU hl (by simp[Xj]) Wh.2) k hk
  ·rw[(eL s hs).2.1];exact fun j a b=>(hg s hs j a b).2
  ·rw[(eL s hs).2.2.2];exact fun j a b=>(hk2 s hs j a b).1
end Go.Proofs.Ytncjjangllkokaa

namespace Go.Proofs.Ytncjjangllkokaa
open Go Go.CE Go.RowKit
noncomputable section
set_option maxRecDepth 100000
theorem H9{rf:Qi}{Qa:List Int}{s i:Int}(s0:0<=s)(s1:s<rf.Qd)(i0:0<=i)(i1:i<rf.Qb.length):((Xh rf Qa).getD s.toNat NZ).getD i.toNat NZ=M5 rf Qa s i:=by
 rw[show(Xh rf Qa).getD s.toNat NZ=RO rf Qa s from Xz s0 s1];exact Xz i0 i1
theorem tp{rf:Qi}{Qa:List Int}{s i:Int}(s0:0<=s)(s1:s<rf.Qd)(i0:0<=i)(i1:i<rf.Qb.length):((XH rf Qa).getD s.toNat NZ).getD i.toNat NZ=YA rf Qa s i:=by
 rw[show(XH rf Qa).getD s.toNat NZ=XA rf Qa s from Xz s0 s1];exact Xz i0 i1
theorem PE{rf:Qi}{Qa:List Int}{s:Int}(s0:0<=s)(s1:s<rf.Qd):((Xh rf Qa).getD s.toNat NZ).length=rf.Qb.length/\((XH rf Qa).getD s.toNat NZ).length=rf.Qb.length:=by
 rw[show(Xh rf Qa).getD s.toNat NZ=RO rf Qa s from Xz s0 s1,show(XH rf Qa).getD s.toNat NZ=XA rf Qa s from Xz s0 s1];exact⟨tE,tB⟩
theorem I6{rf:Qi}{gs ts:List (List Int)}{f:F4}{s i:Int}(h4:rf.Qb.length<=4)(s0:0<=s)(s1:s<rf.Qd)(i0:0<=i)(i1:i<rf.Qb.length):((Xl rf.Qd rf.Qb gs ts f).getD s.toNat NZ).getD i.toNat NZ=(Sk rf.Qb gs ts f (s.toNat+1)).at i:=by
 rw[show(Xl rf.Qd rf.Qb gs ts f).getD s.toNat NZ=kO rf.Qb gs ts f s from Xz s0 s1,qP h4 i0 i1]
theorem Rk{rf:Qi}{Qa:List Int}{t:Qv}(hr:QC rf=true)(ht:QY rf Qa t=true){s i:Int}(s0:0<=s)(s1:s<rf.Qd)(i0:0<=i)(i1:i<rf.Qb.length):
 (((XH rf Qa).getD s.toNat NZ).getD i.toNat NZ).lo<=((Xl rf.Qd rf.Qb t.Qj t.Ql (Qz t.Qe)).getD s.toNat NZ).getD i.toNat NZ/\((Xl rf.Qd rf.Qb t.Qj t.Ql (Qz t.Qe)).getD s.toNat NZ).getD i.toNat NZ<=(((XH rf Qa).getD s.toNat NZ).getD i.toNat NZ).hi:=by
 have Z8:=QA (QJ hr).1;rw[tp s0 s1 i0 i1,I6 (by omega) s0 s1 i0 i1];have h:=ES hr ht (k:=s.toNat+1) (by omega);exact⟨h.1 i i0 (by omega),h.2 i i0 (by omega)⟩
theorem A9{rf:Qi}{Qa:List Int}{s i v c:Int}(hr:QC rf=true)(s0:0<=s)(s1:s<rf.Qd)(i0:0<=i)(i1:i<rf.Qb.length)(hv:(((XH rf Qa).getD s.toNat NZ).getD i.toNat NZ).lo<=v/\v<=(((XH rf Qa).getD s.toNat NZ).getD i.toNat NZ).hi)(c0:0<=c)(h1:c<=v)(h2:v<=ZZ rf.Qc c):
 (((Xh rf Qa).getD s.toNat NZ).getD i.toNat NZ).lo<=c/\c<=(((Xh rf Qa).getD s.toNat NZ).getD i.toNat NZ).hi:=by
 have Z8:=QA (QJ hr).1;rw[tp s0 s1 i0 i1]at hv;rw[H9 s0 s1 i0 i1];have hn:0<=(YA rf Qa s i).lo:=(Yn (((RQ Qa (QO hr)).st (s.toNat+1) (by omega)).1) i0 (by omega)).1;have hl:=nV (n:=(YA rf Qa s i).lo) Z8.2.1 hn;refine⟨?_,Int.le_trans h1 hv.2⟩;show XU rf.Qc (YA rf Qa s i).lo<=c;rcases Int.lt_or_le c (XU rf.Qc (YA rf Qa s i).lo)with x|x
 ·have:=hl.2.2.1 c c0 x;simp only[ZQ,decide_eq_false_iff_not]at this;omega
 ·exact x
def PH(rf:Qi)(Qa:List Int)(t:Qv)(count:Int)(s:Int):List Value:=let a:=Xl rf.Qd rf.Qb t.Qj t.Ql (Qz t.Qe);[.int .i64 count,pA 2 0,Q2 1 (QI a.length (Qh X1 a)),Q2 1 (QI (Oc (XH rf Qa)) (Qh Vh (XH rf Qa))),Q2 1 (QI (Oc (Xh rf Qa)) (Qh Vh (Xh rf Qa))),.int .i64 s]
def Jn(rf:Qi)(Qa:List Int)(t:Qv)(count:Int)(s:Int):List Obj:=[Obj.cells #[Q2 1 (QI rf.Qb.length (Qh Qm rf.Qb)),.int .i64 rf.Qc,.int .i64 rf.Qd] 24]
def PI:List Item:=([.code [1,1,1,1,1,1,0,1,0,0],.inLoop [1,1,1,1,1,1,0,1,0,0],.inBlock 0,.code [1,1,1,1,1,1,1]]).map (it (QP YP 6))
def EN(B:Lo)(c0:CF)(rf:Qi)(Qa:List Int)(t:Qv)(count:Int)(s:Int):Prop:=∃dJ:Nat->Value,(∀t,Xy (dJ t))/\GoE YP B c0 Zf 1 (QK 6 162 (([3,4,9,12,14,16]:List Nat).zip (PH rf Qa t count s)) dJ PI) (QH (Jn rf Qa t count s)) (2+(Jn rf Qa t count s).length) []
def Us(rf:Qi)(Qa:List Int)(t:Qv)(count:Int)(s i:Int):List Value:=let a:=Xl rf.Qd rf.Qb t.Qj t.Ql (Qz t.Qe);[.int .i64 count,pA 2 0,Q2 1 (QI a.length (Qh X1 a)),Q2 1 (QI (Oc (XH rf Qa)) (Qh Vh (XH rf Qa))),Q2 1 (QI (Oc (Xh rf Qa)) (Qh Vh (Xh rf Qa))),.int .i64 s,.int .i64 i]
def VL(rf:Qi)(Qa:List Int)(t:Qv)(count:Int)(s i:Int):List Obj:=[Obj.cells #[Q2 1 (QI rf.Qb.length (Qh Qm rf.Qb)),.int .i64 rf.Qc,.int .i64 rf.Qd] 24]
def Ut:List Item:=([.code [1,1,1,1,1,1,0,1,0,0,1,0,0,1,1,0,0],.inLoop [1,1,1,1,1,1,0,1,0,0,1,0,0,1,1,0,0],.inBlock 2,.inBlock 1,.code [1,1,1,1,1,1,0,1,0,0,1,1],.inLoop [1,1,1,1,1,1,0,1,0,0],.inBlock 0,.code [1,1,1,1,1,1,1]]).map (it (QP YP 6))
def EM(B:Lo)(c0:CF)(rf:Qi)(Qa:List Int)(t:Qv)(count:Int)(s i:Int):Prop:=∃dJ:Nat->Value,(∀t,Xy (dJ t))/\GoE YP B c0 Zf 1 (QK 6 162 (([3,4,9,12,14,16,17]:List Nat).zip (Us rf Qa t count s i)) dJ Ut) (QH (VL rf Qa t count s i)) (2+(VL rf Qa t count s i).length) []
def kj(rf:Qi)(Qa:List Int)(t:Qv):Array Value:=#[.agg #[QI rf.Qb.length (Qh Qm rf.Qb),.int .i64 rf.Qc,.int .i64 rf.Qd],QI Qa.length (Qh QR Qa),.agg #[QI t.Qe.length (Qh QR t.Qe),QI t.Qj.length (Qh X1 t.Qj),QI t.Ql.length (Qh X1 t.Ql)]]
def TF(t:Qv):Array Value:=#[.agg #[QI t.Qe.length (Qh QR t.Qe),QI t.Qj.length (Qh X1 t.Qj),QI t.Ql.length (Qh X1 t.Ql)]]
def Sg(rf:Qi)(Qa:List Int):Array Value:=#[.agg #[QI rf.Qb.length (Qh Qm rf.Qb),.int .i64 rf.Qc,.int .i64 rf.Qd],QI Qa.length (Qh QR Qa)]
def PF(rf:Qi):Array Value:=#[.agg #[QI rf.Qb.length (Qh Qm rf.Qb),.int .i64 rf.Qc,.int .i64 rf.Qd]]
def dj(rf:Qi):Array Value:=#[QI rf.Qb.length (Qh Qm rf.Qb),.int .i64 rf.Qc,.int .i64 rf.Qd]
def kA(B:Lo)(rf:Qi)(Qa:List Int)(t:Qv)(count:Int)(s:Int)(Qs:Nat->Value):List Prop:=let c:=XH rf Qa;let b:=Oa s;let a:=Xl rf.Qd rf.Qb t.Qj t.Ql (Qz t.Qe);[s=(↑b:Int)/\Oa s<Oc a/\Oy (Qh X1 a) (Oa s*TypeInfo.size Try.t25) (Oa s*TypeInfo.size Try.t25+TypeInfo.size Try.t25)=#[QI (Oc (a.getD b NZ)) (Qh QR (a.getD b NZ))],s=(↑b:Int)/\Oa s<Oc c/\Oy (Qh Vh c) (Oa s*TypeInfo.size Try.t36) (Oa s*TypeInfo.size Try.t36+TypeInfo.size Try.t36)=#[QI (Oc (c.getD b NZ)) (Qh Qo (c.getD b NZ))],XS s (↑a.length:Int)=true]++([]:List Prop)
def td(rf:Qi)(Qa:List Int)(t:Qv)(count:Int)(s:Int)(Qs:Nat->Value):QD:=let c:=Oa s;let b:=Ob (XH rf Qa) c NZ;let a:=Ob (Xl rf.Qd rf.Qb t.Qj t.Ql (Qz t.Qe)) c NZ;[(3,ZF),(6,Qk.tidx c #[QI b.length (Qh Qo b)]),(11,Qk.tidx c #[QI a.length (Qh QR a)])]
theorem EK(B:Lo)(rf:Qi)(Qa:List Int)(t:Qv)(count:Int)(s:Int)(Qs:Nat->Value):let a:=Jn rf Qa t count s;QW (Qu YP (Q9 YP) J0 B 15 1 (QK 6 162 (([3,4,9,12,14,16]:List Nat).zip (PH rf Qa t count s)) Qs PI) (QH a) (2+a.length)
 (td rf Qa t count s Qs++[(14,ZF)]) 0 [] []) []=some (.bool false,
 [(!Y6 (↑(Oc (Ob (XH rf Qa) s.toNat NZ)):Int) (↑(Oc (Ob (Xl rf.Qd rf.Qb t.Qj t.Ql (Qz t.Qe)) s.toNat NZ)):Int))=true]++kA B rf Qa t count s Qs):=by intro a;kernel_rfl
def k9(B:Lo)(rf:Qi)(Qa:List Int)(t:Qv)(count:Int)(s:Int)(Qs:Nat->Value):List Prop:=let c:=Xh rf Qa;let b:=Oa s;let a:=Xl rf.Qd rf.Qb t.Qj t.Ql (Qz t.Qe);let d:=a.getD b NZ;[s=(↑b:Int)/\Oa s<Oc a/\Oy (Qh X1 a) (Oa s*TypeInfo.size Try.t25) (Oa s*TypeInfo.size Try.t25+TypeInfo.size Try.t25)=#[QI d.length (Qh QR d)],s=(↑b:Int)/\Oa s<Oc c/\Oy (Qh Vh c) (Oa s*TypeInfo.size Try.t36) (Oa s*TypeInfo.size Try.t36+TypeInfo.size Try.t36)=#[QI (Oc (c.getD b NZ)) (Qh Qo (c.getD b NZ))],(!Y6 (↑(Oc (Ob (XH rf Qa) b NZ)):Int) (↑d.length:Int))=false]++kA B rf Qa t count s Qs
def tc(rf:Qi)(Qa:List Int)(t:Qv)(count:Int)(s:Int)(Qs:Nat->Value):QD:=let c:=Oa s;let b:=Ob (Xh rf Qa) c NZ;let a:=Ob (Xl rf.Qd rf.Qb t.Qj t.Ql (Qz t.Qe)) c NZ;td rf Qa t count s Qs++[(14,Wm),(18,Qk.tidx c #[QI b.length (Qh Qo b)]),(23,Qk.tidx c #[QI a.length (Qh QR a)])]
theorem EJ(B:Lo)(rf:Qi)(Qa:List Int)(t:Qv)(count:Int)(s:Int)(Qs:Nat->Value):let a:=Jn rf Qa t count s;QW (Qu YP (Q9 YP) J0 B 15 1 (QK 6 162 (([3,4,9,12,14,16]:List Nat).zip (PH rf Qa t count s)) Qs PI) (QH a) (2+a.length)
 (tc rf Qa t count s Qs++[(26,ZF)]) 0 [] []) []=some (.bool false,
 [(!Y6 (↑(Oc (Ob (Xh rf Qa) s.toNat NZ)):Int) (↑(Oc (Ob (Xl rf.Qd rf.Qb t.Qj t.Ql (Qz t.Qe)) s.toNat NZ)):Int))=true]++k9 B rf Qa t count s Qs):=by intro a;kernel_rfl
theorem EI(B:Lo)(rf:Qi)(Qa:List Int)(t:Qv)(count:Int)(s:Int)(Qs:Nat->Value):let a:=Jn rf Qa t count s;landM (Qu YP (Q9 YP) J0 B 16 1 (QK 6 162 (([3,4,9,12,14,16]:List Nat).zip (PH rf Qa t count s)) Qs PI) (QH a) (2+a.length)
 (tc rf Qa t count s Qs++[(26,Wm)]) 0 [] []) [3,4,9,12,14,16,17] [(2,KS.auto)] []=some ⟨6,162,Ut,[],.run,none,Us rf Qa t count (s) (0),VL rf Qa t count (s) (0),
 [(!Y6 (↑(Oc (Ob (Xh rf Qa) s.toNat NZ)):Int) (↑(Oc (Ob (Xl rf.Qd rf.Qb t.Qj t.Ql (Qz t.Qe)) s.toNat NZ)):Int))=false]++k9 B rf Qa t count s Qs⟩:=by intro a;kernel_rfl
theorem EH(B:Lo)(rf:Qi)(Qa:List Int)(t:Qv)(count:Int)(s:Int)(Qs:Nat->Value):let a:=Jn rf Qa t count s;QW (Qu YP (Q9 YP) J0 B 9 1 (QK 6 162 (([3,4,9,12,14,16]:List Nat).zip (PH rf Qa t count s)) Qs PI) (QH a) (2+a.length)
 [(3,Wm),(4,Qk.pure (.bool true) [])] 0 [] []) []=some (.bool true,
 [Q6 []/\Q0 YP J0 16 #[] (.bool true),XS s (↑(Oc (Xl rf.Qd rf.Qb t.Qj t.Ql (Qz t.Qe))):Int)=false]):=by intro a;kernel_rfl
def k8(B:Lo)(rf:Qi)(Qa:List Int)(t:Qv)(count:Int)(s i:Int)(Qs:Nat->Value):List Prop:=let a:=Xl rf.Qd rf.Qb t.Qj t.Ql (Qz t.Qe);let b:=a.getD s.toNat NZ;[s=(↑s.toNat:Int)/\Oa s<Oc a/\Oy (Qh X1 a) (Oa s*TypeInfo.size Try.t25) (Oa s*TypeInfo.size Try.t25+TypeInfo.size Try.t25)=#[QI b.length (Qh QR b)]]++([]:List Prop)
def sZ(rf:Qi)(Qa:List Int)(t:Qv)(count:Int)(s i:Int)(Qs:Nat->Value):QD:=let a:=Ob (Xl rf.Qd rf.Qb t.Qj t.Ql (Qz t.Qe)) s.toNat NZ;[(3,Qk.tidx s.toNat #[QI a.length (Qh QR a)])]
def kz(B:Lo)(rf:Qi)(Qa:List Int)(t:Qv)(count:Int)(s i:Int)(Qs:Nat->Value):List Prop:=let f:=XH rf Qa;let e:=Oa s;let d:=Oa i;let b:=f.getD e NZ;let a:=Xl rf.Qd rf.Qb t.Qj t.Ql (Qz t.Qe);let c:=a.getD e NZ;[i=(↑d:Int)/\Oa i<Oc b/\Oy (Qh Qo b) (Oa i*TypeInfo.size Try.t38) (Oa i*TypeInfo.size Try.t38+TypeInfo.size Try.t38)=#[.int .i64 (Span.lo (b.getD d NZ)),.int .i64 (Span.hi (b.getD d NZ))],s=(↑e:Int)/\Oa s<Oc f/\Oy (Qh Vh f) (Oa s*TypeInfo.size Try.t36) (Oa s*TypeInfo.size Try.t36+TypeInfo.size Try.t36)=#[QI b.length (Qh Qo b)],i=(↑d:Int)/\Oa i<Oc c/\Oy (Qh QR c) (Oa i*TypeInfo.size Try.t3) (Oa i*TypeInfo.size Try.t3+TypeInfo.size Try.t3)=#[.int .i64 (c.getD d NZ)],s=(↑e:Int)/\Oa s<Oc a/\Oy (Qh X1 a) (Oa s*TypeInfo.size Try.t25) (Oa s*TypeInfo.size Try.t25+TypeInfo.size Try.t25)=#[QI c.length (Qh QR c)],XS i (↑c.length:Int)=true]++k8 B rf Qa t count s i Qs
def sY(rf:Qi)(Qa:List Int)(t:Qv)(count:Int)(s i:Int)(Qs:Nat->Value):QD:=let d:=Oa s;let c:=Oa i;let b:=Ob (XH rf Qa) d NZ;let a:=Ob (Xl rf.Qd rf.Qb t.Qj t.Ql (Qz t.Qe)) d NZ;sZ rf Qa t count s i Qs++[(6,ZF),(9,Qk.tidx d #[QI a.length (Qh QR a)]),(12,Qk.tidx c #[.int .i64 (a.getD c NZ)]),(16,Qk.tidx d #[QI b.length (Qh Qo b)]),(19,Qk.tidx c #[.int .i64 (Span.lo (b.getD c NZ)),.int .i64 (Span.hi (b.getD c NZ))])]
def dm(B:Lo)(rf:Qi)(Qa:List Int)(t:Qv)(count:Int)(s i:Int)(Qs:Nat->Value):List Prop:=let e:=Oa s;let d:=Oa i;let c:=Ob (Ob (XH rf Qa) e NZ) d NZ;let a:=Xl rf.Qd rf.Qb t.Qj t.Ql (Qz t.Qe);let b:=a.getD e NZ;[i=(↑d:Int)/\Oa i<Oc b/\Oy (Qh QR b) (Oa i*TypeInfo.size Try.t3) (Oa i*TypeInfo.size Try.t3+TypeInfo.size Try.t3)=#[.int .i64 (b.getD d NZ)],s=(↑e:Int)/\Oa s<Oc a/\Oy (Qh X1 a) (Oa s*TypeInfo.size Try.t25) (Oa s*TypeInfo.size Try.t25+TypeInfo.size Try.t25)=#[QI b.length (Qh QR b)],Q6 []/\Q0 YP J0 32 #[.int .i64 (b.getD d NZ),.agg #[.int .i64 c.lo,.int .i64 c.hi]] (.bool true)]++kz B rf Qa t count s i Qs
def km(rf:Qi)(Qa:List Int)(t:Qv)(count:Int)(s i:Int)(Qs:Nat->Value):QD:=let a:=Ob (Xl rf.Qd rf.Qb t.Qj t.Ql (Qz t.Qe)) s.toNat NZ;sY rf Qa t count s i Qs++[(21,Qk.pure (.bool true) []),(28,Qk.tidx s.toNat #[QI a.length (Qh QR a)]),(31,Qk.tidx i.toNat #[.int .i64 (a.getD i.toNat NZ)])]
def ky(B:Lo)(rf:Qi)(Qa:List Int)(t:Qv)(count:Int)(s i:Int)(Qs:Nat->Value):List Prop:=let d:=Oa s;let c:=Xh rf Qa;let b:=Oa i;let a:=c.getD d NZ;[i=(↑b:Int)/\Oa i<Oc a/\Oy (Qh Qo a) (Oa i*TypeInfo.size Try.t38) (Oa i*TypeInfo.size Try.t38+TypeInfo.size Try.t38)=#[.int .i64 (Span.lo (a.getD b NZ)),.int .i64 (Span.hi (a.getD b NZ))],s=(↑d:Int)/\Oa s<Oc c/\Oy (Qh Vh c) (Oa s*TypeInfo.size Try.t36) (Oa s*TypeInfo.size Try.t36+TypeInfo.size Try.t36)=#[QI a.length (Qh Qo a)],Q6 []/\Q0 YP J0 33 #[.agg (dj rf),.int .i64 count,.int .i64 (Ob (Ob (Xl rf.Qd rf.Qb t.Qj t.Ql (Qz t.Qe)) d NZ) b NZ)] (.bool true)]++dm B rf Qa t count s i Qs
def sX(rf:Qi)(Qa:List Int)(t:Qv)(count:Int)(s i:Int)(Qs:Nat->Value):QD:=let a:=Ob (Xh rf Qa) s.toNat NZ;let b:=a.getD i.toNat NZ;km rf Qa t count s i Qs++[(33,Qk.pure (.bool true) []),(38,Qk.tidx s.toNat #[QI a.length (Qh Qo a)]),(41,Qk.tidx i.toNat #[.int .i64 b.lo,.int .i64 b.hi])]
theorem EG(B:Lo)(rf:Qi)(Qa:List Int)(t:Qv)(count:Int)(s i:Int)(Qs:Nat->Value):let b:=VL rf Qa t count s i;let a:=Ob (Ob (Xh rf Qa) s.toNat NZ) i.toNat NZ;landM (Qu YP (Q9 YP) J0 B 14 1 (QK 6 162 (([3,4,9,12,14,16,17]:List Nat).zip (Us rf Qa t count s i)) Qs Ut) (QH b) (2+b.length)
 (sX rf Qa t count s i Qs++[(43,Qk.pure (.bool true) []),(48,WV (i+1))]) 0 [] []) [3,4,9,12,14,16,17] [(2,KS.auto)] []=some ⟨6,162,Ut,[],.run,none,Us rf Qa t count (s) (i+1),VL rf Qa t count (s) (i+1),
 [wq (i+1)=i+1,Q6 []/\Q0 YP J0 32 #[.int .i64 count,.agg #[.int .i64 a.lo,.int .i64 a.hi]] (.bool true)]++ky B rf Qa t count s i Qs⟩:=by intro b a;kernel_rfl
theorem EF(B:Lo)(rf:Qi)(Qa:List Int)(t:Qv)(count:Int)(s i:Int)(Qs:Nat->Value):let b:=VL rf Qa t count s i;let a:=Ob (Ob (Xh rf Qa) s.toNat NZ) i.toNat NZ;QW (Qu YP (Q9 YP) J0 B 14 1 (QK 6 162 (([3,4,9,12,14,16,17]:List Nat).zip (Us rf Qa t count s i)) Qs Ut) (QH b) (2+b.length)
 (sX rf Qa t count s i Qs++[(43,Qk.pure (.bool false) [])]) 0 [] []) []=some (.bool false,
 [Q6 []/\Q0 YP J0 32 #[.int .i64 count,.agg #[.int .i64 a.lo,.int .i64 a.hi]] (.bool false)]++ky B rf Qa t count s i Qs):=by intro b a;kernel_rfl
theorem EE(B:Lo)(rf:Qi)(Qa:List Int)(t:Qv)(count:Int)(s i:Int)(Qs:Nat->Value):let a:=VL rf Qa t count s i;landM (Qu YP (Q9 YP) J0 B 14 1 (QK 6 162 (([3,4,9,12,14,16,17]:List Nat).zip (Us rf Qa t count s i)) Qs Ut) (QH a) (2+a.length)
 (km rf Qa t count s i Qs++[(33,Qk.pure (.bool false) []),(48,WV (i+1))]) 0 [] []) [3,4,9,12,14,16,17] [(2,KS.auto)] []=some ⟨6,162,Ut,[],.run,none,Us rf Qa t count (s) (i+1),VL rf Qa t count (s) (i+1),
 [wq (i+1)=i+1,Q6 []/\Q0 YP J0 33 #[.agg (dj rf),.int .i64 count,.int .i64 (Ob (Ob (Xl rf.Qd rf.Qb t.Qj t.Ql (Qz t.Qe)) s.toNat NZ) i.toNat NZ)] (.bool false)]++dm B rf Qa t count s i Qs⟩:=by intro a;kernel_rfl
theorem ED(B:Lo)(rf:Qi)(Qa:List Int)(t:Qv)(count:Int)(s i:Int)(Qs:Nat->Value):let a:=VL rf Qa t count s i;landM (Qu YP (Q9 YP) J0 B 14 1 (QK 6 162 (([3,4,9,12,14,16,17]:List Nat).zip (Us rf Qa t count s i)) Qs Ut) (QH a) (2+a.length)
 (km rf Qa t count s i Qs++[(33,Qk.pure (.bool false) []),(48,WV (i+1))]) 0 [] []) [3,4,9,12,14,16,17] [(2,KS.auto)] []=some ⟨6,162,Ut,[],.run,none,Us rf Qa t count (s) (i+1),VL rf Qa t count (s) (i+1),
 [wq (i+1)=i+1,Q6 []/\Q0 YP J0 33 #[.agg (dj rf),.int .i64 count,.int .i64 (Ob (Ob (Xl rf.Qd rf.Qb t.Qj t.Ql (Qz t.Qe)) s.toNat NZ) i.toNat NZ)] (.bool false)]++dm B rf Qa t count s i Qs⟩:=by intro a;kernel_rfl
theorem EC(B:Lo)(rf:Qi)(Qa:List Int)(t:Qv)(count:Int)(s i:Int)(Qs:Nat->Value):let b:=VL rf Qa t count s i;let a:=Ob (Ob (XH rf Qa) s.toNat NZ) i.toNat NZ;QW (Qu YP (Q9 YP) J0 B 14 1 (QK 6 162 (([3,4,9,12,14,16,17]:List Nat).zip (Us rf Qa t count s i)) Qs Ut) (QH b) (2+b.length)
 (sY rf Qa t count s i Qs++[(21,Qk.pure (.bool false) [])]) 0 [] []) []=some (.bool false,
 [Q6 []/\Q0 YP J0 32 #[.int .i64 (Ob (Ob (Xl rf.Qd rf.Qb t.Qj t.Ql (Qz t.Qe)) s.toNat NZ) i.toNat NZ),.agg #[.int .i64 a.lo,.int .i64 a.hi]] (.bool false)]++kz B rf Qa t count s i Qs):=by intro b a;kernel_rfl
theorem EB(B:Lo)(rf:Qi)(Qa:List Int)(t:Qv)(count:Int)(s i:Int)(Qs:Nat->Value):let a:=VL rf Qa t count s i;landM (Qu YP (Q9 YP) J0 B 8 1 (QK 6 162 (([3,4,9,12,14,16,17]:List Nat).zip (Us rf Qa t count s i)) Qs Ut) (QH a) (2+a.length)
 (sZ rf Qa t count s i Qs++[(6,Wm),(8,WV (s+1))]) 0 [] []) [3,4,9,12,14,16] [(2,KS.auto)] []=some ⟨6,162,PI,[],.run,none,PH rf Qa t count (s+1),Jn rf Qa t count (s+1),
 [wq (s+1)=s+1,XS i (↑(Oc (Ob (Xl rf.Qd rf.Qb t.Qj t.Ql (Qz t.Qe)) s.toNat NZ)):Int)=false]++k8 B rf Qa t count s i Qs⟩:=by intro a;kernel_rfl
def XD(rf:Qi)(Qa:List Int)(t:Qv)(count:Int):Qy:=[(2,Obj.cells #[Q2 0 (QI t.Qe.length (Qh QR t.Qe)),Q2 0 (QI t.Qj.length (Qh X1 t.Qj)),Q2 0 (QI t.Ql.length (Qh X1 t.Ql))] 42),(1,Obj.cells #[Q2 0 (QI rf.Qb.length (Qh Qm rf.Qb)),.int .i64 rf.Qc,.int .i64 rf.Qd] 24),(0,Obj.coro none)]
def XY(rf:Qi)(Qa:List Int)(t:Qv)(count:Int):CF:=⟨30,ofList 29 [.agg #[Q2 0 (QI rf.Qb.length (Qh Qm rf.Qb)),.int .i64 rf.Qc,.int .i64 rf.Qd],Q2 0 (QI Qa.length (Qh QR Qa)),.agg #[Q2 0 (QI t.Qe.length (Qh QR t.Qe)),Q2 0 (QI t.Qj.length (Qh X1 t.Qj)),Q2 0 (QI t.Ql.length (Qh X1 t.Ql))]],[Item.code (QP YP 30)],[],.run,none⟩
theorem Ca(B:Lo)(rf:Qi)(Qa:List Int)(t:Qv)(count:Int):let a:=Value.bool true;CE.finK 3 (Qu YP (Q9 YP) J0 B 6 3 (XY rf Qa t count) (XD rf Qa t count) 3
 [(4,Qk.pure a []),(8,ZF),(12,Qk.pure a []),(17,Qk.pure a []),(23,Qk.pure a [])] 0 [] []) [] [] []=some (OO.ret a,[],[],
 [Q6 []/\Q0 YP J0 27 (kj rf Qa t) a,Q6 []/\Q0 YP J0 21 (Sg rf Qa) a,Q6 []/\Q0 YP J0 25 (TF t) a,(!XS 8 (↑Qa.length:Int))=true,Q6 []/\Q0 YP J0 15 (PF rf) a]):=by intro a;kernel_rfl
def kx(B:Lo)(rf:Qi)(Qa:List Int)(t:Qv)(count:Int):List Prop:=[FJ YP B (XY rf Qa t count) (XD rf Qa t count) 3 (OO.ret (.bool true)) (([]++((3,Xk)::QU (3+1) []))++XD rf Qa t count) 4 (Oe 3) []]++([]:List Prop)
def sW(rf:Qi)(Qa:List Int)(t:Qv)(count:Int):QD:=[(6,Qk.call (Oe 3) (OO.ret (.bool true)) ([]++(3,Xk)::QU 4 []) 4 [])]
theorem BZ(B:Lo)(rf:Qi)(Qa:List Int)(t:Qv)(count:Int):QW (Qu YP (Q9 YP) J0 B 10 1 (Qx YP 6 162 (([.agg (Q5 rf).toArray,XI Qa,.agg #[XI t.Qe,Zp t.Qj,Zp t.Ql],.int .i64 count]).map (Q8 0 4))) Zf 1
 (sW rf Qa t count++[(10,ZF),(16,Qk.pure (.bool true) [])]) 0 [] []) []=some (.bool true,
 [Q6 []/\Q0 YP J0 16 #[] (.bool true),XS count 0=true]++kx B rf Qa t count):=by kernel_rfl
def ku(B:Lo)(rf:Qi)(Qa:List Int)(t:Qv)(count:Int):List Prop:=[XS count 0=false]++kx B rf Qa t count
def sV(rf:Qi)(Qa:List Int)(t:Qv)(count:Int):QD:=sW rf Qa t count++[(10,Wm)]
theorem BY(B:Lo)(rf:Qi)(Qa:List Int)(t:Qv)(count:Int):QW (Qu YP (Q9 YP) J0 B 10 1 (Qx YP 6 162 (([.agg (Q5 rf).toArray,XI Qa,.agg #[XI t.Qe,Zp t.Qj,Zp t.Ql],.int .i64 count]).map (Q8 0 4))) Zf 1
 (sV rf Qa t count++[(14,ZF),(16,Qk.pure (.bool true) [])]) 0 [] []) []=some (.bool true,
 [Q6 []/\Q0 YP J0 16 #[] (.bool true),XS 100000000 count=true]++ku B rf Qa t count):=by kernel_rfl
def kr(B:Lo)(rf:Qi)(Qa:List Int)(t:Qv)(count:Int):List Prop:=let f:=t.Ql;let e:=t.Qj;let d:=rf.Qb;let c:=rf.Qd;let b:=Qz t.Qe;let a:=Xl c d e f b;[Q6 []/\Q0 YP J0 31 #[.agg (dj rf),QI a.length (Qh X1 a)] (.bool true),Q6 []/\Q0 YP J0 19 (Sg rf Qa) (.tuple #[QI (Oc (Xh rf Qa)) (Qh Vh (Xh rf Qa)),.int .i64 0]),Q6 []/\Q0 YP J0 18 (Sg rf Qa) (.tuple #[QI (Oc (XH rf Qa)) (Qh Vh (XH rf Qa)),.int .i64 0]),Q6 []/\Q0 YP J0 26 (kj rf Qa t) (.tuple #[QI a.length (Qh X1 a),.agg #[.int .i64 b.sum,.int .i64 (Xt 0 c (K2 d e f b)),.int .i64 (Xt 0 c (WX d e f b)),.int .i64 (Xt 0 c (Kz d e f b)),.int .i64 (F4.sum (Sk d e f b c.toNat))],.int .i64 0]),XS 100000000 count=false]++ku B rf Qa t count
def sU(rf:Qi)(Qa:List Int)(t:Qv)(count:Int):QD:=let e:=t.Ql;let d:=t.Qj;let c:=rf.Qb;let b:=rf.Qd;let a:=Qz t.Qe;sV rf Qa t count++[(14,Wm),(19,Qk.pure (.tuple #[QI (Oc (Xl b c d e a)) (Qh X1 (Xl b c d e a)),.agg #[.int .i64 a.sum,.int .i64 (Xt 0 b (K2 c d e a)),.int .i64 (Xt 0 b (WX c d e a)),.int .i64 (Xt 0 b (Kz c d e a)),.int .i64 (F4.sum (Sk c d e a b.toNat))],.int .i64 0]) []),(30,Qk.pure (.tuple #[QI (Oc (XH rf Qa)) (Qh Vh (XH rf Qa)),.int .i64 0]) []),(38,Qk.pure (.tuple #[QI (Oc (Xh rf Qa)) (Qh Vh (Xh rf Qa)),.int .i64 0]) []),(57,Qk.pure (.bool true) [])]
theorem BX(B:Lo)(rf:Qi)(Qa:List Int)(t:Qv)(count:Int):QW (Qu YP (Q9 YP) J0 B 21 1 (Qx YP 6 162 (([.agg (Q5 rf).toArray,XI Qa,.agg #[XI t.Qe,Zp t.Qj,Zp t.Ql],.int .i64 count]).map (Q8 0 4))) Zf 1
 (sU rf Qa t count++[(65,ZF)]) 0 [] []) []=some (.bool false,
 [(!Y6 (↑(Oc (XH rf Qa)):Int) (↑(Oc (Xl rf.Qd rf.Qb t.Qj t.Ql (Qz t.Qe))):Int))=true]++kr B rf Qa t count):=by kernel_rfl
def kq(B:Lo)(rf:Qi)(Qa:List Int)(t:Qv)(count:Int):List Prop:=[(!Y6 (↑(Oc (XH rf Qa)):Int) (↑(Oc (Xl rf.Qd rf.Qb t.Qj t.Ql (Qz t.Qe))):Int))=false]++kr B rf Qa t count
def sT(rf:Qi)(Qa:List Int)(t:Qv)(count:Int):QD:=sU rf Qa t count++[(65,Wm)]
theorem BW(B:Lo)(rf:Qi)(Qa:List Int)(t:Qv)(count:Int):QW (Qu YP (Q9 YP) J0 B 21 1 (Qx YP 6 162 (([.agg (Q5 rf).toArray,XI Qa,.agg #[XI t.Qe,Zp t.Qj,Zp t.Ql],.int .i64 count]).map (Q8 0 4))) Zf 1
 (sT rf Qa t count++[(72,ZF)]) 0 [] []) []=some (.bool false,
 [(!Y6 (↑(Oc (Xh rf Qa)):Int) (↑(Oc (Xl rf.Qd rf.Qb t.Qj t.Ql (Qz t.Qe))):Int))=true]++kq B rf Qa t count):=by kernel_rfl
theorem BV(B:Lo)(rf:Qi)(Qa:List Int)(t:Qv)(count:Int):landM (Qu YP (Q9 YP) J0 B 23 1 (Qx YP 6 162 (([.agg (Q5 rf).toArray,XI Qa,.agg #[XI t.Qe,Zp t.Qj,Zp t.Ql],.int .i64 count]).map (Q8 0 4))) Zf 1
 (sT rf Qa t count++[(72,Wm)]) 0 [] []) [3,4,9,12,14,16] [(1,KS.auto)] []=some ⟨6,162,PI,[],.run,none,PH rf Qa t count (0),Jn rf Qa t count (0),
 [(!Y6 (↑(Oc (Xh rf Qa)):Int) (↑(Oc (Xl rf.Qd rf.Qb t.Qj t.Ql (Qz t.Qe))):Int))=false]++kq B rf Qa t count⟩:=by kernel_rfl
theorem BU(B:Lo)(rf:Qi)(Qa:List Int)(t:Qv)(count:Int):let b:=Value.bool false;let a:=Value.bool true;CE.finK 3 (Qu YP (Q9 YP) J0 B 6 3 (XY rf Qa t count) (XD rf Qa t count) 3
 [(4,Qk.pure a []),(8,ZF),(12,Qk.pure a []),(17,Qk.pure a []),(23,Qk.pure b [])] 0 [] []) [] [] []=some (OO.ret b,[],[],
 [Q6 []/\Q0 YP J0 27 (kj rf Qa t) b,Q6 []/\Q0 YP J0 21 (Sg rf Qa) a,Q6 []/\Q0 YP J0 25 (TF t) a,(!XS 8 (↑Qa.length:Int))=true,Q6 []/\Q0 YP J0 15 (PF rf) a]):=by intro b a;kernel_rfl
theorem BT(B:Lo)(rf:Qi)(Qa:List Int)(t:Qv)(count:Int):let a:=OO.ret (.bool false);QW (Qu YP (Q9 YP) J0 B 10 1 (Qx YP 6 162 (([.agg (Q5 rf).toArray,XI Qa,.agg #[XI t.Qe,Zp t.Qj,Zp t.Ql],.int .i64 count]).map (Q8 0 4))) Zf 1
 [(6,Qk.call (Oe 3) a ([]++(3,Xk)::QU 4 []) 4 []),(16,Qk.pure (.bool true) [])] 0 [] []) []=some (.bool true,
 [Q6 []/\Q0 YP J0 16 #[] (.bool true),FJ YP B (XY rf Qa t count) (XD rf Qa t count) 3 a (([]++((3,Xk)::QU (3+1) []))++XD rf Qa t count) 4 (Oe 3) []]):=by intro a;kernel_rfl
theorem BS(B:Lo)(rf:Qi)(Qa:List Int)(t:Qv)(count:Int):let b:=Value.bool false;let a:=Value.bool true;CE.finK 3 (Qu YP (Q9 YP) J0 B 6 3 (XY rf Qa t count) (XD rf Qa t count) 3
 [(4,Qk.pure a []),(8,ZF),(12,Qk.pure a []),(17,Qk.pure b [])] 0 [] []) [] [] []=some (OO.ret b,[],[],
 [Q6 []/\Q0 YP J0 21 (Sg rf Qa) b,Q6 []/\Q0 YP J0 25 (TF t) a,(!XS 8 (↑Qa.length:Int))=true,Q6 []/\Q0 YP J0 15 (PF rf) a]):=by intro b a;kernel_rfl
theorem BR(B:Lo)(rf:Qi)(Qa:List Int)(t:Qv)(count:Int):let a:=OO.ret (.bool false);QW (Qu YP (Q9 YP) J0 B 10 1 (Qx YP 6 162 (([.agg (Q5 rf).toArray,XI Qa,.agg #[XI t.Qe,Zp t.Qj,Zp t.Ql],.int .i64 count]).map (Q8 0 4))) Zf 1
 [(6,Qk.call (Oe 3) a ([]++(3,Xk)::QU 4 []) 4 []),(16,Qk.pure (.bool true) [])] 0 [] []) []=some (.bool true,
 [Q6 []/\Q0 YP J0 16 #[] (.bool true),FJ YP B (XY rf Qa t count) (XD rf Qa t count) 3 a (([]++((3,Xk)::QU (3+1) []))++XD rf Qa t count) 4 (Oe 3) []]):=by intro a;kernel_rfl
theorem BQ(B:Lo)(rf:Qi)(Qa:List Int)(t:Qv)(count:Int):let b:=Value.bool false;let a:=Value.bool true;CE.finK 3 (Qu YP (Q9 YP) J0 B 6 3 (XY rf Qa t count) (XD rf Qa t count) 3
 [(4,Qk.pure a []),(8,ZF),(12,Qk.pure a []),(17,Qk.pure b [])] 0 [] []) [] [] []=some (OO.ret b,[],[],
 [Q6 []/\Q0 YP J0 21 (Sg rf Qa) b,Q6 []/\Q0 YP J0 25 (TF t) a,(!XS 8 (↑Qa.length:Int))=true,Q6 []/\Q0 YP J0 15 (PF rf) a]):=by intro b a;kernel_rfl
theorem BP(B:Lo)(rf:Qi)(Qa:List Int)(t:Qv)(count:Int):let a:=OO.ret (.bool false);QW (Qu YP (Q9 YP) J0 B 10 1 (Qx YP 6 162 (([.agg (Q5 rf).toArray,XI Qa,.agg #[XI t.Qe,Zp t.Qj,Zp t.Ql],.int .i64 count]).map (Q8 0 4))) Zf 1
 [(6,Qk.call (Oe 3) a ([]++(3,Xk)::QU 4 []) 4 []),(16,Qk.pure (.bool true) [])] 0 [] []) []=some (.bool true,
 [Q6 []/\Q0 YP J0 16 #[] (.bool true),FJ YP B (XY rf Qa t count) (XD rf Qa t count) 3 a (([]++((3,Xk)::QU (3+1) []))++XD rf Qa t count) 4 (Oe 3) []]):=by intro a;kernel_rfl
theorem BO(B:Lo)(rf:Qi)(Qa:List Int)(t:Qv)(count:Int):let a:=Value.bool false;CE.finK 3 (Qu YP (Q9 YP) J0 B 6 3 (XY rf Qa t count) (XD rf Qa t count) 3
 [(4,Qk.pure (.bool true) []),(8,ZF),(12,Qk.pure a [])] 0 [] []) [] [] []=some (OO.ret a,[],[],
 [Q6 []/\Q0 YP J0 25 (TF t) a,(!XS 8 (↑Qa.length:Int))=true,Q6 []/\Q0 YP J0 15 (PF rf) (.bool true)]):=by intro a;kernel_rfl
theorem BN(B:Lo)(rf:Qi)(Qa:List Int)(t:Qv)(count:Int):let a:=OO.ret (.bool false);QW (Qu YP (Q9 YP) J0 B 10 1 (Qx YP 6 162 (([.agg (Q5 rf).toArray,XI Qa,.agg #[XI t.Qe,Zp t.Qj,Zp t.Ql],.int .i64 count]).map (Q8 0 4))) Zf 1
 [(6,Qk.call (Oe 3) a ([]++(3,Xk)::QU 4 []) 4 []),(16,Qk.pure (.bool true) [])] 0 [] []) []=some (.bool true,
 [Q6 []/\Q0 YP J0 16 #[] (.bool true),FJ YP B (XY rf Qa t count) (XD rf Qa t count) 3 a (([]++((3,Xk)::QU (3+1) []))++XD rf Qa t count) 4 (Oe 3) []]):=by intro a;kernel_rfl
theorem BM(B:Lo)(rf:Qi)(Qa:List Int)(t:Qv)(count:Int):CE.finK 3 (Qu YP (Q9 YP) J0 B 6 3 (XY rf Qa t count) (XD rf Qa t count) 3
 [(4,Qk.pure (.bool true) []),(8,Wm)] 0 [] []) [] [] []=some (OO.ret (.bool false),[],[],
 [(!XS 8 (↑Qa.length:Int))=false,Q6 []/\Q0 YP J0 15 (PF rf) (.bool true)]):=by kernel_rfl
theorem BL(B:Lo)(rf:Qi)(Qa:List Int)(t:Qv)(count:Int):let a:=OO.ret (.bool false);QW (Qu YP (Q9 YP) J0 B 10 1 (Qx YP 6 162 (([.agg (Q5 rf).toArray,XI Qa,.agg #[XI t.Qe,Zp t.Qj,Zp t.Ql],.int .i64 count]).map (Q8 0 4))) Zf 1
 [(6,Qk.call (Oe 3) a ([]++(3,Xk)::QU 4 []) 4 []),(16,Qk.pure (.bool true) [])] 0 [] []) []=some (.bool true,
 [Q6 []/\Q0 YP J0 16 #[] (.bool true),FJ YP B (XY rf Qa t count) (XD rf Qa t count) 3 a (([]++((3,Xk)::QU (3+1) []))++XD rf Qa t count) 4 (Oe 3) []]):=by intro a;kernel_rfl
theorem BK(B:Lo)(rf:Qi)(Qa:List Int)(t:Qv)(count:Int):let a:=Value.bool false;CE.finK 3 (Qu YP (Q9 YP) J0 B 6 3 (XY rf Qa t count) (XD rf Qa t count) 3
 [(4,Qk.pure a [])] 0 [] []) [] [] []=some (OO.ret a,[],[],
 [Q6 []/\Q0 YP J0 15 (PF rf) a]):=by intro a;kernel_rfl
theorem BJ(B:Lo)(rf:Qi)(Qa:List Int)(t:Qv)(count:Int):let a:=OO.ret (.bool false);QW (Qu YP (Q9 YP) J0 B 10 1 (Qx YP 6 162 (([.agg (Q5 rf).toArray,XI Qa,.agg #[XI t.Qe,Zp t.Qj,Zp t.Ql],.int .i64 count]).map (Q8 0 4))) Zf 1
 [(6,Qk.call (Oe 3) a ([]++(3,Xk)::QU 4 []) 4 []),(16,Qk.pure (.bool true) [])] 0 [] []) []=some (.bool true,
 [Q6 []/\Q0 YP J0 16 #[] (.bool true),FJ YP B (XY rf Qa t count) (XD rf Qa t count) 3 a (([]++((3,Xk)::QU (3+1) []))++XD rf Qa t count) 4 (Oe 3) []]):=by intro a;kernel_rfl
set_option maxHeartbeats 4000000 in
theorem EL(rf:Qi)(Qa:List Int)(t:Qv)(count:Int)  (X8:Qa.length<=9223372036854775807){B:Lo}(hJ:∀w,B.has w->J0 w){c0:CF}:∀m:Nat,(∀(s:Int),100*(rf.Qd-s).toNat=m->∀(hr:QC rf=true) (hpl:QV rf Qa=true) (SI:QY rf Qa t=true) (hc0:0<=count) (hc1:count<=100000000) (s0:0<=s),EN B c0 rf Qa t count s->EndsT YP B c0 (.bool true))/\(∀(s i:Int),100*(rf.Qd-s).toNat-50+(rf.Qb.length-i.toNat)=m->∀(hr:QC rf=true) (hpl:QV rf Qa=true) (SI:QY rf Qa t=true) (hc0:0<=count) (hc1:count<=100000000) (s0:0<=s) (s1:s<rf.Qd) (i0:0<=i),EM B c0 rf Qa t count s i->EndsT YP B c0 (.bool true)):=by
 intro m0;induction m0 using Ox with
 |_ m0 ih0=>
  refine⟨?_, ?_⟩
  ·intro s JP hr hpl SI hc0 hc1 s0 ⟨Qs,ZV,XF⟩;have hkl:(XH rf Qa).length=rf.Qd.toNat:=XK;have hcl:(Xh rf Qa).length=rf.Qd.toNat:=XK;have Z8:=QA (QJ hr).1;have Wi:=(Wt hr SI).1;have Wu:Wg rf.Qb.length rf.Qd (Xl rf.Qd rf.Qb t.Qj t.Ql (Qz t.Qe)):=Wi.shape (XG hr SI);have JZ:=Wu.1;by_cases q0:(s:Int)<((↑(Oc (Xl rf.Qd rf.Qb t.Qj t.Ql (Qz t.Qe))):Int))
   ·have V5:Q6 (kA B rf Qa t count s Qs):=by
     have Ui:=QO ‹QC rf=true›;have Z8:=QA (QJ ‹QC rf=true›).1;have hpf:=(Xn ‹QV rf Qa=true›).1;have hpg:=Zm (QO ‹QC rf=true›) ‹QV rf Qa=true›;have QF:=Wt (QO ‹QC rf=true›) ‹QY rf Qa t=true›;have Wi:=QF.1;have Y5:=QF.2;have Wu:Wg rf.Qb.length rf.Qd (Xl rf.Qd rf.Qb t.Qj t.Ql (Qz t.Qe)):=Wi.shape (XG (QO ‹QC rf=true›) ‹QY rf Qa t=true›);have JZ:=Wu.1;have hls:=(Wu.2 s s0 (by omega)).1;have hlc:=PE (rf:=rf) (Qa:=Qa) s0 (by omega);exact⟨⟨by omega,by omega,(QB (z:=1) (fun _=>rfl) (by omega))⟩,⟨⟨by omega,by omega,(QB (z:=1) (fun _=>rfl) (by omega))⟩,⟨(XC q0),trivial⟩⟩⟩
    by_cases q1:((↑(Oc (Ob (XH rf Qa) s.toNat NZ)):Int):Int)≠((↑(Oc (Ob (Xl rf.Qd rf.Qb t.Qj t.Ql (Qz t.Qe)) s.toNat NZ)):Int))
    ·have Ui:=QO ‹QC rf=true›;have Z8:=QA (QJ ‹QC rf=true›).1;have hpf:=(Xn ‹QV rf Qa=true›).1;have hpg:=Zm (QO ‹QC rf=true›) ‹QV rf Qa=true›;have QF:=Wt (QO ‹QC rf=true›) ‹QY rf Qa t=true›;have Wi:=QF.1;have Y5:=QF.2;have Wu:Wg rf.Qb.length rf.Qd (Xl rf.Qd rf.Qb t.Qj t.Ql (Qz t.Qe)):=Wi.shape (XG (QO ‹QC rf=true›) ‹QY rf Qa t=true›);have JZ:=Wu.1;have hls:=(Wu.2 s s0 (by omega)).1;have hlc:=PE (rf:=rf) (Qa:=Qa) s0 (by omega);exact(GoE.endsT okF hJ Qg XF (EK B rf Qa t count s Qs)
      ⟨(Y1 q1),V5⟩).cast (by(exfalso;omega))
    ·have Kj:Q6 (k9 B rf Qa t count s Qs):=by
      have Ui:=QO ‹QC rf=true›;have Z8:=QA (QJ ‹QC rf=true›).1;have hpf:=(Xn ‹QV rf Qa=true›).1;have hpg:=Zm (QO ‹QC rf=true›) ‹QV rf Qa=true›;have QF:=Wt (QO ‹QC rf=true›) ‹QY rf Qa t=true›;have Wi:=QF.1;have Y5:=QF.2;have Wu:Wg rf.Qb.length rf.Qd (Xl rf.Qd rf.Qb t.Qj t.Ql (Qz t.Qe)):=Wi.shape (XG (QO ‹QC rf=true›) ‹QY rf Qa t=true›);have JZ:=Wu.1;have hls:=(Wu.2 s s0 (by omega)).1;have hlc:=PE (rf:=rf) (Qa:=Qa) s0 (by omega);exact⟨⟨by omega,by omega,(QB (z:=1) (fun _=>rfl) (by omega))⟩,⟨⟨by omega,by omega,(QB (z:=1) (fun _=>rfl) (by omega))⟩,⟨(Y2 (Decidable.of_not_not q1)),V5⟩⟩⟩
     by_cases q2:((↑(Oc (Ob (Xh rf Qa) s.toNat NZ)):Int):Int)≠((↑(Oc (Ob (Xl rf.Qd rf.Qb t.Qj t.Ql (Qz t.Qe)) s.toNat NZ)):Int))
     ·have Ui:=QO ‹QC rf=true›;have Z8:=QA (QJ ‹QC rf=true›).1;have hpf:=(Xn ‹QV rf Qa=true›).1;have hpg:=Zm (QO ‹QC rf=true›) ‹QV rf Qa=true›;have QF:=Wt (QO ‹QC rf=true›) ‹QY rf Qa t=true›;have Wi:=QF.1;have Y5:=QF.2;have Wu:Wg rf.Qb.length rf.Qd (Xl rf.Qd rf.Qb t.Qj t.Ql (Qz t.Qe)):=Wi.shape (XG (QO ‹QC rf=true›) ‹QY rf Qa t=true›);have JZ:=Wu.1;have hls:=(Wu.2 s s0 (by omega)).1;have hlc:=PE (rf:=rf) (Qa:=Qa) s0 (by omega);exact(GoE.endsT okF hJ Qg XF (EJ B rf Qa t count s Qs)
       ⟨(Y1 q2),Kj⟩).cast (by(exfalso;omega))
     ·have Ui:=QO ‹QC rf=true›;have Z8:=QA (QJ ‹QC rf=true›).1;have hpf:=(Xn ‹QV rf Qa=true›).1;have hpg:=Zm (QO ‹QC rf=true›) ‹QV rf Qa=true›;have QF:=Wt (QO ‹QC rf=true›) ‹QY rf Qa t=true›;have Wi:=QF.1;have Y5:=QF.2;have Wu:Wg rf.Qb.length rf.Qd (Xl rf.Qd rf.Qb t.Qj t.Ql (Qz t.Qe)):=Wi.shape (XG (QO ‹QC rf=true›) ‹QY rf Qa t=true›);have JZ:=Wu.1;have hls:=(Wu.2 s s0 (by omega)).1;have hlc:=PE (rf:=rf) (Qa:=Qa) s0 (by omega);exact((ih0 _ (by omega)).2 (s) (0) rfl (by with_reducible assumption) (by with_reducible assumption) (by with_reducible assumption) (by with_reducible assumption) (by with_reducible assumption) (by with_reducible assumption) (by omega) (by omega)
       (XF.landM okF hJ Qg (EI B rf Qa t count s Qs)
       ⟨(Y2 (Decidable.of_not_not q2)),Kj⟩ (by kernel_rfl) (by kernel_rfl))).cast (by rfl)
   ·exact(GoE.endsT okF hJ Qg XF (EH B rf Qa t count s Qs)
     ⟨⟨trivial,known⟩,⟨(XO (Int.not_lt.1 q0)),trivial⟩⟩).cast rfl
  ·intro s i JP hr hpl SI hc0 hc1 s0 s1 i0 ⟨Qs,ZV,XF⟩;have hkl:(XH rf Qa).length=rf.Qd.toNat:=XK;have hcl:(Xh rf Qa).length=rf.Qd.toNat:=XK;have Z8:=QA (QJ hr).1;have Wi:=(Wt hr SI).1;have Wu:Wg rf.Qb.length rf.Qd (Xl rf.Qd rf.Qb t.Qj t.Ql (Qz t.Qe)):=Wi.shape (XG hr SI);have JZ:=Wu.1;have hls:=(Wu.2 s s0 (by omega)).1;have hlc:=PE (rf:=rf) (Qa:=Qa) s0 s1;have Ph:Q6 (k8 B rf Qa t count s i Qs):=by
    have Ui:=QO ‹QC rf=true›;have Z8:=QA (QJ ‹QC rf=true›).1;have hpf:=(Xn ‹QV rf Qa=true›).1;have hpg:=Zm (QO ‹QC rf=true›) ‹QV rf Qa=true›;have QF:=Wt (QO ‹QC rf=true›) ‹QY rf Qa t=true›;have Wi:=QF.1;have Y5:=QF.2;have Wu:Wg rf.Qb.length rf.Qd (Xl rf.Qd rf.Qb t.Qj t.Ql (Qz t.Qe)):=Wi.shape (XG (QO ‹QC rf=true›) ‹QY rf Qa t=true›);have JZ:=Wu.1;exact⟨⟨by omega,by omega,(QB (z:=1) (fun _=>rfl) (by omega))⟩,trivial⟩
   by_cases q0:(i:Int)<((↑(Oc (Ob (Xl rf.Qd rf.Qb t.Qj t.Ql (Qz t.Qe)) s.toNat NZ)):Int))
   ·have hp3:Q6 (kz B rf Qa t count s i Qs):=by
     have Ui:=QO ‹QC rf=true›;have Z8:=QA (QJ ‹QC rf=true›).1;have hpf:=(Xn ‹QV rf Qa=true›).1;have hpg:=Zm (QO ‹QC rf=true›) ‹QV rf Qa=true›;have QF:=Wt (QO ‹QC rf=true›) ‹QY rf Qa t=true›;have Wi:=QF.1;have Y5:=QF.2;have Wu:Wg rf.Qb.length rf.Qd (Xl rf.Qd rf.Qb t.Qj t.Ql (Qz t.Qe)):=Wi.shape (XG (QO ‹QC rf=true›) ‹QY rf Qa t=true›);have JZ:=Wu.1;have Pj:=Rk hr SI s0 s1 i0 (by omega);exact⟨⟨by omega,by omega,(QB (z:=2) (fun _=>rfl) (by omega))⟩,⟨⟨by omega,by omega,(QB (z:=1) (fun _=>rfl) (by omega))⟩,⟨⟨by omega,by omega,(QB (z:=1) (fun _=>rfl) (by omega))⟩,⟨⟨by omega,by omega,(QB (z:=1) (fun _=>rfl) (by omega))⟩,⟨(XC q0),Ph⟩⟩⟩⟩⟩
    cases q1:V0 (Ob (Ob (Xl rf.Qd rf.Qb t.Qj t.Ql (Qz t.Qe)) s.toNat NZ) i.toNat NZ) (Span.lo (Ob (Ob (XH rf Qa) s.toNat NZ) i.toNat NZ)) (Span.hi (Ob (Ob (XH rf Qa) s.toNat NZ) i.toNat NZ))with
    |true=>
     have hp4:Q6 (dm B rf Qa t count s i Qs):=by
      have Ui:=QO ‹QC rf=true›;have Z8:=QA (QJ ‹QC rf=true›).1;have hpf:=(Xn ‹QV rf Qa=true›).1;have hpg:=Zm (QO ‹QC rf=true›) ‹QV rf Qa=true›;have QF:=Wt (QO ‹QC rf=true›) ‹QY rf Qa t=true›;have Wi:=QF.1;have Y5:=QF.2;have Wu:Wg rf.Qb.length rf.Qd (Xl rf.Qd rf.Qb t.Qj t.Ql (Qz t.Qe)):=Wi.shape (XG (QO ‹QC rf=true›) ‹QY rf Qa t=true›);have JZ:=Wu.1;have Pj:=Rk hr SI s0 s1 i0 (by omega);exact⟨⟨by omega,by omega,(QB (z:=1) (fun _=>rfl) (by omega))⟩,⟨⟨by omega,by omega,(QB (z:=1) (fun _=>rfl) (by omega))⟩,⟨⟨trivial,(by have t_:=Jh (Ob (Ob (Xl rf.Qd rf.Qb t.Qj t.Ql (Qz t.Qe)) s.toNat NZ) i.toNat NZ) (Span.lo (Ob (Ob (XH rf Qa) s.toNat NZ) i.toNat NZ)) (Span.hi (Ob (Ob (XH rf Qa) s.toNat NZ) i.toNat NZ));rw[q1]at t_;exact t_)⟩,hp3⟩⟩⟩
     cases q2:decide (count<=Ob (Ob (Xl rf.Qd rf.Qb t.Qj t.Ql (Qz t.Qe)) s.toNat NZ) i.toNat NZ)with
     |true=>
      cases q3:decide (Ob (Ob (Xl rf.Qd rf.Qb t.Qj t.Ql (Qz t.Qe)) s.toNat NZ) i.toNat NZ<=ZZ rf.Qc count)with
      |true=>
       have hp5:Q6 (ky B rf Qa t count s i Qs):=by
        have Ui:=QO ‹QC rf=true›;have Z8:=QA (QJ ‹QC rf=true›).1;have hpf:=(Xn ‹QV rf Qa=true›).1;have hpg:=Zm (QO ‹QC rf=true›) ‹QV rf Qa=true›;have QF:=Wt (QO ‹QC rf=true›) ‹QY rf Qa t=true›;have Wi:=QF.1;have Y5:=QF.2;have Wu:Wg rf.Qb.length rf.Qd (Xl rf.Qd rf.Qb t.Qj t.Ql (Qz t.Qe)):=Wi.shape (XG (QO ‹QC rf=true›) ‹QY rf Qa t=true›);have JZ:=Wu.1;have Pj:=Rk hr SI s0 s1 i0 (by omega);exact⟨⟨by omega,by omega,(QB (z:=2) (fun _=>rfl) (by omega))⟩,⟨⟨by omega,by omega,(QB (z:=1) (fun _=>rfl) (by omega))⟩,⟨⟨trivial,(by have t_:=qT (rf) (count) (Ob (Ob (Xl rf.Qd rf.Qb t.Qj t.Ql (Qz t.Qe)) s.toNat NZ) i.toNat NZ) (by omega) (by omega);rw[q2,q3]at t_;exact t_)⟩,hp4⟩⟩⟩
       cases q4:V0 count (Span.lo (Ob (Ob (Xh rf Qa) s.toNat NZ) i.toNat NZ)) (Span.hi (Ob (Ob (Xh rf Qa) s.toNat NZ) i.toNat NZ))with
       |true=>
        have Ui:=QO ‹QC rf=true›;have Z8:=QA (QJ ‹QC rf=true›).1;have hpf:=(Xn ‹QV rf Qa=true›).1;have hpg:=Zm (QO ‹QC rf=true›) ‹QV rf Qa=true›;have QF:=Wt (QO ‹QC rf=true›) ‹QY rf Qa t=true›;have Wi:=QF.1;have Y5:=QF.2;have Wu:Wg rf.Qb.length rf.Qd (Xl rf.Qd rf.Qb t.Qj t.Ql (Qz t.Qe)):=Wi.shape (XG (QO ‹QC rf=true›) ‹QY rf Qa t=true›);have JZ:=Wu.1;have Pj:=Rk hr SI s0 s1 i0 (by omega);exact((ih0 _ (by omega)).2 (s) (i+1) rfl (by with_reducible assumption) (by with_reducible assumption) (by with_reducible assumption) (by with_reducible assumption) (by with_reducible assumption) (by with_reducible assumption) (by with_reducible assumption) (by omega)
         (XF.landM okF hJ Qg (EG B rf Qa t count s i Qs)
         ⟨(Xq (by omega) (by omega)),⟨⟨trivial,(by have t_:=Jh (count) (Span.lo (Ob (Ob (Xh rf Qa) s.toNat NZ) i.toNat NZ)) (Span.hi (Ob (Ob (Xh rf Qa) s.toNat NZ) i.toNat NZ));rw[q4]at t_;exact t_)⟩,hp5⟩⟩ (by kernel_rfl) (by kernel_rfl))).cast (by rfl)
       |false=>
        have Ui:=QO ‹QC rf=true›;have Z8:=QA (QJ ‹QC rf=true›).1;have hpf:=(Xn ‹QV rf Qa=true›).1;have hpg:=Zm (QO ‹QC rf=true›) ‹QV rf Qa=true›;have QF:=Wt (QO ‹QC rf=true›) ‹QY rf Qa t=true›;have Wi:=QF.1;have Y5:=QF.2;have Wu:Wg rf.Qb.length rf.Qd (Xl rf.Qd rf.Qb t.Qj t.Ql (Qz t.Qe)):=Wi.shape (XG (QO ‹QC rf=true›) ‹QY rf Qa t=true›);have JZ:=Wu.1;have Pj:=Rk hr SI s0 s1 i0 (by omega);exact(GoE.endsT okF hJ Qg XF (EF B rf Qa t count s i Qs)
         ⟨⟨trivial,(by have t_:=Jh (count) (Span.lo (Ob (Ob (Xh rf Qa) s.toNat NZ) i.toNat NZ)) (Span.hi (Ob (Ob (Xh rf Qa) s.toNat NZ) i.toNat NZ));rw[q4]at t_;exact t_)⟩,hp5⟩).cast (by(exfalso;exact absurd (A9 hr s0 s1 i0 (by omega) Pj hc0 (of_decide_eq_true (by assumption)) (of_decide_eq_true (by assumption))) (L7 (by assumption))))
      |false=>
       have Ui:=QO ‹QC rf=true›;have Z8:=QA (QJ ‹QC rf=true›).1;have hpf:=(Xn ‹QV rf Qa=true›).1;have hpg:=Zm (QO ‹QC rf=true›) ‹QV rf Qa=true›;have QF:=Wt (QO ‹QC rf=true›) ‹QY rf Qa t=true›;have Wi:=QF.1;have Y5:=QF.2;have Wu:Wg rf.Qb.length rf.Qd (Xl rf.Qd rf.Qb t.Qj t.Ql (Qz t.Qe)):=Wi.shape (XG (QO ‹QC rf=true›) ‹QY rf Qa t=true›);have JZ:=Wu.1;have Pj:=Rk hr SI s0 s1 i0 (by omega);exact((ih0 _ (by omega)).2 (s) (i+1) rfl (by with_reducible assumption) (by with_reducible assumption) (by with_reducible assumption) (by with_reducible assumption) (by with_reducible assumption) (by with_reducible assumption) (by with_reducible assumption) (by omega)
        (XF.landM okF hJ Qg (EE B rf Qa t count s i Qs)
        ⟨(Xq (by omega) (by omega)),⟨⟨trivial,(by have t_:=qT (rf) (count) (Ob (Ob (Xl rf.Qd rf.Qb t.Qj t.Ql (Qz t.Qe)) s.toNat NZ) i.toNat NZ) (by omega) (by omega);rw[q2,q3]at t_;exact t_)⟩,hp4⟩⟩ (by kernel_rfl) (by kernel_rfl))).cast (by rfl)
     |false=>
      have Ui:=QO ‹QC rf=true›;have Z8:=QA (QJ ‹QC rf=true›).1;have hpf:=(Xn ‹QV rf Qa=true›).1;have hpg:=Zm (QO ‹QC rf=true›) ‹QV rf Qa=true›;have QF:=Wt (QO ‹QC rf=true›) ‹QY rf Qa t=true›;have Wi:=QF.1;have Y5:=QF.2;have Wu:Wg rf.Qb.length rf.Qd (Xl rf.Qd rf.Qb t.Qj t.Ql (Qz t.Qe)):=Wi.shape (XG (QO ‹QC rf=true›) ‹QY rf Qa t=true›);have JZ:=Wu.1;have Pj:=Rk hr SI s0 s1 i0 (by omega);exact((ih0 _ (by omega)).2 (s) (i+1) rfl (by with_reducible assumption) (by with_reducible assumption) (by with_reducible assumption) (by with_reducible assumption) (by with_reducible assumption) (by with_reducible assumption) (by with_reducible assumption) (by omega)
       (XF.landM okF hJ Qg (ED B rf Qa t count s i Qs)
       ⟨(Xq (by omega) (by omega)),⟨⟨trivial,(by have t_:=qT (rf) (count) (Ob (Ob (Xl rf.Qd rf.Qb t.Qj t.Ql (Qz t.Qe)) s.toNat NZ) i.toNat NZ) (by omega) (by omega);rw[q2]at t_;exact t_)⟩,hp4⟩⟩ (by kernel_rfl) (by kernel_rfl))).cast (by rfl)
    |false=>
     have Ui:=QO ‹QC rf=true›;have Z8:=QA (QJ ‹QC rf=true›).1;have hpf:=(Xn ‹QV rf Qa=true›).1;have hpg:=Zm (QO ‹QC rf=true›) ‹QV rf Qa=true›;have QF:=Wt (QO ‹QC rf=true›) ‹QY rf Qa t=true›;have Wi:=QF.1;have Y5:=QF.2;have Wu:Wg rf.Qb.length rf.Qd (Xl rf.Qd rf.Qb t.Qj t.Ql (Qz t.Qe)):=Wi.shape (XG (QO ‹QC rf=true›) ‹QY rf Qa t=true›);have JZ:=Wu.1;have Pj:=Rk hr SI s0 s1 i0 (by omega);exact(GoE.endsT okF hJ Qg XF (EC B rf Qa t count s i Qs)
      ⟨⟨trivial,(by have t_:=Jh (Ob (Ob (Xl rf.Qd rf.Qb t.Qj t.Ql (Qz t.Qe)) s.toNat NZ) i.toNat NZ) (Span.lo (Ob (Ob (XH rf Qa) s.toNat NZ) i.toNat NZ)) (Span.hi (Ob (Ob (XH rf Qa) s.toNat NZ) i.toNat NZ));rw[q1]at t_;exact t_)⟩,hp3⟩).cast (by(exfalso;exact absurd Pj (L7 (by assumption))))
   ·have Ui:=QO ‹QC rf=true›;have Z8:=QA (QJ ‹QC rf=true›).1;have hpf:=(Xn ‹QV rf Qa=true›).1;have hpg:=Zm (QO ‹QC rf=true›) ‹QV rf Qa=true›;have QF:=Wt (QO ‹QC rf=true›) ‹QY rf Qa t=true›;have Wi:=QF.1;have Y5:=QF.2;have Wu:Wg rf.Qb.length rf.Qd (Xl rf.Qd rf.Qb t.Qj t.Ql (Qz t.Qe)):=Wi.shape (XG (QO ‹QC rf=true›) ‹QY rf Qa t=true›);have JZ:=Wu.1;exact((ih0 _ (by omega)).1 (s+1) rfl (by with_reducible assumption) (by with_reducible assumption) (by with_reducible assumption) (by with_reducible assumption) (by with_reducible assumption) (by omega)
     (XF.landM okF hJ Qg (EB B rf Qa t count s i Qs)
     ⟨(Xq (by omega) (by omega)),⟨(XO (Int.not_lt.1 q0)),Ph⟩⟩ (by kernel_rfl) (by kernel_rfl))).cast (by rfl)
set_option maxHeartbeats 4000000 in
theorem HY(rf:Qi)(Qa:List Int)(t:Qv)(count:Int)  (X8:Qa.length<=9223372036854775807){B:Lo}(hJ:∀w,B.has w->J0 w):EndsT YP B (Qx YP 6 162 (([.agg (Q5 rf).toArray,XI Qa,.agg #[XI t.Qe,Zp t.Qj,Zp t.Ql],.int .i64 count]).map (Q8 0 4))) (.bool true):=by
 have hkl:(XH rf Qa).length=rf.Qd.toNat:=XK;have hcl:(Xh rf Qa).length=rf.Qd.toNat:=XK;cases q0:decide (Oc rf.Qb<=8)with
 |true=>
  by_cases q1:((↑Qa.length:Int):Int)<=(8)
  ·cases q2:sizedB t with
   |true=>
    cases q3:QC rf with
    |true=>
     cases q4:QV rf Qa with
     |true=>
      cases q5:QY rf Qa t with
      |true=>
       have Te:FJ YP B (XY rf Qa t count) (XD rf Qa t count) 3 (OO.ret (.bool true)) (([]++((3,Xk)::QU (3+1) []))++XD rf Qa t count) 4 (Oe 3) []:=by
        have Ui:=QO ‹QC rf=true›;have Z8:=QA (QJ ‹QC rf=true›).1;have hpf:=(Xn ‹QV rf Qa=true›).1;have hpg:=Zm (QO ‹QC rf=true›) ‹QV rf Qa=true›;have QF:=Wt (QO ‹QC rf=true›) ‹QY rf Qa t=true›;have Wi:=QF.1;have Y5:=QF.2;have Wu:Wg rf.Qb.length rf.Qd (Xl rf.Qd rf.Qb t.Qj t.Ql (Qz t.Qe)):=Wi.shape (XG (QO ‹QC rf=true›) ‹QY rf Qa t=true›);have JZ:=Wu.1;exact FinK.fjB (GoE.finK okF hJ Qg (Q7 (by kernel_rfl)) (Qw (by kernel_rfl)) ((GoE.refl (P:=YP) (B:=B) (c0:=XY rf Qa t count) (Q7 (by kernel_rfl))).widen (Wf:=((([]):List (Nat×KS)).map (·.1))) (by simp) (Qw (by kernel_rfl))) (Ca B rf Qa t count)
         ⟨⟨trivial,(by have t_:=Fh (rf) (Qa) (t) (by with_reducible assumption) (by with_reducible assumption) (by with_reducible assumption);rw[q5]at t_;exact t_)⟩,⟨⟨trivial,(by have t_:=sh (rf) (Qa);rw[q3,q4]at t_;exact t_)⟩,⟨⟨trivial,(by have t_:=nT (t);rw[q2]at t_;exact t_)⟩,⟨(WZ q1),⟨⟨trivial,(by have t_:=cV (rf);rw[q0]at t_;exact t_)⟩,trivial⟩⟩⟩⟩⟩) (ex:=[]) (by kernel_rfl) (Z6 _)
       have hp6:Q6 (kx B rf Qa t count):=by
        exact⟨Te,trivial⟩
       by_cases q6:(count:Int)<(0)
       ·exact(GoE.endsT okF hJ Qg GoE.start (BZ B rf Qa t count)
         ⟨⟨trivial,known⟩,⟨(XC q6),hp6⟩⟩).cast rfl
       ·have hp7:Q6 (ku B rf Qa t count):=by
         exact⟨(XO (Int.not_lt.1 q6)),hp6⟩
        by_cases q7:(100000000:Int)<(count)
        ·exact(GoE.endsT okF hJ Qg GoE.start (BY B rf Qa t count)
          ⟨⟨trivial,known⟩,⟨(XC q7),hp7⟩⟩).cast rfl
        ·have hp8:Q6 (kr B rf Qa t count):=by
          have Ui:=QO ‹QC rf=true›;have Z8:=QA (QJ ‹QC rf=true›).1;have hpf:=(Xn ‹QV rf Qa=true›).1;have hpg:=Zm (QO ‹QC rf=true›) ‹QV rf Qa=true›;have QF:=Wt (QO ‹QC rf=true›) ‹QY rf Qa t=true›;have Wi:=QF.1;have Y5:=QF.2;have Wu:Wg rf.Qb.length rf.Qd (Xl rf.Qd rf.Qb t.Qj t.Ql (Qz t.Qe)):=Wi.shape (XG (QO ‹QC rf=true›) ‹QY rf Qa t=true›);have JZ:=Wu.1;exact⟨⟨trivial,HW (rf) (Xl rf.Qd rf.Qb t.Qj t.Ql (Qz t.Qe)) (by with_reducible assumption) (by omega)⟩,⟨⟨trivial,(by have t_:=IH (rf) (Qa);rw[q3,q4]at t_;exact t_)⟩,⟨⟨trivial,(by have t_:=IC (rf) (Qa);rw[q3,q4]at t_;exact t_)⟩,⟨⟨trivial,(by have t_:=Ng (rf) (Qa) (t);rw[q3,q4,q5]at t_;exact t_)⟩,⟨(XO (Int.not_lt.1 q7)),hp7⟩⟩⟩⟩⟩
         by_cases q8:((↑(Oc (XH rf Qa)):Int):Int)≠((↑(Oc (Xl rf.Qd rf.Qb t.Qj t.Ql (Qz t.Qe))):Int))
         ·have Ui:=QO ‹QC rf=true›;have Z8:=QA (QJ ‹QC rf=true›).1;have hpf:=(Xn ‹QV rf Qa=true›).1;have hpg:=Zm (QO ‹QC rf=true›) ‹QV rf Qa=true›;have QF:=Wt (QO ‹QC rf=true›) ‹QY rf Qa t=true›;have Wi:=QF.1;have Y5:=QF.2;have Wu:Wg rf.Qb.length rf.Qd (Xl rf.Qd rf.Qb t.Qj t.Ql (Qz t.Qe)):=Wi.shape (XG (QO ‹QC rf=true›) ‹QY rf Qa t=true›);have JZ:=Wu.1;exact(GoE.endsT okF hJ Qg GoE.start (BX B rf Qa t count)
           ⟨(Y1 q8),hp8⟩).cast (by(exfalso;omega))
         ·have hp9:Q6 (kq B rf Qa t count):=by
           exact⟨(Y2 (Decidable.of_not_not q8)),hp8⟩
          by_cases q9:((↑(Oc (Xh rf Qa)):Int):Int)≠((↑(Oc (Xl rf.Qd rf.Qb t.Qj t.Ql (Qz t.Qe))):Int))
          ·have Ui:=QO ‹QC rf=true›;have Z8:=QA (QJ ‹QC rf=true›).1;have hpf:=(Xn ‹QV rf Qa=true›).1;have hpg:=Zm (QO ‹QC rf=true›) ‹QV rf Qa=true›;have QF:=Wt (QO ‹QC rf=true›) ‹QY rf Qa t=true›;have Wi:=QF.1;have Y5:=QF.2;have Wu:Wg rf.Qb.length rf.Qd (Xl rf.Qd rf.Qb t.Qj t.Ql (Qz t.Qe)):=Wi.shape (XG (QO ‹QC rf=true›) ‹QY rf Qa t=true›);have JZ:=Wu.1;exact(GoE.endsT okF hJ Qg GoE.start (BW B rf Qa t count)
            ⟨(Y1 q9),hp9⟩).cast (by(exfalso;omega))
          ·have Ui:=QO ‹QC rf=true›;have Z8:=QA (QJ ‹QC rf=true›).1;have hpf:=(Xn ‹QV rf Qa=true›).1;have hpg:=Zm (QO ‹QC rf=true›) ‹QV rf Qa=true›;have QF:=Wt (QO ‹QC rf=true›) ‹QY rf Qa t=true›;have Wi:=QF.1;have Y5:=QF.2;have Wu:Wg rf.Qb.length rf.Qd (Xl rf.Qd rf.Qb t.Qj t.Ql (Qz t.Qe)):=Wi.shape (XG (QO ‹QC rf=true›) ‹QY rf Qa t=true›);have JZ:=Wu.1;exact((EL rf Qa t count X8 hJ _).1 (0) rfl (by with_reducible assumption) (by with_reducible assumption) (by with_reducible assumption) (by omega) (by omega) (by omega)
            (GoE.start.landM okF hJ Qg (BV B rf Qa t count)
            ⟨(Y2 (Decidable.of_not_not q9)),hp9⟩ (by kernel_rfl) (by kernel_rfl))).cast (by rfl)
      |false=>
       have Te:FJ YP B (XY rf Qa t count) (XD rf Qa t count) 3 (OO.ret (.bool false)) (([]++((3,Xk)::QU (3+1) []))++XD rf Qa t count) 4 (Oe 3) []:=by
        have Ui:=QO ‹QC rf=true›;have Z8:=QA (QJ ‹QC rf=true›).1;have hpf:=(Xn ‹QV rf Qa=true›).1;have hpg:=Zm (QO ‹QC rf=true›) ‹QV rf Qa=true›;exact FinK.fjB (GoE.finK okF hJ Qg (Q7 (by kernel_rfl)) (Qw (by kernel_rfl)) ((GoE.refl (P:=YP) (B:=B) (c0:=XY rf Qa t count) (Q7 (by kernel_rfl))).widen (Wf:=((([]):List (Nat×KS)).map (·.1))) (by simp) (Qw (by kernel_rfl))) (BU B rf Qa t count)
         ⟨⟨trivial,(by have t_:=Fh (rf) (Qa) (t) (by with_reducible assumption) (by with_reducible assumption) (by with_reducible assumption);rw[q5]at t_;exact t_)⟩,⟨⟨trivial,(by have t_:=sh (rf) (Qa);rw[q3,q4]at t_;exact t_)⟩,⟨⟨trivial,(by have t_:=nT (t);rw[q2]at t_;exact t_)⟩,⟨(WZ q1),⟨⟨trivial,(by have t_:=cV (rf);rw[q0]at t_;exact t_)⟩,trivial⟩⟩⟩⟩⟩) (ex:=[]) (by kernel_rfl) (Z6 _)
       exact(GoE.endsT okF hJ Qg GoE.start (BT B rf Qa t count)
        ⟨⟨trivial,known⟩,⟨Te,trivial⟩⟩).cast rfl
     |false=>
      have Te:FJ YP B (XY rf Qa t count) (XD rf Qa t count) 3 (OO.ret (.bool false)) (([]++((3,Xk)::QU (3+1) []))++XD rf Qa t count) 4 (Oe 3) []:=by
       have Ui:=QO ‹QC rf=true›;have Z8:=QA (QJ ‹QC rf=true›).1;exact FinK.fjB (GoE.finK okF hJ Qg (Q7 (by kernel_rfl)) (Qw (by kernel_rfl)) ((GoE.refl (P:=YP) (B:=B) (c0:=XY rf Qa t count) (Q7 (by kernel_rfl))).widen (Wf:=((([]):List (Nat×KS)).map (·.1))) (by simp) (Qw (by kernel_rfl))) (BS B rf Qa t count)
        ⟨⟨trivial,(by have t_:=sh (rf) (Qa);rw[q3,q4]at t_;exact t_)⟩,⟨⟨trivial,(by have t_:=nT (t);rw[q2]at t_;exact t_)⟩,⟨(WZ q1),⟨⟨trivial,(by have t_:=cV (rf);rw[q0]at t_;exact t_)⟩,trivial⟩⟩⟩⟩) (ex:=[]) (by kernel_rfl) (Z6 _)
      exact(GoE.endsT okF hJ Qg GoE.start (BR B rf Qa t count)
       ⟨⟨trivial,known⟩,⟨Te,trivial⟩⟩).cast rfl
    |false=>
     have Te:FJ YP B (XY rf Qa t count) (XD rf Qa t count) 3 (OO.ret (.bool false)) (([]++((3,Xk)::QU (3+1) []))++XD rf Qa t count) 4 (Oe 3) []:=by
      exact FinK.fjB (GoE.finK okF hJ Qg (Q7 (by kernel_rfl)) (Qw (by kernel_rfl)) ((GoE.refl (P:=YP) (B:=B) (c0:=XY rf Qa t count) (Q7 (by kernel_rfl))).widen (Wf:=((([]):List (Nat×KS)).map (·.1))) (by simp) (Qw (by kernel_rfl))) (BQ B rf Qa t count)
       ⟨⟨trivial,(by have t_:=sh (rf) (Qa);rw[q3]at t_;exact t_)⟩,⟨⟨trivial,(by have t_:=nT (t);rw[q2]at t_;exact t_)⟩,⟨(WZ q1),⟨⟨trivial,(by have t_:=cV (rf);rw[q0]at t_;exact t_)⟩,trivial⟩⟩⟩⟩) (ex:=[]) (by kernel_rfl) (Z6 _)
     exact(GoE.endsT okF hJ Qg GoE.start (BP B rf Qa t count)
      ⟨⟨trivial,known⟩,⟨Te,trivial⟩⟩).cast rfl
   |false=>
    have Te:FJ YP B (XY rf Qa t count) (XD rf Qa t count) 3 (OO.ret (.bool false)) (([]++((3,Xk)::QU (3+1) []))++XD rf Qa t count) 4 (Oe 3) []:=by
     exact FinK.fjB (GoE.finK okF hJ Qg (Q7 (by kernel_rfl)) (Qw (by kernel_rfl)) ((GoE.refl (P:=YP) (B:=B) (c0:=XY rf Qa t count) (Q7 (by kernel_rfl))).widen (Wf:=((([]):List (Nat×KS)).map (·.1))) (by simp) (Qw (by kernel_rfl))) (BO B rf Qa t count)
      ⟨⟨trivial,(by have t_:=nT (t);rw[q2]at t_;exact t_)⟩,⟨(WZ q1),⟨⟨trivial,(by have t_:=cV (rf);rw[q0]at t_;exact t_)⟩,trivial⟩⟩⟩) (ex:=[]) (by kernel_rfl) (Z6 _)
    exact(GoE.endsT okF hJ Qg GoE.start (BN B rf Qa t count)
     ⟨⟨trivial,known⟩,⟨Te,trivial⟩⟩).cast rfl
  ·have Te:FJ YP B (XY rf Qa t count) (XD rf Qa t count) 3 (OO.ret (.bool false)) (([]++((3,Xk)::QU (3+1) []))++XD rf Qa t count) 4 (Oe 3) []:=by
    exact FinK.fjB (GoE.finK okF hJ Qg (Q7 (by kernel_rfl)) (Qw (by kernel_rfl)) ((GoE.refl (P:=YP) (B:=B) (c0:=XY rf Qa t count) (Q7 (by kernel_rfl))).widen (Wf:=((([]):List (Nat×KS)).map (·.1))) (by simp) (Qw (by kernel_rfl))) (BM B rf Qa t count)
     ⟨(UX (Int.not_le.1 q1)),⟨⟨trivial,(by have t_:=cV (rf);rw[q0]at t_;exact t_)⟩,trivial⟩⟩) (ex:=[]) (by kernel_rfl) (Z6 _)
   exact(GoE.endsT okF hJ Qg GoE.start (BL B rf Qa t count)
    ⟨⟨trivial,known⟩,⟨Te,trivial⟩⟩).cast rfl
 |false=>
  have Te:FJ YP B (XY rf Qa t count) (XD rf Qa t count) 3 (OO.ret (.bool false)) (([]++((3,Xk)::QU (3+1) []))++XD rf Qa t count) 4 (Oe 3) []:=by
   exact FinK.fjB (GoE.finK okF hJ Qg (Q7 (by kernel_rfl)) (Qw (by kernel_rfl)) ((GoE.refl (P:=YP) (B:=B) (c0:=XY rf Qa t count) (Q7 (by kernel_rfl))).widen (Wf:=((([]):List (Nat×KS)).map (·.1))) (by simp) (Qw (by kernel_rfl))) (BK B rf Qa t count)
    ⟨⟨trivial,(by have t_:=cV (rf);rw[q0]at t_;exact t_)⟩,trivial⟩) (ex:=[]) (by kernel_rfl) (Z6 _)
  exact(GoE.endsT okF hJ Qg GoE.start (BJ B rf Qa t count)
   ⟨⟨trivial,known⟩,⟨Te,trivial⟩⟩).cast rfl
theorem MM(rf:Qi)(Qa:List Int)(t:Qv)(count:Int)  :Q0 YP J0 6 #[.agg (Q5 rf).toArray,XI Qa,.agg #[XI t.Qe,Zp t.Qj,Zp t.Ql],.int .i64 count] (.bool true):=
 Vj (ts:=[.agg (Q5 rf).toArray,XI Qa,.agg #[XI t.Qe,Zp t.Qj,Zp t.Ql],.int .i64 count]) (Qa.length<=9223372036854775807) (fun _ _ ht=>ht.ln (i:=1) rfl) Zh (c0:=Qx YP 6 162 (([.agg (Q5 rf).toArray,XI Qa,.agg #[XI t.Qe,Zp t.Qj,Zp t.Ql],.int .i64 count]).map (Q8 0 4))) (by kernel_rfl) (by kernel_rfl) fun X8 B hJ=>HY rf Qa t count  X8 hJ
end
end Go.Proofs.Ytncjjangllkokaa

namespace Go.Proofs.Ytncjjangllkokaa
open Go Go.CE Go.RowKit
theorem ET:∀trs,sP [kM,.slice .int,dA,.int] trs->Q0 YP J0 6 trs.toArray (.bool true):=by
 rintro trs ⟨t0,_,rfl,h0,t1,_,rfl,h1,t2,_,rfl,h2,t3,_,rfl,h3,rfl⟩;obtain⟨r,rfl⟩:=HP h0;obtain⟨l,rfl⟩:=HQ h1;obtain⟨t,rfl⟩:=E6 h2;obtain⟨n,rfl⟩:=Lp h3;exact MM r l t n
end Go.Proofs.Ytncjjangllkokaa

namespace Go.Proofs.Ytncjjangllkokaa
open Go Go.CE Go.ChangeShapes Go.WideShapes Go.RowKit
set_option maxRecDepth 100000 in
theorem je(os:Os)(started:os.Started)(H:Type)(enc:TypeId×Value->H):
 ReturnsInHanded {} Try.checked os 6 .any (Rows.reefTrueSpec.pre6 enc YP Try.f6 Rows.reefTrueRow.domain false) (Rows.reefTrueSpec.post enc YP Try.f6 false true false false):=by
 refine returnsInHanded_of_change (C:=Try.checked) (show ownKnob YP.godebug=none by kernel_rfl) started (by kernel_rfl) Try.func6
  (ChangeSpec.witness6 (enc:=enc) (C:=Try.checked) false ⟨#[],#[Sh.zeroA kM,Sh.zeroA (.slice .int),Sh.zeroA dA,Sh.zeroA .int],[]⟩ 8 (by kernel_rfl) (by kernel_rfl) (by kernel_rfl) (by kernel_rfl)) ?_
 intro W base args ds gs before hval0 hW _ _;have hval:∀(j:Nat) t v,Try.f6.params[j]? =some t->args[j]? =some v->Value.okWide YP W .any base t v:=hval0;have hW':=hW;obtain⟨p,q,hA0,hV,rfl,_,_⟩:=hW;obtain⟨rfl,rfl⟩:=trodVars_none hV;have hA1:DataW.TrodAll enc YP W 0 (fun _=>true) true Try.f6.params.toList args.toList ds p:=hA0;have Xw:∀x∈p,x.block<W.heap.size:=fun x hx=>hW'.lt x (by simpa using hx)
 have RY:da YP [kM,.slice .int,dA,.int] Try.f6.params.toList=true:=by kernel_rfl
 have hrd:(Try.f6.params.toList.all fun t=>YP.readableRec t && decide (t<YP.types.size))=true:=by kernel_rfl
 refine(Hd (J:=J0) (ss:=[kM,.slice .int,dA,.int]) trivial RY hA1 (fun j t v h1 h2=>hval j t v (by simpa using h1) h2) ET).mono fun e W' ⟨he,hB⟩=> ?_
 subst he;have hB2:=cb (show laidOutB YP=true by kernel_rfl) hB _ _ _ _ hrd hA1 Xw;have hA:DataW.TrodAll enc YP W 0 (fun _=>true) true Try.f6.params.toList args.toList ds p:=hA1;rw[Try.params6]at hA;simp only[List.toList_toArray]at hA;have hA:=hA;obtain⟨v0,vs0,d0,ds0,p0,q0,_,rfl,_,h0,_⟩:=CE.trodAll_cons hA;obtain⟨v1,vs1,d1,ds1,p1,q1,_,rfl,_,h1,_⟩:=CE.trodAll_cons h0;obtain⟨v2,vs2,d2,ds2,p2,q2,_,rfl,_,h2,_⟩:=CE.trodAll_cons h1;obtain⟨v3,vs3,d3,ds3,p3,q3,_,rfl,_,h3,_⟩:=CE.trodAll_cons h2;obtain⟨_,rfl,_⟩:=CE.trodAll_nil h3;exact⟨_,rfl,_,_,_,[],_,[],hW',trodAll_mk1 (shut_bool Try.underlying4 _),hB2,rfl,hB.frame _,fun h=>by cases h⟩
theorem reefTrue_row:Rows.ReefTrueSaid:=
 OpenClaim.holds_of_wide 6 Try.f6 rfl rfl rfl rfl rfl rfl rfl ⟨rfl,rfl,rfl,rfl,rfl⟩ rfl rfl rfl rfl rfl (by kernel_rfl) Try.func6 (by kernel_rfl)
  (of_decide_eq_true (by kernel_rfl)) (by unfold Func.isWrapper;first|(rw[if_pos (by decide+kernel)];kernel_rfl)|(rw[if_neg (by decide+kernel)];exact⟨rfl,rfl⟩))
  (fun os started H enc _=>je os started H enc)
end Go.Proofs.Ytncjjangllkokaa
