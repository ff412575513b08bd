/- Reef: Counts. -/
import Derived.Test.YtncjjangllkokaaZRH16
import Derived.Test.YtncjjangllkokaaZRH15
import Derived.Test.YtncjjangllkokaaZRH10
set_option linter.all false
open List renaming length->Lc,getD_eq_getElem?_getD->Lq,getElem?_eq_none->LA,getD->Ld
open Int renaming tdiv_eq_ediv_of_nonneg->LO,toNat->Lb
open Array renaming extract->Lh
open Nat renaming strongRecOn->Lz
open Inhabited renaming default->La
namespace Go.Proofs.Ytncjjangllkokaa
open Go Go.CE Go.RowKit
noncomputable section
theorem NH(rf:Ql)(Qa:List Int)(hr:XM rf=true)(hl:Qa.length<=4)(hp:∀j:Nat,0<=Qa.getD j 0/\Qa.getD j 0<=1000000):Qn YP J0 54 #[.agg (QF rf Qa).toArray] (Kc (QB rf Qa)):=by
 have ZA:=Q4 (Q8 hr).1;obtain⟨ps,Qc,n⟩:=rf;simp only at ZA;rcases(show n=1\/n=2\/n=3\/n=4 by omega)with rfl|rfl|rfl|rfl
 ·exact IE ps Qc Qa hr (by omega) hl hp
 ·exact ID ps Qc Qa hr (by omega) hl hp
 ·exact IC ps Qc Qa hr (by omega) hl hp
 ·exact IB ps Qc Qa hr (by omega) hl hp
def eP(rf:Ql)(Qa:List Int):Array Value:=#[QC rf.Qb.length (Qe Qi rf.Qb),YI rf.Qc,YI rf.Qd,YI (Qa.getD 0 0),YI (Qa.getD 1 0),YI (Qa.getD 2 0),YI (Qa.getD 3 0)]
def eO(rf:Ql)(Qa:List Int):Array Value:=#[.agg #[QC rf.Qb.length (Qe Qi rf.Qb),YI rf.Qc,YI rf.Qd],QC Qa.length (Qe Q5 Qa)]
def eQ(B:Lo)(rf:Ql)(Qa:List Int):List Prop:=[Qr []/\Qn YP J0 50 #[.agg #[QC rf.Qb.length (Qe Qi rf.Qb),YI rf.Qc,YI rf.Qd]] (.bool true)]++([]:List Prop)
def ot(rf:Ql)(Qa:List Int):Q7:=[(4,Qh.pure (.bool true) [])]
set_option maxRecDepth 100000 in
theorem Ct(B:Lo)(rf:Ql)(Qa:List Int):QO (Qo YP (Q1 YP) J0 B 11 1 (Qp YP 19 19 (([.agg (Qv rf).toArray,XH Qa]).map (Q2 0 4))) XW 1
 (ot rf Qa++[(9,Qh.pure (.bool true) []),(14,Qh.pure (.agg (eP rf Qa)) []),(15,Qh.pure (QC (Lc (QB rf Qa)) (Qe ZL (QB rf Qa))) [])]) 0 [] []) []=some (.tuple #[QC (Lc (QB rf Qa)) (Qe ZL (QB rf Qa)),YI 0],
 [Qr []/\Qn YP J0 54 #[.agg (eP rf Qa)] (QC (Lc (QB rf Qa)) (Qe ZL (QB rf Qa))),Qr []/\Qn YP J0 52 (eO rf Qa) (.agg (eP rf Qa)),Qr []/\Qn YP J0 51 (eO rf Qa) (.bool true)]++eQ B rf Qa):=by kernel_rfl
set_option maxRecDepth 100000 in
theorem Cs(B:Lo)(rf:Ql)(Qa:List Int):QO (Qo YP (Q1 YP) J0 B 10 1 (Qp YP 19 19 (([.agg (Qv rf).toArray,XH Qa]).map (Q2 0 4))) XW 1
 (ot rf Qa++[(9,Qh.pure (.bool false) [])]) 0 [] []) []=some (.tuple #[QC 0 #[],YI 2],
 [Qr []/\Qn YP J0 51 (eO rf Qa) (.bool false)]++eQ B rf Qa):=by kernel_rfl
set_option maxRecDepth 100000 in
theorem Cr(B:Lo)(rf:Ql)(Qa:List Int):QO (Qo YP (Q1 YP) J0 B 10 1 (Qp YP 19 19 (([.agg (Qv rf).toArray,XH Qa]).map (Q2 0 4))) XW 1
 [(4,Qh.pure (.bool false) [])] 0 [] []) []=some (.tuple #[QC 0 #[],YI 2],
 [Qr []/\Qn YP J0 50 #[.agg #[QC rf.Qb.length (Qe Qi rf.Qb),YI rf.Qc,YI rf.Qd]] (.bool false)]):=by kernel_rfl
set_option maxHeartbeats 4000000 in
theorem FF(rf:Ql)(Qa:List Int)  {B:Lo}(hJ:∀w,B.has w->J0 w):EndsT YP B (Qp YP 19 19 (([.agg (Qv rf).toArray,XH Qa]).map (Q2 0 4))) (.tuple #[if QL rf && Xo rf Qa then Kc (QB rf Qa)else Kc [],YI (if QL rf && Xo rf Qa then 0 else 2)]):=by
 cases q0:QL rf with
 |true=>
  have Vw:Qr (eQ B rf Qa):=by
   try have Ja:=ZV ‹QL rf=true›
   try have ZA:=Q4 (QR ‹QL rf=true›).1
   try have hpf:=(XU ‹Xo rf Qa=true›).1
   try have hpg:=(fun j=>(fun h=>⟨h.1,by omega⟩) (Zj Ja ‹Xo rf Qa=true› j):∀j:Nat,0<=Qa.getD j 0/\Qa.getD j 0<=1000000)
   exact⟨⟨trivial,(by have t_:=cL (rf);rw[q0]at t_;exact t_)⟩,trivial⟩
  cases q1:Xo rf Qa with
  |true=>
   try have Ja:=ZV ‹QL rf=true›
   try have ZA:=Q4 (QR ‹QL rf=true›).1
   try have hpf:=(XU ‹Xo rf Qa=true›).1
   try have hpg:=(fun j=>(fun h=>⟨h.1,by omega⟩) (Zj Ja ‹Xo rf Qa=true› j):∀j:Nat,0<=Qa.getD j 0/\Qa.getD j 0<=1000000)
   exact(GoE.endsT okF hJ Qf GoE.start (Ct B rf Qa)
    ⟨⟨trivial,NH (rf) (Qa) (by first|with_reducible assumption|omega|simp_all) (by first|with_reducible assumption|omega|simp_all) (by first|with_reducible assumption|omega|simp_all)⟩,⟨⟨trivial,iG (rf) (Qa) (by first|with_reducible assumption|omega|simp_all) (by first|with_reducible assumption|omega|simp_all)⟩,⟨⟨trivial,(by have t_:=cM (rf) (Qa) (by first|with_reducible assumption|omega|simp_all);rw[q1]at t_;exact t_)⟩,Vw⟩⟩⟩).cast (by first|rfl|(simp[*];done)|(simp_all;done))
  |false=>
   try have Ja:=ZV ‹QL rf=true›
   try have ZA:=Q4 (QR ‹QL rf=true›).1
   try have hpf:=(XU ‹Xo rf Qa=true›).1
   try have hpg:=(fun j=>(fun h=>⟨h.1,by omega⟩) (Zj Ja ‹Xo rf Qa=true› j):∀j:Nat,0<=Qa.getD j 0/\Qa.getD j 0<=1000000)
   exact(GoE.endsT okF hJ Qf GoE.start (Cs B rf Qa)
    ⟨⟨trivial,(by have t_:=cM (rf) (Qa) (by first|with_reducible assumption|omega|simp_all);rw[q1]at t_;exact t_)⟩,Vw⟩).cast (by first|rfl|(simp[*];done)|(simp_all;done))
 |false=>
  try have Ja:=ZV ‹QL rf=true›
  try have ZA:=Q4 (QR ‹QL rf=true›).1
  try have hpf:=(XU ‹Xo rf Qa=true›).1
  try have hpg:=(fun j=>(fun h=>⟨h.1,by omega⟩) (Zj Ja ‹Xo rf Qa=true› j):∀j:Nat,0<=Qa.getD j 0/\Qa.getD j 0<=1000000)
  exact(GoE.endsT okF hJ Qf GoE.start (Cr B rf Qa)
   ⟨⟨trivial,(by have t_:=cL (rf);rw[q0]at t_;exact t_)⟩,trivial⟩).cast (by first|rfl|(simp[*];done)|(simp_all;done))
theorem l6(rf:Ql)(Qa:List Int)  :Qn YP J0 19 #[.agg (Qv rf).toArray,XH Qa] (.tuple #[if QL rf && Xo rf Qa then Kc (QB rf Qa)else Kc [],YI (if QL rf && Xo rf Qa then 0 else 2)]):=
 Xb (ts:=[.agg (Qv rf).toArray,XH Qa]) XZ (c0:=Qp YP 19 19 (([.agg (Qv rf).toArray,XH Qa]).map (Q2 0 4))) (by kernel_rfl) (by kernel_rfl) fun B hJ=>FF rf Qa  hJ
end
end Go.Proofs.Ytncjjangllkokaa

namespace Go.Proofs.Ytncjjangllkokaa
open Go Go.CE Go.RowKit
section
variable {ps:List Qg} {n:Int} {gs ts:List (List Int)} {f:F4}
theorem nz{k:Int}(k0:0<=k)(k1:k<n):(QW n ps gs ts f).getD k.toNat La=mC ps gs ts f k:=by
 unfold QW;exact XQ k0 k1
theorem sK{k i:Int}(h4:ps.length<=4)(i0:0<=i)(i1:i<ps.length):(mC ps gs ts f k).getD i.toNat La=(aH ps gs ts f (k.toNat+1)).at i:=by
 unfold mC;rw[<-Ot h4];exact XQ i0 i1
theorem OkT.row(h:OkT ps n gs ts f){k i:Int}(k0:0<=k)(k1:k<n)(i0:0<=i)(i1:i<ps.length):0<=nth ((QW n ps gs ts f).getD k.toNat La) i/\nth ((QW n ps gs ts f).getD k.toNat La) i<=1000000000+16000000:=by
 have h4:=h.s4;have T5:=h.hp.1;have hs:=h.st (k.toNat+1) (by omega);have ha:=YG hs.1 i0 (by omega);have h9:=h.hs;rw[nz k0 k1];unfold nth;rw[sK T5 i0 i1];have:=hs.2;omega
end
theorem Vx{rf:Ql}{Qa:List Int}{t:Ze}(hr:XM rf=true)(ht:Za rf Qa t=true):(Qu t.starts).sum<=16000000:=by
 have hs:=Q4 (Q8 hr).1;obtain⟨h1,h2,h3,h4⟩:=jr ht;obtain⟨s1,s2⟩:=cr h1;rw[List.length_map]at s1;have st:∀k:Int,0<=k->k<4->nth t.starts k<=4000000:=fun k k0 k1=>by
  by_cases hk:k<rf.Qb.length
  ·have hp:=Zx ((Q8 hr).2 k k0 hk).1;have:=s2 k k0 (by omega);rw[iS k0 hk]at this;have hm:=Sq (a:=(rf.Qb.getD k.toNat La).count) (r:=rf.Qc) (by omega) (by omega);have hm2:(rf.Qb.getD k.toNat La).count*rf.Qc<=1000000*2000:=Int.mul_le_mul hp.1.2 hs.2.1.2 hs.2.1.1 (by omega);have e2:((rf.Qb.getD k.toNat La).count*rf.Qc).tdiv 1000=((rf.Qb.getD k.toNat La).count*rf.Qc) / 1000:=LO hm.1;simp only[XB,Zm]at this;unfold nth;omega
  ·unfold nth;rw[Lq,LA (by omega)];show(0:Int)<=4000000;omega
 have a0:=st 0 (by omega) (by omega);have a1:=st 1 (by omega) (by omega);have a2:=st 2 (by omega) (by omega);have a3:=st 3 (by omega) (by omega);have es:(Qu t.starts).sum=nth t.starts 0+nth t.starts 1+nth t.starts 2+nth t.starts 3:=rfl;omega
theorem OkT.shape{ps:List Qg}{n:Int}{gs ts:List (List Int)}{f:F4}(h:OkT ps n gs ts f)(hf:f.sum<=16000000):(QW n ps gs ts f).length=n/\∀s:Int,0<=s->s<n->((QW n ps gs ts f).getD s.toNat La).length=ps.length/\∀i:Int,0<=i->i<ps.length->0<=((QW n ps gs ts f).getD s.toNat La).getD i.toNat La/\((QW n ps gs ts f).getD s.toNat La).getD i.toNat La<=32000000:=by
 have h9:=h.s0;have h4:=h.s4;refine⟨by unfold QW;rw[Xk];omega,fun s s0 s1=> ?_⟩;rw[nz s0 s1];refine⟨vF h.hp.1,fun i i0 i1=> ?_⟩;have T5:=h.hp.1;have hs:=h.st (s.toNat+1) (by omega);have ha:=YG hs.1 i0 (by omega);rw[sK T5 i0 i1];have:=hs.2;omega
def PR(m:Nat)(n:Int)(l:List (List Int)):Prop:=l.length=n/\∀s:Int,0<=s->s<n->(l.getD s.toNat La).length=m/\∀i:Int,0<=i->i<m->0<=(l.getD s.toNat La).getD i.toNat La/\(l.getD s.toNat La).getD i.toNat La<=32000000
end Go.Proofs.Ytncjjangllkokaa

namespace Go.Proofs.Ytncjjangllkokaa
open Go Go.CE Go.RowKit
noncomputable section
set_option maxRecDepth 100000
section
variable (B:Lo)(c0:CF)(rf:Ql)(l:List (List Int))(s i:Int)(Qm:Nat->Value)
def Kw(rf:Ql)(l:List (List Int))(s:Int):List Value:=[Qw 1 (QC l.length (Qe XA l)),pA 2 0,YI s]
def Wg(l:List (List Int))(s:Int):List Obj:=[Obj.cells #[Qw 1 (QC rf.Qb.length (Qe Qi rf.Qb)),YI rf.Qc,YI rf.Qd] 24]
def Ky:List Item:=([.code [1,0,1,0,0],.inLoop [1,0,1,0,0],.inBlock 0,.code [1,1]]).map (it (QG YP 31))
def AE:Prop:=∃dJ:Nat->Value,(∀t,Xi (dJ t))/\GoE YP B c0 XW 1 (QA 31 54 (([1,2,5]:List Nat).zip (Kw rf l s)) dJ Ky) (Q9 (Wg rf l s)) (2+(Wg rf l s).length) []
def Kv(rf:Ql)(l:List (List Int))(s i:Int):List Value:=[Qw 1 (QC l.length (Qe XA l)),pA 2 0,YI s,YI i]
def We(l:List (List Int))(s i:Int):List Obj:=[Obj.cells #[Qw 1 (QC rf.Qb.length (Qe Qi rf.Qb)),YI rf.Qc,YI rf.Qd] 24]
def Kx:List Item:=([.code [1,0,1,0,0,1,0,0,1,1,0,0],.inLoop [1,0,1,0,0,1,0,0,1,1,0,0],.inBlock 2,.inBlock 1,.code [1,0,1,0,0,1,1],.inLoop [1,0,1,0,0],.inBlock 0,.code [1,1]]).map (it (QG YP 31))
def AD:Prop:=∃dJ:Nat->Value,(∀t,Xi (dJ t))/\GoE YP B c0 XW 1 (QA 31 54 (([1,2,5,6]:List Nat).zip (Kv rf l s i)) dJ Kx) (Q9 (We rf l s i)) (2+(We rf l s i).length) []
def dE(B:Lo)(rf:Ql)(l:List (List Int))(s:Int)(Qm:Nat->Value):List Prop:=let a:=l.getD s.toNat La;[s=(↑s.toNat:Int)/\Lb s<Lc l/\Lh (Qe XA l) (Lb s*TypeInfo.size Try.t25) (Lb s*TypeInfo.size Try.t25+TypeInfo.size Try.t25)=#[QC a.length (Qe Q5 a)],XC s (↑l.length:Int)=true]++([]:List Prop)
def lX(rf:Ql)(l:List (List Int))(s:Int)(Qm:Nat->Value):Q7:=[(3,Z5),(6,Qh.tidx s.toNat #[QC (Lc (l.getD s.toNat La)) (Qe Q5 (l.getD s.toNat La))])]
theorem AA:QO (Qo YP (Q1 YP) J0 B 15 1 (QA 31 54 (([1,2,5]:List Nat).zip (Kw rf l s)) Qm Ky) (Q9 (Wg rf l s)) (2+(Wg rf l s).length)
 (lX rf l s Qm++[(12,Z5)]) 0 [] []) []=some (.bool false,
 [(!Yo (↑(Lc (l.getD s.toNat La)):Int) (↑rf.Qb.length:Int))=true]++dE B rf l s Qm):=by kernel_rfl
theorem A9:landM (Qo YP (Q1 YP) J0 B 16 1 (QA 31 54 (([1,2,5]:List Nat).zip (Kw rf l s)) Qm Ky) (Q9 (Wg rf l s)) (2+(Wg rf l s).length)
 (lX rf l s Qm++[(12,ZW)]) 0 [] []) [1,2,5,6] [(2,KS.auto)] []=some ⟨31,54,Kx,[],.run,none,Kv rf l (s) (0),We rf l (s) (0),
 [(!Yo (↑(Lc (l.getD s.toNat La)):Int) (↑rf.Qb.length:Int))=false]++dE B rf l s Qm⟩:=by kernel_rfl
def dC(B:Lo)(rf:Ql)(l:List (List Int))(s:Int)(Qm:Nat->Value):List Prop:=[XC s (↑l.length:Int)=false]++([]:List Prop)
def lW(rf:Ql)(l:List (List Int))(s:Int)(Qm:Nat->Value):Q7:=[(3,ZW)]
theorem A8:QO (Qo YP (Q1 YP) J0 B 9 1 (QA 31 54 (([1,2,5]:List Nat).zip (Kw rf l s)) Qm Ky) (Q9 (Wg rf l s)) (2+(Wg rf l s).length)
 (lW rf l s Qm++[(8,Z5)]) 0 [] []) []=some (.bool true,
 [Yo (↑l.length:Int) rf.Qd=true]++dC B rf l s Qm):=by kernel_rfl
theorem A7:QO (Qo YP (Q1 YP) J0 B 9 1 (QA 31 54 (([1,2,5]:List Nat).zip (Kw rf l s)) Qm Ky) (Q9 (Wg rf l s)) (2+(Wg rf l s).length)
 (lW rf l s Qm++[(8,ZW)]) 0 [] []) []=some (.bool false,
 [Yo (↑l.length:Int) rf.Qd=false]++dC B rf l s Qm):=by kernel_rfl
def dB(B:Lo)(rf:Ql)(l:List (List Int))(s i:Int)(Qm:Nat->Value):List Prop:=let a:=l.getD s.toNat La;[s=(↑s.toNat:Int)/\Lb s<Lc l/\Lh (Qe XA l) (Lb s*TypeInfo.size Try.t25) (Lb s*TypeInfo.size Try.t25+TypeInfo.size Try.t25)=#[QC a.length (Qe Q5 a)]]++([]:List Prop)
def lV(rf:Ql)(l:List (List Int))(s i:Int)(Qm:Nat->Value):Q7:=[(3,Qh.tidx s.toNat #[QC (Lc (l.getD s.toNat La)) (Qe Q5 (l.getD s.toNat La))])]
def dA:List Prop:=let a:=l.getD s.toNat La;[i=(↑i.toNat:Int)/\Lb i<Lc a/\Lh (Qe Q5 a) (Lb i*TypeInfo.size Try.t3) (Lb i*TypeInfo.size Try.t3+TypeInfo.size Try.t3)=#[YI (a.getD i.toNat La)],s=(↑s.toNat:Int)/\Lb s<Lc l/\Lh (Qe XA l) (Lb s*TypeInfo.size Try.t25) (Lb s*TypeInfo.size Try.t25+TypeInfo.size Try.t25)=#[QC a.length (Qe Q5 a)],XC i (↑a.length:Int)=true]++dB B rf l s i Qm
def lU:Q7:=let a:=l.getD s.toNat La;lV rf l s i Qm++[(6,Z5),(9,Qh.tidx s.toNat #[QC a.length (Qe Q5 a)]),(12,Qh.tidx i.toNat #[YI (a.getD i.toNat La)])]
theorem A6:QO (Qo YP (Q1 YP) J0 B 14 1 (QA 31 54 (([1,2,5,6]:List Nat).zip (Kv rf l s i)) Qm Kx) (Q9 (We rf l s i)) (2+(We rf l s i).length)
 (lU rf l s i Qm++[(14,Z5)]) 0 [] []) []=some (.bool false,
 [XC (Ld (l.getD s.toNat La) i.toNat La) 0=true]++dA B rf l s i Qm):=by kernel_rfl
def dz:List Prop:=let a:=l.getD s.toNat La;let b:=a.getD i.toNat La;[i=(↑i.toNat:Int)/\Lb i<Lc a/\Lh (Qe Q5 a) (Lb i*TypeInfo.size Try.t3) (Lb i*TypeInfo.size Try.t3+TypeInfo.size Try.t3)=#[YI b],s=(↑s.toNat:Int)/\Lb s<Lc l/\Lh (Qe XA l) (Lb s*TypeInfo.size Try.t25) (Lb s*TypeInfo.size Try.t25+TypeInfo.size Try.t25)=#[QC a.length (Qe Q5 a)],XC b 0=false]++dA B rf l s i Qm
def lT:Q7:=let a:=l.getD s.toNat La;lU rf l s i Qm++[(14,ZW),(18,Qh.tidx s.toNat #[QC a.length (Qe Q5 a)]),(21,Qh.tidx i.toNat #[YI (a.getD i.toNat La)])]
theorem A5:QO (Qo YP (Q1 YP) J0 B 14 1 (QA 31 54 (([1,2,5,6]:List Nat).zip (Kv rf l s i)) Qm Kx) (Q9 (We rf l s i)) (2+(We rf l s i).length)
 (lT rf l s i Qm++[(23,Z5)]) 0 [] []) []=some (.bool false,
 [XC 1000000000 (Ld (l.getD s.toNat La) i.toNat La)=true]++dz B rf l s i Qm):=by kernel_rfl
theorem A4:landM (Qo YP (Q1 YP) J0 B 14 1 (QA 31 54 (([1,2,5,6]:List Nat).zip (Kv rf l s i)) Qm Kx) (Q9 (We rf l s i)) (2+(We rf l s i).length)
 (lT rf l s i Qm++[(23,ZW),(26,Wy (i+1))]) 0 [] []) [1,2,5,6] [(2,KS.auto)] []=some ⟨31,54,Kx,[],.run,none,Kv rf l (s) (i+1),We rf l (s) (i+1),
 [wq (i+1)=i+1,XC 1000000000 (Ld (l.getD s.toNat La) i.toNat La)=false]++dz B rf l s i Qm⟩:=by kernel_rfl
theorem A3:landM (Qo YP (Q1 YP) J0 B 8 1 (QA 31 54 (([1,2,5,6]:List Nat).zip (Kv rf l s i)) Qm Kx) (Q9 (We rf l s i)) (2+(We rf l s i).length)
 (lV rf l s i Qm++[(6,ZW),(8,Wy (s+1))]) 0 [] []) [1,2,5] [(2,KS.auto)] []=some ⟨31,54,Ky,[],.run,none,Kw rf l (s+1),Wg rf l (s+1),
 [wq (s+1)=s+1,XC i (↑(Lc (l.getD s.toNat La)):Int)=false]++dB B rf l s i Qm⟩:=by kernel_rfl
theorem A0:landM (Qo YP (Q1 YP) J0 B 7 1 (Qp YP 31 54 (([.agg (Qv rf).toArray,Yv l]).map (Q2 0 4))) XW 1
 [] 0 [] []) [1,2,5] [(1,KS.auto)] []=some ⟨31,54,Ky,[],.run,none,Kw rf l (0),Wg rf l (0),
 []⟩:=by kernel_rfl
end
set_option maxHeartbeats 4000000 in
theorem AB(rf:Ql)(l:List (List Int))(hl:PR rf.Qb.length rf.Qd l)(hn:rf.Qb.length<=8)(X2:l.length<=9223372036854775807/\rf.Qb.length<=9223372036854775807){B:Lo}(hJ:∀w,B.has w->J0 w){c0:CF}:∀m:Nat,(∀(s:Int),100*(l.length-s.toNat)=m->∀(h0:0<=s),AE B c0 rf l s->EndsT YP B c0 (.bool true))/\(∀(s i:Int),100*(l.length-s.toNat)-99+((l.getD s.toNat La).length-i.toNat)=m->∀(h0:0<=s) (h1:s<rf.Qd) (h2:0<=i),AD B c0 rf l s i->EndsT YP B c0 (.bool true)):=by
 intro m0;induction m0 using Lz with
 |_ m0 ih0=>
  refine⟨?_, ?_⟩
  ·intro s YA h0 ⟨Qm,ZF,Xs⟩;have hl1:=hl.1;have hl1:=hl.1;by_cases q0:(s:Int)<((↑l.length:Int))
   ·have Vw:Qr (dE B rf l s Qm):=by
     have hls:=hl.2 s (by omega) (by omega);have hl2:=hls.1;exact⟨⟨by omega,by omega,(Qs (z:=1) (fun _=>rfl) (by omega))⟩,⟨(Xd q0),trivial⟩⟩
    by_cases q1:((↑(Lc (l.getD s.toNat La)):Int):Int)≠((↑rf.Qb.length:Int))
    ·have hls:=hl.2 s (by omega) (by omega);have hl2:=hls.1;exact(GoE.endsT okF hJ Qf Xs (AA B rf l s Qm)
      ⟨(KE q1),Vw⟩).cast (by omega)
    ·have hls:=hl.2 s (by omega) (by omega);have hl2:=hls.1;exact((ih0 _ (by omega)).2 (s) (0) rfl (by with_reducible assumption) (by omega) (by omega)
      (Xs.landM okF hJ Qf (A9 B rf l s Qm)
      ⟨(KF (Decidable.of_not_not q1)),Vw⟩ (by kernel_rfl) (by kernel_rfl))).cast (by rfl)
   ·have UP:Qr (dC B rf l s Qm):=by
     exact⟨(X9 (Int.not_lt.1 q0)),trivial⟩
    by_cases q1:((↑l.length:Int):Int)=rf.Qd
    ·exact(GoE.endsT okF hJ Qf Xs (A8 B rf l s Qm)
      ⟨(bY q1),UP⟩).cast rfl
    ·have hls:=hl.2 s (by omega) (by omega);have hl2:=hls.1;exact(GoE.endsT okF hJ Qf Xs (A7 B rf l s Qm)
      ⟨(bZ q1),UP⟩).cast (by omega)
  ·intro s i YA h0 h1 h2 ⟨Qm,ZF,Xs⟩;have hl1:=hl.1;have hl1:=hl.1;have hls:=hl.2 s h0 h1;have hl2:=hls.1;have Pb:Qr (dB B rf l s i Qm):=by
    exact⟨⟨by omega,by omega,(Qs (z:=1) (fun _=>rfl) (by omega))⟩,trivial⟩
   by_cases q0:(i:Int)<((↑(Lc (l.getD s.toNat La)):Int))
   ·have hp3:Qr (dA B rf l s i Qm):=by
     have S0:=hls.2 i h2 (by omega);exact⟨⟨by omega,by omega,(Qs (z:=1) (fun _=>rfl) (by omega))⟩,⟨⟨by omega,by omega,(Qs (z:=1) (fun _=>rfl) (by omega))⟩,⟨(Xd q0),Pb⟩⟩⟩
    by_cases q1:(Ld (l.getD s.toNat La) i.toNat La:Int)<(0)
    ·have S0:=hls.2 i h2 (by omega);exact(GoE.endsT okF hJ Qf Xs (A6 B rf l s i Qm)
      ⟨(Xd q1),hp3⟩).cast (by omega)
    ·have T5:Qr (dz B rf l s i Qm):=by
      have S0:=hls.2 i h2 (by omega);exact⟨⟨by omega,by omega,(Qs (z:=1) (fun _=>rfl) (by omega))⟩,⟨⟨by omega,by omega,(Qs (z:=1) (fun _=>rfl) (by omega))⟩,⟨(X9 (Int.not_lt.1 q1)),hp3⟩⟩⟩
     by_cases q2:(1000000000:Int)<(Ld (l.getD s.toNat La) i.toNat La)
     ·have S0:=hls.2 i h2 (by omega);exact(GoE.endsT okF hJ Qf Xs (A5 B rf l s i Qm)
       ⟨(Xd q2),T5⟩).cast (by omega)
     ·have S0:=hls.2 i h2 (by omega);exact((ih0 _ (by omega)).2 (s) (i+1) rfl (by with_reducible assumption) (by with_reducible assumption) (by omega)
       (Xs.landM okF hJ Qf (A4 B rf l s i Qm)
       ⟨(QY (by omega) (by omega)),⟨(X9 (Int.not_lt.1 q2)),T5⟩⟩ (by kernel_rfl) (by kernel_rfl))).cast (by rfl)
   ·exact((ih0 _ (by omega)).1 (s+1) rfl (by omega)
     (Xs.landM okF hJ Qf (A3 B rf l s i Qm)
     ⟨(QY (by omega) (by omega)),⟨(X9 (Int.not_lt.1 q0)),Pb⟩⟩ (by kernel_rfl) (by kernel_rfl))).cast (by rfl)
set_option maxHeartbeats 4000000 in
theorem Em(rf:Ql)(l:List (List Int))(hl:PR rf.Qb.length rf.Qd l)(hn:rf.Qb.length<=8)(X2:l.length<=9223372036854775807/\rf.Qb.length<=9223372036854775807){B:Lo}(hJ:∀w,B.has w->J0 w):EndsT YP B (Qp YP 31 54 (([.agg (Qv rf).toArray,Yv l]).map (Q2 0 4))) (.bool true):=by
 have hl1:=hl.1;exact((AB rf l hl hn X2 hJ _).1 (0) rfl (by omega)
  (GoE.start.landM okF hJ Qf (A0 B rf l)
  trivial (by kernel_rfl) (by kernel_rfl))).cast (by rfl)
theorem Dy(rf:Ql)(l:List (List Int))(hl:PR rf.Qb.length rf.Qd l)(hn:rf.Qb.length<=8):Qn YP J0 31 #[.agg (Qv rf).toArray,Yv l] (.bool true):=
 Vd (ts:=[.agg (Qv rf).toArray,Yv l]) (l.length<=9223372036854775807/\rf.Qb.length<=9223372036854775807) (fun _ _ ht=>⟨ht.ln (i:=1) rfl,ht.ln2 (i:=0) (j:=0) rfl rfl⟩) XZ (c0:=Qp YP 31 54 (([.agg (Qv rf).toArray,Yv l]).map (Q2 0 4))) (by kernel_rfl) (by kernel_rfl) fun X2 B hJ=>Em rf l hl hn X2 hJ
section
variable (x_:Qg)(B:Lo)(c0:CF)(rf:Ql)(Qa:List Int)(t:Ze)(st tk lf:Int)(ob:Bool)(i s:Int)(Qm:Nat->Value)
end
end
end Go.Proofs.Ytncjjangllkokaa

namespace Go.Proofs.Ytncjjangllkokaa
open Go Go.CE Go.RowKit
end Go.Proofs.Ytncjjangllkokaa

namespace Go.Proofs.Ytncjjangllkokaa
open Go Go.CE Go.RowKit
set_option maxRecDepth 100000
theorem Al{rf:Ql}{Qa:List Int}{s i:Int}(s0:0<=s)(s1:s<rf.Qd)(i0:0<=i)(i1:i<rf.Qb.length):((QB rf Qa).getD s.toNat La).getD i.toNat La=Qa2 rf Qa s i:=by
 rw[show(QB rf Qa).getD s.toNat La=Sn rf Qa s from XQ s0 s1];exact XQ i0 i1
theorem vx{rf:Ql}{Qa:List Int}{s i:Int}(s0:0<=s)(s1:s<rf.Qd)(i0:0<=i)(i1:i<rf.Qb.length):((QH rf Qa).getD s.toNat La).getD i.toNat La=YJ rf Qa s i:=by
 rw[show(QH rf Qa).getD s.toNat La=X4 rf Qa s from XQ s0 s1];exact XQ i0 i1
theorem PK{rf:Ql}{Qa:List Int}{s:Int}(s0:0<=s)(s1:s<rf.Qd):((QB rf Qa).getD s.toNat La).length=rf.Qb.length/\((QH rf Qa).getD s.toNat La).length=rf.Qb.length:=by
 rw[show(QB rf Qa).getD s.toNat La=Sn rf Qa s from XQ s0 s1,show(QH rf Qa).getD s.toNat La=X4 rf Qa s from XQ s0 s1];exact⟨vG,vE⟩
theorem DG{rf:Ql}{gs ts:List (List Int)}{f:F4}{s i:Int}(h4:rf.Qb.length<=4)(s0:0<=s)(s1:s<rf.Qd)(i0:0<=i)(i1:i<rf.Qb.length):((QW rf.Qd rf.Qb gs ts f).getD s.toNat La).getD i.toNat La=(aH rf.Qb gs ts f (s.toNat+1)).at i:=by
 rw[show(QW rf.Qd rf.Qb gs ts f).getD s.toNat La=mC rf.Qb gs ts f s from XQ s0 s1,sK h4 i0 i1]
end Go.Proofs.Ytncjjangllkokaa

namespace Go.CE
open Go Go.RowKit
section
variable {α β:Type}
variable {P:Program} {kt:TypeId} {ke:α->Value} {ve:β->Value} {eq:α->α->Bool}
end
end Go.CE
namespace Go.CE
open Go Go.RowKit
end Go.CE

namespace Go.Proofs.Ytncjjangllkokaa
open Go Go.CE Go.RowKit
set_option maxRecDepth 100000
end Go.Proofs.Ytncjjangllkokaa

namespace Go.Proofs.Ytncjjangllkokaa
open Go Go.CE Go.RowKit
set_option maxRecDepth 100000
end Go.Proofs.Ytncjjangllkokaa

namespace Go.Proofs.Ytncjjangllkokaa
open Go Go.CE Go.RowKit
set_option maxRecDepth 100000

end Go.Proofs.Ytncjjangllkokaa

