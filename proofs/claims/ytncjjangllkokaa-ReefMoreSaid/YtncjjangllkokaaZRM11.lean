/- Reef: small functions, of the program and the reference. -/
import Derived.Test.YtncjjangllkokaaZRM10
set_option linter.all false
open List renaming getD_eq_getElem?_getD->Ll,getElem?_eq_getElem->LP,replicate->Li,append_assoc->LQ,length_set->Lf,length_replicate->Lh,length->Lc
open Nat renaming strongRecOn->LK,min->LJ
open Int renaming tdiv->Le,tdiv_eq_ediv_of_nonneg->LM
open Array renaming size->LR
open Inhabited renaming default->La
namespace Go.Proofs.Ytncjjangllkokaa
open Go Go.CE Go.RowKit
noncomputable section
def W5(x lo hi:Int):Bool:=decide (lo<=x) && decide (x<=hi)
theorem Ky{x lo hi:Int}:W5 x lo hi=true<->lo<=x/\x<=hi:=by simp[W5]
structure Span where
 lo:Int
 hi:Int
deriving Inhabited
def QN(s:Span):List Value:=[.int .i64 s.lo,.int .i64 s.hi]
abbrev Y3(xs:List Span):Value:=Xq xs.length (Qj QN xs)
def XW(a b lo hi:Int):Bool:=decide (lo<=a) && (decide (a<=b) && decide (b<=hi))
theorem RN{a b lo hi:Int}:XW a b lo hi=true<->lo<=a/\a<=b/\b<=hi:=by simp[XW]
theorem Jp{α:Type}[Inhabited α]{l:List α}{i:Int}{p:α->Bool}(h0:0<=i)(h:i<l.length):(l.drop i.toNat).all p=(p (l.getD i.toNat La) && (l.drop (i+1).toNat).all p):=by
 obtain⟨k,rfl⟩:∃k:Nat,i=k:=⟨i.toNat,by omega⟩
 have hk:k<l.length:=by omega
 have e1:((k:Int)).toNat=k:=by omega
 have e2:((k:Int)+1).toNat=k+1:=by omega
 rw[e1,e2,List.drop_eq_getElem_cons hk,List.all_cons];simp[Ll,hk]
theorem Jo{α:Type}{l:List α}{i:Int}{p:α->Bool}(h:l.length<=i):(l.drop i.toNat).all p=true:=by
 rw[List.drop_eq_nil_of_le (by omega)];rfl
theorem BD{α:Type}[Inhabited α]{l:List α}{i:Int}(h0:0<=i)(h:i<l.length):l.getD i.toNat La∈l:=by
 have hk:i.toNat<l.length:=by omega
 rw[Ll,LP hk];exact List.getElem_mem hk
theorem vO{p:Int->Bool}{a b:Int}(h:(fF a b).all p=true){k:Int}(h1:a<=k)(h2:k<b):p k=true:=by
 refine List.all_eq_true.1 h k ?_;unfold fF;exact List.mem_map.2 ⟨(k-a).toNat,List.mem_range.2 (by omega),by omega⟩
def Yx{α β:Type}(f:α->β)(x0:β)(xs:List α)(i:Int):List β:=(xs.take i.toNat).map f++Li (xs.length-i.toNat) x0
theorem a9{α β:Type}{f:α->β}{x0:β}{xs:List α}:Li xs.length x0=Yx f x0 xs 0:=by simp[Yx]
theorem Js{α β:Type}{f:α->β}{x0:β}{xs:List α}{i:Int}:(Yx f x0 xs i).length=xs.length:=by simp[Yx];omega
theorem Jr{α β:Type}[Inhabited α]{f:α->β}{x0:β}{xs:List α}{i:Int}(h0:0<=i)(h:i<xs.length):(Yx f x0 xs i).set i.toNat (f (xs.getD i.toNat La))=Yx f x0 xs (i+1):=by
 obtain⟨k,rfl⟩:∃k:Nat,i=k:=⟨i.toNat,by omega⟩
 have hk:k<xs.length:=by omega
 have e1:((k:Int)).toNat=k:=by omega
 have e2:((k:Int)+1).toNat=k+1:=by omega
 unfold Yx;rw[e1,e2];have hl:((xs.take k).map f).length=k:=by simp;omega
 rw[List.set_append_right _ _ (by omega),hl,Nat.sub_self];have er:xs.length-k=(xs.length-(k+1))+1:=by omega
 rw[er,List.replicate_succ,List.set_cons_zero];have et:xs.take (k+1)=xs.take k++[xs[k]]:=by rw[List.take_succ_eq_append_getElem hk]
 rw[et,List.map_append,LQ];simp[Ll,hk]
theorem Jt{α β:Type}{f:α->β}{x0:β}{xs:List α}{i:Int}(h:xs.length<=i):Yx f x0 xs i=xs.map f:=by
 unfold Yx;rw[List.take_of_length_le (by omega),show xs.length-i.toNat=0 by omega];simp
theorem Tx{β:Type}{e:β->List Value}{ys zs:List β}{n:Nat}(h:ys=zs)(hn:n=zs.length):Xq n (Qj e ys)=Xq zs.length (Qj e zs):=by subst h hn;rfl
def oE:List Int->Int
 |[]=>0
 |x::l=>x+oE l
def sH(B:Lo)(x lo hi:Int):List Prop:=[(!Z7 x lo)=true]++([]:List Prop)
def Ac(x lo hi:Int):QA:=[(3,V4)]
set_option maxRecDepth 100000 in
theorem Eg(B:Lo)(x lo hi:Int):QS (Q2 YP (QB YP) J0 B 6 1 (Q9 YP 55 15 (([.int .i64 x,.int .i64 lo,.int .i64 hi]).map (QG 0 4))) ZH 1
 (Ac x lo hi++[(7,V4)]) 0 [] []) []=some (.bool true,
 [(!Z7 hi x)=true]++sH B x lo hi):=by kernel_rfl
set_option maxRecDepth 100000 in
theorem Ef(B:Lo)(x lo hi:Int):QS (Q2 YP (QB YP) J0 B 6 1 (Q9 YP 55 15 (([.int .i64 x,.int .i64 lo,.int .i64 hi]).map (QG 0 4))) ZH 1
 (Ac x lo hi++[(7,V5)]) 0 [] []) []=some (.bool false,
 [(!Z7 hi x)=false]++sH B x lo hi):=by kernel_rfl
set_option maxRecDepth 100000 in
theorem Ee(B:Lo)(x lo hi:Int):QS (Q2 YP (QB YP) J0 B 6 1 (Q9 YP 55 15 (([.int .i64 x,.int .i64 lo,.int .i64 hi]).map (QG 0 4))) ZH 1
 [(3,V5)] 0 [] []) []=some (.bool false,
 [(!Z7 x lo)=false]):=by kernel_rfl
set_option maxHeartbeats 4000000 in
theorem Fa(x lo hi:Int)  {B:Lo}(hJ:∀w,B.has w->J0 w):EndsT YP B (Q9 YP 55 15 (([.int .i64 x,.int .i64 lo,.int .i64 hi]).map (QG 0 4))) (.bool (W5 x lo hi)):=by
 by_cases q0:(lo:Int)<=(x)
 ·have UX:Q3 (sH B x lo hi):=by
   exact⟨(Uf q0),trivial⟩
  by_cases q1:(x:Int)<=(hi)
  ·exact(GoE.endsT okF hJ Qi GoE.start (Eg B x lo hi)
    ⟨(Uf q1),UX⟩).cast (by first|rfl|(simp[W5, *];done)|(simp_all[W5];done)|(simp_all[W5];omega))
  ·exact(GoE.endsT okF hJ Qi GoE.start (Ef B x lo hi)
    ⟨(Ug (Int.not_le.1 q1)),UX⟩).cast (by first|rfl|(simp[W5, *];done)|(simp_all[W5];done)|(simp_all[W5];omega))
 ·exact(GoE.endsT okF hJ Qi GoE.start (Ee B x lo hi)
   ⟨(Ug (Int.not_le.1 q0)),trivial⟩).cast (by first|rfl|(simp[W5, *];done)|(simp_all[W5];done)|(simp_all[W5];omega))
theorem l9(x lo hi:Int)  :Qz YP J0 55 #[.int .i64 x,.int .i64 lo,.int .i64 hi] (.bool (W5 x lo hi)):=
 X8 (ts:=[.int .i64 x,.int .i64 lo,.int .i64 hi]) ZC (c0:=Q9 YP 55 15 (([.int .i64 x,.int .i64 lo,.int .i64 hi]).map (QG 0 4))) (by kernel_rfl) (by kernel_rfl) fun B hJ=>Fa x lo hi  hJ
def ga(B:Lo)(a b Zw:Int):List Prop:=[(!Z7 a 0)=true]++([]:List Prop)
def oU(a b Zw:Int):QA:=[(4,V4)]
def fZ(B:Lo)(a b Zw:Int):List Prop:=[(!Z7 b a)=true]++ga B a b Zw
def oT(a b Zw:Int):QA:=oU a b Zw++[(10,V4)]
set_option maxRecDepth 100000 in
theorem Ah(B:Lo)(a b Zw:Int):QS (Q2 YP (QB YP) J0 B 6 1 (Q9 YP 56 21 (([.agg #[.int .i64 a,.int .i64 b],.int .i64 Zw]).map (QG 0 4))) ZH 1
 (oT a b Zw++[(16,V4)]) 0 [] []) []=some (.bool true,
 [(!Z7 Zw b)=true]++fZ B a b Zw):=by kernel_rfl
set_option maxRecDepth 100000 in
theorem Ag(B:Lo)(a b Zw:Int):QS (Q2 YP (QB YP) J0 B 6 1 (Q9 YP 56 21 (([.agg #[.int .i64 a,.int .i64 b],.int .i64 Zw]).map (QG 0 4))) ZH 1
 (oT a b Zw++[(16,V5)]) 0 [] []) []=some (.bool false,
 [(!Z7 Zw b)=false]++fZ B a b Zw):=by kernel_rfl
set_option maxRecDepth 100000 in
theorem Af(B:Lo)(a b Zw:Int):QS (Q2 YP (QB YP) J0 B 6 1 (Q9 YP 56 21 (([.agg #[.int .i64 a,.int .i64 b],.int .i64 Zw]).map (QG 0 4))) ZH 1
 (oU a b Zw++[(10,V5)]) 0 [] []) []=some (.bool false,
 [(!Z7 b a)=false]++ga B a b Zw):=by kernel_rfl
set_option maxRecDepth 100000 in
theorem Ae(B:Lo)(a b Zw:Int):QS (Q2 YP (QB YP) J0 B 6 1 (Q9 YP 56 21 (([.agg #[.int .i64 a,.int .i64 b],.int .i64 Zw]).map (QG 0 4))) ZH 1
 [(4,V5)] 0 [] []) []=some (.bool false,
 [(!Z7 a 0)=false]):=by kernel_rfl
set_option maxHeartbeats 4000000 in
theorem C3(a b Zw:Int)  {B:Lo}(hJ:∀w,B.has w->J0 w):EndsT YP B (Q9 YP 56 21 (([.agg #[.int .i64 a,.int .i64 b],.int .i64 Zw]).map (QG 0 4))) (.bool (XW a b 0 Zw)):=by
 by_cases q0:(0:Int)<=(a)
 ·have UX:Q3 (ga B a b Zw):=by
   exact⟨(Uf q0),trivial⟩
  by_cases q1:(a:Int)<=(b)
  ·have hp1:Q3 (fZ B a b Zw):=by
    exact⟨(Uf q1),UX⟩
   by_cases q2:(b:Int)<=(Zw)
   ·exact(GoE.endsT okF hJ Qi GoE.start (Ah B a b Zw)
     ⟨(Uf q2),hp1⟩).cast (by first|rfl|(simp[XW, *];done)|(simp_all[XW];done)|(simp_all[XW];omega))
   ·exact(GoE.endsT okF hJ Qi GoE.start (Ag B a b Zw)
     ⟨(Ug (Int.not_le.1 q2)),hp1⟩).cast (by first|rfl|(simp[XW, *];done)|(simp_all[XW];done)|(simp_all[XW];omega))
  ·exact(GoE.endsT okF hJ Qi GoE.start (Af B a b Zw)
    ⟨(Ug (Int.not_le.1 q1)),UX⟩).cast (by first|rfl|(simp[XW, *];done)|(simp_all[XW];done)|(simp_all[XW];omega))
 ·exact(GoE.endsT okF hJ Qi GoE.start (Ae B a b Zw)
   ⟨(Ug (Int.not_le.1 q0)),trivial⟩).cast (by first|rfl|(simp[XW, *];done)|(simp_all[XW];done)|(simp_all[XW];omega))
theorem lC(a b Zw:Int)  :Qz YP J0 56 #[.agg #[.int .i64 a,.int .i64 b],.int .i64 Zw] (.bool (XW a b 0 Zw)):=
 X8 (ts:=[.agg #[.int .i64 a,.int .i64 b],.int .i64 Zw]) ZC (c0:=Q9 YP 56 21 (([.agg #[.int .i64 a,.int .i64 b],.int .i64 Zw]).map (QG 0 4))) (by kernel_rfl) (by kernel_rfl) fun B hJ=>C3 a b Zw  hJ
def tL(B:Lo)(n lo hi:Int):List Prop:=[(!Z7 n lo)=true]++([]:List Prop)
def Bd(n lo hi:Int):QA:=[(3,V4)]
set_option maxRecDepth 100000 in
theorem Ex(B:Lo)(n lo hi:Int):QS (Q2 YP (QB YP) J0 B 6 1 (Q9 YP 72 15 (([.int .i64 n,.int .i64 lo,.int .i64 hi]).map (QG 0 4))) ZH 1
 (Bd n lo hi++[(7,V4)]) 0 [] []) []=some (.bool true,
 [(!Z7 hi n)=true]++tL B n lo hi):=by kernel_rfl
set_option maxRecDepth 100000 in
theorem Ew(B:Lo)(n lo hi:Int):QS (Q2 YP (QB YP) J0 B 6 1 (Q9 YP 72 15 (([.int .i64 n,.int .i64 lo,.int .i64 hi]).map (QG 0 4))) ZH 1
 (Bd n lo hi++[(7,V5)]) 0 [] []) []=some (.bool false,
 [(!Z7 hi n)=false]++tL B n lo hi):=by kernel_rfl
set_option maxRecDepth 100000 in
theorem Ev(B:Lo)(n lo hi:Int):QS (Q2 YP (QB YP) J0 B 6 1 (Q9 YP 72 15 (([.int .i64 n,.int .i64 lo,.int .i64 hi]).map (QG 0 4))) ZH 1
 [(3,V5)] 0 [] []) []=some (.bool false,
 [(!Z7 n lo)=false]):=by kernel_rfl
set_option maxHeartbeats 4000000 in
theorem Fo(n lo hi:Int)  {B:Lo}(hJ:∀w,B.has w->J0 w):EndsT YP B (Q9 YP 72 15 (([.int .i64 n,.int .i64 lo,.int .i64 hi]).map (QG 0 4))) (.bool (W5 n lo hi)):=by
 by_cases q0:(lo:Int)<=(n)
 ·have UX:Q3 (tL B n lo hi):=by
   exact⟨(Uf q0),trivial⟩
  by_cases q1:(n:Int)<=(hi)
  ·exact(GoE.endsT okF hJ Qi GoE.start (Ex B n lo hi)
    ⟨(Uf q1),UX⟩).cast (by first|rfl|(simp[W5, *];done)|(simp_all[W5];done)|(simp_all[W5];omega))
  ·exact(GoE.endsT okF hJ Qi GoE.start (Ew B n lo hi)
    ⟨(Ug (Int.not_le.1 q1)),UX⟩).cast (by first|rfl|(simp[W5, *];done)|(simp_all[W5];done)|(simp_all[W5];omega))
 ·exact(GoE.endsT okF hJ Qi GoE.start (Ev B n lo hi)
   ⟨(Ug (Int.not_le.1 q0)),trivial⟩).cast (by first|rfl|(simp[W5, *];done)|(simp_all[W5];done)|(simp_all[W5];omega))
theorem sf(n lo hi:Int)  :Qz YP J0 72 #[.int .i64 n,.int .i64 lo,.int .i64 hi] (.bool (W5 n lo hi)):=
 X8 (ts:=[.int .i64 n,.int .i64 lo,.int .i64 hi]) ZC (c0:=Q9 YP 72 15 (([.int .i64 n,.int .i64 lo,.int .i64 hi]).map (QG 0 4))) (by kernel_rfl) (by kernel_rfl) fun B hJ=>Fo n lo hi  hJ
def KG(xs:List Int)(lo hi:Int)(i:Int):List Value:=[.int .i64 lo,.int .i64 hi,QF 1 (Xq xs.length (Qj Xl xs)),.int .i64 (↑xs.length:Int),.int .i64 i]
def Ve(xs:List Int)(lo hi:Int)(i:Int):List Obj:=[]
def KH:List Item:=([.code [1,0,1,0,0],.inLoop [1,0,1,0,0],.inBlock 0,.code [1,1]]).map (it (Xt YP 74))
def yT(B:Lo)(c0:CF)(xs:List Int)(lo hi:Int)(i:Int):Prop:=∃dJ:Nat->Value,(∀t,Zf (dJ t))/\GoE YP B c0 ZH 1 (QJ 74 21 (([1,2,9,10,11]:List Nat).zip (KG xs lo hi i)) dJ KH) (QI (Ve xs lo hi i)) (2+(Ve xs lo hi i).length) []
def lY(xs:List Int)(lo hi:Int)(i:Int):Array Value:=#[.int .i64 (xs.getD i.toNat La),.int .i64 lo,.int .i64 hi]
def cq(B:Lo)(xs:List Int)(lo hi:Int)(i:Int)(Qr:Nat->Value):List Prop:=[Vj i xs.length (Qj Xl xs) Try.t3.size #[.int .i64 (xs.getD i.toNat La)],Z7 i (↑xs.length:Int)=true]++([]:List Prop)
def lZ(xs:List Int)(lo hi:Int)(i:Int)(Qr:Nat->Value):QA:=[(0,V4),(1,Qu.tidx i.toNat #[.int .i64 (xs.getD i.toNat La)])]
set_option maxRecDepth 100000 in
theorem yR(B:Lo)(xs:List Int)(lo hi:Int)(i:Int)(Qr:Nat->Value):landM (Q2 YP (QB YP) J0 B 16 1 (QJ 74 21 (([1,2,9,10,11]:List Nat).zip (KG xs lo hi i)) Qr KH) (QI (Ve xs lo hi i)) (2+(Ve xs lo hi i).length)
 (lZ xs lo hi i Qr++[(7,Qu.pure (.bool true) []),(9,UW (i+1))]) 0 [] []) [1,2,9,10,11] [] []=some ⟨74,21,KH,[],.run,none,KG xs lo hi (i+1),Ve xs lo hi (i+1),
 [wq (i+1)=i+1,Q3 []/\Qz YP J0 72 (lY xs lo hi i) (.bool true)]++cq B xs lo hi i Qr⟩:=by kernel_rfl
set_option maxRecDepth 100000 in
theorem yQ(B:Lo)(xs:List Int)(lo hi:Int)(i:Int)(Qr:Nat->Value):QS (Q2 YP (QB YP) J0 B 16 1 (QJ 74 21 (([1,2,9,10,11]:List Nat).zip (KG xs lo hi i)) Qr KH) (QI (Ve xs lo hi i)) (2+(Ve xs lo hi i).length)
 (lZ xs lo hi i Qr++[(7,Qu.pure (.bool false) [])]) 0 [] []) []=some (.bool false,
 [Q3 []/\Qz YP J0 72 (lY xs lo hi i) (.bool false)]++cq B xs lo hi i Qr):=by kernel_rfl
set_option maxRecDepth 100000 in
theorem yP(B:Lo)(xs:List Int)(lo hi:Int)(i:Int)(Qr:Nat->Value):QS (Q2 YP (QB YP) J0 B 9 1 (QJ 74 21 (([1,2,9,10,11]:List Nat).zip (KG xs lo hi i)) Qr KH) (QI (Ve xs lo hi i)) (2+(Ve xs lo hi i).length)
 [(0,V5)] 0 [] []) []=some (.bool true,
 [Z7 i (↑xs.length:Int)=false]):=by kernel_rfl
set_option maxRecDepth 100000 in
theorem yO(B:Lo)(xs:List Int)(lo hi:Int):landM (Q2 YP (QB YP) J0 B 7 1 (Q9 YP 74 21 (([Zu xs,.int .i64 lo,.int .i64 hi]).map (QG 0 4))) ZH 1
 [] 0 [] []) [1,2,9,10,11] [] []=some ⟨74,21,KH,[],.run,none,KG xs lo hi (0),Ve xs lo hi (0),
 []⟩:=by kernel_rfl
set_option maxHeartbeats 4000000 in
theorem yS(xs:List Int)(lo hi:Int)  (Zb:xs.length<=9223372036854775807){B:Lo}(hJ:∀w,B.has w->J0 w){c0:CF}:∀m:Nat,(∀(i:Int),xs.length-i.toNat=m->∀(h0:0<=i),yT B c0 xs lo hi i->EndsT YP B c0 (.bool ((xs.drop i.toNat).all (fun x=>W5 x lo hi)))):=by
 intro m0;induction m0 using LK with
 |_ m0 ih0=>
  intro i hm0 h0 ⟨Qr,Jn,X7⟩;by_cases q0:(i:Int)<((↑xs.length:Int))
  ·have UX:Q3 (cq B xs lo hi i Qr):=by
    exact⟨⟨by omega,by omega,(QW (z:=1) (fun _=>rfl) (by first|omega|(rw[Lf];omega)|(rw[Lh];omega)))⟩,⟨(Z3 q0),trivial⟩⟩
   cases q1:W5 (xs.getD i.toNat La) lo hi with
   |true=>
    exact((ih0 _ (by omega)) (i+1) rfl (by first|with_reducible assumption|omega|(simp_all;done))
     (X7.landM okF hJ Qi (yR B xs lo hi i Qr)
     ⟨(XX (by omega) (by omega)),⟨⟨trivial,(by have t_:=sf (xs.getD i.toNat La) (lo) (hi);rw[q1]at t_;exact t_)⟩,UX⟩⟩ (by kernel_rfl) (by kernel_rfl))).cast (by first|(rw[jW (i:=i)];(· simp_all);(· omega);(· omega))|(rw[jV (i:=i)];(· simp_all);(· omega)))
   |false=>
    exact(GoE.endsT okF hJ Qi X7 (yQ B xs lo hi i Qr)
     ⟨⟨trivial,(by have t_:=sf (xs.getD i.toNat La) (lo) (hi);rw[q1]at t_;exact t_)⟩,UX⟩).cast (by first|(rw[jW (i:=i)];(· simp_all);(· omega);(· omega))|(rw[jV (i:=i)];(· simp_all);(· omega)))
  ·exact(GoE.endsT okF hJ Qi X7 (yP B xs lo hi i Qr)
    ⟨(Z4 (Int.not_lt.1 q0)),trivial⟩).cast (by first|(rw[jW (i:=i)];(· simp_all);(· omega);(· omega))|(rw[jV (i:=i)];(· simp_all);(· omega)))
set_option maxHeartbeats 4000000 in
theorem Bi(xs:List Int)(lo hi:Int)  (Zb:xs.length<=9223372036854775807){B:Lo}(hJ:∀w,B.has w->J0 w):EndsT YP B (Q9 YP 74 21 (([Zu xs,.int .i64 lo,.int .i64 hi]).map (QG 0 4))) (.bool (xs.all (fun x=>W5 x lo hi))):=by
 exact((yS xs lo hi Zb hJ _) (0) rfl (by first|with_reducible assumption|omega|(simp_all;done))
  (GoE.start.landM okF hJ Qi (yO B xs lo hi)
  trivial (by kernel_rfl) (by kernel_rfl))).cast (by first|rfl|(simp[*];done)|(simp_all[];done)|(simp_all[];omega))
theorem Bj(xs:List Int)(lo hi:Int)  :Qz YP J0 74 #[Zu xs,.int .i64 lo,.int .i64 hi] (.bool (xs.all (fun x=>W5 x lo hi))):=
 Uk (ts:=[Zu xs,.int .i64 lo,.int .i64 hi]) (xs.length<=9223372036854775807) (fun _ _ ht=>ht.ln (i:=0) rfl) ZC (c0:=Q9 YP 74 21 (([Zu xs,.int .i64 lo,.int .i64 hi]).map (QG 0 4))) (by kernel_rfl) (by kernel_rfl) fun Zb B hJ=>Bi xs lo hi  Zb hJ
def JS(B:Lo)(a b lo hi:Int):List Prop:=[(!Z7 a lo)=true]++([]:List Prop)
def TJ(a b lo hi:Int):QA:=[(5,V4)]
def JR(B:Lo)(a b lo hi:Int):List Prop:=[(!Z7 b a)=true]++JS B a b lo hi
def TI(a b lo hi:Int):QA:=TJ a b lo hi++[(11,V4)]
set_option maxRecDepth 100000 in
theorem nh(B:Lo)(a b lo hi:Int):QS (Q2 YP (QB YP) J0 B 6 1 (Q9 YP 114 24 (([.agg #[.int .i64 a,.int .i64 b],.int .i64 lo,.int .i64 hi]).map (QG 0 4))) ZH 1
 (TI a b lo hi++[(17,V4)]) 0 [] []) []=some (.bool true,
 [(!Z7 hi b)=true]++JR B a b lo hi):=by kernel_rfl
set_option maxRecDepth 100000 in
theorem ng(B:Lo)(a b lo hi:Int):QS (Q2 YP (QB YP) J0 B 6 1 (Q9 YP 114 24 (([.agg #[.int .i64 a,.int .i64 b],.int .i64 lo,.int .i64 hi]).map (QG 0 4))) ZH 1
 (TI a b lo hi++[(17,V5)]) 0 [] []) []=some (.bool false,
 [(!Z7 hi b)=false]++JR B a b lo hi):=by kernel_rfl
set_option maxRecDepth 100000 in
theorem nf(B:Lo)(a b lo hi:Int):QS (Q2 YP (QB YP) J0 B 6 1 (Q9 YP 114 24 (([.agg #[.int .i64 a,.int .i64 b],.int .i64 lo,.int .i64 hi]).map (QG 0 4))) ZH 1
 (TJ a b lo hi++[(11,V5)]) 0 [] []) []=some (.bool false,
 [(!Z7 b a)=false]++JS B a b lo hi):=by kernel_rfl
set_option maxRecDepth 100000 in
theorem nc(B:Lo)(a b lo hi:Int):QS (Q2 YP (QB YP) J0 B 6 1 (Q9 YP 114 24 (([.agg #[.int .i64 a,.int .i64 b],.int .i64 lo,.int .i64 hi]).map (QG 0 4))) ZH 1
 [(5,V5)] 0 [] []) []=some (.bool false,
 [(!Z7 a lo)=false]):=by kernel_rfl
set_option maxHeartbeats 4000000 in
theorem qb(a b lo hi:Int)  {B:Lo}(hJ:∀w,B.has w->J0 w):EndsT YP B (Q9 YP 114 24 (([.agg #[.int .i64 a,.int .i64 b],.int .i64 lo,.int .i64 hi]).map (QG 0 4))) (.bool (XW a b lo hi)):=by
 by_cases q0:(lo:Int)<=(a)
 ·have UX:Q3 (JS B a b lo hi):=by
   exact⟨(Uf q0),trivial⟩
  by_cases q1:(a:Int)<=(b)
  ·have hp1:Q3 (JR B a b lo hi):=by
    exact⟨(Uf q1),UX⟩
   by_cases q2:(b:Int)<=(hi)
   ·exact(GoE.endsT okF hJ Qi GoE.start (nh B a b lo hi)
     ⟨(Uf q2),hp1⟩).cast (by first|rfl|(simp[XW, *];done)|(simp_all[XW];done)|(simp_all[XW];omega))
   ·exact(GoE.endsT okF hJ Qi GoE.start (ng B a b lo hi)
     ⟨(Ug (Int.not_le.1 q2)),hp1⟩).cast (by first|rfl|(simp[XW, *];done)|(simp_all[XW];done)|(simp_all[XW];omega))
  ·exact(GoE.endsT okF hJ Qi GoE.start (nf B a b lo hi)
    ⟨(Ug (Int.not_le.1 q1)),UX⟩).cast (by first|rfl|(simp[XW, *];done)|(simp_all[XW];done)|(simp_all[XW];omega))
 ·exact(GoE.endsT okF hJ Qi GoE.start (nc B a b lo hi)
   ⟨(Ug (Int.not_le.1 q0)),trivial⟩).cast (by first|rfl|(simp[XW, *];done)|(simp_all[XW];done)|(simp_all[XW];omega))
theorem lU(a b lo hi:Int)  :Qz YP J0 114 #[.agg #[.int .i64 a,.int .i64 b],.int .i64 lo,.int .i64 hi] (.bool (XW a b lo hi)):=
 X8 (ts:=[.agg #[.int .i64 a,.int .i64 b],.int .i64 lo,.int .i64 hi]) ZC (c0:=Q9 YP 114 24 (([.agg #[.int .i64 a,.int .i64 b],.int .i64 lo,.int .i64 hi]).map (QG 0 4))) (by kernel_rfl) (by kernel_rfl) fun B hJ=>qb a b lo hi  hJ
def ij(a b Zw:Int):Array Value:=#[.agg #[.int .i64 a,.int .i64 b],.int .i64 0,.int .i64 Zw]
set_option maxRecDepth 100000 in
theorem tK(B:Lo)(a b Zw:Int):QS (Q2 YP (QB YP) J0 B 6 1 (Q9 YP 96 8 (([.agg #[.int .i64 a,.int .i64 b],.int .i64 Zw]).map (QG 0 4))) ZH 1
 [(4,Qu.pure (.bool true) [])] 0 [] []) []=some (.bool true,
 [Q3 []/\Qz YP J0 114 (ij a b Zw) (.bool true)]):=by kernel_rfl
set_option maxRecDepth 100000 in
theorem tJ(B:Lo)(a b Zw:Int):QS (Q2 YP (QB YP) J0 B 6 1 (Q9 YP 96 8 (([.agg #[.int .i64 a,.int .i64 b],.int .i64 Zw]).map (QG 0 4))) ZH 1
 [(4,Qu.pure (.bool false) [])] 0 [] []) []=some (.bool false,
 [Q3 []/\Qz YP J0 114 (ij a b Zw) (.bool false)]):=by kernel_rfl
set_option maxHeartbeats 4000000 in
theorem y7(a b Zw:Int)  {B:Lo}(hJ:∀w,B.has w->J0 w):EndsT YP B (Q9 YP 96 8 (([.agg #[.int .i64 a,.int .i64 b],.int .i64 Zw]).map (QG 0 4))) (.bool (XW a b 0 Zw)):=by
 cases q0:XW a b 0 Zw with
 |true=>
  exact(GoE.endsT okF hJ Qi GoE.start (tK B a b Zw)
   ⟨⟨trivial,(by have t_:=lU (a) (b) (0) (Zw);rw[q0]at t_;exact t_)⟩,trivial⟩).cast (by first|rfl|(simp[XW, *];done)|(simp_all[XW];done)|(simp_all[XW];omega))
 |false=>
  exact(GoE.endsT okF hJ Qi GoE.start (tJ B a b Zw)
   ⟨⟨trivial,(by have t_:=lU (a) (b) (0) (Zw);rw[q0]at t_;exact t_)⟩,trivial⟩).cast (by first|rfl|(simp[XW, *];done)|(simp_all[XW];done)|(simp_all[XW];omega))
theorem Sc(a b Zw:Int)  :Qz YP J0 96 #[.agg #[.int .i64 a,.int .i64 b],.int .i64 Zw] (.bool (XW a b 0 Zw)):=
 X8 (ts:=[.agg #[.int .i64 a,.int .i64 b],.int .i64 Zw]) ZC (c0:=Q9 YP 96 8 (([.agg #[.int .i64 a,.int .i64 b],.int .i64 Zw]).map (QG 0 4))) (by kernel_rfl) (by kernel_rfl) fun B hJ=>y7 a b Zw  hJ
set_option maxRecDepth 100000 in
theorem Be(B:Lo)(a b:Int):QS (Q2 YP (QB YP) J0 B 6 1 (Q9 YP 77 5 (([.agg #[.int .i64 a,.int .i64 b]]).map (QG 0 4))) ZH 1
 [] 0 [] []) []=some (.int .i64 b,
 []):=by kernel_rfl
set_option maxHeartbeats 4000000 in
theorem CY(a b:Int)  {B:Lo}(hJ:∀w,B.has w->J0 w):EndsT YP B (Q9 YP 77 5 (([.agg #[.int .i64 a,.int .i64 b]]).map (QG 0 4))) (.int .i64 b):=by
 exact(GoE.endsT okF hJ Qi GoE.start (Be B a b)
  trivial).cast (by first|rfl|(simp[*];done)|(simp_all[];done)|(simp_all[];omega))
theorem Fp(a b:Int)  :Qz YP J0 77 #[.agg #[.int .i64 a,.int .i64 b]] (.int .i64 b):=
 X8 (ts:=[.agg #[.int .i64 a,.int .i64 b]]) ZC (c0:=Q9 YP 77 5 (([.agg #[.int .i64 a,.int .i64 b]]).map (QG 0 4))) (by kernel_rfl) (by kernel_rfl) fun B hJ=>CY a b  hJ
set_option maxRecDepth 100000 in
theorem CX(B:Lo)(a b:Int):QS (Q2 YP (QB YP) J0 B 6 1 (Q9 YP 76 5 (([.agg #[.int .i64 a,.int .i64 b]]).map (QG 0 4))) ZH 1
 [] 0 [] []) []=some (.int .i64 a,
 []):=by kernel_rfl
set_option maxHeartbeats 4000000 in
theorem Eu(a b:Int)  {B:Lo}(hJ:∀w,B.has w->J0 w):EndsT YP B (Q9 YP 76 5 (([.agg #[.int .i64 a,.int .i64 b]]).map (QG 0 4))) (.int .i64 a):=by
 exact(GoE.endsT okF hJ Qi GoE.start (CX B a b)
  trivial).cast (by first|rfl|(simp[*];done)|(simp_all[];done)|(simp_all[];omega))
theorem FP(a b:Int)  :Qz YP J0 76 #[.agg #[.int .i64 a,.int .i64 b]] (.int .i64 a):=
 X8 (ts:=[.agg #[.int .i64 a,.int .i64 b]]) ZC (c0:=Q9 YP 76 5 (([.agg #[.int .i64 a,.int .i64 b]]).map (QG 0 4))) (by kernel_rfl) (by kernel_rfl) fun B hJ=>Eu a b  hJ
set_option maxRecDepth 100000 in
theorem Bb(B:Lo)(a r:Int):QS (Q2 YP (QB YP) J0 B 6 1 (Q9 YP 115 9 (([.int .i64 a,.int .i64 r]).map (QG 0 4))) ZH 1
 [(3,UW (a*r)),(4,UW (Le (a*r) 1000))] 0 [] []) []=some (.int .i64 (Le (a*r) 1000),
 [IntKind.wrap .i64 (Le (a*r) 1000)=Le (a*r) 1000,wq (a*r)=a*r]):=by kernel_rfl
set_option maxHeartbeats 4000000 in
theorem CW(a r:Int)(ha:0<=a/\a<=1000000000000)(hr:0<=r/\r<=1000000){B:Lo}(hJ:∀w,B.has w->J0 w):EndsT YP B (Q9 YP 115 9 (([.int .i64 a,.int .i64 r]).map (QG 0 4))) (.int .i64 ((a*r).tdiv 1000)):=by
 have e0:0<=a*r:=Int.mul_nonneg ha.1 hr.1;have e1:a*r<=1000000000000*1000000:=Int.mul_le_mul ha.2 hr.2 hr.1 (by omega);have e2:(a*r).tdiv 1000=(a*r) / 1000:=LM e0;exact(GoE.endsT okF hJ Qi GoE.start (Bb B a r)
  ⟨(PS (by omega) (by omega)),⟨(XX (by omega) (by omega)),trivial⟩⟩).cast (by first|rfl|(simp[*];done)|(simp_all[];done)|(simp_all[];omega))
theorem Bc(a r:Int)(ha:0<=a/\a<=1000000000000)(hr:0<=r/\r<=1000000):Qz YP J0 115 #[.int .i64 a,.int .i64 r] (.int .i64 ((a*r).tdiv 1000)):=
 X8 (ts:=[.int .i64 a,.int .i64 r]) ZC (c0:=Q9 YP 115 9 (([.int .i64 a,.int .i64 r]).map (QG 0 4))) (by kernel_rfl) (by kernel_rfl) fun B hJ=>CW a r ha hr hJ
set_option maxRecDepth 100000 in
theorem kE(B:Lo)(a r:Int):QS (Q2 YP (QB YP) J0 B 6 1 (Q9 YP 100 10 (([.int .i64 a,.int .i64 r]).map (QG 0 4))) ZH 1
 [(4,Qu.pure (.int .i64 (Le (a*r) 1000)) []),(5,UW (a+Le (a*r) 1000))] 0 [] []) []=some (.int .i64 (a+Le (a*r) 1000),
 [wq (a+Le (a*r) 1000)=a+Le (a*r) 1000,Q3 []/\Qz YP J0 115 #[.int .i64 a,.int .i64 r] (.int .i64 (Le (a*r) 1000))]):=by kernel_rfl
set_option maxHeartbeats 4000000 in
theorem mU(a r:Int)(ha:0<=a/\a<=1000000000000)(hr:0<=r/\r<=1000000){B:Lo}(hJ:∀w,B.has w->J0 w):EndsT YP B (Q9 YP 100 10 (([.int .i64 a,.int .i64 r]).map (QG 0 4))) (.int .i64 (a+(a*r).tdiv 1000)):=by
 have e0:0<=a*r:=Int.mul_nonneg ha.1 hr.1;have e1:a*r<=1000000000000*1000000:=Int.mul_le_mul ha.2 hr.2 hr.1 (by omega);have e2:(a*r).tdiv 1000=(a*r) / 1000:=LM e0;exact(GoE.endsT okF hJ Qi GoE.start (kE B a r)
  ⟨(XX (by omega) (by omega)),⟨⟨trivial,Bc (a) (r) (by first|with_reducible assumption|omega|simp_all) (by first|with_reducible assumption|omega|simp_all)⟩,trivial⟩⟩).cast (by first|rfl|(simp[*];done)|(simp_all[];done)|(simp_all[];omega))
theorem tc(a r:Int)(ha:0<=a/\a<=1000000000000)(hr:0<=r/\r<=1000000):Qz YP J0 100 #[.int .i64 a,.int .i64 r] (.int .i64 (a+(a*r).tdiv 1000)):=
 X8 (ts:=[.int .i64 a,.int .i64 r]) ZC (c0:=Q9 YP 100 10 (([.int .i64 a,.int .i64 r]).map (QG 0 4))) (by kernel_rfl) (by kernel_rfl) fun B hJ=>mU a r ha hr hJ
def dq(n:Int):Array Value:=#[.int .i64 n,.int .i64 0,.int .i64 1000000]
set_option maxRecDepth 100000 in
theorem qa(B:Lo)(n:Int):QS (Q2 YP (QB YP) J0 B 6 1 (Q9 YP 95 5 (([.int .i64 n]).map (QG 0 4))) ZH 1
 [(2,Qu.pure (.bool true) [])] 0 [] []) []=some (.bool true,
 [Q3 []/\Qz YP J0 72 (dq n) (.bool true)]):=by kernel_rfl
set_option maxRecDepth 100000 in
theorem pZ(B:Lo)(n:Int):QS (Q2 YP (QB YP) J0 B 6 1 (Q9 YP 95 5 (([.int .i64 n]).map (QG 0 4))) ZH 1
 [(2,Qu.pure (.bool false) [])] 0 [] []) []=some (.bool false,
 [Q3 []/\Qz YP J0 72 (dq n) (.bool false)]):=by kernel_rfl
set_option maxHeartbeats 4000000 in
theorem tF(n:Int)  {B:Lo}(hJ:∀w,B.has w->J0 w):EndsT YP B (Q9 YP 95 5 (([.int .i64 n]).map (QG 0 4))) (.bool (W5 n 0 1000000)):=by
 cases q0:W5 n 0 1000000 with
 |true=>
  exact(GoE.endsT okF hJ Qi GoE.start (qa B n)
   ⟨⟨trivial,(by have t_:=sf (n) (0) (1000000);rw[q0]at t_;exact t_)⟩,trivial⟩).cast (by first|rfl|(simp[*];done)|(simp_all[];done)|(simp_all[];omega))
 |false=>
  exact(GoE.endsT okF hJ Qi GoE.start (pZ B n)
   ⟨⟨trivial,(by have t_:=sf (n) (0) (1000000);rw[q0]at t_;exact t_)⟩,trivial⟩).cast (by first|rfl|(simp[*];done)|(simp_all[];done)|(simp_all[];omega))
theorem YZ(n:Int)  :Qz YP J0 95 #[.int .i64 n] (.bool (W5 n 0 1000000)):=
 X8 (ts:=[.int .i64 n]) ZC (c0:=Q9 YP 95 5 (([.int .i64 n]).map (QG 0 4))) (by kernel_rfl) (by kernel_rfl) fun B hJ=>tF n  hJ
end
end Go.Proofs.Ytncjjangllkokaa

namespace Go.Proofs.Ytncjjangllkokaa
open Go Go.CE Go.RowKit
noncomputable section
set_option maxRecDepth 100000
structure Qe where
 count:Int
 room:Int
 glo:Int
 ghi:Int
 drift:Int
 into:Int
 olo:Int
 ohi:Int
 slo:Int
 shi:Int
 goal:Int
 worth:Int
deriving Inhabited
structure Qk where
 Qb:List Qe
 miss:Int
 seasons:Int
deriving Inhabited
def Qf(c:Qe):List Value:=[.int .i64 c.count,.int .i64 c.room,.int .i64 c.glo,.int .i64 c.ghi,.int .i64 c.drift,.int .i64 c.into,.int .i64 c.olo,.int .i64 c.ohi,.int .i64 c.slo,.int .i64 c.shi,.int .i64 c.goal,.int .i64 c.worth]
abbrev Pg(xs:List Qe):Value:=Xq xs.length (Qj Qf xs)
def QM(r:Qk):List Value:=[Pg r.Qb,.int .i64 r.miss,.int .i64 r.seasons]
def XI(x:Qe):Bool:=W5 x.count 0 1000000 && (W5 x.room 0 1000000 && (W5 x.goal 0 1000000 && (W5 x.worth 0 1000000 && (XW x.glo x.ghi 0 2000 && (W5 x.drift 0 1000 && (XW x.olo x.ohi 0 1000000 && (XW x.slo x.shi 0 1000000 && (decide (x.slo<=x.olo) && decide (x.shi<=x.ohi)))))))))
def Kt(n v:Int):Bool:=decide (v= -1) || W5 v 0 (n-1)
theorem Dl{n v:Int}(h:0<=n):W5 v (-1) (n-1)=Kt n v:=by
 unfold Kt W5;by_cases e:v= -1
 ·subst e;simp;omega
 ·simp[e];by_cases h1:0<=v
  ·simp[h1];omega
  ·have:¬(-1<=v):=by omega
   simp[this,h1]
def Zs(n i:Int)(x:Qe):Bool:=XI x && (Kt n x.into && !decide (x.into=i))
def Kx(ps:List Qe)(i:Int):Bool:=(fF i ps.length).all fun k=>Zs ps.length k (ps.getD k.toNat La)
def Kq(r:Qk):Bool:=W5 r.Qb.length 1 4 && (W5 r.miss 0 2000 && W5 r.seasons 1 4)
def Ql(r:Qk):Bool:=Kq r && Kx r.Qb 0
def Qm(r:Qk)(Qa:List Int):Bool:=decide (Qa.length=r.seasons) && Qa.all fun x=>W5 x 0 (((Zv r.Qb.length:Nat):Int)-1)
theorem Xh{ps:List Qe}{i:Int}(h:i<ps.length):Kx ps i=(Zs ps.length i (ps.getD i.toNat La) && Kx ps (i+1)):=by
 unfold Kx;rw[zR h,List.all_cons]
theorem Vs{ps:List Qe}{i:Int}(h:ps.length<=i):Kx ps i=true:=by
 unfold Kx;rw[vh h];rfl
theorem Qq{x:Qe}(h:XI x=true):(0<=x.count/\x.count<=1000000)/\(0<=x.room/\x.room<=1000000)/\(0<=x.goal/\x.goal<=1000000)/\(0<=x.worth/\x.worth<=1000000)/\(0<=x.glo/\x.glo<=x.ghi/\x.ghi<=2000)/\(0<=x.drift/\x.drift<=1000)/\(0<=x.olo/\x.olo<=x.ohi/\x.ohi<=1000000)/\(0<=x.slo/\x.slo<=x.shi/\x.shi<=1000000)/\x.slo<=x.olo/\x.shi<=x.ohi:=by
 simp only[XI,YB,Ky,RN,decide_eq_true_iff]at h;omega
theorem Qn{r:Qk}(h:Kq r=true):(1<=r.Qb.length/\r.Qb.length<=4)/\(0<=r.miss/\r.miss<=2000)/\(1<=r.seasons/\r.seasons<=4):=by
 simp only[Kq,YB,Ky]at h;omega
theorem Qg{r:Qk}(h:Ql r=true):Kq r=true/\∀k:Int,0<=k->k<r.Qb.length->XI (r.Qb.getD k.toNat La)=true/\Kt r.Qb.length (r.Qb.getD k.toNat La).into=true/\(r.Qb.getD k.toNat La).into≠k:=by
 simp only[Ql,YB]at h;refine⟨h.1,fun k h0 h1=> ?_⟩;have:=vO h.2 h0 h1;simp only[Zs,YB,Bool.not_eq_true',decide_eq_false_iff_not]at this;exact⟨this.1,this.2.1,this.2.2⟩
def ck(x:Qe):Bool:=W5 x.count 0 1000000 && (W5 x.room 0 1000000 && (W5 x.goal 0 1000000 && (W5 x.worth 0 1000000 && (XW x.glo x.ghi 0 2000 && (W5 x.drift 0 1000 && (XW x.olo x.ohi 0 1000000 && XW x.slo x.shi 0 1000000))))))
def Wx(r:Qk):Bool:=Kq r && (fF 0 r.Qb.length).all fun k=>ck (r.Qb.getD k.toNat La) && (Kt r.Qb.length (r.Qb.getD k.toNat La).into && !decide ((r.Qb.getD k.toNat La).into=k))
theorem CP{x:Qe}(h:XI x=true):ck x=true:=by
 simp only[XI,ck,YB]at h ⊢;exact⟨h.1,h.2.1,h.2.2.1,h.2.2.2.1,h.2.2.2.2.1,h.2.2.2.2.2.1,h.2.2.2.2.2.2.1,h.2.2.2.2.2.2.2.1⟩
theorem Qp{r:Qk}(h:Ql r=true):Wx r=true:=by
 obtain⟨h1,h2⟩:=Qg h;unfold Wx;rw[YB];refine⟨h1,List.all_eq_true.2 fun k hk=> ?_⟩;unfold fF at hk;obtain⟨m,hm,rfl⟩:=List.mem_map.1 hk;have hm':=List.mem_range.1 hm;have:=h2 (0+(m:Int)) (by omega) (by omega);simp only[YB,Bool.not_eq_true',decide_eq_false_iff_not];exact⟨CP this.1,this.2.1,this.2.2⟩
theorem WT{x:Qe}(h:ck x=true):(0<=x.count/\x.count<=1000000)/\(0<=x.room/\x.room<=1000000)/\(0<=x.goal/\x.goal<=1000000)/\(0<=x.worth/\x.worth<=1000000)/\(0<=x.glo/\x.glo<=x.ghi/\x.ghi<=2000)/\(0<=x.drift/\x.drift<=1000)/\(0<=x.olo/\x.olo<=x.ohi/\x.ohi<=1000000)/\(0<=x.slo/\x.slo<=x.shi/\x.shi<=1000000)/\True:=by
 simp only[ck,YB,Ky,RN]at h;simp only[and_true];omega
theorem X5{r:Qk}(h:Wx r=true):Kq r=true/\∀k:Int,0<=k->k<r.Qb.length->ck (r.Qb.getD k.toNat La)=true/\Kt r.Qb.length (r.Qb.getD k.toNat La).into=true/\(r.Qb.getD k.toNat La).into≠k:=by
 simp only[Wx,YB]at h;refine⟨h.1,fun k h0 h1=> ?_⟩;have:=vO h.2 h0 h1;simp only[YB,Bool.not_eq_true',decide_eq_false_iff_not]at this;exact⟨this.1,this.2.1,this.2.2⟩
instance {r:Qk}:Coe (Ql r=true) (Wx r=true):=⟨Qp⟩
def dc(x:Qe):Array Value:=#[.agg #[.int .i64 x.olo,.int .i64 x.ohi],.int .i64 1000000]
def db(x:Qe):Array Value:=#[.agg #[.int .i64 x.slo,.int .i64 x.shi],.int .i64 1000000]
def da(x:Qe):Array Value:=#[.agg #[.int .i64 x.glo,.int .i64 x.ghi],.int .i64 2000]
def cZ(x:Qe):Array Value:=#[.int .i64 x.worth,.int .i64 0,.int .i64 1000000]
def cY(x:Qe):Array Value:=#[.int .i64 x.drift,.int .i64 0,.int .i64 1000]
def PA(B:Lo)(x:Qe):List Prop:=[Q3 []/\Qz YP J0 95 #[.int .i64 x.count] (.bool true)]++([]:List Prop)
def dp(x:Qe):QA:=[(4,Qu.pure (.bool true) [])]
def P9(B:Lo)(x:Qe):List Prop:=[Q3 []/\Qz YP J0 95 #[.int .i64 x.room] (.bool true)]++PA B x
def dn(x:Qe):QA:=dp x++[(8,Qu.pure (.bool true) [])]
def P8(B:Lo)(x:Qe):List Prop:=[Q3 []/\Qz YP J0 95 #[.int .i64 x.goal] (.bool true)]++P9 B x
def dm(x:Qe):QA:=dn x++[(13,Qu.pure (.bool true) [])]
def P7(B:Lo)(x:Qe):List Prop:=[Q3 []/\Qz YP J0 72 (cZ x) (.bool true)]++P8 B x
def dj(x:Qe):QA:=dm x++[(18,Qu.pure (.bool true) [])]
def P6(B:Lo)(x:Qe):List Prop:=[Q3 []/\Qz YP J0 96 (da x) (.bool true)]++P7 B x
def di(x:Qe):QA:=dj x++[(23,Qu.pure (.bool true) [])]
def P5(B:Lo)(x:Qe):List Prop:=[Q3 []/\Qz YP J0 72 (cY x) (.bool true)]++P6 B x
def dh(x:Qe):QA:=di x++[(28,Qu.pure (.bool true) [])]
def P4(B:Lo)(x:Qe):List Prop:=[Q3 []/\Qz YP J0 96 (dc x) (.bool true)]++P5 B x
def dg(x:Qe):QA:=dh x++[(33,Qu.pure (.bool true) [])]
def P3(B:Lo)(x:Qe):List Prop:=[Q3 []/\Qz YP J0 96 (db x) (.bool true)]++P4 B x
def de(x:Qe):QA:=dg x++[(38,Qu.pure (.bool true) [])]
def P2(B:Lo)(x:Qe):List Prop:=[(!Z7 x.olo x.slo)=true]++P3 B x
def dd(x:Qe):QA:=de x++[(47,V4)]
theorem pU(B:Lo)(x:Qe):QS (Q2 YP (QB YP) J0 B 6 1 (Q9 YP 73 59 (([.agg (Qf x).toArray]).map (QG 0 4))) ZH 1
 (dd x++[(56,V4)]) 0 [] []) []=some (.bool true,
 [(!Z7 x.ohi x.shi)=true]++P2 B x):=by kernel_rfl
theorem pT(B:Lo)(x:Qe):QS (Q2 YP (QB YP) J0 B 6 1 (Q9 YP 73 59 (([.agg (Qf x).toArray]).map (QG 0 4))) ZH 1
 (dd x++[(56,V5)]) 0 [] []) []=some (.bool false,
 [(!Z7 x.ohi x.shi)=false]++P2 B x):=by kernel_rfl
theorem pS(B:Lo)(x:Qe):QS (Q2 YP (QB YP) J0 B 6 1 (Q9 YP 73 59 (([.agg (Qf x).toArray]).map (QG 0 4))) ZH 1
 (de x++[(47,V5)]) 0 [] []) []=some (.bool false,
 [(!Z7 x.olo x.slo)=false]++P3 B x):=by kernel_rfl
theorem pR(B:Lo)(x:Qe):QS (Q2 YP (QB YP) J0 B 6 1 (Q9 YP 73 59 (([.agg (Qf x).toArray]).map (QG 0 4))) ZH 1
 (dg x++[(38,Qu.pure (.bool false) [])]) 0 [] []) []=some (.bool false,
 [Q3 []/\Qz YP J0 96 (db x) (.bool false)]++P4 B x):=by kernel_rfl
theorem pQ(B:Lo)(x:Qe):QS (Q2 YP (QB YP) J0 B 6 1 (Q9 YP 73 59 (([.agg (Qf x).toArray]).map (QG 0 4))) ZH 1
 (dh x++[(33,Qu.pure (.bool false) [])]) 0 [] []) []=some (.bool false,
 [Q3 []/\Qz YP J0 96 (dc x) (.bool false)]++P5 B x):=by kernel_rfl
theorem pP(B:Lo)(x:Qe):QS (Q2 YP (QB YP) J0 B 6 1 (Q9 YP 73 59 (([.agg (Qf x).toArray]).map (QG 0 4))) ZH 1
 (di x++[(28,Qu.pure (.bool false) [])]) 0 [] []) []=some (.bool false,
 [Q3 []/\Qz YP J0 72 (cY x) (.bool false)]++P6 B x):=by kernel_rfl
theorem pO(B:Lo)(x:Qe):QS (Q2 YP (QB YP) J0 B 6 1 (Q9 YP 73 59 (([.agg (Qf x).toArray]).map (QG 0 4))) ZH 1
 (dj x++[(23,Qu.pure (.bool false) [])]) 0 [] []) []=some (.bool false,
 [Q3 []/\Qz YP J0 96 (da x) (.bool false)]++P7 B x):=by kernel_rfl
theorem pN(B:Lo)(x:Qe):QS (Q2 YP (QB YP) J0 B 6 1 (Q9 YP 73 59 (([.agg (Qf x).toArray]).map (QG 0 4))) ZH 1
 (dm x++[(18,Qu.pure (.bool false) [])]) 0 [] []) []=some (.bool false,
 [Q3 []/\Qz YP J0 72 (cZ x) (.bool false)]++P8 B x):=by kernel_rfl
theorem pM(B:Lo)(x:Qe):QS (Q2 YP (QB YP) J0 B 6 1 (Q9 YP 73 59 (([.agg (Qf x).toArray]).map (QG 0 4))) ZH 1
 (dn x++[(13,Qu.pure (.bool false) [])]) 0 [] []) []=some (.bool false,
 [Q3 []/\Qz YP J0 95 #[.int .i64 x.goal] (.bool false)]++P9 B x):=by kernel_rfl
theorem pL(B:Lo)(x:Qe):QS (Q2 YP (QB YP) J0 B 6 1 (Q9 YP 73 59 (([.agg (Qf x).toArray]).map (QG 0 4))) ZH 1
 (dp x++[(8,Qu.pure (.bool false) [])]) 0 [] []) []=some (.bool false,
 [Q3 []/\Qz YP J0 95 #[.int .i64 x.room] (.bool false)]++PA B x):=by kernel_rfl
theorem mV(B:Lo)(x:Qe):QS (Q2 YP (QB YP) J0 B 6 1 (Q9 YP 73 59 (([.agg (Qf x).toArray]).map (QG 0 4))) ZH 1
 [(4,Qu.pure (.bool false) [])] 0 [] []) []=some (.bool false,
 [Q3 []/\Qz YP J0 95 #[.int .i64 x.count] (.bool false)]):=by kernel_rfl
set_option maxHeartbeats 4000000 in
theorem tz(x:Qe)  {B:Lo}(hJ:∀w,B.has w->J0 w):EndsT YP B (Q9 YP 73 59 (([.agg (Qf x).toArray]).map (QG 0 4))) (.bool (XI x)):=by
 cases q0:W5 x.count 0 1000000 with
 |true=>
  have UX:Q3 (PA B x):=by
   exact⟨⟨trivial,(by have t_:=YZ x.count;rw[q0]at t_;exact t_)⟩,trivial⟩
  cases q1:W5 x.room 0 1000000 with
  |true=>
   have hp1:Q3 (P9 B x):=by
    exact⟨⟨trivial,(by have t_:=YZ x.room;rw[q1]at t_;exact t_)⟩,UX⟩
   cases q2:W5 x.goal 0 1000000 with
   |true=>
    have hp2:Q3 (P8 B x):=by
     exact⟨⟨trivial,(by have t_:=YZ x.goal;rw[q2]at t_;exact t_)⟩,hp1⟩
    cases q3:W5 x.worth 0 1000000 with
    |true=>
     have hp3:Q3 (P7 B x):=by
      exact⟨⟨trivial,(by have t_:=sf x.worth (0) (1000000);rw[q3]at t_;exact t_)⟩,hp2⟩
     cases q4:XW x.glo x.ghi 0 2000 with
     |true=>
      have hp4:Q3 (P6 B x):=by
       exact⟨⟨trivial,(by have t_:=Sc x.glo x.ghi (2000);rw[q4]at t_;exact t_)⟩,hp3⟩
      cases q5:W5 x.drift 0 1000 with
      |true=>
       have hp5:Q3 (P5 B x):=by
        exact⟨⟨trivial,(by have t_:=sf x.drift (0) (1000);rw[q5]at t_;exact t_)⟩,hp4⟩
       cases q6:XW x.olo x.ohi 0 1000000 with
       |true=>
        have hp6:Q3 (P4 B x):=by
         exact⟨⟨trivial,(by have t_:=Sc x.olo x.ohi (1000000);rw[q6]at t_;exact t_)⟩,hp5⟩
        cases q7:XW x.slo x.shi 0 1000000 with
        |true=>
         have hp7:Q3 (P3 B x):=by
          exact⟨⟨trivial,(by have t_:=Sc x.slo x.shi (1000000);rw[q7]at t_;exact t_)⟩,hp6⟩
         by_cases q8:(x.slo:Int)<=x.olo
         ·have hp8:Q3 (P2 B x):=by
           exact⟨(Uf q8),hp7⟩
          by_cases q9:(x.shi:Int)<=x.ohi
          ·exact(GoE.endsT okF hJ Qi GoE.start (pU B x)
            ⟨(Uf q9),hp8⟩).cast (by(simp[XI, *];done))
          ·exact(GoE.endsT okF hJ Qi GoE.start (pT B x)
            ⟨(Ug (Int.not_le.1 q9)),hp8⟩).cast (by(simp[XI, *];done))
         ·exact(GoE.endsT okF hJ Qi GoE.start (pS B x)
           ⟨(Ug (Int.not_le.1 q8)),hp7⟩).cast (by(simp[XI, *];done))
        |false=>
         exact(GoE.endsT okF hJ Qi GoE.start (pR B x)
          ⟨⟨trivial,(by have t_:=Sc x.slo x.shi (1000000);rw[q7]at t_;exact t_)⟩,hp6⟩).cast (by(simp[XI, *];done))
       |false=>
        exact(GoE.endsT okF hJ Qi GoE.start (pQ B x)
         ⟨⟨trivial,(by have t_:=Sc x.olo x.ohi (1000000);rw[q6]at t_;exact t_)⟩,hp5⟩).cast (by(simp[XI, *];done))
      |false=>
       exact(GoE.endsT okF hJ Qi GoE.start (pP B x)
        ⟨⟨trivial,(by have t_:=sf x.drift (0) (1000);rw[q5]at t_;exact t_)⟩,hp4⟩).cast (by(simp[XI, *];done))
     |false=>
      exact(GoE.endsT okF hJ Qi GoE.start (pO B x)
       ⟨⟨trivial,(by have t_:=Sc x.glo x.ghi (2000);rw[q4]at t_;exact t_)⟩,hp3⟩).cast (by(simp[XI, *];done))
    |false=>
     exact(GoE.endsT okF hJ Qi GoE.start (pN B x)
      ⟨⟨trivial,(by have t_:=sf x.worth (0) (1000000);rw[q3]at t_;exact t_)⟩,hp2⟩).cast (by(simp[XI, *];done))
   |false=>
    exact(GoE.endsT okF hJ Qi GoE.start (pM B x)
     ⟨⟨trivial,(by have t_:=YZ x.goal;rw[q2]at t_;exact t_)⟩,hp1⟩).cast (by(simp[XI, *];done))
  |false=>
   exact(GoE.endsT okF hJ Qi GoE.start (pL B x)
    ⟨⟨trivial,(by have t_:=YZ x.room;rw[q1]at t_;exact t_)⟩,UX⟩).cast (by(simp[XI, *];done))
 |false=>
  exact(GoE.endsT okF hJ Qi GoE.start (mV B x)
   ⟨⟨trivial,(by have t_:=YZ x.count;rw[q0]at t_;exact t_)⟩,trivial⟩).cast (by(simp[XI, *];done))
theorem pV(x:Qe)  :Qz YP J0 73 #[.agg (Qf x).toArray] (.bool (XI x)):=
 X8 (ts:=[.agg (Qf x).toArray]) ZC (c0:=Q9 YP 73 59 (([.agg (Qf x).toArray]).map (QG 0 4))) (by kernel_rfl) (by kernel_rfl) fun B hJ=>tz x  hJ
def TE(r:Qk)(k:Int):Array Value:=#[.int .i64 k,.int .i64 0,.int .i64 ((↑r.Qb.length:Int)-1)]
def JM(B:Lo)(r:Qk)(k:Int):List Prop:=[wq ((↑r.Qb.length:Int)-1)=(↑r.Qb.length:Int)-1]++([]:List Prop)
def TF(r:Qk)(k:Int):QA:=[(6,UW ((↑r.Qb.length:Int)-1))]
theorem mX(B:Lo)(r:Qk)(k:Int):QS (Q2 YP (QB YP) J0 B 6 1 (Q9 YP 70 11 (([.agg (QM r).toArray,.int .i64 k]).map (QG 0 4))) ZH 1
 (TF r k++[(7,Qu.pure (.bool true) [])]) 0 [] []) []=some (.bool true,
 [Q3 []/\Qz YP J0 72 (TE r k) (.bool true)]++JM B r k):=by kernel_rfl
theorem mW(B:Lo)(r:Qk)(k:Int):QS (Q2 YP (QB YP) J0 B 6 1 (Q9 YP 70 11 (([.agg (QM r).toArray,.int .i64 k]).map (QG 0 4))) ZH 1
 (TF r k++[(7,Qu.pure (.bool false) [])]) 0 [] []) []=some (.bool false,
 [Q3 []/\Qz YP J0 72 (TE r k) (.bool false)]++JM B r k):=by kernel_rfl
set_option maxHeartbeats 4000000 in
theorem pW(r:Qk)(k:Int)  (Zb:r.Qb.length<=9223372036854775807){B:Lo}(hJ:∀w,B.has w->J0 w):EndsT YP B (Q9 YP 70 11 (([.agg (QM r).toArray,.int .i64 k]).map (QG 0 4))) (.bool (W5 k 0 (r.Qb.length-1))):=by
 have UX:Q3 (JM B r k):=by
  exact⟨(XX (by omega) (by omega)),trivial⟩
 cases q0:W5 k 0 ((↑r.Qb.length:Int)-1)with
 |true=>
  exact(GoE.endsT okF hJ Qi GoE.start (mX B r k)
   ⟨⟨trivial,(by have t_:=sf (k) (0) ((↑r.Qb.length:Int)-1);rw[q0]at t_;exact t_)⟩,UX⟩).cast (by rfl)
 |false=>
  exact(GoE.endsT okF hJ Qi GoE.start (mW B r k)
   ⟨⟨trivial,(by have t_:=sf (k) (0) ((↑r.Qb.length:Int)-1);rw[q0]at t_;exact t_)⟩,UX⟩).cast (by rfl)
theorem lQ(r:Qk)(k:Int)  :Qz YP J0 70 #[.agg (QM r).toArray,.int .i64 k] (.bool (W5 k 0 (r.Qb.length-1))):=
 Uk (ts:=[.agg (QM r).toArray,.int .i64 k]) (r.Qb.length<=9223372036854775807) (fun _ _ ht=>ht.ln2 (i:=0) (j:=0) rfl rfl) ZC (c0:=Q9 YP 70 11 (([.agg (QM r).toArray,.int .i64 k]).map (QG 0 4))) (by kernel_rfl) (by kernel_rfl) fun Zb B hJ=>pW r k  Zb hJ
def JL(x_:Qe):Array Value:=#[.int .i64 x_.count,.int .i64 x_.room,.int .i64 x_.glo,.int .i64 x_.ghi,.int .i64 x_.drift,.int .i64 x_.into,.int .i64 x_.olo,.int .i64 x_.ohi,.int .i64 x_.slo,.int .i64 x_.shi,.int .i64 x_.goal,.int .i64 x_.worth]
def gR(r:Qk)(i:Int):Array Value:=#[.agg #[Xq r.Qb.length (Qj Qf r.Qb),.int .i64 r.miss,.int .i64 r.seasons],.int .i64 (Qe.into (r.Qb.getD i.toNat La))]
def gQ(r:Qk):Array Value:=#[.int .i64 (↑r.Qb.length:Int),.int .i64 1,.int .i64 4]
def gP(r:Qk):Array Value:=#[.int .i64 r.miss,.int .i64 0,.int .i64 2000]
def gO(r:Qk):Array Value:=#[.int .i64 r.seasons,.int .i64 1,.int .i64 4]
def Wg(r:Qk)(i:Int):List Value:=[pA 2 0,QF 1 (Xq r.Qb.length (Qj Qf r.Qb)),.int .i64 (↑r.Qb.length:Int),.int .i64 i]
def XV(r:Qk)(i:Int):List Obj:=[Obj.cells #[QF 1 (Xq r.Qb.length (Qj Qf r.Qb)),.int .i64 r.miss,.int .i64 r.seasons] 24]
def Wh:List Item:=([.code [1,1,0,1,0,0],.inLoop [1,1,0,1,0,0],.inBlock 0,.code [1,1,1]]).map (it (Xt YP 50))
def tu(B:Lo)(c0:CF)(r:Qk)(i:Int):Prop:=∃dJ:Nat->Value,(∀t,Zf (dJ t))/\GoE YP B c0 ZH 1 (QJ 50 52 (([1,23,24,25]:List Nat).zip (Wg r i)) dJ Wh) (QI (XV r i)) (2+(XV r i).length) []
def SI(B:Lo)(r:Qk)(i:Int)(Qr:Nat->Value):List Prop:=[Vj i r.Qb.length (Qj Qf r.Qb) Try.t54.size (JL (r.Qb.getD i.toNat La)),Z7 i (↑r.Qb.length:Int)=true]++([]:List Prop)
def gY(r:Qk)(i:Int)(Qr:Nat->Value):QA:=[(0,V4),(2,Qu.tidx i.toNat (JL (r.Qb.getD i.toNat La)))]
def SH(B:Lo)(r:Qk)(i:Int)(Qr:Nat->Value):List Prop:=[Q3 []/\Qz YP J0 73 #[.agg (JL (r.Qb.getD i.toNat La))] (.bool true)]++SI B r i Qr
def gX(r:Qk)(i:Int)(Qr:Nat->Value):QA:=gY r i Qr++[(8,Qu.pure (.bool true) [])]
def SG(B:Lo)(r:Qk)(i:Int)(Qr:Nat->Value):List Prop:=[(!Yo (Qe.into (r.Qb.getD i.toNat La)) (-1))=true]++SH B r i Qr
def gW(r:Qk)(i:Int)(Qr:Nat->Value):QA:=gX r i Qr++[(13,V4)]
def SF(B:Lo)(r:Qk)(i:Int)(Qr:Nat->Value):List Prop:=[Q3 []/\Qz YP J0 70 (gR r i) (.bool true)]++SG B r i Qr
def gV(r:Qk)(i:Int)(Qr:Nat->Value):QA:=gW r i Qr++[(18,Qu.pure (.bool true) [])]
theorem tq(B:Lo)(r:Qk)(i:Int)(Qr:Nat->Value):QS (Q2 YP (QB YP) J0 B 16 1 (QJ 50 52 (([1,23,24,25]:List Nat).zip (Wg r i)) Qr Wh) (QI (XV r i)) (2+(XV r i).length)
 (gV r i Qr++[(26,V4)]) 0 [] []) []=some (.bool false,
 [Yo (Qe.into (r.Qb.getD i.toNat La)) i=true]++SF B r i Qr):=by kernel_rfl
theorem tp(B:Lo)(r:Qk)(i:Int)(Qr:Nat->Value):landM (Q2 YP (QB YP) J0 B 16 1 (QJ 50 52 (([1,23,24,25]:List Nat).zip (Wg r i)) Qr Wh) (QI (XV r i)) (2+(XV r i).length)
 (gV r i Qr++[(26,V5),(28,UW (i+1))]) 0 [] []) [1,23,24,25] [(2,KS.auto)] []=some ⟨50,52,Wh,[],.run,none,Wg r (i+1),XV r (i+1),
 [wq (i+1)=i+1,Yo (Qe.into (r.Qb.getD i.toNat La)) i=false]++SF B r i Qr⟩:=by kernel_rfl
theorem tn(B:Lo)(r:Qk)(i:Int)(Qr:Nat->Value):QS (Q2 YP (QB YP) J0 B 16 1 (QJ 50 52 (([1,23,24,25]:List Nat).zip (Wg r i)) Qr Wh) (QI (XV r i)) (2+(XV r i).length)
 (gW r i Qr++[(18,Qu.pure (.bool false) [])]) 0 [] []) []=some (.bool false,
 [Q3 []/\Qz YP J0 70 (gR r i) (.bool false)]++SG B r i Qr):=by kernel_rfl
def SD(B:Lo)(r:Qk)(i:Int)(Qr:Nat->Value):List Prop:=[(!Yo (Qe.into (r.Qb.getD i.toNat La)) (-1))=false]++SH B r i Qr
def gU(r:Qk)(i:Int)(Qr:Nat->Value):QA:=gX r i Qr++[(13,V5)]
theorem tl(B:Lo)(r:Qk)(i:Int)(Qr:Nat->Value):QS (Q2 YP (QB YP) J0 B 16 1 (QJ 50 52 (([1,23,24,25]:List Nat).zip (Wg r i)) Qr Wh) (QI (XV r i)) (2+(XV r i).length)
 (gU r i Qr++[(26,V4)]) 0 [] []) []=some (.bool false,
 [Yo (Qe.into (r.Qb.getD i.toNat La)) i=true]++SD B r i Qr):=by kernel_rfl
theorem tk(B:Lo)(r:Qk)(i:Int)(Qr:Nat->Value):landM (Q2 YP (QB YP) J0 B 16 1 (QJ 50 52 (([1,23,24,25]:List Nat).zip (Wg r i)) Qr Wh) (QI (XV r i)) (2+(XV r i).length)
 (gU r i Qr++[(26,V5),(28,UW (i+1))]) 0 [] []) [1,23,24,25] [(2,KS.auto)] []=some ⟨50,52,Wh,[],.run,none,Wg r (i+1),XV r (i+1),
 [wq (i+1)=i+1,Yo (Qe.into (r.Qb.getD i.toNat La)) i=false]++SD B r i Qr⟩:=by kernel_rfl
theorem tj(B:Lo)(r:Qk)(i:Int)(Qr:Nat->Value):QS (Q2 YP (QB YP) J0 B 16 1 (QJ 50 52 (([1,23,24,25]:List Nat).zip (Wg r i)) Qr Wh) (QI (XV r i)) (2+(XV r i).length)
 (gY r i Qr++[(8,Qu.pure (.bool false) [])]) 0 [] []) []=some (.bool false,
 [Q3 []/\Qz YP J0 73 #[.agg (JL (r.Qb.getD i.toNat La))] (.bool false)]++SI B r i Qr):=by kernel_rfl
theorem ti(B:Lo)(r:Qk)(i:Int)(Qr:Nat->Value):QS (Q2 YP (QB YP) J0 B 9 1 (QJ 50 52 (([1,23,24,25]:List Nat).zip (Wg r i)) Qr Wh) (QI (XV r i)) (2+(XV r i).length)
 [(0,V5)] 0 [] []) []=some (.bool true,
 [Z7 i (↑r.Qb.length:Int)=false]):=by kernel_rfl
def SC(B:Lo)(r:Qk):List Prop:=[Q3 []/\Qz YP J0 72 (gQ r) (.bool true)]++([]:List Prop)
def gT(r:Qk):QA:=[(5,Qu.pure (.bool true) [])]
def SB(B:Lo)(r:Qk):List Prop:=[Q3 []/\Qz YP J0 72 (gP r) (.bool true)]++SC B r
def gS(r:Qk):QA:=gT r++[(10,Qu.pure (.bool true) [])]
theorem th(B:Lo)(r:Qk):landM (Q2 YP (QB YP) J0 B 12 1 (Q9 YP 50 52 (([.agg (QM r).toArray]).map (QG 0 4))) ZH 1
 (gS r++[(16,Qu.pure (.bool true) [])]) 0 [] []) [1,23,24,25] [(1,KS.auto)] []=some ⟨50,52,Wh,[],.run,none,Wg r (0),XV r (0),
 [Q3 []/\Qz YP J0 72 (gO r) (.bool true)]++SB B r⟩:=by kernel_rfl
theorem tg(B:Lo)(r:Qk):QS (Q2 YP (QB YP) J0 B 10 1 (Q9 YP 50 52 (([.agg (QM r).toArray]).map (QG 0 4))) ZH 1
 (gS r++[(16,Qu.pure (.bool false) [])]) 0 [] []) []=some (.bool false,
 [Q3 []/\Qz YP J0 72 (gO r) (.bool false)]++SB B r):=by kernel_rfl
theorem tf(B:Lo)(r:Qk):QS (Q2 YP (QB YP) J0 B 10 1 (Q9 YP 50 52 (([.agg (QM r).toArray]).map (QG 0 4))) ZH 1
 (gT r++[(10,Qu.pure (.bool false) [])]) 0 [] []) []=some (.bool false,
 [Q3 []/\Qz YP J0 72 (gP r) (.bool false)]++SC B r):=by kernel_rfl
theorem pK(B:Lo)(r:Qk):QS (Q2 YP (QB YP) J0 B 10 1 (Q9 YP 50 52 (([.agg (QM r).toArray]).map (QG 0 4))) ZH 1
 [(5,Qu.pure (.bool false) [])] 0 [] []) []=some (.bool false,
 [Q3 []/\Qz YP J0 72 (gQ r) (.bool false)]):=by kernel_rfl
set_option maxHeartbeats 4000000 in
theorem tt(r:Qk)  (Zb:r.Qb.length<=9223372036854775807){B:Lo}(hJ:∀w,B.has w->J0 w){c0:CF}:∀m:Nat,(∀(i:Int),r.Qb.length-i.toNat=m->∀(h0:0<=i),tu B c0 r i->EndsT YP B c0 (.bool (Kx r.Qb i))):=by
 intro m0;induction m0 using LK with
 |_ m0 ih0=>
  intro i hm0 h0 ⟨Qr,Jn,X7⟩;by_cases q0:(i:Int)<((↑r.Qb.length:Int))
  ·have UX:Q3 (SI B r i Qr):=by
    have s2:=Xh (ps:=r.Qb) q0;exact⟨⟨by omega,by omega,(QW (z:=12) (fun _=>rfl) (by omega))⟩,⟨(Z3 q0),trivial⟩⟩
   cases q1:XI (r.Qb.getD i.toNat La)with
   |true=>
    have hp1:Q3 (SH B r i Qr):=by
     have s2:=Xh (ps:=r.Qb) q0;exact⟨⟨trivial,(by have t_:=pV (r.Qb.getD i.toNat La);rw[q1]at t_;exact t_)⟩,UX⟩
    by_cases q2:(Qe.into (r.Qb.getD i.toNat La):Int)≠(-1)
    ·have hp2:Q3 (SG B r i Qr):=by
      exact⟨(JT q2),hp1⟩
     cases q3:W5 (Qe.into (r.Qb.getD i.toNat La)) 0 ((↑r.Qb.length:Int)-1)with
     |true=>
      have hp3:Q3 (SF B r i Qr):=by
       have s2:=Xh (ps:=r.Qb) q0;exact⟨⟨trivial,(by have t_:=lQ (r) (Qe.into (r.Qb.getD i.toNat La));rw[q3]at t_;exact t_)⟩,hp2⟩
      by_cases q4:(Qe.into (r.Qb.getD i.toNat La):Int)=(i)
      ·have s2:=Xh (ps:=r.Qb) q0;exact(GoE.endsT okF hJ Qi X7 (tq B r i Qr)
        ⟨(az q4),hp3⟩).cast (by(rw[s2];simp_all[Zs,Kt];done))
      ·have s2:=Xh (ps:=r.Qb) q0;exact((ih0 _ (by omega)) (i+1) rfl (by omega)
        (X7.landM okF hJ Qi (tp B r i Qr)
        ⟨(XX (by omega) (by omega)),⟨(a6 q4),hp3⟩⟩ (by kernel_rfl) (by kernel_rfl))).cast (by(rw[s2];simp_all[Zs,Kt];done))
     |false=>
      have s2:=Xh (ps:=r.Qb) q0;exact(GoE.endsT okF hJ Qi X7 (tn B r i Qr)
       ⟨⟨trivial,(by have t_:=lQ (r) (Qe.into (r.Qb.getD i.toNat La));rw[q3]at t_;exact t_)⟩,hp2⟩).cast (by(rw[s2];simp_all[Zs,Kt];done))
    ·have hp4:Q3 (SD B r i Qr):=by
      exact⟨(JU (Decidable.of_not_not q2)),hp1⟩
     by_cases q3:(Qe.into (r.Qb.getD i.toNat La):Int)=(i)
     ·have s2:=Xh (ps:=r.Qb) q0;have s2:=Vs (ps:=r.Qb) (i:=i) (by omega);exact(GoE.endsT okF hJ Qi X7 (tl B r i Qr)
       ⟨(az q3),hp4⟩).cast (by(rw[s2];simp_all[Zs,Kt];done))
     ·have s2:=Xh (ps:=r.Qb) q0;exact((ih0 _ (by omega)) (i+1) rfl (by omega)
       (X7.landM okF hJ Qi (tk B r i Qr)
       ⟨(XX (by omega) (by omega)),⟨(a6 q3),hp4⟩⟩ (by kernel_rfl) (by kernel_rfl))).cast (by(rw[s2];simp_all[Zs,Kt];done))
   |false=>
    have s2:=Xh (ps:=r.Qb) q0;exact(GoE.endsT okF hJ Qi X7 (tj B r i Qr)
     ⟨⟨trivial,(by have t_:=pV (r.Qb.getD i.toNat La);rw[q1]at t_;exact t_)⟩,UX⟩).cast (by(rw[s2];simp_all[Zs,Kt];done))
  ·have s2:=Vs (ps:=r.Qb) (i:=i) (by omega);exact(GoE.endsT okF hJ Qi X7 (ti B r i Qr)
    ⟨(Z4 (Int.not_lt.1 q0)),trivial⟩).cast (by(rw[s2];done))
set_option maxHeartbeats 4000000 in
theorem yv(r:Qk)  (Zb:r.Qb.length<=9223372036854775807){B:Lo}(hJ:∀w,B.has w->J0 w):EndsT YP B (Q9 YP 50 52 (([.agg (QM r).toArray]).map (QG 0 4))) (.bool (Ql r)):=by
 cases q0:W5 (↑r.Qb.length:Int) 1 4 with
 |true=>
  have hp5:Q3 (SC B r):=by
   exact⟨⟨trivial,(by have t_:=sf ((↑r.Qb.length:Int)) (1) (4);rw[q0]at t_;exact t_)⟩,trivial⟩
  cases q1:W5 r.miss 0 2000 with
  |true=>
   have hp6:Q3 (SB B r):=by
    exact⟨⟨trivial,(by have t_:=sf r.miss (0) (2000);rw[q1]at t_;exact t_)⟩,hp5⟩
   cases q2:W5 r.seasons 1 4 with
   |true=>
    exact((tt r Zb hJ _) (0) rfl (by omega)
     (GoE.start.landM okF hJ Qi (th B r)
     ⟨⟨trivial,(by have t_:=sf r.seasons (1) (4);rw[q2]at t_;exact t_)⟩,hp6⟩ (by kernel_rfl) (by kernel_rfl))).cast (by(simp only[Ql,Kq];simp[*];done))
   |false=>
    exact(GoE.endsT okF hJ Qi GoE.start (tg B r)
     ⟨⟨trivial,(by have t_:=sf r.seasons (1) (4);rw[q2]at t_;exact t_)⟩,hp6⟩).cast (by(simp only[Ql,Kq];simp[*];done))
  |false=>
   exact(GoE.endsT okF hJ Qi GoE.start (tf B r)
    ⟨⟨trivial,(by have t_:=sf r.miss (0) (2000);rw[q1]at t_;exact t_)⟩,hp5⟩).cast (by(simp only[Ql,Kq];simp[*];done))
 |false=>
  exact(GoE.endsT okF hJ Qi GoE.start (pK B r)
   ⟨⟨trivial,(by have t_:=sf ((↑r.Qb.length:Int)) (1) (4);rw[q0]at t_;exact t_)⟩,trivial⟩).cast (by(simp only[Ql,Kq];simp[*];done))
theorem vy(r:Qk)  :Qz YP J0 50 #[.agg (QM r).toArray] (.bool (Ql r)):=
 Uk (ts:=[.agg (QM r).toArray]) (r.Qb.length<=9223372036854775807) (fun _ _ ht=>ht.ln2 (i:=0) (j:=0) rfl rfl) ZC (c0:=Q9 YP 50 52 (([.agg (QM r).toArray]).map (QG 0 4))) (by kernel_rfl) (by kernel_rfl) fun Zb B hJ=>yv r  Zb hJ
def Zn(r:Qk)(i:Int):List Value:=[pA 2 0,.int .i64 i]
def Xx(r:Qk)(i:Int):List Obj:=[Obj.cells #[QF 1 (Xq r.Qb.length (Qj Qf r.Qb)),.int .i64 r.miss,.int .i64 r.seasons] 24]
def Zo:List Item:=([.code [1,0,1,0,0],.inLoop [1,0,1,0,0],.inBlock 0,.code [1,1]]).map (it (Xt YP 20))
def Ay(B:Lo)(c0:CF)(r:Qk)(i:Int):Prop:=∃dJ:Nat->Value,(∀t,Zf (dJ t))/\GoE YP B c0 ZH 1 (QJ 20 111 (([1,3]:List Nat).zip (Zn r i)) dJ Zo) (QI (Xx r i)) (2+(Xx r i).length) []
def KA(r:Qk)(i:Int):=(r.Qb.getD i.toNat La)
def KO(r:Qk)(i:Int):=(KA r i)
def Vb(r:Qk)(i:Int):=(KO r i)
def pf(r:Qk)(i:Int):Array Value:=#[.int .i64 (Qe.count (Vb r i)),.int .i64 (Qe.room (Vb r i)),.int .i64 (Qe.glo (Vb r i)),.int .i64 (Qe.ghi (Vb r i)),.int .i64 (Qe.drift (Vb r i)),.int .i64 (Qe.into (Vb r i)),.int .i64 (Qe.olo (Vb r i)),.int .i64 (Qe.ohi (Vb r i)),.int .i64 (Qe.slo (Vb r i)),.int .i64 (Qe.shi (Vb r i)),.int .i64 (Qe.goal (Vb r i)),.int .i64 (Qe.worth (Vb r i))]
def pd(r:Qk)(i:Int):Array Value:=#[.agg #[.int .i64 (Qe.olo (KO r i)),.int .i64 (Qe.ohi (KO r i))],.int .i64 1000000]
def pc(r:Qk)(i:Int):Array Value:=#[.agg #[.int .i64 (Qe.slo (KO r i)),.int .i64 (Qe.shi (KO r i))],.int .i64 1000000]
def oZ(r:Qk)(i:Int):Array Value:=#[.agg #[.int .i64 (Qe.glo (KO r i)),.int .i64 (Qe.ghi (KO r i))],.int .i64 2000]
def oY(r:Qk)(i:Int):Array Value:=#[.int .i64 (Qe.into (KA r i)),.int .i64 (-1),.int .i64 ((↑r.Qb.length:Int)-1)]
def oX(r:Qk)(i:Int):Array Value:=#[.int .i64 (Qe.count (KA r i)),.int .i64 0,.int .i64 1000000]
def oW(r:Qk)(i:Int):Array Value:=#[.int .i64 (Qe.worth (KA r i)),.int .i64 0,.int .i64 1000000]
def oV(r:Qk)(i:Int):Array Value:=#[.int .i64 (Qe.room (KA r i)),.int .i64 0,.int .i64 1000000]
def lH(r:Qk)(i:Int):Array Value:=#[.int .i64 (Qe.goal (KA r i)),.int .i64 0,.int .i64 1000000]
def lG(r:Qk)(i:Int):Array Value:=#[.int .i64 (Qe.drift (r.Qb.getD i.toNat La)),.int .i64 0,.int .i64 1000]
def lF(r:Qk):Array Value:=#[.int .i64 (↑r.Qb.length:Int),.int .i64 1,.int .i64 4]
def lE(r:Qk):Array Value:=#[.int .i64 r.miss,.int .i64 0,.int .i64 2000]
def lD(r:Qk):Array Value:=#[.int .i64 r.seasons,.int .i64 1,.int .i64 4]
def gv(B:Lo)(r:Qk)(i:Int)(Qr:Nat->Value):List Prop:=[Vj i r.Qb.length (Qj Qf r.Qb) Try.t54.size (pf r i),Z7 i (↑r.Qb.length:Int)=true]++([]:List Prop)
def px(r:Qk)(i:Int)(Qr:Nat->Value):QA:=[(4,V4),(8,Qu.tidx i.toNat (pf r i))]
def gu(B:Lo)(r:Qk)(i:Int)(Qr:Nat->Value):List Prop:=[Q3 []/\Qz YP J0 55 (oX r i) (.bool true)]++gv B r i Qr
def pw(r:Qk)(i:Int)(Qr:Nat->Value):QA:=px r i Qr++[(14,Qu.pure (.bool true) [])]
def gq(B:Lo)(r:Qk)(i:Int)(Qr:Nat->Value):List Prop:=[Q3 []/\Qz YP J0 55 (oV r i) (.bool true)]++gu B r i Qr
def pt(r:Qk)(i:Int)(Qr:Nat->Value):QA:=pw r i Qr++[(19,Qu.pure (.bool true) [])]
def gp(B:Lo)(r:Qk)(i:Int)(Qr:Nat->Value):List Prop:=[Q3 []/\Qz YP J0 55 (lH r i) (.bool true)]++gq B r i Qr
def pr(r:Qk)(i:Int)(Qr:Nat->Value):QA:=pt r i Qr++[(25,Qu.pure (.bool true) [])]
def gm(B:Lo)(r:Qk)(i:Int)(Qr:Nat->Value):List Prop:=[Q3 []/\Qz YP J0 56 (oZ r i) (.bool true)]++gp B r i Qr
def pq(r:Qk)(i:Int)(Qr:Nat->Value):QA:=pr r i Qr++[(31,Qu.pure (.bool true) [])]
def gj(B:Lo)(r:Qk)(i:Int)(Qr:Nat->Value):List Prop:=[wq ((↑r.Qb.length:Int)-1)=(↑r.Qb.length:Int)-1,Q3 []/\Qz YP J0 55 (lG r i) (.bool true)]++gm B r i Qr
def po(r:Qk)(i:Int)(Qr:Nat->Value):QA:=pq r i Qr++[(37,Qu.pure (.bool true) []),(46,UW ((↑r.Qb.length:Int)-1))]
def gi(B:Lo)(r:Qk)(i:Int)(Qr:Nat->Value):List Prop:=[Q3 []/\Qz YP J0 55 (oY r i) (.bool true)]++gj B r i Qr
def pn(r:Qk)(i:Int)(Qr:Nat->Value):QA:=po r i Qr++[(47,Qu.pure (.bool true) [])]
theorem Aw(B:Lo)(r:Qk)(i:Int)(Qr:Nat->Value):QS (Q2 YP (QB YP) J0 B 16 1 (QJ 20 111 (([1,3]:List Nat).zip (Zn r i)) Qr Zo) (QI (Xx r i)) (2+(Xx r i).length)
 (pn r i Qr++[(54,V4)]) 0 [] []) []=some (.bool false,
 [Yo (Qe.into (r.Qb.getD i.toNat La)) i=true]++gi B r i Qr):=by kernel_rfl
def gh(B:Lo)(r:Qk)(i:Int)(Qr:Nat->Value):List Prop:=[Yo (Qe.into (r.Qb.getD i.toNat La)) i=false]++gi B r i Qr
def pk(r:Qk)(i:Int)(Qr:Nat->Value):QA:=pn r i Qr++[(54,V5)]
def gf(B:Lo)(r:Qk)(i:Int)(Qr:Nat->Value):List Prop:=[Q3 []/\Qz YP J0 56 (pd r i) (.bool true)]++gh B r i Qr
def pj(r:Qk)(i:Int)(Qr:Nat->Value):QA:=pk r i Qr++[(59,Qu.pure (.bool true) [])]
def gd(B:Lo)(r:Qk)(i:Int)(Qr:Nat->Value):List Prop:=[Q3 []/\Qz YP J0 56 (pc r i) (.bool true)]++gf B r i Qr
def ph(r:Qk)(i:Int)(Qr:Nat->Value):QA:=pj r i Qr++[(65,Qu.pure (.bool true) [])]
theorem Av(B:Lo)(r:Qk)(i:Int)(Qr:Nat->Value):QS (Q2 YP (QB YP) J0 B 16 1 (QJ 20 111 (([1,3]:List Nat).zip (Zn r i)) Qr Zo) (QI (Xx r i)) (2+(Xx r i).length)
 (ph r i Qr++[(75,V4)]) 0 [] []) []=some (.bool false,
 [Z7 (Qe.olo (r.Qb.getD i.toNat La)) (Qe.slo (r.Qb.getD i.toNat La))=true]++gd B r i Qr):=by kernel_rfl
def ca(B:Lo)(r:Qk)(i:Int)(Qr:Nat->Value):List Prop:=[Z7 (Qe.olo (r.Qb.getD i.toNat La)) (Qe.slo (r.Qb.getD i.toNat La))=false]++gd B r i Qr
def lM(r:Qk)(i:Int)(Qr:Nat->Value):QA:=ph r i Qr++[(75,V5)]
theorem Au(B:Lo)(r:Qk)(i:Int)(Qr:Nat->Value):QS (Q2 YP (QB YP) J0 B 16 1 (QJ 20 111 (([1,3]:List Nat).zip (Zn r i)) Qr Zo) (QI (Xx r i)) (2+(Xx r i).length)
 (lM r i Qr++[(84,V4)]) 0 [] []) []=some (.bool false,
 [Z7 (Qe.ohi (r.Qb.getD i.toNat La)) (Qe.shi (r.Qb.getD i.toNat La))=true]++ca B r i Qr):=by kernel_rfl
def bZ(B:Lo)(r:Qk)(i:Int)(Qr:Nat->Value):List Prop:=[Z7 (Qe.ohi (r.Qb.getD i.toNat La)) (Qe.shi (r.Qb.getD i.toNat La))=false]++ca B r i Qr
def lL(r:Qk)(i:Int)(Qr:Nat->Value):QA:=lM r i Qr++[(84,V5)]
theorem At(B:Lo)(r:Qk)(i:Int)(Qr:Nat->Value):landM (Q2 YP (QB YP) J0 B 16 1 (QJ 20 111 (([1,3]:List Nat).zip (Zn r i)) Qr Zo) (QI (Xx r i)) (2+(Xx r i).length)
 (lL r i Qr++[(89,Qu.pure (.bool true) []),(93,UW (i+1))]) 0 [] []) [1,3] [(2,KS.auto)] []=some ⟨20,111,Zo,[],.run,none,Zn r (i+1),Xx r (i+1),
 [wq (i+1)=i+1,Q3 []/\Qz YP J0 55 (oW r i) (.bool true)]++bZ B r i Qr⟩:=by kernel_rfl
theorem As(B:Lo)(r:Qk)(i:Int)(Qr:Nat->Value):QS (Q2 YP (QB YP) J0 B 16 1 (QJ 20 111 (([1,3]:List Nat).zip (Zn r i)) Qr Zo) (QI (Xx r i)) (2+(Xx r i).length)
 (lL r i Qr++[(89,Qu.pure (.bool false) [])]) 0 [] []) []=some (.bool false,
 [Q3 []/\Qz YP J0 55 (oW r i) (.bool false)]++bZ B r i Qr):=by kernel_rfl
theorem Ar(B:Lo)(r:Qk)(i:Int)(Qr:Nat->Value):QS (Q2 YP (QB YP) J0 B 16 1 (QJ 20 111 (([1,3]:List Nat).zip (Zn r i)) Qr Zo) (QI (Xx r i)) (2+(Xx r i).length)
 (pj r i Qr++[(65,Qu.pure (.bool false) [])]) 0 [] []) []=some (.bool false,
 [Q3 []/\Qz YP J0 56 (pc r i) (.bool false)]++gf B r i Qr):=by kernel_rfl
theorem Aq(B:Lo)(r:Qk)(i:Int)(Qr:Nat->Value):QS (Q2 YP (QB YP) J0 B 16 1 (QJ 20 111 (([1,3]:List Nat).zip (Zn r i)) Qr Zo) (QI (Xx r i)) (2+(Xx r i).length)
 (pk r i Qr++[(59,Qu.pure (.bool false) [])]) 0 [] []) []=some (.bool false,
 [Q3 []/\Qz YP J0 56 (pd r i) (.bool false)]++gh B r i Qr):=by kernel_rfl
theorem Ap(B:Lo)(r:Qk)(i:Int)(Qr:Nat->Value):QS (Q2 YP (QB YP) J0 B 16 1 (QJ 20 111 (([1,3]:List Nat).zip (Zn r i)) Qr Zo) (QI (Xx r i)) (2+(Xx r i).length)
 (po r i Qr++[(47,Qu.pure (.bool false) [])]) 0 [] []) []=some (.bool false,
 [Q3 []/\Qz YP J0 55 (oY r i) (.bool false)]++gj B r i Qr):=by kernel_rfl
theorem Ao(B:Lo)(r:Qk)(i:Int)(Qr:Nat->Value):QS (Q2 YP (QB YP) J0 B 16 1 (QJ 20 111 (([1,3]:List Nat).zip (Zn r i)) Qr Zo) (QI (Xx r i)) (2+(Xx r i).length)
 (pq r i Qr++[(37,Qu.pure (.bool false) [])]) 0 [] []) []=some (.bool false,
 [Q3 []/\Qz YP J0 55 (lG r i) (.bool false)]++gm B r i Qr):=by kernel_rfl
theorem An(B:Lo)(r:Qk)(i:Int)(Qr:Nat->Value):QS (Q2 YP (QB YP) J0 B 16 1 (QJ 20 111 (([1,3]:List Nat).zip (Zn r i)) Qr Zo) (QI (Xx r i)) (2+(Xx r i).length)
 (pr r i Qr++[(31,Qu.pure (.bool false) [])]) 0 [] []) []=some (.bool false,
 [Q3 []/\Qz YP J0 56 (oZ r i) (.bool false)]++gp B r i Qr):=by kernel_rfl
theorem yc(B:Lo)(r:Qk)(i:Int)(Qr:Nat->Value):QS (Q2 YP (QB YP) J0 B 16 1 (QJ 20 111 (([1,3]:List Nat).zip (Zn r i)) Qr Zo) (QI (Xx r i)) (2+(Xx r i).length)
 (pt r i Qr++[(25,Qu.pure (.bool false) [])]) 0 [] []) []=some (.bool false,
 [Q3 []/\Qz YP J0 55 (lH r i) (.bool false)]++gq B r i Qr):=by kernel_rfl
theorem yb(B:Lo)(r:Qk)(i:Int)(Qr:Nat->Value):QS (Q2 YP (QB YP) J0 B 16 1 (QJ 20 111 (([1,3]:List Nat).zip (Zn r i)) Qr Zo) (QI (Xx r i)) (2+(Xx r i).length)
 (pw r i Qr++[(19,Qu.pure (.bool false) [])]) 0 [] []) []=some (.bool false,
 [Q3 []/\Qz YP J0 55 (oV r i) (.bool false)]++gu B r i Qr):=by kernel_rfl
theorem ya(B:Lo)(r:Qk)(i:Int)(Qr:Nat->Value):QS (Q2 YP (QB YP) J0 B 16 1 (QJ 20 111 (([1,3]:List Nat).zip (Zn r i)) Qr Zo) (QI (Xx r i)) (2+(Xx r i).length)
 (px r i Qr++[(14,Qu.pure (.bool false) [])]) 0 [] []) []=some (.bool false,
 [Q3 []/\Qz YP J0 55 (oX r i) (.bool false)]++gv B r i Qr):=by kernel_rfl
def bY(B:Lo)(r:Qk)(i:Int)(Qr:Nat->Value):List Prop:=[Z7 i (↑r.Qb.length:Int)=false]++([]:List Prop)
def lK(r:Qk)(i:Int)(Qr:Nat->Value):QA:=[(4,V5)]
def bX(B:Lo)(r:Qk)(i:Int)(Qr:Nat->Value):List Prop:=[Q3 []/\Qz YP J0 55 (lF r) (.bool true)]++bY B r i Qr
def lJ(r:Qk)(i:Int)(Qr:Nat->Value):QA:=lK r i Qr++[(8,Qu.pure (.bool true) [])]
def bW(B:Lo)(r:Qk)(i:Int)(Qr:Nat->Value):List Prop:=[Q3 []/\Qz YP J0 55 (lE r) (.bool true)]++bX B r i Qr
def lI(r:Qk)(i:Int)(Qr:Nat->Value):QA:=lJ r i Qr++[(12,Qu.pure (.bool true) [])]
theorem xZ(B:Lo)(r:Qk)(i:Int)(Qr:Nat->Value):QS (Q2 YP (QB YP) J0 B 9 1 (QJ 20 111 (([1,3]:List Nat).zip (Zn r i)) Qr Zo) (QI (Xx r i)) (2+(Xx r i).length)
 (lI r i Qr++[(17,Qu.pure (.bool true) [])]) 0 [] []) []=some (.bool true,
 [Q3 []/\Qz YP J0 55 (lD r) (.bool true)]++bW B r i Qr):=by kernel_rfl
theorem xY(B:Lo)(r:Qk)(i:Int)(Qr:Nat->Value):QS (Q2 YP (QB YP) J0 B 9 1 (QJ 20 111 (([1,3]:List Nat).zip (Zn r i)) Qr Zo) (QI (Xx r i)) (2+(Xx r i).length)
 (lI r i Qr++[(17,Qu.pure (.bool false) [])]) 0 [] []) []=some (.bool false,
 [Q3 []/\Qz YP J0 55 (lD r) (.bool false)]++bW B r i Qr):=by kernel_rfl
theorem xX(B:Lo)(r:Qk)(i:Int)(Qr:Nat->Value):QS (Q2 YP (QB YP) J0 B 9 1 (QJ 20 111 (([1,3]:List Nat).zip (Zn r i)) Qr Zo) (QI (Xx r i)) (2+(Xx r i).length)
 (lJ r i Qr++[(12,Qu.pure (.bool false) [])]) 0 [] []) []=some (.bool false,
 [Q3 []/\Qz YP J0 55 (lE r) (.bool false)]++bX B r i Qr):=by kernel_rfl
theorem xW(B:Lo)(r:Qk)(i:Int)(Qr:Nat->Value):QS (Q2 YP (QB YP) J0 B 9 1 (QJ 20 111 (([1,3]:List Nat).zip (Zn r i)) Qr Zo) (QI (Xx r i)) (2+(Xx r i).length)
 (lK r i Qr++[(8,Qu.pure (.bool false) [])]) 0 [] []) []=some (.bool false,
 [Q3 []/\Qz YP J0 55 (lF r) (.bool false)]++bY B r i Qr):=by kernel_rfl
theorem xV(B:Lo)(r:Qk):landM (Q2 YP (QB YP) J0 B 7 1 (Q9 YP 20 111 (([.agg (QM r).toArray]).map (QG 0 4))) ZH 1
 [] 0 [] []) [1,3] [(1,KS.auto)] []=some ⟨20,111,Zo,[],.run,none,Zn r (0),Xx r (0),
 []⟩:=by kernel_rfl
set_option maxHeartbeats 4000000 in
theorem Ax(r:Qk)  (Zb:r.Qb.length<=9223372036854775807){B:Lo}(hJ:∀w,B.has w->J0 w){c0:CF}:∀m:Nat,(∀(i:Int),r.Qb.length-i.toNat=m->∀(h0:0<=i),Ay B c0 r i->EndsT YP B c0 (.bool (Kx r.Qb i && Kq r))):=by
 intro m0;induction m0 using LK with
 |_ m0 ih0=>
  intro i hm0 h0 ⟨Qr,Jn,X7⟩;have s3:=Dl (n:=r.Qb.length) (v:=(r.Qb.getD i.toNat La).into) (by omega);by_cases q0:(i:Int)<((↑r.Qb.length:Int))
  ·have UX:Q3 (gv B r i Qr):=by
    have s2:=Xh (ps:=r.Qb) q0;exact⟨⟨by omega,by omega,(QW (z:=12) (fun _=>rfl) (by omega))⟩,⟨(Z3 q0),trivial⟩⟩
   cases q1:W5 (Qe.count (r.Qb.getD i.toNat La)) 0 1000000 with
   |true=>
    have hp1:Q3 (gu B r i Qr):=by
     have s2:=Xh (ps:=r.Qb) q0;exact⟨⟨trivial,(by have t_:=l9 (Qe.count (r.Qb.getD i.toNat La)) (0) (1000000);rw[q1]at t_;exact t_)⟩,UX⟩
    cases q2:W5 (Qe.room (r.Qb.getD i.toNat La)) 0 1000000 with
    |true=>
     have hp2:Q3 (gq B r i Qr):=by
      have s2:=Xh (ps:=r.Qb) q0;exact⟨⟨trivial,(by have t_:=l9 (Qe.room (r.Qb.getD i.toNat La)) (0) (1000000);rw[q2]at t_;exact t_)⟩,hp1⟩
     cases q3:W5 (Qe.goal (r.Qb.getD i.toNat La)) 0 1000000 with
     |true=>
      have hp3:Q3 (gp B r i Qr):=by
       have s2:=Xh (ps:=r.Qb) q0;exact⟨⟨trivial,(by have t_:=l9 (Qe.goal (r.Qb.getD i.toNat La)) (0) (1000000);rw[q3]at t_;exact t_)⟩,hp2⟩
      cases q4:XW (Qe.glo (r.Qb.getD i.toNat La)) (Qe.ghi (r.Qb.getD i.toNat La)) 0 2000 with
      |true=>
       have hp4:Q3 (gm B r i Qr):=by
        have s2:=Xh (ps:=r.Qb) q0;exact⟨⟨trivial,(by have t_:=lC (Qe.glo (r.Qb.getD i.toNat La)) (Qe.ghi (r.Qb.getD i.toNat La)) (2000);rw[q4]at t_;exact t_)⟩,hp3⟩
       cases q5:W5 (Qe.drift (r.Qb.getD i.toNat La)) 0 1000 with
       |true=>
        have hp5:Q3 (gj B r i Qr):=by
         have s2:=Xh (ps:=r.Qb) q0;exact⟨(XX (by omega) (by omega)),⟨⟨trivial,(by have t_:=l9 (Qe.drift (r.Qb.getD i.toNat La)) (0) (1000);rw[q5]at t_;exact t_)⟩,hp4⟩⟩
        cases q6:W5 (Qe.into (r.Qb.getD i.toNat La)) (-1) ((↑r.Qb.length:Int)-1)with
        |true=>
         have hp6:Q3 (gi B r i Qr):=by
          have s2:=Xh (ps:=r.Qb) q0;exact⟨⟨trivial,(by have t_:=l9 (Qe.into (r.Qb.getD i.toNat La)) (-1) ((↑r.Qb.length:Int)-1);rw[q6]at t_;exact t_)⟩,hp5⟩
         by_cases q7:(Qe.into (r.Qb.getD i.toNat La):Int)=(i)
         ·have s2:=Xh (ps:=r.Qb) q0;exact(GoE.endsT okF hJ Qi X7 (Aw B r i Qr)
           ⟨(az q7),hp6⟩).cast (by(rw[s2];rw[s3]at *;simp_all[Zs,XI];done))
         ·have hp7:Q3 (gh B r i Qr):=by
           exact⟨(a6 q7),hp6⟩
          cases q8:XW (Qe.olo (r.Qb.getD i.toNat La)) (Qe.ohi (r.Qb.getD i.toNat La)) 0 1000000 with
          |true=>
           have hp8:Q3 (gf B r i Qr):=by
            have s2:=Xh (ps:=r.Qb) q0;exact⟨⟨trivial,(by have t_:=lC (Qe.olo (r.Qb.getD i.toNat La)) (Qe.ohi (r.Qb.getD i.toNat La)) (1000000);rw[q8]at t_;exact t_)⟩,hp7⟩
           cases q9:XW (Qe.slo (r.Qb.getD i.toNat La)) (Qe.shi (r.Qb.getD i.toNat La)) 0 1000000 with
           |true=>
            have hp9:Q3 (gd B r i Qr):=by
             have s2:=Xh (ps:=r.Qb) q0;exact⟨⟨trivial,(by have t_:=lC (Qe.slo (r.Qb.getD i.toNat La)) (Qe.shi (r.Qb.getD i.toNat La)) (1000000);rw[q9]at t_;exact t_)⟩,hp8⟩
            by_cases q10:(Qe.olo (r.Qb.getD i.toNat La):Int)<(Qe.slo (r.Qb.getD i.toNat La))
            ·have s2:=Xh (ps:=r.Qb) q0;exact(GoE.endsT okF hJ Qi X7 (Av B r i Qr)
              ⟨(Z3 q10),hp9⟩).cast (by(rw[s2];rw[s3]at *;simp_all[Zs,XI];omega))
            ·have hp10:Q3 (ca B r i Qr):=by
              exact⟨(Z4 (Int.not_lt.1 q10)),hp9⟩
             by_cases q11:(Qe.ohi (r.Qb.getD i.toNat La):Int)<(Qe.shi (r.Qb.getD i.toNat La))
             ·have s2:=Xh (ps:=r.Qb) q0;exact(GoE.endsT okF hJ Qi X7 (Au B r i Qr)
               ⟨(Z3 q11),hp10⟩).cast (by(rw[s2];rw[s3]at *;simp_all[Zs,XI];omega))
             ·have hp11:Q3 (bZ B r i Qr):=by
               exact⟨(Z4 (Int.not_lt.1 q11)),hp10⟩
              cases q12:W5 (Qe.worth (r.Qb.getD i.toNat La)) 0 1000000 with
              |true=>
               have s2:=Xh (ps:=r.Qb) q0;exact((ih0 _ (by omega)) (i+1) rfl (by omega)
                (X7.landM okF hJ Qi (At B r i Qr)
                ⟨(XX (by omega) (by omega)),⟨⟨trivial,(by have t_:=l9 (Qe.worth (r.Qb.getD i.toNat La)) (0) (1000000);rw[q12]at t_;exact t_)⟩,hp11⟩⟩ (by kernel_rfl) (by kernel_rfl))).cast (by(rw[s2];rw[s3]at *;simp_all[Zs,XI];done))
              |false=>
               have s2:=Xh (ps:=r.Qb) q0;exact(GoE.endsT okF hJ Qi X7 (As B r i Qr)
                ⟨⟨trivial,(by have t_:=l9 (Qe.worth (r.Qb.getD i.toNat La)) (0) (1000000);rw[q12]at t_;exact t_)⟩,hp11⟩).cast (by(rw[s2];rw[s3]at *;simp_all[Zs,XI];done))
           |false=>
            have s2:=Xh (ps:=r.Qb) q0;exact(GoE.endsT okF hJ Qi X7 (Ar B r i Qr)
             ⟨⟨trivial,(by have t_:=lC (Qe.slo (r.Qb.getD i.toNat La)) (Qe.shi (r.Qb.getD i.toNat La)) (1000000);rw[q9]at t_;exact t_)⟩,hp8⟩).cast (by(rw[s2];rw[s3]at *;simp_all[Zs,XI];done))
          |false=>
           have s2:=Xh (ps:=r.Qb) q0;exact(GoE.endsT okF hJ Qi X7 (Aq B r i Qr)
            ⟨⟨trivial,(by have t_:=lC (Qe.olo (r.Qb.getD i.toNat La)) (Qe.ohi (r.Qb.getD i.toNat La)) (1000000);rw[q8]at t_;exact t_)⟩,hp7⟩).cast (by(rw[s2];rw[s3]at *;simp_all[Zs,XI];done))
        |false=>
         have s2:=Xh (ps:=r.Qb) q0;exact(GoE.endsT okF hJ Qi X7 (Ap B r i Qr)
          ⟨⟨trivial,(by have t_:=l9 (Qe.into (r.Qb.getD i.toNat La)) (-1) ((↑r.Qb.length:Int)-1);rw[q6]at t_;exact t_)⟩,hp5⟩).cast (by(rw[s2];rw[s3]at *;simp_all[Zs,XI];done))
       |false=>
        have s2:=Xh (ps:=r.Qb) q0;exact(GoE.endsT okF hJ Qi X7 (Ao B r i Qr)
         ⟨⟨trivial,(by have t_:=l9 (Qe.drift (r.Qb.getD i.toNat La)) (0) (1000);rw[q5]at t_;exact t_)⟩,hp4⟩).cast (by(rw[s2];rw[s3]at *;simp_all[Zs,XI];done))
      |false=>
       have s2:=Xh (ps:=r.Qb) q0;exact(GoE.endsT okF hJ Qi X7 (An B r i Qr)
        ⟨⟨trivial,(by have t_:=lC (Qe.glo (r.Qb.getD i.toNat La)) (Qe.ghi (r.Qb.getD i.toNat La)) (2000);rw[q4]at t_;exact t_)⟩,hp3⟩).cast (by(rw[s2];rw[s3]at *;simp_all[Zs,XI];done))
     |false=>
      have s2:=Xh (ps:=r.Qb) q0;exact(GoE.endsT okF hJ Qi X7 (yc B r i Qr)
       ⟨⟨trivial,(by have t_:=l9 (Qe.goal (r.Qb.getD i.toNat La)) (0) (1000000);rw[q3]at t_;exact t_)⟩,hp2⟩).cast (by(rw[s2];rw[s3]at *;simp_all[Zs,XI];done))
    |false=>
     have s2:=Xh (ps:=r.Qb) q0;exact(GoE.endsT okF hJ Qi X7 (yb B r i Qr)
      ⟨⟨trivial,(by have t_:=l9 (Qe.room (r.Qb.getD i.toNat La)) (0) (1000000);rw[q2]at t_;exact t_)⟩,hp1⟩).cast (by(rw[s2];rw[s3]at *;simp_all[Zs,XI];done))
   |false=>
    have s2:=Xh (ps:=r.Qb) q0;exact(GoE.endsT okF hJ Qi X7 (ya B r i Qr)
     ⟨⟨trivial,(by have t_:=l9 (Qe.count (r.Qb.getD i.toNat La)) (0) (1000000);rw[q1]at t_;exact t_)⟩,UX⟩).cast (by(rw[s2];rw[s3]at *;simp_all[Zs,XI];done))
  ·have hp12:Q3 (bY B r i Qr):=by
    exact⟨(Z4 (Int.not_lt.1 q0)),trivial⟩
   cases q1:W5 (↑r.Qb.length:Int) 1 4 with
   |true=>
    have hp13:Q3 (bX B r i Qr):=by
     have s2:=Vs (ps:=r.Qb) (i:=i) (by omega);exact⟨⟨trivial,(by have t_:=l9 ((↑r.Qb.length:Int)) (1) (4);rw[q1]at t_;exact t_)⟩,hp12⟩
    cases q2:W5 r.miss 0 2000 with
    |true=>
     have hp14:Q3 (bW B r i Qr):=by
      have s2:=Vs (ps:=r.Qb) (i:=i) (by omega);exact⟨⟨trivial,(by have t_:=l9 r.miss (0) (2000);rw[q2]at t_;exact t_)⟩,hp13⟩
     cases q3:W5 r.seasons 1 4 with
     |true=>
      have s2:=Vs (ps:=r.Qb) (i:=i) (by omega);exact(GoE.endsT okF hJ Qi X7 (xZ B r i Qr)
       ⟨⟨trivial,(by have t_:=l9 r.seasons (1) (4);rw[q3]at t_;exact t_)⟩,hp14⟩).cast (by(rw[s2];simp_all[Kq];done))
     |false=>
      have s2:=Vs (ps:=r.Qb) (i:=i) (by omega);exact(GoE.endsT okF hJ Qi X7 (xY B r i Qr)
       ⟨⟨trivial,(by have t_:=l9 r.seasons (1) (4);rw[q3]at t_;exact t_)⟩,hp14⟩).cast (by(rw[s2];simp_all[Kq];done))
    |false=>
     have s2:=Vs (ps:=r.Qb) (i:=i) (by omega);exact(GoE.endsT okF hJ Qi X7 (xX B r i Qr)
      ⟨⟨trivial,(by have t_:=l9 r.miss (0) (2000);rw[q2]at t_;exact t_)⟩,hp13⟩).cast (by(rw[s2];simp_all[Kq];done))
   |false=>
    have s2:=Vs (ps:=r.Qb) (i:=i) (by omega);exact(GoE.endsT okF hJ Qi X7 (xW B r i Qr)
     ⟨⟨trivial,(by have t_:=l9 ((↑r.Qb.length:Int)) (1) (4);rw[q1]at t_;exact t_)⟩,hp12⟩).cast (by(rw[s2];simp_all[Kq];done))
set_option maxHeartbeats 4000000 in
theorem C5(r:Qk)  (Zb:r.Qb.length<=9223372036854775807){B:Lo}(hJ:∀w,B.has w->J0 w):EndsT YP B (Q9 YP 20 111 (([.agg (QM r).toArray]).map (QG 0 4))) (.bool (Ql r)):=by
 exact((Ax r Zb hJ _) (0) rfl (by omega)
  (GoE.start.landM okF hJ Qi (xV B r)
  trivial (by kernel_rfl) (by kernel_rfl))).cast (by(simp only[Ql];rw[Bool.and_comm];done))
theorem DG(r:Qk)  :Qz YP J0 20 #[.agg (QM r).toArray] (.bool (Ql r)):=
 Uk (ts:=[.agg (QM r).toArray]) (r.Qb.length<=9223372036854775807) (fun _ _ ht=>ht.ln2 (i:=0) (j:=0) rfl rfl) ZC (c0:=Q9 YP 20 111 (([.agg (QM r).toArray]).map (QG 0 4))) (by kernel_rfl) (by kernel_rfl) fun Zb B hJ=>C5 r  Zb hJ
end
end Go.Proofs.Ytncjjangllkokaa

namespace Go.Proofs.Ytncjjangllkokaa
open Go Go.CE Go.RowKit
noncomputable section
theorem cf:((Zv 0:Nat):Int)=1:=rfl
theorem yr{i:Int}(h:0<=i):((Zv (i+1):Nat):Int)=2*((Zv i:Nat):Int):=by
 unfold Zv;rw[show(i+1).toNat=i.toNat+1 by omega,Nat.pow_succ];omega
def hasB(n k:Int):Bool:=n.toNat.testBit k.toNat
theorem jK{n k:Int}(hn:0<=n)(hk:1<=k):hasB n k=hasB (n / 2) (k-1):=by
 unfold hasB;obtain⟨j,hj⟩:∃j,k.toNat=j+1:=⟨k.toNat-1,by omega⟩
 rw[hj,show(k-1).toNat=j by omega,Nat.testBit_succ,show(n / 2).toNat=n.toNat / 2 by omega]
theorem Fy{n:Int}(hn:0<=n):hasB n 0=decide (n % 2=1):=by
 unfold hasB;rw[show(0:Int).toNat=0 from rfl,Nat.testBit_zero];exact decide_eq_decide.2 (by omega)
theorem mH{n k:Int}:decide (((og ((Ss n k:Nat):Int) 1:Nat):Int)=1)=hasB n k:=by
 unfold hasB og Ss;rw[Int.toNat_natCast,show(1:Int).toNat=1 from rfl,Nat.and_one_is_mod,Nat.shiftRight_eq_div_pow,Nat.testBit_eq_decide_div_mod_eq];exact decide_eq_decide.2 (by omega)
def QY(r:Qk)(Qa:List Int):List Value:=[Pg r.Qb,.int .i64 r.miss,.int .i64 r.seasons,.int .i64 (Qa.getD 0 0),.int .i64 (Qa.getD 1 0),.int .i64 (Qa.getD 2 0),.int .i64 (Qa.getD 3 0)]
theorem Qo{r:Qk}{Qa:List Int}(h:Qm r Qa=true):Qa.length=r.seasons/\∀x∈Qa,0<=x/\x<Zv r.Qb.length:=by
 simp only[Qm,YB,decide_eq_true_iff,List.all_eq_true,Ky]at h;exact⟨h.1,fun x hx=>by have:=h.2 x hx;omega⟩
def Pv(r:Qk)(s i:Int):List Value:=[pA 2 0,.int .i64 s,.int .i64 i]
def Kd(r:Qk)(s i:Int):List Obj:=[Obj.cells #[QF 1 (Xq r.Qb.length (Qj Qf r.Qb)),.int .i64 r.miss,.int .i64 r.seasons] 24]
def Pw:List Item:=([.code [1,1,0,1,0,0],.inLoop [1,1,0,1,0,0],.inBlock 0,.code [1,1,1]]).map (it (Xt YP 69))
def Am(B:Lo)(c0:CF)(r:Qk)(s i:Int):Prop:=∃dJ:Nat->Value,(∀t,Zf (dJ t))/\GoE YP B c0 ZH 1 (QJ 69 15 (([1,3,4]:List Nat).zip (Pv r s i)) dJ Pw) (QI (Kd r s i)) (2+(Kd r s i).length) []
set_option maxRecDepth 100000 in
theorem Ak(B:Lo)(r:Qk)(s i:Int)(Qr:Nat->Value):landM (Q2 YP (QB YP) J0 B 11 1 (QJ 69 15 (([1,3,4]:List Nat).zip (Pv r s i)) Qr Pw) (QI (Kd r s i)) (2+(Kd r s i).length)
 [(4,V4),(6,UW (2*s)),(9,UW (i+1))] 0 [] []) [1,3,4] [(2,KS.auto)] []=some ⟨69,15,Pw,[],.run,none,Pv r (2*s) (i+1),Kd r (2*s) (i+1),
 [wq (i+1)=i+1,wq (2*s)=2*s,Z7 i (↑r.Qb.length:Int)=true]⟩:=by kernel_rfl
set_option maxRecDepth 100000 in
theorem Aj(B:Lo)(r:Qk)(s i:Int)(Qr:Nat->Value):QS (Q2 YP (QB YP) J0 B 9 1 (QJ 69 15 (([1,3,4]:List Nat).zip (Pv r s i)) Qr Pw) (QI (Kd r s i)) (2+(Kd r s i).length)
 [(4,V5)] 0 [] []) []=some (.int .i64 s,
 [Z7 i (↑r.Qb.length:Int)=false]):=by kernel_rfl
set_option maxRecDepth 100000 in
theorem Ai(B:Lo)(r:Qk):landM (Q2 YP (QB YP) J0 B 9 1 (Q9 YP 69 15 (([.agg (QM r).toArray]).map (QG 0 4))) ZH 1
 [] 0 [] []) [1,3,4] [(1,KS.auto)] []=some ⟨69,15,Pw,[],.run,none,Pv r (1) (0),Kd r (1) (0),
 []⟩:=by kernel_rfl
set_option maxHeartbeats 4000000 in
theorem Al(r:Qk)(hn:r.Qb.length<=61){B:Lo}(hJ:∀w,B.has w->J0 w){c0:CF}:∀m:Nat,(∀(s i:Int),r.Qb.length-i.toNat=m->∀(h0:0<=i) (h1:i<=r.Qb.length) (hs:s=((Zv i:Nat):Int)),Am B c0 r s i->EndsT YP B c0 (.int .i64 ((Zv r.Qb.length:Nat):Int))):=by
 intro m0;induction m0 using LK with
 |_ m0 ih0=>
  intro s i hm0 h0 h1 hs ⟨Qr,Jn,X7⟩;have e1:=JJ (n:=i) (by omega);have e2:=yr (i:=i) h0;by_cases q0:(i:Int)<((↑r.Qb.length:Int))
  ·try have e3:=JJ (n:=i+1) (by omega)
   exact((ih0 _ (by omega)) (2*s) (i+1) rfl (by first|with_reducible assumption|omega|exact cf.symm|(rw[e2,hs];done)|(simp_all;done)) (by first|with_reducible assumption|omega|exact cf.symm|(rw[e2,hs];done)|(simp_all;done)) (by first|with_reducible assumption|omega|exact cf.symm|(rw[e2,hs];done)|(simp_all;done))
    (X7.landM okF hJ Qi (Ak B r s i Qr)
    ⟨(XX (by omega) (by omega)),⟨(XX (by omega) (by omega)),⟨(Z3 q0),trivial⟩⟩⟩ (by kernel_rfl) (by kernel_rfl))).cast (by first|rfl|(rw[hs,show i=r.Qb.length by omega];done))
  ·try have e3:=JJ (n:=i+1) (by omega)
   exact(GoE.endsT okF hJ Qi X7 (Aj B r s i Qr)
    ⟨(Z4 (Int.not_lt.1 q0)),trivial⟩).cast (by first|rfl|(rw[hs,show i=r.Qb.length by omega];done))
set_option maxHeartbeats 4000000 in
theorem C4(r:Qk)(hn:r.Qb.length<=61){B:Lo}(hJ:∀w,B.has w->J0 w):EndsT YP B (Q9 YP 69 15 (([.agg (QM r).toArray]).map (QG 0 4))) (.int .i64 ((Zv r.Qb.length:Nat):Int)):=by
 exact((Al r hn hJ _) (1) (0) rfl (by first|with_reducible assumption|omega|exact cf.symm|(rw[e2,hs];done)|(simp_all;done)) (by first|with_reducible assumption|omega|exact cf.symm|(rw[e2,hs];done)|(simp_all;done)) (by first|with_reducible assumption|omega|exact cf.symm|(rw[e2,hs];done)|(simp_all;done))
  (GoE.start.landM okF hJ Qi (Ai B r)
  trivial (by kernel_rfl) (by kernel_rfl))).cast (by first|rfl|(simp[*];done)|(simp_all[];done)|(simp_all[];omega))
theorem Fb(r:Qk)(hn:r.Qb.length<=61):Qz YP J0 69 #[.agg (QM r).toArray] (.int .i64 ((Zv r.Qb.length:Nat):Int)):=
 X8 (ts:=[.agg (QM r).toArray]) ZC (c0:=Q9 YP 69 15 (([.agg (QM r).toArray]).map (QG 0 4))) (by kernel_rfl) (by kernel_rfl) fun B hJ=>C4 r hn hJ
def KP(r:Qk)(Qa:List Int)(i:Int):List Value:=[QF 1 (Xq Qa.length (Qj Xl Qa)),pA 2 0,.int .i64 i]
def Vc(r:Qk)(Qa:List Int)(i:Int):List Obj:=[Obj.cells #[QF 1 (Xq r.Qb.length (Qj Qf r.Qb)),.int .i64 r.miss,.int .i64 r.seasons] 24]
def KQ:List Item:=([.code [1,0,1,0,0],.inLoop [1,0,1,0,0],.inBlock 0,.code [1,1]]).map (it (Xt YP 41))
def A7(B:Lo)(c0:CF)(r:Qk)(Qa:List Int)(i:Int):Prop:=∃dJ:Nat->Value,(∀t,Zf (dJ t))/\GoE YP B c0 ZH 1 (QJ 41 26 (([1,2,5]:List Nat).zip (KP r Qa i)) dJ KQ) (QI (Vc r Qa i)) (2+(Vc r Qa i).length) []
def pz(r:Qk)(Qa:List Int)(i:Int):Array Value:=#[.int .i64 (Qa.getD i.toNat La),.int .i64 0,.int .i64 ((↑(Zv (↑r.Qb.length:Int)):Int)-1)]
def py(r:Qk):Value:=(.int .i64 (↑(Zv (↑r.Qb.length:Int)):Int))
def gy(B:Lo)(r:Qk)(Qa:List Int)(i:Int)(Qr:Nat->Value):List Prop:=[wq ((↑(Zv (↑r.Qb.length:Int)):Int)-1)=(↑(Zv (↑r.Qb.length:Int)):Int)-1,Q3 []/\Qz YP J0 69 #[.agg #[Xq r.Qb.length (Qj Qf r.Qb),.int .i64 r.miss,.int .i64 r.seasons]] (py r),Vj i Qa.length (Qj Xl Qa) Try.t3.size #[.int .i64 (Qa.getD i.toNat La)],Z7 i (↑Qa.length:Int)=true]++([]:List Prop)
def p9(r:Qk)(Qa:List Int)(i:Int)(Qr:Nat->Value):QA:=[(3,V4),(6,Qu.tidx i.toNat #[.int .i64 (Qa.getD i.toNat La)]),(9,Qu.pure (py r) []),(10,UW ((↑(Zv (↑r.Qb.length:Int)):Int)-1))]
set_option maxRecDepth 100000 in
theorem A5(B:Lo)(r:Qk)(Qa:List Int)(i:Int)(Qr:Nat->Value):landM (Q2 YP (QB YP) J0 B 14 1 (QJ 41 26 (([1,2,5]:List Nat).zip (KP r Qa i)) Qr KQ) (QI (Vc r Qa i)) (2+(Vc r Qa i).length)
 (p9 r Qa i Qr++[(11,Qu.pure (.bool true) []),(14,UW (i+1))]) 0 [] []) [1,2,5] [(2,KS.auto)] []=some ⟨41,26,KQ,[],.run,none,KP r Qa (i+1),Vc r Qa (i+1),
 [wq (i+1)=i+1,Q3 []/\Qz YP J0 55 (pz r Qa i) (.bool true)]++gy B r Qa i Qr⟩:=by kernel_rfl
set_option maxRecDepth 100000 in
theorem A4(B:Lo)(r:Qk)(Qa:List Int)(i:Int)(Qr:Nat->Value):QS (Q2 YP (QB YP) J0 B 14 1 (QJ 41 26 (([1,2,5]:List Nat).zip (KP r Qa i)) Qr KQ) (QI (Vc r Qa i)) (2+(Vc r Qa i).length)
 (p9 r Qa i Qr++[(11,Qu.pure (.bool false) [])]) 0 [] []) []=some (.bool false,
 [Q3 []/\Qz YP J0 55 (pz r Qa i) (.bool false)]++gy B r Qa i Qr):=by kernel_rfl
def gx(B:Lo)(r:Qk)(Qa:List Int)(i:Int)(Qr:Nat->Value):List Prop:=[Z7 i (↑Qa.length:Int)=false]++([]:List Prop)
def p8(r:Qk)(Qa:List Int)(i:Int)(Qr:Nat->Value):QA:=[(3,V5)]
set_option maxRecDepth 100000 in
theorem A3(B:Lo)(r:Qk)(Qa:List Int)(i:Int)(Qr:Nat->Value):QS (Q2 YP (QB YP) J0 B 9 1 (QJ 41 26 (([1,2,5]:List Nat).zip (KP r Qa i)) Qr KQ) (QI (Vc r Qa i)) (2+(Vc r Qa i).length)
 (p8 r Qa i Qr++[(8,V4)]) 0 [] []) []=some (.bool true,
 [Yo (↑Qa.length:Int) r.seasons=true]++gx B r Qa i Qr):=by kernel_rfl
set_option maxRecDepth 100000 in
theorem A0(B:Lo)(r:Qk)(Qa:List Int)(i:Int)(Qr:Nat->Value):QS (Q2 YP (QB YP) J0 B 9 1 (QJ 41 26 (([1,2,5]:List Nat).zip (KP r Qa i)) Qr KQ) (QI (Vc r Qa i)) (2+(Vc r Qa i).length)
 (p8 r Qa i Qr++[(8,V5)]) 0 [] []) []=some (.bool false,
 [Yo (↑Qa.length:Int) r.seasons=false]++gx B r Qa i Qr):=by kernel_rfl
set_option maxRecDepth 100000 in
theorem Az(B:Lo)(r:Qk)(Qa:List Int):landM (Q2 YP (QB YP) J0 B 7 1 (Q9 YP 41 26 (([.agg (QM r).toArray,Zu Qa]).map (QG 0 4))) ZH 1
 [] 0 [] []) [1,2,5] [(1,KS.auto)] []=some ⟨41,26,KQ,[],.run,none,KP r Qa (0),Vc r Qa (0),
 []⟩:=by kernel_rfl
set_option maxHeartbeats 4000000 in
theorem A6(r:Qk)(Qa:List Int)(hn:r.Qb.length<=61)(Zb:Qa.length<=9223372036854775807){B:Lo}(hJ:∀w,B.has w->J0 w){c0:CF}:∀m:Nat,(∀(i:Int),Qa.length-i.toNat=m->∀(h0:0<=i),A7 B c0 r Qa i->EndsT YP B c0 (.bool ((Qa.drop i.toNat).all (fun x=>W5 x 0 (((Zv r.Qb.length:Nat):Int)-1)) && decide (Qa.length=r.seasons)))):=by
 intro m0;induction m0 using LK with
 |_ m0 ih0=>
  intro i hm0 h0 ⟨Qr,Jn,X7⟩;have e1:=JJ (n:=r.Qb.length) (by omega);have e1:=JJ (n:=r.Qb.length) (by omega);by_cases q0:(i:Int)<((↑Qa.length:Int))
  ·have UX:Q3 (gy B r Qa i Qr):=by
    try have s2:=Jp (l:=Qa) (p:=fun x=>W5 x 0 (((Zv r.Qb.length:Nat):Int)-1)) h0 q0
    try have s2:=Jo (l:=Qa) (p:=fun x=>W5 x 0 (((Zv r.Qb.length:Nat):Int)-1)) (i:=i) (by omega)
    exact⟨(XX (by omega) (by omega)),⟨⟨trivial,Fb (r) (by first|with_reducible assumption|omega|simp_all)⟩,⟨⟨by omega,by omega,(QW (z:=1) (fun _=>rfl) (by first|omega|(rw[Lf];omega)|(rw[Lh];omega)))⟩,⟨(Z3 q0),trivial⟩⟩⟩⟩
   cases q1:W5 (Qa.getD i.toNat La) 0 ((↑(Zv (↑r.Qb.length:Int)):Int)-1)with
   |true=>
    try have s2:=Jp (l:=Qa) (p:=fun x=>W5 x 0 (((Zv r.Qb.length:Nat):Int)-1)) h0 q0
    try have s2:=Jo (l:=Qa) (p:=fun x=>W5 x 0 (((Zv r.Qb.length:Nat):Int)-1)) (i:=i) (by omega)
    exact((ih0 _ (by omega)) (i+1) rfl (by first|with_reducible assumption|omega|(simp_all;done))
     (X7.landM okF hJ Qi (A5 B r Qa i Qr)
     ⟨(XX (by omega) (by omega)),⟨⟨trivial,(by have t_:=l9 (Qa.getD i.toNat La) (0) ((↑(Zv (↑r.Qb.length:Int)):Int)-1);rw[q1]at t_;exact t_)⟩,UX⟩⟩ (by kernel_rfl) (by kernel_rfl))).cast (by first|rfl|(rw[s2];simp[*];done)|(rw[s2];simp_all;done)|(rw[s2];done))
   |false=>
    try have s2:=Jp (l:=Qa) (p:=fun x=>W5 x 0 (((Zv r.Qb.length:Nat):Int)-1)) h0 q0
    try have s2:=Jo (l:=Qa) (p:=fun x=>W5 x 0 (((Zv r.Qb.length:Nat):Int)-1)) (i:=i) (by omega)
    exact(GoE.endsT okF hJ Qi X7 (A4 B r Qa i Qr)
     ⟨⟨trivial,(by have t_:=l9 (Qa.getD i.toNat La) (0) ((↑(Zv (↑r.Qb.length:Int)):Int)-1);rw[q1]at t_;exact t_)⟩,UX⟩).cast (by first|rfl|(rw[s2];simp[*];done)|(rw[s2];simp_all;done)|(rw[s2];done))
  ·have hp1:Q3 (gx B r Qa i Qr):=by
    exact⟨(Z4 (Int.not_lt.1 q0)),trivial⟩
   by_cases q1:((↑Qa.length:Int):Int)=r.seasons
   ·try have s2:=Jp (l:=Qa) (p:=fun x=>W5 x 0 (((Zv r.Qb.length:Nat):Int)-1)) h0 q0
    try have s2:=Jo (l:=Qa) (p:=fun x=>W5 x 0 (((Zv r.Qb.length:Nat):Int)-1)) (i:=i) (by omega)
    exact(GoE.endsT okF hJ Qi X7 (A3 B r Qa i Qr)
     ⟨(az q1),hp1⟩).cast (by first|rfl|(rw[s2];simp[*];done)|(rw[s2];simp_all;done)|(rw[s2];done))
   ·try have s2:=Jp (l:=Qa) (p:=fun x=>W5 x 0 (((Zv r.Qb.length:Nat):Int)-1)) h0 q0
    try have s2:=Jo (l:=Qa) (p:=fun x=>W5 x 0 (((Zv r.Qb.length:Nat):Int)-1)) (i:=i) (by omega)
    exact(GoE.endsT okF hJ Qi X7 (A0 B r Qa i Qr)
     ⟨(a6 q1),hp1⟩).cast (by first|rfl|(rw[s2];simp[*];done)|(rw[s2];simp_all;done)|(rw[s2];done))
set_option maxHeartbeats 4000000 in
theorem C6(r:Qk)(Qa:List Int)(hn:r.Qb.length<=61)(Zb:Qa.length<=9223372036854775807){B:Lo}(hJ:∀w,B.has w->J0 w):EndsT YP B (Q9 YP 41 26 (([.agg (QM r).toArray,Zu Qa]).map (QG 0 4))) (.bool (Qm r Qa)):=by
 have e1:=JJ (n:=r.Qb.length) (by omega);exact((A6 r Qa hn Zb hJ _) (0) rfl (by first|with_reducible assumption|omega|(simp_all;done))
  (GoE.start.landM okF hJ Qi (Az B r Qa)
  trivial (by kernel_rfl) (by kernel_rfl))).cast (by first|rfl|(simp[Qm,Bool.and_comm];done))
theorem DH(r:Qk)(Qa:List Int)(hn:r.Qb.length<=61):Qz YP J0 41 #[.agg (QM r).toArray,Zu Qa] (.bool (Qm r Qa)):=
 Uk (ts:=[.agg (QM r).toArray,Zu Qa]) (Qa.length<=9223372036854775807) (fun _ _ ht=>ht.ln (i:=1) rfl) ZC (c0:=Q9 YP 41 26 (([.agg (QM r).toArray,Zu Qa]).map (QG 0 4))) (by kernel_rfl) (by kernel_rfl) fun Zb B hJ=>C6 r Qa hn Zb hJ
def RP(n k:Int)(x i:Int):List Value:=[.int .i64 x,.int .i64 k,.int .i64 i]
def UU(n k:Int)(x i:Int):List Obj:=[]
def RQ:List Item:=([.code [1,0,1,0,0],.inLoop [1,0,1,0,0],.inBlock 0,.code [1,1]]).map (it (Xt YP 47))
def CC(B:Lo)(c0:CF)(n k:Int)(x i:Int):Prop:=∃dJ:Nat->Value,(∀t,Zf (dJ t))/\GoE YP B c0 ZH 1 (QJ 47 16 (([0,1,5]:List Nat).zip (RP n k x i)) dJ RQ) (QI (UU n k x i)) (2+(UU n k x i).length) []
set_option maxRecDepth 100000 in
theorem CA(B:Lo)(n k:Int)(x i:Int)(Qr:Nat->Value):landM (Q2 YP (QB YP) J0 B 11 1 (QJ 47 16 (([0,1,5]:List Nat).zip (RP n k x i)) Qr RQ) (QI (UU n k x i)) (2+(UU n k x i).length)
 [(2,V4),(4,UW (Le x 2)),(7,UW (i+1))] 0 [] []) [0,1,5] [] []=some ⟨47,16,RQ,[],.run,none,RP n k (Le x 2) (i+1),UU n k (Le x 2) (i+1),
 [wq (i+1)=i+1,IntKind.wrap .i64 (Le x 2)=Le x 2,Z7 i k=true]⟩:=by kernel_rfl
def mL(B:Lo)(n k:Int)(x i:Int)(Qr:Nat->Value):List Prop:=[Z7 i k=false]++([]:List Prop)
def vp(n k:Int)(x i:Int)(Qr:Nat->Value):QA:=[(2,V5)]
set_option maxRecDepth 100000 in
theorem C9(B:Lo)(n k:Int)(x i:Int)(Qr:Nat->Value):QS (Q2 YP (QB YP) J0 B 9 1 (QJ 47 16 (([0,1,5]:List Nat).zip (RP n k x i)) Qr RQ) (QI (UU n k x i)) (2+(UU n k x i).length)
 (vp n k x i Qr++[(5,V4)]) 0 [] []) []=some (.bool true,
 [Yo (Int.tmod x 2) 1=true]++mL B n k x i Qr):=by kernel_rfl
set_option maxRecDepth 100000 in
theorem C8(B:Lo)(n k:Int)(x i:Int)(Qr:Nat->Value):QS (Q2 YP (QB YP) J0 B 9 1 (QJ 47 16 (([0,1,5]:List Nat).zip (RP n k x i)) Qr RQ) (QI (UU n k x i)) (2+(UU n k x i).length)
 (vp n k x i Qr++[(5,V5)]) 0 [] []) []=some (.bool false,
 [Yo (Int.tmod x 2) 1=false]++mL B n k x i Qr):=by kernel_rfl
set_option maxRecDepth 100000 in
theorem C7(B:Lo)(n k:Int):landM (Q2 YP (QB YP) J0 B 7 1 (Q9 YP 47 16 (([.int .i64 n,.int .i64 k]).map (QG 0 4))) ZH 1
 [] 0 [] []) [0,1,5] [] []=some ⟨47,16,RQ,[],.run,none,RP n k (n) (0),UU n k (n) (0),
 []⟩:=by kernel_rfl
set_option maxHeartbeats 4000000 in
theorem CB(n k:Int)(hn:0<=n/\n<=1000000000)(hk:0<=k/\k<=1000000000){B:Lo}(hJ:∀w,B.has w->J0 w){c0:CF}:∀m:Nat,(∀(x i:Int),(k-i).toNat=m->∀(h0:0<=i) (h1:i<=k) (h2:0<=x/\x<=1000000000) (hx:hasB x (k-i)=hasB n k),CC B c0 n k x i->EndsT YP B c0 (.bool (hasB n k))):=by
 intro m0;induction m0 using LK with
 |_ m0 ih0=>
  intro x i hm0 h0 h1 h2 hx ⟨Qr,Jn,X7⟩;have e1:x.tdiv 2=x / 2:=LM h2.1;have e2:x.tmod 2=x % 2:=Int.tmod_eq_emod_of_nonneg h2.1;have e4:=Fy (n:=x) h2.1;by_cases q0:(i:Int)<(k)
  ·try have e3:=jK (n:=x) (k:=k-i) h2.1 (by omega)
   exact((ih0 _ (by omega)) (Le x 2) (i+1) rfl (by first|with_reducible assumption|omega|(rw[<-hx,e3,e1,show k-(i+1)=k-i-1 by omega];done)|(simp_all;done)) (by first|with_reducible assumption|omega|(rw[<-hx,e3,e1,show k-(i+1)=k-i-1 by omega];done)|(simp_all;done)) (by first|with_reducible assumption|omega|(rw[<-hx,e3,e1,show k-(i+1)=k-i-1 by omega];done)|(simp_all;done)) (by first|with_reducible assumption|omega|(rw[<-hx,e3,e1,show k-(i+1)=k-i-1 by omega];done)|(simp_all;done))
    (X7.landM okF hJ Qi (CA B n k x i Qr)
    ⟨(XX (by omega) (by omega)),⟨(PS (by omega) (by omega)),⟨(Z3 q0),trivial⟩⟩⟩ (by kernel_rfl) (by kernel_rfl))).cast (by first|rfl|(rw[<-hx,show k-i=0 by omega,e4];simp[*];omega))
  ·have UX:Q3 (mL B n k x i Qr):=by
    exact⟨(Z4 (Int.not_lt.1 q0)),trivial⟩
   by_cases q1:(Int.tmod x 2:Int)=(1)
   ·try have e3:=jK (n:=x) (k:=k-i) h2.1 (by omega)
    exact(GoE.endsT okF hJ Qi X7 (C9 B n k x i Qr)
     ⟨(az q1),UX⟩).cast (by first|rfl|(rw[<-hx,show k-i=0 by omega,e4];simp[*];omega))
   ·try have e3:=jK (n:=x) (k:=k-i) h2.1 (by omega)
    exact(GoE.endsT okF hJ Qi X7 (C8 B n k x i Qr)
     ⟨(a6 q1),UX⟩).cast (by first|rfl|(rw[<-hx,show k-i=0 by omega,e4];simp[*];omega))
set_option maxHeartbeats 4000000 in
theorem Ei(n k:Int)(hn:0<=n/\n<=1000000000)(hk:0<=k/\k<=1000000000){B:Lo}(hJ:∀w,B.has w->J0 w):EndsT YP B (Q9 YP 47 16 (([.int .i64 n,.int .i64 k]).map (QG 0 4))) (.bool (hasB n k)):=by
 exact((CB n k hn hk hJ _) (n) (0) rfl (by first|with_reducible assumption|omega|(rw[<-hx,e3,e1,show k-(i+1)=k-i-1 by omega];done)|(simp_all;done)) (by first|with_reducible assumption|omega|(rw[<-hx,e3,e1,show k-(i+1)=k-i-1 by omega];done)|(simp_all;done)) (by first|with_reducible assumption|omega|(rw[<-hx,e3,e1,show k-(i+1)=k-i-1 by omega];done)|(simp_all;done)) (by first|with_reducible assumption|omega|(rw[<-hx,e3,e1,show k-(i+1)=k-i-1 by omega];done)|(simp_all;done))
  (GoE.start.landM okF hJ Qi (C7 B n k)
  trivial (by kernel_rfl) (by kernel_rfl))).cast (by first|rfl|(simp[*];done)|(simp_all[];done)|(simp_all[];omega))
theorem Fc(n k:Int)(hn:0<=n/\n<=1000000000)(hk:0<=k/\k<=1000000000):Qz YP J0 47 #[.int .i64 n,.int .i64 k] (.bool (hasB n k)):=
 X8 (ts:=[.int .i64 n,.int .i64 k]) ZC (c0:=Q9 YP 47 16 (([.int .i64 n,.int .i64 k]).map (QG 0 4))) (by kernel_rfl) (by kernel_rfl) fun B hJ=>Ei n k hn hk hJ
def h8(r:Qk)(Qa:List Int):Array Value:=#[Xq Qa.length (Qj Xl Qa),.int .i64 0,.int .i64 ((↑(Zv (↑r.Qb.length:Int)):Int)-1)]
def gZ(r:Qk):Value:=(.int .i64 (↑(Zv (↑r.Qb.length:Int)):Int))
def SJ(B:Lo)(r:Qk)(Qa:List Int):List Prop:=[wq ((↑(Zv (↑r.Qb.length:Int)):Int)-1)=(↑(Zv (↑r.Qb.length:Int)):Int)-1,kA YP BinOp.shl 3 (.int .i64 1) (Zc {len:=16000,tr:=Tri.set 14 Tri.lf 14 (.int .i64 (↑r.Qb.length:Int))} 14) (gZ r),Yo (↑Qa.length:Int) r.seasons=true]++([]:List Prop)
def hC(r:Qk)(Qa:List Int):QA:=[(6,V4),(12,Qu.bin (gZ r)),(13,UW ((↑(Zv (↑r.Qb.length:Int)):Int)-1))]
set_option maxRecDepth 100000 in
theorem tx(B:Lo)(r:Qk)(Qa:List Int):QS (Q2 YP (QB YP) J0 B 6 1 (Q9 YP 51 19 (([.agg (QM r).toArray,Zu Qa]).map (QG 0 4))) ZH 1
 (hC r Qa++[(14,Qu.pure (.bool true) [])]) 0 [] []) []=some (.bool true,
 [Q3 []/\Qz YP J0 74 (h8 r Qa) (.bool true)]++SJ B r Qa):=by kernel_rfl
set_option maxRecDepth 100000 in
theorem tw(B:Lo)(r:Qk)(Qa:List Int):QS (Q2 YP (QB YP) J0 B 6 1 (Q9 YP 51 19 (([.agg (QM r).toArray,Zu Qa]).map (QG 0 4))) ZH 1
 (hC r Qa++[(14,Qu.pure (.bool false) [])]) 0 [] []) []=some (.bool false,
 [Q3 []/\Qz YP J0 74 (h8 r Qa) (.bool false)]++SJ B r Qa):=by kernel_rfl
set_option maxRecDepth 100000 in
theorem tv(B:Lo)(r:Qk)(Qa:List Int):QS (Q2 YP (QB YP) J0 B 6 1 (Q9 YP 51 19 (([.agg (QM r).toArray,Zu Qa]).map (QG 0 4))) ZH 1
 [(6,V5)] 0 [] []) []=some (.bool false,
 [Yo (↑Qa.length:Int) r.seasons=false]):=by kernel_rfl
set_option maxHeartbeats 4000000 in
theorem yw(r:Qk)(Qa:List Int)(hn:r.Qb.length<=61)(Zb:Qa.length<=9223372036854775807){B:Lo}(hJ:∀w,B.has w->J0 w):EndsT YP B (Q9 YP 51 19 (([.agg (QM r).toArray,Zu Qa]).map (QG 0 4))) (.bool (Qm r Qa)):=by
 have e1:=JJ (n:=r.Qb.length) (by omega);by_cases q0:((↑Qa.length:Int):Int)=r.seasons
 ·have UX:Q3 (SJ B r Qa):=by
   exact⟨(XX (by omega) (by omega)),⟨(Cg (by omega) (by omega)),⟨(az q0),trivial⟩⟩⟩
  cases q1:List.all Qa fun x=>W5 x 0 ((↑(Zv (↑r.Qb.length:Int)):Int)-1)with
  |true=>
   exact(GoE.endsT okF hJ Qi GoE.start (tx B r Qa)
    ⟨⟨trivial,(by have t_:=Bj (Qa) (0) ((↑(Zv (↑r.Qb.length:Int)):Int)-1);rw[q1]at t_;exact t_)⟩,UX⟩).cast (by first|rfl|(simp[Qm, *];done)|(simp_all[Qm];done)|(simp_all[Qm];omega))
  |false=>
   exact(GoE.endsT okF hJ Qi GoE.start (tw B r Qa)
    ⟨⟨trivial,(by have t_:=Bj (Qa) (0) ((↑(Zv (↑r.Qb.length:Int)):Int)-1);rw[q1]at t_;exact t_)⟩,UX⟩).cast (by first|rfl|(simp[Qm, *];done)|(simp_all[Qm];done)|(simp_all[Qm];omega))
 ·exact(GoE.endsT okF hJ Qi GoE.start (tv B r Qa)
   ⟨(a6 q0),trivial⟩).cast (by first|rfl|(simp[Qm, *];done)|(simp_all[Qm];done)|(simp_all[Qm];omega))
theorem vz(r:Qk)(Qa:List Int)(hn:r.Qb.length<=61):Qz YP J0 51 #[.agg (QM r).toArray,Zu Qa] (.bool (Qm r Qa)):=
 Uk (ts:=[.agg (QM r).toArray,Zu Qa]) (Qa.length<=9223372036854775807) (fun _ _ ht=>ht.ln (i:=1) rfl) ZC (c0:=Q9 YP 51 19 (([.agg (QM r).toArray,Zu Qa]).map (QG 0 4))) (by kernel_rfl) (by kernel_rfl) fun Zb B hJ=>yw r Qa hn Zb hJ
def T3(r:Qk):Value:=(Xq r.Qb.length (Qj Qf r.Qb))
def T5(r:Qk)(Qa:List Int):Array Value:=#[QF 0 (T3 r),.int .i64 r.miss,.int .i64 r.seasons,.int .i64 (Qa.getD 0 La),.int .i64 (Qa.getD 1 La),.int .i64 (Qa.getD 2 La),.int .i64 (Qa.getD 3 La)]
def T4(r:Qk):Array Value:=#[QF 0 (T3 r),.int .i64 r.miss,.int .i64 r.seasons,.int .i64 0,.int .i64 0,.int .i64 0,.int .i64 0]
set_option maxRecDepth 100000 in
theorem mN(B:Lo)(r:Qk)(Qa:List Int):QS (Q2 YP (QB YP) J0 B 10 1 (Q9 YP 52 13 (([.agg (QM r).toArray,Zu Qa]).map (QG 0 4))) ZH 1
 [(9,Qu.tcpy (T5 r Qa))] 0 [] []) []=some (.agg #[Xq r.Qb.length (Qj Qf r.Qb),.int .i64 r.miss,.int .i64 r.seasons,.int .i64 (Qa.getD 0 La),.int .i64 (Qa.getD 1 La),.int .i64 (Qa.getD 2 La),.int .i64 (Qa.getD 3 La)],
 [0<Lc Qa/\3+LJ Qa.length 4*TypeInfo.size Try.t3<=LR (T4 r)/\LJ Qa.length 4*TypeInfo.size Try.t3<=LR (Qj Xl Qa)/\(Array.all (Qj Xl Qa) fun v=>simple v || ZX v)=true/\ones (Array.map (Zl 0) (Array.extract (Qj Xl Qa) 0 (LJ Qa.length 4*TypeInfo.size Try.t3)))=true/\splice (T4 r) 3 (Array.map (Zl 0) (Array.extract (Qj Xl Qa) 0 (LJ Qa.length 4*TypeInfo.size Try.t3)))=(T5 r Qa)]):=by kernel_rfl
set_option maxHeartbeats 4000000 in
theorem pC(r:Qk)(Qa:List Int)(h0:0<Qa.length)(hl:Qa.length<=4){B:Lo}(hJ:∀w,B.has w->J0 w):EndsT YP B (Q9 YP 52 13 (([.agg (QM r).toArray,Zu Qa]).map (QG 0 4))) (.agg (QY r Qa).toArray):=by
 exact(GoE.endsT okF hJ Qi GoE.start (mN B r Qa)
  ⟨(jY (fun _=>rfl) rfl (by omega) (by omega) rfl (YL rfl) rfl),trivial⟩).cast (by first|rfl|(simp[*];done)|(simp_all[];done)|(simp_all[];omega))
theorem yd(r:Qk)(Qa:List Int)(h0:0<Qa.length)(hl:Qa.length<=4):Qz YP J0 52 #[.agg (QM r).toArray,Zu Qa] (.agg (QY r Qa).toArray):=
 X8 (ts:=[.agg (QM r).toArray,Zu Qa]) ZC (c0:=Q9 YP 52 13 (([.agg (QM r).toArray,Zu Qa]).map (QG 0 4))) (by kernel_rfl) (by kernel_rfl) fun B hJ=>pC r Qa h0 hl hJ
set_option maxRecDepth 100000 in
theorem za(B:Lo)(r:Qk):QS (Q2 YP (QB YP) J0 B 6 1 (Q9 YP 15 7 (([.agg (QM r).toArray]).map (QG 0 4))) ZH 1
 [(5,V4)] 0 [] []) []=some (.bool true,
 [(!Z7 8 (↑r.Qb.length:Int))=true]):=by kernel_rfl
set_option maxRecDepth 100000 in
theorem yZ(B:Lo)(r:Qk):QS (Q2 YP (QB YP) J0 B 6 1 (Q9 YP 15 7 (([.agg (QM r).toArray]).map (QG 0 4))) ZH 1
 [(5,V5)] 0 [] []) []=some (.bool false,
 [(!Z7 8 (↑r.Qb.length:Int))=false]):=by kernel_rfl
set_option maxHeartbeats 4000000 in
theorem Bw(r:Qk)  (Zb:r.Qb.length<=9223372036854775807){B:Lo}(hJ:∀w,B.has w->J0 w):EndsT YP B (Q9 YP 15 7 (([.agg (QM r).toArray]).map (QG 0 4))) (.bool (decide (r.Qb.length<=8))):=by
 by_cases q0:((↑r.Qb.length:Int):Int)<=(8)
 ·exact(GoE.endsT okF hJ Qi GoE.start (za B r)
   ⟨(Uf q0),trivial⟩).cast (by first|rfl|(simp[*];done)|(simp_all[];done)|(simp_all[];omega))
 ·exact(GoE.endsT okF hJ Qi GoE.start (yZ B r)
   ⟨(Ug (Int.not_le.1 q0)),trivial⟩).cast (by first|rfl|(simp[*];done)|(simp_all[];done)|(simp_all[];omega))
theorem Bx(r:Qk)  :Qz YP J0 15 #[.agg (QM r).toArray] (.bool (decide (r.Qb.length<=8))):=
 Uk (ts:=[.agg (QM r).toArray]) (r.Qb.length<=9223372036854775807) (fun _ _ ht=>ht.ln2 (i:=0) (j:=0) rfl rfl) ZC (c0:=Q9 YP 15 7 (([.agg (QM r).toArray]).map (QG 0 4))) (by kernel_rfl) (by kernel_rfl) fun Zb B hJ=>Bw r  Zb hJ
def Sl(r:Qk):Array Value:=#[Xq r.Qb.length (Qj Qf r.Qb),.int .i64 r.miss,.int .i64 r.seasons]
def cw(B:Lo)(r:Qk)(Qa:List Int):List Prop:=[Q3 []/\Qz YP J0 20 #[.agg (Sl r)] (.bool true)]++([]:List Prop)
def mg(r:Qk)(Qa:List Int):QA:=[(3,Qu.pure (.bool true) [])]
set_option maxRecDepth 100000 in
theorem zj(B:Lo)(r:Qk)(Qa:List Int):QS (Q2 YP (QB YP) J0 B 6 1 (Q9 YP 21 12 (([.agg (QM r).toArray,Zu Qa]).map (QG 0 4))) ZH 1
 (mg r Qa++[(7,Qu.pure (.bool true) [])]) 0 [] []) []=some (.bool true,
 [Q3 []/\Qz YP J0 41 #[.agg (Sl r),Xq Qa.length (Qj Xl Qa)] (.bool true)]++cw B r Qa):=by kernel_rfl
set_option maxRecDepth 100000 in
theorem zi(B:Lo)(r:Qk)(Qa:List Int):QS (Q2 YP (QB YP) J0 B 6 1 (Q9 YP 21 12 (([.agg (QM r).toArray,Zu Qa]).map (QG 0 4))) ZH 1
 (mg r Qa++[(7,Qu.pure (.bool false) [])]) 0 [] []) []=some (.bool false,
 [Q3 []/\Qz YP J0 41 #[.agg (Sl r),Xq Qa.length (Qj Xl Qa)] (.bool false)]++cw B r Qa):=by kernel_rfl
set_option maxRecDepth 100000 in
theorem zh(B:Lo)(r:Qk)(Qa:List Int):QS (Q2 YP (QB YP) J0 B 6 1 (Q9 YP 21 12 (([.agg (QM r).toArray,Zu Qa]).map (QG 0 4))) ZH 1
 [(3,Qu.pure (.bool false) [])] 0 [] []) []=some (.bool false,
 [Q3 []/\Qz YP J0 20 #[.agg (Sl r)] (.bool false)]):=by kernel_rfl
set_option maxHeartbeats 4000000 in
theorem B0(r:Qk)(Qa:List Int)  {B:Lo}(hJ:∀w,B.has w->J0 w):EndsT YP B (Q9 YP 21 12 (([.agg (QM r).toArray,Zu Qa]).map (QG 0 4))) (.bool (Ql r && Qm r Qa)):=by
 cases q0:Ql r with
 |true=>
  have UX:Q3 (cw B r Qa):=by
   try have Xy:=(Qn (Qg ‹Ql r=true›).1).1
   exact⟨⟨trivial,(by have t_:=DG (r);rw[q0]at t_;exact t_)⟩,trivial⟩
  cases q1:Qm r Qa with
  |true=>
   try have Xy:=(Qn (Qg ‹Ql r=true›).1).1
   exact(GoE.endsT okF hJ Qi GoE.start (zj B r Qa)
    ⟨⟨trivial,(by have t_:=DH (r) (Qa) (by first|with_reducible assumption|omega|simp_all);rw[q1]at t_;exact t_)⟩,UX⟩).cast (by first|rfl|(simp[*];done)|(simp_all[];done)|(simp_all[];omega))
  |false=>
   try have Xy:=(Qn (Qg ‹Ql r=true›).1).1
   exact(GoE.endsT okF hJ Qi GoE.start (zi B r Qa)
    ⟨⟨trivial,(by have t_:=DH (r) (Qa) (by first|with_reducible assumption|omega|simp_all);rw[q1]at t_;exact t_)⟩,UX⟩).cast (by first|rfl|(simp[*];done)|(simp_all[];done)|(simp_all[];omega))
 |false=>
  try have Xy:=(Qn (Qg ‹Ql r=true›).1).1
  exact(GoE.endsT okF hJ Qi GoE.start (zh B r Qa)
   ⟨⟨trivial,(by have t_:=DG (r);rw[q0]at t_;exact t_)⟩,trivial⟩).cast (by first|rfl|(simp[*];done)|(simp_all[];done)|(simp_all[];omega))
theorem uy(r:Qk)(Qa:List Int)  :Qz YP J0 21 #[.agg (QM r).toArray,Zu Qa] (.bool (Ql r && Qm r Qa)):=
 X8 (ts:=[.agg (QM r).toArray,Zu Qa]) ZC (c0:=Q9 YP 21 12 (([.agg (QM r).toArray,Zu Qa]).map (QG 0 4))) (by kernel_rfl) (by kernel_rfl) fun B hJ=>B0 r Qa  hJ
set_option maxRecDepth 100000 in
theorem Bv(B:Lo)(a b:Int):QS (Q2 YP (QB YP) J0 B 6 1 (Q9 YP 46 8 (([.int .i64 a,.int .i64 b]).map (QG 0 4))) ZH 1
 [] 0 [] []) []=some (.agg #[.int .i64 a,.int .i64 b],
 []):=by kernel_rfl
set_option maxHeartbeats 4000000 in
theorem Df(a b:Int)  {B:Lo}(hJ:∀w,B.has w->J0 w):EndsT YP B (Q9 YP 46 8 (([.int .i64 a,.int .i64 b]).map (QG 0 4))) (.agg #[.int .i64 a,.int .i64 b]):=by
 exact(GoE.endsT okF hJ Qi GoE.start (Bv B a b)
  trivial).cast (by first|rfl|(simp[*];done)|(simp_all[];done)|(simp_all[];omega))
theorem DL(a b:Int)  :Qz YP J0 46 #[.int .i64 a,.int .i64 b] (.agg #[.int .i64 a,.int .i64 b]):=
 X8 (ts:=[.int .i64 a,.int .i64 b]) ZC (c0:=Q9 YP 46 8 (([.int .i64 a,.int .i64 b]).map (QG 0 4))) (by kernel_rfl) (by kernel_rfl) fun B hJ=>Df a b  hJ
end
end Go.Proofs.Ytncjjangllkokaa

