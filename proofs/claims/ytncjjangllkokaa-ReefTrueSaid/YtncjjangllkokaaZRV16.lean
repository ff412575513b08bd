import Derived.Test.YtncjjangllkokaaZRV15
set_option linter.all false
open List renaming getD_eq_getElem?_getD->Ol,set->OL,replicate->Oi,length->Oc,length_set->OS,length_replicate->OC,getD->Ob,range->Oe,getElem?_eq_none->Ou,mem_cons_of_mem->Ot,flatMap_cons->OX,length_append->OJ
open Int renaming toNat->Oa,tdiv_eq_ediv_of_nonneg->OI,le_refl->OV,tdiv->Od
open Array renaming size->OD,extract->Oy
open Nat renaming strongRecOn->Ox,min->OU,lt_of_lt_of_eq->Oo
open List.Mem renaming head->OT
open Inhabited renaming default->NZ
namespace Go.Proofs.Ytncjjangllkokaa
open Go Go.CE Go.RowKit
noncomputable section
set_option maxRecDepth 100000
def TC(s:Span):Int:=s.lo
def TD(s:Span):Int:=s.hi
def Xi(rf:Qi):List Int:=(rf.Qb.map (X2 rf.Qc)).map TC
def Xj(rf:Qi):List Int:=(rf.Qb.map (X2 rf.Qc)).map TD
def Wn(rf:Qi):List Int:=(rf.Qb.map Xg).map TC
def Wo(rf:Qi):List Int:=(rf.Qb.map Xg).map TD
def Wd(rf:Qi)(p:Int):List Int:=(Xm rf.Qb p).map TC
def We(rf:Qi)(p:Int):List Int:=(Xm rf.Qb p).map TD
theorem VJ{α:Type}[Inhabited α]{l:List α}{f:α->Span}{g:Span->Int}{k:Int}(h0:0<=k)(h:k<l.length):nth ((l.map f).map g) k=g (f (l.getD k.toNat NZ)):=by
 obtain⟨m,rfl⟩:∃m:Nat,k=m:=⟨k.toNat,by omega⟩
 have hm:m<l.length:=by omega
 show((l.map f).map g).getD ((m:Int).toNat) NZ=_;simp[Ol,hm]
theorem bS{rf:Qi}(hr:Zd rf=true):Ko rf.Qb.length (Wn rf) 2000/\Ko rf.Qb.length (Wo rf) 2000:=by
 refine⟨⟨by simp[Wn],fun k h0 h1=> ?_⟩,⟨by simp[Wo],fun k h0 h1=> ?_⟩⟩
 ·have hp:=ZP ((QQ hr).2 k h0 h1).1;unfold Wn;rw[VJ h0 h1];simp only[Xg,TC];omega
 ·have hp:=ZP ((QQ hr).2 k h0 h1).1;unfold Wo;rw[VJ h0 h1];simp only[Xg,TD];omega
theorem Ty{l:List Span}{g:Span->Int}{k:Int}(h0:0<=k)(h:k<l.length):nth (l.map g) k=g (l.getD k.toNat NZ):=by
 obtain⟨m,rfl⟩:∃m:Nat,k=m:=⟨k.toNat,by omega⟩
 have hm:m<l.length:=by omega
 show(l.map g).getD ((m:Int).toNat) NZ=_;simp[Ol,hm]
theorem bl{rf:Qi}(hr:Zd rf=true)(p:Int):Ko rf.Qb.length (Wd rf p) 1000000/\Ko rf.Qb.length (We rf p) 1000000:=by
 refine⟨⟨by simp[Wd,WW],fun k h0 h1=> ?_⟩,⟨by simp[We,WW],fun k h0 h1=> ?_⟩⟩
 ·have hp:=fA hr (p:=p) h0 h1;unfold Wd;rw[Ty h0 (by rw[WW];exact h1),TI h0 h1];simp only[TC];omega
 ·have hp:=fA hr (p:=p) h0 h1;unfold We;rw[Ty h0 (by rw[WW];exact h1),TI h0 h1];simp only[TD];omega
def S7(xs:List Span)(i:Int)(ys:List Int):List Value:=[Value.func (Fn.func 76) #[] #[],.slice (some {block:=2,off:=0}) xs.length 1,Q2 1 (QI xs.length (Qh Qo xs)),.int .i64 (↑xs.length:Int),.int .i64 i]
def Yh(xs:List Span)(i:Int)(ys:List Int):List Obj:=[.cells (Qh QR ys) 3 (0,0)]
def S8:List Item:=([.code [1,1,0,1,0,0],.inLoop [1,1,0,1,0,0],.inBlock 0,.code [1,1,1]]).map (it (QP YP 97))
def Dv(B:Lo)(c0:CF)(xs:List Span)(i:Int)(ys:List Int):Prop:=∃dJ:Nat->Value,(∀t,Xy (dJ t))/\GoE YP B c0 Zf 1 (QK 97 26 (([1,5,11,12,13]:List Nat).zip (S7 xs i ys)) dJ S8) (QH (Yh xs i ys)) (2+(Yh xs i ys).length) []
def bL(xs:List Span)(i:Int):=(Span.lo (xs.getD i.toNat NZ))
def Dq(xs:List Span)(i:Int):Array Value:=#[.int .i64 (bL xs i),.int .i64 (Span.hi (xs.getD i.toNat NZ))]
def Dp(xs:List Span)(i:Int)(ys:List Int):Array Value:=(Qh QR (OL ys i.toNat (bL xs i)))
def pY(xs:List Span):Array Value:=(Qh (Ur [.int .i64 0]) (Oi xs.length ()))
theorem Dt(B:Lo)(xs:List Span)(i:Int)(ys:List Int)(Qs:Nat->Value):let e:=Dq xs i;let c:=Dp xs i ys;let a:=Oa i;let d:=OL ys a (bL xs i);let b:=Span.lo (xs.getD a NZ);let f:=.int .i64 b;landM (Qu YP (Q9 YP) J0 B 13 1 (QK 97 26 (([1,5,11,12,13]:List Nat).zip (S7 xs i ys)) Qs S8) (QH (Yh xs i ys)) (2+(Yh xs i ys).length)
 [(0,ZF),(2,Qk.tidx a e),(11,Qk.pure (.int .i64 (bL xs i)) []),(12,Qk.Za (Hint.idx a)),(13,Qk.Za (Hint.st c)),(14,WV (i+1))] 0 [] []) [1,5,11,12,13] [(2,KS.cells [] c)] []=some ⟨97,26,S8,[],.run,none,S7 xs (i+1) d,Yh xs (i+1) d,
 [QE 1 [] c c,wq (i+1)=i+1,0+Oa i*1+TypeInfo.size Try.t3<=OD (Qh QR ys)/\splice (Qh QR ys) (0+Oa i*1) (Value.cells (Zj {len:=16000,tr:=Tri.set 14 (Tri.set 14 Tri.lf 22 f) 23 (.pointer (some {block:=2,off:=0+Oa i*1}))} 22))=Qh QR (OL ys a b),i=(↑a:Int)/\Oa i<Oc xs,Q6 []/\Q0 YP J0 76 #[.agg e] f,Yr i xs.length (Qh Qo xs) Try.t38.size e,XS i (↑xs.length:Int)=true]⟩:=by intro e c a d b f;kernel_rfl
theorem Ds(B:Lo)(xs:List Span)(i:Int)(ys:List Int)(Qs:Nat->Value):let a:=Fz.cs {k:=2,rs:=[],cs:=Qh QR ys};QW (Qu YP (Q9 YP) J0 B 9 1 (QK 97 26 (([1,5,11,12,13]:List Nat).zip (S7 xs i ys)) Qs S8) (QH (Yh xs i ys)) (2+(Yh xs i ys).length)
 [(0,Wm)] 0 [] []) [{k:=2,rs:=[],cs:=Qh QR ys}]=some (QI xs.length a,
 [Zn (Fz.rs {k:=2,rs:=[],cs:=Qh QR ys}) (Qh QR ys) a,XS i (↑xs.length:Int)=false]):=by intro a;kernel_rfl
theorem Dr(B:Lo)(xs:List Span):let a:=Oc xs;let c:=Oi a 0;let b:=Zj {len:=16000,tr:=Tri.set 14 Tri.lf 9 (.int .i64 (↑a:Int))} 9;landM (Qu YP (Q9 YP) J0 B 9 1 (Qx YP 97 26 (([YI xs,.func (.func 76) #[] #[]]).map (Q8 0 4))) Zf 1
 [(3,Qk.Za (Hint.mk a (pY xs)))] 0 [] []) [1,5,11,12,13] [(1,KS.rows [] [] [] (Qh QR c))] []=some ⟨97,26,S8,[],.run,none,S7 xs (0) c,Yh xs (0) c,
 [Zw 1 [] [] [] (pY xs) (Qh QR c),RH YP 25 b b=some (3,Qh (Ur [.int .i64 0]) (Oi a ()),Oc xs,TypeInfo.size Try.t3)]⟩:=by intro a c b;kernel_rfl
set_option maxHeartbeats 4000000 in
theorem Du(xs:List Span)(hn:xs.length<=1000000){B:Lo}(hJ:∀w,B.has w->J0 w){c0:CF}:∀m:Nat,(∀(i:Int) (ys:List Int),(xs.length-i.toNat)=m->∀(h0:0<=i) (hy:ys=RE TC 0 xs i),Dv B c0 xs i ys->EndsT YP B c0 (XI (xs.map TC))):=by
 intro m0;induction m0 using Ox with
 |_ m0 ih0=>
  intro i ys JP h0 hy ⟨Qs,ZV,XF⟩;have hyl:ys.length=xs.length:=by rw[hy];exact SL
  by_cases q0:(i:Int)<((↑xs.length:Int))
  ·exact((ih0 _ (by omega)) (i+1) (OL ys i.toNat (Span.lo (xs.getD i.toNat NZ))) rfl (by omega) (by(subst hy;exact SK (f:=TC) h0 q0))
    (XF.landM okF hJ Qg (Dt B xs i ys Qs)
    ⟨(Qn (Qq (fun x=>List.all_eq_true.1 (by rfl)))),⟨(Xq (by omega) (by omega)),⟨(by exact Sl (z:=1) (k:=Oa i) (fun _=>rfl) (by first|omega|(rw[OS];omega)|(rw[OC];omega)) rfl rfl),⟨⟨by omega,by omega⟩,⟨⟨trivial,NC (Span.lo (xs.getD i.toNat NZ)) (Span.hi (xs.getD i.toNat NZ))⟩,⟨⟨by omega,by omega,(QB (z:=2) (fun _=>rfl) (by omega))⟩,⟨(XC q0),trivial⟩⟩⟩⟩⟩⟩⟩ (by kernel_rfl) (by kernel_rfl))).cast (by rfl)
  ·exact(GoE.endsT okF hJ Qg XF (Ds B xs i ys Qs)
    ⟨(XZ (fun x=>List.all_eq_true.1 (by rfl))),⟨(XO (Int.not_lt.1 q0)),trivial⟩⟩).cast (by exact dE (hy.trans (SM (by omega))) (by simp))
set_option maxHeartbeats 4000000 in
theorem GK(xs:List Span)(hn:xs.length<=1000000){B:Lo}(hJ:∀w,B.has w->J0 w):EndsT YP B (Qx YP 97 26 (([YI xs,.func (.func 76) #[] #[]]).map (Q8 0 4))) (XI (xs.map TC)):=by
 exact((Du xs hn hJ _) (0) (Oi xs.length 0) rfl (by omega) (by exact fh)
  (GoE.start.landM okF hJ Qg (Dr B xs)
  ⟨(by exact(V7 (by exact⟨(.simple rfl),trivial⟩) _)),⟨(dg (bytes:=8) (by kernel_rfl) (by omega) (by omega) (by omega)),trivial⟩⟩ (by kernel_rfl) (by kernel_rfl))).cast (by rfl)
theorem zS(xs:List Span)(hn:xs.length<=1000000):Q0 YP J0 97 #[YI xs,.func (.func 76) #[] #[]] (XI (xs.map TC)):=
 Xo (ts:=[YI xs,.func (.func 76) #[] #[]]) Zh (c0:=Qx YP 97 26 (([YI xs,.func (.func 76) #[] #[]]).map (Q8 0 4))) (by kernel_rfl) (by kernel_rfl) fun B hJ=>GK xs hn hJ
def S9(xs:List Span)(i:Int)(ys:List Int):List Value:=[Value.func (Fn.func 77) #[] #[],.slice (some {block:=2,off:=0}) xs.length 1,Q2 1 (QI xs.length (Qh Qo xs)),.int .i64 (↑xs.length:Int),.int .i64 i]
def Yi(xs:List Span)(i:Int)(ys:List Int):List Obj:=[.cells (Qh QR ys) 3 (0,0)]
def SA:List Item:=([.code [1,1,0,1,0,0],.inLoop [1,1,0,1,0,0],.inBlock 0,.code [1,1,1]]).map (it (QP YP 97))
def D2(B:Lo)(c0:CF)(xs:List Span)(i:Int)(ys:List Int):Prop:=∃dJ:Nat->Value,(∀t,Xy (dJ t))/\GoE YP B c0 Zf 1 (QK 97 26 (([1,5,11,12,13]:List Nat).zip (S9 xs i ys)) dJ SA) (QH (Yi xs i ys)) (2+(Yi xs i ys).length) []
def bM(xs:List Span)(i:Int):=(Span.hi (xs.getD i.toNat NZ))
def Dx(xs:List Span)(i:Int):Array Value:=#[.int .i64 (Span.lo (xs.getD i.toNat NZ)),.int .i64 (bM xs i)]
def Dw(xs:List Span)(i:Int)(ys:List Int):Array Value:=(Qh QR (OL ys i.toNat (bM xs i)))
def pZ(xs:List Span):Array Value:=(Qh (Ur [.int .i64 0]) (Oi xs.length ()))
theorem D0(B:Lo)(xs:List Span)(i:Int)(ys:List Int)(Qs:Nat->Value):let e:=Dx xs i;let c:=Dw xs i ys;let a:=Oa i;let d:=OL ys a (bM xs i);let b:=Span.hi (xs.getD a NZ);let f:=.int .i64 b;landM (Qu YP (Q9 YP) J0 B 13 1 (QK 97 26 (([1,5,11,12,13]:List Nat).zip (S9 xs i ys)) Qs SA) (QH (Yi xs i ys)) (2+(Yi xs i ys).length)
 [(0,ZF),(2,Qk.tidx a e),(11,Qk.pure (.int .i64 (bM xs i)) []),(12,Qk.Za (Hint.idx a)),(13,Qk.Za (Hint.st c)),(14,WV (i+1))] 0 [] []) [1,5,11,12,13] [(2,KS.cells [] c)] []=some ⟨97,26,SA,[],.run,none,S9 xs (i+1) d,Yi xs (i+1) d,
 [QE 1 [] c c,wq (i+1)=i+1,0+Oa i*1+TypeInfo.size Try.t3<=OD (Qh QR ys)/\splice (Qh QR ys) (0+Oa i*1) (Value.cells (Zj {len:=16000,tr:=Tri.set 14 (Tri.set 14 Tri.lf 22 f) 23 (.pointer (some {block:=2,off:=0+Oa i*1}))} 22))=Qh QR (OL ys a b),i=(↑a:Int)/\Oa i<Oc xs,Q6 []/\Q0 YP J0 77 #[.agg e] f,Yr i xs.length (Qh Qo xs) Try.t38.size e,XS i (↑xs.length:Int)=true]⟩:=by intro e c a d b f;kernel_rfl
theorem Dz(B:Lo)(xs:List Span)(i:Int)(ys:List Int)(Qs:Nat->Value):let a:=Fz.cs {k:=2,rs:=[],cs:=Qh QR ys};QW (Qu YP (Q9 YP) J0 B 9 1 (QK 97 26 (([1,5,11,12,13]:List Nat).zip (S9 xs i ys)) Qs SA) (QH (Yi xs i ys)) (2+(Yi xs i ys).length)
 [(0,Wm)] 0 [] []) [{k:=2,rs:=[],cs:=Qh QR ys}]=some (QI xs.length a,
 [Zn (Fz.rs {k:=2,rs:=[],cs:=Qh QR ys}) (Qh QR ys) a,XS i (↑xs.length:Int)=false]):=by intro a;kernel_rfl
theorem Dy(B:Lo)(xs:List Span):let a:=Oc xs;let c:=Oi a 0;let b:=Zj {len:=16000,tr:=Tri.set 14 Tri.lf 9 (.int .i64 (↑a:Int))} 9;landM (Qu YP (Q9 YP) J0 B 9 1 (Qx YP 97 26 (([YI xs,.func (.func 77) #[] #[]]).map (Q8 0 4))) Zf 1
 [(3,Qk.Za (Hint.mk a (pZ xs)))] 0 [] []) [1,5,11,12,13] [(1,KS.rows [] [] [] (Qh QR c))] []=some ⟨97,26,SA,[],.run,none,S9 xs (0) c,Yi xs (0) c,
 [Zw 1 [] [] [] (pZ xs) (Qh QR c),RH YP 25 b b=some (3,Qh (Ur [.int .i64 0]) (Oi a ()),Oc xs,TypeInfo.size Try.t3)]⟩:=by intro a c b;kernel_rfl
set_option maxHeartbeats 4000000 in
theorem D1(xs:List Span)(hn:xs.length<=1000000){B:Lo}(hJ:∀w,B.has w->J0 w){c0:CF}:∀m:Nat,(∀(i:Int) (ys:List Int),(xs.length-i.toNat)=m->∀(h0:0<=i) (hy:ys=RE TD 0 xs i),D2 B c0 xs i ys->EndsT YP B c0 (XI (xs.map TD))):=by
 intro m0;induction m0 using Ox with
 |_ m0 ih0=>
  intro i ys JP h0 hy ⟨Qs,ZV,XF⟩;have hyl:ys.length=xs.length:=by rw[hy];exact SL
  by_cases q0:(i:Int)<((↑xs.length:Int))
  ·exact((ih0 _ (by omega)) (i+1) (OL ys i.toNat (Span.hi (xs.getD i.toNat NZ))) rfl (by omega) (by(subst hy;exact SK (f:=TD) h0 q0))
    (XF.landM okF hJ Qg (D0 B xs i ys Qs)
    ⟨(Qn (Qq (fun x=>List.all_eq_true.1 (by rfl)))),⟨(Xq (by omega) (by omega)),⟨(by exact Sl (z:=1) (k:=Oa i) (fun _=>rfl) (by first|omega|(rw[OS];omega)|(rw[OC];omega)) rfl rfl),⟨⟨by omega,by omega⟩,⟨⟨trivial,Ni (Span.lo (xs.getD i.toNat NZ)) (Span.hi (xs.getD i.toNat NZ))⟩,⟨⟨by omega,by omega,(QB (z:=2) (fun _=>rfl) (by omega))⟩,⟨(XC q0),trivial⟩⟩⟩⟩⟩⟩⟩ (by kernel_rfl) (by kernel_rfl))).cast (by rfl)
  ·exact(GoE.endsT okF hJ Qg XF (Dz B xs i ys Qs)
    ⟨(XZ (fun x=>List.all_eq_true.1 (by rfl))),⟨(XO (Int.not_lt.1 q0)),trivial⟩⟩).cast (by exact dE (hy.trans (SM (by omega))) (by simp))
set_option maxHeartbeats 4000000 in
theorem GL(xs:List Span)(hn:xs.length<=1000000){B:Lo}(hJ:∀w,B.has w->J0 w):EndsT YP B (Qx YP 97 26 (([YI xs,.func (.func 77) #[] #[]]).map (Q8 0 4))) (XI (xs.map TD)):=by
 exact((D1 xs hn hJ _) (0) (Oi xs.length 0) rfl (by omega) (by exact fh)
  (GoE.start.landM okF hJ Qg (Dy B xs)
  ⟨(by exact(V7 (by exact⟨(.simple rfl),trivial⟩) _)),⟨(dg (bytes:=8) (by kernel_rfl) (by omega) (by omega) (by omega)),trivial⟩⟩ (by kernel_rfl) (by kernel_rfl))).cast (by rfl)
theorem zT(xs:List Span)(hn:xs.length<=1000000):Q0 YP J0 97 #[YI xs,.func (.func 77) #[] #[]] (XI (xs.map TD)):=
 Xo (ts:=[YI xs,.func (.func 77) #[] #[]]) Zh (c0:=Qx YP 97 26 (([YI xs,.func (.func 77) #[] #[]]).map (Q8 0 4))) (by kernel_rfl) (by kernel_rfl) fun B hJ=>GL xs hn hJ
def YT(rf:Qi):=(List.map (X2 rf.Qc) rf.Qb)
def z6(rf:Qi):Array Value:=#[.int .i64 (Ob (List.map TC (YT rf)) 0 NZ),.int .i64 (Ob (List.map TC (YT rf)) 1 NZ),.int .i64 (Ob (List.map TC (YT rf)) 2 NZ),.int .i64 (Ob (List.map TC (YT rf)) 3 NZ)]
def z5(rf:Qi):Array Value:=(Qh QR (List.map TC (YT rf)))
def lX  :Array Value:=#[.int .i64 0,.int .i64 0,.int .i64 0,.int .i64 0]
theorem z7(B:Lo)(rf:Qi)(Qa:List Int):let g:=z6 rf;let f:=YT rf;let e:=rf.Qb;let d:=z5 rf;let a:=List.map (X2 rf.Qc) e;let c:=Oc (List.map TC a);let b:=Array.map (ZY 5) (Oy d 0 (OU c 4*TypeInfo.size Try.t3));QW (Qu YP (Q9 YP) J0 B 10 1 (Qx YP 75 13 (([.agg (QL rf Qa).toArray,.func (.func 76) #[] #[]]).map (Q8 0 4))) Zf 1
 [(5,Qk.pure (QI f.length (Qh Qo f)) []),(7,Qk.pure (QI (Oc (List.map TC f)) d) []),(8,Qk.tcpy g)] 0 [] []) []=some (.agg g,
 [0<Oc (List.map TC a)/\0+OU c 4*TypeInfo.size Try.t3<=OD lX/\OU c 4*TypeInfo.size Try.t3<=OD d/\(Array.all d fun v=>simple v || Va v)=true/\ones b=true/\splice lX 0 b=g,Q6 []/\Q0 YP J0 97 #[QI a.length (Qh Qo a),Value.func (Fn.func 76) #[] #[]] (QI c d),Q6 []/\Q0 YP J0 82 #[.agg #[QI e.length (Qh Qm e),.int .i64 rf.Qc,.int .i64 rf.Qd,.int .i64 (Qa.getD 0 0),.int .i64 (Qa.getD 1 0),.int .i64 (Qa.getD 2 0),.int .i64 (Qa.getD 3 0)]] (QI a.length (Qh Qo a))]):=by intro g f e d a c b;kernel_rfl
set_option maxHeartbeats 4000000 in
theorem Dc(rf:Qi)(Qa:List Int)(hr:Zd rf=true){B:Lo}(hJ:∀w,B.has w->J0 w):EndsT YP B (Qx YP 75 13 (([.agg (QL rf Qa).toArray,.func (.func 76) #[] #[]]).map (Q8 0 4))) (.agg #[.int .i64 ((Xi rf).getD 0 NZ),.int .i64 ((Xi rf).getD 1 NZ),.int .i64 ((Xi rf).getD 2 NZ),.int .i64 ((Xi rf).getD 3 NZ)]):=by
 have Z8:=QA (QQ hr).1;have hle1:((rf.Qb.map (X2 rf.Qc)).map TC).length=rf.Qb.length:=by simp
 have hle2:((rf.Qb.map (X2 rf.Qc)).map TD).length=rf.Qb.length:=by simp
 have hle3:(rf.Qb.map (X2 rf.Qc)).length=rf.Qb.length:=by simp
 have hcc:∀k:Int,0<=k->k<rf.Qb.length->0<=(rf.Qb.getD k.toNat NZ).count/\(rf.Qb.getD k.toNat NZ).count<=1000000:=fun k h0 h1=>(ZP ((QQ hr).2 k h0 h1).1).1
 exact(GoE.endsT okF hJ Qg GoE.start (z7 B rf Qa)
  ⟨(fo (fun _=>rfl) rfl (by omega) (by omega) rfl (YL rfl) rfl),⟨⟨trivial,zS (List.map (X2 rf.Qc) rf.Qb) (by omega)⟩,⟨⟨trivial,rj (rf) (Qa) (by omega) (by omega) (by with_reducible assumption)⟩,trivial⟩⟩⟩).cast (by rfl)
theorem Bu(rf:Qi)(Qa:List Int)(hr:Zd rf=true):Q0 YP J0 75 #[.agg (QL rf Qa).toArray,.func (.func 76) #[] #[]] (.agg #[.int .i64 ((Xi rf).getD 0 NZ),.int .i64 ((Xi rf).getD 1 NZ),.int .i64 ((Xi rf).getD 2 NZ),.int .i64 ((Xi rf).getD 3 NZ)]):=
 Xo (ts:=[.agg (QL rf Qa).toArray,.func (.func 76) #[] #[]]) Zh (c0:=Qx YP 75 13 (([.agg (QL rf Qa).toArray,.func (.func 76) #[] #[]]).map (Q8 0 4))) (by kernel_rfl) (by kernel_rfl) fun B hJ=>Dc rf Qa hr hJ
def YU(rf:Qi):=(List.map (X2 rf.Qc) rf.Qb)
def z9(rf:Qi):Array Value:=#[.int .i64 (Ob (List.map TD (YU rf)) 0 NZ),.int .i64 (Ob (List.map TD (YU rf)) 1 NZ),.int .i64 (Ob (List.map TD (YU rf)) 2 NZ),.int .i64 (Ob (List.map TD (YU rf)) 3 NZ)]
def z8(rf:Qi):Array Value:=(Qh QR (List.map TD (YU rf)))
def lY  :Array Value:=#[.int .i64 0,.int .i64 0,.int .i64 0,.int .i64 0]
theorem zA(B:Lo)(rf:Qi)(Qa:List Int):let g:=z9 rf;let f:=YU rf;let e:=rf.Qb;let d:=z8 rf;let a:=List.map (X2 rf.Qc) e;let c:=Oc (List.map TD a);let b:=Array.map (ZY 5) (Oy d 0 (OU c 4*TypeInfo.size Try.t3));QW (Qu YP (Q9 YP) J0 B 10 1 (Qx YP 75 13 (([.agg (QL rf Qa).toArray,.func (.func 77) #[] #[]]).map (Q8 0 4))) Zf 1
 [(5,Qk.pure (QI f.length (Qh Qo f)) []),(7,Qk.pure (QI (Oc (List.map TD f)) d) []),(8,Qk.tcpy g)] 0 [] []) []=some (.agg g,
 [0<Oc (List.map TD a)/\0+OU c 4*TypeInfo.size Try.t3<=OD lY/\OU c 4*TypeInfo.size Try.t3<=OD d/\(Array.all d fun v=>simple v || Va v)=true/\ones b=true/\splice lY 0 b=g,Q6 []/\Q0 YP J0 97 #[QI a.length (Qh Qo a),Value.func (Fn.func 77) #[] #[]] (QI c d),Q6 []/\Q0 YP J0 82 #[.agg #[QI e.length (Qh Qm e),.int .i64 rf.Qc,.int .i64 rf.Qd,.int .i64 (Qa.getD 0 0),.int .i64 (Qa.getD 1 0),.int .i64 (Qa.getD 2 0),.int .i64 (Qa.getD 3 0)]] (QI a.length (Qh Qo a))]):=by intro g f e d a c b;kernel_rfl
set_option maxHeartbeats 4000000 in
theorem Dd(rf:Qi)(Qa:List Int)(hr:Zd rf=true){B:Lo}(hJ:∀w,B.has w->J0 w):EndsT YP B (Qx YP 75 13 (([.agg (QL rf Qa).toArray,.func (.func 77) #[] #[]]).map (Q8 0 4))) (.agg #[.int .i64 ((Xj rf).getD 0 NZ),.int .i64 ((Xj rf).getD 1 NZ),.int .i64 ((Xj rf).getD 2 NZ),.int .i64 ((Xj rf).getD 3 NZ)]):=by
 have Z8:=QA (QQ hr).1;have hle1:((rf.Qb.map (X2 rf.Qc)).map TC).length=rf.Qb.length:=by simp
 have hle2:((rf.Qb.map (X2 rf.Qc)).map TD).length=rf.Qb.length:=by simp
 have hle3:(rf.Qb.map (X2 rf.Qc)).length=rf.Qb.length:=by simp
 have hcc:∀k:Int,0<=k->k<rf.Qb.length->0<=(rf.Qb.getD k.toNat NZ).count/\(rf.Qb.getD k.toNat NZ).count<=1000000:=fun k h0 h1=>(ZP ((QQ hr).2 k h0 h1).1).1
 exact(GoE.endsT okF hJ Qg GoE.start (zA B rf Qa)
  ⟨(fo (fun _=>rfl) rfl (by omega) (by omega) rfl (YL rfl) rfl),⟨⟨trivial,zT (List.map (X2 rf.Qc) rf.Qb) (by omega)⟩,⟨⟨trivial,rj (rf) (Qa) (by omega) (by omega) (by with_reducible assumption)⟩,trivial⟩⟩⟩).cast (by rfl)
theorem Bv(rf:Qi)(Qa:List Int)(hr:Zd rf=true):Q0 YP J0 75 #[.agg (QL rf Qa).toArray,.func (.func 77) #[] #[]] (.agg #[.int .i64 ((Xj rf).getD 0 NZ),.int .i64 ((Xj rf).getD 1 NZ),.int .i64 ((Xj rf).getD 2 NZ),.int .i64 ((Xj rf).getD 3 NZ)]):=
 Xo (ts:=[.agg (QL rf Qa).toArray,.func (.func 77) #[] #[]]) Zh (c0:=Qx YP 75 13 (([.agg (QL rf Qa).toArray,.func (.func 77) #[] #[]]).map (Q8 0 4))) (by kernel_rfl) (by kernel_rfl) fun B hJ=>Dd rf Qa hr hJ
def PX(rf:Qi)(Qa:List Int)(fa fb fc fd k:Int):Qy:=[(3,Obj.cells #[.int .i64 0,.int .i64 0,.int .i64 0,.int .i64 0] 111),(2,Obj.cells #[.int .i64 fa,.int .i64 fb,.int .i64 fc,.int .i64 fd] 111),(1,Obj.cells #[Q2 0 (QI rf.Qb.length (Qh Qm rf.Qb)),.int .i64 rf.Qc,.int .i64 rf.Qd,.int .i64 (Qa.getD 0 0),.int .i64 (Qa.getD 1 0),.int .i64 (Qa.getD 2 0),.int .i64 (Qa.getD 3 0)] 84),(0,Obj.coro none)]
def Ts(rf:Qi)(Qa:List Int)(fa fb fc fd k:Int):CF:=⟨98,ofList 28 [.agg #[Q2 0 (QI rf.Qb.length (Qh Qm rf.Qb)),.int .i64 rf.Qc,.int .i64 rf.Qd,.int .i64 (Qa.getD 0 0),.int .i64 (Qa.getD 1 0),.int .i64 (Qa.getD 2 0),.int .i64 (Qa.getD 3 0)],.agg #[.int .i64 fa,.int .i64 fb,.int .i64 fc,.int .i64 fd],.int .i64 k,Value.func (Fn.func 76) #[] #[],Value.func (Fn.func 77) #[] #[]],[Item.code (QP YP 98)],[],.run,none⟩
def md(rf:Qi)(Qa:List Int)(k:Int):=(List.map TD (Xm rf.Qb (Qa.getD k.toNat 0)))
def mc(rf:Qi):=(List.map TC (List.map Xg rf.Qb))
def me(rf:Qi)(Qa:List Int)(fa fb fc fd k:Int):Array Value:=let e:=Qr (mc rf) (md rf Qa k) rf.Qb {a:=fa,b:=fb,c:=fc,d:=fd};#[.int .i64 e.a,.int .i64 e.b,.int .i64 e.c,.int .i64 e.d]
def mb(rf:Qi)(Qa:List Int):Array Value:=#[QI rf.Qb.length (Qh Qm rf.Qb),.int .i64 rf.Qc,.int .i64 rf.Qd,.int .i64 (Qa.getD 0 0),.int .i64 (Qa.getD 1 0),.int .i64 (Qa.getD 2 0),.int .i64 (Qa.getD 3 0)]
def ma(rf:Qi)(Qa:List Int)(k:Int):Value:=(QI (Oc (Xm rf.Qb (Qa.getD k.toNat 0))) (Qh Qo (Xm rf.Qb (Qa.getD k.toNat 0))))
def lZ(rf:Qi):Value:=(QI (Oc (List.map Xg rf.Qb)) (Qh Qo (List.map Xg rf.Qb)))
theorem zC(B:Lo)(rf:Qi)(Qa:List Int)(fa fb fc fd k:Int):let h:=rf.Qc;let g:=rf.Qd;let f:=mc rf;let d:=md rf Qa k;let c:=rf.Qb;let e:=List.map Xg c;let i:=List.map TC e;let b:=Value.slice none 0 0;let a:=Xm c (Qa.getD k.toNat 0);let j:=List.map TD a;CE.finK 4 (Qu YP (Q9 YP) J0 B 10 4 (Ts rf Qa fa fb fc fd k) (PX rf Qa fa fb fc fd k) 4
 [(10,Qk.pure (lZ rf) []),(12,Qk.pure (QI f.length (Qh QR f)) []),(15,Qk.pure (ma rf Qa k) []),(17,Qk.pure (QI d.length (Qh QR d)) []),(18,Qk.wri [7] [9,11,0] [false] [] (bC c h g fa fb fc fd b b f d 0 0 0 0 0) (bB c h g fa fb fc fd b b f d 0 0 0 0 0) (bD c h g fa fb fc fd b b f d 0 0 0 0 0))] 0 [] []) [] [] []=some (OO.ret (.agg (me rf Qa fa fb fc fd k)),[],[],
 [Q6 []/\jE c h g (fa) (fb) (fc) (fd) b b i j (0) (0) (0) (0) (0),Q6 []/\Q0 YP J0 97 #[QI a.length (Qh Qo a),Value.func (Fn.func 77) #[] #[]] (QI j.length (Qh QR j)),Q6 []/\Q0 YP J0 84 #[.agg (mb rf Qa),.int .i64 k] (ma rf Qa k),Q6 []/\Q0 YP J0 97 #[QI e.length (Qh Qo e),Value.func (Fn.func 76) #[] #[]] (QI i.length (Qh QR i)),Q6 []/\Q0 YP J0 83 #[.agg (mb rf Qa)] (lZ rf)]):=by intro h g f d c e i b a j;kernel_rfl
theorem zB(B:Lo)(rf:Qi)(Qa:List Int)(fa fb fc fd k:Int):let a:=me rf Qa fa fb fc fd k;QW (Qu YP (Q9 YP) J0 B 6 1 (Qx YP 78 11 (([.agg (QL rf Qa).toArray,.agg #[.int .i64 fa,.int .i64 fb,.int .i64 fc,.int .i64 fd],.int .i64 k]).map (Q8 0 4))) Zf 1
 [(6,Qk.call (Oe 4) (OO.ret (.agg a)) ([]++(4,Xk)::QU 5 []) 5 [])] 0 [] []) []=some (.agg a,
 [FJ YP B (Ts rf Qa fa fb fc fd k) (PX rf Qa fa fb fc fd k) 4 (OO.ret (.agg a)) (([]++((4,Xk)::QU (4+1) []))++PX rf Qa fa fb fc fd k) 5 (Oe 4) []]):=by intro a;kernel_rfl
set_option maxHeartbeats 4000000 in
theorem De(rf:Qi)(Qa:List Int)(fa fb fc fd k:Int)(hr:Zd rf=true)(hl:Qa.length<=4)(hp:∀j:Nat,0<=Qa.getD j 0/\Qa.getD j 0<=1000000)(k0:0<=k)(k1:k<4)(hf:Pm ⟨fa,fb,fc,fd⟩)(hs:F4.sum ⟨fa,fb,fc,fd⟩<=10000000000){B:Lo}(hJ:∀w,B.has w->J0 w):EndsT YP B (Qx YP 78 11 (([.agg (QL rf Qa).toArray,.agg #[.int .i64 fa,.int .i64 fb,.int .i64 fc,.int .i64 fd],.int .i64 k]).map (Q8 0 4))) (.agg #[.int .i64 (Qr (Wn rf) (We rf (Qa.getD k.toNat 0)) rf.Qb ⟨fa,fb,fc,fd⟩).a,.int .i64 (Qr (Wn rf) (We rf (Qa.getD k.toNat 0)) rf.Qb ⟨fa,fb,fc,fd⟩).b,.int .i64 (Qr (Wn rf) (We rf (Qa.getD k.toNat 0)) rf.Qb ⟨fa,fb,fc,fd⟩).c,.int .i64 (Qr (Wn rf) (We rf (Qa.getD k.toNat 0)) rf.Qb ⟨fa,fb,fc,fd⟩).d]):=by
 have Z8:=QA (QQ hr).1;have hpc:=rm hr;have hg1:Ko rf.Qb.length ((rf.Qb.map Xg).map TC) 2000:=(bS hr).1;have ht1:Ko rf.Qb.length ((Xm rf.Qb (Qa.getD k.toNat 0)).map TD) 1000000:=(bl hr (Qa.getD k.toNat 0)).2;have hle1:(Xm rf.Qb (Qa.getD k.toNat 0)).length=rf.Qb.length:=WW;have hle2:(rf.Qb.map Xg).length=rf.Qb.length:=by simp
 have Te:FJ YP B (Ts rf Qa fa fb fc fd k) (PX rf Qa fa fb fc fd k) 4 (OO.ret (.agg #[.int .i64 (F4.a (Qr (List.map TC (List.map Xg rf.Qb)) (List.map TD (Xm rf.Qb (Qa.getD k.toNat 0))) rf.Qb {a:=fa,b:=fb,c:=fc,d:=fd})),.int .i64 (F4.b (Qr (List.map TC (List.map Xg rf.Qb)) (List.map TD (Xm rf.Qb (Qa.getD k.toNat 0))) rf.Qb {a:=fa,b:=fb,c:=fc,d:=fd})),.int .i64 (F4.c (Qr (List.map TC (List.map Xg rf.Qb)) (List.map TD (Xm rf.Qb (Qa.getD k.toNat 0))) rf.Qb {a:=fa,b:=fb,c:=fc,d:=fd})),.int .i64 (F4.d (Qr (List.map TC (List.map Xg rf.Qb)) (List.map TD (Xm rf.Qb (Qa.getD k.toNat 0))) rf.Qb {a:=fa,b:=fb,c:=fc,d:=fd}))])) (([]++((4,Xk)::QU (4+1) []))++PX rf Qa fa fb fc fd k) 5 (Oe 4) []:=by
  exact FinK.fjB (GoE.finK okF hJ Qg (Q7 (by kernel_rfl)) (Qw (by kernel_rfl)) ((GoE.refl (P:=YP) (B:=B) (c0:=Ts rf Qa fa fb fc fd k) (Q7 (by kernel_rfl))).widen (Wf:=((([]):List (Nat×KS)).map (·.1))) (by simp) (Qw (by kernel_rfl))) (zC B rf Qa fa fb fc fd k)
   ⟨⟨trivial,Bs rf.Qb rf.Qc rf.Qd (fa) (fb) (fc) (fd) (.slice none 0 0) (.slice none 0 0) (List.map TC (List.map Xg rf.Qb)) (List.map TD (Xm rf.Qb (Qa.getD k.toNat 0))) (0) (0) (0) (0) (0) (by with_reducible assumption) (by with_reducible assumption) (by with_reducible assumption) (by with_reducible assumption) (by with_reducible assumption) (by omega) (by omega) (by omega)⟩,⟨⟨trivial,zT (Xm rf.Qb (Qa.getD k.toNat 0)) (by omega)⟩,⟨⟨trivial,yR (rf) (Qa) (k) (by omega) (by with_reducible assumption) (by with_reducible assumption) (by with_reducible assumption) (by with_reducible assumption)⟩,⟨⟨trivial,zS (List.map Xg rf.Qb) (by omega)⟩,⟨⟨trivial,z4 (rf) (Qa) (by omega)⟩,trivial⟩⟩⟩⟩⟩) (ex:=[]) (by kernel_rfl) (Z6 _)
 exact(GoE.endsT okF hJ Qg GoE.start (zB B rf Qa fa fb fc fd k)
  ⟨Te,trivial⟩).cast (by rfl)
theorem Bw(rf:Qi)(Qa:List Int)(fa fb fc fd k:Int)(hr:Zd rf=true)(hl:Qa.length<=4)(hp:∀j:Nat,0<=Qa.getD j 0/\Qa.getD j 0<=1000000)(k0:0<=k)(k1:k<4)(hf:Pm ⟨fa,fb,fc,fd⟩)(hs:F4.sum ⟨fa,fb,fc,fd⟩<=10000000000):Q0 YP J0 78 #[.agg (QL rf Qa).toArray,.agg #[.int .i64 fa,.int .i64 fb,.int .i64 fc,.int .i64 fd],.int .i64 k] (.agg #[.int .i64 (Qr (Wn rf) (We rf (Qa.getD k.toNat 0)) rf.Qb ⟨fa,fb,fc,fd⟩).a,.int .i64 (Qr (Wn rf) (We rf (Qa.getD k.toNat 0)) rf.Qb ⟨fa,fb,fc,fd⟩).b,.int .i64 (Qr (Wn rf) (We rf (Qa.getD k.toNat 0)) rf.Qb ⟨fa,fb,fc,fd⟩).c,.int .i64 (Qr (Wn rf) (We rf (Qa.getD k.toNat 0)) rf.Qb ⟨fa,fb,fc,fd⟩).d]):=
 Xo (ts:=[.agg (QL rf Qa).toArray,.agg #[.int .i64 fa,.int .i64 fb,.int .i64 fc,.int .i64 fd],.int .i64 k]) Zh (c0:=Qx YP 78 11 (([.agg (QL rf Qa).toArray,.agg #[.int .i64 fa,.int .i64 fb,.int .i64 fc,.int .i64 fd],.int .i64 k]).map (Q8 0 4))) (by kernel_rfl) (by kernel_rfl) fun B hJ=>De rf Qa fa fb fc fd k hr hl hp k0 k1 hf hs hJ
def TZ(rf:Qi)(Qa:List Int)(fa fb fc fd k:Int):Qy:=[(3,Obj.cells #[.int .i64 0,.int .i64 0,.int .i64 0,.int .i64 0] 111),(2,Obj.cells #[.int .i64 fa,.int .i64 fb,.int .i64 fc,.int .i64 fd] 111),(1,Obj.cells #[Q2 0 (QI rf.Qb.length (Qh Qm rf.Qb)),.int .i64 rf.Qc,.int .i64 rf.Qd,.int .i64 (Qa.getD 0 0),.int .i64 (Qa.getD 1 0),.int .i64 (Qa.getD 2 0),.int .i64 (Qa.getD 3 0)] 84),(0,Obj.coro none)]
def dW(rf:Qi)(Qa:List Int)(fa fb fc fd k:Int):CF:=⟨98,ofList 28 [.agg #[Q2 0 (QI rf.Qb.length (Qh Qm rf.Qb)),.int .i64 rf.Qc,.int .i64 rf.Qd,.int .i64 (Qa.getD 0 0),.int .i64 (Qa.getD 1 0),.int .i64 (Qa.getD 2 0),.int .i64 (Qa.getD 3 0)],.agg #[.int .i64 fa,.int .i64 fb,.int .i64 fc,.int .i64 fd],.int .i64 k,Value.func (Fn.func 77) #[] #[],Value.func (Fn.func 76) #[] #[]],[Item.code (QP YP 98)],[],.run,none⟩
def uu(rf:Qi)(Qa:List Int)(k:Int):=(List.map TC (Xm rf.Qb (Qa.getD k.toNat 0)))
def ur(rf:Qi):=(List.map TD (List.map Xg rf.Qb))
def uv(rf:Qi)(Qa:List Int)(fa fb fc fd k:Int):Array Value:=let e:=Qr (ur rf) (uu rf Qa k) rf.Qb {a:=fa,b:=fb,c:=fc,d:=fd};#[.int .i64 e.a,.int .i64 e.b,.int .i64 e.c,.int .i64 e.d]
def uq(rf:Qi)(Qa:List Int):Array Value:=#[QI rf.Qb.length (Qh Qm rf.Qb),.int .i64 rf.Qc,.int .i64 rf.Qd,.int .i64 (Qa.getD 0 0),.int .i64 (Qa.getD 1 0),.int .i64 (Qa.getD 2 0),.int .i64 (Qa.getD 3 0)]
def uo(rf:Qi)(Qa:List Int)(k:Int):Value:=(QI (Oc (Xm rf.Qb (Qa.getD k.toNat 0))) (Qh Qo (Xm rf.Qb (Qa.getD k.toNat 0))))
def um(rf:Qi):Value:=(QI (Oc (List.map Xg rf.Qb)) (Qh Qo (List.map Xg rf.Qb)))
theorem Gp(B:Lo)(rf:Qi)(Qa:List Int)(fa fb fc fd k:Int):let h:=rf.Qc;let g:=ur rf;let f:=rf.Qd;let d:=uu rf Qa k;let c:=rf.Qb;let e:=List.map Xg c;let i:=List.map TD e;let b:=Value.slice none 0 0;let a:=Xm c (Qa.getD k.toNat 0);let j:=List.map TC a;CE.finK 4 (Qu YP (Q9 YP) J0 B 10 4 (dW rf Qa fa fb fc fd k) (TZ rf Qa fa fb fc fd k) 4
 [(10,Qk.pure (um rf) []),(12,Qk.pure (QI g.length (Qh QR g)) []),(15,Qk.pure (uo rf Qa k) []),(17,Qk.pure (QI d.length (Qh QR d)) []),(18,Qk.wri [7] [9,11,0] [false] [] (bC c h f fa fb fc fd b b g d 0 0 0 0 0) (bB c h f fa fb fc fd b b g d 0 0 0 0 0) (bD c h f fa fb fc fd b b g d 0 0 0 0 0))] 0 [] []) [] [] []=some (OO.ret (.agg (uv rf Qa fa fb fc fd k)),[],[],
 [Q6 []/\jE c h f (fa) (fb) (fc) (fd) b b i j (0) (0) (0) (0) (0),Q6 []/\Q0 YP J0 97 #[QI a.length (Qh Qo a),Value.func (Fn.func 76) #[] #[]] (QI j.length (Qh QR j)),Q6 []/\Q0 YP J0 84 #[.agg (uq rf Qa),.int .i64 k] (uo rf Qa k),Q6 []/\Q0 YP J0 97 #[QI e.length (Qh Qo e),Value.func (Fn.func 77) #[] #[]] (QI i.length (Qh QR i)),Q6 []/\Q0 YP J0 83 #[.agg (uq rf Qa)] (um rf)]):=by intro h g f d c e i b a j;kernel_rfl
theorem Gn(B:Lo)(rf:Qi)(Qa:List Int)(fa fb fc fd k:Int):let a:=uv rf Qa fa fb fc fd k;QW (Qu YP (Q9 YP) J0 B 6 1 (Qx YP 79 11 (([.agg (QL rf Qa).toArray,.agg #[.int .i64 fa,.int .i64 fb,.int .i64 fc,.int .i64 fd],.int .i64 k]).map (Q8 0 4))) Zf 1
 [(6,Qk.call (Oe 4) (OO.ret (.agg a)) ([]++(4,Xk)::QU 5 []) 5 [])] 0 [] []) []=some (.agg a,
 [FJ YP B (dW rf Qa fa fb fc fd k) (TZ rf Qa fa fb fc fd k) 4 (OO.ret (.agg a)) (([]++((4,Xk)::QU (4+1) []))++TZ rf Qa fa fb fc fd k) 5 (Oe 4) []]):=by intro a;kernel_rfl
set_option maxHeartbeats 4000000 in
theorem I5(rf:Qi)(Qa:List Int)(fa fb fc fd k:Int)(hr:Zd rf=true)(hl:Qa.length<=4)(hp:∀j:Nat,0<=Qa.getD j 0/\Qa.getD j 0<=1000000)(k0:0<=k)(k1:k<4)(hf:Pm ⟨fa,fb,fc,fd⟩)(hs:F4.sum ⟨fa,fb,fc,fd⟩<=10000000000){B:Lo}(hJ:∀w,B.has w->J0 w):EndsT YP B (Qx YP 79 11 (([.agg (QL rf Qa).toArray,.agg #[.int .i64 fa,.int .i64 fb,.int .i64 fc,.int .i64 fd],.int .i64 k]).map (Q8 0 4))) (.agg #[.int .i64 (Qr (Wo rf) (Wd rf (Qa.getD k.toNat 0)) rf.Qb ⟨fa,fb,fc,fd⟩).a,.int .i64 (Qr (Wo rf) (Wd rf (Qa.getD k.toNat 0)) rf.Qb ⟨fa,fb,fc,fd⟩).b,.int .i64 (Qr (Wo rf) (Wd rf (Qa.getD k.toNat 0)) rf.Qb ⟨fa,fb,fc,fd⟩).c,.int .i64 (Qr (Wo rf) (Wd rf (Qa.getD k.toNat 0)) rf.Qb ⟨fa,fb,fc,fd⟩).d]):=by
 have Z8:=QA (QQ hr).1;have hpc:=rm hr;have hg1:Ko rf.Qb.length ((rf.Qb.map Xg).map TD) 2000:=(bS hr).2;have ht1:Ko rf.Qb.length ((Xm rf.Qb (Qa.getD k.toNat 0)).map TC) 1000000:=(bl hr (Qa.getD k.toNat 0)).1;have hle1:(Xm rf.Qb (Qa.getD k.toNat 0)).length=rf.Qb.length:=WW;have hle2:(rf.Qb.map Xg).length=rf.Qb.length:=by simp
 have Te:FJ YP B (dW rf Qa fa fb fc fd k) (TZ rf Qa fa fb fc fd k) 4 (OO.ret (.agg #[.int .i64 (F4.a (Qr (List.map TD (List.map Xg rf.Qb)) (List.map TC (Xm rf.Qb (Qa.getD k.toNat 0))) rf.Qb {a:=fa,b:=fb,c:=fc,d:=fd})),.int .i64 (F4.b (Qr (List.map TD (List.map Xg rf.Qb)) (List.map TC (Xm rf.Qb (Qa.getD k.toNat 0))) rf.Qb {a:=fa,b:=fb,c:=fc,d:=fd})),.int .i64 (F4.c (Qr (List.map TD (List.map Xg rf.Qb)) (List.map TC (Xm rf.Qb (Qa.getD k.toNat 0))) rf.Qb {a:=fa,b:=fb,c:=fc,d:=fd})),.int .i64 (F4.d (Qr (List.map TD (List.map Xg rf.Qb)) (List.map TC (Xm rf.Qb (Qa.getD k.toNat 0))) rf.Qb {a:=fa,b:=fb,c:=fc,d:=fd}))])) (([]++((4,Xk)::QU (4+1) []))++TZ rf Qa fa fb fc fd k) 5 (Oe 4) []:=by
  exact FinK.fjB (GoE.finK okF hJ Qg (Q7 (by kernel_rfl)) (Qw (by kernel_rfl)) ((GoE.refl (P:=YP) (B:=B) (c0:=dW rf Qa fa fb fc fd k) (Q7 (by kernel_rfl))).widen (Wf:=((([]):List (Nat×KS)).map (·.1))) (by simp) (Qw (by kernel_rfl))) (Gp B rf Qa fa fb fc fd k)
   ⟨⟨trivial,Bs rf.Qb rf.Qc rf.Qd (fa) (fb) (fc) (fd) (.slice none 0 0) (.slice none 0 0) (List.map TD (List.map Xg rf.Qb)) (List.map TC (Xm rf.Qb (Qa.getD k.toNat 0))) (0) (0) (0) (0) (0) (by with_reducible assumption) (by with_reducible assumption) (by with_reducible assumption) (by with_reducible assumption) (by with_reducible assumption) (by omega) (by omega) (by omega)⟩,⟨⟨trivial,zS (Xm rf.Qb (Qa.getD k.toNat 0)) (by omega)⟩,⟨⟨trivial,yR (rf) (Qa) (k) (by omega) (by with_reducible assumption) (by with_reducible assumption) (by with_reducible assumption) (by with_reducible assumption)⟩,⟨⟨trivial,zT (List.map Xg rf.Qb) (by omega)⟩,⟨⟨trivial,z4 (rf) (Qa) (by omega)⟩,trivial⟩⟩⟩⟩⟩) (ex:=[]) (by kernel_rfl) (Z6 _)
 exact(GoE.endsT okF hJ Qg GoE.start (Gn B rf Qa fa fb fc fd k)
  ⟨Te,trivial⟩).cast (by rfl)
theorem L6(rf:Qi)(Qa:List Int)(fa fb fc fd k:Int)(hr:Zd rf=true)(hl:Qa.length<=4)(hp:∀j:Nat,0<=Qa.getD j 0/\Qa.getD j 0<=1000000)(k0:0<=k)(k1:k<4)(hf:Pm ⟨fa,fb,fc,fd⟩)(hs:F4.sum ⟨fa,fb,fc,fd⟩<=10000000000):Q0 YP J0 79 #[.agg (QL rf Qa).toArray,.agg #[.int .i64 fa,.int .i64 fb,.int .i64 fc,.int .i64 fd],.int .i64 k] (.agg #[.int .i64 (Qr (Wo rf) (Wd rf (Qa.getD k.toNat 0)) rf.Qb ⟨fa,fb,fc,fd⟩).a,.int .i64 (Qr (Wo rf) (Wd rf (Qa.getD k.toNat 0)) rf.Qb ⟨fa,fb,fc,fd⟩).b,.int .i64 (Qr (Wo rf) (Wd rf (Qa.getD k.toNat 0)) rf.Qb ⟨fa,fb,fc,fd⟩).c,.int .i64 (Qr (Wo rf) (Wd rf (Qa.getD k.toNat 0)) rf.Qb ⟨fa,fb,fc,fd⟩).d]):=
 Xo (ts:=[.agg (QL rf Qa).toArray,.agg #[.int .i64 fa,.int .i64 fb,.int .i64 fc,.int .i64 fd],.int .i64 k]) Zh (c0:=Qx YP 79 11 (([.agg (QL rf Qa).toArray,.agg #[.int .i64 fa,.int .i64 fb,.int .i64 fc,.int .i64 fd],.int .i64 k]).map (Q8 0 4))) (by kernel_rfl) (by kernel_rfl) fun B hJ=>I5 rf Qa fa fb fc fd k hr hl hp k0 k1 hf hs hJ
end
end Go.Proofs.Ytncjjangllkokaa

namespace Go.Proofs.Ytncjjangllkokaa
open Go Go.CE Go.RowKit
noncomputable section
set_option maxRecDepth 100000
abbrev Vh(l:List Span):List Value:=[YI l]
structure sM where
 z:Bool
 n:Nat
 l:List Span
deriving Inhabited
def encRSp(r:sM):List Value:=[bif r.z then .slice none 0 0 else QI r.n (Qh Qo r.l)]
def Em(rf:Qi):List (List Int):=JQ rf.Qd fun _=>Wn rf
def En(rf:Qi):List (List Int):=JQ rf.Qd fun _=>Wo rf
def y6(rf:Qi)(Qa:List Int):List (List Int):=JQ rf.Qd fun s=>Wd rf (Qa.getD s.toNat 0)
def y7(rf:Qi)(Qa:List Int):List (List Int):=JQ rf.Qd fun s=>We rf (Qa.getD s.toNat 0)
def W4(rf:Qi)(Qa:List Int)(k:Nat):F4:=Sk rf.Qb (Em rf) (y7 rf Qa) (Qz (Xi rf)) k
def ZD(rf:Qi)(Qa:List Int)(k:Nat):F4:=Sk rf.Qb (En rf) (y6 rf Qa) (Qz (Xj rf)) k
def YA(rf:Qi)(Qa:List Int)(s k:Int):Span:=⟨(W4 rf Qa (s.toNat+1)).at k,(ZD rf Qa (s.toNat+1)).at k⟩
def XA(rf:Qi)(Qa:List Int)(s:Int):List Span:=JQ rf.Qb.length fun k=>YA rf Qa s k
def JR(rf:Qi)(Qa:List Int)(i:Int):List sM:=JQ rf.Qd fun k=>if k<i then⟨false,rf.Qb.length,XA rf Qa k⟩else⟨true,0,[]⟩
def XH(rf:Qi)(Qa:List Int):List (List Span):=JQ rf.Qd fun k=>XA rf Qa k
theorem oW{l:List Int}(h:∀k:Int,0<=k->k<4->0<=nth l k/\nth l k<=4000000):Pm (Qz l)/\(Qz l).sum<=16000000:=by
 have a0:=h 0 (by omega) (by omega);have a1:=h 1 (by omega) (by omega);have a2:=h 2 (by omega) (by omega);have a3:=h 3 (by omega) (by omega);have es:(Qz l).sum=nth l 0+nth l 1+nth l 2+nth l 3:=rfl;exact⟨⟨⟨a0.1,a1.1,a2.1,a3.1⟩,by omega⟩,by omega⟩
theorem Lw{rf:Qi}(hr:Zd rf=true){g:Span->Int}(hg:∀s:Span,g s=s.lo\/g s=s.hi):∀k:Int,0<=k->k<4->0<=nth ((rf.Qb.map (X2 rf.Qc)).map g) k/\nth ((rf.Qb.map (X2 rf.Qc)).map g) k<=4000000:=fun k k0 k1=>by
 have hs:=QA (QQ hr).1;by_cases hk:k<rf.Qb.length
 ·have hp:=ZP ((QQ hr).2 k k0 hk).1;have hm:=Tx (a:=(rf.Qb.getD k.toNat NZ).count) (r:=rf.Qc) (by omega) (by omega);have hm2:(rf.Qb.getD k.toNat NZ).count*rf.Qc<=1000000*2000:=Int.mul_le_mul hp.1.2 hs.2.1.2 hs.2.1.1 (by omega);have e2:((rf.Qb.getD k.toNat NZ).count*rf.Qc).tdiv 1000=((rf.Qb.getD k.toNat NZ).count*rf.Qc) / 1000:=OI hm.1;rw[VJ k0 hk];rcases hg (X2 rf.Qc (rf.Qb.getD k.toNat NZ))with e|e
  ·rw[e];simp only[X2];omega
  ·rw[e];simp only[X2,ZZ];omega
 ·unfold nth;rw[Ol,Ou (by simp;omega)];exact⟨OV _,by decide⟩
theorem Hz{rf:Qi}(hr:Zd rf=true){gs ts:List (List Int)}{l:List Int}(hg:gs.length=rf.Qd)(ht:ts.length=rf.Qd)(rg:∀k:Nat,k<rf.Qd->Ko rf.Qb.length (gs.getD k NZ) 2000)(rt:∀k:Nat,k<rf.Qd->Ko rf.Qb.length (ts.getD k NZ) 1000000)(hl:Pm (Qz l)/\(Qz l).sum<=16000000):OkT rf.Qb rf.Qd gs ts (Qz l):=by
 have hs:=QA (QQ hr).1;exact⟨rm hr,by omega,by omega,by omega,hg,ht,rg,rt,hl.1,by omega⟩
theorem Ec{rf:Qi}(hr:Zd rf=true):Pm (Qz (Xi rf))/\(Qz (Xi rf)).sum<=16000000:=oW (Lw hr fun _=>.inl rfl)
theorem Az{rf:Qi}(hr:Zd rf=true):Pm (Qz (Xj rf))/\(Qz (Xj rf)).sum<=16000000:=oW (Lw hr fun _=>.inr rfl)
theorem RQ{rf:Qi}(Qa:List Int)(hr:Zd rf=true):OkT rf.Qb rf.Qd (Em rf) (y7 rf Qa) (Qz (Xi rf)):=by
 have hs:=QA (QQ hr).1;refine Hz hr (by rw[Em,XK];omega) (by rw[y7,XK];omega) (fun k hk=> ?_) (fun k hk=> ?_) (Ec hr)
 ·have e:(Em rf).getD k NZ=Wn rf:=Xz (k:=(k:Int)) (by omega) hk;rw[e];exact(bS hr).1
 ·have e:(y7 rf Qa).getD k NZ=We rf (Qa.getD ((k:Int)).toNat 0):=Xz (k:=(k:Int)) (by omega) hk;rw[e];exact(bl hr _).2
theorem T5{rf:Qi}(Qa:List Int)(hr:Zd rf=true):OkT rf.Qb rf.Qd (En rf) (y6 rf Qa) (Qz (Xj rf)):=by
 have hs:=QA (QQ hr).1;refine Hz hr (by rw[En,XK];omega) (by rw[y6,XK];omega) (fun k hk=> ?_) (fun k hk=> ?_) (Az hr)
 ·have e:(En rf).getD k NZ=Wo rf:=Xz (k:=(k:Int)) (by omega) hk;rw[e];exact(bS hr).2
 ·have e:(y6 rf Qa).getD k NZ=Wd rf (Qa.getD ((k:Int)).toNat 0):=Xz (k:=(k:Int)) (by omega) hk;rw[e];exact(bl hr _).1
theorem Kx{rf:Qi}{Qa:List Int}{i:Int}(h0:0<=i)(h:i<rf.Qd):W4 rf Qa (i+1).toNat=Qr (Wn rf) (We rf (Qa.getD i.toNat 0)) rf.Qb (W4 rf Qa i.toNat):=by
 rw[show(i+1).toNat=i.toNat+1 by omega];show Qr _ _ _ _=_;have e1:(Em rf).getD i.toNat NZ=Wn rf:=Xz h0 h;have e2:(y7 rf Qa).getD i.toNat NZ=We rf (Qa.getD i.toNat 0):=Xz h0 h;rw[e1,e2];rfl
theorem Ug{rf:Qi}{Qa:List Int}{i:Int}(h0:0<=i)(h:i<rf.Qd):ZD rf Qa (i+1).toNat=Qr (Wo rf) (Wd rf (Qa.getD i.toNat 0)) rf.Qb (ZD rf Qa i.toNat):=by
 rw[show(i+1).toNat=i.toNat+1 by omega];show Qr _ _ _ _=_;have e1:(En rf).getD i.toNat NZ=Wo rf:=Xz h0 h;have e2:(y6 rf Qa).getD i.toNat NZ=Wd rf (Qa.getD i.toNat 0):=Xz h0 h;rw[e1,e2];rfl
theorem oT{rf:Qi}{Qa:List Int}{i:Int}:(JR rf Qa i).length=rf.Qd.toNat:=XK
theorem Ig{rf:Qi}{Qa:List Int}:Oi rf.Qd.toNat ⟨true,0,[]⟩=JR rf Qa 0:=by
 unfold JR;refine List.ext_getElem? fun k=> ?_
 by_cases hk:k<rf.Qd.toNat
 ·rw[Jo hk,if_neg (by omega),List.getElem?_replicate,if_pos hk]
 ·rw[Ou (by simp;omega),Ou (by rw[XK];omega)]
theorem Sj{rf:Qi}{Qa:List Int}{i:Int}(h0:0<=i)(h:i<rf.Qd):(JR rf Qa i).set i.toNat ⟨false,rf.Qb.length,XA rf Qa i⟩=JR rf Qa (i+1):=by
 unfold JR;rw[du h0 h];refine W6 fun k g0 g1=> ?_
 by_cases e:k=i
 ·subst e;rw[if_pos rfl,if_pos (by omega)]
 ·rw[if_neg e];by_cases e2:k<i
  ·rw[if_pos e2,if_pos (by omega)]
  ·rw[if_neg e2,if_neg (by omega)]
theorem tB{rf:Qi}{Qa:List Int}{s:Int}:(XA rf Qa s).length=rf.Qb.length:=by rw[XA,XK];omega
theorem tx:∀(l:List Int) (g:Int->List Span) (n:Nat),(∀k∈l,(g k).length=n)->Qh encRSp (l.map fun k=>⟨false,n,g k⟩)=Qh Vh (l.map g)
 |[],_,_,_=>rfl
 |k::l,g,n,h=>by
  have ih:=tx l g n fun k hk=>h k (Ot _ hk)
  have e:encRSp ⟨false,n,g k⟩=Vh (g k):=by show [QI n (Qh Qo (g k))]=_;rw[<-h k (List.mem_cons_self ..)]
  unfold Qh at ih ⊢;rw[List.map_cons,List.map_cons,OX,OX,e];apply Array.ext';have ih':=congrArg Array.toList ih;simp only at ih' ⊢;rw[ih']
theorem Ce{rf:Qi}{Qa:List Int}{i:Int}(h:rf.Qd<=i):Qh encRSp (JR rf Qa i)=Qh Vh (XH rf Qa):=by
 have e:JR rf Qa i=(Rj 0 rf.Qd).map fun k=>⟨false,rf.Qb.length,XA rf Qa k⟩:=W6 fun k g0 g1=>by rw[if_pos (by omega)]
 rw[e];exact tx _ _ _ fun k _=>tB
theorem Ie{rf:Qi}{Qa:List Int}{ys:List sM}{i:Int}(ey:ys=JR rf Qa i)(h0:0<=i)(h:i<rf.Qd):(ys.getD i.toNat NZ).z=true:=by
 rw[ey];unfold JR;rw[Xz h0 h,if_neg (by omega)]
def KF(rf:Qi)(Qa:List Int)(la lb lc ld ha hb hc hd:Int)(ys:List sM)(i:Int):List Value:=[pA 2 0,pA 3 0,pA 4 0,.slice (some {block:=5,off:=0}) (Oa rf.Qd) 1,.int .i64 rf.Qd,.int .i64 i]
def Uw(rf:Qi)(Qa:List Int)(la lb lc ld ha hb hc hd:Int)(ys:List sM)(i:Int):List Obj:=[Obj.cells #[Q2 1 (QI rf.Qb.length (Qh Qm rf.Qb)),.int .i64 rf.Qc,.int .i64 rf.Qd,.int .i64 (Qa.getD 0 0),.int .i64 (Qa.getD 1 0),.int .i64 (Qa.getD 2 0),.int .i64 (Qa.getD 3 0)] 84,.cells #[.int .i64 la,.int .i64 lb,.int .i64 lc,.int .i64 ld] 111 (0,0),.cells #[.int .i64 ha,.int .i64 hb,.int .i64 hc,.int .i64 hd] 111 (0,0),.cells (Qh (pushE 1 encRSp) ys) 36 (0,0)]
def KG:List Item:=([.code [1,1,1,0,1,0,0],.inLoop [1,1,1,0,1,0,0],.inBlock 0,.code [1,1,1,1]]).map (it (QP YP 53))
def zd(B:Lo)(c0:CF)(rf:Qi)(Qa:List Int)(la lb lc ld ha hb hc hd:Int)(ys:List sM)(i:Int):Prop:=∃dJ:Nat->Value,(∀t,Xy (dJ t))/\GoE YP B c0 Zf 1 (QK 53 56 (([1,3,4,5,18,19]:List Nat).zip (KF rf Qa la lb lc ld ha hb hc hd ys i)) dJ KG) (QH (Uw rf Qa la lb lc ld ha hb hc hd ys i)) (2+(Uw rf Qa la lb lc ld ha hb hc hd ys i).length) []
def PS(rf:Qi)(Qa:List Int)(la lb lc ld ha hb hc hd:Int)(ys:List sM)(i j:Int)(zs:List Span)(zn:Nat):List Value:=[pA 2 0,pA 3 0,pA 4 0,.slice (some {block:=5,off:=0}) (Oa rf.Qd) 1,.int .i64 i,.int .i64 rf.Qd,.int .i64 i,.int .i64 (↑rf.Qb.length:Int),.int .i64 j]
def YN(rf:Qi)(Qa:List Int)(la lb lc ld ha hb hc hd:Int)(ys:List sM)(i j:Int)(zs:List Span)(zn:Nat):List Obj:=[Obj.cells #[Q2 1 (QI rf.Qb.length (Qh Qm rf.Qb)),.int .i64 rf.Qc,.int .i64 rf.Qd,.int .i64 (Qa.getD 0 0),.int .i64 (Qa.getD 1 0),.int .i64 (Qa.getD 2 0),.int .i64 (Qa.getD 3 0)] 84,.cells #[.int .i64 la,.int .i64 lb,.int .i64 lc,.int .i64 ld] 111 (0,0),.cells #[.int .i64 ha,.int .i64 hb,.int .i64 hc,.int .i64 hd] 111 (0,0),.cells (splice (Qh (pushE 1 encRSp) ys) (0+i.toNat*1) #[.slice (some ⟨6,0,none⟩) zn 2]) 36 (0,0),.cells (Qh Qo zs) 38 (0,0)]
def PT:List Item:=([.code [1,1,1,0,1,0,0,1,1,0,0,1,1,1,0,0],.inLoop [1,1,1,0,1,0,0,1,1,0,0,1,1,1,0,0],.inBlock 2,.inBlock 1,.code [1,1,1,0,1,0,0,1,1,1],.inLoop [1,1,1,0,1,0,0],.inBlock 0,.code [1,1,1,1]]).map (it (QP YP 53))
def zb(B:Lo)(c0:CF)(rf:Qi)(Qa:List Int)(la lb lc ld ha hb hc hd:Int)(ys:List sM)(i j:Int)(zs:List Span)(zn:Nat):Prop:=∃dJ:Nat->Value,(∀t,Xy (dJ t))/\GoE YP B c0 Zf 1 (QK 53 56 (([1,3,4,5,6,18,19,33,34]:List Nat).zip (PS rf Qa la lb lc ld ha hb hc hd ys i j zs zn)) dJ PT) (QH (YN rf Qa la lb lc ld ha hb hc hd ys i j zs zn)) (2+(YN rf Qa la lb lc ld ha hb hc hd ys i j zs zn).length) []
def Ti(rf:Qi)(Qa:List Int):Array Value:=#[QI rf.Qb.length (Qh Qm rf.Qb),.int .i64 rf.Qc,.int .i64 rf.Qd,.int .i64 (Qa.getD 0 0),.int .i64 (Qa.getD 1 0),.int .i64 (Qa.getD 2 0),.int .i64 (Qa.getD 3 0)]
def yT(la lb lc ld ha hb hc hd:Int)(j:Int)(zs:List Span):Array Value:=(Qh Qo (zs++[{lo:=Qp [la,lb,lc,ld] j.toNat,hi:=Qp [ha,hb,hc,hd] j.toNat}]))
def l6(rf:Qi):Value:=(.agg #[.int .i64 (Ob (Xi rf) 0 NZ),.int .i64 (Ob (Xi rf) 1 NZ),.int .i64 (Ob (Xi rf) 2 NZ),.int .i64 (Ob (Xi rf) 3 NZ)])
def l5(rf:Qi):Value:=(.agg #[.int .i64 (Ob (Xj rf) 0 NZ),.int .i64 (Ob (Xj rf) 1 NZ),.int .i64 (Ob (Xj rf) 2 NZ),.int .i64 (Ob (Xj rf) 3 NZ)])
def lz(zn:Nat):Array Value:=#[.slice (some {block:=6,off:=0}) zn 2]
def cB  :Array Value:=#[.slice (some {block:=7,off:=0}) 1 2]
def yS(zn:Nat):Array Value:=#[.slice (some {block:=8,off:=0}) (zn+1) 2]
def ly(rf:Qi):Array Value:=(Qh (pushE 1 encRSp) (Oi (Oa rf.Qd) {z:=true,n:=0,l:=[]}))
def lx(rf:Qi):Array Value:=(Qh (Ur [.slice none 0 0]) (Oi (Oa rf.Qd) ()))
def lv(ha hb hc hd:Int):Array Value:=#[.int .i64 ha,.int .i64 hb,.int .i64 hc,.int .i64 hd]
def gZ(la lb lc ld:Int):Array Value:=#[.int .i64 la,.int .i64 lb,.int .i64 lc,.int .i64 ld]
def uk  :Array Value:=#[.slice (some {block:=6,off:=0}) 1 2]
def cC(B:Lo)(rf:Qi)(Qa:List Int)(la lb lc ld ha hb hc hd:Int)(ys:List sM)(i:Int)(Qs:Nat->Value):List Prop:=let g:=Qa.getD i.toNat 0;let f:=Qr (Wn rf) (We rf g) rf.Qb {a:=la,b:=lb,c:=lc,d:=ld};let e:=Qr (Wo rf) (Wd rf g) rf.Qb {a:=ha,b:=hb,c:=hc,d:=hd};[Q6 []/\Q0 YP J0 79 #[.agg (Ti rf Qa),.agg (lv ha hb hc hd),.int .i64 i] (.agg #[.int .i64 e.a,.int .i64 e.b,.int .i64 e.c,.int .i64 e.d]),Q6 []/\Q0 YP J0 78 #[.agg (Ti rf Qa),.agg (gZ la lb lc ld),.int .i64 i] (.agg #[.int .i64 f.a,.int .i64 f.b,.int .i64 f.c,.int .i64 f.d]),XS i rf.Qd=true]++([]:List Prop)
def l7(rf:Qi)(Qa:List Int)(la lb lc ld ha hb hc hd:Int)(ys:List sM)(i:Int)(Qs:Nat->Value):QD:=let g:=Qa.getD i.toNat 0;let f:=Qr (Wo rf) (Wd rf g) rf.Qb {a:=ha,b:=hb,c:=hc,d:=hd};let e:=Qr (Wn rf) (We rf g) rf.Qb {a:=la,b:=lb,c:=lc,d:=ld};[(0,ZF),(6,Qk.pure (.agg #[.int .i64 e.a,.int .i64 e.b,.int .i64 e.c,.int .i64 e.d]) []),(10,Qk.pure (.agg #[.int .i64 f.a,.int .i64 f.b,.int .i64 f.c,.int .i64 f.d]) [])]
theorem yZ(B:Lo)(rf:Qi)(Qa:List Int)(la lb lc ld ha hb hc hd:Int)(ys:List sM)(i:Int)(Qs:Nat->Value):let n:=rf.Qb;let k:=Uw rf Qa la lb lc ld ha hb hc hd ys i;let j:=Oa i;let h:=0+Oa i*1;let g:=Qh (pushE 1 encRSp) ys;let o:=splice g h uk;let f:=Qr (Wo rf) (Wd rf (Qa.getD j 0)) n {a:=ha,b:=hb,c:=hc,d:=hd};let e:=Qr (Wn rf) (We rf (Qa.getD j 0)) n {a:=la,b:=lb,c:=lc,d:=ld};let m:=[{lo:=e.a,hi:=f.a}];let l:=Qh Qo [{lo:=e.a,hi:=f.a}];landM (Qu YP (Q9 YP) J0 B 28 1 (QK 53 56 (([1,3,4,5,18,19]:List Nat).zip (KF rf Qa la lb lc ld ha hb hc hd ys i)) Qs KG) (QH k) (2+k.length)
 (l7 rf Qa la lb lc ld ha hb hc hd ys i Qs++[(18,ZF),(25,Qk.Za (Hint.idx j)),(26,Qk.Za (Hint.ld (.slice none 0 0))),(36,Qk.Za (Hint.idx j)),(37,Qk.Za (Hint.st (splice g h cB)))]) 0 [] []) [1,3,4,5,6,18,19,33,34] [(2,KS.auto),(3,KS.auto),(4,KS.auto),(5,KS.rows [(1,1)] [] [(7,6)] o),(7,KS.cells [] l)] []=some ⟨53,56,PT,[],.run,none,PS rf Qa e.a e.b e.c e.d f.a f.b f.c f.d (ys) (i) (1) m (1),YN rf Qa e.a e.b e.c e.d f.a f.b f.c f.d (ys) (i) (1) m (1),
 [Zw 1 [(1,1)] [] [(7,6)] (splice g h cB) o,QE 1 [] (#[.int .i64 e.a,.int .i64 f.a]) l,0+Oa i*1+TypeInfo.size Try.t36<=OD g/\splice g h (Value.cells (Zj {len:=16000,tr:=Tri.set 14 (Tri.set 14 Tri.lf 51 (.slice (some {block:=7,off:=0}) 1 2)) 52 (.pointer (some {block:=5,off:=0+Oa i*1}))} 51))=splice g h cB,i=(↑j:Int)/\Oa i<Oa rf.Qd,g[0+Oa i*1]? =some (.slice none 0 0),i=(↑j:Int)/\Oa i<Oa rf.Qd,XS 0 (↑n.length:Int)=true]++cC B rf Qa la lb lc ld ha hb hc hd ys i Qs⟩:=by intro n k j h g o f e m l;kernel_rfl
theorem yY(B:Lo)(rf:Qi)(Qa:List Int)(la lb lc ld ha hb hc hd:Int)(ys:List sM)(i:Int)(Qs:Nat->Value):let k:=Qa.getD i.toNat 0;let j:=rf.Qb;let h:=Uw rf Qa la lb lc ld ha hb hc hd ys i;let g:=Qh (pushE 1 encRSp) ys;let f:=Qr (Wo rf) (Wd rf k) j {a:=ha,b:=hb,c:=hc,d:=hd};let e:=Qr (Wn rf) (We rf k) j {a:=la,b:=lb,c:=lc,d:=ld};landM (Qu YP (Q9 YP) J0 B 23 1 (QK 53 56 (([1,3,4,5,18,19]:List Nat).zip (KF rf Qa la lb lc ld ha hb hc hd ys i)) Qs KG) (QH h) (2+h.length)
 (l7 rf Qa la lb lc ld ha hb hc hd ys i Qs++[(18,Wm),(19,WV (i+1))]) 0 [] []) [1,3,4,5,18,19] [(2,KS.auto),(3,KS.auto),(4,KS.auto),(5,KS.rows [(1,1)] [] [] g)] []=some ⟨53,56,KG,[],.run,none,KF rf Qa e.a e.b e.c e.d f.a f.b f.c f.d (ys) (i+1),Uw rf Qa e.a e.b e.c e.d f.a f.b f.c f.d (ys) (i+1),
 [Zw 1 [(1,1)] [] [] g g,wq (i+1)=i+1,XS 0 (↑j.length:Int)=false]++cC B rf Qa la lb lc ld ha hb hc hd ys i Qs⟩:=by intro k j h g f e;kernel_rfl
theorem yX(B:Lo)(rf:Qi)(Qa:List Int)(la lb lc ld ha hb hc hd:Int)(ys:List sM)(i:Int)(Qs:Nat->Value):let b:=Uw rf Qa la lb lc ld ha hb hc hd ys i;let a:=Fz.cs {k:=5,rs:=[1],cs:=Qh encRSp ys};QW (Qu YP (Q9 YP) J0 B 9 1 (QK 53 56 (([1,3,4,5,18,19]:List Nat).zip (KF rf Qa la lb lc ld ha hb hc hd ys i)) Qs KG) (QH b) (2+b.length)
 [(0,Wm)] 0 [] []) [{k:=5,rs:=[1],cs:=Qh encRSp ys}]=some (QI (Oa rf.Qd) a,
 [Zn (Fz.rs {k:=5,rs:=[1],cs:=Qh encRSp ys}) (Qh (pushE 1 encRSp) ys) a,XS i rf.Qd=false]):=by intro b a;kernel_rfl
theorem yW(B:Lo)(rf:Qi)(Qa:List Int)(la lb lc ld ha hb hc hd:Int)(ys:List sM)(i j:Int)(zs:List Span)(zn:Nat)(Qs:Nat->Value):let o:=yS zn;let n:=Oa i;let g:=YN rf Qa la lb lc ld ha hb hc hd ys i j zs zn;let e:=some {block:=6,off:=0};let d:=Oa j;let l:=Qp [ha,hb,hc,hd] d;let k:=Qp [la,lb,lc,ld] d;let p:=.int .i64 k;let f:=zs++[{lo:=Qp [la,lb,lc,ld] d,hi:=Qp [ha,hb,hc,hd] d}];let c:=0+Oa i*1;let b:=yT la lb lc ld ha hb hc hd j zs;let a:=Qh (pushE 1 encRSp) ys;let m:=splice a c #[.slice e (zn+1) 2];let h:=splice a c (lz zn);landM (Qu YP (Q9 YP) J0 B 13 1 (QK 53 56 (([1,3,4,5,6,18,19,33,34]:List Nat).zip (PS rf Qa la lb lc ld ha hb hc hd ys i j zs zn)) Qs PT) (QH g) (2+g.length)
 [(0,ZF),(7,Qk.Za (Hint.idx n)),(8,Qk.Za (Hint.ld (.slice e zn 2))),(10,Qk.Za (Hint.idx d)),(11,Qk.Za (Hint.ld p)),(13,Qk.Za (Hint.idx d)),(14,Qk.Za (Hint.ld (.int .i64 l))),(17,Qk.Za (Hint.app b)),(18,Qk.Za (Hint.idx n)),(19,Qk.Za (Hint.st (splice a c o))),(20,WV (j+1))] 0 [] []) [1,3,4,5,6,18,19,33,34] [(2,KS.auto),(3,KS.auto),(4,KS.auto),(5,KS.rows [(1,1)] [] [(8,6)] m),(8,KS.cells [] b)] []=some ⟨53,56,PT,[],.run,none,PS rf Qa (la) (lb) (lc) (ld) (ha) (hb) (hc) (hd) (ys) (i) (j+1) f (zn+1),YN rf Qa (la) (lb) (lc) (ld) (ha) (hb) (hc) (hd) (ys) (i) (j+1) f (zn+1),
 [Zw 1 [(1,1)] [] [(8,6)] (splice a c o) m,QE 1 [] b b,wq (j+1)=j+1,0+Oa i*1+TypeInfo.size Try.t36<=OD h/\splice h c (Value.cells (Zj {len:=16000,tr:=Tri.set 14 (Tri.set 14 Tri.lf 51 (.slice (some {block:=8,off:=0}) (zn+1) 2)) 52 (.pointer (some {block:=5,off:=0+Oa i*1}))} 51))=splice a c o,i=(↑n:Int)/\Oa i<Oa rf.Qd,NH (Qh Qo zs) #[.int .i64 k,.int .i64 l] b zn (1+1) 16,(lv ha hb hc hd)[0+Oa j*1]? =some (.int .i64 l),j=(↑d:Int)/\Oa j<4,(gZ la lb lc ld)[0+Oa j*1]? =some p,j=(↑d:Int)/\Oa j<4,h[0+Oa i*1]? =some (.slice e zn 2),i=(↑n:Int)/\Oa i<Oa rf.Qd,XS j (↑rf.Qb.length:Int)=true]⟩:=by intro o n g e d l k p f c b a m h;kernel_rfl
theorem yV(B:Lo)(rf:Qi)(Qa:List Int)(la lb lc ld ha hb hc hd:Int)(ys:List sM)(i j:Int)(zs:List Span)(zn:Nat)(Qs:Nat->Value):let c:=pushE 1 encRSp;let b:=YN rf Qa la lb lc ld ha hb hc hd ys i j zs zn;let a:=OL ys i.toNat {z:=false,n:=zn,l:=zs};landM (Qu YP (Q9 YP) J0 B 8 1 (QK 53 56 (([1,3,4,5,6,18,19,33,34]:List Nat).zip (PS rf Qa la lb lc ld ha hb hc hd ys i j zs zn)) Qs PT) (QH b) (2+b.length)
 [(0,Wm),(1,WV (i+1))] 0 [] []) [1,3,4,5,18,19] [(2,KS.auto),(3,KS.auto),(4,KS.auto),(5,KS.rows [(1,1)] [6] [] (Qh c a))] [{k:=6,rs:=[],cs:=Qh Qo zs}]=some ⟨53,56,KG,[],.run,none,KF rf Qa (la) (lb) (lc) (ld) (ha) (hb) (hc) (hd) a (i+1),Uw rf Qa (la) (lb) (lc) (ld) (ha) (hb) (hc) (hd) a (i+1),
 [Zw 1 [(1,1)] [(6,Fz.cs {k:=6,rs:=[],cs:=Qh Qo zs})] [] (splice (Qh c ys) (0+Oa i*1) (lz zn)) (Qh c a),Zn (Fz.rs {k:=6,rs:=[],cs:=Qh Qo zs}) (Qh Qo zs) (Fz.cs {k:=6,rs:=[],cs:=Qh Qo zs}),wq (i+1)=i+1,XS j (↑rf.Qb.length:Int)=false]⟩:=by intro c b a;kernel_rfl
theorem yU(B:Lo)(rf:Qi)(Qa:List Int):let k:=Ob (Xj rf) 3 NZ;let j:=Ob (Xj rf) 2 NZ;let i:=Ob (Xj rf) 1 NZ;let h:=Ob (Xj rf) 0 NZ;let g:=Ob (Xi rf) 3 NZ;let f:=Ob (Xi rf) 2 NZ;let e:=Ob (Xi rf) 1 NZ;let d:=Ob (Xi rf) 0 NZ;let a:=rf.Qd;let m:=Oa a;let c:=Oi m {z:=true,n:=0,l:=[]};let b:=Zj {len:=16000,tr:=Tri.set 14 Tri.lf 14 (.int .i64 a)} 14;landM (Qu YP (Q9 YP) J0 B 11 1 (Qx YP 53 56 (([.agg (QL rf Qa).toArray]).map (Q8 0 4))) Zf 1
 [(3,Qk.pure (l6 rf) []),(5,Qk.pure (l5 rf) []),(13,Qk.Za (Hint.mk m (lx rf)))] 0 [] []) [1,3,4,5,18,19] [(1,KS.auto),(2,KS.auto),(3,KS.auto),(4,KS.rows [] [] [] (ly rf))] []=some ⟨53,56,KG,[],.run,none,KF rf Qa d e f g h i j k c (0),Uw rf Qa d e f g h i j k c (0),
 [Zw 1 [] [] [] (lx rf) (ly rf),RH YP 30 b b=some (36,Qh (Ur [.slice none 0 0]) (Oi m ()),Oa a,TypeInfo.size Try.t36),Q6 []/\Q0 YP J0 75 #[.agg (Ti rf Qa),Value.func (Fn.func 77) #[] #[]] (l5 rf),Q6 []/\Q0 YP J0 75 #[.agg (Ti rf Qa),Value.func (Fn.func 76) #[] #[]] (l6 rf)]⟩:=by intro k j i h g f e d a m c b;kernel_rfl
set_option maxHeartbeats 4000000 in
theorem za(rf:Qi)(Qa:List Int)(hr:Zd rf=true)(hl:Qa.length<=4)(hp:∀j:Nat,0<=Qa.getD j 0/\Qa.getD j 0<=1000000){B:Lo}(hJ:∀w,B.has w->J0 w){c0:CF}:∀m:Nat,(∀(la lb lc ld ha hb hc hd:Int) (ys:List sM) (i:Int),100*(rf.Qd-i).toNat=m->∀(h0:0<=i) (h1:i<=rf.Qd) (el:(⟨la,lb,lc,ld⟩:F4)=W4 rf Qa i.toNat) (eh:(⟨ha,hb,hc,hd⟩:F4)=ZD rf Qa i.toNat) (ey:ys=JR rf Qa i),zd B c0 rf Qa la lb lc ld ha hb hc hd ys i->EndsT YP B c0 (QI (XH rf Qa).length (Qh Vh (XH rf Qa))))/\(∀(la lb lc ld ha hb hc hd:Int) (ys:List sM) (i j:Int) (zs:List Span) (zn:Nat),100*(rf.Qd-i).toNat-99+(rf.Qb.length-j.toNat)=m->∀(h0:0<=i) (h1:i<rf.Qd) (j0:1<=j) (j1:j<=rf.Qb.length) (hz:zn=zs.length) (hzb:(zn:Int)=j) (ez:zs=(Rj 0 j).map (YA rf Qa i)) (el:(⟨la,lb,lc,ld⟩:F4)=W4 rf Qa (i+1).toNat) (eh:(⟨ha,hb,hc,hd⟩:F4)=ZD rf Qa (i+1).toNat) (ey:ys=JR rf Qa i),zb B c0 rf Qa la lb lc ld ha hb hc hd ys i j zs zn->EndsT YP B c0 (QI (XH rf Qa).length (Qh Vh (XH rf Qa)))):=by
 intro m0;induction m0 using Ox with
 |_ m0 ih0=>
  refine⟨?_, ?_⟩
  ·intro la lb lc ld ha hb hc hd ys i JP h0 h1 el eh ey ⟨Qs,ZV,XF⟩;have Z8:=QA (QQ hr).1;have Wi:=RQ Qa hr;have Y5:=T5 Qa hr;have Z8:=QA (QQ hr).1;have Wi:=RQ Qa hr;have Y5:=T5 Qa hr;have hyl:ys.length=rf.Qd.toNat:=by rw[ey];exact oT
   have hst1:=Wi.st i.toNat (by omega);have hst2:=Y5.st i.toNat (by omega);have hf1:Pm ⟨la,lb,lc,ld⟩:=by rw[el];exact hst1.1
   have hf2:Pm ⟨ha,hb,hc,hd⟩:=by rw[eh];exact hst2.1
   have hss1:=Wi.hs;have hss2:=Y5.hs;have JZ:F4.sum ⟨la,lb,lc,ld⟩<=10000000000:=by rw[el];have:=hst1.2;unfold W4;omega
   have hs2:F4.sum ⟨ha,hb,hc,hd⟩<=10000000000:=by rw[eh];have:=hst2.2;unfold ZD;omega
   have hti:(i+1).toNat=i.toNat+1:=by omega
   by_cases q0:(i:Int)<rf.Qd
   ·have V5:Q6 (cC B rf Qa la lb lc ld ha hb hc hd ys i Qs):=by
     have JO:=Kx (Qa:=Qa) h0 q0;have hn2:=Ug (Qa:=Qa) h0 q0;rw[<-el]at JO;rw[<-eh]at hn2;have hse:=Sj (Qa:=Qa) h0 q0;exact⟨⟨trivial,L6 (rf) (Qa) (ha) (hb) (hc) (hd) (i) (by with_reducible assumption) (by with_reducible assumption) (by with_reducible assumption) (by with_reducible assumption) (by omega) (by with_reducible assumption) (by with_reducible assumption)⟩,⟨⟨trivial,Bw (rf) (Qa) (la) (lb) (lc) (ld) (i) (by with_reducible assumption) (by with_reducible assumption) (by with_reducible assumption) (by with_reducible assumption) (by omega) (by with_reducible assumption) (by with_reducible assumption)⟩,⟨(XC q0),trivial⟩⟩⟩
    by_cases q1:(0:Int)<((↑rf.Qb.length:Int))
    ·cases q2:sM.z (ys.getD i.toNat NZ)with
     |true=>
      have JO:=Kx (Qa:=Qa) h0 q0;have hn2:=Ug (Qa:=Qa) h0 q0;rw[<-el]at JO;rw[<-eh]at hn2;have hse:=Sj (Qa:=Qa) h0 q0;exact((ih0 _ (by omega)).2 (F4.a (Qr (Wn rf) (We rf (Qa.getD i.toNat 0)) rf.Qb {a:=la,b:=lb,c:=lc,d:=ld})) (F4.b (Qr (Wn rf) (We rf (Qa.getD i.toNat 0)) rf.Qb {a:=la,b:=lb,c:=lc,d:=ld})) (F4.c (Qr (Wn rf) (We rf (Qa.getD i.toNat 0)) rf.Qb {a:=la,b:=lb,c:=lc,d:=ld})) (F4.d (Qr (Wn rf) (We rf (Qa.getD i.toNat 0)) rf.Qb {a:=la,b:=lb,c:=lc,d:=ld})) (F4.a (Qr (Wo rf) (Wd rf (Qa.getD i.toNat 0)) rf.Qb {a:=ha,b:=hb,c:=hc,d:=hd})) (F4.b (Qr (Wo rf) (Wd rf (Qa.getD i.toNat 0)) rf.Qb {a:=ha,b:=hb,c:=hc,d:=hd})) (F4.c (Qr (Wo rf) (Wd rf (Qa.getD i.toNat 0)) rf.Qb {a:=ha,b:=hb,c:=hc,d:=hd})) (F4.d (Qr (Wo rf) (Wd rf (Qa.getD i.toNat 0)) rf.Qb {a:=ha,b:=hb,c:=hc,d:=hd})) (ys) (i) (1) ([{lo:=F4.a (Qr (Wn rf) (We rf (Qa.getD i.toNat 0)) rf.Qb {a:=la,b:=lb,c:=lc,d:=ld}),hi:=F4.a (Qr (Wo rf) (Wd rf (Qa.getD i.toNat 0)) rf.Qb {a:=ha,b:=hb,c:=hc,d:=hd})}]) (1) rfl (by with_reducible assumption) (by with_reducible assumption) (by omega) (by omega) (by rfl) (by omega) (by(show _=[YA rf Qa i 0];unfold YA;rw[<-hti,JO,hn2];rfl)) (by exact JO.symm) (by exact hn2.symm) (by with_reducible assumption)
       (XF.landM okF hJ Qg (yZ B rf Qa la lb lc ld ha hb hc hd ys i Qs)
       (by exact⟨(by exact(iS (Y7 (Vg (by(intro x_;rcases x_ with ⟨_|_,_,_⟩ <;> rfl))) (OT _)) (by exact⟨.keep (OT _),trivial⟩))),⟨(WC (by kernel_rfl)),⟨⟨(by exact dF (z:=1) (k:=Oa i) (fun _=>rfl) (by first|omega|(rw[OS];omega)|(rw[OC];omega)) rfl),rfl⟩,⟨⟨by omega,by omega⟩,⟨(by exact Fc (z:=1) (j:=0) (k:=Oa i) (fun _=>rfl) (by omega) (by(simp only[Go.CE.pushE,Go.Proofs.Ytncjjangllkokaa.encRSp,q2];rfl))),⟨⟨by omega,by omega⟩,⟨(XC q1),V5⟩⟩⟩⟩⟩⟩⟩) (by kernel_rfl) (by kernel_rfl))).cast (by rfl)
     |false=>
      exfalso
      (exact Bool.noConfusion ((Ie ey h0 (by omega)).symm.trans ‹(ys.getD i.toNat NZ).z=false›))
    ·have JO:=Kx (Qa:=Qa) h0 q0;have hn2:=Ug (Qa:=Qa) h0 q0;rw[<-el]at JO;rw[<-eh]at hn2;have hse:=Sj (Qa:=Qa) h0 q0;exact((ih0 _ (by omega)).1 (F4.a (Qr (Wn rf) (We rf (Qa.getD i.toNat 0)) rf.Qb {a:=la,b:=lb,c:=lc,d:=ld})) (F4.b (Qr (Wn rf) (We rf (Qa.getD i.toNat 0)) rf.Qb {a:=la,b:=lb,c:=lc,d:=ld})) (F4.c (Qr (Wn rf) (We rf (Qa.getD i.toNat 0)) rf.Qb {a:=la,b:=lb,c:=lc,d:=ld})) (F4.d (Qr (Wn rf) (We rf (Qa.getD i.toNat 0)) rf.Qb {a:=la,b:=lb,c:=lc,d:=ld})) (F4.a (Qr (Wo rf) (Wd rf (Qa.getD i.toNat 0)) rf.Qb {a:=ha,b:=hb,c:=hc,d:=hd})) (F4.b (Qr (Wo rf) (Wd rf (Qa.getD i.toNat 0)) rf.Qb {a:=ha,b:=hb,c:=hc,d:=hd})) (F4.c (Qr (Wo rf) (Wd rf (Qa.getD i.toNat 0)) rf.Qb {a:=ha,b:=hb,c:=hc,d:=hd})) (F4.d (Qr (Wo rf) (Wd rf (Qa.getD i.toNat 0)) rf.Qb {a:=ha,b:=hb,c:=hc,d:=hd})) (ys) (i+1) rfl (by omega) (by omega) (by omega) (by omega) (by omega)
      (XF.landM okF hJ Qg (yY B rf Qa la lb lc ld ha hb hc hd ys i Qs)
      (by exact⟨(by exact(Y7 (Vg (by(intro x_;rcases x_ with ⟨_|_,_,_⟩ <;> rfl))) (OT _))),⟨(Xq (by omega) (by omega)),⟨(XO (Int.not_lt.1 q1)),V5⟩⟩⟩) (by kernel_rfl) (by kernel_rfl))).cast (by rfl)
   ·exact(GoE.endsT okF hJ Qg XF (yX B rf Qa la lb lc ld ha hb hc hd ys i Qs)
     ⟨(Kn (Vg (by(intro x_;rcases x_ with ⟨_|_,_,_⟩ <;> rfl))) (OT _)),⟨(XO (Int.not_lt.1 q0)),trivial⟩⟩).cast (by(show QI rf.Qd.toNat (Qh encRSp ys)=_;rw[show(XH rf Qa).length=rf.Qd.toNat from XK,<-Ce (i:=i) (by omega),<-ey]))
  ·intro la lb lc ld ha hb hc hd ys i j zs zn JP h0 h1 j0 j1 hz hzb ez el eh ey ⟨Qs,ZV,XF⟩;have Z8:=QA (QQ hr).1;have Wi:=RQ Qa hr;have Y5:=T5 Qa hr;have Z8:=QA (QQ hr).1;have Wi:=RQ Qa hr;have Y5:=T5 Qa hr;have hyl:ys.length=rf.Qd.toNat:=by rw[ey];exact oT
   have hsel1:Qp [la,lb,lc,ld] j.toNat=F4.at (W4 rf Qa (i+1).toNat) j:=by rw[<-el];rfl
   have hsel2:Qp [ha,hb,hc,hd] j.toNat=F4.at (ZD rf Qa (i+1).toNat) j:=by rw[<-eh];rfl
   have hti:(i+1).toNat=i.toNat+1:=by omega
   by_cases q0:(j:Int)<((↑rf.Qb.length:Int))
   ·have hse:=Sj (Qa:=Qa) h0 h1;exact((ih0 _ (by omega)).2 (la) (lb) (lc) (ld) (ha) (hb) (hc) (hd) (ys) (i) (j+1) (zs++[{lo:=Qp [la,lb,lc,ld] j.toNat,hi:=Qp [ha,hb,hc,hd] j.toNat}]) (zn+1) rfl (by with_reducible assumption) (by with_reducible assumption) (by omega) (by omega) (by(rw[OJ];simp;omega)) (by omega) (by(rw[tg (by omega),List.map_append,<-ez,hsel1,hsel2,hti];rfl)) (by with_reducible assumption) (by with_reducible assumption) (by with_reducible assumption)
     (XF.landM okF hJ Qg (yW B rf Qa la lb lc ld ha hb hc hd ys i j zs zn Qs)
     (by exact⟨(by exact(iS (Y7 (Vg (by(intro x_;rcases x_ with ⟨_|_,_,_⟩ <;> rfl))) (OT _)) (by exact⟨.keep (OT _),trivial⟩))),⟨(Qn (Qq (fun x=>List.all_eq_true.1 (by rfl)))),⟨(Xq (by omega) (by omega)),⟨(Cf (by exact Nat.lt_of_succ_le (dF (z:=1) (z':=1) (fun _=>rfl) (by first|omega|(rw[OS];omega)|(rw[OC];omega)) rfl))),⟨⟨by omega,by omega⟩,⟨⟨(by(rw[ZE (z:=2) (fun _=>rfl)];first|omega|(simp;omega)|(simp_all;done))),(by unfold maxLen;omega),by omega,by first|exact WH|exact W9 rfl⟩,⟨(Z9 rfl (Oo (m:=4) (by omega) rfl)),⟨⟨by omega,by omega⟩,⟨(Z9 rfl (Oo (m:=4) (by omega) rfl)),⟨⟨by omega,by omega⟩,⟨(Cg (by exact Nat.lt_of_succ_le (dF (z:=1) (z':=1) (fun _=>rfl) (by first|omega|(rw[OS];omega)|(rw[OC];omega)) rfl))),⟨⟨by omega,by omega⟩,⟨(XC q0),trivial⟩⟩⟩⟩⟩⟩⟩⟩⟩⟩⟩⟩⟩) (by kernel_rfl) (by kernel_rfl))).cast (by rfl)
   ·have hse:=Sj (Qa:=Qa) h0 h1;exact((ih0 _ (by omega)).1 (la) (lb) (lc) (ld) (ha) (hb) (hc) (hd) (OL ys i.toNat {z:=false,n:=zn,l:=zs}) (i+1) rfl (by omega) (by omega) (by with_reducible assumption) (by with_reducible assumption) (by(rw[ey,show zn=rf.Qb.length by omega,ez,show j=rf.Qb.length by omega];exact hse))
     (XF.landM okF hJ Qg (yV B rf Qa la lb lc ld ha hb hc hd ys i j zs zn Qs)
     (by exact⟨(by exact(bc (z:=1) (k:=Oa i) (fun _=>rfl) (Y7 (Vg (by(intro x_;rcases x_ with ⟨_|_,_,_⟩ <;> rfl))) (OT _)) (by omega) (by exact⟨(.own (OT _)),trivial⟩))),⟨(XZ (fun x=>List.all_eq_true.1 (by rfl))),⟨(Xq (by omega) (by omega)),⟨(XO (Int.not_lt.1 q0)),trivial⟩⟩⟩⟩) (by kernel_rfl) (by kernel_rfl))).cast (by rfl)
set_option maxHeartbeats 4000000 in
theorem CO(rf:Qi)(Qa:List Int)(hr:Zd rf=true)(hl:Qa.length<=4)(hp:∀j:Nat,0<=Qa.getD j 0/\Qa.getD j 0<=1000000){B:Lo}(hJ:∀w,B.has w->J0 w):EndsT YP B (Qx YP 53 56 (([.agg (QL rf Qa).toArray]).map (Q8 0 4))) (QI (XH rf Qa).length (Qh Vh (XH rf Qa))):=by
 have Z8:=QA (QQ hr).1;have Wi:=RQ Qa hr;have Y5:=T5 Qa hr;exact((za rf Qa hr hl hp hJ _).1 (Ob (Xi rf) 0 NZ) (Ob (Xi rf) 1 NZ) (Ob (Xi rf) 2 NZ) (Ob (Xi rf) 3 NZ) (Ob (Xj rf) 0 NZ) (Ob (Xj rf) 1 NZ) (Ob (Xj rf) 2 NZ) (Ob (Xj rf) 3 NZ) (Oi (Oa rf.Qd) {z:=true,n:=0,l:=[]}) (0) rfl (by omega) (by omega) (by rfl) (by rfl) (by exact Ig)
  (GoE.start.landM okF hJ Qg (yU B rf Qa)
  (by exact⟨(by exact(V7 (by exact⟨(.simple rfl),trivial⟩) _)),⟨(dg (bytes:=24) (by kernel_rfl) (by omega) (by omega) (by omega)),⟨⟨trivial,Bv (rf) (Qa) (by with_reducible assumption)⟩,⟨⟨trivial,Bu (rf) (Qa) (by with_reducible assumption)⟩,trivial⟩⟩⟩⟩) (by kernel_rfl) (by kernel_rfl))).cast (by rfl)
theorem I2(rf:Qi)(Qa:List Int)(hr:Zd rf=true)(hl:Qa.length<=4)(hp:∀j:Nat,0<=Qa.getD j 0/\Qa.getD j 0<=1000000):Q0 YP J0 53 #[.agg (QL rf Qa).toArray] (QI (XH rf Qa).length (Qh Vh (XH rf Qa))):=
 Xo (ts:=[.agg (QL rf Qa).toArray]) Zh (c0:=Qx YP 53 56 (([.agg (QL rf Qa).toArray]).map (Q8 0 4))) (by kernel_rfl) (by kernel_rfl) fun B hJ=>CO rf Qa hr hl hp hJ
end
end Go.Proofs.Ytncjjangllkokaa

namespace Go.Proofs.Ytncjjangllkokaa
open Go Go.CE Go.RowKit
noncomputable section
abbrev Kr(xs:List (List Span)):Value:=QI xs.length (Qh Vh xs)
def zI(rf:Qi)(Qa:List Int):Array Value:=#[QI rf.Qb.length (Qh Qm rf.Qb),.int .i64 rf.Qc,.int .i64 rf.Qd,.int .i64 (Qa.getD 0 0),.int .i64 (Qa.getD 1 0),.int .i64 (Qa.getD 2 0),.int .i64 (Qa.getD 3 0)]
def cO(rf:Qi):Array Value:=#[QI rf.Qb.length (Qh Qm rf.Qb),.int .i64 rf.Qc,.int .i64 rf.Qd]
def cN(rf:Qi)(Qa:List Int):Array Value:=#[.agg (cO rf),QI Qa.length (Qh QR Qa)]
def cP(B:Lo)(rf:Qi)(Qa:List Int):List Prop:=[Q6 []/\Q0 YP J0 50 #[.agg (cO rf)] (.bool true)]++([]:List Prop)
def mo(rf:Qi)(Qa:List Int):QD:=[(4,Qk.pure (.bool true) [])]
set_option maxRecDepth 100000 in
theorem zL(B:Lo)(rf:Qi)(Qa:List Int):let b:=zI rf Qa;let a:=XH rf Qa;let c:=QI a.length (Qh Vh a);QW (Qu YP (Q9 YP) J0 B 11 1 (Qx YP 18 19 (([.agg (Q5 rf).toArray,XI Qa]).map (Q8 0 4))) Zf 1
 (mo rf Qa++[(9,Qk.pure (.bool true) []),(14,Qk.pure (.agg b) []),(15,Qk.pure c [])]) 0 [] []) []=some (.tuple #[QI a.length (Qh Vh a),.int .i64 0],
 [Q6 []/\Q0 YP J0 53 #[.agg b] c,Q6 []/\Q0 YP J0 52 (cN rf Qa) (.agg b),Q6 []/\Q0 YP J0 51 (cN rf Qa) (.bool true)]++cP B rf Qa):=by intro b a c;kernel_rfl
set_option maxRecDepth 100000 in
theorem zK(B:Lo)(rf:Qi)(Qa:List Int):QW (Qu YP (Q9 YP) J0 B 10 1 (Qx YP 18 19 (([.agg (Q5 rf).toArray,XI Qa]).map (Q8 0 4))) Zf 1
 (mo rf Qa++[(9,Qk.pure (.bool false) [])]) 0 [] []) []=some (.tuple #[QI 0 #[],.int .i64 2],
 [Q6 []/\Q0 YP J0 51 (cN rf Qa) (.bool false)]++cP B rf Qa):=by kernel_rfl
set_option maxRecDepth 100000 in
theorem zJ(B:Lo)(rf:Qi)(Qa:List Int):QW (Qu YP (Q9 YP) J0 B 10 1 (Qx YP 18 19 (([.agg (Q5 rf).toArray,XI Qa]).map (Q8 0 4))) Zf 1
 [(4,Qk.pure (.bool false) [])] 0 [] []) []=some (.tuple #[QI 0 #[],.int .i64 2],
 [Q6 []/\Q0 YP J0 50 #[.agg (cO rf)] (.bool false)]):=by kernel_rfl
set_option maxHeartbeats 4000000 in
theorem Dl(rf:Qi)(Qa:List Int)  {B:Lo}(hJ:∀w,B.has w->J0 w):EndsT YP B (Qx YP 18 19 (([.agg (Q5 rf).toArray,XI Qa]).map (Q8 0 4))) (.tuple #[if QC rf && QV rf Qa then Kr (XH rf Qa)else Kr [],.int .i64 (if QC rf && QV rf Qa then 0 else 2)]):=by
 cases q0:QC rf with
 |true=>
  have V5:Q6 (cP B rf Qa):=by
   try have Ui:=QO ‹QC rf=true›
   try have Z8:=QA (QJ ‹QC rf=true›).1
   try have hpf:=(Xn ‹QV rf Qa=true›).1
   try have hpg:=(fun j=>(fun h=>⟨h.1,by omega⟩) (VP Ui ‹QV rf Qa=true› j):∀j:Nat,0<=Qa.getD j 0/\Qa.getD j 0<=1000000)
   exact⟨⟨trivial,(by have t_:=bE (rf);rw[q0]at t_;exact t_)⟩,trivial⟩
  cases q1:QV rf Qa with
  |true=>
   try have Ui:=QO ‹QC rf=true›
   try have Z8:=QA (QJ ‹QC rf=true›).1
   try have hpf:=(Xn ‹QV rf Qa=true›).1
   try have hpg:=(fun j=>(fun h=>⟨h.1,by omega⟩) (VP Ui ‹QV rf Qa=true› j):∀j:Nat,0<=Qa.getD j 0/\Qa.getD j 0<=1000000)
   exact(GoE.endsT okF hJ Qg GoE.start (zL B rf Qa)
    ⟨⟨trivial,I2 (rf) (Qa) (by first|with_reducible assumption|omega|simp_all) (by first|with_reducible assumption|omega|simp_all) (by first|with_reducible assumption|omega|simp_all)⟩,⟨⟨trivial,fW (rf) (Qa) (by first|with_reducible assumption|omega|simp_all) (by first|with_reducible assumption|omega|simp_all)⟩,⟨⟨trivial,(by have t_:=bF (rf) (Qa) (by first|with_reducible assumption|omega|simp_all);rw[q1]at t_;exact t_)⟩,V5⟩⟩⟩).cast (by first|rfl|(simp[*];done)|(simp_all;done))
  |false=>
   try have Ui:=QO ‹QC rf=true›
   try have Z8:=QA (QJ ‹QC rf=true›).1
   try have hpf:=(Xn ‹QV rf Qa=true›).1
   try have hpg:=(fun j=>(fun h=>⟨h.1,by omega⟩) (VP Ui ‹QV rf Qa=true› j):∀j:Nat,0<=Qa.getD j 0/\Qa.getD j 0<=1000000)
   exact(GoE.endsT okF hJ Qg GoE.start (zK B rf Qa)
    ⟨⟨trivial,(by have t_:=bF (rf) (Qa) (by first|with_reducible assumption|omega|simp_all);rw[q1]at t_;exact t_)⟩,V5⟩).cast (by first|rfl|(simp[*];done)|(simp_all;done))
 |false=>
  try have Ui:=QO ‹QC rf=true›
  try have Z8:=QA (QJ ‹QC rf=true›).1
  try have hpf:=(Xn ‹QV rf Qa=true›).1
  try have hpg:=(fun j=>(fun h=>⟨h.1,by omega⟩) (VP Ui ‹QV rf Qa=true› j):∀j:Nat,0<=Qa.getD j 0/\Qa.getD j 0<=1000000)
  exact(GoE.endsT okF hJ Qg GoE.start (zJ B rf Qa)
   ⟨⟨trivial,(by have t_:=bE (rf);rw[q0]at t_;exact t_)⟩,trivial⟩).cast (by first|rfl|(simp[*];done)|(simp_all;done))
theorem IC(rf:Qi)(Qa:List Int)  :Q0 YP J0 18 #[.agg (Q5 rf).toArray,XI Qa] (.tuple #[if QC rf && QV rf Qa then Kr (XH rf Qa)else Kr [],.int .i64 (if QC rf && QV rf Qa then 0 else 2)]):=
 Xo (ts:=[.agg (Q5 rf).toArray,XI Qa]) Zh (c0:=Qx YP 18 19 (([.agg (Q5 rf).toArray,XI Qa]).map (Q8 0 4))) (by kernel_rfl) (by kernel_rfl) fun B hJ=>Dl rf Qa  hJ
end
end Go.Proofs.Ytncjjangllkokaa

namespace Go.Proofs.Ytncjjangllkokaa
open Go Go.CE Go.RowKit
noncomputable section
set_option maxRecDepth 100000
theorem qk{r a b:Int}(hr:0<=r)(h0:0<=a)(h:a<=b):ZZ r a<=ZZ r b:=by
 unfold ZZ;have h1:a*r<=b*r:=Int.mul_le_mul_of_nonneg_right h hr;have h2:0<=a*r:=Int.mul_nonneg h0 hr;rw[OI h2,OI (by omega)];omega
theorem nV{r n:Int}(hr:0<=r/\r<=2000)(h0:0<=n):0<=XU r n/\XU r n<=n/\(∀c,0<=c->c<XU r n->ZQ r n c=false)/\∀c,XU r n<=c->ZQ r n c=true:=by
 have mono:∀c c':Int,0<=c->c<=c'->ZQ r n c=true->ZQ r n c'=true:=fun c c' g0 g1 h=>by
  simp only[ZQ,decide_eq_true_iff]at h ⊢;have:=qk hr.1 g0 g1;omega
 have hn:ZQ r n n=true:=by
  have h2:0<=n*r:=Int.mul_nonneg h0 hr.1;have h3:(n*r).tdiv 1000=n*r / 1000:=OI h2;exact decide_eq_true (by show n<=n+(n*r).tdiv 1000;omega)
 obtain⟨a1,a2,a3,a4⟩:=qj (p:=ZQ r n) (q:=fun _=>0) _ 0 n 0 rfl (OV _) h0 (fun c c' g0 g1 _ h=>mono c c' g0 g1 h);refine⟨a1,a2,a3,fun c hc=> ?_⟩;by_cases e:c<n
 ·exact a4 c hc e
 ·exact mono n c h0 (by omega) hn
theorem Ef{r n u:Int}(hr:0<=r/\r<=2000)(h0:0<=n):(Rh (ZQ r n) (fun _=>0) 0 (n+1) u).1=XU r n:=by
 obtain⟨b1,b2,b3,b4⟩:=nV hr h0;obtain⟨a1,a2,a3,a4⟩:=qj (p:=ZQ r n) (q:=fun _=>0) _ 0 (n+1) u rfl (OV _) (by omega) (fun c c' g0 g1 _ h=>by
  simp only[ZQ,decide_eq_true_iff]at h ⊢;have:=qk hr.1 g0 g1;omega)
 generalize (Rh (ZQ r n) (fun _=>0) 0 (n+1) u).1=m at *;by_cases e:m<XU r n
 ·have x:=a4 m (OV _) (by omega);have y:=b3 m a1 e;rw[x]at y;cases y
 ·by_cases e2:XU r n<m
  ·have x:=a3 _ b1 e2;have y:=b4 _ (OV _);rw[x]at y;cases y
  ·omega
def Vm(Xf Qc:Int):Qy:=[(2,Obj.cells #[.int .i64 Qc] 3),(1,Obj.cells #[.int .i64 Xf] 3),(0,Obj.coro none)]
def P4(Xf Qc:Int):CF:=⟨92,ofList 26 [.int .i64 Xf,Value.func (Fn.func 99) #[] #[pA 2 0,pA 1 0]],[Item.code (QP YP 92)],[],.run,none⟩
def VD(Xf Qc:Int)(a b:Int):List Value:=[Value.func (Fn.func 99) #[] #[pA 2 0,pA 1 0],.int .i64 a,.int .i64 b]
def VC(Xf Qc:Int)(a b:Int):List Obj:=[]
def WR(Xf Qc:Int)(a b:Int):List Obj:=[]
def VE:List Item:=([.code [1,0,1,1,0,0,0],.inLoop [1,0,1,1,0,0,0],.inBlock 0,.code [1,0,1,1,1],.inScope [1,0]]).map (it (QP YP 92))
def gf(B:Lo)(Xf Qc:Int)(a b:Int)(Qs:Nat->Value):List Prop:=[IntKind.wrap .i64 (Od (a+b) 2)=Od (a+b) 2,wq (a+b)=a+b]++([]:List Prop)
def pO(Xf Qc:Int)(a b:Int)(Qs:Nat->Value):QD:=[(2,WV (a+b)),(3,WV (Od (a+b) 2))]
theorem CX(B:Lo)(Xf Qc:Int)(a b:Int)(Qs:Nat->Value):let c:=WR Xf Qc a b;CE.finK 3 (Qu YP (Q9 YP) J0 B 12 3 (Zc (none) 92 26 (([1,5,6]:List Nat).zip (VD Xf Qc a b)) Qs VE) (XL (Vm Xf Qc) 3 (([]:List Nat).zip (VC Xf Qc a b)) c) (3+1+c.length)
 (pO Xf Qc a b Qs++[(7,ZF)]) 0 [] []) [] [] []=some (OO.ret (.int .i64 a),[],[],
 [Y6 a b=true]++gf B Xf Qc a b Qs):=by intro c;kernel_rfl
def fZ(B:Lo)(Xf Qc:Int)(a b:Int)(Qs:Nat->Value):List Prop:=[Y6 a b=false]++gf B Xf Qc a b Qs
def pN(Xf Qc:Int)(a b:Int)(Qs:Nat->Value):QD:=pO Xf Qc a b Qs++[(7,Wm)]
def Ub(Xf Qc:Int)(a b:Int)(Qs:Nat->Value):Qy:=[(3,Obj.coro none),(2,Obj.cells #[.int .i64 Qc] 3),(1,Obj.cells #[.int .i64 Xf] 3),(0,Obj.coro none)]
def KP(Xf Qc:Int)(a b:Int)(Qs:Nat->Value):CF:=⟨99,ofList 10 [.int .i64 (Od (a+b) 2),pA 2 0,pA 1 0],[Item.code (QP YP 99)],[],.run,none⟩
theorem CW(B:Lo)(Xf Qc:Int)(a b:Int)(Qs:Nat->Value):let c:=Od (a+b) 2+Od (Od (a+b) 2*Qc) 1000;let d:=.int .i64 c;CE.finK 4 (Qu YP (Q9 YP) J0 B 6 4 (KP Xf Qc a b Qs) (Ub Xf Qc a b Qs) 4
 [(3,Qk.pure d []),(5,ZF)] 0 [] []) [] [] []=some (OO.ret (.bool true),[],[],
 [(!XS c Xf)=true,Q6 []/\Q0 YP J0 100 #[.int .i64 (Od (a+b) 2),.int .i64 Qc] d]):=by intro c d;kernel_rfl
theorem CV(B:Lo)(Xf Qc:Int)(a b:Int)(Qs:Nat->Value):let e:=OO.ret (.bool true);let d:=WR Xf Qc a b;let c:=Od (a+b) 2;CE.landA 3 (Qu YP (Q9 YP) J0 B 14 3 (Zc (none) 92 26 (([1,5,6]:List Nat).zip (VD Xf Qc a b)) Qs VE) (XL (Vm Xf Qc) 3 (([]:List Nat).zip (VC Xf Qc a b)) d) (3+1+d.length)
 (pN Xf Qc a b Qs++[(11,Qk.call (Oe 4) e ([]++(4,Xk)::QU 5 []) 5 [])]) 0 [] []) [1,5,6] [] [] []=some ⟨92,26,VE,[],.run,none,VD Xf Qc (a) c,([]:List Nat).zip (VC Xf Qc (a) c),WR Xf Qc (a) c,
 [FJ YP B (KP Xf Qc a b Qs) (Ub Xf Qc a b Qs) 4 e (([]++((4,Xk)::QU (4+1) []))++Ub Xf Qc a b Qs) 5 (Oe 4) []]++fZ B Xf Qc a b Qs⟩:=by intro e d c;kernel_rfl
theorem CU(B:Lo)(Xf Qc:Int)(a b:Int)(Qs:Nat->Value):let c:=Od (a+b) 2+Od (Od (a+b) 2*Qc) 1000;let d:=.int .i64 c;CE.finK 4 (Qu YP (Q9 YP) J0 B 6 4 (KP Xf Qc a b Qs) (Ub Xf Qc a b Qs) 4
 [(3,Qk.pure d []),(5,Wm)] 0 [] []) [] [] []=some (OO.ret (.bool false),[],[],
 [(!XS c Xf)=false,Q6 []/\Q0 YP J0 100 #[.int .i64 (Od (a+b) 2),.int .i64 Qc] d]):=by intro c d;kernel_rfl
theorem CT(B:Lo)(Xf Qc:Int)(a b:Int)(Qs:Nat->Value):let e:=OO.ret (.bool false);let d:=WR Xf Qc a b;let c:=Od (a+b) 2+1;CE.landA 3 (Qu YP (Q9 YP) J0 B 14 3 (Zc (none) 92 26 (([1,5,6]:List Nat).zip (VD Xf Qc a b)) Qs VE) (XL (Vm Xf Qc) 3 (([]:List Nat).zip (VC Xf Qc a b)) d) (3+1+d.length)
 (pN Xf Qc a b Qs++[(11,Qk.call (Oe 4) e ([]++(4,Xk)::QU 5 []) 5 []),(14,WV c)]) 0 [] []) [1,5,6] [] [] []=some ⟨92,26,VE,[],.run,none,VD Xf Qc c (b),([]:List Nat).zip (VC Xf Qc c (b)),WR Xf Qc c (b),
 [wq c=Od (a+b) 2+1,FJ YP B (KP Xf Qc a b Qs) (Ub Xf Qc a b Qs) 4 e (([]++((4,Xk)::QU (4+1) []))++Ub Xf Qc a b Qs) 5 (Oe 4) []]++fZ B Xf Qc a b Qs⟩:=by intro e d c;kernel_rfl
set_option maxHeartbeats 4000000 in
theorem rl(Xf Qc:Int)(hf:0<=Xf/\Xf<=1000000000000)(hm:0<=Qc/\Qc<=2000){B:Lo}(hJ:∀w,B.has w->J0 w):∀m:Nat,(∀(a b:Int),(b-a).toNat=m->∀(a0:0<=a) (ab:a<=b) (b1:b<=Xf+1),(∃Qs:Nat->Value,(∀t,Xy (Qs t))/\GoE YP B (P4 Xf Qc) (Vm Xf Qc) 3 (Zc (none) 92 26 (([1,5,6]:List Nat).zip (VD Xf Qc a b)) Qs VE) (XL (Vm Xf Qc) 3 (([]:List Nat).zip (VC Xf Qc a b)) (WR Xf Qc a b)) (3+1+(WR Xf Qc a b).length) ([]:List Nat))->FinK YP B (P4 Xf Qc) (Vm Xf Qc) 3 (.ret (.int .i64 (Rh (ZQ Qc Xf) (fun _=>0) a b 0).1)) (([]:List Nat).zip ([])) ([]) ([]:List Nat)):=by
 intro m0;induction m0 using Ox with
 |_ m0 ih0=>
  intro a b JP a0 ab b1 ⟨Qs,ZV,XF⟩;have hl:=Mt a0 ab;have V5:Q6 (gf B Xf Qc a b Qs):=by
   exact⟨(bg (by omega) (by omega)),⟨(Xq (by omega) (by omega)),trivial⟩⟩
  by_cases q0:(a:Int)=(b)
  ·have s2:=w5 (p:=ZQ Qc Xf) (q:=fun _=>0) (u:=0) (show a=b by omega);exact(GoE.finK okF hJ Qg (Q7 (by kernel_rfl)) (Qw (by kernel_rfl)) XF (CX B Xf Qc a b Qs)
    ⟨(aX q0),V5⟩).cast (by(rw[s2];done)) (by rfl) (by rfl)
  ·have Kj:Q6 (fZ B Xf Qc a b Qs):=by
    exact⟨(aY q0),V5⟩
   by_cases q1:(Xf:Int)<=(Od (a+b) 2+Od (Od (a+b) 2*Qc) 1000)
   ·have rj1:FJ YP B (KP Xf Qc a b Qs) (Ub Xf Qc a b Qs) 4 (OO.ret (.bool true)) (([]++((4,Xk)::QU (4+1) []))++Ub Xf Qc a b Qs) 5 (Oe 4) []:=by
     have hm1:=mE a0 (show a<b by omega);have s2:=mA (p:=ZQ Qc Xf) (q:=fun _=>0) (u:=0) a0 (show a<b by omega) (by exact decide_eq_true (by show Xf<=ZZ Qc _;unfold ZZ;omega));exact FinK.fjB (GoE.finK okF hJ Qg (Q7 (by kernel_rfl)) (Qw (by kernel_rfl)) ((GoE.refl (P:=YP) (B:=B) (c0:=KP Xf Qc a b Qs) (Q7 (by kernel_rfl))).widen (Wf:=((([]):List (Nat×KS)).map (·.1))) (by simp) (Qw (by kernel_rfl))) (CW B Xf Qc a b Qs)
      ⟨(WZ q1),⟨⟨trivial,cD (Od (a+b) 2) (Qc) (by omega) (by omega)⟩,trivial⟩⟩) (ex:=[]) (by kernel_rfl) (Z6 _)
    have hm1:=mE a0 (show a<b by omega);have s2:=mA (p:=ZQ Qc Xf) (q:=fun _=>0) (u:=0) a0 (show a<b by omega) (by exact decide_eq_true (by show Xf<=ZZ Qc _;unfold ZZ;omega));exact((ih0 _ (by omega)) (a) (Od (a+b) 2) rfl (by with_reducible assumption) (by omega) (by omega)
     (GoE.landA okF hJ Qg (Q7 (by kernel_rfl)) (Qw (by kernel_rfl)) XF (CV B Xf Qc a b Qs)
     ⟨rj1,Kj⟩ (by kernel_rfl) (by kernel_rfl) (fun l hl=>by cases hl <;> decide))).cast (by(rw[s2];done)) (by rfl) (by rfl)
   ·have rj1:FJ YP B (KP Xf Qc a b Qs) (Ub Xf Qc a b Qs) 4 (OO.ret (.bool false)) (([]++((4,Xk)::QU (4+1) []))++Ub Xf Qc a b Qs) 5 (Oe 4) []:=by
     have hm1:=mE a0 (show a<b by omega);have s2:=rM (p:=ZQ Qc Xf) (q:=fun _=>0) (u:=0) a0 (show a<b by omega) (by exact decide_eq_false (by show ¬Xf<=ZZ Qc _;unfold ZZ;omega));exact FinK.fjB (GoE.finK okF hJ Qg (Q7 (by kernel_rfl)) (Qw (by kernel_rfl)) ((GoE.refl (P:=YP) (B:=B) (c0:=KP Xf Qc a b Qs) (Q7 (by kernel_rfl))).widen (Wf:=((([]):List (Nat×KS)).map (·.1))) (by simp) (Qw (by kernel_rfl))) (CU B Xf Qc a b Qs)
      ⟨(UX (Int.not_le.1 q1)),⟨⟨trivial,cD (Od (a+b) 2) (Qc) (by omega) (by omega)⟩,trivial⟩⟩) (ex:=[]) (by kernel_rfl) (Z6 _)
    have hm1:=mE a0 (show a<b by omega);have s2:=rM (p:=ZQ Qc Xf) (q:=fun _=>0) (u:=0) a0 (show a<b by omega) (by exact decide_eq_false (by show ¬Xf<=ZZ Qc _;unfold ZZ;omega));exact((ih0 _ (by omega)) (Od (a+b) 2+1) (b) rfl (by omega) (by omega) (by with_reducible assumption)
     (GoE.landA okF hJ Qg (Q7 (by kernel_rfl)) (Qw (by kernel_rfl)) XF (CT B Xf Qc a b Qs)
     ⟨(Xq (by omega) (by omega)),⟨rj1,Kj⟩⟩ (by kernel_rfl) (by kernel_rfl) (fun l hl=>by cases hl <;> decide))).cast (by(rw[s2];done)) (by rfl) (by rfl)

theorem CY(B:Lo)(Xf Qc:Int):CE.landA 3 (Qu YP (Q9 YP) J0 B 10 3 (P4 Xf Qc) (Vm Xf Qc) 3
 [(2,WV (Xf+1))] 0 [] []) [1,5,6] [] [] []=some ⟨92,26,VE,[],.run,none,VD Xf Qc (0) (Xf+1),([]:List Nat).zip (VC Xf Qc (0) (Xf+1)),WR Xf Qc (0) (Xf+1),
 [wq (Xf+1)=Xf+1]⟩:=by kernel_rfl
theorem CS(B:Lo)(Xf Qc:Int):let a:=ZQ Qc Xf;QW (Qu YP (Q9 YP) J0 B 6 1 (Qx YP 80 8 (([.int .i64 Xf,.int .i64 Qc]).map (Q8 0 4))) Zf 1
 [(5,Qk.call (Oe 3) (OO.ret (.int .i64 (Prod.fst (Rh a (fun x=>0) 0 (Xf+1) 0)))) ([]++(3,Xk)::QU 4 []) 4 [])] 0 [] []) []=some (.int .i64 (Prod.fst (Rh a (fun x=>0) 0 (Xf+1) 0)),
 [FJ YP B (P4 Xf Qc) (Vm Xf Qc) 3 (OO.ret (.int .i64 (Prod.fst (Rh a (fun x=>0) 0 (Xf+1) 0)))) (([]++((3,Xk)::QU (3+1) []))++Vm Xf Qc) 4 (Oe 3) []]):=by intro a;kernel_rfl
set_option maxHeartbeats 4000000 in
theorem Gq(Xf Qc:Int)(hf:0<=Xf/\Xf<=1000000000000)(hm:0<=Qc/\Qc<=2000){B:Lo}(hJ:∀w,B.has w->J0 w):EndsT YP B (Qx YP 80 8 (([.int .i64 Xf,.int .i64 Qc]).map (Q8 0 4))) (.int .i64 (XU Qc Xf)):=by
 have Te:FJ YP B (P4 Xf Qc) (Vm Xf Qc) 3 (OO.ret (.int .i64 (Prod.fst (Rh (ZQ Qc Xf) (fun x=>0) 0 (Xf+1) 0)))) (([]++((3,Xk)::QU (3+1) []))++Vm Xf Qc) 4 (Oe 3) []:=by
  exact FinK.fjB ((rl Xf Qc hf hm hJ _) (0) (Xf+1) rfl (by omega) (by omega) (by omega)
   (GoE.landA okF hJ Qg (Q7 (by kernel_rfl)) (Qw (by kernel_rfl)) ((GoE.refl (P:=YP) (B:=B) (c0:=P4 Xf Qc) (Q7 (by kernel_rfl))).widen (Wf:=((([]):List (Nat×KS)).map (·.1))) (by simp) (Qw (by kernel_rfl))) (CY B Xf Qc)
   ⟨(Xq (by omega) (by omega)),trivial⟩ (by kernel_rfl) (by kernel_rfl) (fun l hl=>by cases hl <;> decide))) (ex:=[]) (by kernel_rfl) (Z6 _)
 exact(GoE.endsT okF hJ Qg GoE.start (CS B Xf Qc)
  ⟨Te,trivial⟩).cast (by(rw[<-Ef (u:=0) hm hf.1]))
theorem RP(Xf Qc:Int)(hf:0<=Xf/\Xf<=1000000000000)(hm:0<=Qc/\Qc<=2000):Q0 YP J0 80 #[.int .i64 Xf,.int .i64 Qc] (.int .i64 (XU Qc Xf)):=
 Xo (ts:=[.int .i64 Xf,.int .i64 Qc]) Zh (c0:=Qx YP 80 8 (([.int .i64 Xf,.int .i64 Qc]).map (Q8 0 4))) (by kernel_rfl) (by kernel_rfl) fun B hJ=>Gq Xf Qc hf hm hJ
end
end Go.Proofs.Ytncjjangllkokaa

