/- Reef: a season of fewest fish, or of ZF. -/
import Derived.Test.YtncjjangllkokaaZRC16
import Derived.Test.YtncjjangllkokaaZRC11
set_option linter.all false
open List renaming getD_eq_getElem?_getD->MU,set->Np,replicate->MT,length->MO,length_set->Ny,length_replicate->Nv,getD->Na,range->MP,getElem?_eq_none->Nf,getElem?_toArray->Nz,length_append->NH,length_cons->NF,range'->Ni,mem_cons_of_mem->Nc
open Int renaming toNat->MM,tdiv_eq_ediv_of_nonneg->ND,le_refl->Nx
open Nat renaming strongRecOn->No,min->Nw,le_refl->Nh,zero_add->Nj,lt_of_lt_of_eq->NA
open Array renaming extract->Nu
open Inhabited renaming default->ML
namespace Go.Proofs.Ytncjjangllkokaa
open Go Go.CE Go.RowKit
noncomputable section
set_option maxRecDepth 100000
def Tc(s:Span):Int:=s.lo
def jo(s:Span):Int:=s.hi
def Zo(rf:Qe):List Int:=(rf.Qa.map (Xt rf.Qk)).map Tc
def Lx(rf:Qe):List Int:=(rf.Qa.map (Xt rf.Qk)).map jo
def VL(rf:Qe):List Int:=(rf.Qa.map Xx).map Tc
def Ip(rf:Qe):List Int:=(rf.Qa.map Xx).map jo
def Gp(rf:Qe)(p:Int):List Int:=(Xn rf.Qa p).map Tc
def YJ(rf:Qe)(p:Int):List Int:=(Xn rf.Qa p).map jo
theorem VC{α:Type}[Inhabited α]{l:List α}{f:α->Span}{g:Span->Int}{k:Int}(h0:0<=k)(h:k<l.length):nth ((l.map f).map g) k=g (f (l.getD k.toNat ML)):=by
 obtain⟨m,rfl⟩:∃m:Nat,k=m:=⟨k.toNat,by omega⟩
 have hm:m<l.length:=by omega
 show((l.map f).map g).getD ((m:Int).toNat) ML=_;simp[MU,hm]
theorem qF{rf:Qe}(hr:ZE rf=true):Km rf.Qa.length (VL rf) 2000/\Km rf.Qa.length (Ip rf) 2000:=by
 refine⟨⟨by simp[VL],fun k h0 h1=> ?_⟩,⟨by simp[Ip],fun k h0 h1=> ?_⟩⟩
 ·have hp:=XG ((QH hr).2 k h0 h1).1;unfold VL;rw[VC h0 h1];simp only[Xx,Tc];omega
 ·have hp:=XG ((QH hr).2 k h0 h1).1;unfold Ip;rw[VC h0 h1];simp only[Xx,jo];omega
theorem JR{l:List Span}{g:Span->Int}{k:Int}(h0:0<=k)(h:k<l.length):nth (l.map g) k=g (l.getD k.toNat ML):=by
 obtain⟨m,rfl⟩:∃m:Nat,k=m:=⟨k.toNat,by omega⟩
 have hm:m<l.length:=by omega
 show(l.map g).getD ((m:Int).toNat) ML=_;simp[MU,hm]
theorem oX{rf:Qe}(hr:ZE rf=true)(p:Int):Km rf.Qa.length (Gp rf p) 1000000/\Km rf.Qa.length (YJ rf p) 1000000:=by
 refine⟨⟨by simp[Gp,WG],fun k h0 h1=> ?_⟩,⟨by simp[YJ,WG],fun k h0 h1=> ?_⟩⟩
 ·have hp:=aq hr (p:=p) h0 h1;unfold Gp;rw[JR h0 (by rw[WG];exact h1),Pk h0 h1];simp only[Tc];omega
 ·have hp:=aq hr (p:=p) h0 h1;unfold YJ;rw[JR h0 (by rw[WG];exact h1),Pk h0 h1];simp only[jo];omega
def RD(xs:List Span)(i:Int)(ys:List Int):List Value:=[Value.func (Fn.func 76) #[] #[],.slice (some {block:=2,off:=0}) xs.length 1,Qv 1 (QJ xs.length (Qg QU xs)),.int .i64 (↑xs.length:Int),.int .i64 i]
def Kw(xs:List Span)(i:Int)(ys:List Int):List Obj:=[.cells (Qg Q9 ys) 3 (0,0)]
def RE:List Item:=([.code [1,1,0,1,0,0],.inLoop [1,1,0,1,0,0],.inBlock 0,.code [1,1,1]]).map (it (Xf YP 97))
def BG(B:Lo)(c0:CF)(xs:List Span)(i:Int)(ys:List Int):Prop:=∃dJ:Nat->Value,(∀t,XP (dJ t))/\GoE YP B c0 Zn 1 (QO 97 26 (([1,5,11,12,13]:List Nat).zip (RD xs i ys)) dJ RE) (QN (Kw xs i ys)) (2+(Kw xs i ys).length) []
def RC(xs:List Span)(i:Int):=(Span.lo (xs.getD i.toNat ML))
def fE(xs:List Span)(i:Int):Array Value:=#[.int .i64 (RC xs i),.int .i64 (Span.hi (xs.getD i.toNat ML))]
def aN(xs:List Span)(i:Int)(ys:List Int):Array Value:=(Qg Q9 (Np ys i.toNat (RC xs i)))
def qj(xs:List Span):Array Value:=(Qg (Ul [.int .i64 0]) (MT xs.length ()))
theorem BE(B:Lo)(xs:List Span)(i:Int)(ys:List Int)(Qt:Nat->Value):landM (Qu YP (Q8 YP) J0 B 13 1 (QO 97 26 (([1,5,11,12,13]:List Nat).zip (RD xs i ys)) Qt RE) (QN (Kw xs i ys)) (2+(Kw xs i ys).length)
 [(0,WR),(2,Ql.tidx i.toNat (fE xs i)),(11,Ql.pure (.int .i64 (RC xs i)) []),(12,Ql.WM (Hint.idx i.toNat)),(13,Ql.WM (Hint.st (aN xs i ys))),(14,U2 (i+1))] 0 [] []) [1,5,11,12,13] [(2,KS.cells [] (aN xs i ys))] []=some ⟨97,26,RE,[],.run,none,RD xs (i+1) (Np ys i.toNat (RC xs i)),Kw xs (i+1) (Np ys i.toNat (RC xs i)),
 [XV 1 [] (aN xs i ys) (aN xs i ys),wq (i+1)=i+1,0+MM i*1+TypeInfo.size Try.t3<=Array.size (Qg Q9 ys)/\splice (Qg Q9 ys) (0+MM i*1) (Value.cells (XL {len:=16000,tr:=Tri.set 14 (Tri.set 14 Tri.lf 22 (.int .i64 (Span.lo (xs.getD i.toNat ML)))) 23 (.pointer (some {block:=2,off:=0+MM i*1}))} 22))=Qg Q9 (Np ys i.toNat (Span.lo (xs.getD i.toNat ML))),i=(↑i.toNat:Int)/\MM i<MO xs,Q3 []/\Q0 YP J0 76 #[.agg (fE xs i)] (.int .i64 (Span.lo (xs.getD i.toNat ML))),Ug i xs.length (Qg QU xs) Try.t38.size (fE xs i),Zq i (↑xs.length:Int)=true]⟩:=by kernel_rfl
theorem BD(B:Lo)(xs:List Span)(i:Int)(ys:List Int)(Qt:Nat->Value):Xd (Qu YP (Q8 YP) J0 B 9 1 (QO 97 26 (([1,5,11,12,13]:List Nat).zip (RD xs i ys)) Qt RE) (QN (Kw xs i ys)) (2+(Kw xs i ys).length)
 [(0,Vs)] 0 [] []) [{k:=2,rs:=[],cs:=Qg Q9 ys}]=some (QJ xs.length (Fz.cs {k:=2,rs:=[],cs:=Qg Q9 ys}),
 [ZY (Fz.rs {k:=2,rs:=[],cs:=Qg Q9 ys}) (Qg Q9 ys) (Fz.cs {k:=2,rs:=[],cs:=Qg Q9 ys}),Zq i (↑xs.length:Int)=false]):=by kernel_rfl
theorem BC(B:Lo)(xs:List Span):landM (Qu YP (Q8 YP) J0 B 9 1 (Qq YP 97 26 (([Yk xs,.func (.func 76) #[] #[]]).map (Q5 0 4))) Zn 1
 [(3,Ql.WM (Hint.mk xs.length (qj xs)))] 0 [] []) [1,5,11,12,13] [(1,KS.rows [] [] [] (Qg Q9 (MT xs.length 0)))] []=some ⟨97,26,RE,[],.run,none,RD xs (0) (MT xs.length 0),Kw xs (0) (MT xs.length 0),
 [Zj 1 [] [] [] (qj xs) (Qg Q9 (MT xs.length 0)),Si YP 25 (XL {len:=16000,tr:=Tri.set 14 Tri.lf 9 (.int .i64 (↑xs.length:Int))} 9) (XL {len:=16000,tr:=Tri.set 14 Tri.lf 9 (.int .i64 (↑xs.length:Int))} 9)=some (3,Qg (Ul [.int .i64 0]) (MT xs.length ()),MO xs,TypeInfo.size Try.t3)]⟩:=by kernel_rfl
set_option maxHeartbeats 4000000 in
theorem BF(xs:List Span)(hn:xs.length<=1000000){B:Lo}(hJ:∀w,B.has w->J0 w){c0:CF}:∀m:Nat,(∀(i:Int) (ys:List Int),(xs.length-i.toNat)=m->∀(h0:0<=i) (hy:ys=P7 Tc 0 xs i),BG B c0 xs i ys->EndsT YP B c0 (XF (xs.map Tc))):=by
 intro m0;induction m0 using No with
 |_ m0 ih0=>
  intro i ys hm0 h0 hy ⟨Qt,Kn,Zk⟩;have hyl:ys.length=xs.length:=by rw[hy];exact Sd
  by_cases q0:(i:Int)<((↑xs.length:Int))
  ·exact((ih0 _ (by omega)) (i+1) (Np ys i.toNat (Span.lo (xs.getD i.toNat ML))) rfl (by omega) (by(subst hy;exact Sc (f:=Tc) h0 q0))
    (Zk.landM okF hJ Qf (BE B xs i ys Qt)
    ⟨(QR (Xg (fun x=>List.all_eq_true.1 (by rfl)))),⟨(XH (by omega) (by omega)),⟨(by exact PX (z:=1) (k:=MM i) (fun _=>rfl) (by first|omega|(rw[Ny];omega)|(rw[Nv];omega)) rfl rfl),⟨⟨by omega,by omega⟩,⟨⟨trivial,M1 (Span.lo (xs.getD i.toNat ML)) (Span.hi (xs.getD i.toNat ML))⟩,⟨⟨by omega,by omega,(QA (z:=2) (fun _=>rfl) (by omega))⟩,⟨(Zh q0),trivial⟩⟩⟩⟩⟩⟩⟩ (by kernel_rfl) (by kernel_rfl))).cast (by rfl)
  ·exact(GoE.endsT okF hJ Qf Zk (BD B xs i ys Qt)
    ⟨(ZR (fun x=>List.all_eq_true.1 (by rfl))),⟨(Zr (Int.not_lt.1 q0)),trivial⟩⟩).cast (by exact cE (hy.trans (Se (by omega))) (by simp))
set_option maxHeartbeats 4000000 in
theorem EK(xs:List Span)(hn:xs.length<=1000000){B:Lo}(hJ:∀w,B.has w->J0 w):EndsT YP B (Qq YP 97 26 (([Yk xs,.func (.func 76) #[] #[]]).map (Q5 0 4))) (XF (xs.map Tc)):=by
 exact((BF xs hn hJ _) (0) (MT xs.length 0) rfl (by omega) (by exact ej)
  (GoE.start.landM okF hJ Qf (BC B xs)
  ⟨(by exact(Uy (by exact⟨(.simple rfl),trivial⟩) _)),⟨(fV (bytes:=8) (by kernel_rfl) (by omega) (by omega) (by omega)),trivial⟩⟩ (by kernel_rfl) (by kernel_rfl))).cast (by rfl)
theorem EL(xs:List Span)(hn:xs.length<=1000000):Q0 YP J0 97 #[Yk xs,.func (.func 76) #[] #[]] (XF (xs.map Tc)):=
 XD (ts:=[Yk xs,.func (.func 76) #[] #[]]) Zs (c0:=Qq YP 97 26 (([Yk xs,.func (.func 76) #[] #[]]).map (Q5 0 4))) (by kernel_rfl) (by kernel_rfl) fun B hJ=>EK xs hn hJ
def RH(xs:List Span)(i:Int)(ys:List Int):List Value:=[Value.func (Fn.func 77) #[] #[],.slice (some {block:=2,off:=0}) xs.length 1,Qv 1 (QJ xs.length (Qg QU xs)),.int .i64 (↑xs.length:Int),.int .i64 i]
def Kx(xs:List Span)(i:Int)(ys:List Int):List Obj:=[.cells (Qg Q9 ys) 3 (0,0)]
def RI:List Item:=([.code [1,1,0,1,0,0],.inLoop [1,1,0,1,0,0],.inBlock 0,.code [1,1,1]]).map (it (Xf YP 97))
def BL(B:Lo)(c0:CF)(xs:List Span)(i:Int)(ys:List Int):Prop:=∃dJ:Nat->Value,(∀t,XP (dJ t))/\GoE YP B c0 Zn 1 (QO 97 26 (([1,5,11,12,13]:List Nat).zip (RH xs i ys)) dJ RI) (QN (Kx xs i ys)) (2+(Kx xs i ys).length) []
def RG(xs:List Span)(i:Int):=(Span.hi (xs.getD i.toNat ML))
def fF(xs:List Span)(i:Int):Array Value:=#[.int .i64 (Span.lo (xs.getD i.toNat ML)),.int .i64 (RG xs i)]
def aO(xs:List Span)(i:Int)(ys:List Int):Array Value:=(Qg Q9 (Np ys i.toNat (RG xs i)))
def qk(xs:List Span):Array Value:=(Qg (Ul [.int .i64 0]) (MT xs.length ()))
theorem BJ(B:Lo)(xs:List Span)(i:Int)(ys:List Int)(Qt:Nat->Value):landM (Qu YP (Q8 YP) J0 B 13 1 (QO 97 26 (([1,5,11,12,13]:List Nat).zip (RH xs i ys)) Qt RI) (QN (Kx xs i ys)) (2+(Kx xs i ys).length)
 [(0,WR),(2,Ql.tidx i.toNat (fF xs i)),(11,Ql.pure (.int .i64 (RG xs i)) []),(12,Ql.WM (Hint.idx i.toNat)),(13,Ql.WM (Hint.st (aO xs i ys))),(14,U2 (i+1))] 0 [] []) [1,5,11,12,13] [(2,KS.cells [] (aO xs i ys))] []=some ⟨97,26,RI,[],.run,none,RH xs (i+1) (Np ys i.toNat (RG xs i)),Kx xs (i+1) (Np ys i.toNat (RG xs i)),
 [XV 1 [] (aO xs i ys) (aO xs i ys),wq (i+1)=i+1,0+MM i*1+TypeInfo.size Try.t3<=Array.size (Qg Q9 ys)/\splice (Qg Q9 ys) (0+MM i*1) (Value.cells (XL {len:=16000,tr:=Tri.set 14 (Tri.set 14 Tri.lf 22 (.int .i64 (Span.hi (xs.getD i.toNat ML)))) 23 (.pointer (some {block:=2,off:=0+MM i*1}))} 22))=Qg Q9 (Np ys i.toNat (Span.hi (xs.getD i.toNat ML))),i=(↑i.toNat:Int)/\MM i<MO xs,Q3 []/\Q0 YP J0 77 #[.agg (fF xs i)] (.int .i64 (Span.hi (xs.getD i.toNat ML))),Ug i xs.length (Qg QU xs) Try.t38.size (fF xs i),Zq i (↑xs.length:Int)=true]⟩:=by kernel_rfl
theorem BI(B:Lo)(xs:List Span)(i:Int)(ys:List Int)(Qt:Nat->Value):Xd (Qu YP (Q8 YP) J0 B 9 1 (QO 97 26 (([1,5,11,12,13]:List Nat).zip (RH xs i ys)) Qt RI) (QN (Kx xs i ys)) (2+(Kx xs i ys).length)
 [(0,Vs)] 0 [] []) [{k:=2,rs:=[],cs:=Qg Q9 ys}]=some (QJ xs.length (Fz.cs {k:=2,rs:=[],cs:=Qg Q9 ys}),
 [ZY (Fz.rs {k:=2,rs:=[],cs:=Qg Q9 ys}) (Qg Q9 ys) (Fz.cs {k:=2,rs:=[],cs:=Qg Q9 ys}),Zq i (↑xs.length:Int)=false]):=by kernel_rfl
theorem BH(B:Lo)(xs:List Span):landM (Qu YP (Q8 YP) J0 B 9 1 (Qq YP 97 26 (([Yk xs,.func (.func 77) #[] #[]]).map (Q5 0 4))) Zn 1
 [(3,Ql.WM (Hint.mk xs.length (qk xs)))] 0 [] []) [1,5,11,12,13] [(1,KS.rows [] [] [] (Qg Q9 (MT xs.length 0)))] []=some ⟨97,26,RI,[],.run,none,RH xs (0) (MT xs.length 0),Kx xs (0) (MT xs.length 0),
 [Zj 1 [] [] [] (qk xs) (Qg Q9 (MT xs.length 0)),Si YP 25 (XL {len:=16000,tr:=Tri.set 14 Tri.lf 9 (.int .i64 (↑xs.length:Int))} 9) (XL {len:=16000,tr:=Tri.set 14 Tri.lf 9 (.int .i64 (↑xs.length:Int))} 9)=some (3,Qg (Ul [.int .i64 0]) (MT xs.length ()),MO xs,TypeInfo.size Try.t3)]⟩:=by kernel_rfl
set_option maxHeartbeats 4000000 in
theorem BK(xs:List Span)(hn:xs.length<=1000000){B:Lo}(hJ:∀w,B.has w->J0 w){c0:CF}:∀m:Nat,(∀(i:Int) (ys:List Int),(xs.length-i.toNat)=m->∀(h0:0<=i) (hy:ys=P7 jo 0 xs i),BL B c0 xs i ys->EndsT YP B c0 (XF (xs.map jo))):=by
 intro m0;induction m0 using No with
 |_ m0 ih0=>
  intro i ys hm0 h0 hy ⟨Qt,Kn,Zk⟩;have hyl:ys.length=xs.length:=by rw[hy];exact Sd
  by_cases q0:(i:Int)<((↑xs.length:Int))
  ·exact((ih0 _ (by omega)) (i+1) (Np ys i.toNat (Span.hi (xs.getD i.toNat ML))) rfl (by omega) (by(subst hy;exact Sc (f:=jo) h0 q0))
    (Zk.landM okF hJ Qf (BJ B xs i ys Qt)
    ⟨(QR (Xg (fun x=>List.all_eq_true.1 (by rfl)))),⟨(XH (by omega) (by omega)),⟨(by exact PX (z:=1) (k:=MM i) (fun _=>rfl) (by first|omega|(rw[Ny];omega)|(rw[Nv];omega)) rfl rfl),⟨⟨by omega,by omega⟩,⟨⟨trivial,LU (Span.lo (xs.getD i.toNat ML)) (Span.hi (xs.getD i.toNat ML))⟩,⟨⟨by omega,by omega,(QA (z:=2) (fun _=>rfl) (by omega))⟩,⟨(Zh q0),trivial⟩⟩⟩⟩⟩⟩⟩ (by kernel_rfl) (by kernel_rfl))).cast (by rfl)
  ·exact(GoE.endsT okF hJ Qf Zk (BI B xs i ys Qt)
    ⟨(ZR (fun x=>List.all_eq_true.1 (by rfl))),⟨(Zr (Int.not_lt.1 q0)),trivial⟩⟩).cast (by exact cE (hy.trans (Se (by omega))) (by simp))
set_option maxHeartbeats 4000000 in
theorem EM(xs:List Span)(hn:xs.length<=1000000){B:Lo}(hJ:∀w,B.has w->J0 w):EndsT YP B (Qq YP 97 26 (([Yk xs,.func (.func 77) #[] #[]]).map (Q5 0 4))) (XF (xs.map jo)):=by
 exact((BK xs hn hJ _) (0) (MT xs.length 0) rfl (by omega) (by exact ej)
  (GoE.start.landM okF hJ Qf (BH B xs)
  ⟨(by exact(Uy (by exact⟨(.simple rfl),trivial⟩) _)),⟨(fV (bytes:=8) (by kernel_rfl) (by omega) (by omega) (by omega)),trivial⟩⟩ (by kernel_rfl) (by kernel_rfl))).cast (by rfl)
theorem IX(xs:List Span)(hn:xs.length<=1000000):Q0 YP J0 97 #[Yk xs,.func (.func 77) #[] #[]] (XF (xs.map jo)):=
 XD (ts:=[Yk xs,.func (.func 77) #[] #[]]) Zs (c0:=Qq YP 97 26 (([Yk xs,.func (.func 77) #[] #[]]).map (Q5 0 4))) (by kernel_rfl) (by kernel_rfl) fun B hJ=>EM xs hn hJ
def Ur(rf:Qe):=(List.map (Xt rf.Qk) rf.Qa)
def bM(rf:Qe):Array Value:=#[.int .i64 (Na (List.map Tc (Ur rf)) 0 ML),.int .i64 (Na (List.map Tc (Ur rf)) 1 ML),.int .i64 (Na (List.map Tc (Ur rf)) 2 ML),.int .i64 (Na (List.map Tc (Ur rf)) 3 ML)]
def KU(rf:Qe):Array Value:=(Qg Q9 (List.map Tc (Ur rf)))
def lD  :Array Value:=#[.int .i64 0,.int .i64 0,.int .i64 0,.int .i64 0]
theorem yJ(B:Lo)(rf:Qe)(Qb:List Int):Xd (Qu YP (Q8 YP) J0 B 10 1 (Qq YP 75 13 (([.agg (Xm rf Qb).toArray,.func (.func 76) #[] #[]]).map (Q5 0 4))) Zn 1
 [(5,Ql.pure (QJ (MO (Ur rf)) (Qg QU (Ur rf))) []),(7,Ql.pure (QJ (MO (List.map Tc (Ur rf))) (KU rf)) []),(8,Ql.tcpy (bM rf))] 0 [] []) []=some (.agg (bM rf),
 [0<MO (List.map Tc (List.map (Xt rf.Qk) rf.Qa))/\0+Nw (MO (List.map Tc (List.map (Xt rf.Qk) rf.Qa))) 4*TypeInfo.size Try.t3<=Array.size lD/\Nw (MO (List.map Tc (List.map (Xt rf.Qk) rf.Qa))) 4*TypeInfo.size Try.t3<=Array.size (KU rf)/\(Array.all (KU rf) fun v=>simple v || Vo v)=true/\ones (Array.map (Wn 5) (Nu (KU rf) 0 (Nw (MO (List.map Tc (List.map (Xt rf.Qk) rf.Qa))) 4*TypeInfo.size Try.t3)))=true/\splice lD 0 (Array.map (Wn 5) (Nu (KU rf) 0 (Nw (MO (List.map Tc (List.map (Xt rf.Qk) rf.Qa))) 4*TypeInfo.size Try.t3)))=(bM rf),Q3 []/\Q0 YP J0 97 #[QJ (MO (List.map (Xt rf.Qk) rf.Qa)) (Qg QU (List.map (Xt rf.Qk) rf.Qa)),Value.func (Fn.func 76) #[] #[]] (QJ (MO (List.map Tc (List.map (Xt rf.Qk) rf.Qa))) (KU rf)),Q3 []/\Q0 YP J0 82 #[.agg #[QJ rf.Qa.length (Qg Qj rf.Qa),.int .i64 rf.Qk,.int .i64 rf.Qc,.int .i64 (Qb.getD 0 0),.int .i64 (Qb.getD 1 0),.int .i64 (Qb.getD 2 0),.int .i64 (Qb.getD 3 0)]] (QJ (MO (List.map (Xt rf.Qk) rf.Qa)) (Qg QU (List.map (Xt rf.Qk) rf.Qa)))]):=by kernel_rfl
set_option maxHeartbeats 4000000 in
theorem By(rf:Qe)(Qb:List Int)(hr:ZE rf=true){B:Lo}(hJ:∀w,B.has w->J0 w):EndsT YP B (Qq YP 75 13 (([.agg (Xm rf Qb).toArray,.func (.func 76) #[] #[]]).map (Q5 0 4))) (.agg #[.int .i64 ((Zo rf).getD 0 ML),.int .i64 ((Zo rf).getD 1 ML),.int .i64 ((Zo rf).getD 2 ML),.int .i64 ((Zo rf).getD 3 ML)]):=by
 have ZN:=Q6 (QH hr).1;have hle1:((rf.Qa.map (Xt rf.Qk)).map Tc).length=rf.Qa.length:=by simp
 have hle2:((rf.Qa.map (Xt rf.Qk)).map jo).length=rf.Qa.length:=by simp
 have hle3:(rf.Qa.map (Xt rf.Qk)).length=rf.Qa.length:=by simp
 have hcc:∀k:Int,0<=k->k<rf.Qa.length->0<=(rf.Qa.getD k.toNat ML).count/\(rf.Qa.getD k.toNat ML).count<=1000000:=fun k h0 h1=>(XG ((QH hr).2 k h0 h1).1).1
 exact(GoE.endsT okF hJ Qf GoE.start (yJ B rf Qb)
  ⟨(nV (fun _=>rfl) rfl (by omega) (by omega) rfl (YL rfl) rfl),⟨⟨trivial,EL (List.map (Xt rf.Qk) rf.Qa) (by omega)⟩,⟨⟨trivial,Ah (rf) (Qb) (by omega) (by omega) (by with_reducible assumption)⟩,trivial⟩⟩⟩).cast (by rfl)
theorem GR(rf:Qe)(Qb:List Int)(hr:ZE rf=true):Q0 YP J0 75 #[.agg (Xm rf Qb).toArray,.func (.func 76) #[] #[]] (.agg #[.int .i64 ((Zo rf).getD 0 ML),.int .i64 ((Zo rf).getD 1 ML),.int .i64 ((Zo rf).getD 2 ML),.int .i64 ((Zo rf).getD 3 ML)]):=
 XD (ts:=[.agg (Xm rf Qb).toArray,.func (.func 76) #[] #[]]) Zs (c0:=Qq YP 75 13 (([.agg (Xm rf Qb).toArray,.func (.func 76) #[] #[]]).map (Q5 0 4))) (by kernel_rfl) (by kernel_rfl) fun B hJ=>By rf Qb hr hJ
def JL(rf:Qe)(Qb:List Int)(fa fb fc fd k:Int):Qm:=[(3,Obj.cells #[.int .i64 0,.int .i64 0,.int .i64 0,.int .i64 0] 111),(2,Obj.cells #[.int .i64 fa,.int .i64 fb,.int .i64 fc,.int .i64 fd] 111),(1,Obj.cells #[Qv 0 (QJ rf.Qa.length (Qg Qj rf.Qa)),.int .i64 rf.Qk,.int .i64 rf.Qc,.int .i64 (Qb.getD 0 0),.int .i64 (Qb.getD 1 0),.int .i64 (Qb.getD 2 0),.int .i64 (Qb.getD 3 0)] 84),(0,Obj.coro none)]
def SF(rf:Qe)(Qb:List Int)(fa fb fc fd k:Int):CF:=⟨98,ofList 28 [.agg #[Qv 0 (QJ rf.Qa.length (Qg Qj rf.Qa)),.int .i64 rf.Qk,.int .i64 rf.Qc,.int .i64 (Qb.getD 0 0),.int .i64 (Qb.getD 1 0),.int .i64 (Qb.getD 2 0),.int .i64 (Qb.getD 3 0)],.agg #[.int .i64 fa,.int .i64 fb,.int .i64 fc,.int .i64 fd],.int .i64 k,Value.func (Fn.func 76) #[] #[],Value.func (Fn.func 77) #[] #[]],[Item.code (Xf YP 98)],[],.run,none⟩
def V8(rf:Qe)(Qb:List Int)(k:Int):=(List.map jo (Xn rf.Qa (Qb.getD k.toNat 0)))
def V7(rf:Qe):=(List.map Tc (List.map Xx rf.Qa))
def SD(rf:Qe)(Qb:List Int)(fa fb fc fd k:Int):Array Value:=#[.int .i64 (F4.a (Q2 (V7 rf) (V8 rf Qb k) rf.Qa {a:=fa,b:=fb,c:=fc,d:=fd})),.int .i64 (F4.b (Q2 (V7 rf) (V8 rf Qb k) rf.Qa {a:=fa,b:=fb,c:=fc,d:=fd})),.int .i64 (F4.c (Q2 (V7 rf) (V8 rf Qb k) rf.Qa {a:=fa,b:=fb,c:=fc,d:=fd})),.int .i64 (F4.d (Q2 (V7 rf) (V8 rf Qb k) rf.Qa {a:=fa,b:=fb,c:=fc,d:=fd}))]
def lG(rf:Qe)(Qb:List Int):Array Value:=#[QJ rf.Qa.length (Qg Qj rf.Qa),.int .i64 rf.Qk,.int .i64 rf.Qc,.int .i64 (Qb.getD 0 0),.int .i64 (Qb.getD 1 0),.int .i64 (Qb.getD 2 0),.int .i64 (Qb.getD 3 0)]
def lF(rf:Qe)(Qb:List Int)(k:Int):Value:=(QJ (MO (Xn rf.Qa (Qb.getD k.toNat 0))) (Qg QU (Xn rf.Qa (Qb.getD k.toNat 0))))
def lE(rf:Qe):Value:=(QJ (MO (List.map Xx rf.Qa)) (Qg QU (List.map Xx rf.Qa)))
theorem yL(B:Lo)(rf:Qe)(Qb:List Int)(fa fb fc fd k:Int):CE.finK 4 (Qu YP (Q8 YP) J0 B 10 4 (SF rf Qb fa fb fc fd k) (JL rf Qb fa fb fc fd k) 4
 [(10,Ql.pure (lE rf) []),(12,Ql.pure (QJ (MO (V7 rf)) (Qg Q9 (V7 rf))) []),(15,Ql.pure (lF rf Qb k) []),(17,Ql.pure (QJ (MO (V8 rf Qb k)) (Qg Q9 (V8 rf Qb k))) []),(18,Ql.wri [7] [9,11,0] [false] [] (cY rf.Qa rf.Qk rf.Qc fa fb fc fd (.slice none 0 0) (.slice none 0 0) (V7 rf) (V8 rf Qb k) 0 0 0 0 0) (cX rf.Qa rf.Qk rf.Qc fa fb fc fd (.slice none 0 0) (.slice none 0 0) (V7 rf) (V8 rf Qb k) 0 0 0 0 0) (cZ rf.Qa rf.Qk rf.Qc fa fb fc fd (.slice none 0 0) (.slice none 0 0) (V7 rf) (V8 rf Qb k) 0 0 0 0 0))] 0 [] []) [] [] []=some (OO.ret (.agg (SD rf Qb fa fb fc fd k)),[],[],
 [Q3 []/\rG rf.Qa rf.Qk rf.Qc (fa) (fb) (fc) (fd) (.slice none 0 0) (.slice none 0 0) (List.map Tc (List.map Xx rf.Qa)) (List.map jo (Xn rf.Qa (Qb.getD k.toNat 0))) (0) (0) (0) (0) (0),Q3 []/\Q0 YP J0 97 #[QJ (MO (Xn rf.Qa (Qb.getD k.toNat 0))) (Qg QU (Xn rf.Qa (Qb.getD k.toNat 0))),Value.func (Fn.func 77) #[] #[]] (QJ (MO (List.map jo (Xn rf.Qa (Qb.getD k.toNat 0)))) (Qg Q9 (List.map jo (Xn rf.Qa (Qb.getD k.toNat 0))))),Q3 []/\Q0 YP J0 84 #[.agg (lG rf Qb),.int .i64 k] (lF rf Qb k),Q3 []/\Q0 YP J0 97 #[QJ (MO (List.map Xx rf.Qa)) (Qg QU (List.map Xx rf.Qa)),Value.func (Fn.func 76) #[] #[]] (QJ (MO (List.map Tc (List.map Xx rf.Qa))) (Qg Q9 (List.map Tc (List.map Xx rf.Qa)))),Q3 []/\Q0 YP J0 83 #[.agg (lG rf Qb)] (lE rf)]):=by kernel_rfl
theorem yK(B:Lo)(rf:Qe)(Qb:List Int)(fa fb fc fd k:Int):Xd (Qu YP (Q8 YP) J0 B 6 1 (Qq YP 78 11 (([.agg (Xm rf Qb).toArray,.agg #[.int .i64 fa,.int .i64 fb,.int .i64 fc,.int .i64 fd],.int .i64 k]).map (Q5 0 4))) Zn 1
 [(6,Ql.call (MP 4) (OO.ret (.agg (SD rf Qb fa fb fc fd k))) ([]++(4,Xo)::Xc 5 []) 5 [])] 0 [] []) []=some (.agg (SD rf Qb fa fb fc fd k),
 [FJ YP B (SF rf Qb fa fb fc fd k) (JL rf Qb fa fb fc fd k) 4 (OO.ret (.agg (SD rf Qb fa fb fc fd k))) (([]++((4,Xo)::Xc (4+1) []))++JL rf Qb fa fb fc fd k) 5 (MP 4) []]):=by kernel_rfl
set_option maxHeartbeats 4000000 in
theorem Bz(rf:Qe)(Qb:List Int)(fa fb fc fd k:Int)(hr:ZE rf=true)(hl:Qb.length<=4)(hp:∀j:Nat,0<=Qb.getD j 0/\Qb.getD j 0<=1000000)(k0:0<=k)(k1:k<4)(hf:JX ⟨fa,fb,fc,fd⟩)(hs:F4.sum ⟨fa,fb,fc,fd⟩<=10000000000){B:Lo}(hJ:∀w,B.has w->J0 w):EndsT YP B (Qq YP 78 11 (([.agg (Xm rf Qb).toArray,.agg #[.int .i64 fa,.int .i64 fb,.int .i64 fc,.int .i64 fd],.int .i64 k]).map (Q5 0 4))) (.agg #[.int .i64 (Q2 (VL rf) (YJ rf (Qb.getD k.toNat 0)) rf.Qa ⟨fa,fb,fc,fd⟩).a,.int .i64 (Q2 (VL rf) (YJ rf (Qb.getD k.toNat 0)) rf.Qa ⟨fa,fb,fc,fd⟩).b,.int .i64 (Q2 (VL rf) (YJ rf (Qb.getD k.toNat 0)) rf.Qa ⟨fa,fb,fc,fd⟩).c,.int .i64 (Q2 (VL rf) (YJ rf (Qb.getD k.toNat 0)) rf.Qa ⟨fa,fb,fc,fd⟩).d]):=by
 have ZN:=Q6 (QH hr).1;have hpc:=y1 hr;have hg1:Km rf.Qa.length ((rf.Qa.map Xx).map Tc) 2000:=(qF hr).1;have ht1:Km rf.Qa.length ((Xn rf.Qa (Qb.getD k.toNat 0)).map jo) 1000000:=(oX hr (Qb.getD k.toNat 0)).2;have hle1:(Xn rf.Qa (Qb.getD k.toNat 0)).length=rf.Qa.length:=WG;have hle2:(rf.Qa.map Xx).length=rf.Qa.length:=by simp
 have rj0:FJ YP B (SF rf Qb fa fb fc fd k) (JL rf Qb fa fb fc fd k) 4 (OO.ret (.agg #[.int .i64 (F4.a (Q2 (List.map Tc (List.map Xx rf.Qa)) (List.map jo (Xn rf.Qa (Qb.getD k.toNat 0))) rf.Qa {a:=fa,b:=fb,c:=fc,d:=fd})),.int .i64 (F4.b (Q2 (List.map Tc (List.map Xx rf.Qa)) (List.map jo (Xn rf.Qa (Qb.getD k.toNat 0))) rf.Qa {a:=fa,b:=fb,c:=fc,d:=fd})),.int .i64 (F4.c (Q2 (List.map Tc (List.map Xx rf.Qa)) (List.map jo (Xn rf.Qa (Qb.getD k.toNat 0))) rf.Qa {a:=fa,b:=fb,c:=fc,d:=fd})),.int .i64 (F4.d (Q2 (List.map Tc (List.map Xx rf.Qa)) (List.map jo (Xn rf.Qa (Qb.getD k.toNat 0))) rf.Qa {a:=fa,b:=fb,c:=fc,d:=fd}))])) (([]++((4,Xo)::Xc (4+1) []))++JL rf Qb fa fb fc fd k) 5 (MP 4) []:=by
  exact FinK.fjB (GoE.finK okF hJ Qf (Q4 (by kernel_rfl)) (Qp (by kernel_rfl)) ((GoE.refl (P:=YP) (B:=B) (c0:=SF rf Qb fa fb fc fd k) (Q4 (by kernel_rfl))).widen (Wf:=((([]):List (Nat×KS)).map (·.1))) (by simp) (Qp (by kernel_rfl))) (yL B rf Qb fa fb fc fd k)
   ⟨⟨trivial,Ex rf.Qa rf.Qk rf.Qc (fa) (fb) (fc) (fd) (.slice none 0 0) (.slice none 0 0) (List.map Tc (List.map Xx rf.Qa)) (List.map jo (Xn rf.Qa (Qb.getD k.toNat 0))) (0) (0) (0) (0) (0) (by with_reducible assumption) (by with_reducible assumption) (by with_reducible assumption) (by with_reducible assumption) (by with_reducible assumption) (by omega) (by omega) (by omega)⟩,⟨⟨trivial,IX (Xn rf.Qa (Qb.getD k.toNat 0)) (by omega)⟩,⟨⟨trivial,Eg (rf) (Qb) (k) (by omega) (by with_reducible assumption) (by with_reducible assumption) (by with_reducible assumption) (by with_reducible assumption)⟩,⟨⟨trivial,EL (List.map Xx rf.Qa) (by omega)⟩,⟨⟨trivial,E2 (rf) (Qb) (by omega)⟩,trivial⟩⟩⟩⟩⟩) (ex:=[]) (by kernel_rfl) (Wp _)
 exact(GoE.endsT okF hJ Qf GoE.start (yK B rf Qb fa fb fc fd k)
  ⟨rj0,trivial⟩).cast (by rfl)
theorem jj(rf:Qe)(Qb:List Int)(fa fb fc fd k:Int)(hr:ZE rf=true)(hl:Qb.length<=4)(hp:∀j:Nat,0<=Qb.getD j 0/\Qb.getD j 0<=1000000)(k0:0<=k)(k1:k<4)(hf:JX ⟨fa,fb,fc,fd⟩)(hs:F4.sum ⟨fa,fb,fc,fd⟩<=10000000000):Q0 YP J0 78 #[.agg (Xm rf Qb).toArray,.agg #[.int .i64 fa,.int .i64 fb,.int .i64 fc,.int .i64 fd],.int .i64 k] (.agg #[.int .i64 (Q2 (VL rf) (YJ rf (Qb.getD k.toNat 0)) rf.Qa ⟨fa,fb,fc,fd⟩).a,.int .i64 (Q2 (VL rf) (YJ rf (Qb.getD k.toNat 0)) rf.Qa ⟨fa,fb,fc,fd⟩).b,.int .i64 (Q2 (VL rf) (YJ rf (Qb.getD k.toNat 0)) rf.Qa ⟨fa,fb,fc,fd⟩).c,.int .i64 (Q2 (VL rf) (YJ rf (Qb.getD k.toNat 0)) rf.Qa ⟨fa,fb,fc,fd⟩).d]):=
 XD (ts:=[.agg (Xm rf Qb).toArray,.agg #[.int .i64 fa,.int .i64 fb,.int .i64 fc,.int .i64 fd],.int .i64 k]) Zs (c0:=Qq YP 78 11 (([.agg (Xm rf Qb).toArray,.agg #[.int .i64 fa,.int .i64 fb,.int .i64 fc,.int .i64 fd],.int .i64 k]).map (Q5 0 4))) (by kernel_rfl) (by kernel_rfl) fun B hJ=>Bz rf Qb fa fb fc fd k hr hl hp k0 k1 hf hs hJ
end
end Go.Proofs.Ytncjjangllkokaa

namespace Go.Proofs.Ytncjjangllkokaa
open Go Go.CE Go.RowKit
set_option maxRecDepth 100000
def Xs(rf:Qe):List (List Int):=Yj rf.Qc fun _=>VL rf
def Mf(rf:Qe):List (List Int):=Yj rf.Qc fun _=>Ip rf
def I3(rf:Qe)(Qb:List Int):List (List Int):=Yj rf.Qc fun s=>Gp rf (Qb.getD s.toNat 0)
def Xr(rf:Qe)(Qb:List Int):List (List Int):=Yj rf.Qc fun s=>YJ rf (Qb.getD s.toNat 0)
def Qz(rf:Qe)(Qb:List Int)(k:Nat):F4:=PC rf.Qa (Xs rf) (Xr rf Qb) (Qh (Zo rf)) k
def Md(rf:Qe)(Qb:List Int)(k:Nat):F4:=PC rf.Qa (Mf rf) (I3 rf Qb) (Qh (Lx rf)) k
theorem AB{l:List Int}(h:∀k:Int,0<=k->k<4->0<=nth l k/\nth l k<=4000000):JX (Qh l)/\(Qh l).sum<=16000000:=by
 have a0:=h 0 (by omega) (by omega);have a1:=h 1 (by omega) (by omega);have a2:=h 2 (by omega) (by omega);have a3:=h 3 (by omega) (by omega);have es:(Qh l).sum=nth l 0+nth l 1+nth l 2+nth l 3:=rfl;exact⟨⟨⟨a0.1,a1.1,a2.1,a3.1⟩,by omega⟩,by omega⟩
theorem LA{rf:Qe}(hr:ZE rf=true){g:Span->Int}(hg:∀s:Span,g s=s.lo\/g s=s.hi):∀k:Int,0<=k->k<4->0<=nth ((rf.Qa.map (Xt rf.Qk)).map g) k/\nth ((rf.Qa.map (Xt rf.Qk)).map g) k<=4000000:=fun k k0 k1=>by
 have hs:=Q6 (QH hr).1;by_cases hk:k<rf.Qa.length
 ·have hp:=XG ((QH hr).2 k k0 hk).1;have hm:=PJ (a:=(rf.Qa.getD k.toNat ML).count) (r:=rf.Qk) (by omega) (by omega);have hm2:(rf.Qa.getD k.toNat ML).count*rf.Qk<=1000000*2000:=Int.mul_le_mul hp.1.2 hs.2.1.2 hs.2.1.1 (by omega);have e2:((rf.Qa.getD k.toNat ML).count*rf.Qk).tdiv 1000=((rf.Qa.getD k.toNat ML).count*rf.Qk) / 1000:=ND hm.1;rw[VC k0 hk];rcases hg (Xt rf.Qk (rf.Qa.getD k.toNat ML))with e|e
  ·rw[e];simp only[Xt];omega
  ·rw[e];simp only[Xt,Y2];omega
 ·unfold nth;rw[MU,Nf (by simp;omega)];exact⟨Nx _,by decide⟩
theorem Lm{rf:Qe}(hr:ZE rf=true){gs ts:List (List Int)}{l:List Int}(hg:gs.length=rf.Qc)(ht:ts.length=rf.Qc)(rg:∀k:Nat,k<rf.Qc->Km rf.Qa.length (gs.getD k ML) 2000)(rt:∀k:Nat,k<rf.Qc->Km rf.Qa.length (ts.getD k ML) 1000000)(hl:JX (Qh l)/\(Qh l).sum<=16000000):OkT rf.Qa rf.Qc gs ts (Qh l):=by
 have hs:=Q6 (QH hr).1;exact⟨y1 hr,by omega,by omega,by omega,hg,ht,rg,rt,hl.1,by omega⟩
theorem Ct{rf:Qe}(hr:ZE rf=true):JX (Qh (Zo rf))/\(Qh (Zo rf)).sum<=16000000:=AB (LA hr fun _=>.inl rfl)
theorem zq{rf:Qe}(Qb:List Int)(hr:ZE rf=true):OkT rf.Qa rf.Qc (Xs rf) (Xr rf Qb) (Qh (Zo rf)):=by
 have hs:=Q6 (QH hr).1;refine Lm hr (by rw[Xs,Xu];omega) (by rw[Xr,Xu];omega) (fun k hk=> ?_) (fun k hk=> ?_) (Ct hr)
 ·have e:(Xs rf).getD k ML=VL rf:=XR (k:=(k:Int)) (by omega) hk;rw[e];exact(qF hr).1
 ·have e:(Xr rf Qb).getD k ML=YJ rf (Qb.getD ((k:Int)).toNat 0):=XR (k:=(k:Int)) (by omega) hk;rw[e];exact(oX hr _).2
theorem Fg{rf:Qe}{Qb:List Int}{i:Int}(h0:0<=i)(h:i<rf.Qc):Qz rf Qb (i+1).toNat=Q2 (VL rf) (YJ rf (Qb.getD i.toNat 0)) rf.Qa (Qz rf Qb i.toNat):=by
 rw[show(i+1).toNat=i.toNat+1 by omega];show Q2 _ _ _ _=_;have e1:(Xs rf).getD i.toNat ML=VL rf:=XR h0 h;have e2:(Xr rf Qb).getD i.toNat ML=YJ rf (Qb.getD i.toNat 0):=XR h0 h;rw[e1,e2];rfl
end Go.Proofs.Ytncjjangllkokaa

namespace Go.Proofs.Ytncjjangllkokaa
open Go Go.CE Go.RowKit
end Go.Proofs.Ytncjjangllkokaa

namespace Go.CE
open Go Go.RowKit
section
variable {α β:Type}
def SK(ke:α->Value)(ve:β->Value):List (α×β)->Nat->List MapEntry
 |[],_=>[]
 |p::l,i=>{key:=ke p.1,val:=ve p.2,born:=i}::SK ke ve l (i+1)
structure tv (α β:Type) where
 ke:α->Value
 ve:β->Value
 eq:α->α->Bool
def mapA(M:tv α β)(l:List (α×β)):Array MapEntry:=(SK M.ke M.ve l 0).toArray
def YM(eq:α->α->Bool)(l:List (α×β))(k:α):Bool:=l.any fun p=>eq k p.1
def wW[Inhabited β](eq:α->α->Bool):List (α×β)->α->β
 |[],_=>ML
 |p::l,k=>bif eq k p.1 then p.2 else wW eq l k
def JU(eq:α->α->Bool):List (α×β)->α->Nat->Option (Nat×β)
 |[],_,_=>none
 |p::l,k,i=>bif eq k p.1 then some (i,p.2)else JU eq l k (i+1)
def yq(eq:α->α->Bool):List (α×β)->α->β->List (α×β)
 |[],k,x=>[(k,x)]
 |p::l,k,x=>bif eq k p.1 then(k,x)::l else p::yq eq l k x
def SO(M:tv α β)(l:List (α×β))(k:α):Bool:=YM M.eq l k
def JW[Inhabited β](M:tv α β)(l:List (α×β))(k:α):β:=wW M.eq l k
def U9(M:tv α β)(l:List (α×β))(k:α)(x:β):List (α×β):=yq M.eq l k x
theorem ny[Inhabited β]{eq:α->α->Bool}:∀{l:List (α×β)} {k:α} {i:Nat},YM eq l k=true->∃j,JU eq l k i=some (j,wW eq l k)
 |[],k,i,h=>by simp[YM]at h
 |p::l,k,i,h=>by
  unfold JU wW;cases e:eq k p.1 with
  |true=>exact⟨i,rfl⟩
  |false=>
   have h':YM eq l k=true:=by
    unfold YM at h ⊢;rw[List.any_cons,e,Bool.false_or]at h;exact h
   exact ny h'
theorem hQ{eq:α->α->Bool}:∀{l:List (α×β)} {k:α} {i:Nat},YM eq l k=false->JU eq l k i=none
 |[],k,i,h=>rfl
 |p::l,k,i,h=>by
  unfold YM at h;rw[List.any_cons,Bool.or_eq_false_iff]at h;unfold JU;rw[h.1];exact hQ (by unfold YM;exact h.2)
theorem wX{eq:α->α->Bool}:∀{l:List (α×β)} {k:α} {i j:Nat} {x:β},JU eq l k i=some (j,x)->i<=j/\∃p,l[j-i]? =some p/\eq k p.1=true/\∀y,yq eq l k y=l.set (j-i) (k,y)
 |[],k,i,j,x,h=>by cases h
 |p::l,k,i,j,x,h=>by
  unfold JU at h;cases e:eq k p.1 with
  |true=>
   rw[e]at h;simp only[cond_true,YO,YR]at h;obtain⟨rfl,_⟩:=h;exact⟨Nh _,p,by simp,e,fun y=>by simp[yq,e]⟩
  |false=>
   rw[e]at h;simp only[cond_false]at h;obtain⟨h1,q,h2,h3,h4⟩:=wX h;have e2:j-i=(j-(i+1))+1:=by omega
   exact⟨by omega,q,by rw[e2];simpa using h2,h3,fun y=>by rw[e2];simp[yq,e,h4 y]⟩
theorem uH{eq:α->α->Bool}:∀{l:List (α×β)} {k:α} {x:β},YM eq l k=false->yq eq l k x=l++[(k,x)]
 |[],k,x,_=>rfl
 |p::l,k,x,h=>by
  unfold YM at h;rw[List.any_cons,Bool.or_eq_false_iff]at h;unfold yq;rw[h.1];exact congrArg (p::·) (uH (by unfold YM;exact h.2))
structure KeyC (P:Program) (kt:TypeId) (ke:α->Value) (eq:α->α->Bool):Prop where
 af:∀k,af (ke k)=true
 ck:∀b k,X4 P (Instr.checkKey b 10000 kt (ke k))=some ()
 sb:∀k,Instr.sameBits 10000 (ke k) (ke k)=true
 same:∀k k',eq k k'=true->k=k'
 un:∃d,X4 P (underlying kt)=some d/\((∀k k',Instr.sameNow d (ke k) (ke k')=some (eq k k'))\/((∀k k',Instr.sameNow d (ke k) (ke k')=none)/\∀k k',X4 P (Op.equal kt (ke k) (ke k'))=some (eq k k')))
theorem JS{ke:α->Value}{ve:β->Value}:∀{l:List (α×β)} {i j:Nat},(SK ke ve l i)[j]? =(l[j]?).map fun p=>{key:=ke p.1,val:=ve p.2,born:=i+j}
 |[],i,j=>by simp[SK]
 |p::l,i,0=>by simp[SK]
 |p::l,i,j+1=>by
  simp only[SK,List.getElem?_cons_succ];rw[JS (l:=l),show i+1+j=i+(j+1)by omega]
theorem lZ{ke:α->Value}{ve:β->Value}:∀{l:List (α×β)} {i:Nat},(SK ke ve l i).length=l.length
 |[],i=>rfl
 |p::l,i=>by simp[SK,lZ (l:=l)]
variable {P:Program} {kt:TypeId} {ke:α->Value} {ve:β->Value} {eq:α->α->Bool}
theorem xq{d:TypeDesc}(h:∀k k',Instr.sameNow d (ke k) (ke k')=some (eq k k')){k:α}:∀{l:List (α×β)} {i n:Nat},Instr.findNow d (ke k) (SK ke ve l n) i=some ((JU eq l k i).map fun p=>(p.1,ve p.2))
 |[],i,n=>rfl
 |p::l,i,n=>by
  simp only[SK,Instr.findNow,h,JU];cases e:eq k p.1 with
  |true=>rfl
  |false=>exact xq h (l:=l)
theorem xt(h:∀k k',X4 P (Op.equal kt (ke k) (ke k'))=some (eq k k')){k:α}:∀{l:List (α×β)} {i n:Nat},X4 P (Instr.findAsking kt (ke k) (SK ke ve l n) i)=some ((JU eq l k i).map fun p=>(p.1,ve p.2))
 |[],i,n=>rfl
 |p::l,i,n=>by
  simp only[SK,Instr.findAsking,Zu,h,JU];cases e:eq k p.1 with
  |true=>rfl
  |false=>simpa using xt h (l:=l)
theorem KeyC.find(h:KeyC P kt ke eq){k:α}{l:List (α×β)}:X4 P (Instr.findKey kt (ke k) (SK ke ve l 0))=some ((JU eq l k 0).map fun p=>(p.1,ve p.2)):=by
 obtain⟨d,hd,h1|⟨h1,h2⟩⟩:=h.un
 ·simp only[Instr.findKey,Zu,hd,xq h1,W8]
 ·simp only[Instr.findKey,Zu,hd];cases l with
  |nil=>rfl
  |cons p l=>
   have e:Instr.findNow d (ke k) (SK ke ve (p::l) 0) 0=none:=by simp[SK,Instr.findNow,h1]
   rw[e];exact xt h2
theorem rZ[Inhabited β]{M:tv α β}(hk:KeyC P kt M.ke M.eq){t e:TypeId}(hu:J4 P t=some (.map kt e)){l:List (α×β)}{k:α}{ok:Bool}(h:SO M l k=true):Pc P t (mapA M l) ok (M.ke k) (bif ok then .tuple #[M.ve (JW M l k),.bool true]else M.ve (JW M l k)):=by
 intro H r Pe hg;obtain⟨j,hj⟩:=ny (eq:=M.eq) (i:=0) h;unfold SW;rw[hu];simp only[hg,hk.af,cond_true,hk.ck];have hf:X4 P (Instr.findKey kt (M.ke k) (mapA M l).toList)=some (some (j,M.ve (JW M l k))):=by
  show X4 P (Instr.findKey kt (M.ke k) (SK M.ke M.ve l 0))=_;rw[hk.find,hj];rfl
 rw[hf]
theorem sd{M:tv α β}(hk:KeyC P kt M.ke M.eq){t e:TypeId}{z:Value}(hu:J4 P t=some (.map kt e))(hz:zeroOf P e=some z)(ha:Go.CE.af z=true){l:List (α×β)}{k:α}{ok:Bool}(h:SO M l k=false):Pc P t (mapA M l) ok (M.ke k) (bif ok then .tuple #[z,.bool false]else z):=by
 intro H r Pe hg;unfold SW;rw[hu];simp only[hg,hk.af,cond_true,hk.ck];have hf:X4 P (Instr.findKey kt (M.ke k) (mapA M l).toList)=some none:=by
  show X4 P (Instr.findKey kt (M.ke k) (SK M.ke M.ve l 0))=_;rw[hk.find,hQ h];rfl
 rw[hf,hz];simp only[ha,cond_true]
theorem Hj{M:tv α β}(hk:KeyC P kt M.ke M.eq){t e:TypeId}(hu:J4 P t=some (.map kt e)){l:List (α×β)}{k:α}{x:β}:fY P t (mapA M l) l.length (M.ke k) (M.ve x) (mapA M (U9 M l k x)) (U9 M l k x).length:=by
 intro H r hg;unfold Kr;rw[hu];simp only[hg,hk.af,cond_true,hk.ck];cases hb:JU M.eq l k 0 with
 |some p=>
  obtain⟨j,y⟩:=p;have hf:X4 P (Instr.findKey kt (M.ke k) (mapA M l).toList)=some (some (j,M.ve y)):=by
   show X4 P (Instr.findKey kt (M.ke k) (SK M.ke M.ve l 0))=_;rw[hk.find,hb];rfl
  rw[hf];obtain⟨_,q,h2,h3,h4⟩:=wX hb;have eq1:=hk.same _ _ h3;have h4:∀y,U9 M l k y=l.set (j-0) (k,y):=h4;have hj:j<l.length:=(List.getElem?_eq_some_iff.1 h2).1;have hg2:(mapA M l)[j]? =some {key:=M.ke q.1,val:=M.ve q.2,born:=j}:=by
   unfold mapA;rw[Nz,JS,show l[j]? =some q by simpa using h2];simp
  simp only[hg2];rw[<-eq1,hk.sb];simp only[cond_true];have es:(mapA M l).setIfInBounds j {key:=M.ke k,val:=M.ve x,born:=j}=mapA M (U9 M l k x):=by
   rw[h4 x];apply Array.ext_getElem?;intro i;unfold mapA;rw[Array.getElem?_setIfInBounds,Nz,Nz,JS,JS,List.getElem?_set];simp only[Nat.sub_zero,Nj,List.size_toArray,lZ];by_cases P4:j=i
   ·subst P4;simp[hj]
   ·simp[P4]
  rw[es,h4 x,Ny]
 |none=>
  have hf:X4 P (Instr.findKey kt (M.ke k) (mapA M l).toList)=some none:=by
   show X4 P (Instr.findKey kt (M.ke k) (SK M.ke M.ve l 0))=_;rw[hk.find,hb];rfl
  rw[hf];have hnb:SO M l k=false:=by
   cases hq:YM M.eq l k with
   |false=>exact hq
   |true=>
    exfalso;have:∀(l:List (α×β)) (i:Nat),YM M.eq l k=true->JU M.eq l k i≠none:=by
     intro l;induction l with
     |nil=>intro i h;simp[YM]at h
     |cons p l ih=>
      intro i h;unfold JU;cases e:M.eq k p.1 with
      |true=>simp
      |false=>
       simp only[cond_false];refine ih _ ?_;unfold YM at h ⊢;rw[List.any_cons,e,Bool.false_or]at h;exact h
    exact this l 0 hq hb
  rw[show U9 M l k x=l++[(k,x)]from uH hnb];have es:(mapA M l).push {key:=M.ke k,val:=M.ve x,born:=l.length}=mapA M (l++[(k,x)]):=by
   apply Array.ext_getElem?;intro i;unfold mapA;rw[Array.getElem?_push,Nz,Nz,JS,JS,List.getElem?_append];simp only[Nj,List.size_toArray,lZ];by_cases h1:i=l.length
   ·subst h1;simp
   ·by_cases h2:i<l.length
    ·simp[h1,h2]
    ·have h3:i-l.length≠0:=by omega
     obtain⟨m,hm⟩:∃m,i-l.length=m+1:=⟨i-l.length-1,by omega⟩
     simp[h1,h2,hm]
  simp only[es,NH,NF,List.length_nil,Nj]
theorem XJ{M:tv α β}(h:∀x,af (M.ve x)=true){l:List (α×β)}:XW (mapA M l):=by
 intro i e he;unfold mapA at he;rw[Nz,JS]at he;obtain⟨p,_,rfl⟩:=Option.map_eq_some_iff.1 he;exact h _
end
end Go.CE

namespace Go.Proofs.Ytncjjangllkokaa
open Go Go.CE Go.RowKit
set_option maxRecDepth 100000
def ai(Qb:List Int)(s:Int):F4:=⟨if 0<s then Qb.getD 0 0 else -1,if 1<s then Qb.getD 1 0 else -1,if 2<s then Qb.getD 2 0 else -1,if 3<s then Qb.getD 3 0 else -1⟩
def Ll(x y:F4):Bool:=decide (x.a=y.a) && (decide (x.b=y.b) && (decide (x.c=y.c) && decide (x.d=y.d)))
theorem xx{x y:F4}:Ll x y=true<->x=y:=by
 cases x;cases y;simp[Ll]
abbrev v4(f:F4):Value:=.agg #[.int .i64 f.a,.int .i64 f.b,.int .i64 f.c,.int .i64 f.d]
def Q7:tv F4 F4:=⟨v4,v4,Ll⟩
theorem rF{P:Program}{t:TypeId}{a b:Int}{d:Nat}(hu:X4 P (underlying t)=some (.int .i64)):X4 P (Op.equalIn (d+1) t (.int .i64 a) (.int .i64 b))=some (decide (a=b)):=by
 rw[Op.equalIn,Zu,hu];simp only[if_true,W8];congr 1
theorem WV:KeyC YP 82 Q7.ke Q7.eq:=⟨fun _=>by kernel_rfl,fun _ _=>by kernel_rfl,fun k=>by
 show((true && ((decide (IntKind.i64=.i64) && k.a==k.a) && _)):Bool)=true;simp[Instr.sameBits],fun k k' h=>xx.1 h,⟨.array 4 3,by kernel_rfl,.inr ⟨fun _ _=>by kernel_rfl,fun k k'=>by
  have hi:X4 YP (underlying 3)=some (.int .i64):=by kernel_rfl
  have hs:X4 YP (sizeOf 3)=some 1:=by kernel_rfl
  have hk:X4 YP (underlying 82)=some (.array 4 3):=by kernel_rfl
  have h0:∀(a b c d:Int),X4 YP (part 3 #[.int .i64 a,.int .i64 b,.int .i64 c,.int .i64 d] (0*1))=some (.int .i64 a):=fun a b c d=>by kernel_rfl
  have h1:∀(a b c d:Int),X4 YP (part 3 #[.int .i64 a,.int .i64 b,.int .i64 c,.int .i64 d] ((0+1)*1))=some (.int .i64 b):=fun a b c d=>by kernel_rfl
  have h2:∀(a b c d:Int),X4 YP (part 3 #[.int .i64 a,.int .i64 b,.int .i64 c,.int .i64 d] ((0+1+1)*1))=some (.int .i64 c):=fun a b c d=>by kernel_rfl
  have h3:∀(a b c d:Int),X4 YP (part 3 #[.int .i64 a,.int .i64 b,.int .i64 c,.int .i64 d] ((0+1+1+1)*1))=some (.int .i64 d):=fun a b c d=>by kernel_rfl
  show X4 YP (Op.equalIn (9998+1+1) 82 (.agg #[.int .i64 k.a,.int .i64 k.b,.int .i64 k.c,.int .i64 k.d]) (.agg #[.int .i64 k'.a,.int .i64 k'.b,.int .i64 k'.c,.int .i64 k'.d]))=_;rw[Op.equalIn,Zu,hk];simp only[Zu,hs];rw[Std.Legacy.Range.forIn_eq_forIn_range'];simp only[Std.Legacy.Range.size,Ni,List.forIn_cons,List.forIn_nil,Zu];show _=some (decide (k.a=k'.a) && (decide (k.b=k'.b) && (decide (k.c=k'.c) && decide (k.d=k'.d))));simp only[Zu,h0,rF hi];cases decide (k.a=k'.a)with
  |false=>rfl
  |true=>
   simp only[Bool.not_true,Bool.false_eq_true,if_false,W8,Bool.true_and];simp only[Zu,h1,rF hi];cases decide (k.b=k'.b)with
   |false=>rfl
   |true=>
    simp only[Bool.not_true,Bool.false_eq_true,if_false,W8,Bool.true_and];simp only[Zu,h2,rF hi];cases decide (k.c=k'.c)with
    |false=>rfl
    |true=>
     simp only[Bool.not_true,Bool.false_eq_true,if_false,W8,Bool.true_and];simp only[Zu,h3,rF hi];cases decide (k.d=k'.d)with
     |false=>rfl
     |true=>
      simp only[Bool.not_true,Bool.false_eq_true,if_false,W8,Bool.true_and]⟩⟩⟩
def Pd(rf:Qe)(es:List (F4×F4)):Prop:=∀p∈es,∃(pl:List Int) (s:Nat),QQ rf pl=true/\1<=s/\(s:Int)<=rf.Qc/\p.1=ai pl s/\p.2=Qz rf pl s
def Xl(rf:Qe)(Qb:List Int):Nat->List (F4×F4)->List (F4×F4)
 |0,es=>es
 |s+1,es=>bif SO Q7 es (ai Qb ((s+1:Nat):Int))then es else U9 Q7 (Xl rf Qb s es) (ai Qb ((s+1:Nat):Int)) (Q2 (VL rf) (YJ rf (Qb.getD s 0)) rf.Qa (Qz rf Qb s))
theorem Y8{rf:Qe}:Pd rf []:=fun p h=>by cases h
theorem H8{es:List (F4×F4)}{k:F4}(h:SO Q7 es k=true):(k,JW Q7 es k)∈es:=by
 induction es with
 |nil=>cases h
 |cons p l ih=>
  unfold SO YM at h;unfold JW wW;rw[List.any_cons]at h;cases e:Q7.eq k p.1 with
  |true=>rw[xx.1 e];exact List.mem_cons_self ..
  |false=>
   rw[e,Bool.false_or]at h;exact Nc _ (ih h)
theorem Gb{rf:Qe}(hr:ZE rf=true){pl pl':List Int}{s s':Nat}(h:QQ rf pl=true)(h':QQ rf pl'=true)(hs:(s:Int)<=rf.Qc)(hs':(s':Int)<=rf.Qc)(e:ai pl s=ai pl' s'):s=s'/\∀k:Nat,k<s->pl.getD k 0=pl'.getD k 0:=by
 have ZN:=Q6 (QH hr).1;have g:=fun j=>Z2 hr h j
 have g':=fun j=>Z2 hr h' j
 have e0:=congrArg F4.a e;have e1:=congrArg F4.b e;have e2:=congrArg F4.c e;have e3:=congrArg F4.d e;simp only[ai]at e0 e1 e2 e3;have g0:=g 0;have g1:=g 1;have g2:=g 2;have g3:=g 3;have g0':=g' 0;have g1':=g' 1;have g2':=g' 2;have g3':=g' 3;have es:s=s':=by
  repeat' split at e0
  all_goals (repeat' split at e1)
  all_goals (repeat' split at e2)
  all_goals (repeat' split at e3)
  all_goals omega
 subst es;refine⟨rfl,fun k hk=> ?_⟩;rcases(show k=0\/k=1\/k=2\/k=3 by omega)with rfl|rfl|rfl|rfl
 ·rw[if_pos (by omega),if_pos (by omega)]at e0;exact e0
 ·rw[if_pos (by omega),if_pos (by omega)]at e1;exact e1
 ·rw[if_pos (by omega),if_pos (by omega)]at e2;exact e2
 ·rw[if_pos (by omega),if_pos (by omega)]at e3;exact e3
theorem J2{rf:Qe}{Qb:List Int}{s:Nat}(h:((s+1:Nat):Int)<=rf.Qc):Qz rf Qb (s+1)=Q2 (VL rf) (YJ rf (Qb.getD s 0)) rf.Qa (Qz rf Qb s):=Fg (i:=(s:Int)) (by omega) (by omega)
theorem wS{rf:Qe}{pl pl':List Int}:∀s:Nat,(s:Int)<=rf.Qc->(∀k:Nat,k<s->pl.getD k 0=pl'.getD k 0)->Qz rf pl s=Qz rf pl' s
 |0,_,_=>rfl
 |s+1,hs,h=>by
  rw[J2 hs,J2 hs,wS s (by omega) fun k hk=>h k (by omega),h s (by omega)]
theorem aZ{rf:Qe}{Qb:List Int}{es:List (F4×F4)}{s:Nat}(hr:ZE rf=true)(hp:QQ rf Qb=true)(he:Pd rf es)(hs:(s:Int)<=rf.Qc)(h:SO Q7 es (ai Qb s)=true):JW Q7 es (ai Qb s)=Qz rf Qb s:=by
 obtain⟨pl,s',h1,_,h3,h4,h5⟩:=he _ (H8 h);obtain⟨rfl,hk⟩:=Gb hr hp h1 hs h3 h4;rw[show JW Q7 es (ai Qb s)=_ from h5];exact(wS s hs hk).symm
theorem VD{rf:Qe}{Qb:List Int}(hr:ZE rf=true){s:Nat}(hs:(s:Int)<=rf.Qc):JX ⟨(Qz rf Qb s).a,(Qz rf Qb s).b,(Qz rf Qb s).c,(Qz rf Qb s).d⟩/\F4.sum ⟨(Qz rf Qb s).a,(Qz rf Qb s).b,(Qz rf Qb s).c,(Qz rf Qb s).d⟩<=10000000000:=by
 have ZN:=Q6 (QH hr).1;have h:=(zq Qb hr).st s (by omega);have hh:=(zq Qb hr).hs;refine⟨h.1, ?_⟩;have:=h.2;show(Qz rf Qb s).sum<=_;unfold Qz;omega
def di(a b c d k:Int)(w x y z i:Int):List Value:=[pA 2 0,pA 3 0,.int .i64 i]
def Px(a b c d k:Int)(w x y z i:Int):List Obj:=[.cells #[.int .i64 w,.int .i64 x,.int .i64 y,.int .i64 z] 82 (0,0),Obj.cells #[.int .i64 0,.int .i64 0,.int .i64 0,.int .i64 0] 82]
noncomputable def dj:List Item:=([.code [1,0,1,0,0],.inLoop [1,0,1,0,0],.inBlock 0,.code [1,1]]).map (it (Xf YP 111))
def GX(B:Lo)(c0:CF)(a b c d k:Int)(w x y z i:Int):Prop:=∃dJ:Nat->Value,(∀t,XP (dJ t))/\GoE YP B c0 Zn 1 (QO 111 14 (([2,4,5]:List Nat).zip (di a b c d k w x y z i)) dJ dj) (QN (Px a b c d k w x y z i)) (2+(Px a b c d k w x y z i).length) []
theorem GV(B:Lo)(a b c d k:Int)(w x y z i:Int)(Qt:Nat->Value):landM (Qu YP (Q8 YP) J0 B 11 1 (QO 111 14 (([2,4,5]:List Nat).zip (di a b c d k w x y z i)) Qt dj) (QN (Px a b c d k w x y z i)) (2+(Px a b c d k w x y z i).length)
 [(1,WR),(3,Ql.WM (Hint.idx i.toNat)),(4,Ql.WM (Hint.st #[.int .i64 (if MM i=0 then -1 else w),.int .i64 (if MM i=1 then -1 else x),.int .i64 (if MM i=2 then -1 else y),.int .i64 (if MM i=3 then -1 else z)])),(6,U2 (i+1))] 0 [] []) [2,4,5] [(2,KS.auto),(3,KS.auto)] []=some ⟨111,14,dj,[],.run,none,di a b c d k (if MM i=0 then -1 else w) (if MM i=1 then -1 else x) (if MM i=2 then -1 else y) (if MM i=3 then -1 else z) (i+1),Px a b c d k (if MM i=0 then -1 else w) (if MM i=1 then -1 else x) (if MM i=2 then -1 else y) (if MM i=3 then -1 else z) (i+1),
 [wq (i+1)=i+1,0+MM i*1+TypeInfo.size Try.t3<=Array.size #[Value.int .i64 w,.int .i64 x,.int .i64 y,.int .i64 z]/\splice #[.int .i64 w,.int .i64 x,.int .i64 y,.int .i64 z] (0+MM i*1) (Value.cells (.int .i64 (-1)))=#[.int .i64 (if MM i=0 then -1 else w),.int .i64 (if MM i=1 then -1 else x),.int .i64 (if MM i=2 then -1 else y),.int .i64 (if MM i=3 then -1 else z)],i=(↑i.toNat:Int)/\MM i<4,Zq i 4=true]⟩:=by kernel_rfl
theorem GU(B:Lo)(a b c d k:Int)(w x y z i:Int)(Qt:Nat->Value):Xd (Qu YP (Q8 YP) J0 B 9 1 (QO 111 14 (([2,4,5]:List Nat).zip (di a b c d k w x y z i)) Qt dj) (QN (Px a b c d k w x y z i)) (2+(Px a b c d k w x y z i).length)
 [(1,Vs)] 0 [] []) []=some (.agg #[.int .i64 w,.int .i64 x,.int .i64 y,.int .i64 z],
 [Zq i 4=false]):=by kernel_rfl
theorem GS(B:Lo)(a b c d k:Int):landM (Qu YP (Q8 YP) J0 B 7 1 (Qq YP 111 14 (([.agg #[.int .i64 a,.int .i64 b,.int .i64 c,.int .i64 d],.int .i64 k]).map (Q5 0 4))) Zn 1
 [] 0 [] []) [2,4,5] [(1,KS.auto),(2,KS.auto)] []=some ⟨111,14,dj,[],.run,none,di a b c d k (a) (b) (c) (d) (k),Px a b c d k (a) (b) (c) (d) (k),
 []⟩:=by kernel_rfl
set_option maxHeartbeats 4000000 in
theorem GW(a b c d k:Int)(k0:0<=k)(k4:k<=4){B:Lo}(hJ:∀w,B.has w->J0 w){c0:CF}:∀m:Nat,(∀(w x y z i:Int),(4-i).toNat=m->∀(h0:k<=i) (h4:i<=4) (hw:w=if k<=0/\0<i then -1 else a) (hx:x=if k<=1/\1<i then -1 else b) (hy:y=if k<=2/\2<i then -1 else c) (hz:z=if k<=3/\3<i then -1 else d),GX B c0 a b c d k w x y z i->EndsT YP B c0 (.agg #[.int .i64 (if 0<k then a else -1),.int .i64 (if 1<k then b else -1),.int .i64 (if 2<k then c else -1),.int .i64 (if 3<k then d else -1)])):=by
 intro m0;induction m0 using No with
 |_ m0 ih0=>
  intro w x y z i hm0 h0 h4 hw hx hy hz ⟨Qt,Kn,Zk⟩;by_cases q0:(i:Int)<(4)
  ·exact((ih0 _ (by omega)) (if MM i=0 then -1 else w) (if MM i=1 then -1 else x) (if MM i=2 then -1 else y) (if MM i=3 then -1 else z) (i+1) rfl (by omega) (by omega) (by omega) (by omega) (by omega) (by omega)
    (Zk.landM okF hJ Qf (GV B a b c d k w x y z i Qt)
    ⟨(XH (by omega) (by omega)),⟨(ot rfl (fs:=[w,x,y,z]) rfl (NA (m:=4) (by omega) rfl) rfl),⟨⟨by omega,by omega⟩,⟨(Zh q0),trivial⟩⟩⟩⟩ (by kernel_rfl) (by kernel_rfl))).cast (by rfl)
  ·exact(GoE.endsT okF hJ Qf Zk (GU B a b c d k w x y z i Qt)
    ⟨(Zr (Int.not_lt.1 q0)),trivial⟩).cast (by(simp_all[];omega))
set_option maxHeartbeats 4000000 in
theorem IQ(a b c d k:Int)(k0:0<=k)(k4:k<=4){B:Lo}(hJ:∀w,B.has w->J0 w):EndsT YP B (Qq YP 111 14 (([.agg #[.int .i64 a,.int .i64 b,.int .i64 c,.int .i64 d],.int .i64 k]).map (Q5 0 4))) (.agg #[.int .i64 (if 0<k then a else -1),.int .i64 (if 1<k then b else -1),.int .i64 (if 2<k then c else -1),.int .i64 (if 3<k then d else -1)]):=by
 exact((GW a b c d k k0 k4 hJ _) (a) (b) (c) (d) (k) rfl (by omega) (by with_reducible assumption) (by omega) (by omega) (by omega) (by omega)
  (GoE.start.landM okF hJ Qf (GS B a b c d k)
  trivial (by kernel_rfl) (by kernel_rfl))).cast (by rfl)
theorem GY(a b c d k:Int)(k0:0<=k)(k4:k<=4):Q0 YP J0 111 #[.agg #[.int .i64 a,.int .i64 b,.int .i64 c,.int .i64 d],.int .i64 k] (.agg #[.int .i64 (if 0<k then a else -1),.int .i64 (if 1<k then b else -1),.int .i64 (if 2<k then c else -1),.int .i64 (if 3<k then d else -1)]):=
 XD (ts:=[.agg #[.int .i64 a,.int .i64 b,.int .i64 c,.int .i64 d],.int .i64 k]) Zs (c0:=Qq YP 111 14 (([.agg #[.int .i64 a,.int .i64 b,.int .i64 c,.int .i64 d],.int .i64 k]).map (Q5 0 4))) (by kernel_rfl) (by kernel_rfl) fun B hJ=>IQ a b c d k k0 k4 hJ
end Go.Proofs.Ytncjjangllkokaa

namespace Go.Proofs.Ytncjjangllkokaa
open Go Go.CE Go.RowKit
noncomputable section
set_option maxRecDepth 100000
def nC(rf:Qe)(Qb:List Int)(es:List (F4×F4)):Qm:=[(1,.map (mapA Q7 es) es.length),(0,Xo)]
def dZ(rf:Qe)(Qb:List Int)(es:List (F4×F4)):CF:=Qq YP 89 45 [.agg #[Qv 0 (Kj rf.Qa),.int .i64 rf.Qk,.int .i64 rf.Qc,.map (some 1)],.agg #[.int .i64 (Qb.getD 0 0),.int .i64 (Qb.getD 1 0),.int .i64 (Qb.getD 2 0),.int .i64 (Qb.getD 3 0)],.int .i64 0]
def nB(rf:Qe):Value:=(.agg #[.int .i64 (Na (Zo rf) 0 ML),.int .i64 (Na (Zo rf) 1 ML),.int .i64 (Na (Zo rf) 2 ML),.int .i64 (Na (Zo rf) 3 ML)])
theorem Fq(B:Lo)(rf:Qe)(Qb:List Int)(es:List (F4×F4)):CE.finK 2 (Qu YP (Q8 YP) J0 B 12 2 (dZ rf Qb es) (nC rf Qb es) 2
 [(12,Ql.pure (nB rf) [])] 0 [] []) [(1,KS.same)] [] []=some (OO.ret (nB rf),[(1,Obj.map (mapA Q7 es) es.length)],[],
 [XW (mapA Q7 es),Q3 []/\Q0 YP J0 75 #[.agg #[QJ rf.Qa.length (Qg Qj rf.Qa),.int .i64 rf.Qk,.int .i64 rf.Qc,.int .i64 (Qb.getD 0 0),.int .i64 (Qb.getD 1 0),.int .i64 (Qb.getD 2 0),.int .i64 (Qb.getD 3 0)],Value.func (Fn.func 76) #[] #[]] (nB rf)]):=by kernel_rfl
set_option maxHeartbeats 4000000 in
theorem Hy(rf:Qe)(Qb:List Int)(es:List (F4×F4))(hr:ZE rf=true)(hp:QQ rf Qb=true)(he:Pd rf es){B:Lo}(hJ:∀w,B.has w->J0 w):FinK YP B (dZ rf Qb es) (nC rf Qb es) 2 (.ret (.agg #[.int .i64 (Qz rf Qb 0).a,.int .i64 (Qz rf Qb 0).b,.int .i64 (Qz rf Qb 0).c,.int .i64 (Qz rf Qb 0).d])) (([1]:List Nat).zip [.map (mapA Q7 (Xl rf Qb 0 es)) (Xl rf Qb 0 es).length]) [] ([1]:List Nat):=by
 have ZN:=Q6 (QH hr).1;exact(GoE.finK okF hJ Qf (Q4 (by kernel_rfl)) (Qp (by kernel_rfl)) ((GoE.refl (P:=YP) (B:=B) (c0:=dZ rf Qb es) (Q4 (by kernel_rfl))).widen (Wf:=((([(1,KS.same)]):List (Nat×KS)).map (·.1))) (by simp) (Qp (by kernel_rfl))) (Fq B rf Qb es)
  ⟨(by exact XJ (fun _=>by kernel_rfl)),⟨⟨trivial,GR (rf) (Qb) (by with_reducible assumption)⟩,trivial⟩⟩).cast (by rfl) (by rfl) (by rfl)
def sH(rf:Qe)(Qb:List Int)(es:List (F4×F4)):OO:=.ret (.agg #[.int .i64 (Qz rf Qb 0).a,.int .i64 (Qz rf Qb 0).b,.int .i64 (Qz rf Qb 0).c,.int .i64 (Qz rf Qb 0).d])
def sG(rf:Qe)(Qb:List Int)(es:List (F4×F4)):List Obj:=[.map (mapA Q7 (Xl rf Qb 0 es)) (Xl rf Qb 0 es).length]
def sI(rf:Qe)(Qb:List Int)(es:List (F4×F4)):List Obj:=[]
def Hz(rf:Qe)(Qb:List Int)(es:List (F4×F4)):Prop:=WriC YP J0 89 #[.agg #[Qv 0 (Kj rf.Qa),.int .i64 rf.Qk,.int .i64 rf.Qc,.map (some 1)],.agg #[.int .i64 (Qb.getD 0 0),.int .i64 (Qb.getD 1 0),.int .i64 (Qb.getD 2 0),.int .i64 (Qb.getD 3 0)],.int .i64 0] [.map (mapA Q7 es) es.length] (sH rf Qb es) (sG rf Qb es) (sI rf Qb es)
theorem Il(rf:Qe)(Qb:List Int)(es:List (F4×F4))(hr:ZE rf=true)(hp:QQ rf Qb=true)(he:Pd rf es):WriC YP J0 89 #[.agg #[Qv 0 (Kj rf.Qa),.int .i64 rf.Qk,.int .i64 rf.Qc,.map (some 1)],.agg #[.int .i64 (Qb.getD 0 0),.int .i64 (Qb.getD 1 0),.int .i64 (Qb.getD 2 0),.int .i64 (Qb.getD 3 0)],.int .i64 0] [.map (mapA Q7 es) es.length] (sH rf Qb es) (sG rf Qb es) (sI rf Qb es):=
 FinK.wri (c0:=dZ rf Qb es) (Hb:=nC rf Qb es) (a:=2) (ws:=([1]:List Nat).zip [.map (mapA Q7 (Xl rf Qb 0 es)) (Xl rf Qb 0 es).length]) (Wf:=([1]:List Nat)) (by kernel_rfl) rfl rfl rfl rfl fun B hJ=>Hy rf Qb es hr hp he hJ
def dY(rf:Qe)(Qb:List Int)(es:List (F4×F4)):Qm:=[(1,.map (mapA Q7 es) es.length),(0,Xo)]
def RX(rf:Qe)(Qb:List Int)(es:List (F4×F4)):CF:=Qq YP 89 45 [.agg #[Qv 0 (Kj rf.Qa),.int .i64 rf.Qk,.int .i64 rf.Qc,.map (some 1)],.agg #[.int .i64 (Qb.getD 0 0),.int .i64 (Qb.getD 1 0),.int .i64 (Qb.getD 2 0),.int .i64 (Qb.getD 3 0)],.int .i64 1]
def n9(Qb:List Int)(es:List (F4×F4)):Array Value:=#[.int .i64 (F4.a (JW Q7 es {a:=if 0<1 then Qb.getD 0 0 else -1,b:= -1,c:= -1,d:= -1})),.int .i64 (F4.b (JW Q7 es {a:=if 0<1 then Qb.getD 0 0 else -1,b:= -1,c:= -1,d:= -1})),.int .i64 (F4.c (JW Q7 es {a:=if 0<1 then Qb.getD 0 0 else -1,b:= -1,c:= -1,d:= -1})),.int .i64 (F4.d (JW Q7 es {a:=if 0<1 then Qb.getD 0 0 else -1,b:= -1,c:= -1,d:= -1}))]
def RV(Qb:List Int):Value:=(.agg #[.int .i64 (if 0<1 then Qb.getD 0 0 else -1),.int .i64 (-1),.int .i64 (-1),.int .i64 (-1)])
def Y7(rf:Qe)(Qb:List Int):=(YJ rf (Qb.getD (MM 0) 0))
def TQ(rf:Qe)(Qb:List Int):Value:=(.agg #[.int .i64 (F4.a (Q2 (VL rf) (Y7 rf Qb) rf.Qa {a:=F4.a (Qz rf Qb 0),b:=F4.b (Qz rf Qb 0),c:=F4.c (Qz rf Qb 0),d:=F4.d (Qz rf Qb 0)})),.int .i64 (F4.b (Q2 (VL rf) (Y7 rf Qb) rf.Qa {a:=F4.a (Qz rf Qb 0),b:=F4.b (Qz rf Qb 0),c:=F4.c (Qz rf Qb 0),d:=F4.d (Qz rf Qb 0)})),.int .i64 (F4.c (Q2 (VL rf) (Y7 rf Qb) rf.Qa {a:=F4.a (Qz rf Qb 0),b:=F4.b (Qz rf Qb 0),c:=F4.c (Qz rf Qb 0),d:=F4.d (Qz rf Qb 0)})),.int .i64 (F4.d (Q2 (VL rf) (Y7 rf Qb) rf.Qa {a:=F4.a (Qz rf Qb 0),b:=F4.b (Qz rf Qb 0),c:=F4.c (Qz rf Qb 0),d:=F4.d (Qz rf Qb 0)}))])
def xe  :Value:=(.tuple #[.agg #[.int .i64 0,.int .i64 0,.int .i64 0,.int .i64 0],.bool false])
def nA(B:Lo)(rf:Qe)(Qb:List Int)(es:List (F4×F4)):List Prop:=[Q3 []/\Q0 YP J0 111 #[.agg #[.int .i64 (Qb.getD 0 0),.int .i64 (Qb.getD 1 0),.int .i64 (Qb.getD 2 0),.int .i64 (Qb.getD 3 0)],.int .i64 1] (RV Qb)]++([]:List Prop)
def xf(rf:Qe)(Qb:List Int)(es:List (F4×F4)):QB:=[(13,Ql.pure (RV Qb) [])]
theorem Fp(B:Lo)(rf:Qe)(Qb:List Int)(es:List (F4×F4)):CE.finK 2 (Qu YP (Q8 YP) J0 B 22 2 (RX rf Qb es) (dY rf Qb es) 2
 (xf rf Qb es++[(19,Ql.WM (Hint.look (.tuple #[.agg (n9 Qb es),.bool true])))]) 0 [] []) [(1,KS.same)] [] []=some (OO.ret (.agg (n9 Qb es)),[(1,Obj.map (mapA Q7 es) es.length)],[],
 [XW (mapA Q7 es),Pc YP 96 (mapA Q7 es) true (XL {len:=16000,tr:=Tri.set 14 (Tri.set 14 Tri.lf 25 (RV Qb)) 24 (Value.map (some 1))} 25) (.tuple #[.agg (n9 Qb es),.bool true])]++nA B rf Qb es):=by kernel_rfl
theorem Fo(B:Lo)(rf:Qe)(Qb:List Int)(es:List (F4×F4)):CE.finK 2 (Qu YP (Q8 YP) J0 B 24 2 (RX rf Qb es) (dY rf Qb es) 2
 (xf rf Qb es++[(19,Ql.WM (Hint.look xe)),(33,Ql.wri [1] [0] [true] [] (sH rf Qb es) (sG rf Qb es) (sI rf Qb es)),(36,Ql.pure (TQ rf Qb) []),(42,Ql.WM (Hint.upd (mapA Q7 (U9 Q7 (Xl rf Qb 0 es) {a:=if 0<1 then Qb.getD 0 0 else -1,b:= -1,c:= -1,d:= -1} (Q2 (VL rf) (Y7 rf Qb) rf.Qa {a:=F4.a (Qz rf Qb 0),b:=F4.b (Qz rf Qb 0),c:=F4.c (Qz rf Qb 0),d:=F4.d (Qz rf Qb 0)}))) (MO (U9 Q7 (Xl rf Qb 0 es) {a:=if 0<1 then Qb.getD 0 0 else -1,b:= -1,c:= -1,d:= -1} (Q2 (VL rf) (Y7 rf Qb) rf.Qa {a:=F4.a (Qz rf Qb 0),b:=F4.b (Qz rf Qb 0),c:=F4.c (Qz rf Qb 0),d:=F4.d (Qz rf Qb 0)})))))]) 0 [] []) [(1,KS.same)] [] []=some (OO.ret (TQ rf Qb),[(1,Obj.map (mapA Q7 (U9 Q7 (Xl rf Qb 0 es) {a:=if 0<1 then Qb.getD 0 0 else -1,b:= -1,c:= -1,d:= -1} (Q2 (VL rf) (Y7 rf Qb) rf.Qa {a:=F4.a (Qz rf Qb 0),b:=F4.b (Qz rf Qb 0),c:=F4.c (Qz rf Qb 0),d:=F4.d (Qz rf Qb 0)}))) (MO (U9 Q7 (Xl rf Qb 0 es) {a:=if 0<1 then Qb.getD 0 0 else -1,b:= -1,c:= -1,d:= -1} (Q2 (VL rf) (Y7 rf Qb) rf.Qa {a:=F4.a (Qz rf Qb 0),b:=F4.b (Qz rf Qb 0),c:=F4.c (Qz rf Qb 0),d:=F4.d (Qz rf Qb 0)}))))],[],
 [XW (mapA Q7 (U9 Q7 (Xl rf Qb 0 es) {a:=if 0<1 then Qb.getD 0 0 else -1,b:= -1,c:= -1,d:= -1} (Q2 (VL rf) (YJ rf (Qb.getD (MM 0) 0)) rf.Qa {a:=F4.a (Qz rf Qb 0),b:=F4.b (Qz rf Qb 0),c:=F4.c (Qz rf Qb 0),d:=F4.d (Qz rf Qb 0)}))),fY YP 96 (mapA Q7 (Xl rf Qb 0 es)) (MO (Xl rf Qb 0 es)) (XL {len:=16000,tr:=Tri.set 14 (Tri.set 14 (Tri.set 14 Tri.lf 43 (TQ rf Qb)) 42 (RV Qb)) 41 (Value.map (some 1))} 42) (XL {len:=16000,tr:=Tri.set 14 (Tri.set 14 (Tri.set 14 Tri.lf 43 (TQ rf Qb)) 42 (RV Qb)) 41 (Value.map (some 1))} 43) (mapA Q7 (U9 Q7 (Xl rf Qb 0 es) {a:=if 0<1 then Qb.getD 0 0 else -1,b:= -1,c:= -1,d:= -1} (Q2 (VL rf) (YJ rf (Qb.getD (MM 0) 0)) rf.Qa {a:=F4.a (Qz rf Qb 0),b:=F4.b (Qz rf Qb 0),c:=F4.c (Qz rf Qb 0),d:=F4.d (Qz rf Qb 0)}))) (MO (U9 Q7 (Xl rf Qb 0 es) {a:=if 0<1 then Qb.getD 0 0 else -1,b:= -1,c:= -1,d:= -1} (Q2 (VL rf) (YJ rf (Qb.getD (MM 0) 0)) rf.Qa {a:=F4.a (Qz rf Qb 0),b:=F4.b (Qz rf Qb 0),c:=F4.c (Qz rf Qb 0),d:=F4.d (Qz rf Qb 0)}))),Q3 []/\Q0 YP J0 78 #[.agg #[QJ rf.Qa.length (Qg Qj rf.Qa),.int .i64 rf.Qk,.int .i64 rf.Qc,.int .i64 (Qb.getD 0 0),.int .i64 (Qb.getD 1 0),.int .i64 (Qb.getD 2 0),.int .i64 (Qb.getD 3 0)],.agg #[.int .i64 (F4.a (Qz rf Qb 0)),.int .i64 (F4.b (Qz rf Qb 0)),.int .i64 (F4.c (Qz rf Qb 0)),.int .i64 (F4.d (Qz rf Qb 0))],.int .i64 0] (TQ rf Qb),Q3 [XW (mapA Q7 es),XW (mapA Q7 (Xl rf Qb 0 es))]/\Hz (rf) (Qb) (es),Pc YP 96 (mapA Q7 es) true (XL {len:=16000,tr:=Tri.set 14 (Tri.set 14 Tri.lf 25 (RV Qb)) 24 (Value.map (some 1))} 25) xe]++nA B rf Qb es):=by kernel_rfl
set_option maxHeartbeats 4000000 in
theorem Hw(rf:Qe)(Qb:List Int)(es:List (F4×F4))(hr:ZE rf=true)(hp:QQ rf Qb=true)(he:Pd rf es)(hs:1<=rf.Qc){B:Lo}(hJ:∀w,B.has w->J0 w):FinK YP B (RX rf Qb es) (dY rf Qb es) 2 (.ret (.agg #[.int .i64 (Qz rf Qb 1).a,.int .i64 (Qz rf Qb 1).b,.int .i64 (Qz rf Qb 1).c,.int .i64 (Qz rf Qb 1).d])) (([1]:List Nat).zip [.map (mapA Q7 (Xl rf Qb 1 es)) (Xl rf Qb 1 es).length]) [] ([1]:List Nat):=by
 have ZN:=Q6 (QH hr).1;have hpf:=(Xa hp).1;have hpg:∀j:Nat,0<=Qb.getD j 0/\Qb.getD j 0<=1000000:=fun j=>(fun h=>⟨h.1,by omega⟩) (Z2 hr hp j)
 have P5:=(VD (Qb:=Qb) hr (s:=0) (by omega)).1;have hs4:=(VD (Qb:=Qb) hr (s:=0) (by omega)).2;have hnx:=J2 (rf:=rf) (Qb:=Qb) (s:=0) (by omega);have Vb:Q3 (nA B rf Qb es):=by
  exact⟨⟨trivial,GY (Qb.getD 0 0) (Qb.getD 1 0) (Qb.getD 2 0) (Qb.getD 3 0) (1) (by omega) (by omega)⟩,trivial⟩
 cases q0:SO Q7 es {a:=if 0<1 then Qb.getD 0 0 else -1,b:= -1,c:= -1,d:= -1}with
 |true=>
  have hfo:=aZ (s:=1) hr hp he (by omega) q0;exact(GoE.finK okF hJ Qf (Q4 (by kernel_rfl)) (Qp (by kernel_rfl)) ((GoE.refl (P:=YP) (B:=B) (c0:=RX rf Qb es) (Q4 (by kernel_rfl))).widen (Wf:=((([(1,KS.same)]):List (Nat×KS)).map (·.1))) (by simp) (Qp (by kernel_rfl))) (Fp B rf Qb es)
   ⟨(by exact XJ (fun _=>by kernel_rfl)),⟨(rZ (k:={a:=if 0<1 then Qb.getD 0 0 else -1,b:= -1,c:= -1,d:= -1}) (ok:=true) WV rfl q0),Vb⟩⟩).cast (by(show _=OO.ret (v4 (Qz rf Qb 1));rw[<-hfo];rfl)) (by(unfold Xl;rw[show SO Q7 es (ai Qb ((0+1:Nat):Int))=_ from q0];rfl)) (by rfl)
 |false=>
  exact(GoE.finK okF hJ Qf (Q4 (by kernel_rfl)) (Qp (by kernel_rfl)) ((GoE.refl (P:=YP) (B:=B) (c0:=RX rf Qb es) (Q4 (by kernel_rfl))).widen (Wf:=((([(1,KS.same)]):List (Nat×KS)).map (·.1))) (by simp) (Qp (by kernel_rfl))) (Fo B rf Qb es)
   ⟨(by exact XJ (fun _=>by kernel_rfl)),⟨(Hj (k:={a:=if 0<1 then Qb.getD 0 0 else -1,b:= -1,c:= -1,d:= -1}) (x:=Q2 (VL rf) (YJ rf (Qb.getD (MM 0) 0)) rf.Qa {a:=F4.a (Qz rf Qb 0),b:=F4.b (Qz rf Qb 0),c:=F4.c (Qz rf Qb 0),d:=F4.d (Qz rf Qb 0)}) WV rfl),⟨⟨trivial,jj (rf) (Qb) (F4.a (Qz rf Qb 0)) (F4.b (Qz rf Qb 0)) (F4.c (Qz rf Qb 0)) (F4.d (Qz rf Qb 0)) (0) (by with_reducible assumption) (by omega) (by with_reducible assumption) (by omega) (by omega) (by with_reducible assumption) (by with_reducible assumption)⟩,⟨⟨⟨(XJ (fun _=>by kernel_rfl)),⟨(XJ (fun _=>by kernel_rfl)),trivial⟩⟩,Il (rf) (Qb) (es) (by with_reducible assumption) (by with_reducible assumption) (by with_reducible assumption)⟩,⟨(sd (k:={a:=if 0<1 then Qb.getD 0 0 else -1,b:= -1,c:= -1,d:= -1}) (ok:=true) WV rfl rfl (by kernel_rfl) q0),Vb⟩⟩⟩⟩⟩).cast (by(show _=OO.ret (v4 (Qz rf Qb (0+1)));rw[hnx];rfl)) (by(unfold Xl;rw[show SO Q7 es (ai Qb ((0+1:Nat):Int))=_ from q0];rfl)) (by rfl)
def sE(rf:Qe)(Qb:List Int)(es:List (F4×F4)):OO:=.ret (.agg #[.int .i64 (Qz rf Qb 1).a,.int .i64 (Qz rf Qb 1).b,.int .i64 (Qz rf Qb 1).c,.int .i64 (Qz rf Qb 1).d])
def sD(rf:Qe)(Qb:List Int)(es:List (F4×F4)):List Obj:=[.map (mapA Q7 (Xl rf Qb 1 es)) (Xl rf Qb 1 es).length]
def sF(rf:Qe)(Qb:List Int)(es:List (F4×F4)):List Obj:=[]
def Hx(rf:Qe)(Qb:List Int)(es:List (F4×F4)):Prop:=WriC YP J0 89 #[.agg #[Qv 0 (Kj rf.Qa),.int .i64 rf.Qk,.int .i64 rf.Qc,.map (some 1)],.agg #[.int .i64 (Qb.getD 0 0),.int .i64 (Qb.getD 1 0),.int .i64 (Qb.getD 2 0),.int .i64 (Qb.getD 3 0)],.int .i64 1] [.map (mapA Q7 es) es.length] (sE rf Qb es) (sD rf Qb es) (sF rf Qb es)
theorem Ik(rf:Qe)(Qb:List Int)(es:List (F4×F4))(hr:ZE rf=true)(hp:QQ rf Qb=true)(he:Pd rf es)(hs:1<=rf.Qc):WriC YP J0 89 #[.agg #[Qv 0 (Kj rf.Qa),.int .i64 rf.Qk,.int .i64 rf.Qc,.map (some 1)],.agg #[.int .i64 (Qb.getD 0 0),.int .i64 (Qb.getD 1 0),.int .i64 (Qb.getD 2 0),.int .i64 (Qb.getD 3 0)],.int .i64 1] [.map (mapA Q7 es) es.length] (sE rf Qb es) (sD rf Qb es) (sF rf Qb es):=
 FinK.wri (c0:=RX rf Qb es) (Hb:=dY rf Qb es) (a:=2) (ws:=([1]:List Nat).zip [.map (mapA Q7 (Xl rf Qb 1 es)) (Xl rf Qb 1 es).length]) (Wf:=([1]:List Nat)) (by kernel_rfl) rfl rfl rfl rfl fun B hJ=>Hw rf Qb es hr hp he hs hJ
def dX(rf:Qe)(Qb:List Int)(es:List (F4×F4)):Qm:=[(1,.map (mapA Q7 es) es.length),(0,Xo)]
def RU(rf:Qe)(Qb:List Int)(es:List (F4×F4)):CF:=Qq YP 89 45 [.agg #[Qv 0 (Kj rf.Qa),.int .i64 rf.Qk,.int .i64 rf.Qc,.map (some 1)],.agg #[.int .i64 (Qb.getD 0 0),.int .i64 (Qb.getD 1 0),.int .i64 (Qb.getD 2 0),.int .i64 (Qb.getD 3 0)],.int .i64 2]
def n7(Qb:List Int)(es:List (F4×F4)):Array Value:=#[.int .i64 (F4.a (JW Q7 es {a:=if 0<2 then Qb.getD 0 0 else -1,b:=if 1<2 then Qb.getD 1 0 else -1,c:= -1,d:= -1})),.int .i64 (F4.b (JW Q7 es {a:=if 0<2 then Qb.getD 0 0 else -1,b:=if 1<2 then Qb.getD 1 0 else -1,c:= -1,d:= -1})),.int .i64 (F4.c (JW Q7 es {a:=if 0<2 then Qb.getD 0 0 else -1,b:=if 1<2 then Qb.getD 1 0 else -1,c:= -1,d:= -1})),.int .i64 (F4.d (JW Q7 es {a:=if 0<2 then Qb.getD 0 0 else -1,b:=if 1<2 then Qb.getD 1 0 else -1,c:= -1,d:= -1}))]
def RT(Qb:List Int):Value:=(.agg #[.int .i64 (if 0<2 then Qb.getD 0 0 else -1),.int .i64 (if 1<2 then Qb.getD 1 0 else -1),.int .i64 (-1),.int .i64 (-1)])
def Y6(rf:Qe)(Qb:List Int):=(YJ rf (Qb.getD (MM 1) 0))
def TP(rf:Qe)(Qb:List Int):Value:=(.agg #[.int .i64 (F4.a (Q2 (VL rf) (Y6 rf Qb) rf.Qa {a:=F4.a (Qz rf Qb 1),b:=F4.b (Qz rf Qb 1),c:=F4.c (Qz rf Qb 1),d:=F4.d (Qz rf Qb 1)})),.int .i64 (F4.b (Q2 (VL rf) (Y6 rf Qb) rf.Qa {a:=F4.a (Qz rf Qb 1),b:=F4.b (Qz rf Qb 1),c:=F4.c (Qz rf Qb 1),d:=F4.d (Qz rf Qb 1)})),.int .i64 (F4.c (Q2 (VL rf) (Y6 rf Qb) rf.Qa {a:=F4.a (Qz rf Qb 1),b:=F4.b (Qz rf Qb 1),c:=F4.c (Qz rf Qb 1),d:=F4.d (Qz rf Qb 1)})),.int .i64 (F4.d (Q2 (VL rf) (Y6 rf Qb) rf.Qa {a:=F4.a (Qz rf Qb 1),b:=F4.b (Qz rf Qb 1),c:=F4.c (Qz rf Qb 1),d:=F4.d (Qz rf Qb 1)}))])
def xc  :Value:=(.tuple #[.agg #[.int .i64 0,.int .i64 0,.int .i64 0,.int .i64 0],.bool false])
def n8(B:Lo)(rf:Qe)(Qb:List Int)(es:List (F4×F4)):List Prop:=[Q3 []/\Q0 YP J0 111 #[.agg #[.int .i64 (Qb.getD 0 0),.int .i64 (Qb.getD 1 0),.int .i64 (Qb.getD 2 0),.int .i64 (Qb.getD 3 0)],.int .i64 2] (RT Qb)]++([]:List Prop)
def xd(rf:Qe)(Qb:List Int)(es:List (F4×F4)):QB:=[(13,Ql.pure (RT Qb) [])]
theorem Fm(B:Lo)(rf:Qe)(Qb:List Int)(es:List (F4×F4)):CE.finK 2 (Qu YP (Q8 YP) J0 B 22 2 (RU rf Qb es) (dX rf Qb es) 2
 (xd rf Qb es++[(19,Ql.WM (Hint.look (.tuple #[.agg (n7 Qb es),.bool true])))]) 0 [] []) [(1,KS.same)] [] []=some (OO.ret (.agg (n7 Qb es)),[(1,Obj.map (mapA Q7 es) es.length)],[],
 [XW (mapA Q7 es),Pc YP 96 (mapA Q7 es) true (XL {len:=16000,tr:=Tri.set 14 (Tri.set 14 Tri.lf 25 (RT Qb)) 24 (Value.map (some 1))} 25) (.tuple #[.agg (n7 Qb es),.bool true])]++n8 B rf Qb es):=by kernel_rfl
theorem Fl(B:Lo)(rf:Qe)(Qb:List Int)(es:List (F4×F4)):CE.finK 2 (Qu YP (Q8 YP) J0 B 24 2 (RU rf Qb es) (dX rf Qb es) 2
 (xd rf Qb es++[(19,Ql.WM (Hint.look xc)),(33,Ql.wri [1] [0] [true] [] (sE rf Qb es) (sD rf Qb es) (sF rf Qb es)),(36,Ql.pure (TP rf Qb) []),(42,Ql.WM (Hint.upd (mapA Q7 (U9 Q7 (Xl rf Qb 1 es) {a:=if 0<2 then Qb.getD 0 0 else -1,b:=if 1<2 then Qb.getD 1 0 else -1,c:= -1,d:= -1} (Q2 (VL rf) (Y6 rf Qb) rf.Qa {a:=F4.a (Qz rf Qb 1),b:=F4.b (Qz rf Qb 1),c:=F4.c (Qz rf Qb 1),d:=F4.d (Qz rf Qb 1)}))) (MO (U9 Q7 (Xl rf Qb 1 es) {a:=if 0<2 then Qb.getD 0 0 else -1,b:=if 1<2 then Qb.getD 1 0 else -1,c:= -1,d:= -1} (Q2 (VL rf) (Y6 rf Qb) rf.Qa {a:=F4.a (Qz rf Qb 1),b:=F4.b (Qz rf Qb 1),c:=F4.c (Qz rf Qb 1),d:=F4.d (Qz rf Qb 1)})))))]) 0 [] []) [(1,KS.same)] [] []=some (OO.ret (TP rf Qb),[(1,Obj.map (mapA Q7 (U9 Q7 (Xl rf Qb 1 es) {a:=if 0<2 then Qb.getD 0 0 else -1,b:=if 1<2 then Qb.getD 1 0 else -1,c:= -1,d:= -1} (Q2 (VL rf) (Y6 rf Qb) rf.Qa {a:=F4.a (Qz rf Qb 1),b:=F4.b (Qz rf Qb 1),c:=F4.c (Qz rf Qb 1),d:=F4.d (Qz rf Qb 1)}))) (MO (U9 Q7 (Xl rf Qb 1 es) {a:=if 0<2 then Qb.getD 0 0 else -1,b:=if 1<2 then Qb.getD 1 0 else -1,c:= -1,d:= -1} (Q2 (VL rf) (Y6 rf Qb) rf.Qa {a:=F4.a (Qz rf Qb 1),b:=F4.b (Qz rf Qb 1),c:=F4.c (Qz rf Qb 1),d:=F4.d (Qz rf Qb 1)}))))],[],
 [XW (mapA Q7 (U9 Q7 (Xl rf Qb 1 es) {a:=if 0<2 then Qb.getD 0 0 else -1,b:=if 1<2 then Qb.getD 1 0 else -1,c:= -1,d:= -1} (Q2 (VL rf) (YJ rf (Qb.getD (MM 1) 0)) rf.Qa {a:=F4.a (Qz rf Qb 1),b:=F4.b (Qz rf Qb 1),c:=F4.c (Qz rf Qb 1),d:=F4.d (Qz rf Qb 1)}))),fY YP 96 (mapA Q7 (Xl rf Qb 1 es)) (MO (Xl rf Qb 1 es)) (XL {len:=16000,tr:=Tri.set 14 (Tri.set 14 (Tri.set 14 Tri.lf 43 (TP rf Qb)) 42 (RT Qb)) 41 (Value.map (some 1))} 42) (XL {len:=16000,tr:=Tri.set 14 (Tri.set 14 (Tri.set 14 Tri.lf 43 (TP rf Qb)) 42 (RT Qb)) 41 (Value.map (some 1))} 43) (mapA Q7 (U9 Q7 (Xl rf Qb 1 es) {a:=if 0<2 then Qb.getD 0 0 else -1,b:=if 1<2 then Qb.getD 1 0 else -1,c:= -1,d:= -1} (Q2 (VL rf) (YJ rf (Qb.getD (MM 1) 0)) rf.Qa {a:=F4.a (Qz rf Qb 1),b:=F4.b (Qz rf Qb 1),c:=F4.c (Qz rf Qb 1),d:=F4.d (Qz rf Qb 1)}))) (MO (U9 Q7 (Xl rf Qb 1 es) {a:=if 0<2 then Qb.getD 0 0 else -1,b:=if 1<2 then Qb.getD 1 0 else -1,c:= -1,d:= -1} (Q2 (VL rf) (YJ rf (Qb.getD (MM 1) 0)) rf.Qa {a:=F4.a (Qz rf Qb 1),b:=F4.b (Qz rf Qb 1),c:=F4.c (Qz rf Qb 1),d:=F4.d (Qz rf Qb 1)}))),Q3 []/\Q0 YP J0 78 #[.agg #[QJ rf.Qa.length (Qg Qj rf.Qa),.int .i64 rf.Qk,.int .i64 rf.Qc,.int .i64 (Qb.getD 0 0),.int .i64 (Qb.getD 1 0),.int .i64 (Qb.getD 2 0),.int .i64 (Qb.getD 3 0)],.agg #[.int .i64 (F4.a (Qz rf Qb 1)),.int .i64 (F4.b (Qz rf Qb 1)),.int .i64 (F4.c (Qz rf Qb 1)),.int .i64 (F4.d (Qz rf Qb 1))],.int .i64 1] (TP rf Qb),Q3 [XW (mapA Q7 es),XW (mapA Q7 (Xl rf Qb 1 es))]/\Hx (rf) (Qb) (es),Pc YP 96 (mapA Q7 es) true (XL {len:=16000,tr:=Tri.set 14 (Tri.set 14 Tri.lf 25 (RT Qb)) 24 (Value.map (some 1))} 25) xc]++n8 B rf Qb es):=by kernel_rfl
set_option maxHeartbeats 4000000 in
theorem Hu(rf:Qe)(Qb:List Int)(es:List (F4×F4))(hr:ZE rf=true)(hp:QQ rf Qb=true)(he:Pd rf es)(hs:2<=rf.Qc){B:Lo}(hJ:∀w,B.has w->J0 w):FinK YP B (RU rf Qb es) (dX rf Qb es) 2 (.ret (.agg #[.int .i64 (Qz rf Qb 2).a,.int .i64 (Qz rf Qb 2).b,.int .i64 (Qz rf Qb 2).c,.int .i64 (Qz rf Qb 2).d])) (([1]:List Nat).zip [.map (mapA Q7 (Xl rf Qb 2 es)) (Xl rf Qb 2 es).length]) [] ([1]:List Nat):=by
 have ZN:=Q6 (QH hr).1;have hpf:=(Xa hp).1;have hpg:∀j:Nat,0<=Qb.getD j 0/\Qb.getD j 0<=1000000:=fun j=>(fun h=>⟨h.1,by omega⟩) (Z2 hr hp j)
 have P5:=(VD (Qb:=Qb) hr (s:=1) (by omega)).1;have hs4:=(VD (Qb:=Qb) hr (s:=1) (by omega)).2;have hnx:=J2 (rf:=rf) (Qb:=Qb) (s:=1) (by omega);have Vb:Q3 (n8 B rf Qb es):=by
  exact⟨⟨trivial,GY (Qb.getD 0 0) (Qb.getD 1 0) (Qb.getD 2 0) (Qb.getD 3 0) (2) (by omega) (by omega)⟩,trivial⟩
 cases q0:SO Q7 es {a:=if 0<2 then Qb.getD 0 0 else -1,b:=if 1<2 then Qb.getD 1 0 else -1,c:= -1,d:= -1}with
 |true=>
  have hfo:=aZ (s:=2) hr hp he (by omega) q0;exact(GoE.finK okF hJ Qf (Q4 (by kernel_rfl)) (Qp (by kernel_rfl)) ((GoE.refl (P:=YP) (B:=B) (c0:=RU rf Qb es) (Q4 (by kernel_rfl))).widen (Wf:=((([(1,KS.same)]):List (Nat×KS)).map (·.1))) (by simp) (Qp (by kernel_rfl))) (Fm B rf Qb es)
   ⟨(by exact XJ (fun _=>by kernel_rfl)),⟨(rZ (k:={a:=if 0<2 then Qb.getD 0 0 else -1,b:=if 1<2 then Qb.getD 1 0 else -1,c:= -1,d:= -1}) (ok:=true) WV rfl q0),Vb⟩⟩).cast (by(show _=OO.ret (v4 (Qz rf Qb 2));rw[<-hfo];rfl)) (by(unfold Xl;rw[show SO Q7 es (ai Qb ((1+1:Nat):Int))=_ from q0];rfl)) (by rfl)
 |false=>
  exact(GoE.finK okF hJ Qf (Q4 (by kernel_rfl)) (Qp (by kernel_rfl)) ((GoE.refl (P:=YP) (B:=B) (c0:=RU rf Qb es) (Q4 (by kernel_rfl))).widen (Wf:=((([(1,KS.same)]):List (Nat×KS)).map (·.1))) (by simp) (Qp (by kernel_rfl))) (Fl B rf Qb es)
   ⟨(by exact XJ (fun _=>by kernel_rfl)),⟨(Hj (k:={a:=if 0<2 then Qb.getD 0 0 else -1,b:=if 1<2 then Qb.getD 1 0 else -1,c:= -1,d:= -1}) (x:=Q2 (VL rf) (YJ rf (Qb.getD (MM 1) 0)) rf.Qa {a:=F4.a (Qz rf Qb 1),b:=F4.b (Qz rf Qb 1),c:=F4.c (Qz rf Qb 1),d:=F4.d (Qz rf Qb 1)}) WV rfl),⟨⟨trivial,jj (rf) (Qb) (F4.a (Qz rf Qb 1)) (F4.b (Qz rf Qb 1)) (F4.c (Qz rf Qb 1)) (F4.d (Qz rf Qb 1)) (1) (by with_reducible assumption) (by omega) (by with_reducible assumption) (by omega) (by omega) (by with_reducible assumption) (by with_reducible assumption)⟩,⟨⟨⟨(XJ (fun _=>by kernel_rfl)),⟨(XJ (fun _=>by kernel_rfl)),trivial⟩⟩,Ik (rf) (Qb) (es) (by with_reducible assumption) (by with_reducible assumption) (by with_reducible assumption) (by omega)⟩,⟨(sd (k:={a:=if 0<2 then Qb.getD 0 0 else -1,b:=if 1<2 then Qb.getD 1 0 else -1,c:= -1,d:= -1}) (ok:=true) WV rfl rfl (by kernel_rfl) q0),Vb⟩⟩⟩⟩⟩).cast (by(show _=OO.ret (v4 (Qz rf Qb (1+1)));rw[hnx];rfl)) (by(unfold Xl;rw[show SO Q7 es (ai Qb ((1+1:Nat):Int))=_ from q0];rfl)) (by rfl)
def sB(rf:Qe)(Qb:List Int)(es:List (F4×F4)):OO:=.ret (.agg #[.int .i64 (Qz rf Qb 2).a,.int .i64 (Qz rf Qb 2).b,.int .i64 (Qz rf Qb 2).c,.int .i64 (Qz rf Qb 2).d])
def sA(rf:Qe)(Qb:List Int)(es:List (F4×F4)):List Obj:=[.map (mapA Q7 (Xl rf Qb 2 es)) (Xl rf Qb 2 es).length]
def sC(rf:Qe)(Qb:List Int)(es:List (F4×F4)):List Obj:=[]
def Hv(rf:Qe)(Qb:List Int)(es:List (F4×F4)):Prop:=WriC YP J0 89 #[.agg #[Qv 0 (Kj rf.Qa),.int .i64 rf.Qk,.int .i64 rf.Qc,.map (some 1)],.agg #[.int .i64 (Qb.getD 0 0),.int .i64 (Qb.getD 1 0),.int .i64 (Qb.getD 2 0),.int .i64 (Qb.getD 3 0)],.int .i64 2] [.map (mapA Q7 es) es.length] (sB rf Qb es) (sA rf Qb es) (sC rf Qb es)
theorem Ij(rf:Qe)(Qb:List Int)(es:List (F4×F4))(hr:ZE rf=true)(hp:QQ rf Qb=true)(he:Pd rf es)(hs:2<=rf.Qc):WriC YP J0 89 #[.agg #[Qv 0 (Kj rf.Qa),.int .i64 rf.Qk,.int .i64 rf.Qc,.map (some 1)],.agg #[.int .i64 (Qb.getD 0 0),.int .i64 (Qb.getD 1 0),.int .i64 (Qb.getD 2 0),.int .i64 (Qb.getD 3 0)],.int .i64 2] [.map (mapA Q7 es) es.length] (sB rf Qb es) (sA rf Qb es) (sC rf Qb es):=
 FinK.wri (c0:=RU rf Qb es) (Hb:=dX rf Qb es) (a:=2) (ws:=([1]:List Nat).zip [.map (mapA Q7 (Xl rf Qb 2 es)) (Xl rf Qb 2 es).length]) (Wf:=([1]:List Nat)) (by kernel_rfl) rfl rfl rfl rfl fun B hJ=>Hu rf Qb es hr hp he hs hJ
def dW(rf:Qe)(Qb:List Int)(es:List (F4×F4)):Qm:=[(1,.map (mapA Q7 es) es.length),(0,Xo)]
def RQ(rf:Qe)(Qb:List Int)(es:List (F4×F4)):CF:=Qq YP 89 45 [.agg #[Qv 0 (Kj rf.Qa),.int .i64 rf.Qk,.int .i64 rf.Qc,.map (some 1)],.agg #[.int .i64 (Qb.getD 0 0),.int .i64 (Qb.getD 1 0),.int .i64 (Qb.getD 2 0),.int .i64 (Qb.getD 3 0)],.int .i64 3]
def n5(Qb:List Int)(es:List (F4×F4)):Array Value:=#[.int .i64 (F4.a (JW Q7 es {a:=if 0<3 then Qb.getD 0 0 else -1,b:=if 1<3 then Qb.getD 1 0 else -1,c:=if 2<3 then Qb.getD 2 0 else -1,d:= -1})),.int .i64 (F4.b (JW Q7 es {a:=if 0<3 then Qb.getD 0 0 else -1,b:=if 1<3 then Qb.getD 1 0 else -1,c:=if 2<3 then Qb.getD 2 0 else -1,d:= -1})),.int .i64 (F4.c (JW Q7 es {a:=if 0<3 then Qb.getD 0 0 else -1,b:=if 1<3 then Qb.getD 1 0 else -1,c:=if 2<3 then Qb.getD 2 0 else -1,d:= -1})),.int .i64 (F4.d (JW Q7 es {a:=if 0<3 then Qb.getD 0 0 else -1,b:=if 1<3 then Qb.getD 1 0 else -1,c:=if 2<3 then Qb.getD 2 0 else -1,d:= -1}))]
def RP(Qb:List Int):Value:=(.agg #[.int .i64 (if 0<3 then Qb.getD 0 0 else -1),.int .i64 (if 1<3 then Qb.getD 1 0 else -1),.int .i64 (if 2<3 then Qb.getD 2 0 else -1),.int .i64 (-1)])
def Y5(rf:Qe)(Qb:List Int):=(YJ rf (Qb.getD (MM 2) 0))
def TO(rf:Qe)(Qb:List Int):Value:=(.agg #[.int .i64 (F4.a (Q2 (VL rf) (Y5 rf Qb) rf.Qa {a:=F4.a (Qz rf Qb 2),b:=F4.b (Qz rf Qb 2),c:=F4.c (Qz rf Qb 2),d:=F4.d (Qz rf Qb 2)})),.int .i64 (F4.b (Q2 (VL rf) (Y5 rf Qb) rf.Qa {a:=F4.a (Qz rf Qb 2),b:=F4.b (Qz rf Qb 2),c:=F4.c (Qz rf Qb 2),d:=F4.d (Qz rf Qb 2)})),.int .i64 (F4.c (Q2 (VL rf) (Y5 rf Qb) rf.Qa {a:=F4.a (Qz rf Qb 2),b:=F4.b (Qz rf Qb 2),c:=F4.c (Qz rf Qb 2),d:=F4.d (Qz rf Qb 2)})),.int .i64 (F4.d (Q2 (VL rf) (Y5 rf Qb) rf.Qa {a:=F4.a (Qz rf Qb 2),b:=F4.b (Qz rf Qb 2),c:=F4.c (Qz rf Qb 2),d:=F4.d (Qz rf Qb 2)}))])
def xa  :Value:=(.tuple #[.agg #[.int .i64 0,.int .i64 0,.int .i64 0,.int .i64 0],.bool false])
def n6(B:Lo)(rf:Qe)(Qb:List Int)(es:List (F4×F4)):List Prop:=[Q3 []/\Q0 YP J0 111 #[.agg #[.int .i64 (Qb.getD 0 0),.int .i64 (Qb.getD 1 0),.int .i64 (Qb.getD 2 0),.int .i64 (Qb.getD 3 0)],.int .i64 3] (RP Qb)]++([]:List Prop)
def xb(rf:Qe)(Qb:List Int)(es:List (F4×F4)):QB:=[(13,Ql.pure (RP Qb) [])]
theorem Fk(B:Lo)(rf:Qe)(Qb:List Int)(es:List (F4×F4)):CE.finK 2 (Qu YP (Q8 YP) J0 B 22 2 (RQ rf Qb es) (dW rf Qb es) 2
 (xb rf Qb es++[(19,Ql.WM (Hint.look (.tuple #[.agg (n5 Qb es),.bool true])))]) 0 [] []) [(1,KS.same)] [] []=some (OO.ret (.agg (n5 Qb es)),[(1,Obj.map (mapA Q7 es) es.length)],[],
 [XW (mapA Q7 es),Pc YP 96 (mapA Q7 es) true (XL {len:=16000,tr:=Tri.set 14 (Tri.set 14 Tri.lf 25 (RP Qb)) 24 (Value.map (some 1))} 25) (.tuple #[.agg (n5 Qb es),.bool true])]++n6 B rf Qb es):=by kernel_rfl
theorem Fj(B:Lo)(rf:Qe)(Qb:List Int)(es:List (F4×F4)):CE.finK 2 (Qu YP (Q8 YP) J0 B 24 2 (RQ rf Qb es) (dW rf Qb es) 2
 (xb rf Qb es++[(19,Ql.WM (Hint.look xa)),(33,Ql.wri [1] [0] [true] [] (sB rf Qb es) (sA rf Qb es) (sC rf Qb es)),(36,Ql.pure (TO rf Qb) []),(42,Ql.WM (Hint.upd (mapA Q7 (U9 Q7 (Xl rf Qb 2 es) {a:=if 0<3 then Qb.getD 0 0 else -1,b:=if 1<3 then Qb.getD 1 0 else -1,c:=if 2<3 then Qb.getD 2 0 else -1,d:= -1} (Q2 (VL rf) (Y5 rf Qb) rf.Qa {a:=F4.a (Qz rf Qb 2),b:=F4.b (Qz rf Qb 2),c:=F4.c (Qz rf Qb 2),d:=F4.d (Qz rf Qb 2)}))) (MO (U9 Q7 (Xl rf Qb 2 es) {a:=if 0<3 then Qb.getD 0 0 else -1,b:=if 1<3 then Qb.getD 1 0 else -1,c:=if 2<3 then Qb.getD 2 0 else -1,d:= -1} (Q2 (VL rf) (Y5 rf Qb) rf.Qa {a:=F4.a (Qz rf Qb 2),b:=F4.b (Qz rf Qb 2),c:=F4.c (Qz rf Qb 2),d:=F4.d (Qz rf Qb 2)})))))]) 0 [] []) [(1,KS.same)] [] []=some (OO.ret (TO rf Qb),[(1,Obj.map (mapA Q7 (U9 Q7 (Xl rf Qb 2 es) {a:=if 0<3 then Qb.getD 0 0 else -1,b:=if 1<3 then Qb.getD 1 0 else -1,c:=if 2<3 then Qb.getD 2 0 else -1,d:= -1} (Q2 (VL rf) (Y5 rf Qb) rf.Qa {a:=F4.a (Qz rf Qb 2),b:=F4.b (Qz rf Qb 2),c:=F4.c (Qz rf Qb 2),d:=F4.d (Qz rf Qb 2)}))) (MO (U9 Q7 (Xl rf Qb 2 es) {a:=if 0<3 then Qb.getD 0 0 else -1,b:=if 1<3 then Qb.getD 1 0 else -1,c:=if 2<3 then Qb.getD 2 0 else -1,d:= -1} (Q2 (VL rf) (Y5 rf Qb) rf.Qa {a:=F4.a (Qz rf Qb 2),b:=F4.b (Qz rf Qb 2),c:=F4.c (Qz rf Qb 2),d:=F4.d (Qz rf Qb 2)}))))],[],
 [XW (mapA Q7 (U9 Q7 (Xl rf Qb 2 es) {a:=if 0<3 then Qb.getD 0 0 else -1,b:=if 1<3 then Qb.getD 1 0 else -1,c:=if 2<3 then Qb.getD 2 0 else -1,d:= -1} (Q2 (VL rf) (YJ rf (Qb.getD (MM 2) 0)) rf.Qa {a:=F4.a (Qz rf Qb 2),b:=F4.b (Qz rf Qb 2),c:=F4.c (Qz rf Qb 2),d:=F4.d (Qz rf Qb 2)}))),fY YP 96 (mapA Q7 (Xl rf Qb 2 es)) (MO (Xl rf Qb 2 es)) (XL {len:=16000,tr:=Tri.set 14 (Tri.set 14 (Tri.set 14 Tri.lf 43 (TO rf Qb)) 42 (RP Qb)) 41 (Value.map (some 1))} 42) (XL {len:=16000,tr:=Tri.set 14 (Tri.set 14 (Tri.set 14 Tri.lf 43 (TO rf Qb)) 42 (RP Qb)) 41 (Value.map (some 1))} 43) (mapA Q7 (U9 Q7 (Xl rf Qb 2 es) {a:=if 0<3 then Qb.getD 0 0 else -1,b:=if 1<3 then Qb.getD 1 0 else -1,c:=if 2<3 then Qb.getD 2 0 else -1,d:= -1} (Q2 (VL rf) (YJ rf (Qb.getD (MM 2) 0)) rf.Qa {a:=F4.a (Qz rf Qb 2),b:=F4.b (Qz rf Qb 2),c:=F4.c (Qz rf Qb 2),d:=F4.d (Qz rf Qb 2)}))) (MO (U9 Q7 (Xl rf Qb 2 es) {a:=if 0<3 then Qb.getD 0 0 else -1,b:=if 1<3 then Qb.getD 1 0 else -1,c:=if 2<3 then Qb.getD 2 0 else -1,d:= -1} (Q2 (VL rf) (YJ rf (Qb.getD (MM 2) 0)) rf.Qa {a:=F4.a (Qz rf Qb 2),b:=F4.b (Qz rf Qb 2),c:=F4.c (Qz rf Qb 2),d:=F4.d (Qz rf Qb 2)}))),Q3 []/\Q0 YP J0 78 #[.agg #[QJ rf.Qa.length (Qg Qj rf.Qa),.int .i64 rf.Qk,.int .i64 rf.Qc,.int .i64 (Qb.getD 0 0),.int .i64 (Qb.getD 1 0),.int .i64 (Qb.getD 2 0),.int .i64 (Qb.getD 3 0)],.agg #[.int .i64 (F4.a (Qz rf Qb 2)),.int .i64 (F4.b (Qz rf Qb 2)),.int .i64 (F4.c (Qz rf Qb 2)),.int .i64 (F4.d (Qz rf Qb 2))],.int .i64 2] (TO rf Qb),Q3 [XW (mapA Q7 es),XW (mapA Q7 (Xl rf Qb 2 es))]/\Hv (rf) (Qb) (es),Pc YP 96 (mapA Q7 es) true (XL {len:=16000,tr:=Tri.set 14 (Tri.set 14 Tri.lf 25 (RP Qb)) 24 (Value.map (some 1))} 25) xa]++n6 B rf Qb es):=by kernel_rfl
set_option maxHeartbeats 4000000 in
theorem Hr(rf:Qe)(Qb:List Int)(es:List (F4×F4))(hr:ZE rf=true)(hp:QQ rf Qb=true)(he:Pd rf es)(hs:3<=rf.Qc){B:Lo}(hJ:∀w,B.has w->J0 w):FinK YP B (RQ rf Qb es) (dW rf Qb es) 2 (.ret (.agg #[.int .i64 (Qz rf Qb 3).a,.int .i64 (Qz rf Qb 3).b,.int .i64 (Qz rf Qb 3).c,.int .i64 (Qz rf Qb 3).d])) (([1]:List Nat).zip [.map (mapA Q7 (Xl rf Qb 3 es)) (Xl rf Qb 3 es).length]) [] ([1]:List Nat):=by
 have ZN:=Q6 (QH hr).1;have hpf:=(Xa hp).1;have hpg:∀j:Nat,0<=Qb.getD j 0/\Qb.getD j 0<=1000000:=fun j=>(fun h=>⟨h.1,by omega⟩) (Z2 hr hp j)
 have P5:=(VD (Qb:=Qb) hr (s:=2) (by omega)).1;have hs4:=(VD (Qb:=Qb) hr (s:=2) (by omega)).2;have hnx:=J2 (rf:=rf) (Qb:=Qb) (s:=2) (by omega);have Vb:Q3 (n6 B rf Qb es):=by
  exact⟨⟨trivial,GY (Qb.getD 0 0) (Qb.getD 1 0) (Qb.getD 2 0) (Qb.getD 3 0) (3) (by omega) (by omega)⟩,trivial⟩
 cases q0:SO Q7 es {a:=if 0<3 then Qb.getD 0 0 else -1,b:=if 1<3 then Qb.getD 1 0 else -1,c:=if 2<3 then Qb.getD 2 0 else -1,d:= -1}with
 |true=>
  have hfo:=aZ (s:=3) hr hp he (by omega) q0;exact(GoE.finK okF hJ Qf (Q4 (by kernel_rfl)) (Qp (by kernel_rfl)) ((GoE.refl (P:=YP) (B:=B) (c0:=RQ rf Qb es) (Q4 (by kernel_rfl))).widen (Wf:=((([(1,KS.same)]):List (Nat×KS)).map (·.1))) (by simp) (Qp (by kernel_rfl))) (Fk B rf Qb es)
   ⟨(by exact XJ (fun _=>by kernel_rfl)),⟨(rZ (k:={a:=if 0<3 then Qb.getD 0 0 else -1,b:=if 1<3 then Qb.getD 1 0 else -1,c:=if 2<3 then Qb.getD 2 0 else -1,d:= -1}) (ok:=true) WV rfl q0),Vb⟩⟩).cast (by(show _=OO.ret (v4 (Qz rf Qb 3));rw[<-hfo];rfl)) (by(unfold Xl;rw[show SO Q7 es (ai Qb ((2+1:Nat):Int))=_ from q0];rfl)) (by rfl)
 |false=>
  exact(GoE.finK okF hJ Qf (Q4 (by kernel_rfl)) (Qp (by kernel_rfl)) ((GoE.refl (P:=YP) (B:=B) (c0:=RQ rf Qb es) (Q4 (by kernel_rfl))).widen (Wf:=((([(1,KS.same)]):List (Nat×KS)).map (·.1))) (by simp) (Qp (by kernel_rfl))) (Fj B rf Qb es)
   ⟨(by exact XJ (fun _=>by kernel_rfl)),⟨(Hj (k:={a:=if 0<3 then Qb.getD 0 0 else -1,b:=if 1<3 then Qb.getD 1 0 else -1,c:=if 2<3 then Qb.getD 2 0 else -1,d:= -1}) (x:=Q2 (VL rf) (YJ rf (Qb.getD (MM 2) 0)) rf.Qa {a:=F4.a (Qz rf Qb 2),b:=F4.b (Qz rf Qb 2),c:=F4.c (Qz rf Qb 2),d:=F4.d (Qz rf Qb 2)}) WV rfl),⟨⟨trivial,jj (rf) (Qb) (F4.a (Qz rf Qb 2)) (F4.b (Qz rf Qb 2)) (F4.c (Qz rf Qb 2)) (F4.d (Qz rf Qb 2)) (2) (by with_reducible assumption) (by omega) (by with_reducible assumption) (by omega) (by omega) (by with_reducible assumption) (by with_reducible assumption)⟩,⟨⟨⟨(XJ (fun _=>by kernel_rfl)),⟨(XJ (fun _=>by kernel_rfl)),trivial⟩⟩,Ij (rf) (Qb) (es) (by with_reducible assumption) (by with_reducible assumption) (by with_reducible assumption) (by omega)⟩,⟨(sd (k:={a:=if 0<3 then Qb.getD 0 0 else -1,b:=if 1<3 then Qb.getD 1 0 else -1,c:=if 2<3 then Qb.getD 2 0 else -1,d:= -1}) (ok:=true) WV rfl rfl (by kernel_rfl) q0),Vb⟩⟩⟩⟩⟩).cast (by(show _=OO.ret (v4 (Qz rf Qb (2+1)));rw[hnx];rfl)) (by(unfold Xl;rw[show SO Q7 es (ai Qb ((2+1:Nat):Int))=_ from q0];rfl)) (by rfl)
def s8(rf:Qe)(Qb:List Int)(es:List (F4×F4)):OO:=.ret (.agg #[.int .i64 (Qz rf Qb 3).a,.int .i64 (Qz rf Qb 3).b,.int .i64 (Qz rf Qb 3).c,.int .i64 (Qz rf Qb 3).d])
def s7(rf:Qe)(Qb:List Int)(es:List (F4×F4)):List Obj:=[.map (mapA Q7 (Xl rf Qb 3 es)) (Xl rf Qb 3 es).length]
def s9(rf:Qe)(Qb:List Int)(es:List (F4×F4)):List Obj:=[]
def Ht(rf:Qe)(Qb:List Int)(es:List (F4×F4)):Prop:=WriC YP J0 89 #[.agg #[Qv 0 (Kj rf.Qa),.int .i64 rf.Qk,.int .i64 rf.Qc,.map (some 1)],.agg #[.int .i64 (Qb.getD 0 0),.int .i64 (Qb.getD 1 0),.int .i64 (Qb.getD 2 0),.int .i64 (Qb.getD 3 0)],.int .i64 3] [.map (mapA Q7 es) es.length] (s8 rf Qb es) (s7 rf Qb es) (s9 rf Qb es)
theorem Ii(rf:Qe)(Qb:List Int)(es:List (F4×F4))(hr:ZE rf=true)(hp:QQ rf Qb=true)(he:Pd rf es)(hs:3<=rf.Qc):WriC YP J0 89 #[.agg #[Qv 0 (Kj rf.Qa),.int .i64 rf.Qk,.int .i64 rf.Qc,.map (some 1)],.agg #[.int .i64 (Qb.getD 0 0),.int .i64 (Qb.getD 1 0),.int .i64 (Qb.getD 2 0),.int .i64 (Qb.getD 3 0)],.int .i64 3] [.map (mapA Q7 es) es.length] (s8 rf Qb es) (s7 rf Qb es) (s9 rf Qb es):=
 FinK.wri (c0:=RQ rf Qb es) (Hb:=dW rf Qb es) (a:=2) (ws:=([1]:List Nat).zip [.map (mapA Q7 (Xl rf Qb 3 es)) (Xl rf Qb 3 es).length]) (Wf:=([1]:List Nat)) (by kernel_rfl) rfl rfl rfl rfl fun B hJ=>Hr rf Qb es hr hp he hs hJ
def dV(rf:Qe)(Qb:List Int)(es:List (F4×F4)):Qm:=[(1,.map (mapA Q7 es) es.length),(0,Xo)]
def RO(rf:Qe)(Qb:List Int)(es:List (F4×F4)):CF:=Qq YP 89 45 [.agg #[Qv 0 (Kj rf.Qa),.int .i64 rf.Qk,.int .i64 rf.Qc,.map (some 1)],.agg #[.int .i64 (Qb.getD 0 0),.int .i64 (Qb.getD 1 0),.int .i64 (Qb.getD 2 0),.int .i64 (Qb.getD 3 0)],.int .i64 4]
def n3(Qb:List Int)(es:List (F4×F4)):Array Value:=#[.int .i64 (F4.a (JW Q7 es {a:=if 0<4 then Qb.getD 0 0 else -1,b:=if 1<4 then Qb.getD 1 0 else -1,c:=if 2<4 then Qb.getD 2 0 else -1,d:=if 3<4 then Qb.getD 3 0 else -1})),.int .i64 (F4.b (JW Q7 es {a:=if 0<4 then Qb.getD 0 0 else -1,b:=if 1<4 then Qb.getD 1 0 else -1,c:=if 2<4 then Qb.getD 2 0 else -1,d:=if 3<4 then Qb.getD 3 0 else -1})),.int .i64 (F4.c (JW Q7 es {a:=if 0<4 then Qb.getD 0 0 else -1,b:=if 1<4 then Qb.getD 1 0 else -1,c:=if 2<4 then Qb.getD 2 0 else -1,d:=if 3<4 then Qb.getD 3 0 else -1})),.int .i64 (F4.d (JW Q7 es {a:=if 0<4 then Qb.getD 0 0 else -1,b:=if 1<4 then Qb.getD 1 0 else -1,c:=if 2<4 then Qb.getD 2 0 else -1,d:=if 3<4 then Qb.getD 3 0 else -1}))]
def RN(Qb:List Int):Value:=(.agg #[.int .i64 (if 0<4 then Qb.getD 0 0 else -1),.int .i64 (if 1<4 then Qb.getD 1 0 else -1),.int .i64 (if 2<4 then Qb.getD 2 0 else -1),.int .i64 (if 3<4 then Qb.getD 3 0 else -1)])
def Y4(rf:Qe)(Qb:List Int):=(YJ rf (Qb.getD (MM 3) 0))
def TN(rf:Qe)(Qb:List Int):Value:=(.agg #[.int .i64 (F4.a (Q2 (VL rf) (Y4 rf Qb) rf.Qa {a:=F4.a (Qz rf Qb 3),b:=F4.b (Qz rf Qb 3),c:=F4.c (Qz rf Qb 3),d:=F4.d (Qz rf Qb 3)})),.int .i64 (F4.b (Q2 (VL rf) (Y4 rf Qb) rf.Qa {a:=F4.a (Qz rf Qb 3),b:=F4.b (Qz rf Qb 3),c:=F4.c (Qz rf Qb 3),d:=F4.d (Qz rf Qb 3)})),.int .i64 (F4.c (Q2 (VL rf) (Y4 rf Qb) rf.Qa {a:=F4.a (Qz rf Qb 3),b:=F4.b (Qz rf Qb 3),c:=F4.c (Qz rf Qb 3),d:=F4.d (Qz rf Qb 3)})),.int .i64 (F4.d (Q2 (VL rf) (Y4 rf Qb) rf.Qa {a:=F4.a (Qz rf Qb 3),b:=F4.b (Qz rf Qb 3),c:=F4.c (Qz rf Qb 3),d:=F4.d (Qz rf Qb 3)}))])
def wY  :Value:=(.tuple #[.agg #[.int .i64 0,.int .i64 0,.int .i64 0,.int .i64 0],.bool false])
def n4(B:Lo)(rf:Qe)(Qb:List Int)(es:List (F4×F4)):List Prop:=[Q3 []/\Q0 YP J0 111 #[.agg #[.int .i64 (Qb.getD 0 0),.int .i64 (Qb.getD 1 0),.int .i64 (Qb.getD 2 0),.int .i64 (Qb.getD 3 0)],.int .i64 4] (RN Qb)]++([]:List Prop)
def wZ(rf:Qe)(Qb:List Int)(es:List (F4×F4)):QB:=[(13,Ql.pure (RN Qb) [])]
theorem Fi(B:Lo)(rf:Qe)(Qb:List Int)(es:List (F4×F4)):CE.finK 2 (Qu YP (Q8 YP) J0 B 22 2 (RO rf Qb es) (dV rf Qb es) 2
 (wZ rf Qb es++[(19,Ql.WM (Hint.look (.tuple #[.agg (n3 Qb es),.bool true])))]) 0 [] []) [(1,KS.same)] [] []=some (OO.ret (.agg (n3 Qb es)),[(1,Obj.map (mapA Q7 es) es.length)],[],
 [XW (mapA Q7 es),Pc YP 96 (mapA Q7 es) true (XL {len:=16000,tr:=Tri.set 14 (Tri.set 14 Tri.lf 25 (RN Qb)) 24 (Value.map (some 1))} 25) (.tuple #[.agg (n3 Qb es),.bool true])]++n4 B rf Qb es):=by kernel_rfl
theorem Fh(B:Lo)(rf:Qe)(Qb:List Int)(es:List (F4×F4)):CE.finK 2 (Qu YP (Q8 YP) J0 B 24 2 (RO rf Qb es) (dV rf Qb es) 2
 (wZ rf Qb es++[(19,Ql.WM (Hint.look wY)),(33,Ql.wri [1] [0] [true] [] (s8 rf Qb es) (s7 rf Qb es) (s9 rf Qb es)),(36,Ql.pure (TN rf Qb) []),(42,Ql.WM (Hint.upd (mapA Q7 (U9 Q7 (Xl rf Qb 3 es) {a:=if 0<4 then Qb.getD 0 0 else -1,b:=if 1<4 then Qb.getD 1 0 else -1,c:=if 2<4 then Qb.getD 2 0 else -1,d:=if 3<4 then Qb.getD 3 0 else -1} (Q2 (VL rf) (Y4 rf Qb) rf.Qa {a:=F4.a (Qz rf Qb 3),b:=F4.b (Qz rf Qb 3),c:=F4.c (Qz rf Qb 3),d:=F4.d (Qz rf Qb 3)}))) (MO (U9 Q7 (Xl rf Qb 3 es) {a:=if 0<4 then Qb.getD 0 0 else -1,b:=if 1<4 then Qb.getD 1 0 else -1,c:=if 2<4 then Qb.getD 2 0 else -1,d:=if 3<4 then Qb.getD 3 0 else -1} (Q2 (VL rf) (Y4 rf Qb) rf.Qa {a:=F4.a (Qz rf Qb 3),b:=F4.b (Qz rf Qb 3),c:=F4.c (Qz rf Qb 3),d:=F4.d (Qz rf Qb 3)})))))]) 0 [] []) [(1,KS.same)] [] []=some (OO.ret (TN rf Qb),[(1,Obj.map (mapA Q7 (U9 Q7 (Xl rf Qb 3 es) {a:=if 0<4 then Qb.getD 0 0 else -1,b:=if 1<4 then Qb.getD 1 0 else -1,c:=if 2<4 then Qb.getD 2 0 else -1,d:=if 3<4 then Qb.getD 3 0 else -1} (Q2 (VL rf) (Y4 rf Qb) rf.Qa {a:=F4.a (Qz rf Qb 3),b:=F4.b (Qz rf Qb 3),c:=F4.c (Qz rf Qb 3),d:=F4.d (Qz rf Qb 3)}))) (MO (U9 Q7 (Xl rf Qb 3 es) {a:=if 0<4 then Qb.getD 0 0 else -1,b:=if 1<4 then Qb.getD 1 0 else -1,c:=if 2<4 then Qb.getD 2 0 else -1,d:=if 3<4 then Qb.getD 3 0 else -1} (Q2 (VL rf) (Y4 rf Qb) rf.Qa {a:=F4.a (Qz rf Qb 3),b:=F4.b (Qz rf Qb 3),c:=F4.c (Qz rf Qb 3),d:=F4.d (Qz rf Qb 3)}))))],[],
 [XW (mapA Q7 (U9 Q7 (Xl rf Qb 3 es) {a:=if 0<4 then Qb.getD 0 0 else -1,b:=if 1<4 then Qb.getD 1 0 else -1,c:=if 2<4 then Qb.getD 2 0 else -1,d:=if 3<4 then Qb.getD 3 0 else -1} (Q2 (VL rf) (YJ rf (Qb.getD (MM 3) 0)) rf.Qa {a:=F4.a (Qz rf Qb 3),b:=F4.b (Qz rf Qb 3),c:=F4.c (Qz rf Qb 3),d:=F4.d (Qz rf Qb 3)}))),fY YP 96 (mapA Q7 (Xl rf Qb 3 es)) (MO (Xl rf Qb 3 es)) (XL {len:=16000,tr:=Tri.set 14 (Tri.set 14 (Tri.set 14 Tri.lf 43 (TN rf Qb)) 42 (RN Qb)) 41 (Value.map (some 1))} 42) (XL {len:=16000,tr:=Tri.set 14 (Tri.set 14 (Tri.set 14 Tri.lf 43 (TN rf Qb)) 42 (RN Qb)) 41 (Value.map (some 1))} 43) (mapA Q7 (U9 Q7 (Xl rf Qb 3 es) {a:=if 0<4 then Qb.getD 0 0 else -1,b:=if 1<4 then Qb.getD 1 0 else -1,c:=if 2<4 then Qb.getD 2 0 else -1,d:=if 3<4 then Qb.getD 3 0 else -1} (Q2 (VL rf) (YJ rf (Qb.getD (MM 3) 0)) rf.Qa {a:=F4.a (Qz rf Qb 3),b:=F4.b (Qz rf Qb 3),c:=F4.c (Qz rf Qb 3),d:=F4.d (Qz rf Qb 3)}))) (MO (U9 Q7 (Xl rf Qb 3 es) {a:=if 0<4 then Qb.getD 0 0 else -1,b:=if 1<4 then Qb.getD 1 0 else -1,c:=if 2<4 then Qb.getD 2 0 else -1,d:=if 3<4 then Qb.getD 3 0 else -1} (Q2 (VL rf) (YJ rf (Qb.getD (MM 3) 0)) rf.Qa {a:=F4.a (Qz rf Qb 3),b:=F4.b (Qz rf Qb 3),c:=F4.c (Qz rf Qb 3),d:=F4.d (Qz rf Qb 3)}))),Q3 []/\Q0 YP J0 78 #[.agg #[QJ rf.Qa.length (Qg Qj rf.Qa),.int .i64 rf.Qk,.int .i64 rf.Qc,.int .i64 (Qb.getD 0 0),.int .i64 (Qb.getD 1 0),.int .i64 (Qb.getD 2 0),.int .i64 (Qb.getD 3 0)],.agg #[.int .i64 (F4.a (Qz rf Qb 3)),.int .i64 (F4.b (Qz rf Qb 3)),.int .i64 (F4.c (Qz rf Qb 3)),.int .i64 (F4.d (Qz rf Qb 3))],.int .i64 3] (TN rf Qb),Q3 [XW (mapA Q7 es),XW (mapA Q7 (Xl rf Qb 3 es))]/\Ht (rf) (Qb) (es),Pc YP 96 (mapA Q7 es) true (XL {len:=16000,tr:=Tri.set 14 (Tri.set 14 Tri.lf 25 (RN Qb)) 24 (Value.map (some 1))} 25) wY]++n4 B rf Qb es):=by kernel_rfl
set_option maxHeartbeats 4000000 in
theorem Hq(rf:Qe)(Qb:List Int)(es:List (F4×F4))(hr:ZE rf=true)(hp:QQ rf Qb=true)(he:Pd rf es)(hs:4<=rf.Qc){B:Lo}(hJ:∀w,B.has w->J0 w):FinK YP B (RO rf Qb es) (dV rf Qb es) 2 (.ret (.agg #[.int .i64 (Qz rf Qb 4).a,.int .i64 (Qz rf Qb 4).b,.int .i64 (Qz rf Qb 4).c,.int .i64 (Qz rf Qb 4).d])) (([1]:List Nat).zip [.map (mapA Q7 (Xl rf Qb 4 es)) (Xl rf Qb 4 es).length]) [] ([1]:List Nat):=by
 have ZN:=Q6 (QH hr).1;have hpf:=(Xa hp).1;have hpg:∀j:Nat,0<=Qb.getD j 0/\Qb.getD j 0<=1000000:=fun j=>(fun h=>⟨h.1,by omega⟩) (Z2 hr hp j)
 have P5:=(VD (Qb:=Qb) hr (s:=3) (by omega)).1;have hs4:=(VD (Qb:=Qb) hr (s:=3) (by omega)).2;have hnx:=J2 (rf:=rf) (Qb:=Qb) (s:=3) (by omega);have Vb:Q3 (n4 B rf Qb es):=by
  exact⟨⟨trivial,GY (Qb.getD 0 0) (Qb.getD 1 0) (Qb.getD 2 0) (Qb.getD 3 0) (4) (by omega) (by omega)⟩,trivial⟩
 cases q0:SO Q7 es {a:=if 0<4 then Qb.getD 0 0 else -1,b:=if 1<4 then Qb.getD 1 0 else -1,c:=if 2<4 then Qb.getD 2 0 else -1,d:=if 3<4 then Qb.getD 3 0 else -1}with
 |true=>
  have hfo:=aZ (s:=4) hr hp he (by omega) q0;exact(GoE.finK okF hJ Qf (Q4 (by kernel_rfl)) (Qp (by kernel_rfl)) ((GoE.refl (P:=YP) (B:=B) (c0:=RO rf Qb es) (Q4 (by kernel_rfl))).widen (Wf:=((([(1,KS.same)]):List (Nat×KS)).map (·.1))) (by simp) (Qp (by kernel_rfl))) (Fi B rf Qb es)
   ⟨(by exact XJ (fun _=>by kernel_rfl)),⟨(rZ (k:={a:=if 0<4 then Qb.getD 0 0 else -1,b:=if 1<4 then Qb.getD 1 0 else -1,c:=if 2<4 then Qb.getD 2 0 else -1,d:=if 3<4 then Qb.getD 3 0 else -1}) (ok:=true) WV rfl q0),Vb⟩⟩).cast (by(show _=OO.ret (v4 (Qz rf Qb 4));rw[<-hfo];rfl)) (by(unfold Xl;rw[show SO Q7 es (ai Qb ((3+1:Nat):Int))=_ from q0];rfl)) (by rfl)
 |false=>
  exact(GoE.finK okF hJ Qf (Q4 (by kernel_rfl)) (Qp (by kernel_rfl)) ((GoE.refl (P:=YP) (B:=B) (c0:=RO rf Qb es) (Q4 (by kernel_rfl))).widen (Wf:=((([(1,KS.same)]):List (Nat×KS)).map (·.1))) (by simp) (Qp (by kernel_rfl))) (Fh B rf Qb es)
   ⟨(by exact XJ (fun _=>by kernel_rfl)),⟨(Hj (k:={a:=if 0<4 then Qb.getD 0 0 else -1,b:=if 1<4 then Qb.getD 1 0 else -1,c:=if 2<4 then Qb.getD 2 0 else -1,d:=if 3<4 then Qb.getD 3 0 else -1}) (x:=Q2 (VL rf) (YJ rf (Qb.getD (MM 3) 0)) rf.Qa {a:=F4.a (Qz rf Qb 3),b:=F4.b (Qz rf Qb 3),c:=F4.c (Qz rf Qb 3),d:=F4.d (Qz rf Qb 3)}) WV rfl),⟨⟨trivial,jj (rf) (Qb) (F4.a (Qz rf Qb 3)) (F4.b (Qz rf Qb 3)) (F4.c (Qz rf Qb 3)) (F4.d (Qz rf Qb 3)) (3) (by with_reducible assumption) (by omega) (by with_reducible assumption) (by omega) (by omega) (by with_reducible assumption) (by with_reducible assumption)⟩,⟨⟨⟨(XJ (fun _=>by kernel_rfl)),⟨(XJ (fun _=>by kernel_rfl)),trivial⟩⟩,Ii (rf) (Qb) (es) (by with_reducible assumption) (by with_reducible assumption) (by with_reducible assumption) (by omega)⟩,⟨(sd (k:={a:=if 0<4 then Qb.getD 0 0 else -1,b:=if 1<4 then Qb.getD 1 0 else -1,c:=if 2<4 then Qb.getD 2 0 else -1,d:=if 3<4 then Qb.getD 3 0 else -1}) (ok:=true) WV rfl rfl (by kernel_rfl) q0),Vb⟩⟩⟩⟩⟩).cast (by(show _=OO.ret (v4 (Qz rf Qb (3+1)));rw[hnx];rfl)) (by(unfold Xl;rw[show SO Q7 es (ai Qb ((3+1:Nat):Int))=_ from q0];rfl)) (by rfl)
def Ho(rf:Qe)(Qb:List Int)(es:List (F4×F4)):OO:=.ret (.agg #[.int .i64 (Qz rf Qb 4).a,.int .i64 (Qz rf Qb 4).b,.int .i64 (Qz rf Qb 4).c,.int .i64 (Qz rf Qb 4).d])
def Hn(rf:Qe)(Qb:List Int)(es:List (F4×F4)):List Obj:=[.map (mapA Q7 (Xl rf Qb 4 es)) (Xl rf Qb 4 es).length]
def Hp(rf:Qe)(Qb:List Int)(es:List (F4×F4)):List Obj:=[]
theorem Mb(rf:Qe)(Qb:List Int)(es:List (F4×F4))(hr:ZE rf=true)(hp:QQ rf Qb=true)(he:Pd rf es)(hs:4<=rf.Qc):WriC YP J0 89 #[.agg #[Qv 0 (Kj rf.Qa),.int .i64 rf.Qk,.int .i64 rf.Qc,.map (some 1)],.agg #[.int .i64 (Qb.getD 0 0),.int .i64 (Qb.getD 1 0),.int .i64 (Qb.getD 2 0),.int .i64 (Qb.getD 3 0)],.int .i64 4] [.map (mapA Q7 es) es.length] (Ho rf Qb es) (Hn rf Qb es) (Hp rf Qb es):=
 FinK.wri (c0:=RO rf Qb es) (Hb:=dV rf Qb es) (a:=2) (ws:=([1]:List Nat).zip [.map (mapA Q7 (Xl rf Qb 4 es)) (Xl rf Qb 4 es).length]) (Wf:=([1]:List Nat)) (by kernel_rfl) rfl rfl rfl rfl fun B hJ=>Hq rf Qb es hr hp he hs hJ
end
end Go.Proofs.Ytncjjangllkokaa

