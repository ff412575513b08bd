/- Reef: what is taken, with a Qb. -/
import Derived.Test.YtncjjangllkokaaZRC12
set_option linter.all false
open List renaming getElem?_map->Ng,getD_eq_getElem?_getD->MU,getElem?_eq_none->Nf,length_set->Ny,getElem?_eq_getElem->NI,range->MP,set->Np,length->MO,length_replicate->Nv,replicate->MT
open Int renaming toNat->MM,tdiv_eq_ediv_of_nonneg->ND,le_refl->Nx
open Array renaming extract->Nu
open Nat renaming strongRecOn->No,lt_of_lt_of_eq->NA
open Inhabited renaming default->ML
namespace Go.Proofs.Ytncjjangllkokaa
open Go Go.CE Go.RowKit
noncomputable section
set_option maxRecDepth 100000
def Yj{β:Type}(n:Int)(f:Int->β):List β:=(aj 0 n).map f
theorem Xu{β:Type}{n:Int}{f:Int->β}:(Yj n f).length=n.toNat:=by simp[Yj,aj]
theorem J5{β:Type}{n:Int}{f:Int->β}{k:Nat}(h:k<n.toNat):(Yj n f)[k]? =some (f k):=by
 unfold Yj aj;rw[Ng,Ng,List.getElem?_range (by omega)];simp
theorem XR{β:Type}[Inhabited β]{n k:Int}{f:Int->β}(h0:0<=k)(h:k<n):(Yj n f).getD k.toNat ML=f k:=by
 rw[MU,J5 (by omega),show((k.toNat:Nat):Int)=k by omega];rfl
theorem KL{β:Type}{n:Int}{f g:Int->β}(h:∀k,0<=k->k<n->f k=g k):Yj n f=Yj n g:=by
 refine List.ext_getElem? fun k=> ?_
 by_cases hk:k<n.toNat
 ·rw[J5 hk,J5 hk,h k (by omega) (by omega)]
 ·rw[Nf (by rw[Xu];omega),Nf (by rw[Xu];omega)]
theorem tI{β:Type}{n i:Int}{f:Int->β}{v:β}(h0:0<=i)(h:i<n):(Yj n f).set i.toNat v=Yj n (fun k=>if k=i then v else f k):=by
 refine List.ext_getElem? fun k=> ?_
 by_cases hk:k<n.toNat
 ·rw[List.getElem?_set,Xu,J5 hk,J5 hk];by_cases e:i.toNat=k
  ·rw[if_pos e,if_pos (by omega),if_pos (by omega)]
  ·rw[if_neg e,if_neg (by omega)]
 ·rw[Nf (by rw[Ny,Xu];omega),Nf (by rw[Xu];omega)]
theorem dT{α β:Type}[Inhabited α]{xs:List α}{f:α->β}:xs.map f=Yj xs.length (fun k=>f (xs.getD k.toNat ML)):=by
 refine List.ext_getElem? fun k=> ?_
 by_cases hk:k<xs.length
 ·rw[J5 (by omega),Ng,NI hk];simp[MU,hk]
 ·rw[Nf (by simp;omega),Nf (by rw[Xu];omega)]
def b8(x:Qd):Span:=⟨x.UI,x.ZD⟩
def ZX(p k:Int)(x:Qd):Span:=if hasB p k then b8 x else Wy x
def Xn(ps:List Qd)(p:Int):List Span:=Yj ps.length fun k=>ZX p k (ps.getD k.toNat ML)
def Sz(ps:List Qd)(p i:Int):List Span:=Yj ps.length fun k=>if k<i then ZX p k (ps.getD k.toNat ML)else Wy (ps.getD k.toNat ML)
theorem CW{ps:List Qd}{p:Int}:ps.map Wy=Sz ps p 0:=by
 rw[dT];exact KL fun k h0 _=>by rw[if_neg (by omega)]
theorem yb{ps:List Qd}{p i:Int}(h:ps.length<=i):Sz ps p i=Xn ps p:=KL fun k h0 h1=>by rw[if_pos (by omega)]
theorem AA{ps:List Qd}{p i:Int}(h0:0<=i)(h:hasB p i=false):Sz ps p i=Sz ps p (i+1):=KL fun k g0 g1=>by
 by_cases e:k=i
 ·subst e;rw[if_neg (by omega),if_pos (by omega),ZX,h];rfl
 ·by_cases e2:k<i
  ·rw[if_pos e2,if_pos (by omega)]
  ·rw[if_neg e2,if_neg (by omega)]
theorem jO{ps:List Qd}{p i:Int}(h0:0<=i)(h1:i<ps.length)(h:hasB p i=true):(Sz ps p i).set i.toNat (b8 (ps.getD i.toNat ML))=Sz ps p (i+1):=by
 unfold Sz;rw[tI h0 h1];refine KL fun k g0 g1=> ?_
 by_cases e:k=i
 ·subst e;rw[if_pos rfl,if_pos (by omega),ZX,h];rfl
 ·rw[if_neg e];by_cases e2:k<i
  ·rw[if_pos e2,if_pos (by omega)]
  ·rw[if_neg e2,if_neg (by omega)]
theorem I6{n k:Int}(hn:0<=n):0<=((bf n k:Nat):Int)/\((bf n k:Nat):Int)<=n:=by
 have:=Gw (a:=n) (n:=k);omega
def Jl(x_:Qd):Array Value:=#[.int .i64 x_.count,.int .i64 x_.room,.int .i64 x_.WO,.int .i64 x_.Sa,.int .i64 x_.QM,.int .i64 x_.XM,.int .i64 x_.K3,.int .i64 x_.ZT,.int .i64 x_.UI,.int .i64 x_.ZD,.int .i64 x_.goal,.int .i64 x_.Vh]
def aB(rf:Qe)(Qb:List Int)(k:Int):Array Value:=#[.agg #[Qv 0 (QJ rf.Qa.length (Qg Qj rf.Qa)),.int .i64 rf.Qk,.int .i64 rf.Qc,.int .i64 (Qb.getD 0 0),.int .i64 (Qb.getD 1 0),.int .i64 (Qb.getD 2 0),.int .i64 (Qb.getD 3 0)],.int .i64 k,pA 1 0,.tuple #[],.slice none 0 0,pA 4 0,.tuple #[],pA 1 0,pA 1 0,Qv 0 (QJ rf.Qa.length (Qg Qj rf.Qa)),.slice (some {block:=3,off:=0}) rf.Qa.length 2,.agg #[Qv 0 (QJ rf.Qa.length (Qg Qj rf.Qa)),.int .i64 rf.Qk,.int .i64 rf.Qc,.int .i64 (Qb.getD 0 0),.int .i64 (Qb.getD 1 0),.int .i64 (Qb.getD 2 0),.int .i64 (Qb.getD 3 0)],.int .i64 k,Value.func (Fn.func 112) #[] #[Qv 5 (PH 0 #[QJ rf.Qa.length (Qg Qj rf.Qa),.int .i64 rf.Qk,.int .i64 rf.Qc,.int .i64 (Qb.getD 0 0),.int .i64 (Qb.getD 1 0),.int .i64 (Qb.getD 2 0),.int .i64 (Qb.getD 3 0)]),Qv 5 (PH 0 #[.int .i64 k])],.tuple #[],.tuple #[],.tuple #[],.tuple #[],.tuple #[],.tuple #[],.tuple #[],.tuple #[],.tuple #[],.tuple #[],.tuple #[],.tuple #[]]
def Rh(rf:Qe)(Qb:List Int):Array Value:=#[QJ rf.Qa.length (Qg Qj rf.Qa),.int .i64 rf.Qk,.int .i64 rf.Qc,.int .i64 (Qb.getD 0 0),.int .i64 (Qb.getD 1 0),.int .i64 (Qb.getD 2 0),.int .i64 (Qb.getD 3 0)]
def fe(rf:Qe)(i:Int):Value:=(.agg #[.int .i64 (Qd.K3 (rf.Qa.getD i.toNat ML)),.int .i64 (Qd.ZT (rf.Qa.getD i.toNat ML))])
def VT(rf:Qe)(Qb:List Int)(k:Int):Qm:=[(1,Obj.cells #[Qv 0 (QJ rf.Qa.length (Qg Qj rf.Qa)),.int .i64 rf.Qk,.int .i64 rf.Qc,.int .i64 (Qb.getD 0 0),.int .i64 (Qb.getD 1 0),.int .i64 (Qb.getD 2 0),.int .i64 (Qb.getD 3 0)] 84),(0,Obj.coro none)]
def Jn(rf:Qe)(Qb:List Int)(k:Int):CF:=⟨102,ofList 26 [Qv 0 (QJ rf.Qa.length (Qg Qj rf.Qa)),Value.func (Fn.func 105) #[] #[]],[Item.code (Xf YP 102)],[],.run,none⟩
def KB(rf:Qe)(Qb:List Int)(k:Int)(i:Int)(ys:List Span):List Value:=[Value.func (Fn.func 105) #[] #[],.slice (some {block:=3,off:=0}) rf.Qa.length 2,Qv 0 (QJ rf.Qa.length (Qg Qj rf.Qa)),.int .i64 (↑rf.Qa.length:Int),.int .i64 i]
def KA(rf:Qe)(Qb:List Int)(k:Int)(i:Int)(ys:List Span):List Obj:=[]
def WY(rf:Qe)(Qb:List Int)(k:Int)(i:Int)(ys:List Span):List Obj:=[.cells (Qg QU ys) 38 (0,0)]
def KC:List Item:=([.code [1,1,0,1,0,0],.inLoop [1,1,0,1,0,0],.inBlock 0,.code [1,1,1]]).map (it (Xf YP 102))
def Rk(rf:Qe)(Qb:List Int)(k:Int)(i:Int)(ys:List Span)(Qt:Nat->Value):Qm:=[(4,Obj.cells (Jl (rf.Qa.getD i.toNat ML)) 54),(2,Obj.coro none),(3,Obj.cells (Qg QU ys) 38),(1,Obj.cells #[Qv 0 (QJ rf.Qa.length (Qg Qj rf.Qa)),.int .i64 rf.Qk,.int .i64 rf.Qc,.int .i64 (Qb.getD 0 0),.int .i64 (Qb.getD 1 0),.int .i64 (Qb.getD 2 0),.int .i64 (Qb.getD 3 0)] 84),(0,Obj.coro none)]
def aE(rf:Qe)(Qb:List Int)(k:Int)(i:Int)(ys:List Span)(Qt:Nat->Value):CF:=⟨105,ofList 5 [.agg (Jl (rf.Qa.getD i.toNat ML))],[Item.code (Xf YP 105)],[],.run,none⟩
theorem Bp(B:Lo)(rf:Qe)(Qb:List Int)(k:Int)(i:Int)(ys:List Span)(Qt:Nat->Value):CE.finK 5 (Qu YP (Q8 YP) J0 B 6 5 (aE rf Qb k i ys Qt) (Rk rf Qb k i ys Qt) 5
 [] 0 [] []) [] [] []=some (OO.ret (.agg #[.int .i64 (Qd.K3 (rf.Qa.getD i.toNat ML)),.int .i64 (Qd.ZT (rf.Qa.getD i.toNat ML))]),[],[],
 []):=by kernel_rfl
theorem Bo(B:Lo)(rf:Qe)(Qb:List Int)(k:Int)(i:Int)(ys:List Span)(Qt:Nat->Value):CE.landA 2 (Qu YP (Q8 YP) J0 B 13 2 (VK (none) 102 26 (([1,5,11,12,13]:List Nat).zip (KB rf Qb k i ys)) Qt KC) (Wi (VT rf Qb k) 2 (([]:List Nat).zip (KA rf Qb k i ys)) (WY rf Qb k i ys)) (2+1+(WY rf Qb k i ys).length)
 [(0,WR),(2,Ql.tidx i.toNat (Jl (rf.Qa.getD i.toNat ML))),(11,Ql.call (MP 5) (OO.ret (fe rf i)) ([]++(5,Xo)::Xc 6 []) 6 []),(12,Ql.WM (Hint.idx i.toNat)),(13,Ql.WM (Hint.st (Qg QU (Np ys i.toNat {lo:=Qd.K3 (rf.Qa.getD i.toNat ML),hi:=Qd.ZT (rf.Qa.getD i.toNat ML)})))),(14,U2 (i+1))] 0 [] []) [1,5,11,12,13] [] [(3,KS.cells [] (Qg QU (Np ys i.toNat {lo:=Qd.K3 (rf.Qa.getD i.toNat ML),hi:=Qd.ZT (rf.Qa.getD i.toNat ML)})))] []=some ⟨102,26,KC,[],.run,none,KB rf Qb k (i+1) (Np ys i.toNat {lo:=Qd.K3 (rf.Qa.getD i.toNat ML),hi:=Qd.ZT (rf.Qa.getD i.toNat ML)}),([]:List Nat).zip (KA rf Qb k (i+1) (Np ys i.toNat {lo:=Qd.K3 (rf.Qa.getD i.toNat ML),hi:=Qd.ZT (rf.Qa.getD i.toNat ML)})),WY rf Qb k (i+1) (Np ys i.toNat {lo:=Qd.K3 (rf.Qa.getD i.toNat ML),hi:=Qd.ZT (rf.Qa.getD i.toNat ML)}),
 [XV 2 [] (Qg QU (Np ys i.toNat {lo:=Qd.K3 (rf.Qa.getD i.toNat ML),hi:=Qd.ZT (rf.Qa.getD i.toNat ML)})) (Qg QU (Np ys i.toNat {lo:=Qd.K3 (rf.Qa.getD i.toNat ML),hi:=Qd.ZT (rf.Qa.getD i.toNat ML)})),wq (i+1)=i+1,0+MM i*2+TypeInfo.size Try.t38<=Array.size (Qg QU ys)/\splice (Qg QU ys) (0+MM i*2) (Value.cells (XL {len:=16000,tr:=Tri.set 14 (Tri.set 14 Tri.lf 22 (fe rf i)) 23 (.pointer (some {block:=3,off:=0+MM i*2}))} 22))=Qg QU (Np ys i.toNat {lo:=Qd.K3 (rf.Qa.getD i.toNat ML),hi:=Qd.ZT (rf.Qa.getD i.toNat ML)}),i=(↑i.toNat:Int)/\MM i<MO rf.Qa,FJ YP B (aE rf Qb k i ys Qt) (Rk rf Qb k i ys Qt) 5 (OO.ret (fe rf i)) (([]++((5,Xo)::Xc (5+1) []))++Rk rf Qb k i ys Qt) 6 (MP 5) [],i=(↑i.toNat:Int)/\MM i<MO rf.Qa/\Nu (Qg Qj rf.Qa) (MM i*TypeInfo.size Try.t54) (MM i*TypeInfo.size Try.t54+TypeInfo.size Try.t54)=(Jl (rf.Qa.getD i.toNat ML)),Zq i (↑rf.Qa.length:Int)=true]⟩:=by kernel_rfl
theorem Bn(B:Lo)(rf:Qe)(Qb:List Int)(k:Int)(i:Int)(ys:List Span)(Qt:Nat->Value):CE.finK 2 (Qu YP (Q8 YP) J0 B 9 2 (VK (none) 102 26 (([1,5,11,12,13]:List Nat).zip (KB rf Qb k i ys)) Qt KC) (Wi (VT rf Qb k) 2 (([]:List Nat).zip (KA rf Qb k i ys)) (WY rf Qb k i ys)) (2+1+(WY rf Qb k i ys).length)
 [(0,Vs)] 0 [] []) [] [(3,KS.cells [] (Qg QU ys))] []=some (OO.ret (.slice (some {block:=3,off:=0}) rf.Qa.length 2),[],[Obj.cells (Qg QU ys) 38],
 [XV 2 [] (Qg QU ys) (Qg QU ys),Zq i (↑rf.Qa.length:Int)=false]):=by kernel_rfl
set_option maxHeartbeats 4000000 in
theorem rB(rf:Qe)(Qb:List Int)(k:Int)(hn:rf.Qa.length<=4)(hl:Qb.length<=4)(k0:0<=k)(k1:k<4)(hp:∀j:Nat,0<=Qb.getD j 0/\Qb.getD j 0<=1000000){B:Lo}(hJ:∀w,B.has w->J0 w):∀m:Nat,(∀(i:Int) (ys:List Span),(rf.Qa.length-i.toNat)=m->∀(h0:0<=i) (hy:ys=P7 Wy ⟨0,0⟩ rf.Qa i),(∃Qt:Nat->Value,(∀t,XP (Qt t))/\GoE YP B (Jn rf Qb k) (VT rf Qb k) 2 (VK (none) 102 26 (([1,5,11,12,13]:List Nat).zip (KB rf Qb k i ys)) Qt KC) (Wi (VT rf Qb k) 2 (([]:List Nat).zip (KA rf Qb k i ys)) (WY rf Qb k i ys)) (2+1+(WY rf Qb k i ys).length) ([]:List Nat))->FinK YP B (Jn rf Qb k) (VT rf Qb k) 2 (.ret (.slice (some ⟨3,0,none⟩) rf.Qa.length 2)) (([]:List Nat).zip ([])) ([.cells (Qg QU (rf.Qa.map Wy)) 38 (0,0)]) ([]:List Nat)):=by
 intro m0;induction m0 using No with
 |_ m0 ih0=>
  intro i ys hm0 h0 hy ⟨Qt,Kn,Zk⟩;have hyl:ys.length=rf.Qa.length:=by rw[hy];exact Sd
  by_cases q0:(i:Int)<((↑rf.Qa.length:Int))
  ·have rj1:FJ YP B (aE rf Qb k i ys Qt) (Rk rf Qb k i ys Qt) 5 (OO.ret (.agg #[.int .i64 (Qd.K3 (rf.Qa.getD i.toNat ML)),.int .i64 (Qd.ZT (rf.Qa.getD i.toNat ML))])) (([]++((5,Xo)::Xc (5+1) []))++Rk rf Qb k i ys Qt) 6 (MP 5) []:=by
    exact FinK.fjB (GoE.finK okF hJ Qf (Q4 (by kernel_rfl)) (Qp (by kernel_rfl)) ((GoE.refl (P:=YP) (B:=B) (c0:=aE rf Qb k i ys Qt) (Q4 (by kernel_rfl))).widen (Wf:=((([]):List (Nat×KS)).map (·.1))) (by simp) (Qp (by kernel_rfl))) (Bp B rf Qb k i ys Qt)
     trivial) (ex:=[3]) (by kernel_rfl) ⟨trivial,⟨trivial,⟨(Y3 (t:=38) (fl:=(0,0)) (fun x=>List.all_eq_true.1 (by rfl))),⟨trivial,⟨trivial,trivial⟩⟩⟩⟩⟩
   exact((ih0 _ (by omega)) (i+1) (Np ys i.toNat {lo:=Qd.K3 (rf.Qa.getD i.toNat ML),hi:=Qd.ZT (rf.Qa.getD i.toNat ML)}) rfl (by omega) (by(subst hy;exact Sc (f:=Wy) h0 q0))
    (GoE.landA okF hJ Qf (Q4 (by kernel_rfl)) (Qp (by kernel_rfl)) Zk (Bo B rf Qb k i ys Qt)
    (by exact⟨(QR (Xg (fun x=>List.all_eq_true.1 (by rfl)))),⟨(XH (by omega) (by omega)),⟨(by exact PX (z:=2) (k:=MM i) (fun _=>rfl) (by first|omega|(rw[Ny];omega)|(rw[Nv];omega)) rfl rfl),⟨⟨by omega,by omega⟩,⟨rj1,⟨⟨by omega,by omega,(QA (z:=12) (fun _=>rfl) (by omega))⟩,⟨(Zh q0),trivial⟩⟩⟩⟩⟩⟩⟩) (by kernel_rfl) (by kernel_rfl) (fun l hl=>by cases hl <;> decide))).cast (by rfl) (by rfl) (by rfl)
  ·exact(GoE.finK okF hJ Qf (Q4 (by kernel_rfl)) (Qp (by kernel_rfl)) Zk (Bn B rf Qb k i ys Qt)
    ⟨(QR (Xg (fun x=>List.all_eq_true.1 (by rfl)))),⟨(Zr (Int.not_lt.1 q0)),trivial⟩⟩).cast (by rfl) (by rfl) (by(rw[hy,Se (by omega)];done))

theorem Bq(B:Lo)(rf:Qe)(Qb:List Int)(k:Int):CE.landA 2 (Qu YP (Q8 YP) J0 B 9 2 (Jn rf Qb k) (VT rf Qb k) 2
 [(3,Ql.WM (Hint.mk rf.Qa.length (Qg (Ul [.int .i64 0,.int .i64 0]) (MT rf.Qa.length ()))))] 0 [] []) [1,5,11,12,13] [] [(2,KS.rows [] [] [] (Qg QU (MT rf.Qa.length {lo:=0,hi:=0})))] []=some ⟨102,26,KC,[],.run,none,KB rf Qb k (0) (MT rf.Qa.length {lo:=0,hi:=0}),([]:List Nat).zip (KA rf Qb k (0) (MT rf.Qa.length {lo:=0,hi:=0})),WY rf Qb k (0) (MT rf.Qa.length {lo:=0,hi:=0}),
 [Zj 2 [] [] [] (Qg (Ul [.int .i64 0,.int .i64 0]) (MT rf.Qa.length ())) (Qg QU (MT rf.Qa.length {lo:=0,hi:=0})),Si YP 36 (XL {len:=16000,tr:=Tri.set 14 Tri.lf 9 (.int .i64 (↑rf.Qa.length:Int))} 9) (XL {len:=16000,tr:=Tri.set 14 Tri.lf 9 (.int .i64 (↑rf.Qa.length:Int))} 9)=some (38,Qg (Ul [.int .i64 0,.int .i64 0]) (MT rf.Qa.length ()),MO rf.Qa,TypeInfo.size Try.t38)]⟩:=by kernel_rfl
def Rj(rf:Qe)(Qb:List Int)(k:Int):Qm:=[(4,Obj.cells #[.slice (some {block:=3,off:=0}) rf.Qa.length 2] 36),(2,Obj.coro none),(3,Obj.cells (Qg QU (List.map Wy rf.Qa)) 38),(1,Obj.cells #[Qv 0 (QJ rf.Qa.length (Qg Qj rf.Qa)),.int .i64 rf.Qk,.int .i64 rf.Qc,.int .i64 (Qb.getD 0 0),.int .i64 (Qb.getD 1 0),.int .i64 (Qb.getD 2 0),.int .i64 (Qb.getD 3 0)] 84),(0,Obj.coro none)]
def aD(rf:Qe)(Qb:List Int)(k:Int):CF:=⟨91,ofList 6 [.agg #[Qv 0 (QJ rf.Qa.length (Qg Qj rf.Qa)),.int .i64 rf.Qk,.int .i64 rf.Qc,.int .i64 (Qb.getD 0 0),.int .i64 (Qb.getD 1 0),.int .i64 (Qb.getD 2 0),.int .i64 (Qb.getD 3 0)],.int .i64 k],[Item.code (Xf YP 91)],[],.run,none⟩
theorem Bm(B:Lo)(rf:Qe)(Qb:List Int)(k:Int):CE.finK 5 (Qu YP (Q8 YP) J0 B 6 5 (aD rf Qb k) (Rj rf Qb k) 5
 [] 0 [] []) [] [] [{k:=5,rs:=[0],cs:=#[QJ rf.Qa.length (Qg Qj rf.Qa),.int .i64 rf.Qk,.int .i64 rf.Qc,.int .i64 (Qb.getD 0 0),.int .i64 (Qb.getD 1 0),.int .i64 (Qb.getD 2 0),.int .i64 (Qb.getD 3 0)]},{k:=6,rs:=[],cs:=#[.int .i64 k]}]=some (OO.ret (Value.func (Fn.func 112) #[] #[Qv 5 (PH 0 #[QJ rf.Qa.length (Qg Qj rf.Qa),.int .i64 rf.Qk,.int .i64 rf.Qc,.int .i64 (Qb.getD 0 0),.int .i64 (Qb.getD 1 0),.int .i64 (Qb.getD 2 0),.int .i64 (Qb.getD 3 0)]),Qv 5 (PH 0 #[.int .i64 k])]),[],[],
 [ZY (Fz.rs {k:=5,rs:=[0],cs:=(Rh rf Qb)}) #[Qv 0 (QJ rf.Qa.length (Qg Qj rf.Qa)),.int .i64 rf.Qk,.int .i64 rf.Qc,.int .i64 (Qb.getD 0 0),.int .i64 (Qb.getD 1 0),.int .i64 (Qb.getD 2 0),.int .i64 (Qb.getD 3 0)] (Fz.cs {k:=5,rs:=[0],cs:=(Rh rf Qb)}),ZY (Fz.rs {k:=6,rs:=[],cs:=#[.int .i64 k]}) #[.int .i64 k] (Fz.cs {k:=6,rs:=[],cs:=#[.int .i64 k]})]):=by kernel_rfl
def Vl(rf:Qe)(Qb:List Int)(k:Int):Qm:=[(7,Obj.loop {state:=LoopState.ready,pending:=none,fn:=84,tmps:=#[.agg #[Qv 0 (QJ rf.Qa.length (Qg Qj rf.Qa)),.int .i64 rf.Qk,.int .i64 rf.Qc,.int .i64 (Qb.getD 0 0),.int .i64 (Qb.getD 1 0),.int .i64 (Qb.getD 2 0),.int .i64 (Qb.getD 3 0)],.int .i64 k,pA 1 0,.tuple #[],.slice none 0 0,pA 4 0,.tuple #[],pA 1 0,pA 1 0,Qv 0 (QJ rf.Qa.length (Qg Qj rf.Qa)),.slice (some {block:=3,off:=0}) rf.Qa.length 2,.agg #[Qv 0 (QJ rf.Qa.length (Qg Qj rf.Qa)),.int .i64 rf.Qk,.int .i64 rf.Qc,.int .i64 (Qb.getD 0 0),.int .i64 (Qb.getD 1 0),.int .i64 (Qb.getD 2 0),.int .i64 (Qb.getD 3 0)],.int .i64 k,Value.func (Fn.func 112) #[] #[Qv 5 (PH 0 #[QJ rf.Qa.length (Qg Qj rf.Qa),.int .i64 rf.Qk,.int .i64 rf.Qc,.int .i64 (Qb.getD 0 0),.int .i64 (Qb.getD 1 0),.int .i64 (Qb.getD 2 0),.int .i64 (Qb.getD 3 0)]),Qv 5 (PH 0 #[.int .i64 k])],.tuple #[],.tuple #[],.tuple #[],.tuple #[],.tuple #[],.tuple #[],.tuple #[],.tuple #[],.tuple #[],.tuple #[],.tuple #[],.tuple #[]],params:=#[14],assign:=Sn (Xf YP 84) [1,1,0,1,0,0],body:=Sn (Xf YP 84) [1,1,0,1,0,1],defers:=6}),(6,Obj.deferred (some [])),(5,Obj.coro none),(4,Obj.cells #[.slice (some {block:=3,off:=0}) rf.Qa.length 2] 36),(2,Obj.coro none),(3,Obj.cells (Qg QU (List.map Wy rf.Qa)) 38),(1,Obj.cells #[Qv 0 (QJ rf.Qa.length (Qg Qj rf.Qa)),.int .i64 rf.Qk,.int .i64 rf.Qc,.int .i64 (Qb.getD 0 0),.int .i64 (Qb.getD 1 0),.int .i64 (Qb.getD 2 0),.int .i64 (Qb.getD 3 0)] 84),(0,Obj.coro none)]
def Jm(rf:Qe)(Qb:List Int)(k:Int):CF:=⟨112,ofList 27 [Value.func (Fn.yield 7) #[] #[],Qv 5 (PH 0 #[QJ rf.Qa.length (Qg Qj rf.Qa),.int .i64 rf.Qk,.int .i64 rf.Qc,.int .i64 (Qb.getD 0 0),.int .i64 (Qb.getD 1 0),.int .i64 (Qb.getD 2 0),.int .i64 (Qb.getD 3 0)]),Qv 5 (PH 0 #[.int .i64 k])],[Item.code (Xf YP 112)],[],.run,none⟩
def V4(rf:Qe)(Qb:List Int)(k:Int)(i:Int)(ys:List Span):List Value:=[Value.func (Fn.yield 7) #[] #[],Qv 5 (PH 0 #[QJ rf.Qa.length (Qg Qj rf.Qa),.int .i64 rf.Qk,.int .i64 rf.Qc,.int .i64 (Qb.getD 0 0),.int .i64 (Qb.getD 1 0),.int .i64 (Qb.getD 2 0),.int .i64 (Qb.getD 3 0)]),Qv 5 (PH 0 #[.int .i64 k]),.int .i64 (↑rf.Qa.length:Int),.int .i64 i]
def V3(rf:Qe)(Qb:List Int)(k:Int)(i:Int)(ys:List Span):List Obj:=[Obj.loop {state:=LoopState.ready,pending:=none,fn:=84,tmps:=#[.agg #[Qv 0 (QJ rf.Qa.length (Qg Qj rf.Qa)),.int .i64 rf.Qk,.int .i64 rf.Qc,.int .i64 (Qb.getD 0 0),.int .i64 (Qb.getD 1 0),.int .i64 (Qb.getD 2 0),.int .i64 (Qb.getD 3 0)],.int .i64 k,pA 1 0,.tuple #[],.slice none 0 0,pA 4 0,.tuple #[],pA 1 0,pA 1 0,Qv 0 (QJ rf.Qa.length (Qg Qj rf.Qa)),.slice (some {block:=3,off:=0}) rf.Qa.length 2,.agg #[Qv 0 (QJ rf.Qa.length (Qg Qj rf.Qa)),.int .i64 rf.Qk,.int .i64 rf.Qc,.int .i64 (Qb.getD 0 0),.int .i64 (Qb.getD 1 0),.int .i64 (Qb.getD 2 0),.int .i64 (Qb.getD 3 0)],.int .i64 k,Value.func (Fn.func 112) #[] #[Qv 5 (PH 0 #[QJ rf.Qa.length (Qg Qj rf.Qa),.int .i64 rf.Qk,.int .i64 rf.Qc,.int .i64 (Qb.getD 0 0),.int .i64 (Qb.getD 1 0),.int .i64 (Qb.getD 2 0),.int .i64 (Qb.getD 3 0)]),Qv 5 (PH 0 #[.int .i64 k])],.tuple #[],.tuple #[],.tuple #[],.tuple #[],.tuple #[],.tuple #[],.tuple #[],.tuple #[],.tuple #[],.tuple #[],.tuple #[],.tuple #[]],params:=#[14],assign:=Sn (Xf YP 84) [1,1,0,1,0,0],body:=Sn (Xf YP 84) [1,1,0,1,0,1],defers:=6},.cells (Qg QU ys) 38 (0,0)]
def ZI(rf:Qe)(Qb:List Int)(k:Int)(i:Int)(ys:List Span):List Obj:=[]
def V5:List Item:=([.code [1,0,0],.inLoop [1,0,0],.inBlock 0]).map (it (Xf YP 112))
def ff(B:Lo)(rf:Qe)(Qb:List Int)(k:Int)(i:Int)(ys:List Span)(Qt:Nat->Value):List Prop:=[o4 YP BinOp.and 3 (XL {len:=16000,tr:=Tri.set 14 Tri.lf 17 (.int .i64 (↑(bf (Qi [Qb.getD 0 0,Qb.getD 1 0,Qb.getD 2 0,Qb.getD 3 0] k.toNat) i):Int))} 17) (.int .i64 1) (.int .i64 (↑(tn (↑(bf (Qi [Qb.getD 0 0,Qb.getD 1 0,Qb.getD 2 0,Qb.getD 3 0] k.toNat) i):Int) 1):Int)),o4 YP BinOp.shr 3 (XL {len:=16000,tr:=Tri.set 14 (Tri.set 14 Tri.lf 16 (.int .i64 i)) 15 (.int .i64 (Qi [Qb.getD 0 0,Qb.getD 1 0,Qb.getD 2 0,Qb.getD 3 0] k.toNat))} 15) (XL {len:=16000,tr:=Tri.set 14 (Tri.set 14 Tri.lf 16 (.int .i64 i)) 15 (.int .i64 (Qi [Qb.getD 0 0,Qb.getD 1 0,Qb.getD 2 0,Qb.getD 3 0] k.toNat))} 16) (.int .i64 (↑(bf (Qi [Qb.getD 0 0,Qb.getD 1 0,Qb.getD 2 0,Qb.getD 3 0] k.toNat) i):Int)),k=(↑k.toNat:Int)/\MM k<4/\Nu (Rh rf Qb) (3+MM k*TypeInfo.size Try.t3) (3+MM k*TypeInfo.size Try.t3+TypeInfo.size Try.t3)=#[.int .i64 (Qi [Qb.getD 0 0,Qb.getD 1 0,Qb.getD 2 0,Qb.getD 3 0] k.toNat)],Zq i (↑rf.Qa.length:Int)=true]++([]:List Prop)
def pO(rf:Qe)(Qb:List Int)(k:Int)(i:Int)(ys:List Span)(Qt:Nat->Value):QB:=[(0,WR),(5,Ql.tarr k.toNat #[.int .i64 (Qi [Qb.getD 0 0,Qb.getD 1 0,Qb.getD 2 0,Qb.getD 3 0] k.toNat)]),(8,Ql.bin (.int .i64 (↑(bf (Qi [Qb.getD 0 0,Qb.getD 1 0,Qb.getD 2 0,Qb.getD 3 0] k.toNat) i):Int))),(9,Ql.bin (.int .i64 (↑(tn (↑(bf (Qi [Qb.getD 0 0,Qb.getD 1 0,Qb.getD 2 0,Qb.getD 3 0] k.toNat) i):Int) 1):Int)))]
def Ri(rf:Qe)(Qb:List Int)(k:Int)(i:Int)(ys:List Span)(Qt:Nat->Value):Qm:=[(7,Obj.loop {state:=LoopState.ready,pending:=none,fn:=84,tmps:=#[.agg #[Qv 0 (QJ rf.Qa.length (Qg Qj rf.Qa)),.int .i64 rf.Qk,.int .i64 rf.Qc,.int .i64 (Qb.getD 0 0),.int .i64 (Qb.getD 1 0),.int .i64 (Qb.getD 2 0),.int .i64 (Qb.getD 3 0)],.int .i64 k,pA 1 0,.tuple #[],.slice none 0 0,pA 4 0,.tuple #[],pA 1 0,pA 1 0,Qv 0 (QJ rf.Qa.length (Qg Qj rf.Qa)),.slice (some {block:=3,off:=0}) rf.Qa.length 2,.agg #[Qv 0 (QJ rf.Qa.length (Qg Qj rf.Qa)),.int .i64 rf.Qk,.int .i64 rf.Qc,.int .i64 (Qb.getD 0 0),.int .i64 (Qb.getD 1 0),.int .i64 (Qb.getD 2 0),.int .i64 (Qb.getD 3 0)],.int .i64 k,Value.func (Fn.func 112) #[] #[Qv 5 (PH 0 #[QJ rf.Qa.length (Qg Qj rf.Qa),.int .i64 rf.Qk,.int .i64 rf.Qc,.int .i64 (Qb.getD 0 0),.int .i64 (Qb.getD 1 0),.int .i64 (Qb.getD 2 0),.int .i64 (Qb.getD 3 0)]),Qv 5 (PH 0 #[.int .i64 k])],.tuple #[],.tuple #[],.tuple #[],.tuple #[],.tuple #[],.tuple #[],.tuple #[],.tuple #[],.tuple #[],.tuple #[],.tuple #[],.tuple #[]],params:=#[14],assign:=Sn (Xf YP 84) [1,1,0,1,0,0],body:=Sn (Xf YP 84) [1,1,0,1,0,1],defers:=6}),(3,Obj.cells (Qg QU ys) 38),(8,Obj.coro none),(7,Obj.loop {state:=LoopState.ready,pending:=none,fn:=84,tmps:=#[.agg #[Qv 0 (QJ rf.Qa.length (Qg Qj rf.Qa)),.int .i64 rf.Qk,.int .i64 rf.Qc,.int .i64 (Qb.getD 0 0),.int .i64 (Qb.getD 1 0),.int .i64 (Qb.getD 2 0),.int .i64 (Qb.getD 3 0)],.int .i64 k,pA 1 0,.tuple #[],.slice none 0 0,pA 4 0,.tuple #[],pA 1 0,pA 1 0,Qv 0 (QJ rf.Qa.length (Qg Qj rf.Qa)),.slice (some {block:=3,off:=0}) rf.Qa.length 2,.agg #[Qv 0 (QJ rf.Qa.length (Qg Qj rf.Qa)),.int .i64 rf.Qk,.int .i64 rf.Qc,.int .i64 (Qb.getD 0 0),.int .i64 (Qb.getD 1 0),.int .i64 (Qb.getD 2 0),.int .i64 (Qb.getD 3 0)],.int .i64 k,Value.func (Fn.func 112) #[] #[Qv 5 (PH 0 #[QJ rf.Qa.length (Qg Qj rf.Qa),.int .i64 rf.Qk,.int .i64 rf.Qc,.int .i64 (Qb.getD 0 0),.int .i64 (Qb.getD 1 0),.int .i64 (Qb.getD 2 0),.int .i64 (Qb.getD 3 0)]),Qv 5 (PH 0 #[.int .i64 k])],.tuple #[],.tuple #[],.tuple #[],.tuple #[],.tuple #[],.tuple #[],.tuple #[],.tuple #[],.tuple #[],.tuple #[],.tuple #[],.tuple #[]],params:=#[14],assign:=Sn (Xf YP 84) [1,1,0,1,0,0],body:=Sn (Xf YP 84) [1,1,0,1,0,1],defers:=6}),(6,Obj.deferred (some [])),(5,Obj.coro none),(4,Obj.cells #[.slice (some {block:=3,off:=0}) rf.Qa.length 2] 36),(2,Obj.coro none),(3,Obj.cells (Qg QU (List.map Wy rf.Qa)) 38),(1,Obj.cells #[Qv 0 (QJ rf.Qa.length (Qg Qj rf.Qa)),.int .i64 rf.Qk,.int .i64 rf.Qc,.int .i64 (Qb.getD 0 0),.int .i64 (Qb.getD 1 0),.int .i64 (Qb.getD 2 0),.int .i64 (Qb.getD 3 0)] 84),(0,Obj.coro none)]
def aC(rf:Qe)(Qb:List Int)(k:Int)(i:Int)(ys:List Span)(Qt:Nat->Value):CF:=⟨84,ofList 26 [.agg #[Qv 0 (QJ rf.Qa.length (Qg Qj rf.Qa)),.int .i64 rf.Qk,.int .i64 rf.Qc,.int .i64 (Qb.getD 0 0),.int .i64 (Qb.getD 1 0),.int .i64 (Qb.getD 2 0),.int .i64 (Qb.getD 3 0)],.int .i64 k,pA 1 0,.tuple #[],.slice none 0 0,pA 4 0,.tuple #[],pA 1 0,pA 1 0,Qv 0 (QJ rf.Qa.length (Qg Qj rf.Qa)),.slice (some {block:=3,off:=0}) rf.Qa.length 2,.agg #[Qv 0 (QJ rf.Qa.length (Qg Qj rf.Qa)),.int .i64 rf.Qk,.int .i64 rf.Qc,.int .i64 (Qb.getD 0 0),.int .i64 (Qb.getD 1 0),.int .i64 (Qb.getD 2 0),.int .i64 (Qb.getD 3 0)],.int .i64 k,Value.func (Fn.func 112) #[] #[Qv 5 (PH 0 #[QJ rf.Qa.length (Qg Qj rf.Qa),.int .i64 rf.Qk,.int .i64 rf.Qc,.int .i64 (Qb.getD 0 0),.int .i64 (Qb.getD 1 0),.int .i64 (Qb.getD 2 0),.int .i64 (Qb.getD 3 0)]),Qv 5 (PH 0 #[.int .i64 k])],.int .i64 i,.tuple #[],.tuple #[],.tuple #[],.tuple #[],.tuple #[],.tuple #[],.tuple #[],.tuple #[],.tuple #[],.tuple #[],.tuple #[]],[Item.code (Sn (Xf YP 84) [1,1,0,1,0,0]),Item.beginRound,Item.code (Sn (Xf YP 84) [1,1,0,1,0,1])],[],.run,some 7⟩
theorem Bk(B:Lo)(rf:Qe)(Qb:List Int)(k:Int)(i:Int)(ys:List Span)(Qt:Nat->Value):CE.finK 9 (Qu YP (Q8 YP) J0 B 6 9 (aC rf Qb k i ys Qt) (Ri rf Qb k i ys Qt) 9
 [(7,Ql.tidx i.toNat (Jl (rf.Qa.getD i.toNat ML))),(10,Ql.WM (Hint.idx i.toNat)),(11,Ql.WM (Hint.st (Qg QU (Np ys i.toNat {lo:=Qd.UI (rf.Qa.getD i.toNat ML),hi:=Qd.ZD (rf.Qa.getD i.toNat ML)}))))] 0 [] []) [(7,KS.auto),(3,KS.cells [] (Qg QU (Np ys i.toNat {lo:=Qd.UI (rf.Qa.getD i.toNat ML),hi:=Qd.ZD (rf.Qa.getD i.toNat ML)})))] [] []=some (OO.ret (.bool true),[(7,Obj.loop {state:=LoopState.ready,pending:=none,fn:=84,tmps:=#[.agg #[Qv 0 (QJ rf.Qa.length (Qg Qj rf.Qa)),.int .i64 rf.Qk,.int .i64 rf.Qc,.int .i64 (Qb.getD 0 0),.int .i64 (Qb.getD 1 0),.int .i64 (Qb.getD 2 0),.int .i64 (Qb.getD 3 0)],.int .i64 k,pA 1 0,.tuple #[],.slice none 0 0,pA 4 0,.tuple #[],pA 1 0,pA 1 0,Qv 0 (QJ rf.Qa.length (Qg Qj rf.Qa)),.slice (some {block:=3,off:=0}) rf.Qa.length 2,.agg #[Qv 0 (QJ rf.Qa.length (Qg Qj rf.Qa)),.int .i64 rf.Qk,.int .i64 rf.Qc,.int .i64 (Qb.getD 0 0),.int .i64 (Qb.getD 1 0),.int .i64 (Qb.getD 2 0),.int .i64 (Qb.getD 3 0)],.int .i64 k,Value.func (Fn.func 112) #[] #[Qv 5 (PH 0 #[QJ rf.Qa.length (Qg Qj rf.Qa),.int .i64 rf.Qk,.int .i64 rf.Qc,.int .i64 (Qb.getD 0 0),.int .i64 (Qb.getD 1 0),.int .i64 (Qb.getD 2 0),.int .i64 (Qb.getD 3 0)]),Qv 5 (PH 0 #[.int .i64 k])],.tuple #[],.tuple #[],.tuple #[],.tuple #[],.tuple #[],.tuple #[],.tuple #[],.tuple #[],.tuple #[],.tuple #[],.tuple #[],.tuple #[]],params:=#[14],assign:=Sn (Xf YP 84) [1,1,0,1,0,0],body:=Sn (Xf YP 84) [1,1,0,1,0,1],defers:=6}),(3,Obj.cells (Qg QU (Np ys i.toNat {lo:=Qd.UI (rf.Qa.getD i.toNat ML),hi:=Qd.ZD (rf.Qa.getD i.toNat ML)})) 38)],[],
 [XV 9 [] (Qg QU (Np ys i.toNat {lo:=Qd.UI (rf.Qa.getD i.toNat ML),hi:=Qd.ZD (rf.Qa.getD i.toNat ML)})) (Qg QU (Np ys i.toNat {lo:=Qd.UI (rf.Qa.getD i.toNat ML),hi:=Qd.ZD (rf.Qa.getD i.toNat ML)})),0+MM i*2+TypeInfo.size Try.t38<=Array.size (Qg QU ys)/\splice (Qg QU ys) (0+MM i*2) (Value.cells (XL {len:=16000,tr:=Tri.set 14 (Tri.set 14 Tri.lf 23 (.agg #[.int .i64 (Qd.UI (rf.Qa.getD i.toNat ML)),.int .i64 (Qd.ZD (rf.Qa.getD i.toNat ML))])) 24 (.pointer (some {block:=3,off:=0+MM i*2}))} 23))=Qg QU (Np ys i.toNat {lo:=Qd.UI (rf.Qa.getD i.toNat ML),hi:=Qd.ZD (rf.Qa.getD i.toNat ML)}),i=(↑i.toNat:Int)/\MM i<MO rf.Qa,i=(↑i.toNat:Int)/\MM i<MO rf.Qa/\Nu (Qg Qj rf.Qa) (MM i*TypeInfo.size Try.t54) (MM i*TypeInfo.size Try.t54+TypeInfo.size Try.t54)=(Jl (rf.Qa.getD i.toNat ML))]):=by kernel_rfl
theorem Bj(B:Lo)(rf:Qe)(Qb:List Int)(k:Int)(i:Int)(ys:List Span)(Qt:Nat->Value):CE.landA 8 (Qu YP (Q8 YP) J0 B 16 8 (VK (none) 112 27 (([0,1,2,8,9]:List Nat).zip (V4 rf Qb k i ys)) Qt V5) (Wi (Vl rf Qb k) 8 (([7,3]:List Nat).zip (V3 rf Qb k i ys)) (ZI rf Qb k i ys)) (8+1+(ZI rf Qb k i ys).length)
 (pO rf Qb k i ys Qt++[(10,WR),(14,Ql.call (MP 9) (OO.ret (.bool true)) ([(7,Obj.loop {state:=LoopState.ready,pending:=none,fn:=84,tmps:=(aB rf Qb k),params:=#[14],assign:=Sn (Xf YP 84) [1,1,0,1,0,0],body:=Sn (Xf YP 84) [1,1,0,1,0,1],defers:=6}),(3,Obj.cells (Qg QU (Np ys i.toNat {lo:=Qd.UI (rf.Qa.getD i.toNat ML),hi:=Qd.ZD (rf.Qa.getD i.toNat ML)})) 38)]++(9,Xo)::Xc 10 []) 10 [7,3]),(17,U2 (i+1))]) 0 [] []) [0,1,2,8,9] [(7,KS.auto),(3,KS.cells [] (Qg QU (Np ys i.toNat {lo:=Qd.UI (rf.Qa.getD i.toNat ML),hi:=Qd.ZD (rf.Qa.getD i.toNat ML)})))] [] []=some ⟨112,27,V5,[],.run,none,V4 rf Qb k (i+1) (Np ys i.toNat {lo:=Qd.UI (rf.Qa.getD i.toNat ML),hi:=Qd.ZD (rf.Qa.getD i.toNat ML)}),([7,3]:List Nat).zip (V3 rf Qb k (i+1) (Np ys i.toNat {lo:=Qd.UI (rf.Qa.getD i.toNat ML),hi:=Qd.ZD (rf.Qa.getD i.toNat ML)})),ZI rf Qb k (i+1) (Np ys i.toNat {lo:=Qd.UI (rf.Qa.getD i.toNat ML),hi:=Qd.ZD (rf.Qa.getD i.toNat ML)}),
 [XV 8 [] (Qg QU (Np ys i.toNat {lo:=Qd.UI (rf.Qa.getD i.toNat ML),hi:=Qd.ZD (rf.Qa.getD i.toNat ML)})) (Qg QU (Np ys i.toNat {lo:=Qd.UI (rf.Qa.getD i.toNat ML),hi:=Qd.ZD (rf.Qa.getD i.toNat ML)})),wq (i+1)=i+1,FJ YP B (aC rf Qb k i ys Qt) (Ri rf Qb k i ys Qt) 9 (OO.ret (.bool true)) (([(7,Obj.loop {state:=LoopState.ready,pending:=none,fn:=84,tmps:=(aB rf Qb k),params:=#[14],assign:=Sn (Xf YP 84) [1,1,0,1,0,0],body:=Sn (Xf YP 84) [1,1,0,1,0,1],defers:=6}),(3,Obj.cells (Qg QU (Np ys i.toNat {lo:=Qd.UI (rf.Qa.getD i.toNat ML),hi:=Qd.ZD (rf.Qa.getD i.toNat ML)})) 38)]++((9,Xo)::Xc (9+1) []))++Ri rf Qb k i ys Qt) 10 (MP 9) [7,3],YI (↑(tn (↑(bf (Qi [Qb.getD 0 0,Qb.getD 1 0,Qb.getD 2 0,Qb.getD 3 0] k.toNat) i):Int) 1):Int) 1=true]++ff B rf Qb k i ys Qt⟩:=by kernel_rfl
theorem Bi(B:Lo)(rf:Qe)(Qb:List Int)(k:Int)(i:Int)(ys:List Span)(Qt:Nat->Value):CE.landA 8 (Qu YP (Q8 YP) J0 B 16 8 (VK (none) 112 27 (([0,1,2,8,9]:List Nat).zip (V4 rf Qb k i ys)) Qt V5) (Wi (Vl rf Qb k) 8 (([7,3]:List Nat).zip (V3 rf Qb k i ys)) (ZI rf Qb k i ys)) (8+1+(ZI rf Qb k i ys).length)
 (pO rf Qb k i ys Qt++[(10,Vs),(17,U2 (i+1))]) 0 [] []) [0,1,2,8,9] [(7,KS.auto),(3,KS.cells [] (Qg QU ys))] [] []=some ⟨112,27,V5,[],.run,none,V4 rf Qb k (i+1) (ys),([7,3]:List Nat).zip (V3 rf Qb k (i+1) (ys)),ZI rf Qb k (i+1) (ys),
 [XV 8 [] (Qg QU ys) (Qg QU ys),wq (i+1)=i+1,YI (↑(tn (↑(bf (Qi [Qb.getD 0 0,Qb.getD 1 0,Qb.getD 2 0,Qb.getD 3 0] k.toNat) i):Int) 1):Int) 1=false]++ff B rf Qb k i ys Qt⟩:=by kernel_rfl
theorem Bh(B:Lo)(rf:Qe)(Qb:List Int)(k:Int)(i:Int)(ys:List Span)(Qt:Nat->Value):CE.finK 8 (Qu YP (Q8 YP) J0 B 7 8 (VK (none) 112 27 (([0,1,2,8,9]:List Nat).zip (V4 rf Qb k i ys)) Qt V5) (Wi (Vl rf Qb k) 8 (([7,3]:List Nat).zip (V3 rf Qb k i ys)) (ZI rf Qb k i ys)) (8+1+(ZI rf Qb k i ys).length)
 [(0,Vs)] 0 [] []) [(7,KS.auto),(3,KS.cells [] (Qg QU ys))] [] []=some (OO.ret (.tuple #[]),[(7,Obj.loop {state:=LoopState.ready,pending:=none,fn:=84,tmps:=#[.agg #[Qv 0 (QJ rf.Qa.length (Qg Qj rf.Qa)),.int .i64 rf.Qk,.int .i64 rf.Qc,.int .i64 (Qb.getD 0 0),.int .i64 (Qb.getD 1 0),.int .i64 (Qb.getD 2 0),.int .i64 (Qb.getD 3 0)],.int .i64 k,pA 1 0,.tuple #[],.slice none 0 0,pA 4 0,.tuple #[],pA 1 0,pA 1 0,Qv 0 (QJ rf.Qa.length (Qg Qj rf.Qa)),.slice (some {block:=3,off:=0}) rf.Qa.length 2,.agg #[Qv 0 (QJ rf.Qa.length (Qg Qj rf.Qa)),.int .i64 rf.Qk,.int .i64 rf.Qc,.int .i64 (Qb.getD 0 0),.int .i64 (Qb.getD 1 0),.int .i64 (Qb.getD 2 0),.int .i64 (Qb.getD 3 0)],.int .i64 k,Value.func (Fn.func 112) #[] #[Qv 5 (PH 0 #[QJ rf.Qa.length (Qg Qj rf.Qa),.int .i64 rf.Qk,.int .i64 rf.Qc,.int .i64 (Qb.getD 0 0),.int .i64 (Qb.getD 1 0),.int .i64 (Qb.getD 2 0),.int .i64 (Qb.getD 3 0)]),Qv 5 (PH 0 #[.int .i64 k])],.tuple #[],.tuple #[],.tuple #[],.tuple #[],.tuple #[],.tuple #[],.tuple #[],.tuple #[],.tuple #[],.tuple #[],.tuple #[],.tuple #[]],params:=#[14],assign:=Sn (Xf YP 84) [1,1,0,1,0,0],body:=Sn (Xf YP 84) [1,1,0,1,0,1],defers:=6}),(3,Obj.cells (Qg QU ys) 38)],[],
 [XV 8 [] (Qg QU ys) (Qg QU ys),Zq i (↑rf.Qa.length:Int)=false]):=by kernel_rfl
set_option maxHeartbeats 4000000 in
theorem rA(rf:Qe)(Qb:List Int)(k:Int)(hn:rf.Qa.length<=4)(hl:Qb.length<=4)(k0:0<=k)(k1:k<4)(hp:∀j:Nat,0<=Qb.getD j 0/\Qb.getD j 0<=1000000){B:Lo}(hJ:∀w,B.has w->J0 w):∀m:Nat,(∀(i:Int) (ys:List Span),rf.Qa.length-i.toNat=m->∀(i0:0<=i) (hy:ys=Sz rf.Qa (Qb.getD k.toNat 0) i),(∃Qt:Nat->Value,(∀t,XP (Qt t))/\GoE YP B (Jm rf Qb k) (Vl rf Qb k) 8 (VK (none) 112 27 (([0,1,2,8,9]:List Nat).zip (V4 rf Qb k i ys)) Qt V5) (Wi (Vl rf Qb k) 8 (([7,3]:List Nat).zip (V3 rf Qb k i ys)) (ZI rf Qb k i ys)) (8+1+(ZI rf Qb k i ys).length) ([7,3]:List Nat))->FinK YP B (Jm rf Qb k) (Vl rf Qb k) 8 (.ret (.tuple #[])) (([7,3]:List Nat).zip ([Obj.loop {state:=LoopState.ready,pending:=none,fn:=84,tmps:=#[.agg #[Qv 0 (QJ rf.Qa.length (Qg Qj rf.Qa)),.int .i64 rf.Qk,.int .i64 rf.Qc,.int .i64 (Qb.getD 0 0),.int .i64 (Qb.getD 1 0),.int .i64 (Qb.getD 2 0),.int .i64 (Qb.getD 3 0)],.int .i64 k,pA 1 0,.tuple #[],.slice none 0 0,pA 4 0,.tuple #[],pA 1 0,pA 1 0,Qv 0 (QJ rf.Qa.length (Qg Qj rf.Qa)),.slice (some {block:=3,off:=0}) rf.Qa.length 2,.agg #[Qv 0 (QJ rf.Qa.length (Qg Qj rf.Qa)),.int .i64 rf.Qk,.int .i64 rf.Qc,.int .i64 (Qb.getD 0 0),.int .i64 (Qb.getD 1 0),.int .i64 (Qb.getD 2 0),.int .i64 (Qb.getD 3 0)],.int .i64 k,Value.func (Fn.func 112) #[] #[Qv 5 (PH 0 #[QJ rf.Qa.length (Qg Qj rf.Qa),.int .i64 rf.Qk,.int .i64 rf.Qc,.int .i64 (Qb.getD 0 0),.int .i64 (Qb.getD 1 0),.int .i64 (Qb.getD 2 0),.int .i64 (Qb.getD 3 0)]),Qv 5 (PH 0 #[.int .i64 k])],.tuple #[],.tuple #[],.tuple #[],.tuple #[],.tuple #[],.tuple #[],.tuple #[],.tuple #[],.tuple #[],.tuple #[],.tuple #[],.tuple #[]],params:=#[14],assign:=Sn (Xf YP 84) [1,1,0,1,0,0],body:=Sn (Xf YP 84) [1,1,0,1,0,1],defers:=6},.cells (Qg QU (Xn rf.Qa (Qb.getD k.toNat 0))) 38 (0,0)])) ([]) ([7,3]:List Nat)):=by
 intro m0;induction m0 using No with
 |_ m0 ih0=>
  intro i ys hm0 i0 hy ⟨Qt,Kn,Zk⟩;have hyl:ys.length=rf.Qa.length:=by rw[hy];simp[Sz,Xu]
  have hpk:=hp k.toNat;have hse:=LB (k:=k.toNat) hl;have P1:=I6 (n:=Qi [Qb.getD 0 0,Qb.getD 1 0,Qb.getD 2 0,Qb.getD 3 0] k.toNat) (k:=i) (by omega);by_cases q0:(i:Int)<((↑rf.Qa.length:Int))
  ·have Vb:Q3 (ff B rf Qb k i ys Qt):=by
    exact⟨(HR (by omega) (by omega) (by omega) (by omega)),⟨(HQ (by omega) (by omega) (by omega)),⟨⟨by omega,by omega,Ge (fs:=[Qb.getD 0 0,Qb.getD 1 0,Qb.getD 2 0,Qb.getD 3 0]) rfl (NA (m:=4) (by omega) rfl)⟩,⟨(Zh q0),trivial⟩⟩⟩⟩
   by_cases q1:((↑(tn (↑(bf (Qi [Qb.getD 0 0,Qb.getD 1 0,Qb.getD 2 0,Qb.getD 3 0] k.toNat) i):Int) 1):Int):Int)=(1)
   ·have rj3:FJ YP B (aC rf Qb k i ys Qt) (Ri rf Qb k i ys Qt) 9 (OO.ret (.bool true)) (([(7,Obj.loop {state:=LoopState.ready,pending:=none,fn:=84,tmps:=#[.agg #[Qv 0 (QJ rf.Qa.length (Qg Qj rf.Qa)),.int .i64 rf.Qk,.int .i64 rf.Qc,.int .i64 (Qb.getD 0 0),.int .i64 (Qb.getD 1 0),.int .i64 (Qb.getD 2 0),.int .i64 (Qb.getD 3 0)],.int .i64 k,pA 1 0,.tuple #[],.slice none 0 0,pA 4 0,.tuple #[],pA 1 0,pA 1 0,Qv 0 (QJ rf.Qa.length (Qg Qj rf.Qa)),.slice (some {block:=3,off:=0}) rf.Qa.length 2,.agg #[Qv 0 (QJ rf.Qa.length (Qg Qj rf.Qa)),.int .i64 rf.Qk,.int .i64 rf.Qc,.int .i64 (Qb.getD 0 0),.int .i64 (Qb.getD 1 0),.int .i64 (Qb.getD 2 0),.int .i64 (Qb.getD 3 0)],.int .i64 k,Value.func (Fn.func 112) #[] #[Qv 5 (PH 0 #[QJ rf.Qa.length (Qg Qj rf.Qa),.int .i64 rf.Qk,.int .i64 rf.Qc,.int .i64 (Qb.getD 0 0),.int .i64 (Qb.getD 1 0),.int .i64 (Qb.getD 2 0),.int .i64 (Qb.getD 3 0)]),Qv 5 (PH 0 #[.int .i64 k])],.tuple #[],.tuple #[],.tuple #[],.tuple #[],.tuple #[],.tuple #[],.tuple #[],.tuple #[],.tuple #[],.tuple #[],.tuple #[],.tuple #[]],params:=#[14],assign:=Sn (Xf YP 84) [1,1,0,1,0,0],body:=Sn (Xf YP 84) [1,1,0,1,0,1],defers:=6}),(3,Obj.cells (Qg QU (Np ys i.toNat {lo:=Qd.UI (rf.Qa.getD i.toNat ML),hi:=Qd.ZD (rf.Qa.getD i.toNat ML)})) 38)]++((9,Xo)::Xc (9+1) []))++Ri rf Qb k i ys Qt) 10 (MP 9) [7,3]:=by
     have hyes:=jO (ps:=rf.Qa) (p:=Qb.getD k.toNat 0) i0 q0 (by rw[<-ry,<-hse];exact decide_eq_true q1);exact FinK.fjB (GoE.finK okF hJ Qf (Q4 (by kernel_rfl)) (Qp (by kernel_rfl)) ((GoE.refl (P:=YP) (B:=B) (c0:=aC rf Qb k i ys Qt) (Q4 (by kernel_rfl))).widen (Wf:=((([(7,KS.auto),(3,KS.cells [] (Qg QU (Np ys i.toNat {lo:=Qd.UI (rf.Qa.getD i.toNat ML),hi:=Qd.ZD (rf.Qa.getD i.toNat ML)})))]):List (Nat×KS)).map (·.1))) (by simp) (Qp (by kernel_rfl))) (Bk B rf Qb k i ys Qt)
      ⟨(QR (Xg (fun x=>List.all_eq_true.1 (by rfl)))),⟨(by exact PX (z:=2) (k:=MM i) (fun _=>rfl) (by first|omega|(rw[Ny];omega)|(rw[Nv];omega)) rfl rfl),⟨⟨by omega,by omega⟩,⟨⟨by omega,by omega,(QA (z:=12) (fun _=>rfl) (by omega))⟩,trivial⟩⟩⟩⟩) (ex:=[3]) (by kernel_rfl) ⟨trivial,⟨(Y3 (t:=38) (fl:=(0,0)) (fun x=>List.all_eq_true.1 (by rfl))),⟨trivial,⟨trivial,⟨trivial,⟨trivial,⟨trivial,⟨trivial,⟨(Y3 (t:=38) (fl:=(0,0)) (fun x=>List.all_eq_true.1 (by rfl))),⟨trivial,⟨trivial,trivial⟩⟩⟩⟩⟩⟩⟩⟩⟩⟩⟩
    have hyes:=jO (ps:=rf.Qa) (p:=Qb.getD k.toNat 0) i0 q0 (by rw[<-ry,<-hse];exact decide_eq_true q1);exact((ih0 _ (by omega)) (i+1) (Np ys i.toNat {lo:=Qd.UI (rf.Qa.getD i.toNat ML),hi:=Qd.ZD (rf.Qa.getD i.toNat ML)}) rfl (by omega) (by(rw[hy];exact hyes))
     (GoE.landA okF hJ Qf (Q4 (by kernel_rfl)) (Qp (by kernel_rfl)) Zk (Bj B rf Qb k i ys Qt)
     (by exact⟨(QR (Xg (fun x=>List.all_eq_true.1 (by rfl)))),⟨(XH (by omega) (by omega)),⟨rj3,⟨(bn q1),Vb⟩⟩⟩⟩) (by kernel_rfl) (by kernel_rfl) (fun l hl=>by cases hl <;> decide))).cast (by rfl) (by rfl) (by rfl)
   ·have hno:=AA (ps:=rf.Qa) (p:=Qb.getD k.toNat 0) i0 (by rw[<-ry,<-hse];exact decide_eq_false q1);exact((ih0 _ (by omega)) (i+1) (ys) rfl (by omega) (by(rw[hy];exact hno))
     (GoE.landA okF hJ Qf (Q4 (by kernel_rfl)) (Qp (by kernel_rfl)) Zk (Bi B rf Qb k i ys Qt)
     ⟨(QR (Xg (fun x=>List.all_eq_true.1 (by rfl)))),⟨(XH (by omega) (by omega)),⟨(bo q1),Vb⟩⟩⟩ (by kernel_rfl) (by kernel_rfl) (fun l hl=>by cases hl <;> decide))).cast (by rfl) (by rfl) (by rfl)
  ·exact(GoE.finK okF hJ Qf (Q4 (by kernel_rfl)) (Qp (by kernel_rfl)) Zk (Bh B rf Qb k i ys Qt)
    ⟨(QR (Xg (fun x=>List.all_eq_true.1 (by rfl)))),⟨(Zr (Int.not_lt.1 q0)),trivial⟩⟩).cast (by rfl) (by(rw[hy,yb (by omega)];rfl)) (by rfl)

theorem Bl(B:Lo)(rf:Qe)(Qb:List Int)(k:Int):CE.landA 8 (Qu YP (Q8 YP) J0 B 4 8 (Jm rf Qb k) (Vl rf Qb k) 8
 [] 0 [] []) [0,1,2,8,9] [(7,KS.auto),(3,KS.cells [] (Qg QU (List.map Wy rf.Qa)))] [] []=some ⟨112,27,V5,[],.run,none,V4 rf Qb k (0) (List.map Wy rf.Qa),([7,3]:List Nat).zip (V3 rf Qb k (0) (List.map Wy rf.Qa)),ZI rf Qb k (0) (List.map Wy rf.Qa),
 [XV 8 [] (Qg QU (List.map Wy rf.Qa)) (Qg QU (List.map Wy rf.Qa))]⟩:=by kernel_rfl
theorem yu(B:Lo)(rf:Qe)(Qb:List Int)(k:Int):Xd (Qu YP (Q8 YP) J0 B 16 1 (Qq YP 84 26 (([.agg (Xm rf Qb).toArray,.int .i64 k]).map (Q5 0 4))) Zn 1
 [(5,Ql.call (MP 2) (OO.ret (.slice (some {block:=3,off:=0}) rf.Qa.length 2)) ([]++(2,Xo)::Xc 3 [Obj.cells (Qg QU (List.map Wy rf.Qa)) 38]) 4 []),(10,Ql.call (MP 5) (OO.ret (Value.func (Fn.func 112) #[] #[Qv 5 (PH 0 (Rh rf Qb)),Qv 5 (PH 0 #[.int .i64 k])])) ([]++(5,Xo)::Xc 6 []) 6 []),(11,Ql.call (MP 8) (OO.ret (.tuple #[])) ([(7,Obj.loop {state:=LoopState.ready,pending:=none,fn:=84,tmps:=(aB rf Qb k),params:=#[14],assign:=Sn (Xf YP 84) [1,1,0,1,0,0],body:=Sn (Xf YP 84) [1,1,0,1,0,1],defers:=6}),(3,Obj.cells (Qg QU (Xn rf.Qa (Qb.getD k.toNat 0))) 38)]++(8,Xo)::Xc 9 []) 9 [7,3])] 0 [] []) [{k:=3,rs:=[],cs:=Qg QU (Xn rf.Qa (Qb.getD k.toNat 0))}]=some (QJ rf.Qa.length (Fz.cs {k:=3,rs:=[],cs:=Qg QU (Xn rf.Qa (Qb.getD k.toNat 0))}),
 [ZY (Fz.rs {k:=3,rs:=[],cs:=Qg QU (Xn rf.Qa (Qb.getD k.toNat 0))}) (Qg QU (Xn rf.Qa (Qb.getD k.toNat 0))) (Fz.cs {k:=3,rs:=[],cs:=Qg QU (Xn rf.Qa (Qb.getD k.toNat 0))}),FJ YP B (Jm rf Qb k) (Vl rf Qb k) 8 (OO.ret (.tuple #[])) (([(7,Obj.loop {state:=LoopState.ready,pending:=none,fn:=84,tmps:=(aB rf Qb k),params:=#[14],assign:=Sn (Xf YP 84) [1,1,0,1,0,0],body:=Sn (Xf YP 84) [1,1,0,1,0,1],defers:=6}),(3,Obj.cells (Qg QU (Xn rf.Qa (Qb.getD k.toNat 0))) 38)]++((8,Xo)::Xc (8+1) []))++Vl rf Qb k) 9 (MP 8) [7,3],FJ YP B (aD rf Qb k) (Rj rf Qb k) 5 (OO.ret (Value.func (Fn.func 112) #[] #[Qv 5 (PH 0 (Rh rf Qb)),Qv 5 (PH 0 #[.int .i64 k])])) (([]++((5,Xo)::Xc (5+1) []))++Rj rf Qb k) 6 (MP 5) [],FJ YP B (Jn rf Qb k) (VT rf Qb k) 2 (OO.ret (.slice (some {block:=3,off:=0}) rf.Qa.length 2)) (([]++((2,Xo)::Xc (2+1) [Obj.cells (Qg QU (List.map Wy rf.Qa)) 38]))++VT rf Qb k) 4 (MP 2) []]):=by kernel_rfl
set_option maxHeartbeats 4000000 in
theorem Ef(rf:Qe)(Qb:List Int)(k:Int)(hn:rf.Qa.length<=4)(hl:Qb.length<=4)(k0:0<=k)(k1:k<4)(hp:∀j:Nat,0<=Qb.getD j 0/\Qb.getD j 0<=1000000){B:Lo}(hJ:∀w,B.has w->J0 w):EndsT YP B (Qq YP 84 26 (([.agg (Xm rf Qb).toArray,.int .i64 k]).map (Q5 0 4))) (Yk (Xn rf.Qa (Qb.getD k.toNat 0))):=by
 have rj0:FJ YP B (Jn rf Qb k) (VT rf Qb k) 2 (OO.ret (.slice (some {block:=3,off:=0}) rf.Qa.length 2)) (([]++((2,Xo)::Xc (2+1) [Obj.cells (Qg QU (List.map Wy rf.Qa)) 38]))++VT rf Qb k) 4 (MP 2) []:=by
  exact FinK.fjB ((rB rf Qb k hn hl k0 k1 hp hJ _) (0) (MT rf.Qa.length {lo:=0,hi:=0}) rfl (by omega) (by exact ej)
   (GoE.landA okF hJ Qf (Q4 (by kernel_rfl)) (Qp (by kernel_rfl)) ((GoE.refl (P:=YP) (B:=B) (c0:=Jn rf Qb k) (Q4 (by kernel_rfl))).widen (Wf:=((([]):List (Nat×KS)).map (·.1))) (by simp) (Qp (by kernel_rfl))) (Bq B rf Qb k)
   ⟨(by exact(Uy (by exact⟨(.simple rfl),⟨(.simple rfl),trivial⟩⟩) _)),⟨(fV (bytes:=16) (by kernel_rfl) (by omega) (by omega) (by omega)),trivial⟩⟩ (by kernel_rfl) (by kernel_rfl) (fun l hl=>by cases hl <;> decide))) (ex:=[]) (by kernel_rfl) (Wp _)
 have rj1:FJ YP B (aD rf Qb k) (Rj rf Qb k) 5 (OO.ret (Value.func (Fn.func 112) #[] #[Qv 5 (PH 0 #[QJ rf.Qa.length (Qg Qj rf.Qa),.int .i64 rf.Qk,.int .i64 rf.Qc,.int .i64 (Qb.getD 0 0),.int .i64 (Qb.getD 1 0),.int .i64 (Qb.getD 2 0),.int .i64 (Qb.getD 3 0)]),Qv 5 (PH 0 #[.int .i64 k])])) (([]++((5,Xo)::Xc (5+1) []))++Rj rf Qb k) 6 (MP 5) []:=by
  exact FinK.fjB (GoE.finK okF hJ Qf (Q4 (by kernel_rfl)) (Qp (by kernel_rfl)) ((GoE.refl (P:=YP) (B:=B) (c0:=aD rf Qb k) (Q4 (by kernel_rfl))).widen (Wf:=((([]):List (Nat×KS)).map (·.1))) (by simp) (Qp (by kernel_rfl))) (Bm B rf Qb k)
   ⟨(C8 (by kernel_rfl)),⟨(bq (by kernel_rfl)),trivial⟩⟩) (ex:=[3]) (by kernel_rfl) ⟨trivial,⟨trivial,⟨(Y3 (t:=38) (fl:=(0,0)) (fun x=>List.all_eq_true.1 (by rfl))),⟨trivial,⟨trivial,trivial⟩⟩⟩⟩⟩
 have rj2:FJ YP B (Jm rf Qb k) (Vl rf Qb k) 8 (OO.ret (.tuple #[])) (([(7,Obj.loop {state:=LoopState.ready,pending:=none,fn:=84,tmps:=#[.agg #[Qv 0 (QJ rf.Qa.length (Qg Qj rf.Qa)),.int .i64 rf.Qk,.int .i64 rf.Qc,.int .i64 (Qb.getD 0 0),.int .i64 (Qb.getD 1 0),.int .i64 (Qb.getD 2 0),.int .i64 (Qb.getD 3 0)],.int .i64 k,pA 1 0,.tuple #[],.slice none 0 0,pA 4 0,.tuple #[],pA 1 0,pA 1 0,Qv 0 (QJ rf.Qa.length (Qg Qj rf.Qa)),.slice (some {block:=3,off:=0}) rf.Qa.length 2,.agg #[Qv 0 (QJ rf.Qa.length (Qg Qj rf.Qa)),.int .i64 rf.Qk,.int .i64 rf.Qc,.int .i64 (Qb.getD 0 0),.int .i64 (Qb.getD 1 0),.int .i64 (Qb.getD 2 0),.int .i64 (Qb.getD 3 0)],.int .i64 k,Value.func (Fn.func 112) #[] #[Qv 5 (PH 0 #[QJ rf.Qa.length (Qg Qj rf.Qa),.int .i64 rf.Qk,.int .i64 rf.Qc,.int .i64 (Qb.getD 0 0),.int .i64 (Qb.getD 1 0),.int .i64 (Qb.getD 2 0),.int .i64 (Qb.getD 3 0)]),Qv 5 (PH 0 #[.int .i64 k])],.tuple #[],.tuple #[],.tuple #[],.tuple #[],.tuple #[],.tuple #[],.tuple #[],.tuple #[],.tuple #[],.tuple #[],.tuple #[],.tuple #[]],params:=#[14],assign:=Sn (Xf YP 84) [1,1,0,1,0,0],body:=Sn (Xf YP 84) [1,1,0,1,0,1],defers:=6}),(3,Obj.cells (Qg QU (Xn rf.Qa (Qb.getD k.toNat 0))) 38)]++((8,Xo)::Xc (8+1) []))++Vl rf Qb k) 9 (MP 8) [7,3]:=by
  exact FinK.fjB ((rA rf Qb k hn hl k0 k1 hp hJ _) (0) (List.map Wy rf.Qa) rfl (by omega) (by exact CW)
   (GoE.landA okF hJ Qf (Q4 (by kernel_rfl)) (Qp (by kernel_rfl)) ((GoE.refl (P:=YP) (B:=B) (c0:=Jm rf Qb k) (Q4 (by kernel_rfl))).widen (Wf:=((([(7,KS.auto),(3,KS.cells [] (Qg QU (List.map Wy rf.Qa)))]):List (Nat×KS)).map (·.1))) (by simp) (Qp (by kernel_rfl))) (Bl B rf Qb k)
   ⟨(QR (Xg (fun x=>List.all_eq_true.1 (by rfl)))),trivial⟩ (by kernel_rfl) (by kernel_rfl) (fun l hl=>by cases hl <;> decide))) (ex:=[3]) (by kernel_rfl) ⟨trivial,⟨trivial,⟨trivial,⟨trivial,⟨trivial,⟨(Y3 (t:=38) (fl:=(0,0)) (fun x=>List.all_eq_true.1 (by rfl))),⟨trivial,⟨trivial,trivial⟩⟩⟩⟩⟩⟩⟩⟩
 exact(GoE.endsT okF hJ Qf GoE.start (yu B rf Qb k)
  ⟨(ZR (fun x=>List.all_eq_true.1 (by rfl))),⟨rj2,⟨rj1,⟨rj0,trivial⟩⟩⟩⟩).cast (by exact cE rfl (by rw[Xn,Xu];omega))
theorem Eg(rf:Qe)(Qb:List Int)(k:Int)(hn:rf.Qa.length<=4)(hl:Qb.length<=4)(k0:0<=k)(k1:k<4)(hp:∀j:Nat,0<=Qb.getD j 0/\Qb.getD j 0<=1000000):Q0 YP J0 84 #[.agg (Xm rf Qb).toArray,.int .i64 k] (Yk (Xn rf.Qa (Qb.getD k.toNat 0))):=
 XD (ts:=[.agg (Xm rf Qb).toArray,.int .i64 k]) Zs (c0:=Qq YP 84 26 (([.agg (Xm rf Qb).toArray,.int .i64 k]).map (Q5 0 4))) (by kernel_rfl) (by kernel_rfl) fun B hJ=>Ef rf Qb k hn hl k0 k1 hp hJ
end
end Go.Proofs.Ytncjjangllkokaa

namespace Go.Proofs.Ytncjjangllkokaa
open Go Go.CE Go.RowKit
def Xp(a b:Int)(g:Int->Int):Int:=tL ((aj a b).map g)
theorem K8{a b:Int}{g:Int->Int}(h:b<=a):Xp a b g=0:=by
 unfold Xp;rw[jd h];rfl
theorem tK:∀(l m:List Int),tL (l++m)=tL l+tL m
 |[],m=>by simp[tL]
 |x::l,m=>by simp only[List.cons_append,tL,tK l m];omega
theorem XN{i:Int}{g:Int->Int}(h:0<=i):Xp 0 (i+1) g=Xp 0 i g+g i:=by
 have e:aj 0 (i+1)=aj 0 i++[i]:=by
  unfold aj;rw[show(i+1-0).toNat=(i-0).toNat+1 by omega,List.range_succ,List.map_append];congr 1;simp;omega
 unfold Xp;rw[e,List.map_append,tK];simp[tL]
theorem UZ{g:Int->Int}{K:Int}:∀(k:Nat),(∀m:Int,0<=m->m<k->0<=g m/\g m<=K)->0<=Xp 0 k g/\Xp 0 k g<=K*k
 |0,_=>by rw[K8 (by omega)];omega
 |k+1,h=>by
  have ih:=UZ k fun m h0 h1=>h m h0 (by omega)
  have h2:=h k (by omega) (by omega);rw[show((k+1:Nat):Int)=(k:Int)+1 by omega,XN (by omega),Int.mul_add,Int.mul_one];omega
structure F4 where
 a:Int
 b:Int
 c:Int
 d:Int
deriving Inhabited
def F4.at(f:F4)(k:Int):Int:=Qi [f.a,f.b,f.c,f.d] k.toNat
def F4.sum(f:F4):Int:=f.a+f.b+f.c+f.d
def Gu(g:Int->Int):F4:=⟨g 0,g 1,g 2,g 3⟩
theorem bX{i:Int}(h0:0<=i)(h:i<4):i=0\/i=1\/i=2\/i=3:=by omega
theorem au{g:Int->Int}{k:Int}(h0:0<=k)(h:k<4):(Gu g).at k=g k:=by
 rcases bX h0 h with rfl|rfl|rfl|rfl <;> rfl
def JX(f:F4):Prop:=(0<=f.a/\0<=f.b/\0<=f.c/\0<=f.d)/\f.sum<=100000000000
theorem W5{f:F4}(hf:JX f){i:Int}(h0:0<=i)(h:i<4):0<=f.at i/\f.at i<=f.sum/\f.sum<=100000000000:=by
 obtain⟨⟨h1,h2,h3,h4⟩,h5⟩:=hf;have e:f.sum=f.a+f.b+f.c+f.d:=rfl;have h5':=h5;rw[e]at h5' ⊢;rcases bX h0 h with rfl|rfl|rfl|rfl
 ·have:f.at 0=f.a:=rfl;omega
 ·have:f.at 1=f.b:=rfl;omega
 ·have:f.at 2=f.c:=rfl;omega
 ·have:f.at 3=f.d:=rfl;omega
abbrev PI(ps:List Qd)(k:Int):Qd:=ps.getD k.toNat ML
abbrev nth(xs:List Int)(k:Int):Int:=xs.getD k.toNat ML
def JI(ps:List Qd):Prop:=ps.length<=4/\∀k:Int,0<=k->k<ps.length->(0<=(PI ps k).room/\(PI ps k).room<=1000000)/\(0<=(PI ps k).QM/\(PI ps k).QM<=1000)/\YN ps.length (PI ps k).XM=true/\(PI ps k).XM≠k
def Km(n:Nat)(xs:List Int)(m:Int):Prop:=xs.length=n/\∀k:Int,0<=k->k<n->0<=nth xs k/\nth xs k<=m
def Zz(gs:List Int)(ps:List Qd)(f:F4)(k:Int):Int:=nH (PI ps k).room (f.at k) (nth gs k)
def Xv(gs:List Int)(ps:List Qd)(f:F4)(i j:Int):Int:=if j<i then f.at j+Zz gs ps f j else f.at j
def Ph(gs:List Int)(ps:List Qd)(f:F4):F4:=Gu (Xv gs ps f ps.length)
def Uf(ps:List Qd)(b:F4)(k:Int):Int:=(b.at k*(PI ps k).QM).tdiv 1000
def WN(ps:List Qd)(b:F4)(i j:Int):Int:=b.at j-(if j<i then Uf ps b j else 0)+Xp 0 i (fun m=>if(PI ps m).XM=j then Uf ps b m else 0)
def ja(ps:List Qd)(b:F4):F4:=Gu (WN ps b ps.length)
def Z5(ps:List Qd)(b:F4)(j:Int):Int:=if(PI ps j).XM= -1 then Uf ps b j else 0
def Zt(ts:List Int)(b:F4)(k:Int):Int:=if nth ts k<b.at k then nth ts k else b.at k
def Sy(ts:List Int)(b:F4)(i j:Int):Int:=if j<i then b.at j-Zt ts b j else b.at j
def I5(ts:List Int)(ps:List Qd)(b:F4):F4:=Gu (Sy ts b ps.length)
def Q2(gs ts:List Int)(ps:List Qd)(f:F4):F4:=I5 ts ps (ja ps (Ph gs ps f))
theorem cC{g:Int->Int}{i:Int}(h0:0<=i)(h:i<4):Qi [g 0,g 1,g 2,g 3] i.toNat=g i:=by
 rcases bX h0 h with rfl|rfl|rfl|rfl <;> rfl
theorem Li{gs:List Int}{ps:List Qd}{f:F4}{i:Int}:Xv gs ps f i i=f.at i:=by
 unfold Xv;rw[if_neg (by omega)]
theorem F5{gs:List Int}{ps:List Qd}{f:F4}{i:Int}{j:Nat}:(if i.toNat=j then f.at i+Zz gs ps f i else Xv gs ps f i j)=Xv gs ps f (i+1) j\/i<0:=by
 by_cases h0:0<=i
 ·refine .inl ?_;unfold Xv;by_cases h:i.toNat=j
  ·have e1:i=(j:Int):=by omega
   rw[if_pos h,if_pos (by omega),e1]
  ·rw[if_neg h];by_cases h2:(j:Int)<i
   ·rw[if_pos h2,if_pos (by omega)]
   ·rw[if_neg h2,if_neg (by omega)]
 ·exact .inr (by omega)
theorem jq{gs:List Int}{ps:List Qd}{f:F4}{i:Int}{j:Nat}(h0:0<=i):(if i.toNat=j then f.at i+Zz gs ps f i else Xv gs ps f i j)=Xv gs ps f (i+1) j:=F5.resolve_right (by omega)
theorem FX{room s t:Int}{w:Int}(ht:t=w.tdiv 1000)(h:0<=t):(if(if room-s > 0 then room-s else 0)<t then(if room-s > 0 then room-s else 0)else t)=if room<=s then 0 else if t<room-s then t else room-s:=by
 by_cases h1:room<=s
 ·rw[if_pos h1,if_neg (show ¬room-s > 0 by omega)];by_cases h2:0<t
  ·rw[if_pos h2]
  ·rw[if_neg h2];omega
 ·rw[if_neg h1,if_pos (show room-s > 0 by omega)];by_cases h2:room-s<t
  ·rw[if_pos h2,if_neg (by omega)]
  ·by_cases h3:t<room-s
   ·rw[if_neg h2,if_pos h3]
   ·rw[if_neg h2,if_neg h3];omega
theorem j6{gs:List Int}{ps:List Qd}{f:F4}{i:Int}(hp:JI ps)(hg:Km ps.length gs 2000)(hf:JX f)(h0:0<=i)(h:i<ps.length):0<=Zz gs ps f i/\Zz gs ps f i<=1000000:=by
 have h1:=hp.2 i h0 h;have h2:=hg.2 i h0 h;have ha:=W5 hf h0 (by have:=hp.1;omega);have hm:=PJ (a:=f.at i) (r:=nth gs i) (by omega) (by omega);unfold Zz nH;split
 ·omega
 ·split <;> omega
theorem Sb{ps:List Qd}{b:F4}{i j:Int}(h:0<=i):WN ps b (i+1) j=WN ps b i j-(if j=i then Uf ps b i else 0)+(if(PI ps i).XM=j then Uf ps b i else 0):=by
 unfold WN;rw[XN h];by_cases e:j=i
 ·subst e;rw[if_pos (show j<j+1 by omega),if_neg (show ¬j<j by omega),if_pos rfl];omega
 ·rw[if_neg e];by_cases e2:j<i
  ·rw[if_pos e2,if_pos (by omega)];omega
  ·rw[if_neg e2,if_neg (by omega)];omega
theorem ij{ps:List Qd}{b:F4}{j:Int}(h:0<=j):WN ps b 0 j=b.at j:=by
 unfold WN;rw[if_neg (by omega),K8 (by omega)];omega
theorem I4{ts:List Int}{b:F4}{i:Int}:Sy ts b i i=b.at i:=by
 unfold Sy;rw[if_neg (by omega)]
theorem jf{ts:List Int}{b:F4}{i:Int}{j:Nat}(h0:0<=i):(if i.toNat=j then b.at i-Zt ts b i else Sy ts b i j)=Sy ts b (i+1) j:=by
 unfold Sy;by_cases h:i.toNat=j
 ·have e1:i=(j:Int):=by omega
  rw[if_pos h,if_pos (by omega),e1]
 ·rw[if_neg h];by_cases h2:(j:Int)<i
  ·rw[if_pos h2,if_pos (by omega)]
  ·rw[if_neg h2,if_neg (by omega)]
theorem jv{ps:List Qd}{b:F4}{i:Int}{j:Nat}(h0:0<=i)(h:(PI ps i).XM= -1):(if i.toNat=j then WN ps b i i-Uf ps b i else WN ps b i j)=WN ps b (i+1) j:=by
 rw[Sb h0,h,if_neg (show ¬(-1:Int)=(j:Int)by omega)];by_cases h1:i.toNat=j
 ·have e1:i=(j:Int):=by omega
  rw[if_pos h1,if_pos (by omega),e1];omega
 ·rw[if_neg h1,if_neg (by omega)];omega
theorem jx{ps:List Qd}{b:F4}{i v:Int}{j:Nat}(h0:0<=i)(hv:(PI ps i).XM=v)(v0:0<=v)(hn:v≠i):(if v.toNat=j then WN ps b i v+Uf ps b i else if i.toNat=j then WN ps b i i-Uf ps b i else WN ps b i j)=WN ps b (i+1) j:=by
 rw[Sb h0,hv];by_cases h1:v.toNat=j
 ·have e1:v=(j:Int):=by omega
  rw[if_pos h1,if_neg (show ¬(j:Int)=i by omega),if_pos e1,e1];omega
 ·rw[if_neg h1,if_neg (show ¬v=(j:Int)by omega)];by_cases h2:i.toNat=j
  ·have e1:i=(j:Int):=by omega
   rw[if_pos h2,if_pos (by omega),e1];omega
  ·rw[if_neg h2,if_neg (by omega)];omega
theorem bc{ps:List Qd}{b:F4}{i:Int}(hp:JI ps)(hf:JX b)(h0:0<=i)(h:i<ps.length):0<=Uf ps b i/\Uf ps b i<=b.at i:=by
 have h1:=hp.2 i h0 h;have ha:=W5 hf h0 (by have:=hp.1;omega);have e0:0<=b.at i*(PI ps i).QM:=Int.mul_nonneg ha.1 h1.2.1.1;have e1:b.at i*(PI ps i).QM<=b.at i*1000:=Int.mul_le_mul_of_nonneg_left h1.2.1.2 ha.1;have e2:(b.at i*(PI ps i).QM).tdiv 1000=(b.at i*(PI ps i).QM) / 1000:=ND e0;unfold Uf;rw[e2];omega
theorem ab{ps:List Qd}{b:F4}{i j:Int}(hp:JI ps)(hf:JX b)(h0:0<=i)(h:i<=ps.length)(j0:0<=j)(j1:j<4):0<=WN ps b i j/\WN ps b i j<=500000000000:=by
 have ha:=W5 hf j0 j1;have hs:=UZ (g:=fun m=>if(PI ps m).XM=j then Uf ps b m else 0) (K:=100000000000) i.toNat fun m m0 m1=>by
  have h9:=hp.1;have:=bc hp hf (i:=m) m0 (by omega);have hm:=W5 hf (i:=m) m0 (by omega);split <;> omega
 rw[show((i.toNat:Nat):Int)=i by omega]at hs;have h4:=hp.1;unfold WN;split
 ·have:=bc hp hf j0 (by omega);omega
 ·omega
theorem cz{ts:List Int}{b:F4}{n:Nat}{m i:Int}(ht:Km n ts m)(hf:JX b)(h0:0<=i)(h:i<n)(h4:n<=4):0<=Zt ts b i/\Zt ts b i<=b.at i/\Zt ts b i<=m:=by
 have ha:=W5 hf h0 (by omega);have h1:=ht.2 i h0 h;unfold Zt;split <;> omega
theorem As{gs:List Int}{ps:List Qd}{f:F4}{i j:Int}(hp:JI ps)(hg:Km ps.length gs 2000)(hf:JX f)(h:i<=ps.length)(j0:0<=j)(j1:j<4):0<=Xv gs ps f i j/\Xv gs ps f i j<=f.at j+1000000:=by
 have ha:=W5 hf j0 j1;unfold Xv;split
 ·have:=j6 hp hg hf j0 (show j<ps.length by omega);omega
 ·omega
theorem F2{gs:List Int}{ps:List Qd}{f:F4}(hp:JI ps)(hg:Km ps.length gs 2000)(hf:JX f):(0<=(Ph gs ps f).a/\0<=(Ph gs ps f).b/\0<=(Ph gs ps f).c/\0<=(Ph gs ps f).d)/\(Ph gs ps f).sum<=f.sum+4000000:=by
 have h0:=As hp hg hf (Nx _) (j:=0) (by omega) (by omega);have h1:=As hp hg hf (Nx _) (j:=1) (by omega) (by omega);have h2:=As hp hg hf (Nx _) (j:=2) (by omega) (by omega);have h3:=As hp hg hf (Nx _) (j:=3) (by omega) (by omega);refine⟨⟨h0.1,h1.1,h2.1,h3.1⟩, ?_⟩;show Xv gs ps f ps.length 0+Xv gs ps f ps.length 1+Xv gs ps f ps.length 2+Xv gs ps f ps.length 3<=f.a+f.b+f.c+f.d+4000000;have e0:f.at 0=f.a:=rfl;have e1:f.at 1=f.b:=rfl;have e2:f.at 2=f.c:=rfl;have e3:f.at 3=f.d:=rfl;omega
def L5(ps:List Qd)(b:F4)(i:Int):Int:=WN ps b i 0+WN ps b i 1+WN ps b i 2+WN ps b i 3
theorem FI{ps:List Qd}{b:F4}{i:Int}(hp:JI ps)(h0:0<=i)(h:i<ps.length):L5 ps b (i+1)=L5 ps b i-Z5 ps b i:=by
 have h1:=hp.1;have h2:=(hp.2 i h0 h).2.2.1;unfold L5 Z5;rw[Sb h0,Sb h0,Sb h0,Sb h0];simp only[YN,Bool.or_eq_true,decide_eq_true_iff,P0]at h2;generalize (PI ps i).XM=v at *;generalize Uf ps b i=w at *;have hi:=bX h0 (show i<4 by omega);by_cases hv:v= -1
 ·subst hv;rcases hi with rfl|rfl|rfl|rfl <;> simp <;> omega
 ·have Wq:=bX (show 0<=v by omega) (show v<4 by omega);rcases hi with rfl|rfl|rfl|rfl <;> rcases Wq with rfl|rfl|rfl|rfl <;> simp <;> omega
theorem Au{ps:List Qd}{b:F4}(hp:JI ps):∀k:Nat,k<=ps.length->L5 ps b k=b.sum-Xp 0 k (Z5 ps b)
 |0,_=>by
  rw[show((0:Nat):Int)=0 from rfl,K8 (by omega)];unfold L5;rw[ij (by omega),ij (by omega),ij (by omega),ij (by omega)];have e:b.sum=b.at 0+b.at 1+b.at 2+b.at 3:=rfl;omega
 |k+1,h=>by
  rw[show((k+1:Nat):Int)=(k:Int)+1 by omega,FI hp (by omega) (by omega),Au hp k (by omega),XN (by omega)];omega
end Go.Proofs.Ytncjjangllkokaa
