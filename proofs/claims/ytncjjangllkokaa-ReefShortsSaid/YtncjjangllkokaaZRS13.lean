/- Reef: what is taken, with a Qb. -/
import Derived.Test.YtncjjangllkokaaZRS12
set_option linter.all false
open List renaming getElem?_map->LA,getD_eq_getElem?_getD->Lu,getElem?_eq_none->LL,length_set->LS,getElem?_eq_getElem->L9,range->Ln,set->Lj,length->Li,length_replicate->LR,replicate->Lm
open Int renaming toNat->Lf,tdiv_eq_ediv_of_nonneg->Ma,le_refl->LW
open Array renaming size->L4,extract->Lz
open Nat renaming strongRecOn->LQ,lt_of_lt_of_eq->LY
open Inhabited renaming default->Le
namespace Go.Proofs.Ytncjjangllkokaa
open Go Go.CE Go.RowKit
noncomputable section
set_option maxRecDepth 100000
def Z5{β:Type}(n:Int)(f:Int->β):List β:=(JV 0 n).map f
theorem Xk{β:Type}{n:Int}{f:Int->β}:(Z5 n f).length=n.toNat:=by simp[Z5,JV]
theorem PE{β:Type}{n:Int}{f:Int->β}{k:Nat}(h:k<n.toNat):(Z5 n f)[k]? =some (f k):=by
 unfold Z5 JV;rw[LA,LA,List.getElem?_range (by omega)];simp
theorem X4{β:Type}[Inhabited β]{n k:Int}{f:Int->β}(h0:0<=k)(h:k<n):(Z5 n f).getD k.toNat Le=f k:=by
 rw[Lu,PE (by omega),show((k.toNat:Nat):Int)=k by omega];rfl
theorem ZG{β:Type}{n:Int}{f g:Int->β}(h:∀k,0<=k->k<n->f k=g k):Z5 n f=Z5 n g:=by
 refine List.ext_getElem? fun k=> ?_
 by_cases hk:k<n.toNat
 ·rw[PE hk,PE hk,h k (by omega) (by omega)]
 ·rw[LL (by rw[Xk];omega),LL (by rw[Xk];omega)]
theorem b8{β:Type}{n i:Int}{f:Int->β}{v:β}(h0:0<=i)(h:i<n):(Z5 n f).set i.toNat v=Z5 n (fun k=>if k=i then v else f k):=by
 refine List.ext_getElem? fun k=> ?_
 by_cases hk:k<n.toNat
 ·rw[List.getElem?_set,Xk,PE hk,PE hk];by_cases e:i.toNat=k
  ·rw[if_pos e,if_pos (by omega),if_pos (by omega)]
  ·rw[if_neg e,if_neg (by omega)]
 ·rw[LL (by rw[LS,Xk];omega),LL (by rw[Xk];omega)]
theorem aq{α β:Type}[Inhabited α]{xs:List α}{f:α->β}:xs.map f=Z5 xs.length (fun k=>f (xs.getD k.toNat Le)):=by
 refine List.ext_getElem? fun k=> ?_
 by_cases hk:k<xs.length
 ·rw[PE (by omega),LA,L9 hk];simp[Lu,hk]
 ·rw[LL (by simp;omega),LL (by rw[Xk];omega)]
def AF(x:Qc):Span:=⟨x.ZU,x.ZV⟩
def U8(p k:Int)(x:Qc):Span:=if hasB p k then AF x else Vr x
def Zh(ps:List Qc)(p:Int):List Span:=Z5 ps.length fun k=>U8 p k (ps.getD k.toNat Le)
def RP(ps:List Qc)(p i:Int):List Span:=Z5 ps.length fun k=>if k<i then U8 p k (ps.getD k.toNat Le)else Vr (ps.getD k.toNat Le)
theorem A6{ps:List Qc}{p:Int}:ps.map Vr=RP ps p 0:=by
 rw[aq];exact ZG fun k h0 _=>by rw[if_neg (by omega)]
theorem vu{ps:List Qc}{p i:Int}(h:ps.length<=i):RP ps p i=Zh ps p:=ZG fun k h0 h1=>by rw[if_pos (by omega)]
theorem yz{ps:List Qc}{p i:Int}(h0:0<=i)(h:hasB p i=false):RP ps p i=RP ps p (i+1):=ZG fun k g0 g1=>by
 by_cases e:k=i
 ·subst e;rw[if_neg (by omega),if_pos (by omega),U8,h];rfl
 ·by_cases e2:k<i
  ·rw[if_pos e2,if_pos (by omega)]
  ·rw[if_neg e2,if_neg (by omega)]
theorem iu{ps:List Qc}{p i:Int}(h0:0<=i)(h1:i<ps.length)(h:hasB p i=true):(RP ps p i).set i.toNat (AF (ps.getD i.toNat Le))=RP ps p (i+1):=by
 unfold RP;rw[b8 h0 h1];refine ZG fun k g0 g1=> ?_
 by_cases e:k=i
 ·subst e;rw[if_pos rfl,if_pos (by omega),U8,h];rfl
 ·rw[if_neg e];by_cases e2:k<i
  ·rw[if_pos e2,if_pos (by omega)]
  ·rw[if_neg e2,if_neg (by omega)]
theorem GH{n k:Int}(hn:0<=n):0<=((a8 n k:Nat):Int)/\((a8 n k:Nat):Int)<=n:=by
 have:=Ei (a:=n) (n:=k);omega
def Ja(x_:Qc):Array Value:=#[.int .i64 x_.count,.int .i64 x_.room,.int .i64 x_.WZ,.int .i64 x_.Va,.int .i64 x_.Qv,.int .i64 x_.QU,.int .i64 x_.Wj,.int .i64 x_.Wl,.int .i64 x_.ZU,.int .i64 x_.ZV,.int .i64 x_.goal,.int .i64 x_.Vf]
def TL(rf:Qg)(Qb:List Int)(k:Int):Array Value:=#[.agg #[Q4 0 (QV rf.Qa.length (Qf Qn rf.Qa)),.int .i64 rf.Qq,.int .i64 rf.Qd,.int .i64 (Qb.getD 0 0),.int .i64 (Qb.getD 1 0),.int .i64 (Qb.getD 2 0),.int .i64 (Qb.getD 3 0)],.int .i64 k,pA 1 0,.tuple #[],.slice none 0 0,pA 4 0,.tuple #[],pA 1 0,pA 1 0,Q4 0 (QV rf.Qa.length (Qf Qn rf.Qa)),.slice (some {block:=3,off:=0}) rf.Qa.length 2,.agg #[Q4 0 (QV rf.Qa.length (Qf Qn rf.Qa)),.int .i64 rf.Qq,.int .i64 rf.Qd,.int .i64 (Qb.getD 0 0),.int .i64 (Qb.getD 1 0),.int .i64 (Qb.getD 2 0),.int .i64 (Qb.getD 3 0)],.int .i64 k,Value.func (Fn.func 112) #[] #[Q4 5 (P1 0 #[QV rf.Qa.length (Qf Qn rf.Qa),.int .i64 rf.Qq,.int .i64 rf.Qd,.int .i64 (Qb.getD 0 0),.int .i64 (Qb.getD 1 0),.int .i64 (Qb.getD 2 0),.int .i64 (Qb.getD 3 0)]),Q4 5 (P1 0 #[.int .i64 k])],.tuple #[],.tuple #[],.tuple #[],.tuple #[],.tuple #[],.tuple #[],.tuple #[],.tuple #[],.tuple #[],.tuple #[],.tuple #[],.tuple #[]]
def PV(rf:Qg)(Qb:List Int):Array Value:=#[QV rf.Qa.length (Qf Qn rf.Qa),.int .i64 rf.Qq,.int .i64 rf.Qd,.int .i64 (Qb.getD 0 0),.int .i64 (Qb.getD 1 0),.int .i64 (Qb.getD 2 0),.int .i64 (Qb.getD 3 0)]
def dO(rf:Qg)(i:Int):Value:=(.agg #[.int .i64 (Qc.Wj (rf.Qa.getD i.toNat Le)),.int .i64 (Qc.Wl (rf.Qa.getD i.toNat Le))])
def VQ(rf:Qg)(Qb:List Int)(k:Int):Qr:=[(1,Obj.cells #[Q4 0 (QV rf.Qa.length (Qf Qn rf.Qa)),.int .i64 rf.Qq,.int .i64 rf.Qd,.int .i64 (Qb.getD 0 0),.int .i64 (Qb.getD 1 0),.int .i64 (Qb.getD 2 0),.int .i64 (Qb.getD 3 0)] 84),(0,Obj.coro none)]
def Jc(rf:Qg)(Qb:List Int)(k:Int):CF:=⟨102,ofList 26 [Q4 0 (QV rf.Qa.length (Qf Qn rf.Qa)),Value.func (Fn.func 105) #[] #[]],[Item.code (Xa YP 102)],[],.run,none⟩
def K4(rf:Qg)(Qb:List Int)(k:Int)(i:Int)(ys:List Span):List Value:=[Value.func (Fn.func 105) #[] #[],.slice (some {block:=3,off:=0}) rf.Qa.length 2,Q4 0 (QV rf.Qa.length (Qf Qn rf.Qa)),.int .i64 (↑rf.Qa.length:Int),.int .i64 i]
def K3(rf:Qg)(Qb:List Int)(k:Int)(i:Int)(ys:List Span):List Obj:=[]
def WW(rf:Qg)(Qb:List Int)(k:Int)(i:Int)(ys:List Span):List Obj:=[.cells (Qf QM ys) 38 (0,0)]
def K5:List Item:=([.code [1,1,0,1,0,0],.inLoop [1,1,0,1,0,0],.inBlock 0,.code [1,1,1]]).map (it (Xa YP 102))
def PY(rf:Qg)(Qb:List Int)(k:Int)(i:Int)(ys:List Span)(Q0:Nat->Value):Qr:=[(4,Obj.cells (Ja (rf.Qa.getD i.toNat Le)) 54),(2,Obj.coro none),(3,Obj.cells (Qf QM ys) 38),(1,Obj.cells #[Q4 0 (QV rf.Qa.length (Qf Qn rf.Qa)),.int .i64 rf.Qq,.int .i64 rf.Qd,.int .i64 (Qb.getD 0 0),.int .i64 (Qb.getD 1 0),.int .i64 (Qb.getD 2 0),.int .i64 (Qb.getD 3 0)] 84),(0,Obj.coro none)]
def TO(rf:Qg)(Qb:List Int)(k:Int)(i:Int)(ys:List Span)(Q0:Nat->Value):CF:=⟨105,ofList 5 [.agg (Ja (rf.Qa.getD i.toNat Le))],[Item.code (Xa YP 105)],[],.run,none⟩
theorem ze(B:Lo)(rf:Qg)(Qb:List Int)(k:Int)(i:Int)(ys:List Span)(Q0:Nat->Value):CE.finK 5 (Q2 YP (QE YP) J0 B 6 5 (TO rf Qb k i ys Q0) (PY rf Qb k i ys Q0) 5
 [] 0 [] []) [] [] []=some (OO.ret (.agg #[.int .i64 (Qc.Wj (rf.Qa.getD i.toNat Le)),.int .i64 (Qc.Wl (rf.Qa.getD i.toNat Le))]),[],[],
 []):=by kernel_rfl
theorem zd(B:Lo)(rf:Qg)(Qb:List Int)(k:Int)(i:Int)(ys:List Span)(Q0:Nat->Value):CE.landA 2 (Q2 YP (QE YP) J0 B 13 2 (VO (none) 102 26 (([1,5,11,12,13]:List Nat).zip (K4 rf Qb k i ys)) Q0 K5) (Wo (VQ rf Qb k) 2 (([]:List Nat).zip (K3 rf Qb k i ys)) (WW rf Qb k i ys)) (2+1+(WW rf Qb k i ys).length)
 [(0,Vh),(2,Qk.tidx i.toNat (Ja (rf.Qa.getD i.toNat Le))),(11,Qk.call (Ln 5) (OO.ret (dO rf i)) ([]++(5,XG)::XF 6 []) 6 []),(12,Qk.Zl (Hint.idx i.toNat)),(13,Qk.Zl (Hint.st (Qf QM (Lj ys i.toNat {lo:=Qc.Wj (rf.Qa.getD i.toNat Le),hi:=Qc.Wl (rf.Qa.getD i.toNat Le)})))),(14,WL (i+1))] 0 [] []) [1,5,11,12,13] [] [(3,KS.cells [] (Qf QM (Lj ys i.toNat {lo:=Qc.Wj (rf.Qa.getD i.toNat Le),hi:=Qc.Wl (rf.Qa.getD i.toNat Le)})))] []=some ⟨102,26,K5,[],.run,none,K4 rf Qb k (i+1) (Lj ys i.toNat {lo:=Qc.Wj (rf.Qa.getD i.toNat Le),hi:=Qc.Wl (rf.Qa.getD i.toNat Le)}),([]:List Nat).zip (K3 rf Qb k (i+1) (Lj ys i.toNat {lo:=Qc.Wj (rf.Qa.getD i.toNat Le),hi:=Qc.Wl (rf.Qa.getD i.toNat Le)})),WW rf Qb k (i+1) (Lj ys i.toNat {lo:=Qc.Wj (rf.Qa.getD i.toNat Le),hi:=Qc.Wl (rf.Qa.getD i.toNat Le)}),
 [QQ 2 [] (Qf QM (Lj ys i.toNat {lo:=Qc.Wj (rf.Qa.getD i.toNat Le),hi:=Qc.Wl (rf.Qa.getD i.toNat Le)})) (Qf QM (Lj ys i.toNat {lo:=Qc.Wj (rf.Qa.getD i.toNat Le),hi:=Qc.Wl (rf.Qa.getD i.toNat Le)})),wq (i+1)=i+1,0+Lf i*2+TypeInfo.size Try.t38<=L4 (Qf QM ys)/\splice (Qf QM ys) (0+Lf i*2) (Value.cells (XJ {len:=16000,tr:=Tri.set 14 (Tri.set 14 Tri.lf 22 (dO rf i)) 23 (.pointer (some {block:=3,off:=0+Lf i*2}))} 22))=Qf QM (Lj ys i.toNat {lo:=Qc.Wj (rf.Qa.getD i.toNat Le),hi:=Qc.Wl (rf.Qa.getD i.toNat Le)}),i=(↑i.toNat:Int)/\Lf i<Li rf.Qa,FJ YP B (TO rf Qb k i ys Q0) (PY rf Qb k i ys Q0) 5 (OO.ret (dO rf i)) (([]++((5,XG)::XF (5+1) []))++PY rf Qb k i ys Q0) 6 (Ln 5) [],i=(↑i.toNat:Int)/\Lf i<Li rf.Qa/\Lz (Qf Qn rf.Qa) (Lf i*TypeInfo.size Try.t54) (Lf i*TypeInfo.size Try.t54+TypeInfo.size Try.t54)=(Ja (rf.Qa.getD i.toNat Le)),Zs i (↑rf.Qa.length:Int)=true]⟩:=by kernel_rfl
theorem zb(B:Lo)(rf:Qg)(Qb:List Int)(k:Int)(i:Int)(ys:List Span)(Q0:Nat->Value):CE.finK 2 (Q2 YP (QE YP) J0 B 9 2 (VO (none) 102 26 (([1,5,11,12,13]:List Nat).zip (K4 rf Qb k i ys)) Q0 K5) (Wo (VQ rf Qb k) 2 (([]:List Nat).zip (K3 rf Qb k i ys)) (WW rf Qb k i ys)) (2+1+(WW rf Qb k i ys).length)
 [(0,Ud)] 0 [] []) [] [(3,KS.cells [] (Qf QM ys))] []=some (OO.ret (.slice (some {block:=3,off:=0}) rf.Qa.length 2),[],[Obj.cells (Qf QM ys) 38],
 [QQ 2 [] (Qf QM ys) (Qf QM ys),Zs i (↑rf.Qa.length:Int)=false]):=by kernel_rfl
set_option maxHeartbeats 4000000 in
theorem oL(rf:Qg)(Qb:List Int)(k:Int)(hn:rf.Qa.length<=4)(hl:Qb.length<=4)(k0:0<=k)(k1:k<4)(hp:∀j:Nat,0<=Qb.getD j 0/\Qb.getD j 0<=1000000){B:Lo}(hJ:∀w,B.has w->J0 w):∀m:Nat,(∀(i:Int) (ys:List Span),(rf.Qa.length-i.toNat)=m->∀(h0:0<=i) (hy:ys=Ps Vr ⟨0,0⟩ rf.Qa i),(∃Q0:Nat->Value,(∀t,XH (Q0 t))/\GoE YP B (Jc rf Qb k) (VQ rf Qb k) 2 (VO (none) 102 26 (([1,5,11,12,13]:List Nat).zip (K4 rf Qb k i ys)) Q0 K5) (Wo (VQ rf Qb k) 2 (([]:List Nat).zip (K3 rf Qb k i ys)) (WW rf Qb k i ys)) (2+1+(WW rf Qb k i ys).length) ([]:List Nat))->FinK YP B (Jc rf Qb k) (VQ rf Qb k) 2 (.ret (.slice (some ⟨3,0,none⟩) rf.Qa.length 2)) (([]:List Nat).zip ([])) ([.cells (Qf QM (rf.Qa.map Vr)) 38 (0,0)]) ([]:List Nat)):=by
 intro m0;induction m0 using LQ with
 |_ m0 ih0=>
  intro i ys S1 h0 hy ⟨Q0,VE,Za⟩;have hyl:ys.length=rf.Qa.length:=by rw[hy];exact RB
  by_cases q0:(i:Int)<((↑rf.Qa.length:Int))
  ·have rj1:FJ YP B (TO rf Qb k i ys Q0) (PY rf Qb k i ys Q0) 5 (OO.ret (.agg #[.int .i64 (Qc.Wj (rf.Qa.getD i.toNat Le)),.int .i64 (Qc.Wl (rf.Qa.getD i.toNat Le))])) (([]++((5,XG)::XF (5+1) []))++PY rf Qb k i ys Q0) 6 (Ln 5) []:=by
    exact FinK.fjB (GoE.finK okF hJ Qh (QF (by kernel_rfl)) (Q5 (by kernel_rfl)) ((GoE.refl (P:=YP) (B:=B) (c0:=TO rf Qb k i ys Q0) (QF (by kernel_rfl))).widen (Wf:=((([]):List (Nat×KS)).map (·.1))) (by simp) (Q5 (by kernel_rfl))) (ze B rf Qb k i ys Q0)
     trivial) (ex:=[3]) (by kernel_rfl) ⟨trivial,⟨trivial,⟨(JB (t:=38) (fl:=(0,0)) (fun x=>List.all_eq_true.1 (by rfl))),⟨trivial,⟨trivial,trivial⟩⟩⟩⟩⟩
   exact((ih0 _ (by omega)) (i+1) (Lj ys i.toNat {lo:=Qc.Wj (rf.Qa.getD i.toNat Le),hi:=Qc.Wl (rf.Qa.getD i.toNat Le)}) rfl (by omega) (by(subst hy;exact RA (f:=Vr) h0 q0))
    (GoE.landA okF hJ Qh (QF (by kernel_rfl)) (Q5 (by kernel_rfl)) Za (zd B rf Qb k i ys Q0)
    (by exact⟨(Qs (Q1 (fun x=>List.all_eq_true.1 (by rfl)))),⟨(Xi (by omega) (by omega)),⟨(by exact WV (z:=2) (k:=Lf i) (fun _=>rfl) (by first|omega|(rw[LS];omega)|(rw[LR];omega)) rfl rfl),⟨⟨by omega,by omega⟩,⟨rj1,⟨⟨by omega,by omega,(Qy (z:=12) (fun _=>rfl) (by omega))⟩,⟨(XT q0),trivial⟩⟩⟩⟩⟩⟩⟩) (by kernel_rfl) (by kernel_rfl) (fun l hl=>by cases hl <;> decide))).cast (by rfl) (by rfl) (by rfl)
  ·exact(GoE.finK okF hJ Qh (QF (by kernel_rfl)) (Q5 (by kernel_rfl)) Za (zb B rf Qb k i ys Q0)
    ⟨(Qs (Q1 (fun x=>List.all_eq_true.1 (by rfl)))),⟨(Zw (Int.not_lt.1 q0)),trivial⟩⟩).cast (by rfl) (by rfl) (by(rw[hy,RC (by omega)];done))

theorem zf(B:Lo)(rf:Qg)(Qb:List Int)(k:Int):CE.landA 2 (Q2 YP (QE YP) J0 B 9 2 (Jc rf Qb k) (VQ rf Qb k) 2
 [(3,Qk.Zl (Hint.mk rf.Qa.length (Qf (Kk [.int .i64 0,.int .i64 0]) (Lm rf.Qa.length ()))))] 0 [] []) [1,5,11,12,13] [] [(2,KS.rows [] [] [] (Qf QM (Lm rf.Qa.length {lo:=0,hi:=0})))] []=some ⟨102,26,K5,[],.run,none,K4 rf Qb k (0) (Lm rf.Qa.length {lo:=0,hi:=0}),([]:List Nat).zip (K3 rf Qb k (0) (Lm rf.Qa.length {lo:=0,hi:=0})),WW rf Qb k (0) (Lm rf.Qa.length {lo:=0,hi:=0}),
 [X3 2 [] [] [] (Qf (Kk [.int .i64 0,.int .i64 0]) (Lm rf.Qa.length ())) (Qf QM (Lm rf.Qa.length {lo:=0,hi:=0})),SG YP 36 (XJ {len:=16000,tr:=Tri.set 14 Tri.lf 9 (.int .i64 (↑rf.Qa.length:Int))} 9) (XJ {len:=16000,tr:=Tri.set 14 Tri.lf 9 (.int .i64 (↑rf.Qa.length:Int))} 9)=some (38,Qf (Kk [.int .i64 0,.int .i64 0]) (Lm rf.Qa.length ()),Li rf.Qa,TypeInfo.size Try.t38)]⟩:=by kernel_rfl
def PX(rf:Qg)(Qb:List Int)(k:Int):Qr:=[(4,Obj.cells #[.slice (some {block:=3,off:=0}) rf.Qa.length 2] 36),(2,Obj.coro none),(3,Obj.cells (Qf QM (List.map Vr rf.Qa)) 38),(1,Obj.cells #[Q4 0 (QV rf.Qa.length (Qf Qn rf.Qa)),.int .i64 rf.Qq,.int .i64 rf.Qd,.int .i64 (Qb.getD 0 0),.int .i64 (Qb.getD 1 0),.int .i64 (Qb.getD 2 0),.int .i64 (Qb.getD 3 0)] 84),(0,Obj.coro none)]
def TN(rf:Qg)(Qb:List Int)(k:Int):CF:=⟨91,ofList 6 [.agg #[Q4 0 (QV rf.Qa.length (Qf Qn rf.Qa)),.int .i64 rf.Qq,.int .i64 rf.Qd,.int .i64 (Qb.getD 0 0),.int .i64 (Qb.getD 1 0),.int .i64 (Qb.getD 2 0),.int .i64 (Qb.getD 3 0)],.int .i64 k],[Item.code (Xa YP 91)],[],.run,none⟩
theorem za(B:Lo)(rf:Qg)(Qb:List Int)(k:Int):CE.finK 5 (Q2 YP (QE YP) J0 B 6 5 (TN rf Qb k) (PX rf Qb k) 5
 [] 0 [] []) [] [] [{k:=5,rs:=[0],cs:=#[QV rf.Qa.length (Qf Qn rf.Qa),.int .i64 rf.Qq,.int .i64 rf.Qd,.int .i64 (Qb.getD 0 0),.int .i64 (Qb.getD 1 0),.int .i64 (Qb.getD 2 0),.int .i64 (Qb.getD 3 0)]},{k:=6,rs:=[],cs:=#[.int .i64 k]}]=some (OO.ret (Value.func (Fn.func 112) #[] #[Q4 5 (P1 0 #[QV rf.Qa.length (Qf Qn rf.Qa),.int .i64 rf.Qq,.int .i64 rf.Qd,.int .i64 (Qb.getD 0 0),.int .i64 (Qb.getD 1 0),.int .i64 (Qb.getD 2 0),.int .i64 (Qb.getD 3 0)]),Q4 5 (P1 0 #[.int .i64 k])]),[],[],
 [Zk (Fz.rs {k:=5,rs:=[0],cs:=(PV rf Qb)}) #[Q4 0 (QV rf.Qa.length (Qf Qn rf.Qa)),.int .i64 rf.Qq,.int .i64 rf.Qd,.int .i64 (Qb.getD 0 0),.int .i64 (Qb.getD 1 0),.int .i64 (Qb.getD 2 0),.int .i64 (Qb.getD 3 0)] (Fz.cs {k:=5,rs:=[0],cs:=(PV rf Qb)}),Zk (Fz.rs {k:=6,rs:=[],cs:=#[.int .i64 k]}) #[.int .i64 k] (Fz.cs {k:=6,rs:=[],cs:=#[.int .i64 k]})]):=by kernel_rfl
def Vp(rf:Qg)(Qb:List Int)(k:Int):Qr:=[(7,Obj.loop {state:=LoopState.ready,pending:=none,fn:=84,tmps:=#[.agg #[Q4 0 (QV rf.Qa.length (Qf Qn rf.Qa)),.int .i64 rf.Qq,.int .i64 rf.Qd,.int .i64 (Qb.getD 0 0),.int .i64 (Qb.getD 1 0),.int .i64 (Qb.getD 2 0),.int .i64 (Qb.getD 3 0)],.int .i64 k,pA 1 0,.tuple #[],.slice none 0 0,pA 4 0,.tuple #[],pA 1 0,pA 1 0,Q4 0 (QV rf.Qa.length (Qf Qn rf.Qa)),.slice (some {block:=3,off:=0}) rf.Qa.length 2,.agg #[Q4 0 (QV rf.Qa.length (Qf Qn rf.Qa)),.int .i64 rf.Qq,.int .i64 rf.Qd,.int .i64 (Qb.getD 0 0),.int .i64 (Qb.getD 1 0),.int .i64 (Qb.getD 2 0),.int .i64 (Qb.getD 3 0)],.int .i64 k,Value.func (Fn.func 112) #[] #[Q4 5 (P1 0 #[QV rf.Qa.length (Qf Qn rf.Qa),.int .i64 rf.Qq,.int .i64 rf.Qd,.int .i64 (Qb.getD 0 0),.int .i64 (Qb.getD 1 0),.int .i64 (Qb.getD 2 0),.int .i64 (Qb.getD 3 0)]),Q4 5 (P1 0 #[.int .i64 k])],.tuple #[],.tuple #[],.tuple #[],.tuple #[],.tuple #[],.tuple #[],.tuple #[],.tuple #[],.tuple #[],.tuple #[],.tuple #[],.tuple #[]],params:=#[14],assign:=RM (Xa YP 84) [1,1,0,1,0,0],body:=RM (Xa YP 84) [1,1,0,1,0,1],defers:=6}),(6,Obj.deferred (some [])),(5,Obj.coro none),(4,Obj.cells #[.slice (some {block:=3,off:=0}) rf.Qa.length 2] 36),(2,Obj.coro none),(3,Obj.cells (Qf QM (List.map Vr rf.Qa)) 38),(1,Obj.cells #[Q4 0 (QV rf.Qa.length (Qf Qn rf.Qa)),.int .i64 rf.Qq,.int .i64 rf.Qd,.int .i64 (Qb.getD 0 0),.int .i64 (Qb.getD 1 0),.int .i64 (Qb.getD 2 0),.int .i64 (Qb.getD 3 0)] 84),(0,Obj.coro none)]
def Jb(rf:Qg)(Qb:List Int)(k:Int):CF:=⟨112,ofList 27 [Value.func (Fn.yield 7) #[] #[],Q4 5 (P1 0 #[QV rf.Qa.length (Qf Qn rf.Qa),.int .i64 rf.Qq,.int .i64 rf.Qd,.int .i64 (Qb.getD 0 0),.int .i64 (Qb.getD 1 0),.int .i64 (Qb.getD 2 0),.int .i64 (Qb.getD 3 0)]),Q4 5 (P1 0 #[.int .i64 k])],[Item.code (Xa YP 112)],[],.run,none⟩
def V5(rf:Qg)(Qb:List Int)(k:Int)(i:Int)(ys:List Span):List Value:=[Value.func (Fn.yield 7) #[] #[],Q4 5 (P1 0 #[QV rf.Qa.length (Qf Qn rf.Qa),.int .i64 rf.Qq,.int .i64 rf.Qd,.int .i64 (Qb.getD 0 0),.int .i64 (Qb.getD 1 0),.int .i64 (Qb.getD 2 0),.int .i64 (Qb.getD 3 0)]),Q4 5 (P1 0 #[.int .i64 k]),.int .i64 (↑rf.Qa.length:Int),.int .i64 i]
def V4(rf:Qg)(Qb:List Int)(k:Int)(i:Int)(ys:List Span):List Obj:=[Obj.loop {state:=LoopState.ready,pending:=none,fn:=84,tmps:=#[.agg #[Q4 0 (QV rf.Qa.length (Qf Qn rf.Qa)),.int .i64 rf.Qq,.int .i64 rf.Qd,.int .i64 (Qb.getD 0 0),.int .i64 (Qb.getD 1 0),.int .i64 (Qb.getD 2 0),.int .i64 (Qb.getD 3 0)],.int .i64 k,pA 1 0,.tuple #[],.slice none 0 0,pA 4 0,.tuple #[],pA 1 0,pA 1 0,Q4 0 (QV rf.Qa.length (Qf Qn rf.Qa)),.slice (some {block:=3,off:=0}) rf.Qa.length 2,.agg #[Q4 0 (QV rf.Qa.length (Qf Qn rf.Qa)),.int .i64 rf.Qq,.int .i64 rf.Qd,.int .i64 (Qb.getD 0 0),.int .i64 (Qb.getD 1 0),.int .i64 (Qb.getD 2 0),.int .i64 (Qb.getD 3 0)],.int .i64 k,Value.func (Fn.func 112) #[] #[Q4 5 (P1 0 #[QV rf.Qa.length (Qf Qn rf.Qa),.int .i64 rf.Qq,.int .i64 rf.Qd,.int .i64 (Qb.getD 0 0),.int .i64 (Qb.getD 1 0),.int .i64 (Qb.getD 2 0),.int .i64 (Qb.getD 3 0)]),Q4 5 (P1 0 #[.int .i64 k])],.tuple #[],.tuple #[],.tuple #[],.tuple #[],.tuple #[],.tuple #[],.tuple #[],.tuple #[],.tuple #[],.tuple #[],.tuple #[],.tuple #[]],params:=#[14],assign:=RM (Xa YP 84) [1,1,0,1,0,0],body:=RM (Xa YP 84) [1,1,0,1,0,1],defers:=6},.cells (Qf QM ys) 38 (0,0)]
def ZP(rf:Qg)(Qb:List Int)(k:Int)(i:Int)(ys:List Span):List Obj:=[]
def V6:List Item:=([.code [1,0,0],.inLoop [1,0,0],.inBlock 0]).map (it (Xa YP 112))
def dP(B:Lo)(rf:Qg)(Qb:List Int)(k:Int)(i:Int)(ys:List Span)(Q0:Nat->Value):List Prop:=[mE YP BinOp.and 3 (XJ {len:=16000,tr:=Tri.set 14 Tri.lf 17 (.int .i64 (↑(a8 (Qm [Qb.getD 0 0,Qb.getD 1 0,Qb.getD 2 0,Qb.getD 3 0] k.toNat) i):Int))} 17) (.int .i64 1) (.int .i64 (↑(qC (↑(a8 (Qm [Qb.getD 0 0,Qb.getD 1 0,Qb.getD 2 0,Qb.getD 3 0] k.toNat) i):Int) 1):Int)),mE YP BinOp.shr 3 (XJ {len:=16000,tr:=Tri.set 14 (Tri.set 14 Tri.lf 16 (.int .i64 i)) 15 (.int .i64 (Qm [Qb.getD 0 0,Qb.getD 1 0,Qb.getD 2 0,Qb.getD 3 0] k.toNat))} 15) (XJ {len:=16000,tr:=Tri.set 14 (Tri.set 14 Tri.lf 16 (.int .i64 i)) 15 (.int .i64 (Qm [Qb.getD 0 0,Qb.getD 1 0,Qb.getD 2 0,Qb.getD 3 0] k.toNat))} 16) (.int .i64 (↑(a8 (Qm [Qb.getD 0 0,Qb.getD 1 0,Qb.getD 2 0,Qb.getD 3 0] k.toNat) i):Int)),k=(↑k.toNat:Int)/\Lf k<4/\Lz (PV rf Qb) (3+Lf k*TypeInfo.size Try.t3) (3+Lf k*TypeInfo.size Try.t3+TypeInfo.size Try.t3)=#[.int .i64 (Qm [Qb.getD 0 0,Qb.getD 1 0,Qb.getD 2 0,Qb.getD 3 0] k.toNat)],Zs i (↑rf.Qa.length:Int)=true]++([]:List Prop)
def n7(rf:Qg)(Qb:List Int)(k:Int)(i:Int)(ys:List Span)(Q0:Nat->Value):QO:=[(0,Vh),(5,Qk.tarr k.toNat #[.int .i64 (Qm [Qb.getD 0 0,Qb.getD 1 0,Qb.getD 2 0,Qb.getD 3 0] k.toNat)]),(8,Qk.bin (.int .i64 (↑(a8 (Qm [Qb.getD 0 0,Qb.getD 1 0,Qb.getD 2 0,Qb.getD 3 0] k.toNat) i):Int))),(9,Qk.bin (.int .i64 (↑(qC (↑(a8 (Qm [Qb.getD 0 0,Qb.getD 1 0,Qb.getD 2 0,Qb.getD 3 0] k.toNat) i):Int) 1):Int)))]
def PW(rf:Qg)(Qb:List Int)(k:Int)(i:Int)(ys:List Span)(Q0:Nat->Value):Qr:=[(7,Obj.loop {state:=LoopState.ready,pending:=none,fn:=84,tmps:=#[.agg #[Q4 0 (QV rf.Qa.length (Qf Qn rf.Qa)),.int .i64 rf.Qq,.int .i64 rf.Qd,.int .i64 (Qb.getD 0 0),.int .i64 (Qb.getD 1 0),.int .i64 (Qb.getD 2 0),.int .i64 (Qb.getD 3 0)],.int .i64 k,pA 1 0,.tuple #[],.slice none 0 0,pA 4 0,.tuple #[],pA 1 0,pA 1 0,Q4 0 (QV rf.Qa.length (Qf Qn rf.Qa)),.slice (some {block:=3,off:=0}) rf.Qa.length 2,.agg #[Q4 0 (QV rf.Qa.length (Qf Qn rf.Qa)),.int .i64 rf.Qq,.int .i64 rf.Qd,.int .i64 (Qb.getD 0 0),.int .i64 (Qb.getD 1 0),.int .i64 (Qb.getD 2 0),.int .i64 (Qb.getD 3 0)],.int .i64 k,Value.func (Fn.func 112) #[] #[Q4 5 (P1 0 #[QV rf.Qa.length (Qf Qn rf.Qa),.int .i64 rf.Qq,.int .i64 rf.Qd,.int .i64 (Qb.getD 0 0),.int .i64 (Qb.getD 1 0),.int .i64 (Qb.getD 2 0),.int .i64 (Qb.getD 3 0)]),Q4 5 (P1 0 #[.int .i64 k])],.tuple #[],.tuple #[],.tuple #[],.tuple #[],.tuple #[],.tuple #[],.tuple #[],.tuple #[],.tuple #[],.tuple #[],.tuple #[],.tuple #[]],params:=#[14],assign:=RM (Xa YP 84) [1,1,0,1,0,0],body:=RM (Xa YP 84) [1,1,0,1,0,1],defers:=6}),(3,Obj.cells (Qf QM ys) 38),(8,Obj.coro none),(7,Obj.loop {state:=LoopState.ready,pending:=none,fn:=84,tmps:=#[.agg #[Q4 0 (QV rf.Qa.length (Qf Qn rf.Qa)),.int .i64 rf.Qq,.int .i64 rf.Qd,.int .i64 (Qb.getD 0 0),.int .i64 (Qb.getD 1 0),.int .i64 (Qb.getD 2 0),.int .i64 (Qb.getD 3 0)],.int .i64 k,pA 1 0,.tuple #[],.slice none 0 0,pA 4 0,.tuple #[],pA 1 0,pA 1 0,Q4 0 (QV rf.Qa.length (Qf Qn rf.Qa)),.slice (some {block:=3,off:=0}) rf.Qa.length 2,.agg #[Q4 0 (QV rf.Qa.length (Qf Qn rf.Qa)),.int .i64 rf.Qq,.int .i64 rf.Qd,.int .i64 (Qb.getD 0 0),.int .i64 (Qb.getD 1 0),.int .i64 (Qb.getD 2 0),.int .i64 (Qb.getD 3 0)],.int .i64 k,Value.func (Fn.func 112) #[] #[Q4 5 (P1 0 #[QV rf.Qa.length (Qf Qn rf.Qa),.int .i64 rf.Qq,.int .i64 rf.Qd,.int .i64 (Qb.getD 0 0),.int .i64 (Qb.getD 1 0),.int .i64 (Qb.getD 2 0),.int .i64 (Qb.getD 3 0)]),Q4 5 (P1 0 #[.int .i64 k])],.tuple #[],.tuple #[],.tuple #[],.tuple #[],.tuple #[],.tuple #[],.tuple #[],.tuple #[],.tuple #[],.tuple #[],.tuple #[],.tuple #[]],params:=#[14],assign:=RM (Xa YP 84) [1,1,0,1,0,0],body:=RM (Xa YP 84) [1,1,0,1,0,1],defers:=6}),(6,Obj.deferred (some [])),(5,Obj.coro none),(4,Obj.cells #[.slice (some {block:=3,off:=0}) rf.Qa.length 2] 36),(2,Obj.coro none),(3,Obj.cells (Qf QM (List.map Vr rf.Qa)) 38),(1,Obj.cells #[Q4 0 (QV rf.Qa.length (Qf Qn rf.Qa)),.int .i64 rf.Qq,.int .i64 rf.Qd,.int .i64 (Qb.getD 0 0),.int .i64 (Qb.getD 1 0),.int .i64 (Qb.getD 2 0),.int .i64 (Qb.getD 3 0)] 84),(0,Obj.coro none)]
def TM(rf:Qg)(Qb:List Int)(k:Int)(i:Int)(ys:List Span)(Q0:Nat->Value):CF:=⟨84,ofList 26 [.agg #[Q4 0 (QV rf.Qa.length (Qf Qn rf.Qa)),.int .i64 rf.Qq,.int .i64 rf.Qd,.int .i64 (Qb.getD 0 0),.int .i64 (Qb.getD 1 0),.int .i64 (Qb.getD 2 0),.int .i64 (Qb.getD 3 0)],.int .i64 k,pA 1 0,.tuple #[],.slice none 0 0,pA 4 0,.tuple #[],pA 1 0,pA 1 0,Q4 0 (QV rf.Qa.length (Qf Qn rf.Qa)),.slice (some {block:=3,off:=0}) rf.Qa.length 2,.agg #[Q4 0 (QV rf.Qa.length (Qf Qn rf.Qa)),.int .i64 rf.Qq,.int .i64 rf.Qd,.int .i64 (Qb.getD 0 0),.int .i64 (Qb.getD 1 0),.int .i64 (Qb.getD 2 0),.int .i64 (Qb.getD 3 0)],.int .i64 k,Value.func (Fn.func 112) #[] #[Q4 5 (P1 0 #[QV rf.Qa.length (Qf Qn rf.Qa),.int .i64 rf.Qq,.int .i64 rf.Qd,.int .i64 (Qb.getD 0 0),.int .i64 (Qb.getD 1 0),.int .i64 (Qb.getD 2 0),.int .i64 (Qb.getD 3 0)]),Q4 5 (P1 0 #[.int .i64 k])],.int .i64 i,.tuple #[],.tuple #[],.tuple #[],.tuple #[],.tuple #[],.tuple #[],.tuple #[],.tuple #[],.tuple #[],.tuple #[],.tuple #[]],[Item.code (RM (Xa YP 84) [1,1,0,1,0,0]),Item.beginRound,Item.code (RM (Xa YP 84) [1,1,0,1,0,1])],[],.run,some 7⟩
theorem yY(B:Lo)(rf:Qg)(Qb:List Int)(k:Int)(i:Int)(ys:List Span)(Q0:Nat->Value):CE.finK 9 (Q2 YP (QE YP) J0 B 6 9 (TM rf Qb k i ys Q0) (PW rf Qb k i ys Q0) 9
 [(7,Qk.tidx i.toNat (Ja (rf.Qa.getD i.toNat Le))),(10,Qk.Zl (Hint.idx i.toNat)),(11,Qk.Zl (Hint.st (Qf QM (Lj ys i.toNat {lo:=Qc.ZU (rf.Qa.getD i.toNat Le),hi:=Qc.ZV (rf.Qa.getD i.toNat Le)}))))] 0 [] []) [(7,KS.auto),(3,KS.cells [] (Qf QM (Lj ys i.toNat {lo:=Qc.ZU (rf.Qa.getD i.toNat Le),hi:=Qc.ZV (rf.Qa.getD i.toNat Le)})))] [] []=some (OO.ret (.bool true),[(7,Obj.loop {state:=LoopState.ready,pending:=none,fn:=84,tmps:=#[.agg #[Q4 0 (QV rf.Qa.length (Qf Qn rf.Qa)),.int .i64 rf.Qq,.int .i64 rf.Qd,.int .i64 (Qb.getD 0 0),.int .i64 (Qb.getD 1 0),.int .i64 (Qb.getD 2 0),.int .i64 (Qb.getD 3 0)],.int .i64 k,pA 1 0,.tuple #[],.slice none 0 0,pA 4 0,.tuple #[],pA 1 0,pA 1 0,Q4 0 (QV rf.Qa.length (Qf Qn rf.Qa)),.slice (some {block:=3,off:=0}) rf.Qa.length 2,.agg #[Q4 0 (QV rf.Qa.length (Qf Qn rf.Qa)),.int .i64 rf.Qq,.int .i64 rf.Qd,.int .i64 (Qb.getD 0 0),.int .i64 (Qb.getD 1 0),.int .i64 (Qb.getD 2 0),.int .i64 (Qb.getD 3 0)],.int .i64 k,Value.func (Fn.func 112) #[] #[Q4 5 (P1 0 #[QV rf.Qa.length (Qf Qn rf.Qa),.int .i64 rf.Qq,.int .i64 rf.Qd,.int .i64 (Qb.getD 0 0),.int .i64 (Qb.getD 1 0),.int .i64 (Qb.getD 2 0),.int .i64 (Qb.getD 3 0)]),Q4 5 (P1 0 #[.int .i64 k])],.tuple #[],.tuple #[],.tuple #[],.tuple #[],.tuple #[],.tuple #[],.tuple #[],.tuple #[],.tuple #[],.tuple #[],.tuple #[],.tuple #[]],params:=#[14],assign:=RM (Xa YP 84) [1,1,0,1,0,0],body:=RM (Xa YP 84) [1,1,0,1,0,1],defers:=6}),(3,Obj.cells (Qf QM (Lj ys i.toNat {lo:=Qc.ZU (rf.Qa.getD i.toNat Le),hi:=Qc.ZV (rf.Qa.getD i.toNat Le)})) 38)],[],
 [QQ 9 [] (Qf QM (Lj ys i.toNat {lo:=Qc.ZU (rf.Qa.getD i.toNat Le),hi:=Qc.ZV (rf.Qa.getD i.toNat Le)})) (Qf QM (Lj ys i.toNat {lo:=Qc.ZU (rf.Qa.getD i.toNat Le),hi:=Qc.ZV (rf.Qa.getD i.toNat Le)})),0+Lf i*2+TypeInfo.size Try.t38<=L4 (Qf QM ys)/\splice (Qf QM ys) (0+Lf i*2) (Value.cells (XJ {len:=16000,tr:=Tri.set 14 (Tri.set 14 Tri.lf 23 (.agg #[.int .i64 (Qc.ZU (rf.Qa.getD i.toNat Le)),.int .i64 (Qc.ZV (rf.Qa.getD i.toNat Le))])) 24 (.pointer (some {block:=3,off:=0+Lf i*2}))} 23))=Qf QM (Lj ys i.toNat {lo:=Qc.ZU (rf.Qa.getD i.toNat Le),hi:=Qc.ZV (rf.Qa.getD i.toNat Le)}),i=(↑i.toNat:Int)/\Lf i<Li rf.Qa,i=(↑i.toNat:Int)/\Lf i<Li rf.Qa/\Lz (Qf Qn rf.Qa) (Lf i*TypeInfo.size Try.t54) (Lf i*TypeInfo.size Try.t54+TypeInfo.size Try.t54)=(Ja (rf.Qa.getD i.toNat Le))]):=by kernel_rfl
theorem yX(B:Lo)(rf:Qg)(Qb:List Int)(k:Int)(i:Int)(ys:List Span)(Q0:Nat->Value):CE.landA 8 (Q2 YP (QE YP) J0 B 16 8 (VO (none) 112 27 (([0,1,2,8,9]:List Nat).zip (V5 rf Qb k i ys)) Q0 V6) (Wo (Vp rf Qb k) 8 (([7,3]:List Nat).zip (V4 rf Qb k i ys)) (ZP rf Qb k i ys)) (8+1+(ZP rf Qb k i ys).length)
 (n7 rf Qb k i ys Q0++[(10,Vh),(14,Qk.call (Ln 9) (OO.ret (.bool true)) ([(7,Obj.loop {state:=LoopState.ready,pending:=none,fn:=84,tmps:=(TL rf Qb k),params:=#[14],assign:=RM (Xa YP 84) [1,1,0,1,0,0],body:=RM (Xa YP 84) [1,1,0,1,0,1],defers:=6}),(3,Obj.cells (Qf QM (Lj ys i.toNat {lo:=Qc.ZU (rf.Qa.getD i.toNat Le),hi:=Qc.ZV (rf.Qa.getD i.toNat Le)})) 38)]++(9,XG)::XF 10 []) 10 [7,3]),(17,WL (i+1))]) 0 [] []) [0,1,2,8,9] [(7,KS.auto),(3,KS.cells [] (Qf QM (Lj ys i.toNat {lo:=Qc.ZU (rf.Qa.getD i.toNat Le),hi:=Qc.ZV (rf.Qa.getD i.toNat Le)})))] [] []=some ⟨112,27,V6,[],.run,none,V5 rf Qb k (i+1) (Lj ys i.toNat {lo:=Qc.ZU (rf.Qa.getD i.toNat Le),hi:=Qc.ZV (rf.Qa.getD i.toNat Le)}),([7,3]:List Nat).zip (V4 rf Qb k (i+1) (Lj ys i.toNat {lo:=Qc.ZU (rf.Qa.getD i.toNat Le),hi:=Qc.ZV (rf.Qa.getD i.toNat Le)})),ZP rf Qb k (i+1) (Lj ys i.toNat {lo:=Qc.ZU (rf.Qa.getD i.toNat Le),hi:=Qc.ZV (rf.Qa.getD i.toNat Le)}),
 [QQ 8 [] (Qf QM (Lj ys i.toNat {lo:=Qc.ZU (rf.Qa.getD i.toNat Le),hi:=Qc.ZV (rf.Qa.getD i.toNat Le)})) (Qf QM (Lj ys i.toNat {lo:=Qc.ZU (rf.Qa.getD i.toNat Le),hi:=Qc.ZV (rf.Qa.getD i.toNat Le)})),wq (i+1)=i+1,FJ YP B (TM rf Qb k i ys Q0) (PW rf Qb k i ys Q0) 9 (OO.ret (.bool true)) (([(7,Obj.loop {state:=LoopState.ready,pending:=none,fn:=84,tmps:=(TL rf Qb k),params:=#[14],assign:=RM (Xa YP 84) [1,1,0,1,0,0],body:=RM (Xa YP 84) [1,1,0,1,0,1],defers:=6}),(3,Obj.cells (Qf QM (Lj ys i.toNat {lo:=Qc.ZU (rf.Qa.getD i.toNat Le),hi:=Qc.ZV (rf.Qa.getD i.toNat Le)})) 38)]++((9,XG)::XF (9+1) []))++PW rf Qb k i ys Q0) 10 (Ln 9) [7,3],T3 (↑(qC (↑(a8 (Qm [Qb.getD 0 0,Qb.getD 1 0,Qb.getD 2 0,Qb.getD 3 0] k.toNat) i):Int) 1):Int) 1=true]++dP B rf Qb k i ys Q0⟩:=by kernel_rfl
theorem yW(B:Lo)(rf:Qg)(Qb:List Int)(k:Int)(i:Int)(ys:List Span)(Q0:Nat->Value):CE.landA 8 (Q2 YP (QE YP) J0 B 16 8 (VO (none) 112 27 (([0,1,2,8,9]:List Nat).zip (V5 rf Qb k i ys)) Q0 V6) (Wo (Vp rf Qb k) 8 (([7,3]:List Nat).zip (V4 rf Qb k i ys)) (ZP rf Qb k i ys)) (8+1+(ZP rf Qb k i ys).length)
 (n7 rf Qb k i ys Q0++[(10,Ud),(17,WL (i+1))]) 0 [] []) [0,1,2,8,9] [(7,KS.auto),(3,KS.cells [] (Qf QM ys))] [] []=some ⟨112,27,V6,[],.run,none,V5 rf Qb k (i+1) (ys),([7,3]:List Nat).zip (V4 rf Qb k (i+1) (ys)),ZP rf Qb k (i+1) (ys),
 [QQ 8 [] (Qf QM ys) (Qf QM ys),wq (i+1)=i+1,T3 (↑(qC (↑(a8 (Qm [Qb.getD 0 0,Qb.getD 1 0,Qb.getD 2 0,Qb.getD 3 0] k.toNat) i):Int) 1):Int) 1=false]++dP B rf Qb k i ys Q0⟩:=by kernel_rfl
theorem yV(B:Lo)(rf:Qg)(Qb:List Int)(k:Int)(i:Int)(ys:List Span)(Q0:Nat->Value):CE.finK 8 (Q2 YP (QE YP) J0 B 7 8 (VO (none) 112 27 (([0,1,2,8,9]:List Nat).zip (V5 rf Qb k i ys)) Q0 V6) (Wo (Vp rf Qb k) 8 (([7,3]:List Nat).zip (V4 rf Qb k i ys)) (ZP rf Qb k i ys)) (8+1+(ZP rf Qb k i ys).length)
 [(0,Ud)] 0 [] []) [(7,KS.auto),(3,KS.cells [] (Qf QM ys))] [] []=some (OO.ret (.tuple #[]),[(7,Obj.loop {state:=LoopState.ready,pending:=none,fn:=84,tmps:=#[.agg #[Q4 0 (QV rf.Qa.length (Qf Qn rf.Qa)),.int .i64 rf.Qq,.int .i64 rf.Qd,.int .i64 (Qb.getD 0 0),.int .i64 (Qb.getD 1 0),.int .i64 (Qb.getD 2 0),.int .i64 (Qb.getD 3 0)],.int .i64 k,pA 1 0,.tuple #[],.slice none 0 0,pA 4 0,.tuple #[],pA 1 0,pA 1 0,Q4 0 (QV rf.Qa.length (Qf Qn rf.Qa)),.slice (some {block:=3,off:=0}) rf.Qa.length 2,.agg #[Q4 0 (QV rf.Qa.length (Qf Qn rf.Qa)),.int .i64 rf.Qq,.int .i64 rf.Qd,.int .i64 (Qb.getD 0 0),.int .i64 (Qb.getD 1 0),.int .i64 (Qb.getD 2 0),.int .i64 (Qb.getD 3 0)],.int .i64 k,Value.func (Fn.func 112) #[] #[Q4 5 (P1 0 #[QV rf.Qa.length (Qf Qn rf.Qa),.int .i64 rf.Qq,.int .i64 rf.Qd,.int .i64 (Qb.getD 0 0),.int .i64 (Qb.getD 1 0),.int .i64 (Qb.getD 2 0),.int .i64 (Qb.getD 3 0)]),Q4 5 (P1 0 #[.int .i64 k])],.tuple #[],.tuple #[],.tuple #[],.tuple #[],.tuple #[],.tuple #[],.tuple #[],.tuple #[],.tuple #[],.tuple #[],.tuple #[],.tuple #[]],params:=#[14],assign:=RM (Xa YP 84) [1,1,0,1,0,0],body:=RM (Xa YP 84) [1,1,0,1,0,1],defers:=6}),(3,Obj.cells (Qf QM ys) 38)],[],
 [QQ 8 [] (Qf QM ys) (Qf QM ys),Zs i (↑rf.Qa.length:Int)=false]):=by kernel_rfl
set_option maxHeartbeats 4000000 in
theorem oK(rf:Qg)(Qb:List Int)(k:Int)(hn:rf.Qa.length<=4)(hl:Qb.length<=4)(k0:0<=k)(k1:k<4)(hp:∀j:Nat,0<=Qb.getD j 0/\Qb.getD j 0<=1000000){B:Lo}(hJ:∀w,B.has w->J0 w):∀m:Nat,(∀(i:Int) (ys:List Span),rf.Qa.length-i.toNat=m->∀(i0:0<=i) (hy:ys=RP rf.Qa (Qb.getD k.toNat 0) i),(∃Q0:Nat->Value,(∀t,XH (Q0 t))/\GoE YP B (Jb rf Qb k) (Vp rf Qb k) 8 (VO (none) 112 27 (([0,1,2,8,9]:List Nat).zip (V5 rf Qb k i ys)) Q0 V6) (Wo (Vp rf Qb k) 8 (([7,3]:List Nat).zip (V4 rf Qb k i ys)) (ZP rf Qb k i ys)) (8+1+(ZP rf Qb k i ys).length) ([7,3]:List Nat))->FinK YP B (Jb rf Qb k) (Vp rf Qb k) 8 (.ret (.tuple #[])) (([7,3]:List Nat).zip ([Obj.loop {state:=LoopState.ready,pending:=none,fn:=84,tmps:=#[.agg #[Q4 0 (QV rf.Qa.length (Qf Qn rf.Qa)),.int .i64 rf.Qq,.int .i64 rf.Qd,.int .i64 (Qb.getD 0 0),.int .i64 (Qb.getD 1 0),.int .i64 (Qb.getD 2 0),.int .i64 (Qb.getD 3 0)],.int .i64 k,pA 1 0,.tuple #[],.slice none 0 0,pA 4 0,.tuple #[],pA 1 0,pA 1 0,Q4 0 (QV rf.Qa.length (Qf Qn rf.Qa)),.slice (some {block:=3,off:=0}) rf.Qa.length 2,.agg #[Q4 0 (QV rf.Qa.length (Qf Qn rf.Qa)),.int .i64 rf.Qq,.int .i64 rf.Qd,.int .i64 (Qb.getD 0 0),.int .i64 (Qb.getD 1 0),.int .i64 (Qb.getD 2 0),.int .i64 (Qb.getD 3 0)],.int .i64 k,Value.func (Fn.func 112) #[] #[Q4 5 (P1 0 #[QV rf.Qa.length (Qf Qn rf.Qa),.int .i64 rf.Qq,.int .i64 rf.Qd,.int .i64 (Qb.getD 0 0),.int .i64 (Qb.getD 1 0),.int .i64 (Qb.getD 2 0),.int .i64 (Qb.getD 3 0)]),Q4 5 (P1 0 #[.int .i64 k])],.tuple #[],.tuple #[],.tuple #[],.tuple #[],.tuple #[],.tuple #[],.tuple #[],.tuple #[],.tuple #[],.tuple #[],.tuple #[],.tuple #[]],params:=#[14],assign:=RM (Xa YP 84) [1,1,0,1,0,0],body:=RM (Xa YP 84) [1,1,0,1,0,1],defers:=6},.cells (Qf QM (Zh rf.Qa (Qb.getD k.toNat 0))) 38 (0,0)])) ([]) ([7,3]:List Nat)):=by
 intro m0;induction m0 using LQ with
 |_ m0 ih0=>
  intro i ys S1 i0 hy ⟨Q0,VE,Za⟩;have hyl:ys.length=rf.Qa.length:=by rw[hy];simp[RP,Xk]
  have hpk:=hp k.toNat;have hse:=HP (k:=k.toNat) hl;have Po:=GH (n:=Qm [Qb.getD 0 0,Qb.getD 1 0,Qb.getD 2 0,Qb.getD 3 0] k.toNat) (k:=i) (by omega);by_cases q0:(i:Int)<((↑rf.Qa.length:Int))
  ·have VF:QB (dP B rf Qb k i ys Q0):=by
    exact⟨(FZ (by omega) (by omega) (by omega) (by omega)),⟨(FY (by omega) (by omega) (by omega)),⟨⟨by omega,by omega,DR (fs:=[Qb.getD 0 0,Qb.getD 1 0,Qb.getD 2 0,Qb.getD 3 0]) rfl (LY (m:=4) (by omega) rfl)⟩,⟨(XT q0),trivial⟩⟩⟩⟩
   by_cases q1:((↑(qC (↑(a8 (Qm [Qb.getD 0 0,Qb.getD 1 0,Qb.getD 2 0,Qb.getD 3 0] k.toNat) i):Int) 1):Int):Int)=(1)
   ·have rj3:FJ YP B (TM rf Qb k i ys Q0) (PW rf Qb k i ys Q0) 9 (OO.ret (.bool true)) (([(7,Obj.loop {state:=LoopState.ready,pending:=none,fn:=84,tmps:=#[.agg #[Q4 0 (QV rf.Qa.length (Qf Qn rf.Qa)),.int .i64 rf.Qq,.int .i64 rf.Qd,.int .i64 (Qb.getD 0 0),.int .i64 (Qb.getD 1 0),.int .i64 (Qb.getD 2 0),.int .i64 (Qb.getD 3 0)],.int .i64 k,pA 1 0,.tuple #[],.slice none 0 0,pA 4 0,.tuple #[],pA 1 0,pA 1 0,Q4 0 (QV rf.Qa.length (Qf Qn rf.Qa)),.slice (some {block:=3,off:=0}) rf.Qa.length 2,.agg #[Q4 0 (QV rf.Qa.length (Qf Qn rf.Qa)),.int .i64 rf.Qq,.int .i64 rf.Qd,.int .i64 (Qb.getD 0 0),.int .i64 (Qb.getD 1 0),.int .i64 (Qb.getD 2 0),.int .i64 (Qb.getD 3 0)],.int .i64 k,Value.func (Fn.func 112) #[] #[Q4 5 (P1 0 #[QV rf.Qa.length (Qf Qn rf.Qa),.int .i64 rf.Qq,.int .i64 rf.Qd,.int .i64 (Qb.getD 0 0),.int .i64 (Qb.getD 1 0),.int .i64 (Qb.getD 2 0),.int .i64 (Qb.getD 3 0)]),Q4 5 (P1 0 #[.int .i64 k])],.tuple #[],.tuple #[],.tuple #[],.tuple #[],.tuple #[],.tuple #[],.tuple #[],.tuple #[],.tuple #[],.tuple #[],.tuple #[],.tuple #[]],params:=#[14],assign:=RM (Xa YP 84) [1,1,0,1,0,0],body:=RM (Xa YP 84) [1,1,0,1,0,1],defers:=6}),(3,Obj.cells (Qf QM (Lj ys i.toNat {lo:=Qc.ZU (rf.Qa.getD i.toNat Le),hi:=Qc.ZV (rf.Qa.getD i.toNat Le)})) 38)]++((9,XG)::XF (9+1) []))++PW rf Qb k i ys Q0) 10 (Ln 9) [7,3]:=by
     have hyes:=iu (ps:=rf.Qa) (p:=Qb.getD k.toNat 0) i0 q0 (by rw[<-oA,<-hse];exact decide_eq_true q1);exact FinK.fjB (GoE.finK okF hJ Qh (QF (by kernel_rfl)) (Q5 (by kernel_rfl)) ((GoE.refl (P:=YP) (B:=B) (c0:=TM rf Qb k i ys Q0) (QF (by kernel_rfl))).widen (Wf:=((([(7,KS.auto),(3,KS.cells [] (Qf QM (Lj ys i.toNat {lo:=Qc.ZU (rf.Qa.getD i.toNat Le),hi:=Qc.ZV (rf.Qa.getD i.toNat Le)})))]):List (Nat×KS)).map (·.1))) (by simp) (Q5 (by kernel_rfl))) (yY B rf Qb k i ys Q0)
      ⟨(Qs (Q1 (fun x=>List.all_eq_true.1 (by rfl)))),⟨(by exact WV (z:=2) (k:=Lf i) (fun _=>rfl) (by first|omega|(rw[LS];omega)|(rw[LR];omega)) rfl rfl),⟨⟨by omega,by omega⟩,⟨⟨by omega,by omega,(Qy (z:=12) (fun _=>rfl) (by omega))⟩,trivial⟩⟩⟩⟩) (ex:=[3]) (by kernel_rfl) ⟨trivial,⟨(JB (t:=38) (fl:=(0,0)) (fun x=>List.all_eq_true.1 (by rfl))),⟨trivial,⟨trivial,⟨trivial,⟨trivial,⟨trivial,⟨trivial,⟨(JB (t:=38) (fl:=(0,0)) (fun x=>List.all_eq_true.1 (by rfl))),⟨trivial,⟨trivial,trivial⟩⟩⟩⟩⟩⟩⟩⟩⟩⟩⟩
    have hyes:=iu (ps:=rf.Qa) (p:=Qb.getD k.toNat 0) i0 q0 (by rw[<-oA,<-hse];exact decide_eq_true q1);exact((ih0 _ (by omega)) (i+1) (Lj ys i.toNat {lo:=Qc.ZU (rf.Qa.getD i.toNat Le),hi:=Qc.ZV (rf.Qa.getD i.toNat Le)}) rfl (by omega) (by(rw[hy];exact hyes))
     (GoE.landA okF hJ Qh (QF (by kernel_rfl)) (Q5 (by kernel_rfl)) Za (yX B rf Qb k i ys Q0)
     (by exact⟨(Qs (Q1 (fun x=>List.all_eq_true.1 (by rfl)))),⟨(Xi (by omega) (by omega)),⟨rj3,⟨(R6 q1),VF⟩⟩⟩⟩) (by kernel_rfl) (by kernel_rfl) (fun l hl=>by cases hl <;> decide))).cast (by rfl) (by rfl) (by rfl)
   ·have hno:=yz (ps:=rf.Qa) (p:=Qb.getD k.toNat 0) i0 (by rw[<-oA,<-hse];exact decide_eq_false q1);exact((ih0 _ (by omega)) (i+1) (ys) rfl (by omega) (by(rw[hy];exact hno))
     (GoE.landA okF hJ Qh (QF (by kernel_rfl)) (Q5 (by kernel_rfl)) Za (yW B rf Qb k i ys Q0)
     ⟨(Qs (Q1 (fun x=>List.all_eq_true.1 (by rfl)))),⟨(Xi (by omega) (by omega)),⟨(T0 q1),VF⟩⟩⟩ (by kernel_rfl) (by kernel_rfl) (fun l hl=>by cases hl <;> decide))).cast (by rfl) (by rfl) (by rfl)
  ·exact(GoE.finK okF hJ Qh (QF (by kernel_rfl)) (Q5 (by kernel_rfl)) Za (yV B rf Qb k i ys Q0)
    ⟨(Qs (Q1 (fun x=>List.all_eq_true.1 (by rfl)))),⟨(Zw (Int.not_lt.1 q0)),trivial⟩⟩).cast (by rfl) (by(rw[hy,vu (by omega)];rfl)) (by rfl)

theorem yZ(B:Lo)(rf:Qg)(Qb:List Int)(k:Int):CE.landA 8 (Q2 YP (QE YP) J0 B 4 8 (Jb rf Qb k) (Vp rf Qb k) 8
 [] 0 [] []) [0,1,2,8,9] [(7,KS.auto),(3,KS.cells [] (Qf QM (List.map Vr rf.Qa)))] [] []=some ⟨112,27,V6,[],.run,none,V5 rf Qb k (0) (List.map Vr rf.Qa),([7,3]:List Nat).zip (V4 rf Qb k (0) (List.map Vr rf.Qa)),ZP rf Qb k (0) (List.map Vr rf.Qa),
 [QQ 8 [] (Qf QM (List.map Vr rf.Qa)) (Qf QM (List.map Vr rf.Qa))]⟩:=by kernel_rfl
theorem vJ(B:Lo)(rf:Qg)(Qb:List Int)(k:Int):X2 (Q2 YP (QE YP) J0 B 16 1 (Q3 YP 84 26 (([.agg (X8 rf Qb).toArray,.int .i64 k]).map (QD 0 4))) Z9 1
 [(5,Qk.call (Ln 2) (OO.ret (.slice (some {block:=3,off:=0}) rf.Qa.length 2)) ([]++(2,XG)::XF 3 [Obj.cells (Qf QM (List.map Vr rf.Qa)) 38]) 4 []),(10,Qk.call (Ln 5) (OO.ret (Value.func (Fn.func 112) #[] #[Q4 5 (P1 0 (PV rf Qb)),Q4 5 (P1 0 #[.int .i64 k])])) ([]++(5,XG)::XF 6 []) 6 []),(11,Qk.call (Ln 8) (OO.ret (.tuple #[])) ([(7,Obj.loop {state:=LoopState.ready,pending:=none,fn:=84,tmps:=(TL rf Qb k),params:=#[14],assign:=RM (Xa YP 84) [1,1,0,1,0,0],body:=RM (Xa YP 84) [1,1,0,1,0,1],defers:=6}),(3,Obj.cells (Qf QM (Zh rf.Qa (Qb.getD k.toNat 0))) 38)]++(8,XG)::XF 9 []) 9 [7,3])] 0 [] []) [{k:=3,rs:=[],cs:=Qf QM (Zh rf.Qa (Qb.getD k.toNat 0))}]=some (QV rf.Qa.length (Fz.cs {k:=3,rs:=[],cs:=Qf QM (Zh rf.Qa (Qb.getD k.toNat 0))}),
 [Zk (Fz.rs {k:=3,rs:=[],cs:=Qf QM (Zh rf.Qa (Qb.getD k.toNat 0))}) (Qf QM (Zh rf.Qa (Qb.getD k.toNat 0))) (Fz.cs {k:=3,rs:=[],cs:=Qf QM (Zh rf.Qa (Qb.getD k.toNat 0))}),FJ YP B (Jb rf Qb k) (Vp rf Qb k) 8 (OO.ret (.tuple #[])) (([(7,Obj.loop {state:=LoopState.ready,pending:=none,fn:=84,tmps:=(TL rf Qb k),params:=#[14],assign:=RM (Xa YP 84) [1,1,0,1,0,0],body:=RM (Xa YP 84) [1,1,0,1,0,1],defers:=6}),(3,Obj.cells (Qf QM (Zh rf.Qa (Qb.getD k.toNat 0))) 38)]++((8,XG)::XF (8+1) []))++Vp rf Qb k) 9 (Ln 8) [7,3],FJ YP B (TN rf Qb k) (PX rf Qb k) 5 (OO.ret (Value.func (Fn.func 112) #[] #[Q4 5 (P1 0 (PV rf Qb)),Q4 5 (P1 0 #[.int .i64 k])])) (([]++((5,XG)::XF (5+1) []))++PX rf Qb k) 6 (Ln 5) [],FJ YP B (Jc rf Qb k) (VQ rf Qb k) 2 (OO.ret (.slice (some {block:=3,off:=0}) rf.Qa.length 2)) (([]++((2,XG)::XF (2+1) [Obj.cells (Qf QM (List.map Vr rf.Qa)) 38]))++VQ rf Qb k) 4 (Ln 2) []]):=by kernel_rfl
set_option maxHeartbeats 4000000 in
theorem Cp(rf:Qg)(Qb:List Int)(k:Int)(hn:rf.Qa.length<=4)(hl:Qb.length<=4)(k0:0<=k)(k1:k<4)(hp:∀j:Nat,0<=Qb.getD j 0/\Qb.getD j 0<=1000000){B:Lo}(hJ:∀w,B.has w->J0 w):EndsT YP B (Q3 YP 84 26 (([.agg (X8 rf Qb).toArray,.int .i64 k]).map (QD 0 4))) (Pz (Zh rf.Qa (Qb.getD k.toNat 0))):=by
 have rj0:FJ YP B (Jc rf Qb k) (VQ rf Qb k) 2 (OO.ret (.slice (some {block:=3,off:=0}) rf.Qa.length 2)) (([]++((2,XG)::XF (2+1) [Obj.cells (Qf QM (List.map Vr rf.Qa)) 38]))++VQ rf Qb k) 4 (Ln 2) []:=by
  exact FinK.fjB ((oL rf Qb k hn hl k0 k1 hp hJ _) (0) (Lm rf.Qa.length {lo:=0,hi:=0}) rfl (by omega) (by exact dt)
   (GoE.landA okF hJ Qh (QF (by kernel_rfl)) (Q5 (by kernel_rfl)) ((GoE.refl (P:=YP) (B:=B) (c0:=Jc rf Qb k) (QF (by kernel_rfl))).widen (Wf:=((([]):List (Nat×KS)).map (·.1))) (by simp) (Q5 (by kernel_rfl))) (zf B rf Qb k)
   ⟨(by exact(Ku (by exact⟨(.simple rfl),⟨(.simple rfl),trivial⟩⟩) _)),⟨(mz (bytes:=16) (by kernel_rfl) (by omega) (by omega) (by omega)),trivial⟩⟩ (by kernel_rfl) (by kernel_rfl) (fun l hl=>by cases hl <;> decide))) (ex:=[]) (by kernel_rfl) (KA _)
 have rj1:FJ YP B (TN rf Qb k) (PX rf Qb k) 5 (OO.ret (Value.func (Fn.func 112) #[] #[Q4 5 (P1 0 #[QV rf.Qa.length (Qf Qn rf.Qa),.int .i64 rf.Qq,.int .i64 rf.Qd,.int .i64 (Qb.getD 0 0),.int .i64 (Qb.getD 1 0),.int .i64 (Qb.getD 2 0),.int .i64 (Qb.getD 3 0)]),Q4 5 (P1 0 #[.int .i64 k])])) (([]++((5,XG)::XF (5+1) []))++PX rf Qb k) 6 (Ln 5) []:=by
  exact FinK.fjB (GoE.finK okF hJ Qh (QF (by kernel_rfl)) (Q5 (by kernel_rfl)) ((GoE.refl (P:=YP) (B:=B) (c0:=TN rf Qb k) (QF (by kernel_rfl))).widen (Wf:=((([]):List (Nat×KS)).map (·.1))) (by simp) (Q5 (by kernel_rfl))) (za B rf Qb k)
   ⟨(Al (by kernel_rfl)),⟨(aF (by kernel_rfl)),trivial⟩⟩) (ex:=[3]) (by kernel_rfl) ⟨trivial,⟨trivial,⟨(JB (t:=38) (fl:=(0,0)) (fun x=>List.all_eq_true.1 (by rfl))),⟨trivial,⟨trivial,trivial⟩⟩⟩⟩⟩
 have rj2:FJ YP B (Jb rf Qb k) (Vp rf Qb k) 8 (OO.ret (.tuple #[])) (([(7,Obj.loop {state:=LoopState.ready,pending:=none,fn:=84,tmps:=#[.agg #[Q4 0 (QV rf.Qa.length (Qf Qn rf.Qa)),.int .i64 rf.Qq,.int .i64 rf.Qd,.int .i64 (Qb.getD 0 0),.int .i64 (Qb.getD 1 0),.int .i64 (Qb.getD 2 0),.int .i64 (Qb.getD 3 0)],.int .i64 k,pA 1 0,.tuple #[],.slice none 0 0,pA 4 0,.tuple #[],pA 1 0,pA 1 0,Q4 0 (QV rf.Qa.length (Qf Qn rf.Qa)),.slice (some {block:=3,off:=0}) rf.Qa.length 2,.agg #[Q4 0 (QV rf.Qa.length (Qf Qn rf.Qa)),.int .i64 rf.Qq,.int .i64 rf.Qd,.int .i64 (Qb.getD 0 0),.int .i64 (Qb.getD 1 0),.int .i64 (Qb.getD 2 0),.int .i64 (Qb.getD 3 0)],.int .i64 k,Value.func (Fn.func 112) #[] #[Q4 5 (P1 0 #[QV rf.Qa.length (Qf Qn rf.Qa),.int .i64 rf.Qq,.int .i64 rf.Qd,.int .i64 (Qb.getD 0 0),.int .i64 (Qb.getD 1 0),.int .i64 (Qb.getD 2 0),.int .i64 (Qb.getD 3 0)]),Q4 5 (P1 0 #[.int .i64 k])],.tuple #[],.tuple #[],.tuple #[],.tuple #[],.tuple #[],.tuple #[],.tuple #[],.tuple #[],.tuple #[],.tuple #[],.tuple #[],.tuple #[]],params:=#[14],assign:=RM (Xa YP 84) [1,1,0,1,0,0],body:=RM (Xa YP 84) [1,1,0,1,0,1],defers:=6}),(3,Obj.cells (Qf QM (Zh rf.Qa (Qb.getD k.toNat 0))) 38)]++((8,XG)::XF (8+1) []))++Vp rf Qb k) 9 (Ln 8) [7,3]:=by
  exact FinK.fjB ((oK rf Qb k hn hl k0 k1 hp hJ _) (0) (List.map Vr rf.Qa) rfl (by omega) (by exact A6)
   (GoE.landA okF hJ Qh (QF (by kernel_rfl)) (Q5 (by kernel_rfl)) ((GoE.refl (P:=YP) (B:=B) (c0:=Jb rf Qb k) (QF (by kernel_rfl))).widen (Wf:=((([(7,KS.auto),(3,KS.cells [] (Qf QM (List.map Vr rf.Qa)))]):List (Nat×KS)).map (·.1))) (by simp) (Q5 (by kernel_rfl))) (yZ B rf Qb k)
   ⟨(Qs (Q1 (fun x=>List.all_eq_true.1 (by rfl)))),trivial⟩ (by kernel_rfl) (by kernel_rfl) (fun l hl=>by cases hl <;> decide))) (ex:=[3]) (by kernel_rfl) ⟨trivial,⟨trivial,⟨trivial,⟨trivial,⟨trivial,⟨(JB (t:=38) (fl:=(0,0)) (fun x=>List.all_eq_true.1 (by rfl))),⟨trivial,⟨trivial,trivial⟩⟩⟩⟩⟩⟩⟩⟩
 exact(GoE.endsT okF hJ Qh GoE.start (vJ B rf Qb k)
  ⟨(XP (fun x=>List.all_eq_true.1 (by rfl))),⟨rj2,⟨rj1,⟨rj0,trivial⟩⟩⟩⟩).cast (by exact bD rfl (by rw[Zh,Xk];omega))
theorem Ha(rf:Qg)(Qb:List Int)(k:Int)(hn:rf.Qa.length<=4)(hl:Qb.length<=4)(k0:0<=k)(k1:k<4)(hp:∀j:Nat,0<=Qb.getD j 0/\Qb.getD j 0<=1000000):Q6 YP J0 84 #[.agg (X8 rf Qb).toArray,.int .i64 k] (Pz (Zh rf.Qa (Qb.getD k.toNat 0))):=
 XD (ts:=[.agg (X8 rf Qb).toArray,.int .i64 k]) ZF (c0:=Q3 YP 84 26 (([.agg (X8 rf Qb).toArray,.int .i64 k]).map (QD 0 4))) (by kernel_rfl) (by kernel_rfl) fun B hJ=>Cp rf Qb k hn hl k0 k1 hp hJ
end
end Go.Proofs.Ytncjjangllkokaa

namespace Go.Proofs.Ytncjjangllkokaa
open Go Go.CE Go.RowKit
def QW(a b:Int)(g:Int->Int):Int:=qW ((JV a b).map g)
theorem WT{a b:Int}{g:Int->Int}(h:b<=a):QW a b g=0:=by
 unfold QW;rw[xC h];rfl
theorem qU:∀(l m:List Int),qW (l++m)=qW l+qW m
 |[],m=>by simp[qW]
 |x::l,m=>by simp only[List.cons_append,qW,qU l m];omega
theorem QT{i:Int}{g:Int->Int}(h:0<=i):QW 0 (i+1) g=QW 0 i g+g i:=by
 have e:JV 0 (i+1)=JV 0 i++[i]:=by
  unfold JV;rw[show(i+1-0).toNat=(i-0).toNat+1 by omega,List.range_succ,List.map_append];congr 1;simp;omega
 unfold QW;rw[e,List.map_append,qU];simp[qW]
theorem Wq{g:Int->Int}{K:Int}:∀(k:Nat),(∀m:Int,0<=m->m<k->0<=g m/\g m<=K)->0<=QW 0 k g/\QW 0 k g<=K*k
 |0,_=>by rw[WT (by omega)];omega
 |k+1,h=>by
  have ih:=Wq k fun m h0 h1=>h m h0 (by omega)
  have h2:=h k (by omega) (by omega);rw[show((k+1:Nat):Int)=(k:Int)+1 by omega,QT (by omega),Int.mul_add,Int.mul_one];omega
structure F4 where
 a:Int
 b:Int
 c:Int
 d:Int
deriving Inhabited
def F4.at(f:F4)(k:Int):Int:=Qm [f.a,f.b,f.c,f.d] k.toNat
def F4.sum(f:F4):Int:=f.a+f.b+f.c+f.d
def Eg(g:Int->Int):F4:=⟨g 0,g 1,g 2,g 3⟩
theorem bp{i:Int}(h0:0<=i)(h:i<4):i=0\/i=1\/i=2\/i=3:=by omega
theorem T9{g:Int->Int}{k:Int}(h0:0<=k)(h:k<4):(Eg g).at k=g k:=by
 rcases bp h0 h with rfl|rfl|rfl|rfl <;> rfl
def PC(f:F4):Prop:=(0<=f.a/\0<=f.b/\0<=f.c/\0<=f.d)/\f.sum<=100000000000
theorem Wp{f:F4}(hf:PC f){i:Int}(h0:0<=i)(h:i<4):0<=f.at i/\f.at i<=f.sum/\f.sum<=100000000000:=by
 obtain⟨⟨h1,h2,h3,h4⟩,h5⟩:=hf;have e:f.sum=f.a+f.b+f.c+f.d:=rfl;have h5':=h5;rw[e]at h5' ⊢;rcases bp h0 h with rfl|rfl|rfl|rfl
 ·have:f.at 0=f.a:=rfl;omega
 ·have:f.at 1=f.b:=rfl;omega
 ·have:f.at 2=f.c:=rfl;omega
 ·have:f.at 3=f.d:=rfl;omega
abbrev P2(ps:List Qc)(k:Int):Qc:=ps.getD k.toNat Le
abbrev nth(xs:List Int)(k:Int):Int:=xs.getD k.toNat Le
def J3(ps:List Qc):Prop:=ps.length<=4/\∀k:Int,0<=k->k<ps.length->(0<=(P2 ps k).room/\(P2 ps k).room<=1000000)/\(0<=(P2 ps k).Qv/\(P2 ps k).Qv<=1000)/\YI ps.length (P2 ps k).QU=true/\(P2 ps k).QU≠k
def K8(n:Nat)(xs:List Int)(m:Int):Prop:=xs.length=n/\∀k:Int,0<=k->k<n->0<=nth xs k/\nth xs k<=m
def Z1(gs:List Int)(ps:List Qc)(f:F4)(k:Int):Int:=XK (P2 ps k).room (f.at k) (nth gs k)
def Xj(gs:List Int)(ps:List Qc)(f:F4)(i j:Int):Int:=if j<i then f.at j+Z1 gs ps f j else f.at j
def Vu(gs:List Int)(ps:List Qc)(f:F4):F4:=Eg (Xj gs ps f ps.length)
def Vi(ps:List Qc)(b:F4)(k:Int):Int:=(b.at k*(P2 ps k).Qv).tdiv 1000
def Wb(ps:List Qc)(b:F4)(i j:Int):Int:=b.at j-(if j<i then Vi ps b j else 0)+QW 0 i (fun m=>if(P2 ps m).QU=j then Vi ps b m else 0)
def bl(ps:List Qc)(b:F4):F4:=Eg (Wb ps b ps.length)
def Zr(ps:List Qc)(b:F4)(j:Int):Int:=if(P2 ps j).QU= -1 then Vi ps b j else 0
def Zt(ts:List Int)(b:F4)(k:Int):Int:=if nth ts k<b.at k then nth ts k else b.at k
def YK(ts:List Int)(b:F4)(i j:Int):Int:=if j<i then b.at j-Zt ts b j else b.at j
def Ef(ts:List Int)(ps:List Qc)(b:F4):F4:=Eg (YK ts b ps.length)
def Xn(gs ts:List Int)(ps:List Qc)(f:F4):F4:=Ef ts ps (bl ps (Vu gs ps f))
theorem bB{g:Int->Int}{i:Int}(h0:0<=i)(h:i<4):Qm [g 0,g 1,g 2,g 3] i.toNat=g i:=by
 rcases bp h0 h with rfl|rfl|rfl|rfl <;> rfl
theorem wW{gs:List Int}{ps:List Qc}{f:F4}{i:Int}:Xj gs ps f i i=f.at i:=by
 unfold Xj;rw[if_neg (by omega)]
theorem Dt{gs:List Int}{ps:List Qc}{f:F4}{i:Int}{j:Nat}:(if i.toNat=j then f.at i+Z1 gs ps f i else Xj gs ps f i j)=Xj gs ps f (i+1) j\/i<0:=by
 by_cases h0:0<=i
 ·refine .inl ?_;unfold Xj;by_cases h:i.toNat=j
  ·have e1:i=(j:Int):=by omega
   rw[if_pos h,if_pos (by omega),e1]
  ·rw[if_neg h];by_cases h2:(j:Int)<i
   ·rw[if_pos h2,if_pos (by omega)]
   ·rw[if_neg h2,if_neg (by omega)]
 ·exact .inr (by omega)
theorem gT{gs:List Int}{ps:List Qc}{f:F4}{i:Int}{j:Nat}(h0:0<=i):(if i.toNat=j then f.at i+Z1 gs ps f i else Xj gs ps f i j)=Xj gs ps f (i+1) j:=Dt.resolve_right (by omega)
theorem DL{room s t:Int}{w:Int}(ht:t=w.tdiv 1000)(h:0<=t):(if(if room-s > 0 then room-s else 0)<t then(if room-s > 0 then room-s else 0)else t)=if room<=s then 0 else if t<room-s then t else room-s:=by
 by_cases h1:room<=s
 ·rw[if_pos h1,if_neg (show ¬room-s > 0 by omega)];by_cases h2:0<t
  ·rw[if_pos h2]
  ·rw[if_neg h2];omega
 ·rw[if_neg h1,if_pos (show room-s > 0 by omega)];by_cases h2:room-s<t
  ·rw[if_pos h2,if_neg (by omega)]
  ·by_cases h3:t<room-s
   ·rw[if_neg h2,if_pos h3]
   ·rw[if_neg h2,if_neg h3];omega
theorem Pw{gs:List Int}{ps:List Qc}{f:F4}{i:Int}(hp:J3 ps)(hg:K8 ps.length gs 2000)(hf:PC f)(h0:0<=i)(h:i<ps.length):0<=Z1 gs ps f i/\Z1 gs ps f i<=1000000:=by
 have h1:=hp.2 i h0 h;have h2:=hg.2 i h0 h;have ha:=Wp hf h0 (by have:=hp.1;omega);have hm:=K9 (a:=f.at i) (r:=nth gs i) (by omega) (by omega);unfold Z1 XK;split
 ·omega
 ·split <;> omega
theorem Y4{ps:List Qc}{b:F4}{i j:Int}(h:0<=i):Wb ps b (i+1) j=Wb ps b i j-(if j=i then Vi ps b i else 0)+(if(P2 ps i).QU=j then Vi ps b i else 0):=by
 unfold Wb;rw[QT h];by_cases e:j=i
 ·subst e;rw[if_pos (show j<j+1 by omega),if_neg (show ¬j<j by omega),if_pos rfl];omega
 ·rw[if_neg e];by_cases e2:j<i
  ·rw[if_pos e2,if_pos (by omega)];omega
  ·rw[if_neg e2,if_neg (by omega)];omega
theorem aE{ps:List Qc}{b:F4}{j:Int}(h:0<=j):Wb ps b 0 j=b.at j:=by
 unfold Wb;rw[if_neg (by omega),WT (by omega)];omega
theorem vt{ts:List Int}{b:F4}{i:Int}:YK ts b i i=b.at i:=by
 unfold YK;rw[if_neg (by omega)]
theorem gG{ts:List Int}{b:F4}{i:Int}{j:Nat}(h0:0<=i):(if i.toNat=j then b.at i-Zt ts b i else YK ts b i j)=YK ts b (i+1) j:=by
 unfold YK;by_cases h:i.toNat=j
 ·have e1:i=(j:Int):=by omega
  rw[if_pos h,if_pos (by omega),e1]
 ·rw[if_neg h];by_cases h2:(j:Int)<i
  ·rw[if_pos h2,if_pos (by omega)]
  ·rw[if_neg h2,if_neg (by omega)]
theorem gZ{ps:List Qc}{b:F4}{i:Int}{j:Nat}(h0:0<=i)(h:(P2 ps i).QU= -1):(if i.toNat=j then Wb ps b i i-Vi ps b i else Wb ps b i j)=Wb ps b (i+1) j:=by
 rw[Y4 h0,h,if_neg (show ¬(-1:Int)=(j:Int)by omega)];by_cases h1:i.toNat=j
 ·have e1:i=(j:Int):=by omega
  rw[if_pos h1,if_pos (by omega),e1];omega
 ·rw[if_neg h1,if_neg (by omega)];omega
theorem h8{ps:List Qc}{b:F4}{i v:Int}{j:Nat}(h0:0<=i)(hv:(P2 ps i).QU=v)(v0:0<=v)(hn:v≠i):(if v.toNat=j then Wb ps b i v+Vi ps b i else if i.toNat=j then Wb ps b i i-Vi ps b i else Wb ps b i j)=Wb ps b (i+1) j:=by
 rw[Y4 h0,hv];by_cases h1:v.toNat=j
 ·have e1:v=(j:Int):=by omega
  rw[if_pos h1,if_neg (show ¬(j:Int)=i by omega),if_pos e1,e1];omega
 ·rw[if_neg h1,if_neg (show ¬v=(j:Int)by omega)];by_cases h2:i.toNat=j
  ·have e1:i=(j:Int):=by omega
   rw[if_pos h2,if_pos (by omega),e1];omega
  ·rw[if_neg h2,if_neg (by omega)];omega
theorem Ka{ps:List Qc}{b:F4}{i:Int}(hp:J3 ps)(hf:PC b)(h0:0<=i)(h:i<ps.length):0<=Vi ps b i/\Vi ps b i<=b.at i:=by
 have h1:=hp.2 i h0 h;have ha:=Wp hf h0 (by have:=hp.1;omega);have e0:0<=b.at i*(P2 ps i).Qv:=Int.mul_nonneg ha.1 h1.2.1.1;have e1:b.at i*(P2 ps i).Qv<=b.at i*1000:=Int.mul_le_mul_of_nonneg_left h1.2.1.2 ha.1;have e2:(b.at i*(P2 ps i).Qv).tdiv 1000=(b.at i*(P2 ps i).Qv) / 1000:=Ma e0;unfold Vi;rw[e2];omega
theorem UB{ps:List Qc}{b:F4}{i j:Int}(hp:J3 ps)(hf:PC b)(h0:0<=i)(h:i<=ps.length)(j0:0<=j)(j1:j<4):0<=Wb ps b i j/\Wb ps b i j<=500000000000:=by
 have ha:=Wp hf j0 j1;have hs:=Wq (g:=fun m=>if(P2 ps m).QU=j then Vi ps b m else 0) (K:=100000000000) i.toNat fun m m0 m1=>by
  have h9:=hp.1;have:=Ka hp hf (i:=m) m0 (by omega);have hm:=Wp hf (i:=m) m0 (by omega);split <;> omega
 rw[show((i.toNat:Nat):Int)=i by omega]at hs;have h4:=hp.1;unfold Wb;split
 ·have:=Ka hp hf j0 (by omega);omega
 ·omega
theorem Yb{ts:List Int}{b:F4}{n:Nat}{m i:Int}(ht:K8 n ts m)(hf:PC b)(h0:0<=i)(h:i<n)(h4:n<=4):0<=Zt ts b i/\Zt ts b i<=b.at i/\Zt ts b i<=m:=by
 have ha:=Wp hf h0 (by omega);have h1:=ht.2 i h0 h;unfold Zt;split <;> omega
theorem yd{gs:List Int}{ps:List Qc}{f:F4}{i j:Int}(hp:J3 ps)(hg:K8 ps.length gs 2000)(hf:PC f)(h:i<=ps.length)(j0:0<=j)(j1:j<4):0<=Xj gs ps f i j/\Xj gs ps f i j<=f.at j+1000000:=by
 have ha:=Wp hf j0 j1;unfold Xj;split
 ·have:=Pw hp hg hf j0 (show j<ps.length by omega);omega
 ·omega
theorem Dr{gs:List Int}{ps:List Qc}{f:F4}(hp:J3 ps)(hg:K8 ps.length gs 2000)(hf:PC f):(0<=(Vu gs ps f).a/\0<=(Vu gs ps f).b/\0<=(Vu gs ps f).c/\0<=(Vu gs ps f).d)/\(Vu gs ps f).sum<=f.sum+4000000:=by
 have h0:=yd hp hg hf (LW _) (j:=0) (by omega) (by omega);have h1:=yd hp hg hf (LW _) (j:=1) (by omega) (by omega);have h2:=yd hp hg hf (LW _) (j:=2) (by omega) (by omega);have h3:=yd hp hg hf (LW _) (j:=3) (by omega) (by omega);refine⟨⟨h0.1,h1.1,h2.1,h3.1⟩, ?_⟩;show Xj gs ps f ps.length 0+Xj gs ps f ps.length 1+Xj gs ps f ps.length 2+Xj gs ps f ps.length 3<=f.a+f.b+f.c+f.d+4000000;have e0:f.at 0=f.a:=rfl;have e1:f.at 1=f.b:=rfl;have e2:f.at 2=f.c:=rfl;have e3:f.at 3=f.d:=rfl;omega
def HJ(ps:List Qc)(b:F4)(i:Int):Int:=Wb ps b i 0+Wb ps b i 1+Wb ps b i 2+Wb ps b i 3
theorem D8{ps:List Qc}{b:F4}{i:Int}(hp:J3 ps)(h0:0<=i)(h:i<ps.length):HJ ps b (i+1)=HJ ps b i-Zr ps b i:=by
 have h1:=hp.1;have h2:=(hp.2 i h0 h).2.2.1;unfold HJ Zr;rw[Y4 h0,Y4 h0,Y4 h0,Y4 h0];simp only[YI,Bool.or_eq_true,decide_eq_true_iff,av]at h2;generalize (P2 ps i).QU=v at *;generalize Vi ps b i=w at *;have hi:=bp h0 (show i<4 by omega);by_cases hv:v= -1
 ·subst hv;rcases hi with rfl|rfl|rfl|rfl <;> simp <;> omega
 ·have Wn:=bp (show 0<=v by omega) (show v<4 by omega);rcases hi with rfl|rfl|rfl|rfl <;> rcases Wn with rfl|rfl|rfl|rfl <;> simp <;> omega
theorem yh{ps:List Qc}{b:F4}(hp:J3 ps):∀k:Nat,k<=ps.length->HJ ps b k=b.sum-QW 0 k (Zr ps b)
 |0,_=>by
  rw[show((0:Nat):Int)=0 from rfl,WT (by omega)];unfold HJ;rw[aE (by omega),aE (by omega),aE (by omega),aE (by omega)];have e:b.sum=b.at 0+b.at 1+b.at 2+b.at 3:=rfl;omega
 |k+1,h=>by
  rw[show((k+1:Nat):Int)=(k:Int)+1 by omega,D8 hp (by omega) (by omega),yh hp k (by omega),QT (by omega)];omega
end Go.Proofs.Ytncjjangllkokaa
