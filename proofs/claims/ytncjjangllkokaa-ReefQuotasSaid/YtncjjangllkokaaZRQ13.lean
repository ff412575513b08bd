/- Reef: what is taken, with a Qb. -/
import Derived.Test.YtncjjangllkokaaZRQ12
set_option linter.all false
open List renaming getElem?_map->NX,getD_eq_getElem?_getD->NJ,getElem?_eq_none->Oc,length_set->Ow,getElem?_eq_getElem->OF,set->Ot,range->NI,length->NG,length_replicate->Ou,replicate->Of
open Int renaming toNat->ND,tdiv_eq_ediv_of_nonneg->Ov,le_refl->Ol
open Array renaming size->Ox,extract->NW
open Nat renaming strongRecOn->Oi,lt_of_lt_of_eq->OB
open Inhabited renaming default->NC
namespace Go.Proofs.Ytncjjangllkokaa
open Go Go.CE Go.RowKit
noncomputable section
set_option maxRecDepth 100000
def Zt{β:Type}(n:Int)(f:Int->β):List β:=(JY 0 n).map f
theorem Xf{β:Type}{n:Int}{f:Int->β}:(Zt n f).length=n.toNat:=by simp[Zt,JY]
theorem PE{β:Type}{n:Int}{f:Int->β}{k:Nat}(h:k<n.toNat):(Zt n f)[k]? =some (f k):=by
 unfold Zt JY;rw[NX,NX,List.getElem?_range (by omega)];simp
theorem Xh{β:Type}[Inhabited β]{n k:Int}{f:Int->β}(h0:0<=k)(h:k<n):(Zt n f).getD k.toNat NC=f k:=by
 rw[NJ,PE (by omega),show((k.toNat:Nat):Int)=k by omega];rfl
theorem Z2{β:Type}{n:Int}{f g:Int->β}(h:∀k,0<=k->k<n->f k=g k):Zt n f=Zt n g:=by
 refine List.ext_getElem? fun k=> ?_
 by_cases hk:k<n.toNat
 ·rw[PE hk,PE hk,h k (by omega) (by omega)]
 ·rw[Oc (by rw[Xf];omega),Oc (by rw[Xf];omega)]
theorem bT{β:Type}{n i:Int}{f:Int->β}{v:β}(h0:0<=i)(h:i<n):(Zt n f).set i.toNat v=Zt n (fun k=>if k=i then v else f k):=by
 refine List.ext_getElem? fun k=> ?_
 by_cases hk:k<n.toNat
 ·rw[List.getElem?_set,Xf,PE hk,PE hk];by_cases e:i.toNat=k
  ·rw[if_pos e,if_pos (by omega),if_pos (by omega)]
  ·rw[if_neg e,if_neg (by omega)]
 ·rw[Oc (by rw[Ow,Xf];omega),Oc (by rw[Xf];omega)]
theorem aB{α β:Type}[Inhabited α]{xs:List α}{f:α->β}:xs.map f=Zt xs.length (fun k=>f (xs.getD k.toNat NC)):=by
 refine List.ext_getElem? fun k=> ?_
 by_cases hk:k<xs.length
 ·rw[PE (by omega),NX,OF hk];simp[NJ,hk]
 ·rw[Oc (by simp;omega),Oc (by rw[Xf];omega)]
def p9(x:Qd):Span:=⟨x.slo,x.shi⟩
def VJ(p k:Int)(x:Qd):Span:=if hasB p k then p9 x else Uw x
def ZO(ps:List Qd)(p:Int):List Span:=Zt ps.length fun k=>VJ p k (ps.getD k.toNat NC)
def RG(ps:List Qd)(p i:Int):List Span:=Zt ps.length fun k=>if k<i then VJ p k (ps.getD k.toNat NC)else Uw (ps.getD k.toNat NC)
theorem C1{ps:List Qd}{p:Int}:ps.map Uw=RG ps p 0:=by
 rw[aB];exact Z2 fun k h0 _=>by rw[if_neg (by omega)]
theorem wV{ps:List Qd}{p i:Int}(h:ps.length<=i):RG ps p i=ZO ps p:=Z2 fun k h0 h1=>by rw[if_pos (by omega)]
theorem Ab{ps:List Qd}{p i:Int}(h0:0<=i)(h:hasB p i=false):RG ps p i=RG ps p (i+1):=Z2 fun k g0 g1=>by
 by_cases e:k=i
 ·subst e;rw[if_neg (by omega),if_pos (by omega),VJ,h];rfl
 ·by_cases e2:k<i
  ·rw[if_pos e2,if_pos (by omega)]
  ·rw[if_neg e2,if_neg (by omega)]
theorem jl{ps:List Qd}{p i:Int}(h0:0<=i)(h1:i<ps.length)(h:hasB p i=true):(RG ps p i).set i.toNat (p9 (ps.getD i.toNat NC))=RG ps p (i+1):=by
 unfold RG;rw[bT h0 h1];refine Z2 fun k g0 g1=> ?_
 by_cases e:k=i
 ·subst e;rw[if_pos rfl,if_pos (by omega),VJ,h];rfl
 ·rw[if_neg e];by_cases e2:k<i
  ·rw[if_pos e2,if_pos (by omega)]
  ·rw[if_neg e2,if_neg (by omega)]
theorem Ll{n k:Int}(hn:0<=n):0<=((aI n k:Nat):Int)/\((aI n k:Nat):Int)<=n:=by
 have:=GA (a:=n) (n:=k);omega
def Ja(x_:Qd):Array Value:=#[.int .i64 x_.count,.int .i64 x_.room,.int .i64 x_.glo,.int .i64 x_.ghi,.int .i64 x_.drift,.int .i64 x_.into,.int .i64 x_.olo,.int .i64 x_.ohi,.int .i64 x_.slo,.int .i64 x_.shi,.int .i64 x_.goal,.int .i64 x_.worth]
def aa(rf:Qe)(Qb:List Int)(k:Int):Array Value:=#[.agg #[Q6 0 (QO rf.Qa.length (Qg Qk rf.Qa)),.int .i64 rf.Qn,.int .i64 rf.Qc,.int .i64 (Qb.getD 0 0),.int .i64 (Qb.getD 1 0),.int .i64 (Qb.getD 2 0),.int .i64 (Qb.getD 3 0)],.int .i64 k,pA 1 0,.tuple #[],.slice none 0 0,pA 4 0,.tuple #[],pA 1 0,pA 1 0,Q6 0 (QO rf.Qa.length (Qg Qk rf.Qa)),.slice (some {block:=3,off:=0}) rf.Qa.length 2,.agg #[Q6 0 (QO rf.Qa.length (Qg Qk rf.Qa)),.int .i64 rf.Qn,.int .i64 rf.Qc,.int .i64 (Qb.getD 0 0),.int .i64 (Qb.getD 1 0),.int .i64 (Qb.getD 2 0),.int .i64 (Qb.getD 3 0)],.int .i64 k,Value.func (Fn.func 112) #[] #[Q6 5 (Ra 0 #[QO rf.Qa.length (Qg Qk rf.Qa),.int .i64 rf.Qn,.int .i64 rf.Qc,.int .i64 (Qb.getD 0 0),.int .i64 (Qb.getD 1 0),.int .i64 (Qb.getD 2 0),.int .i64 (Qb.getD 3 0)]),Q6 5 (Ra 0 #[.int .i64 k])],.tuple #[],.tuple #[],.tuple #[],.tuple #[],.tuple #[],.tuple #[],.tuple #[],.tuple #[],.tuple #[],.tuple #[],.tuple #[],.tuple #[]]
def TZ(rf:Qe)(Qb:List Int):Array Value:=#[QO rf.Qa.length (Qg Qk rf.Qa),.int .i64 rf.Qn,.int .i64 rf.Qc,.int .i64 (Qb.getD 0 0),.int .i64 (Qb.getD 1 0),.int .i64 (Qb.getD 2 0),.int .i64 (Qb.getD 3 0)]
def AJ(rf:Qe)(i:Int):Value:=(.agg #[.int .i64 (Qd.olo (rf.Qa.getD i.toNat NC)),.int .i64 (Qd.ohi (rf.Qa.getD i.toNat NC))])
def VD(rf:Qe)(Qb:List Int)(k:Int):Qp:=[(1,Obj.cells #[Q6 0 (QO rf.Qa.length (Qg Qk rf.Qa)),.int .i64 rf.Qn,.int .i64 rf.Qc,.int .i64 (Qb.getD 0 0),.int .i64 (Qb.getD 1 0),.int .i64 (Qb.getD 2 0),.int .i64 (Qb.getD 3 0)] 84),(0,Obj.coro none)]
def Jc(rf:Qe)(Qb:List Int)(k:Int):CF:=⟨102,ofList 26 [Q6 0 (QO rf.Qa.length (Qg Qk rf.Qa)),Value.func (Fn.func 105) #[] #[]],[Item.code (QX YP 102)],[],.run,none⟩
def Kv(rf:Qe)(Qb:List Int)(k:Int)(i:Int)(ys:List Span):List Value:=[Value.func (Fn.func 105) #[] #[],.slice (some {block:=3,off:=0}) rf.Qa.length 2,Q6 0 (QO rf.Qa.length (Qg Qk rf.Qa)),.int .i64 (↑rf.Qa.length:Int),.int .i64 i]
def Ku(rf:Qe)(Qb:List Int)(k:Int)(i:Int)(ys:List Span):List Obj:=[]
def Um(rf:Qe)(Qb:List Int)(k:Int)(i:Int)(ys:List Span):List Obj:=[.cells (Qg QW ys) 38 (0,0)]
def Kw:List Item:=([.code [1,1,0,1,0,0],.inLoop [1,1,0,1,0,0],.inBlock 0,.code [1,1,1]]).map (it (QX YP 102))
def PY(rf:Qe)(Qb:List Int)(k:Int)(i:Int)(ys:List Span)(Qt:Nat->Value):Qp:=[(4,Obj.cells (Ja (rf.Qa.getD i.toNat NC)) 54),(2,Obj.coro none),(3,Obj.cells (Qg QW ys) 38),(1,Obj.cells #[Q6 0 (QO rf.Qa.length (Qg Qk rf.Qa)),.int .i64 rf.Qn,.int .i64 rf.Qc,.int .i64 (Qb.getD 0 0),.int .i64 (Qb.getD 1 0),.int .i64 (Qb.getD 2 0),.int .i64 (Qb.getD 3 0)] 84),(0,Obj.coro none)]
def ah(rf:Qe)(Qb:List Int)(k:Int)(i:Int)(ys:List Span)(Qt:Nat->Value):CF:=⟨105,ofList 5 [.agg (Ja (rf.Qa.getD i.toNat NC))],[Item.code (QX YP 105)],[],.run,none⟩
theorem AT(B:Lo)(rf:Qe)(Qb:List Int)(k:Int)(i:Int)(ys:List Span)(Qt:Nat->Value):let a:=rf.Qa.getD i.toNat NC;CE.finK 5 (Qv YP (QA YP) J0 B 6 5 (ah rf Qb k i ys Qt) (PY rf Qb k i ys Qt) 5
 [] 0 [] []) [] [] []=some (OO.ret (.agg #[.int .i64 a.olo,.int .i64 a.ohi]),[],[],
 []):=by intro a;kernel_rfl
theorem AS(B:Lo)(rf:Qe)(Qb:List Int)(k:Int)(i:Int)(ys:List Span)(Qt:Nat->Value):let g:=Um rf Qb k i ys;let f:=AJ rf i;let d:=ND i;let c:=rf.Qa;let b:=c.getD d NC;let a:=Ot ys d {lo:=b.olo,hi:=b.ohi};let e:=Qg QW a;CE.landA 2 (Qv YP (QA YP) J0 B 13 2 (WY (none) 102 26 (([1,5,11,12,13]:List Nat).zip (Kv rf Qb k i ys)) Qt Kw) (Z9 (VD rf Qb k) 2 (([]:List Nat).zip (Ku rf Qb k i ys)) g) (2+1+g.length)
 [(0,W9),(2,Qj.tidx d (Ja b)),(11,Qj.call (NI 5) (OO.ret f) ([]++(5,Xp)::Xk 6 []) 6 []),(12,Qj.XV (Hint.idx d)),(13,Qj.XV (Hint.st e)),(14,Wu (i+1))] 0 [] []) [1,5,11,12,13] [] [(3,KS.cells [] e)] []=some ⟨102,26,Kw,[],.run,none,Kv rf Qb k (i+1) a,([]:List Nat).zip (Ku rf Qb k (i+1) a),Um rf Qb k (i+1) a,
 [QK 2 [] e e,wq (i+1)=i+1,0+ND i*2+TypeInfo.size Try.t38<=Ox (Qg QW ys)/\splice (Qg QW ys) (0+ND i*2) (Value.cells (XB {len:=16000,tr:=Tri.set 14 (Tri.set 14 Tri.lf 22 f) 23 (.pointer (some {block:=3,off:=0+ND i*2}))} 22))=Qg QW a,i=(↑d:Int)/\ND i<NG c,FJ YP B (ah rf Qb k i ys Qt) (PY rf Qb k i ys Qt) 5 (OO.ret f) (([]++((5,Xp)::Xk (5+1) []))++PY rf Qb k i ys Qt) 6 (NI 5) [],i=(↑d:Int)/\ND i<NG c/\NW (Qg Qk c) (ND i*TypeInfo.size Try.t54) (ND i*TypeInfo.size Try.t54+TypeInfo.size Try.t54)=(Ja b),XY i (↑c.length:Int)=true]⟩:=by intro g f d c b a e;kernel_rfl
theorem AQ(B:Lo)(rf:Qe)(Qb:List Int)(k:Int)(i:Int)(ys:List Span)(Qt:Nat->Value):let c:=Um rf Qb k i ys;let b:=NG rf.Qa;let a:=Qg QW ys;CE.finK 2 (Qv YP (QA YP) J0 B 9 2 (WY (none) 102 26 (([1,5,11,12,13]:List Nat).zip (Kv rf Qb k i ys)) Qt Kw) (Z9 (VD rf Qb k) 2 (([]:List Nat).zip (Ku rf Qb k i ys)) c) (2+1+c.length)
 [(0,Vd)] 0 [] []) [] [(3,KS.cells [] a)] []=some (OO.ret (.slice (some {block:=3,off:=0}) b 2),[],[Obj.cells a 38],
 [QK 2 [] a a,XY i (↑b:Int)=false]):=by intro c b a;kernel_rfl
set_option maxHeartbeats 4000000 in
theorem pM(rf:Qe)(Qb:List Int)(k:Int)(hn:rf.Qa.length<=4)(hl:Qb.length<=4)(k0:0<=k)(k1:k<4)(hp:∀j:Nat,0<=Qb.getD j 0/\Qb.getD j 0<=1000000){B:Lo}(hJ:∀w,B.has w->J0 w):∀m:Nat,(∀(i:Int) (ys:List Span),(rf.Qa.length-i.toNat)=m->∀(h0:0<=i) (hy:ys=Pu Uw ⟨0,0⟩ rf.Qa i),(∃Qt:Nat->Value,(∀t,X4 (Qt t))/\GoE YP B (Jc rf Qb k) (VD rf Qb k) 2 (WY (none) 102 26 (([1,5,11,12,13]:List Nat).zip (Kv rf Qb k i ys)) Qt Kw) (Z9 (VD rf Qb k) 2 (([]:List Nat).zip (Ku rf Qb k i ys)) (Um rf Qb k i ys)) (2+1+(Um rf Qb k i ys).length) ([]:List Nat))->FinK YP B (Jc rf Qb k) (VD rf Qb k) 2 (.ret (.slice (some ⟨3,0,none⟩) rf.Qa.length 2)) (([]:List Nat).zip ([])) ([.cells (Qg QW (rf.Qa.map Uw)) 38 (0,0)]) ([]:List Nat)):=by
 intro m0;induction m0 using Oi with
 |_ m0 ih0=>
  intro i ys Ru h0 hy ⟨Qt,Vs,XL⟩;have hyl:ys.length=rf.Qa.length:=by rw[hy];exact Ry
  by_cases q0:(i:Int)<((↑rf.Qa.length:Int))
  ·have rj1:FJ YP B (ah rf Qb k i ys Qt) (PY rf Qb k i ys Qt) 5 (OO.ret (.agg #[.int .i64 (Qd.olo (rf.Qa.getD i.toNat NC)),.int .i64 (Qd.ohi (rf.Qa.getD i.toNat NC))])) (([]++((5,Xp)::Xk (5+1) []))++PY rf Qb k i ys Qt) 6 (NI 5) []:=by
    exact FinK.fjB (GoE.finK okF hJ Qf (Q9 (by kernel_rfl)) (Q1 (by kernel_rfl)) ((GoE.refl (P:=YP) (B:=B) (c0:=ah rf Qb k i ys Qt) (Q9 (by kernel_rfl))).widen (Wf:=((([]):List (Nat×KS)).map (·.1))) (by simp) (Q1 (by kernel_rfl))) (AT B rf Qb k i ys Qt)
     trivial) (ex:=[3]) (by kernel_rfl) ⟨trivial,⟨trivial,⟨(JH (t:=38) (fl:=(0,0)) (fun x=>List.all_eq_true.1 (by rfl))),⟨trivial,⟨trivial,trivial⟩⟩⟩⟩⟩
   exact((ih0 _ (by omega)) (i+1) (Ot ys i.toNat {lo:=Qd.olo (rf.Qa.getD i.toNat NC),hi:=Qd.ohi (rf.Qa.getD i.toNat NC)}) rfl (by omega) (by(subst hy;exact Rx (f:=Uw) h0 q0))
    (GoE.landA okF hJ Qf (Q9 (by kernel_rfl)) (Q1 (by kernel_rfl)) XL (AS B rf Qb k i ys Qt)
    (by exact⟨(Qr (Q2 (fun x=>List.all_eq_true.1 (by rfl)))),⟨(Xb (by omega) (by omega)),⟨(by exact WU (z:=2) (k:=ND i) (fun _=>rfl) (by first|omega|(rw[Ow];omega)|(rw[Ou];omega)) rfl rfl),⟨⟨by omega,by omega⟩,⟨rj1,⟨⟨by omega,by omega,(Q0 (z:=12) (fun _=>rfl) (by omega))⟩,⟨(XD q0),trivial⟩⟩⟩⟩⟩⟩⟩) (by kernel_rfl) (by kernel_rfl) (fun l hl=>by cases hl <;> decide))).cast (by rfl) (by rfl) (by rfl)
  ·exact(GoE.finK okF hJ Qf (Q9 (by kernel_rfl)) (Q1 (by kernel_rfl)) XL (AQ B rf Qb k i ys Qt)
    ⟨(Qr (Q2 (fun x=>List.all_eq_true.1 (by rfl)))),⟨(Zb (Int.not_lt.1 q0)),trivial⟩⟩).cast (by rfl) (by rfl) (by(rw[hy,Rz (by omega)];done))

theorem AU(B:Lo)(rf:Qe)(Qb:List Int)(k:Int):let c:=K9 [.int .i64 0,.int .i64 0];let a:=NG rf.Qa;let e:=Of a ();let d:=XB {len:=16000,tr:=Tri.set 14 Tri.lf 9 (.int .i64 (↑a:Int))} 9;let b:=Of a {lo:=0,hi:=0};CE.landA 2 (Qv YP (QA YP) J0 B 9 2 (Jc rf Qb k) (VD rf Qb k) 2
 [(3,Qj.XV (Hint.mk a (Qg c e)))] 0 [] []) [1,5,11,12,13] [] [(2,KS.rows [] [] [] (Qg QW b))] []=some ⟨102,26,Kw,[],.run,none,Kv rf Qb k (0) b,([]:List Nat).zip (Ku rf Qb k (0) b),Um rf Qb k (0) b,
 [Xv 2 [] [] [] (Qg c e) (Qg QW b),S9 YP 36 d d=some (38,Qg c e,NG rf.Qa,TypeInfo.size Try.t38)]⟩:=by intro c a e d b;kernel_rfl
def PX(rf:Qe)(Qb:List Int)(k:Int):Qp:=[(4,Obj.cells #[.slice (some {block:=3,off:=0}) rf.Qa.length 2] 36),(2,Obj.coro none),(3,Obj.cells (Qg QW (List.map Uw rf.Qa)) 38),(1,Obj.cells #[Q6 0 (QO rf.Qa.length (Qg Qk rf.Qa)),.int .i64 rf.Qn,.int .i64 rf.Qc,.int .i64 (Qb.getD 0 0),.int .i64 (Qb.getD 1 0),.int .i64 (Qb.getD 2 0),.int .i64 (Qb.getD 3 0)] 84),(0,Obj.coro none)]
def ag(rf:Qe)(Qb:List Int)(k:Int):CF:=⟨91,ofList 6 [.agg #[Q6 0 (QO rf.Qa.length (Qg Qk rf.Qa)),.int .i64 rf.Qn,.int .i64 rf.Qc,.int .i64 (Qb.getD 0 0),.int .i64 (Qb.getD 1 0),.int .i64 (Qb.getD 2 0),.int .i64 (Qb.getD 3 0)],.int .i64 k],[Item.code (QX YP 91)],[],.run,none⟩
theorem AP(B:Lo)(rf:Qe)(Qb:List Int)(k:Int):let i:=rf.Qn;let g:=rf.Qc;let e:=Qb.getD 3 0;let d:=Qb.getD 2 0;let c:=Qb.getD 1 0;let b:=Qb.getD 0 0;let a:=rf.Qa;let h:=NG a;let f:=Qg Qk a;CE.finK 5 (Qv YP (QA YP) J0 B 6 5 (ag rf Qb k) (PX rf Qb k) 5
 [] 0 [] []) [] [] [{k:=5,rs:=[0],cs:=#[QO h f,.int .i64 i,.int .i64 g,.int .i64 b,.int .i64 c,.int .i64 d,.int .i64 e]},{k:=6,rs:=[],cs:=#[.int .i64 k]}]=some (OO.ret (Value.func (Fn.func 112) #[] #[Q6 5 (Ra 0 #[QO h f,.int .i64 i,.int .i64 g,.int .i64 b,.int .i64 c,.int .i64 d,.int .i64 e]),Q6 5 (Ra 0 #[.int .i64 k])]),[],[],
 [XT (Fz.rs {k:=5,rs:=[0],cs:=(TZ rf Qb)}) #[Q6 0 (QO h f),.int .i64 i,.int .i64 g,.int .i64 b,.int .i64 c,.int .i64 d,.int .i64 e] (Fz.cs {k:=5,rs:=[0],cs:=(TZ rf Qb)}),XT (Fz.rs {k:=6,rs:=[],cs:=#[.int .i64 k]}) #[.int .i64 k] (Fz.cs {k:=6,rs:=[],cs:=#[.int .i64 k]})]):=by intro i g e d c b a h f;kernel_rfl
def Vm(rf:Qe)(Qb:List Int)(k:Int):Qp:=[(7,Obj.loop {state:=LoopState.ready,pending:=none,fn:=84,tmps:=#[.agg #[Q6 0 (QO rf.Qa.length (Qg Qk rf.Qa)),.int .i64 rf.Qn,.int .i64 rf.Qc,.int .i64 (Qb.getD 0 0),.int .i64 (Qb.getD 1 0),.int .i64 (Qb.getD 2 0),.int .i64 (Qb.getD 3 0)],.int .i64 k,pA 1 0,.tuple #[],.slice none 0 0,pA 4 0,.tuple #[],pA 1 0,pA 1 0,Q6 0 (QO rf.Qa.length (Qg Qk rf.Qa)),.slice (some {block:=3,off:=0}) rf.Qa.length 2,.agg #[Q6 0 (QO rf.Qa.length (Qg Qk rf.Qa)),.int .i64 rf.Qn,.int .i64 rf.Qc,.int .i64 (Qb.getD 0 0),.int .i64 (Qb.getD 1 0),.int .i64 (Qb.getD 2 0),.int .i64 (Qb.getD 3 0)],.int .i64 k,Value.func (Fn.func 112) #[] #[Q6 5 (Ra 0 #[QO rf.Qa.length (Qg Qk rf.Qa),.int .i64 rf.Qn,.int .i64 rf.Qc,.int .i64 (Qb.getD 0 0),.int .i64 (Qb.getD 1 0),.int .i64 (Qb.getD 2 0),.int .i64 (Qb.getD 3 0)]),Q6 5 (Ra 0 #[.int .i64 k])],.tuple #[],.tuple #[],.tuple #[],.tuple #[],.tuple #[],.tuple #[],.tuple #[],.tuple #[],.tuple #[],.tuple #[],.tuple #[],.tuple #[]],params:=#[14],assign:=RC (QX YP 84) [1,1,0,1,0,0],body:=RC (QX YP 84) [1,1,0,1,0,1],defers:=6}),(6,Obj.deferred (some [])),(5,Obj.coro none),(4,Obj.cells #[.slice (some {block:=3,off:=0}) rf.Qa.length 2] 36),(2,Obj.coro none),(3,Obj.cells (Qg QW (List.map Uw rf.Qa)) 38),(1,Obj.cells #[Q6 0 (QO rf.Qa.length (Qg Qk rf.Qa)),.int .i64 rf.Qn,.int .i64 rf.Qc,.int .i64 (Qb.getD 0 0),.int .i64 (Qb.getD 1 0),.int .i64 (Qb.getD 2 0),.int .i64 (Qb.getD 3 0)] 84),(0,Obj.coro none)]
def Jb(rf:Qe)(Qb:List Int)(k:Int):CF:=⟨112,ofList 27 [Value.func (Fn.yield 7) #[] #[],Q6 5 (Ra 0 #[QO rf.Qa.length (Qg Qk rf.Qa),.int .i64 rf.Qn,.int .i64 rf.Qc,.int .i64 (Qb.getD 0 0),.int .i64 (Qb.getD 1 0),.int .i64 (Qb.getD 2 0),.int .i64 (Qb.getD 3 0)]),Q6 5 (Ra 0 #[.int .i64 k])],[Item.code (QX YP 112)],[],.run,none⟩
def V0(rf:Qe)(Qb:List Int)(k:Int)(i:Int)(ys:List Span):List Value:=[Value.func (Fn.yield 7) #[] #[],Q6 5 (Ra 0 #[QO rf.Qa.length (Qg Qk rf.Qa),.int .i64 rf.Qn,.int .i64 rf.Qc,.int .i64 (Qb.getD 0 0),.int .i64 (Qb.getD 1 0),.int .i64 (Qb.getD 2 0),.int .i64 (Qb.getD 3 0)]),Q6 5 (Ra 0 #[.int .i64 k]),.int .i64 (↑rf.Qa.length:Int),.int .i64 i]
def Vz(rf:Qe)(Qb:List Int)(k:Int)(i:Int)(ys:List Span):List Obj:=[Obj.loop {state:=LoopState.ready,pending:=none,fn:=84,tmps:=#[.agg #[Q6 0 (QO rf.Qa.length (Qg Qk rf.Qa)),.int .i64 rf.Qn,.int .i64 rf.Qc,.int .i64 (Qb.getD 0 0),.int .i64 (Qb.getD 1 0),.int .i64 (Qb.getD 2 0),.int .i64 (Qb.getD 3 0)],.int .i64 k,pA 1 0,.tuple #[],.slice none 0 0,pA 4 0,.tuple #[],pA 1 0,pA 1 0,Q6 0 (QO rf.Qa.length (Qg Qk rf.Qa)),.slice (some {block:=3,off:=0}) rf.Qa.length 2,.agg #[Q6 0 (QO rf.Qa.length (Qg Qk rf.Qa)),.int .i64 rf.Qn,.int .i64 rf.Qc,.int .i64 (Qb.getD 0 0),.int .i64 (Qb.getD 1 0),.int .i64 (Qb.getD 2 0),.int .i64 (Qb.getD 3 0)],.int .i64 k,Value.func (Fn.func 112) #[] #[Q6 5 (Ra 0 #[QO rf.Qa.length (Qg Qk rf.Qa),.int .i64 rf.Qn,.int .i64 rf.Qc,.int .i64 (Qb.getD 0 0),.int .i64 (Qb.getD 1 0),.int .i64 (Qb.getD 2 0),.int .i64 (Qb.getD 3 0)]),Q6 5 (Ra 0 #[.int .i64 k])],.tuple #[],.tuple #[],.tuple #[],.tuple #[],.tuple #[],.tuple #[],.tuple #[],.tuple #[],.tuple #[],.tuple #[],.tuple #[],.tuple #[]],params:=#[14],assign:=RC (QX YP 84) [1,1,0,1,0,0],body:=RC (QX YP 84) [1,1,0,1,0,1],defers:=6},.cells (Qg QW ys) 38 (0,0)]
def WV(rf:Qe)(Qb:List Int)(k:Int)(i:Int)(ys:List Span):List Obj:=[]
def V1:List Item:=([.code [1,0,0],.inLoop [1,0,0],.inBlock 0]).map (it (QX YP 112))
def eH(B:Lo)(rf:Qe)(Qb:List Int)(k:Int)(i:Int)(ys:List Span)(Qt:Nat->Value):List Prop:=[ny YP BinOp.and 3 (XB {len:=16000,tr:=Tri.set 14 Tri.lf 17 (.int .i64 (↑(aI (Qm [Qb.getD 0 0,Qb.getD 1 0,Qb.getD 2 0,Qb.getD 3 0] k.toNat) i):Int))} 17) (.int .i64 1) (.int .i64 (↑(rA (↑(aI (Qm [Qb.getD 0 0,Qb.getD 1 0,Qb.getD 2 0,Qb.getD 3 0] k.toNat) i):Int) 1):Int)),ny YP BinOp.shr 3 (XB {len:=16000,tr:=Tri.set 14 (Tri.set 14 Tri.lf 16 (.int .i64 i)) 15 (.int .i64 (Qm [Qb.getD 0 0,Qb.getD 1 0,Qb.getD 2 0,Qb.getD 3 0] k.toNat))} 15) (XB {len:=16000,tr:=Tri.set 14 (Tri.set 14 Tri.lf 16 (.int .i64 i)) 15 (.int .i64 (Qm [Qb.getD 0 0,Qb.getD 1 0,Qb.getD 2 0,Qb.getD 3 0] k.toNat))} 16) (.int .i64 (↑(aI (Qm [Qb.getD 0 0,Qb.getD 1 0,Qb.getD 2 0,Qb.getD 3 0] k.toNat) i):Int)),k=(↑k.toNat:Int)/\ND k<4/\NW (TZ rf Qb) (3+ND k*TypeInfo.size Try.t3) (3+ND k*TypeInfo.size Try.t3+TypeInfo.size Try.t3)=#[.int .i64 (Qm [Qb.getD 0 0,Qb.getD 1 0,Qb.getD 2 0,Qb.getD 3 0] k.toNat)],XY i (↑rf.Qa.length:Int)=true]++([]:List Prop)
def o3(rf:Qe)(Qb:List Int)(k:Int)(i:Int)(ys:List Span)(Qt:Nat->Value):QE:=[(0,W9),(5,Qj.tarr k.toNat #[.int .i64 (Qm [Qb.getD 0 0,Qb.getD 1 0,Qb.getD 2 0,Qb.getD 3 0] k.toNat)]),(8,Qj.bin (.int .i64 (↑(aI (Qm [Qb.getD 0 0,Qb.getD 1 0,Qb.getD 2 0,Qb.getD 3 0] k.toNat) i):Int))),(9,Qj.bin (.int .i64 (↑(rA (↑(aI (Qm [Qb.getD 0 0,Qb.getD 1 0,Qb.getD 2 0,Qb.getD 3 0] k.toNat) i):Int) 1):Int)))]
def PW(rf:Qe)(Qb:List Int)(k:Int)(i:Int)(ys:List Span)(Qt:Nat->Value):Qp:=[(7,Obj.loop {state:=LoopState.ready,pending:=none,fn:=84,tmps:=#[.agg #[Q6 0 (QO rf.Qa.length (Qg Qk rf.Qa)),.int .i64 rf.Qn,.int .i64 rf.Qc,.int .i64 (Qb.getD 0 0),.int .i64 (Qb.getD 1 0),.int .i64 (Qb.getD 2 0),.int .i64 (Qb.getD 3 0)],.int .i64 k,pA 1 0,.tuple #[],.slice none 0 0,pA 4 0,.tuple #[],pA 1 0,pA 1 0,Q6 0 (QO rf.Qa.length (Qg Qk rf.Qa)),.slice (some {block:=3,off:=0}) rf.Qa.length 2,.agg #[Q6 0 (QO rf.Qa.length (Qg Qk rf.Qa)),.int .i64 rf.Qn,.int .i64 rf.Qc,.int .i64 (Qb.getD 0 0),.int .i64 (Qb.getD 1 0),.int .i64 (Qb.getD 2 0),.int .i64 (Qb.getD 3 0)],.int .i64 k,Value.func (Fn.func 112) #[] #[Q6 5 (Ra 0 #[QO rf.Qa.length (Qg Qk rf.Qa),.int .i64 rf.Qn,.int .i64 rf.Qc,.int .i64 (Qb.getD 0 0),.int .i64 (Qb.getD 1 0),.int .i64 (Qb.getD 2 0),.int .i64 (Qb.getD 3 0)]),Q6 5 (Ra 0 #[.int .i64 k])],.tuple #[],.tuple #[],.tuple #[],.tuple #[],.tuple #[],.tuple #[],.tuple #[],.tuple #[],.tuple #[],.tuple #[],.tuple #[],.tuple #[]],params:=#[14],assign:=RC (QX YP 84) [1,1,0,1,0,0],body:=RC (QX YP 84) [1,1,0,1,0,1],defers:=6}),(3,Obj.cells (Qg QW ys) 38),(8,Obj.coro none),(7,Obj.loop {state:=LoopState.ready,pending:=none,fn:=84,tmps:=#[.agg #[Q6 0 (QO rf.Qa.length (Qg Qk rf.Qa)),.int .i64 rf.Qn,.int .i64 rf.Qc,.int .i64 (Qb.getD 0 0),.int .i64 (Qb.getD 1 0),.int .i64 (Qb.getD 2 0),.int .i64 (Qb.getD 3 0)],.int .i64 k,pA 1 0,.tuple #[],.slice none 0 0,pA 4 0,.tuple #[],pA 1 0,pA 1 0,Q6 0 (QO rf.Qa.length (Qg Qk rf.Qa)),.slice (some {block:=3,off:=0}) rf.Qa.length 2,.agg #[Q6 0 (QO rf.Qa.length (Qg Qk rf.Qa)),.int .i64 rf.Qn,.int .i64 rf.Qc,.int .i64 (Qb.getD 0 0),.int .i64 (Qb.getD 1 0),.int .i64 (Qb.getD 2 0),.int .i64 (Qb.getD 3 0)],.int .i64 k,Value.func (Fn.func 112) #[] #[Q6 5 (Ra 0 #[QO rf.Qa.length (Qg Qk rf.Qa),.int .i64 rf.Qn,.int .i64 rf.Qc,.int .i64 (Qb.getD 0 0),.int .i64 (Qb.getD 1 0),.int .i64 (Qb.getD 2 0),.int .i64 (Qb.getD 3 0)]),Q6 5 (Ra 0 #[.int .i64 k])],.tuple #[],.tuple #[],.tuple #[],.tuple #[],.tuple #[],.tuple #[],.tuple #[],.tuple #[],.tuple #[],.tuple #[],.tuple #[],.tuple #[]],params:=#[14],assign:=RC (QX YP 84) [1,1,0,1,0,0],body:=RC (QX YP 84) [1,1,0,1,0,1],defers:=6}),(6,Obj.deferred (some [])),(5,Obj.coro none),(4,Obj.cells #[.slice (some {block:=3,off:=0}) rf.Qa.length 2] 36),(2,Obj.coro none),(3,Obj.cells (Qg QW (List.map Uw rf.Qa)) 38),(1,Obj.cells #[Q6 0 (QO rf.Qa.length (Qg Qk rf.Qa)),.int .i64 rf.Qn,.int .i64 rf.Qc,.int .i64 (Qb.getD 0 0),.int .i64 (Qb.getD 1 0),.int .i64 (Qb.getD 2 0),.int .i64 (Qb.getD 3 0)] 84),(0,Obj.coro none)]
def ae(rf:Qe)(Qb:List Int)(k:Int)(i:Int)(ys:List Span)(Qt:Nat->Value):CF:=⟨84,ofList 26 [.agg #[Q6 0 (QO rf.Qa.length (Qg Qk rf.Qa)),.int .i64 rf.Qn,.int .i64 rf.Qc,.int .i64 (Qb.getD 0 0),.int .i64 (Qb.getD 1 0),.int .i64 (Qb.getD 2 0),.int .i64 (Qb.getD 3 0)],.int .i64 k,pA 1 0,.tuple #[],.slice none 0 0,pA 4 0,.tuple #[],pA 1 0,pA 1 0,Q6 0 (QO rf.Qa.length (Qg Qk rf.Qa)),.slice (some {block:=3,off:=0}) rf.Qa.length 2,.agg #[Q6 0 (QO rf.Qa.length (Qg Qk rf.Qa)),.int .i64 rf.Qn,.int .i64 rf.Qc,.int .i64 (Qb.getD 0 0),.int .i64 (Qb.getD 1 0),.int .i64 (Qb.getD 2 0),.int .i64 (Qb.getD 3 0)],.int .i64 k,Value.func (Fn.func 112) #[] #[Q6 5 (Ra 0 #[QO rf.Qa.length (Qg Qk rf.Qa),.int .i64 rf.Qn,.int .i64 rf.Qc,.int .i64 (Qb.getD 0 0),.int .i64 (Qb.getD 1 0),.int .i64 (Qb.getD 2 0),.int .i64 (Qb.getD 3 0)]),Q6 5 (Ra 0 #[.int .i64 k])],.int .i64 i,.tuple #[],.tuple #[],.tuple #[],.tuple #[],.tuple #[],.tuple #[],.tuple #[],.tuple #[],.tuple #[],.tuple #[],.tuple #[]],[Item.code (RC (QX YP 84) [1,1,0,1,0,0]),Item.beginRound,Item.code (RC (QX YP 84) [1,1,0,1,0,1])],[],.run,some 7⟩
theorem AN(B:Lo)(rf:Qe)(Qb:List Int)(k:Int)(i:Int)(ys:List Span)(Qt:Nat->Value):let p:=rf.Qn;let n:=rf.Qc;let l:=Qb.getD 3 0;let j:=Qb.getD 2 0;let h:=Qb.getD 1 0;let g:=Qb.getD 0 0;let e:=ND i;let b:=rf.Qa;let o:=NG b;let m:=Qg Qk b;let d:=QO o m;let c:=b.getD e NC;let a:=Ot ys e {lo:=c.slo,hi:=c.shi};let f:=Qg QW a;CE.finK 9 (Qv YP (QA YP) J0 B 6 9 (ae rf Qb k i ys Qt) (PW rf Qb k i ys Qt) 9
 [(7,Qj.tidx e (Ja c)),(10,Qj.XV (Hint.idx e)),(11,Qj.XV (Hint.st f))] 0 [] []) [(7,KS.auto),(3,KS.cells [] f)] [] []=some (OO.ret (.bool true),[(7,Obj.loop {state:=LoopState.ready,pending:=none,fn:=84,tmps:=#[.agg #[Q6 0 d,.int .i64 p,.int .i64 n,.int .i64 g,.int .i64 h,.int .i64 j,.int .i64 l],.int .i64 k,pA 1 0,.tuple #[],.slice none 0 0,pA 4 0,.tuple #[],pA 1 0,pA 1 0,Q6 0 d,.slice (some {block:=3,off:=0}) o 2,.agg #[Q6 0 d,.int .i64 p,.int .i64 n,.int .i64 g,.int .i64 h,.int .i64 j,.int .i64 l],.int .i64 k,Value.func (Fn.func 112) #[] #[Q6 5 (Ra 0 #[QO o m,.int .i64 p,.int .i64 n,.int .i64 g,.int .i64 h,.int .i64 j,.int .i64 l]),Q6 5 (Ra 0 #[.int .i64 k])],.tuple #[],.tuple #[],.tuple #[],.tuple #[],.tuple #[],.tuple #[],.tuple #[],.tuple #[],.tuple #[],.tuple #[],.tuple #[],.tuple #[]],params:=#[14],assign:=RC (QX YP 84) [1,1,0,1,0,0],body:=RC (QX YP 84) [1,1,0,1,0,1],defers:=6}),(3,Obj.cells f 38)],[],
 [QK 9 [] f f,0+ND i*2+TypeInfo.size Try.t38<=Ox (Qg QW ys)/\splice (Qg QW ys) (0+ND i*2) (Value.cells (XB {len:=16000,tr:=Tri.set 14 (Tri.set 14 Tri.lf 23 (.agg #[.int .i64 c.slo,.int .i64 c.shi])) 24 (.pointer (some {block:=3,off:=0+ND i*2}))} 23))=Qg QW a,i=(↑e:Int)/\ND i<NG b,i=(↑e:Int)/\ND i<NG b/\NW m (ND i*TypeInfo.size Try.t54) (ND i*TypeInfo.size Try.t54+TypeInfo.size Try.t54)=(Ja c)]):=by intro p n l j h g e b o m d c a f;kernel_rfl
theorem AM(B:Lo)(rf:Qe)(Qb:List Int)(k:Int)(i:Int)(ys:List Span)(Qt:Nat->Value):let f:=OO.ret (.bool true);let e:=WV rf Qb k i ys;let d:=rf.Qa.getD i.toNat NC;let b:=QX YP 84;let a:=Ot ys i.toNat {lo:=d.slo,hi:=d.shi};let c:=Qg QW a;CE.landA 8 (Qv YP (QA YP) J0 B 16 8 (WY (none) 112 27 (([0,1,2,8,9]:List Nat).zip (V0 rf Qb k i ys)) Qt V1) (Z9 (Vm rf Qb k) 8 (([7,3]:List Nat).zip (Vz rf Qb k i ys)) e) (8+1+e.length)
 (o3 rf Qb k i ys Qt++[(10,W9),(14,Qj.call (NI 9) f ([(7,Obj.loop {state:=LoopState.ready,pending:=none,fn:=84,tmps:=(aa rf Qb k),params:=#[14],assign:=RC b [1,1,0,1,0,0],body:=RC b [1,1,0,1,0,1],defers:=6}),(3,Obj.cells c 38)]++(9,Xp)::Xk 10 []) 10 [7,3]),(17,Wu (i+1))]) 0 [] []) [0,1,2,8,9] [(7,KS.auto),(3,KS.cells [] c)] [] []=some ⟨112,27,V1,[],.run,none,V0 rf Qb k (i+1) a,([7,3]:List Nat).zip (Vz rf Qb k (i+1) a),WV rf Qb k (i+1) a,
 [QK 8 [] c c,wq (i+1)=i+1,FJ YP B (ae rf Qb k i ys Qt) (PW rf Qb k i ys Qt) 9 f (([(7,Obj.loop {state:=LoopState.ready,pending:=none,fn:=84,tmps:=(aa rf Qb k),params:=#[14],assign:=RC b [1,1,0,1,0,0],body:=RC b [1,1,0,1,0,1],defers:=6}),(3,Obj.cells c 38)]++((9,Xp)::Xk (9+1) []))++PW rf Qb k i ys Qt) 10 (NI 9) [7,3],YM (↑(rA (↑(aI (Qm [Qb.getD 0 0,Qb.getD 1 0,Qb.getD 2 0,Qb.getD 3 0] k.toNat) i):Int) 1):Int) 1=true]++eH B rf Qb k i ys Qt⟩:=by intro f e d b a c;kernel_rfl
theorem AL(B:Lo)(rf:Qe)(Qb:List Int)(k:Int)(i:Int)(ys:List Span)(Qt:Nat->Value):let b:=Qg QW ys;let a:=WV rf Qb k i ys;CE.landA 8 (Qv YP (QA YP) J0 B 16 8 (WY (none) 112 27 (([0,1,2,8,9]:List Nat).zip (V0 rf Qb k i ys)) Qt V1) (Z9 (Vm rf Qb k) 8 (([7,3]:List Nat).zip (Vz rf Qb k i ys)) a) (8+1+a.length)
 (o3 rf Qb k i ys Qt++[(10,Vd),(17,Wu (i+1))]) 0 [] []) [0,1,2,8,9] [(7,KS.auto),(3,KS.cells [] b)] [] []=some ⟨112,27,V1,[],.run,none,V0 rf Qb k (i+1) (ys),([7,3]:List Nat).zip (Vz rf Qb k (i+1) (ys)),WV rf Qb k (i+1) (ys),
 [QK 8 [] b b,wq (i+1)=i+1,YM (↑(rA (↑(aI (Qm [Qb.getD 0 0,Qb.getD 1 0,Qb.getD 2 0,Qb.getD 3 0] k.toNat) i):Int) 1):Int) 1=false]++eH B rf Qb k i ys Qt⟩:=by intro b a;kernel_rfl
theorem AK(B:Lo)(rf:Qe)(Qb:List Int)(k:Int)(i:Int)(ys:List Span)(Qt:Nat->Value):let l:=rf.Qn;let j:=WV rf Qb k i ys;let h:=rf.Qc;let g:=Qb.getD 3 0;let f:=Qb.getD 2 0;let e:=Qb.getD 1 0;let d:=Qb.getD 0 0;let c:=Qg QW ys;let b:=Qg Qk rf.Qa;let a:=NG rf.Qa;CE.finK 8 (Qv YP (QA YP) J0 B 7 8 (WY (none) 112 27 (([0,1,2,8,9]:List Nat).zip (V0 rf Qb k i ys)) Qt V1) (Z9 (Vm rf Qb k) 8 (([7,3]:List Nat).zip (Vz rf Qb k i ys)) j) (8+1+j.length)
 [(0,Vd)] 0 [] []) [(7,KS.auto),(3,KS.cells [] c)] [] []=some (OO.ret (.tuple #[]),[(7,Obj.loop {state:=LoopState.ready,pending:=none,fn:=84,tmps:=#[.agg #[Q6 0 (QO a b),.int .i64 l,.int .i64 h,.int .i64 d,.int .i64 e,.int .i64 f,.int .i64 g],.int .i64 k,pA 1 0,.tuple #[],.slice none 0 0,pA 4 0,.tuple #[],pA 1 0,pA 1 0,Q6 0 (QO a b),.slice (some {block:=3,off:=0}) a 2,.agg #[Q6 0 (QO a b),.int .i64 l,.int .i64 h,.int .i64 d,.int .i64 e,.int .i64 f,.int .i64 g],.int .i64 k,Value.func (Fn.func 112) #[] #[Q6 5 (Ra 0 #[QO a b,.int .i64 l,.int .i64 h,.int .i64 d,.int .i64 e,.int .i64 f,.int .i64 g]),Q6 5 (Ra 0 #[.int .i64 k])],.tuple #[],.tuple #[],.tuple #[],.tuple #[],.tuple #[],.tuple #[],.tuple #[],.tuple #[],.tuple #[],.tuple #[],.tuple #[],.tuple #[]],params:=#[14],assign:=RC (QX YP 84) [1,1,0,1,0,0],body:=RC (QX YP 84) [1,1,0,1,0,1],defers:=6}),(3,Obj.cells c 38)],[],
 [QK 8 [] c c,XY i (↑a:Int)=false]):=by intro l j h g f e d c b a;kernel_rfl
set_option maxHeartbeats 4000000 in
theorem pL(rf:Qe)(Qb:List Int)(k:Int)(hn:rf.Qa.length<=4)(hl:Qb.length<=4)(k0:0<=k)(k1:k<4)(hp:∀j:Nat,0<=Qb.getD j 0/\Qb.getD j 0<=1000000){B:Lo}(hJ:∀w,B.has w->J0 w):∀m:Nat,(∀(i:Int) (ys:List Span),rf.Qa.length-i.toNat=m->∀(i0:0<=i) (hy:ys=RG rf.Qa (Qb.getD k.toNat 0) i),(∃Qt:Nat->Value,(∀t,X4 (Qt t))/\GoE YP B (Jb rf Qb k) (Vm rf Qb k) 8 (WY (none) 112 27 (([0,1,2,8,9]:List Nat).zip (V0 rf Qb k i ys)) Qt V1) (Z9 (Vm rf Qb k) 8 (([7,3]:List Nat).zip (Vz rf Qb k i ys)) (WV rf Qb k i ys)) (8+1+(WV rf Qb k i ys).length) ([7,3]:List Nat))->FinK YP B (Jb rf Qb k) (Vm rf Qb k) 8 (.ret (.tuple #[])) (([7,3]:List Nat).zip ([Obj.loop {state:=LoopState.ready,pending:=none,fn:=84,tmps:=#[.agg #[Q6 0 (QO rf.Qa.length (Qg Qk rf.Qa)),.int .i64 rf.Qn,.int .i64 rf.Qc,.int .i64 (Qb.getD 0 0),.int .i64 (Qb.getD 1 0),.int .i64 (Qb.getD 2 0),.int .i64 (Qb.getD 3 0)],.int .i64 k,pA 1 0,.tuple #[],.slice none 0 0,pA 4 0,.tuple #[],pA 1 0,pA 1 0,Q6 0 (QO rf.Qa.length (Qg Qk rf.Qa)),.slice (some {block:=3,off:=0}) rf.Qa.length 2,.agg #[Q6 0 (QO rf.Qa.length (Qg Qk rf.Qa)),.int .i64 rf.Qn,.int .i64 rf.Qc,.int .i64 (Qb.getD 0 0),.int .i64 (Qb.getD 1 0),.int .i64 (Qb.getD 2 0),.int .i64 (Qb.getD 3 0)],.int .i64 k,Value.func (Fn.func 112) #[] #[Q6 5 (Ra 0 #[QO rf.Qa.length (Qg Qk rf.Qa),.int .i64 rf.Qn,.int .i64 rf.Qc,.int .i64 (Qb.getD 0 0),.int .i64 (Qb.getD 1 0),.int .i64 (Qb.getD 2 0),.int .i64 (Qb.getD 3 0)]),Q6 5 (Ra 0 #[.int .i64 k])],.tuple #[],.tuple #[],.tuple #[],.tuple #[],.tuple #[],.tuple #[],.tuple #[],.tuple #[],.tuple #[],.tuple #[],.tuple #[],.tuple #[]],params:=#[14],assign:=RC (QX YP 84) [1,1,0,1,0,0],body:=RC (QX YP 84) [1,1,0,1,0,1],defers:=6},.cells (Qg QW (ZO rf.Qa (Qb.getD k.toNat 0))) 38 (0,0)])) ([]) ([7,3]:List Nat)):=by
 intro m0;induction m0 using Oi with
 |_ m0 ih0=>
  intro i ys Ru i0 hy ⟨Qt,Vs,XL⟩;have hyl:ys.length=rf.Qa.length:=by rw[hy];simp[RG,Xf]
  have hpk:=hp k.toNat;have hse:=My (k:=k.toNat) hl;have Pq:=Ll (n:=Qm [Qb.getD 0 0,Qb.getD 1 0,Qb.getD 2 0,Qb.getD 3 0] k.toNat) (k:=i) (by omega);by_cases q0:(i:Int)<((↑rf.Qa.length:Int))
  ·have Vg:Q7 (eH B rf Qb k i ys Qt):=by
    exact⟨(I5 (by omega) (by omega) (by omega) (by omega)),⟨(I4 (by omega) (by omega) (by omega)),⟨⟨by omega,by omega,Gq (fs:=[Qb.getD 0 0,Qb.getD 1 0,Qb.getD 2 0,Qb.getD 3 0]) rfl (OB (m:=4) (by omega) rfl)⟩,⟨(XD q0),trivial⟩⟩⟩⟩
   by_cases q1:((↑(rA (↑(aI (Qm [Qb.getD 0 0,Qb.getD 1 0,Qb.getD 2 0,Qb.getD 3 0] k.toNat) i):Int) 1):Int):Int)=(1)
   ·have rj3:FJ YP B (ae rf Qb k i ys Qt) (PW rf Qb k i ys Qt) 9 (OO.ret (.bool true)) (([(7,Obj.loop {state:=LoopState.ready,pending:=none,fn:=84,tmps:=#[.agg #[Q6 0 (QO rf.Qa.length (Qg Qk rf.Qa)),.int .i64 rf.Qn,.int .i64 rf.Qc,.int .i64 (Qb.getD 0 0),.int .i64 (Qb.getD 1 0),.int .i64 (Qb.getD 2 0),.int .i64 (Qb.getD 3 0)],.int .i64 k,pA 1 0,.tuple #[],.slice none 0 0,pA 4 0,.tuple #[],pA 1 0,pA 1 0,Q6 0 (QO rf.Qa.length (Qg Qk rf.Qa)),.slice (some {block:=3,off:=0}) rf.Qa.length 2,.agg #[Q6 0 (QO rf.Qa.length (Qg Qk rf.Qa)),.int .i64 rf.Qn,.int .i64 rf.Qc,.int .i64 (Qb.getD 0 0),.int .i64 (Qb.getD 1 0),.int .i64 (Qb.getD 2 0),.int .i64 (Qb.getD 3 0)],.int .i64 k,Value.func (Fn.func 112) #[] #[Q6 5 (Ra 0 #[QO rf.Qa.length (Qg Qk rf.Qa),.int .i64 rf.Qn,.int .i64 rf.Qc,.int .i64 (Qb.getD 0 0),.int .i64 (Qb.getD 1 0),.int .i64 (Qb.getD 2 0),.int .i64 (Qb.getD 3 0)]),Q6 5 (Ra 0 #[.int .i64 k])],.tuple #[],.tuple #[],.tuple #[],.tuple #[],.tuple #[],.tuple #[],.tuple #[],.tuple #[],.tuple #[],.tuple #[],.tuple #[],.tuple #[]],params:=#[14],assign:=RC (QX YP 84) [1,1,0,1,0,0],body:=RC (QX YP 84) [1,1,0,1,0,1],defers:=6}),(3,Obj.cells (Qg QW (Ot ys i.toNat {lo:=Qd.slo (rf.Qa.getD i.toNat NC),hi:=Qd.shi (rf.Qa.getD i.toNat NC)})) 38)]++((9,Xp)::Xk (9+1) []))++PW rf Qb k i ys Qt) 10 (NI 9) [7,3]:=by
     have hyes:=jl (ps:=rf.Qa) (p:=Qb.getD k.toNat 0) i0 q0 (by rw[<-pB,<-hse];exact decide_eq_true q1);exact FinK.fjB (GoE.finK okF hJ Qf (Q9 (by kernel_rfl)) (Q1 (by kernel_rfl)) ((GoE.refl (P:=YP) (B:=B) (c0:=ae rf Qb k i ys Qt) (Q9 (by kernel_rfl))).widen (Wf:=((([(7,KS.auto),(3,KS.cells [] (Qg QW (Ot ys i.toNat {lo:=Qd.slo (rf.Qa.getD i.toNat NC),hi:=Qd.shi (rf.Qa.getD i.toNat NC)})))]):List (Nat×KS)).map (·.1))) (by simp) (Q1 (by kernel_rfl))) (AN B rf Qb k i ys Qt)
      ⟨(Qr (Q2 (fun x=>List.all_eq_true.1 (by rfl)))),⟨(by exact WU (z:=2) (k:=ND i) (fun _=>rfl) (by first|omega|(rw[Ow];omega)|(rw[Ou];omega)) rfl rfl),⟨⟨by omega,by omega⟩,⟨⟨by omega,by omega,(Q0 (z:=12) (fun _=>rfl) (by omega))⟩,trivial⟩⟩⟩⟩) (ex:=[3]) (by kernel_rfl) ⟨trivial,⟨(JH (t:=38) (fl:=(0,0)) (fun x=>List.all_eq_true.1 (by rfl))),⟨trivial,⟨trivial,⟨trivial,⟨trivial,⟨trivial,⟨trivial,⟨(JH (t:=38) (fl:=(0,0)) (fun x=>List.all_eq_true.1 (by rfl))),⟨trivial,⟨trivial,trivial⟩⟩⟩⟩⟩⟩⟩⟩⟩⟩⟩
    have hyes:=jl (ps:=rf.Qa) (p:=Qb.getD k.toNat 0) i0 q0 (by rw[<-pB,<-hse];exact decide_eq_true q1);exact((ih0 _ (by omega)) (i+1) (Ot ys i.toNat {lo:=Qd.slo (rf.Qa.getD i.toNat NC),hi:=Qd.shi (rf.Qa.getD i.toNat NC)}) rfl (by omega) (by(rw[hy];exact hyes))
     (GoE.landA okF hJ Qf (Q9 (by kernel_rfl)) (Q1 (by kernel_rfl)) XL (AM B rf Qb k i ys Qt)
     (by exact⟨(Qr (Q2 (fun x=>List.all_eq_true.1 (by rfl)))),⟨(Xb (by omega) (by omega)),⟨rj3,⟨(K2 q1),Vg⟩⟩⟩⟩) (by kernel_rfl) (by kernel_rfl) (fun l hl=>by cases hl <;> decide))).cast (by rfl) (by rfl) (by rfl)
   ·have hno:=Ab (ps:=rf.Qa) (p:=Qb.getD k.toNat 0) i0 (by rw[<-pB,<-hse];exact decide_eq_false q1);exact((ih0 _ (by omega)) (i+1) (ys) rfl (by omega) (by(rw[hy];exact hno))
     (GoE.landA okF hJ Qf (Q9 (by kernel_rfl)) (Q1 (by kernel_rfl)) XL (AL B rf Qb k i ys Qt)
     ⟨(Qr (Q2 (fun x=>List.all_eq_true.1 (by rfl)))),⟨(Xb (by omega) (by omega)),⟨(K3 q1),Vg⟩⟩⟩ (by kernel_rfl) (by kernel_rfl) (fun l hl=>by cases hl <;> decide))).cast (by rfl) (by rfl) (by rfl)
  ·exact(GoE.finK okF hJ Qf (Q9 (by kernel_rfl)) (Q1 (by kernel_rfl)) XL (AK B rf Qb k i ys Qt)
    ⟨(Qr (Q2 (fun x=>List.all_eq_true.1 (by rfl)))),⟨(Zb (Int.not_lt.1 q0)),trivial⟩⟩).cast (by rfl) (by(rw[hy,wV (by omega)];rfl)) (by rfl)

theorem AO(B:Lo)(rf:Qe)(Qb:List Int)(k:Int):let a:=List.map Uw rf.Qa;let b:=Qg QW a;CE.landA 8 (Qv YP (QA YP) J0 B 4 8 (Jb rf Qb k) (Vm rf Qb k) 8
 [] 0 [] []) [0,1,2,8,9] [(7,KS.auto),(3,KS.cells [] b)] [] []=some ⟨112,27,V1,[],.run,none,V0 rf Qb k (0) a,([7,3]:List Nat).zip (Vz rf Qb k (0) a),WV rf Qb k (0) a,
 [QK 8 [] b b]⟩:=by intro a b;kernel_rfl
theorem xu(B:Lo)(rf:Qe)(Qb:List Int)(k:Int):let i:=OO.ret (.tuple #[]);let e:=QX YP 84;let d:=rf.Qa;let g:=Qg QW (List.map Uw d);let c:=OO.ret (.slice (some {block:=3,off:=0}) d.length 2);let b:=OO.ret (Value.func (Fn.func 112) #[] #[Q6 5 (Ra 0 (TZ rf Qb)),Q6 5 (Ra 0 #[.int .i64 k])]);let a:=ZO d (Qb.getD k.toNat 0);let h:=Qg QW a;let f:=Fz.cs {k:=3,rs:=[],cs:=Qg QW a};Xe (Qv YP (QA YP) J0 B 16 1 (Qw YP 84 26 (([.agg (QV rf Qb).toArray,.int .i64 k]).map (Q8 0 4))) Ze 1
 [(5,Qj.call (NI 2) c ([]++(2,Xp)::Xk 3 [Obj.cells g 38]) 4 []),(10,Qj.call (NI 5) b ([]++(5,Xp)::Xk 6 []) 6 []),(11,Qj.call (NI 8) i ([(7,Obj.loop {state:=LoopState.ready,pending:=none,fn:=84,tmps:=(aa rf Qb k),params:=#[14],assign:=RC e [1,1,0,1,0,0],body:=RC e [1,1,0,1,0,1],defers:=6}),(3,Obj.cells h 38)]++(8,Xp)::Xk 9 []) 9 [7,3])] 0 [] []) [{k:=3,rs:=[],cs:=Qg QW a}]=some (QO d.length f,
 [XT (Fz.rs {k:=3,rs:=[],cs:=Qg QW a}) h f,FJ YP B (Jb rf Qb k) (Vm rf Qb k) 8 i (([(7,Obj.loop {state:=LoopState.ready,pending:=none,fn:=84,tmps:=(aa rf Qb k),params:=#[14],assign:=RC e [1,1,0,1,0,0],body:=RC e [1,1,0,1,0,1],defers:=6}),(3,Obj.cells h 38)]++((8,Xp)::Xk (8+1) []))++Vm rf Qb k) 9 (NI 8) [7,3],FJ YP B (ag rf Qb k) (PX rf Qb k) 5 b (([]++((5,Xp)::Xk (5+1) []))++PX rf Qb k) 6 (NI 5) [],FJ YP B (Jc rf Qb k) (VD rf Qb k) 2 c (([]++((2,Xp)::Xk (2+1) [Obj.cells g 38]))++VD rf Qb k) 4 (NI 2) []]):=by intro i e d g c b a h f;kernel_rfl
set_option maxHeartbeats 4000000 in
theorem Ev(rf:Qe)(Qb:List Int)(k:Int)(hn:rf.Qa.length<=4)(hl:Qb.length<=4)(k0:0<=k)(k1:k<4)(hp:∀j:Nat,0<=Qb.getD j 0/\Qb.getD j 0<=1000000){B:Lo}(hJ:∀w,B.has w->J0 w):EndsT YP B (Qw YP 84 26 (([.agg (QV rf Qb).toArray,.int .i64 k]).map (Q8 0 4))) (P0 (ZO rf.Qa (Qb.getD k.toNat 0))):=by
 have rj0:FJ YP B (Jc rf Qb k) (VD rf Qb k) 2 (OO.ret (.slice (some {block:=3,off:=0}) rf.Qa.length 2)) (([]++((2,Xp)::Xk (2+1) [Obj.cells (Qg QW (List.map Uw rf.Qa)) 38]))++VD rf Qb k) 4 (NI 2) []:=by
  exact FinK.fjB ((pM rf Qb k hn hl k0 k1 hp hJ _) (0) (Of rf.Qa.length {lo:=0,hi:=0}) rfl (by omega) (by exact dW)
   (GoE.landA okF hJ Qf (Q9 (by kernel_rfl)) (Q1 (by kernel_rfl)) ((GoE.refl (P:=YP) (B:=B) (c0:=Jc rf Qb k) (Q9 (by kernel_rfl))).widen (Wf:=((([]):List (Nat×KS)).map (·.1))) (by simp) (Q1 (by kernel_rfl))) (AU B rf Qb k)
   ⟨(by exact(Ki (by exact⟨(.simple rfl),⟨(.simple rfl),trivial⟩⟩) _)),⟨(ni (bytes:=16) (by kernel_rfl) (by omega) (by omega) (by omega)),trivial⟩⟩ (by kernel_rfl) (by kernel_rfl) (fun l hl=>by cases hl <;> decide))) (ex:=[]) (by kernel_rfl) (Vo _)
 have rj1:FJ YP B (ag rf Qb k) (PX rf Qb k) 5 (OO.ret (Value.func (Fn.func 112) #[] #[Q6 5 (Ra 0 #[QO rf.Qa.length (Qg Qk rf.Qa),.int .i64 rf.Qn,.int .i64 rf.Qc,.int .i64 (Qb.getD 0 0),.int .i64 (Qb.getD 1 0),.int .i64 (Qb.getD 2 0),.int .i64 (Qb.getD 3 0)]),Q6 5 (Ra 0 #[.int .i64 k])])) (([]++((5,Xp)::Xk (5+1) []))++PX rf Qb k) 6 (NI 5) []:=by
  exact FinK.fjB (GoE.finK okF hJ Qf (Q9 (by kernel_rfl)) (Q1 (by kernel_rfl)) ((GoE.refl (P:=YP) (B:=B) (c0:=ag rf Qb k) (Q9 (by kernel_rfl))).widen (Wf:=((([]):List (Nat×KS)).map (·.1))) (by simp) (Q1 (by kernel_rfl))) (AP B rf Qb k)
   ⟨(Cg (by kernel_rfl)),⟨(aP (by kernel_rfl)),trivial⟩⟩) (ex:=[3]) (by kernel_rfl) ⟨trivial,⟨trivial,⟨(JH (t:=38) (fl:=(0,0)) (fun x=>List.all_eq_true.1 (by rfl))),⟨trivial,⟨trivial,trivial⟩⟩⟩⟩⟩
 have rj2:FJ YP B (Jb rf Qb k) (Vm rf Qb k) 8 (OO.ret (.tuple #[])) (([(7,Obj.loop {state:=LoopState.ready,pending:=none,fn:=84,tmps:=#[.agg #[Q6 0 (QO rf.Qa.length (Qg Qk rf.Qa)),.int .i64 rf.Qn,.int .i64 rf.Qc,.int .i64 (Qb.getD 0 0),.int .i64 (Qb.getD 1 0),.int .i64 (Qb.getD 2 0),.int .i64 (Qb.getD 3 0)],.int .i64 k,pA 1 0,.tuple #[],.slice none 0 0,pA 4 0,.tuple #[],pA 1 0,pA 1 0,Q6 0 (QO rf.Qa.length (Qg Qk rf.Qa)),.slice (some {block:=3,off:=0}) rf.Qa.length 2,.agg #[Q6 0 (QO rf.Qa.length (Qg Qk rf.Qa)),.int .i64 rf.Qn,.int .i64 rf.Qc,.int .i64 (Qb.getD 0 0),.int .i64 (Qb.getD 1 0),.int .i64 (Qb.getD 2 0),.int .i64 (Qb.getD 3 0)],.int .i64 k,Value.func (Fn.func 112) #[] #[Q6 5 (Ra 0 #[QO rf.Qa.length (Qg Qk rf.Qa),.int .i64 rf.Qn,.int .i64 rf.Qc,.int .i64 (Qb.getD 0 0),.int .i64 (Qb.getD 1 0),.int .i64 (Qb.getD 2 0),.int .i64 (Qb.getD 3 0)]),Q6 5 (Ra 0 #[.int .i64 k])],.tuple #[],.tuple #[],.tuple #[],.tuple #[],.tuple #[],.tuple #[],.tuple #[],.tuple #[],.tuple #[],.tuple #[],.tuple #[],.tuple #[]],params:=#[14],assign:=RC (QX YP 84) [1,1,0,1,0,0],body:=RC (QX YP 84) [1,1,0,1,0,1],defers:=6}),(3,Obj.cells (Qg QW (ZO rf.Qa (Qb.getD k.toNat 0))) 38)]++((8,Xp)::Xk (8+1) []))++Vm rf Qb k) 9 (NI 8) [7,3]:=by
  exact FinK.fjB ((pL rf Qb k hn hl k0 k1 hp hJ _) (0) (List.map Uw rf.Qa) rfl (by omega) (by exact C1)
   (GoE.landA okF hJ Qf (Q9 (by kernel_rfl)) (Q1 (by kernel_rfl)) ((GoE.refl (P:=YP) (B:=B) (c0:=Jb rf Qb k) (Q9 (by kernel_rfl))).widen (Wf:=((([(7,KS.auto),(3,KS.cells [] (Qg QW (List.map Uw rf.Qa)))]):List (Nat×KS)).map (·.1))) (by simp) (Q1 (by kernel_rfl))) (AO B rf Qb k)
   ⟨(Qr (Q2 (fun x=>List.all_eq_true.1 (by rfl)))),trivial⟩ (by kernel_rfl) (by kernel_rfl) (fun l hl=>by cases hl <;> decide))) (ex:=[3]) (by kernel_rfl) ⟨trivial,⟨trivial,⟨trivial,⟨trivial,⟨trivial,⟨(JH (t:=38) (fl:=(0,0)) (fun x=>List.all_eq_true.1 (by rfl))),⟨trivial,⟨trivial,trivial⟩⟩⟩⟩⟩⟩⟩⟩
 exact(GoE.endsT okF hJ Qf GoE.start (xu B rf Qb k)
  ⟨(X9 (fun x=>List.all_eq_true.1 (by rfl))),⟨rj2,⟨rj1,⟨rj0,trivial⟩⟩⟩⟩).cast (by exact bY rfl (by rw[ZO,Xf];omega))
theorem L8(rf:Qe)(Qb:List Int)(k:Int)(hn:rf.Qa.length<=4)(hl:Qb.length<=4)(k0:0<=k)(k1:k<4)(hp:∀j:Nat,0<=Qb.getD j 0/\Qb.getD j 0<=1000000):Q4 YP J0 84 #[.agg (QV rf Qb).toArray,.int .i64 k] (P0 (ZO rf.Qa (Qb.getD k.toNat 0))):=
 Xr (ts:=[.agg (QV rf Qb).toArray,.int .i64 k]) Zk (c0:=Qw YP 84 26 (([.agg (QV rf Qb).toArray,.int .i64 k]).map (Q8 0 4))) (by kernel_rfl) (by kernel_rfl) fun B hJ=>Ev rf Qb k hn hl k0 k1 hp hJ
end
end Go.Proofs.Ytncjjangllkokaa

namespace Go.Proofs.Ytncjjangllkokaa
open Go Go.CE Go.RowKit
def QS(a b:Int)(g:Int->Int):Int:=se ((JY a b).map g)
theorem ZQ{a b:Int}{g:Int->Int}(h:b<=a):QS a b g=0:=by
 unfold QS;rw[zi h];rfl
theorem sd:∀(l m:List Int),se (l++m)=se l+se m
 |[],m=>by simp[se]
 |x::l,m=>by simp only[List.cons_append,se,sd l m];omega
theorem QM{i:Int}{g:Int->Int}(h:0<=i):QS 0 (i+1) g=QS 0 i g+g i:=by
 have e:JY 0 (i+1)=JY 0 i++[i]:=by
  unfold JY;rw[show(i+1-0).toNat=(i-0).toNat+1 by omega,List.range_succ,List.map_append];congr 1;simp;omega
 unfold QS;rw[e,List.map_append,sd];simp[se]
theorem ZZ{g:Int->Int}{K:Int}:∀(k:Nat),(∀m:Int,0<=m->m<k->0<=g m/\g m<=K)->0<=QS 0 k g/\QS 0 k g<=K*k
 |0,_=>by rw[ZQ (by omega)];omega
 |k+1,h=>by
  have ih:=ZZ k fun m h0 h1=>h m h0 (by omega)
  have h2:=h k (by omega) (by omega);rw[show((k+1:Nat):Int)=(k:Int)+1 by omega,QM (by omega),Int.mul_add,Int.mul_one];omega
structure F4 where
 a:Int
 b:Int
 c:Int
 d:Int
deriving Inhabited
def F4.at(f:F4)(k:Int):Int:=Qm [f.a,f.b,f.c,f.d] k.toNat
def F4.sum(f:F4):Int:=f.a+f.b+f.c+f.d
def wW(g:Int->Int):F4:=⟨g 0,g 1,g 2,g 3⟩
theorem bJ{i:Int}(h0:0<=i)(h:i<4):i=0\/i=1\/i=2\/i=3:=by omega
theorem U9{g:Int->Int}{k:Int}(h0:0<=k)(h:k<4):(wW g).at k=g k:=by
 rcases bJ h0 h with rfl|rfl|rfl|rfl <;> rfl
def Pa(f:F4):Prop:=(0<=f.a/\0<=f.b/\0<=f.c/\0<=f.d)/\f.sum<=100000000000
theorem ZI{f:F4}(hf:Pa f){i:Int}(h0:0<=i)(h:i<4):0<=f.at i/\f.at i<=f.sum/\f.sum<=100000000000:=by
 obtain⟨⟨h1,h2,h3,h4⟩,h5⟩:=hf;have e:f.sum=f.a+f.b+f.c+f.d:=rfl;have h5':=h5;rw[e]at h5' ⊢;rcases bJ h0 h with rfl|rfl|rfl|rfl
 ·have:f.at 0=f.a:=rfl;omega
 ·have:f.at 1=f.b:=rfl;omega
 ·have:f.at 2=f.c:=rfl;omega
 ·have:f.at 3=f.d:=rfl;omega
abbrev Ve(ps:List Qd)(k:Int):Qd:=ps.getD k.toNat NC
abbrev nth(xs:List Int)(k:Int):Int:=xs.getD k.toNat NC
def Y4(ps:List Qd):Prop:=ps.length<=4/\∀k:Int,0<=k->k<ps.length->(0<=(Ve ps k).room/\(Ve ps k).room<=1000000)/\(0<=(Ve ps k).drift/\(Ve ps k).drift<=1000)/\YH ps.length (Ve ps k).into=true/\(Ve ps k).into≠k
def UP(n:Nat)(xs:List Int)(m:Int):Prop:=xs.length=n/\∀k:Int,0<=k->k<n->0<=nth xs k/\nth xs k<=m
def ZJ(gs:List Int)(ps:List Qd)(f:F4)(k:Int):Int:=Wm (Ve ps k).room (f.at k) (nth gs k)
def XA(gs:List Int)(ps:List Qd)(f:F4)(i j:Int):Int:=if j<i then f.at j+ZJ gs ps f j else f.at j
def WZ(gs:List Int)(ps:List Qd)(f:F4):F4:=wW (XA gs ps f ps.length)
def ZK(ps:List Qd)(b:F4)(k:Int):Int:=(b.at k*(Ve ps k).drift).tdiv 1000
def Ww(ps:List Qd)(b:F4)(i j:Int):Int:=b.at j-(if j<i then ZK ps b j else 0)+QS 0 i (fun m=>if(Ve ps m).into=j then ZK ps b m else 0)
def SC(ps:List Qd)(b:F4):F4:=wW (Ww ps b ps.length)
def Zs(ps:List Qd)(b:F4)(j:Int):Int:=if(Ve ps j).into= -1 then ZK ps b j else 0
def Zh(ts:List Int)(b:F4)(k:Int):Int:=if nth ts k<b.at k then nth ts k else b.at k
def YA(ts:List Int)(b:F4)(i j:Int):Int:=if j<i then b.at j-Zh ts b j else b.at j
def wU(ts:List Int)(ps:List Qd)(b:F4):F4:=wW (YA ts b ps.length)
def X3(gs ts:List Int)(ps:List Qd)(f:F4):F4:=wU ts ps (SC ps (WZ gs ps f))
theorem bW{g:Int->Int}{i:Int}(h0:0<=i)(h:i<4):Qm [g 0,g 1,g 2,g 3] i.toNat=g i:=by
 rcases bJ h0 h with rfl|rfl|rfl|rfl <;> rfl
theorem yC{gs:List Int}{ps:List Qd}{f:F4}{i:Int}:XA gs ps f i i=f.at i:=by
 unfold XA;rw[if_neg (by omega)]
theorem FC{gs:List Int}{ps:List Qd}{f:F4}{i:Int}{j:Nat}:(if i.toNat=j then f.at i+ZJ gs ps f i else XA gs ps f i j)=XA gs ps f (i+1) j\/i<0:=by
 by_cases h0:0<=i
 ·refine .inl ?_;unfold XA;by_cases h:i.toNat=j
  ·have e1:i=(j:Int):=by omega
   rw[if_pos h,if_pos (by omega),e1]
  ·rw[if_neg h];by_cases h2:(j:Int)<i
   ·rw[if_pos h2,if_pos (by omega)]
   ·rw[if_neg h2,if_neg (by omega)]
 ·exact .inr (by omega)
theorem iK{gs:List Int}{ps:List Qd}{f:F4}{i:Int}{j:Nat}(h0:0<=i):(if i.toNat=j then f.at i+ZJ gs ps f i else XA gs ps f i j)=XA gs ps f (i+1) j:=FC.resolve_right (by omega)
theorem Gi{room s t:Int}{w:Int}(ht:t=w.tdiv 1000)(h:0<=t):(if(if room-s > 0 then room-s else 0)<t then(if room-s > 0 then room-s else 0)else t)=if room<=s then 0 else if t<room-s then t else room-s:=by
 by_cases h1:room<=s
 ·rw[if_pos h1,if_neg (show ¬room-s > 0 by omega)];by_cases h2:0<t
  ·rw[if_pos h2]
  ·rw[if_neg h2];omega
 ·rw[if_neg h1,if_pos (show room-s > 0 by omega)];by_cases h2:room-s<t
  ·rw[if_pos h2,if_neg (by omega)]
  ·by_cases h3:t<room-s
   ·rw[if_neg h2,if_pos h3]
   ·rw[if_neg h2,if_neg h3];omega
theorem Px{gs:List Int}{ps:List Qd}{f:F4}{i:Int}(hp:Y4 ps)(hg:UP ps.length gs 2000)(hf:Pa f)(h0:0<=i)(h:i<ps.length):0<=ZJ gs ps f i/\ZJ gs ps f i<=1000000:=by
 have h1:=hp.2 i h0 h;have h2:=hg.2 i h0 h;have ha:=ZI hf h0 (by have:=hp.1;omega);have hm:=Ky (a:=f.at i) (r:=nth gs i) (by omega) (by omega);unfold ZJ Wm;split
 ·omega
 ·split <;> omega
theorem Yy{ps:List Qd}{b:F4}{i j:Int}(h:0<=i):Ww ps b (i+1) j=Ww ps b i j-(if j=i then ZK ps b i else 0)+(if(Ve ps i).into=j then ZK ps b i else 0):=by
 unfold Ww;rw[QM h];by_cases e:j=i
 ·subst e;rw[if_pos (show j<j+1 by omega),if_neg (show ¬j<j by omega),if_pos rfl];omega
 ·rw[if_neg e];by_cases e2:j<i
  ·rw[if_pos e2,if_pos (by omega)];omega
  ·rw[if_neg e2,if_neg (by omega)];omega
theorem aO{ps:List Qd}{b:F4}{j:Int}(h:0<=j):Ww ps b 0 j=b.at j:=by
 unfold Ww;rw[if_neg (by omega),ZQ (by omega)];omega
theorem wT{ts:List Int}{b:F4}{i:Int}:YA ts b i i=b.at i:=by
 unfold YA;rw[if_neg (by omega)]
theorem iw{ts:List Int}{b:F4}{i:Int}{j:Nat}(h0:0<=i):(if i.toNat=j then b.at i-Zh ts b i else YA ts b i j)=YA ts b (i+1) j:=by
 unfold YA;by_cases h:i.toNat=j
 ·have e1:i=(j:Int):=by omega
  rw[if_pos h,if_pos (by omega),e1]
 ·rw[if_neg h];by_cases h2:(j:Int)<i
  ·rw[if_pos h2,if_pos (by omega)]
  ·rw[if_neg h2,if_neg (by omega)]
theorem iP{ps:List Qd}{b:F4}{i:Int}{j:Nat}(h0:0<=i)(h:(Ve ps i).into= -1):(if i.toNat=j then Ww ps b i i-ZK ps b i else Ww ps b i j)=Ww ps b (i+1) j:=by
 rw[Yy h0,h,if_neg (show ¬(-1:Int)=(j:Int)by omega)];by_cases h1:i.toNat=j
 ·have e1:i=(j:Int):=by omega
  rw[if_pos h1,if_pos (by omega),e1];omega
 ·rw[if_neg h1,if_neg (by omega)];omega
theorem iQ{ps:List Qd}{b:F4}{i v:Int}{j:Nat}(h0:0<=i)(hv:(Ve ps i).into=v)(v0:0<=v)(hn:v≠i):(if v.toNat=j then Ww ps b i v+ZK ps b i else if i.toNat=j then Ww ps b i i-ZK ps b i else Ww ps b i j)=Ww ps b (i+1) j:=by
 rw[Yy h0,hv];by_cases h1:v.toNat=j
 ·have e1:v=(j:Int):=by omega
  rw[if_pos h1,if_neg (show ¬(j:Int)=i by omega),if_pos e1,e1];omega
 ·rw[if_neg h1,if_neg (show ¬v=(j:Int)by omega)];by_cases h2:i.toNat=j
  ·have e1:i=(j:Int):=by omega
   rw[if_pos h2,if_pos (by omega),e1];omega
  ·rw[if_neg h2,if_neg (by omega)];omega
theorem UF{ps:List Qd}{b:F4}{i:Int}(hp:Y4 ps)(hf:Pa b)(h0:0<=i)(h:i<ps.length):0<=ZK ps b i/\ZK ps b i<=b.at i:=by
 have h1:=hp.2 i h0 h;have ha:=ZI hf h0 (by have:=hp.1;omega);have e0:0<=b.at i*(Ve ps i).drift:=Int.mul_nonneg ha.1 h1.2.1.1;have e1:b.at i*(Ve ps i).drift<=b.at i*1000:=Int.mul_le_mul_of_nonneg_left h1.2.1.2 ha.1;have e2:(b.at i*(Ve ps i).drift).tdiv 1000=(b.at i*(Ve ps i).drift) / 1000:=Ov e0;unfold ZK;rw[e2];omega
theorem Ux{ps:List Qd}{b:F4}{i j:Int}(hp:Y4 ps)(hf:Pa b)(h0:0<=i)(h:i<=ps.length)(j0:0<=j)(j1:j<4):0<=Ww ps b i j/\Ww ps b i j<=500000000000:=by
 have ha:=ZI hf j0 j1;have hs:=ZZ (g:=fun m=>if(Ve ps m).into=j then ZK ps b m else 0) (K:=100000000000) i.toNat fun m m0 m1=>by
  have h9:=hp.1;have:=UF hp hf (i:=m) m0 (by omega);have hm:=ZI hf (i:=m) m0 (by omega);split <;> omega
 rw[show((i.toNat:Nat):Int)=i by omega]at hs;have h4:=hp.1;unfold Ww;split
 ·have:=UF hp hf j0 (by omega);omega
 ·omega
theorem Ya{ts:List Int}{b:F4}{n:Nat}{m i:Int}(ht:UP n ts m)(hf:Pa b)(h0:0<=i)(h:i<n)(h4:n<=4):0<=Zh ts b i/\Zh ts b i<=b.at i/\Zh ts b i<=m:=by
 have ha:=ZI hf h0 (by omega);have h1:=ht.2 i h0 h;unfold Zh;split <;> omega
theorem zI{gs:List Int}{ps:List Qd}{f:F4}{i j:Int}(hp:Y4 ps)(hg:UP ps.length gs 2000)(hf:Pa f)(h:i<=ps.length)(j0:0<=j)(j1:j<4):0<=XA gs ps f i j/\XA gs ps f i j<=f.at j+1000000:=by
 have ha:=ZI hf j0 j1;unfold XA;split
 ·have:=Px hp hg hf j0 (show j<ps.length by omega);omega
 ·omega
theorem FA{gs:List Int}{ps:List Qd}{f:F4}(hp:Y4 ps)(hg:UP ps.length gs 2000)(hf:Pa f):(0<=(WZ gs ps f).a/\0<=(WZ gs ps f).b/\0<=(WZ gs ps f).c/\0<=(WZ gs ps f).d)/\(WZ gs ps f).sum<=f.sum+4000000:=by
 have h0:=zI hp hg hf (Ol _) (j:=0) (by omega) (by omega);have h1:=zI hp hg hf (Ol _) (j:=1) (by omega) (by omega);have h2:=zI hp hg hf (Ol _) (j:=2) (by omega) (by omega);have h3:=zI hp hg hf (Ol _) (j:=3) (by omega) (by omega);refine⟨⟨h0.1,h1.1,h2.1,h3.1⟩, ?_⟩;show XA gs ps f ps.length 0+XA gs ps f ps.length 1+XA gs ps f ps.length 2+XA gs ps f ps.length 3<=f.a+f.b+f.c+f.d+4000000;have e0:f.at 0=f.a:=rfl;have e1:f.at 1=f.b:=rfl;have e2:f.at 2=f.c:=rfl;have e3:f.at 3=f.d:=rfl;omega
def Mr(ps:List Qd)(b:F4)(i:Int):Int:=Ww ps b i 0+Ww ps b i 1+Ww ps b i 2+Ww ps b i 3
theorem FU{ps:List Qd}{b:F4}{i:Int}(hp:Y4 ps)(h0:0<=i)(h:i<ps.length):Mr ps b (i+1)=Mr ps b i-Zs ps b i:=by
 have h1:=hp.1;have h2:=(hp.2 i h0 h).2.2.1;unfold Mr Zs;rw[Yy h0,Yy h0,Yy h0,Yy h0];simp only[YH,Bool.or_eq_true,decide_eq_true_iff,Wa]at h2;generalize (Ve ps i).into=v at *;generalize ZK ps b i=w at *;have hi:=bJ h0 (show i<4 by omega);by_cases hv:v= -1
 ·subst hv;rcases hi with rfl|rfl|rfl|rfl <;> simp <;> omega
 ·have ZY:=bJ (show 0<=v by omega) (show v<4 by omega);rcases hi with rfl|rfl|rfl|rfl <;> rcases ZY with rfl|rfl|rfl|rfl <;> simp <;> omega
theorem zM{ps:List Qd}{b:F4}(hp:Y4 ps):∀k:Nat,k<=ps.length->Mr ps b k=b.sum-QS 0 k (Zs ps b)
 |0,_=>by
  rw[show((0:Nat):Int)=0 from rfl,ZQ (by omega)];unfold Mr;rw[aO (by omega),aO (by omega),aO (by omega),aO (by omega)];have e:b.sum=b.at 0+b.at 1+b.at 2+b.at 3:=rfl;omega
 |k+1,h=>by
  rw[show((k+1:Nat):Int)=(k:Int)+1 by omega,FU hp (by omega) (by omega),zM hp k (by omega),QM (by omega)];omega
end Go.Proofs.Ytncjjangllkokaa
