/- Reef: what is taken, with a plan. -/
import Derived.Test.YtncjjangllkokaaZRR12
set_option linter.all false
open List renaming getElem?_map->Lu,getD_eq_getElem?_getD->Li,getElem?_eq_none->Lw,getElem?_eq_getElem->LU,length->Lf,range->Ld,replicate->Lq
open Int renaming toNat->Lb,mul_nonneg->LG,tdiv_eq_ediv_of_nonneg->LQ,le_refl->LJ
open Array renaming extract->LO
open Nat renaming strongRecOn->LA,lt_of_lt_of_eq->LI
open Inhabited renaming default->La
namespace Go.Proofs.Ytncjjangllkokaa
open Go Go.CE Go.RowKit
noncomputable section
set_option maxRecDepth 100000
def T3{β:Type}(n:Int)(f:Int->β):List β:=(pC 0 n).map f
theorem ZB{β:Type}{n:Int}{f:Int->β}:(T3 n f).length=n.toNat:=by simp[T3,pC]
theorem Yq{β:Type}{n:Int}{f:Int->β}{k:Nat}(h:k<n.toNat):(T3 n f)[k]? =some (f k):=by
 unfold T3 pC;rw[Lu,Lu,List.getElem?_range (by omega)];simp
theorem U0{β:Type}[Inhabited β]{n k:Int}{f:Int->β}(h0:0<=k)(h:k<n):(T3 n f).getD k.toNat La=f k:=by
 rw[Li,Yq (by omega),show((k.toNat:Nat):Int)=k by omega];rfl
theorem P3{β:Type}{n:Int}{f g:Int->β}(h:∀k,0<=k->k<n->f k=g k):T3 n f=T3 n g:=by
 refine List.ext_getElem? fun k=> ?_
 by_cases hk:k<n.toNat
 ·rw[Yq hk,Yq hk,h k (by omega) (by omega)]
 ·rw[Lw (by rw[ZB];omega),Lw (by rw[ZB];omega)]
theorem zU{β:Type}{n i:Int}{f:Int->β}{v:β}(h0:0<=i)(h:i<n):(T3 n f).set i.toNat v=T3 n (fun k=>if k=i then v else f k):=by
 refine List.ext_getElem? fun k=> ?_
 by_cases hk:k<n.toNat
 ·rw[List.getElem?_set,ZB,Yq hk,Yq hk];by_cases e:i.toNat=k
  ·rw[if_pos e,if_pos (by omega),if_pos (by omega)]
  ·rw[if_neg e,if_neg (by omega)]
 ·rw[Lw (by rw[List.length_set,ZB];omega),Lw (by rw[ZB];omega)]
theorem Ey{α β:Type}[Inhabited α]{xs:List α}{f:α->β}:xs.map f=T3 xs.length (fun k=>f (xs.getD k.toNat La)):=by
 refine List.ext_getElem? fun k=> ?_
 by_cases hk:k<xs.length
 ·rw[Yq (by omega),Lu,LU hk];simp[Li,hk]
 ·rw[Lw (by simp;omega),Lw (by rw[ZB];omega)]
def zX(x:Qe):Span:=⟨x.Jz,x.J1⟩
def Yp(p k:Int)(x:Qe):Span:=if hasB p k then zX x else UU x
def ZC(ps:List Qe)(p:Int):List Span:=T3 ps.length fun k=>Yp p k (ps.getD k.toNat La)
def P2(ps:List Qe)(p i:Int):List Span:=T3 ps.length fun k=>if k<i then Yp p k (ps.getD k.toNat La)else UU (ps.getD k.toNat La)
theorem zT{ps:List Qe}{p:Int}:ps.map UU=P2 ps p 0:=by
 rw[Ey];exact P3 fun k h0 _=>by rw[if_neg (by omega)]
theorem uA{ps:List Qe}{p i:Int}(h:ps.length<=i):P2 ps p i=ZC ps p:=P3 fun k h0 h1=>by rw[if_pos (by omega)]
theorem x6{ps:List Qe}{p i:Int}(h0:0<=i)(h:hasB p i=false):P2 ps p i=P2 ps p (i+1):=P3 fun k g0 g1=>by
 by_cases e:k=i
 ·subst e;rw[if_neg (by omega),if_pos (by omega),Yp,h];rfl
 ·by_cases e2:k<i
  ·rw[if_pos e2,if_pos (by omega)]
  ·rw[if_neg e2,if_neg (by omega)]
theorem fO{ps:List Qe}{p i:Int}(h0:0<=i)(h1:i<ps.length)(h:hasB p i=true):(P2 ps p i).set i.toNat (zX (ps.getD i.toNat La))=P2 ps p (i+1):=by
 unfold P2;rw[zU h0 h1];refine P3 fun k g0 g1=> ?_
 by_cases e:k=i
 ·subst e;rw[if_pos rfl,if_pos (by omega),Yp,h];rfl
 ·rw[if_neg e];by_cases e2:k<i
  ·rw[if_pos e2,if_pos (by omega)]
  ·rw[if_neg e2,if_neg (by omega)]
theorem T4{n k:Int}(hn:0<=n):0<=((Zx n k:Nat):Int)/\((Zx n k:Nat):Int)<=n:=by
 have:=D9 (a:=n) (n:=k);omega
def Ye(x_:Qe):Array Value:=#[.int .i64 x_.count,.int .i64 x_.room,.int .i64 x_.glo,.int .i64 x_.ghi,.int .i64 x_.QR,.int .i64 x_.XE,.int .i64 x_.JX,.int .i64 x_.JY,.int .i64 x_.Jz,.int .i64 x_.J1,.int .i64 x_.goal,.int .i64 x_.Xz]
def S0(rf:Qc)(plan:List Int)(k:Int):Array Value:=let i:=rf.Qi;let g:=rf.Qb;let f:=plan.getD 3 0;let e:=plan.getD 2 0;let d:=plan.getD 1 0;let c:=plan.getD 0 0;let b:=rf.Qa;let h:=Lf b;let a:=QJ h (Qm Qf b);#[.agg #[Qn 0 a,.int .i64 i,.int .i64 g,.int .i64 c,.int .i64 d,.int .i64 e,.int .i64 f],.int .i64 k,pA 1 0,.tuple #[],.slice none 0 0,pA 4 0,.tuple #[],pA 1 0,pA 1 0,Qn 0 a,.slice (some {block:=3,off:=0}) h 2,.agg #[Qn 0 a,.int .i64 i,.int .i64 g,.int .i64 c,.int .i64 d,.int .i64 e,.int .i64 f],.int .i64 k,Value.func (Fn.func 112) #[] #[Qn 5 (Zy 0 #[QJ h (Qm Qf b),.int .i64 i,.int .i64 g,.int .i64 c,.int .i64 d,.int .i64 e,.int .i64 f]),Qn 5 (Zy 0 #[.int .i64 k])],.tuple #[],.tuple #[],.tuple #[],.tuple #[],.tuple #[],.tuple #[],.tuple #[],.tuple #[],.tuple #[],.tuple #[],.tuple #[],.tuple #[]]
def Sz(rf:Qc)(plan:List Int):Array Value:=#[QJ rf.Qa.length (Qm Qf rf.Qa),.int .i64 rf.Qi,.int .i64 rf.Qb,.int .i64 (plan.getD 0 0),.int .i64 (plan.getD 1 0),.int .i64 (plan.getD 2 0),.int .i64 (plan.getD 3 0)]
def xM(rf:Qc)(i:Int):Value:=(.agg #[.int .i64 (Qe.JX (rf.Qa.getD i.toNat La)),.int .i64 (Qe.JY (rf.Qa.getD i.toNat La))])
def WS(rf:Qc)(plan:List Int)(k:Int):Qj:=[(1,Obj.cells #[Qn 0 (QJ rf.Qa.length (Qm Qf rf.Qa)),.int .i64 rf.Qi,.int .i64 rf.Qb,.int .i64 (plan.getD 0 0),.int .i64 (plan.getD 1 0),.int .i64 (plan.getD 2 0),.int .i64 (plan.getD 3 0)] 84),(0,Obj.coro none)]
def Yg(rf:Qc)(plan:List Int)(k:Int):CF:=⟨102,ofList 26 [Qn 0 (QJ rf.Qa.length (Qm Qf rf.Qa)),Value.func (Fn.func 105) #[] #[]],[Item.code (Q9 YP 102)],[],.run,none⟩
def UN(rf:Qc)(plan:List Int)(k:Int)(i:Int)(ys:List Span):List Value:=[Value.func (Fn.func 105) #[] #[],.slice (some {block:=3,off:=0}) rf.Qa.length 2,Qn 0 (QJ rf.Qa.length (Qm Qf rf.Qa)),.int .i64 (↑rf.Qa.length:Int),.int .i64 i]
def UM(rf:Qc)(plan:List Int)(k:Int)(i:Int)(ys:List Span):List Obj:=[]
def VK(rf:Qc)(plan:List Int)(k:Int)(i:Int)(ys:List Span):List Obj:=[.cells (Qm Xf ys) 38 (0,0)]
def UO:List Item:=([.code [1,1,0,1,0,0],.inLoop [1,1,0,1,0,0],.inBlock 0,.code [1,1,1]]).map (it (Q9 YP 102))
def JB(rf:Qc)(plan:List Int)(k:Int)(i:Int)(ys:List Span)(Qt:Nat->Value):Qj:=[(4,Obj.cells (Ye (rf.Qa.getD i.toNat La)) 54),(2,Obj.coro none),(3,Obj.cells (Qm Xf ys) 38),(1,Obj.cells #[Qn 0 (QJ rf.Qa.length (Qm Qf rf.Qa)),.int .i64 rf.Qi,.int .i64 rf.Qb,.int .i64 (plan.getD 0 0),.int .i64 (plan.getD 1 0),.int .i64 (plan.getD 2 0),.int .i64 (plan.getD 3 0)] 84),(0,Obj.coro none)]
def S4(rf:Qc)(plan:List Int)(k:Int)(i:Int)(ys:List Span)(Qt:Nat->Value):CF:=⟨105,ofList 5 [.agg (Ye (rf.Qa.getD i.toNat La))],[Item.code (Q9 YP 105)],[],.run,none⟩
theorem xV(B:Lo)(rf:Qc)(plan:List Int)(k:Int)(i:Int)(ys:List Span)(Qt:Nat->Value):let a:=rf.Qa.getD i.toNat La;CE.finK 5 (Qs YP (Q0 YP) J0 B 6 5 (S4 rf plan k i ys Qt) (JB rf plan k i ys Qt) 5
 [] 0 [] []) [] [] []=some (OO.ret (.agg #[.int .i64 a.JX,.int .i64 a.JY]),[],[],
 []):=by intro a;kernel_rfl
theorem xU(B:Lo)(rf:Qc)(plan:List Int)(k:Int)(i:Int)(ys:List Span)(Qt:Nat->Value):let g:=VK rf plan k i ys;let f:=xM rf i;let d:=Lb i;let c:=rf.Qa;let b:=c.getD d La;let a:=List.set ys d {lo:=b.JX,hi:=b.JY};let e:=Qm Xf a;CE.landA 2 (Qs YP (Q0 YP) J0 B 13 2 (X9 (none) 102 26 (([1,5,11,12,13]:List Nat).zip (UN rf plan k i ys)) Qt UO) (Xs (WS rf plan k) 2 (([]:List Nat).zip (UM rf plan k i ys)) g) (2+1+g.length)
 [(0,VT),(2,Ql.tidx d (Ye b)),(11,Ql.call (Ld 5) (OO.ret f) ([]++(5,QM)::QD 6 []) 6 []),(12,Ql.WJ (Hint.idx d)),(13,Ql.WJ (Hint.st e)),(14,VU (i+1))] 0 [] []) [1,5,11,12,13] [] [(3,KS.cells [] e)] []=some ⟨102,26,UO,[],.run,none,UN rf plan k (i+1) a,([]:List Nat).zip (UM rf plan k (i+1) a),VK rf plan k (i+1) a,
 [Ks 2 [] e e,wq (i+1)=i+1,0+Lb i*2+TypeInfo.size Try.t38<=Array.size (Qm Xf ys)/\splice (Qm Xf ys) (0+Lb i*2) (Value.cells (Xm {len:=16000,tr:=Tri.set 14 (Tri.set 14 Tri.lf 22 f) 23 (.pointer (some {block:=3,off:=0+Lb i*2}))} 22))=Qm Xf a,i=(↑d:Int)/\Lb i<Lf c,FJ YP B (S4 rf plan k i ys Qt) (JB rf plan k i ys Qt) 5 (OO.ret f) (([]++((5,QM)::QD (5+1) []))++JB rf plan k i ys Qt) 6 (Ld 5) [],i=(↑d:Int)/\Lb i<Lf c/\LO (Qm Qf c) (Lb i*TypeInfo.size Try.t54) (Lb i*TypeInfo.size Try.t54+TypeInfo.size Try.t54)=(Ye b),Zm i (↑c.length:Int)=true]⟩:=by intro g f d c b a e;kernel_rfl
theorem xT(B:Lo)(rf:Qc)(plan:List Int)(k:Int)(i:Int)(ys:List Span)(Qt:Nat->Value):let c:=VK rf plan k i ys;let b:=Lf rf.Qa;let a:=Qm Xf ys;CE.finK 2 (Qs YP (Q0 YP) J0 B 9 2 (X9 (none) 102 26 (([1,5,11,12,13]:List Nat).zip (UN rf plan k i ys)) Qt UO) (Xs (WS rf plan k) 2 (([]:List Nat).zip (UM rf plan k i ys)) c) (2+1+c.length)
 [(0,VI)] 0 [] []) [] [(3,KS.cells [] a)] []=some (OO.ret (.slice (some {block:=3,off:=0}) b 2),[],[Obj.cells a 38],
 [Ks 2 [] a a,Zm i (↑b:Int)=false]):=by intro c b a;kernel_rfl
set_option maxHeartbeats 4000000 in
theorem nn(rf:Qc)(plan:List Int)(k:Int)(hn:rf.Qa.length<=4)(hl:plan.length<=4)(k0:0<=k)(k1:k<4)(hp:∀j:Nat,0<=plan.getD j 0/\plan.getD j 0<=1000000){B:Lo}(hJ:∀w,B.has w->J0 w):∀m:Nat,(∀(i:Int) (ys:List Span),(rf.Qa.length-i.toNat)=m->∀(h0:0<=i) (hy:ys=Ji UU ⟨0,0⟩ rf.Qa i),(∃Qt:Nat->Value,(∀t,X0 (Qt t))/\GoE YP B (Yg rf plan k) (WS rf plan k) 2 (X9 (none) 102 26 (([1,5,11,12,13]:List Nat).zip (UN rf plan k i ys)) Qt UO) (Xs (WS rf plan k) 2 (([]:List Nat).zip (UM rf plan k i ys)) (VK rf plan k i ys)) (2+1+(VK rf plan k i ys).length) ([]:List Nat))->FinK YP B (Yg rf plan k) (WS rf plan k) 2 (.ret (.slice (some ⟨3,0,none⟩) rf.Qa.length 2)) (([]:List Nat).zip ([])) ([.cells (Qm Xf (rf.Qa.map UU)) 38 (0,0)]) ([]:List Nat)):=by
 intro m0;induction m0 using LA with
 |_ m0 ih0=>
  intro i ys hm0 h0 hy ⟨Qt,KF,XW⟩;have hyl:ys.length=rf.Qa.length:=by rw[hy];exact Ph
  by_cases q0:(i:Int)<((↑rf.Qa.length:Int))
  ·have rj1:FJ YP B (S4 rf plan k i ys Qt) (JB rf plan k i ys Qt) 5 (OO.ret (.agg #[.int .i64 (Qe.JX (rf.Qa.getD i.toNat La)),.int .i64 (Qe.JY (rf.Qa.getD i.toNat La))])) (([]++((5,QM)::QD (5+1) []))++JB rf plan k i ys Qt) 6 (Ld 5) []:=by
    exact FinK.fjB (GoE.finK okF hJ Qd (Qk (by kernel_rfl)) (Qg (by kernel_rfl)) ((GoE.refl (P:=YP) (B:=B) (c0:=S4 rf plan k i ys Qt) (Qk (by kernel_rfl))).widen (Wf:=((([]):List (Nat×KS)).map (·.1))) (by simp) (Qg (by kernel_rfl))) (xV B rf plan k i ys Qt)
     trivial) (ex:=[3]) (by kernel_rfl) ⟨trivial,⟨trivial,⟨(YC (t:=38) (fl:=(0,0)) (fun x=>List.all_eq_true.1 (by rfl))),⟨trivial,⟨trivial,trivial⟩⟩⟩⟩⟩
   exact((ih0 _ (by omega)) (i+1) (List.set ys i.toNat {lo:=Qe.JX (rf.Qa.getD i.toNat La),hi:=Qe.JY (rf.Qa.getD i.toNat La)}) rfl (by omega) (by(subst hy;exact Pg (f:=UU) h0 q0))
    (GoE.landA okF hJ Qd (Qk (by kernel_rfl)) (Qg (by kernel_rfl)) XW (xU B rf plan k i ys Qt)
    (by exact⟨(XP (XK (fun x=>List.all_eq_true.1 (by rfl)))),⟨(Xq (by omega) (by omega)),⟨(by exact J6 (z:=2) (k:=Lb i) (fun _=>rfl) (by first|omega|(rw[List.length_set];omega)|(rw[List.length_replicate];omega)) rfl rfl),⟨⟨by omega,by omega⟩,⟨rj1,⟨⟨by omega,by omega,(QT (z:=12) (fun _=>rfl) (by omega))⟩,⟨(XY q0),trivial⟩⟩⟩⟩⟩⟩⟩) (by kernel_rfl) (by kernel_rfl) (fun l hl=>by cases hl <;> decide))).cast (by rfl) (by rfl) (by rfl)
  ·exact(GoE.finK okF hJ Qd (Qk (by kernel_rfl)) (Qg (by kernel_rfl)) XW (xT B rf plan k i ys Qt)
    ⟨(XP (XK (fun x=>List.all_eq_true.1 (by rfl)))),⟨(XZ (Int.not_lt.1 q0)),trivial⟩⟩).cast (by rfl) (by rfl) (by(rw[hy,Pj (by omega)];done))

theorem xW(B:Lo)(rf:Qc)(plan:List Int)(k:Int):let c:=Kf [.int .i64 0,.int .i64 0];let a:=Lf rf.Qa;let e:=Lq a ();let d:=Xm {len:=16000,tr:=Tri.set 14 Tri.lf 9 (.int .i64 (↑a:Int))} 9;let b:=Lq a {lo:=0,hi:=0};CE.landA 2 (Qs YP (Q0 YP) J0 B 9 2 (Yg rf plan k) (WS rf plan k) 2
 [(3,Ql.WJ (Hint.mk a (Qm c e)))] 0 [] []) [1,5,11,12,13] [] [(2,KS.rows [] [] [] (Qm Xf b))] []=some ⟨102,26,UO,[],.run,none,UN rf plan k (0) b,([]:List Nat).zip (UM rf plan k (0) b),VK rf plan k (0) b,
 [Jy 2 [] [] [] (Qm c e) (Qm Xf b),Rf YP 36 d d=some (38,Qm c e,Lf rf.Qa,TypeInfo.size Try.t38)]⟩:=by intro c a e d b;kernel_rfl
def JA(rf:Qc)(plan:List Int)(k:Int):Qj:=[(4,Obj.cells #[.slice (some {block:=3,off:=0}) rf.Qa.length 2] 36),(2,Obj.coro none),(3,Obj.cells (Qm Xf (List.map UU rf.Qa)) 38),(1,Obj.cells #[Qn 0 (QJ rf.Qa.length (Qm Qf rf.Qa)),.int .i64 rf.Qi,.int .i64 rf.Qb,.int .i64 (plan.getD 0 0),.int .i64 (plan.getD 1 0),.int .i64 (plan.getD 2 0),.int .i64 (plan.getD 3 0)] 84),(0,Obj.coro none)]
def S3(rf:Qc)(plan:List Int)(k:Int):CF:=⟨91,ofList 6 [.agg #[Qn 0 (QJ rf.Qa.length (Qm Qf rf.Qa)),.int .i64 rf.Qi,.int .i64 rf.Qb,.int .i64 (plan.getD 0 0),.int .i64 (plan.getD 1 0),.int .i64 (plan.getD 2 0),.int .i64 (plan.getD 3 0)],.int .i64 k],[Item.code (Q9 YP 91)],[],.run,none⟩
theorem xS(B:Lo)(rf:Qc)(plan:List Int)(k:Int):let i:=rf.Qi;let g:=rf.Qb;let e:=plan.getD 3 0;let d:=plan.getD 2 0;let c:=plan.getD 1 0;let b:=plan.getD 0 0;let a:=rf.Qa;let h:=Lf a;let f:=Qm Qf a;CE.finK 5 (Qs YP (Q0 YP) J0 B 6 5 (S3 rf plan k) (JA rf plan k) 5
 [] 0 [] []) [] [] [{k:=5,rs:=[0],cs:=#[QJ h f,.int .i64 i,.int .i64 g,.int .i64 b,.int .i64 c,.int .i64 d,.int .i64 e]},{k:=6,rs:=[],cs:=#[.int .i64 k]}]=some (OO.ret (Value.func (Fn.func 112) #[] #[Qn 5 (Zy 0 #[QJ h f,.int .i64 i,.int .i64 g,.int .i64 b,.int .i64 c,.int .i64 d,.int .i64 e]),Qn 5 (Zy 0 #[.int .i64 k])]),[],[],
 [Z7 (Fz.rs {k:=5,rs:=[0],cs:=(Sz rf plan)}) #[Qn 0 (QJ h f),.int .i64 i,.int .i64 g,.int .i64 b,.int .i64 c,.int .i64 d,.int .i64 e] (Fz.cs {k:=5,rs:=[0],cs:=(Sz rf plan)}),Z7 (Fz.rs {k:=6,rs:=[],cs:=#[.int .i64 k]}) #[.int .i64 k] (Fz.cs {k:=6,rs:=[],cs:=#[.int .i64 k]})]):=by intro i g e d c b a h f;kernel_rfl
def Wo(rf:Qc)(plan:List Int)(k:Int):Qj:=[(7,Obj.loop {state:=LoopState.ready,pending:=none,fn:=84,tmps:=#[.agg #[Qn 0 (QJ rf.Qa.length (Qm Qf rf.Qa)),.int .i64 rf.Qi,.int .i64 rf.Qb,.int .i64 (plan.getD 0 0),.int .i64 (plan.getD 1 0),.int .i64 (plan.getD 2 0),.int .i64 (plan.getD 3 0)],.int .i64 k,pA 1 0,.tuple #[],.slice none 0 0,pA 4 0,.tuple #[],pA 1 0,pA 1 0,Qn 0 (QJ rf.Qa.length (Qm Qf rf.Qa)),.slice (some {block:=3,off:=0}) rf.Qa.length 2,.agg #[Qn 0 (QJ rf.Qa.length (Qm Qf rf.Qa)),.int .i64 rf.Qi,.int .i64 rf.Qb,.int .i64 (plan.getD 0 0),.int .i64 (plan.getD 1 0),.int .i64 (plan.getD 2 0),.int .i64 (plan.getD 3 0)],.int .i64 k,Value.func (Fn.func 112) #[] #[Qn 5 (Zy 0 #[QJ rf.Qa.length (Qm Qf rf.Qa),.int .i64 rf.Qi,.int .i64 rf.Qb,.int .i64 (plan.getD 0 0),.int .i64 (plan.getD 1 0),.int .i64 (plan.getD 2 0),.int .i64 (plan.getD 3 0)]),Qn 5 (Zy 0 #[.int .i64 k])],.tuple #[],.tuple #[],.tuple #[],.tuple #[],.tuple #[],.tuple #[],.tuple #[],.tuple #[],.tuple #[],.tuple #[],.tuple #[],.tuple #[]],params:=#[14],assign:=VH (Q9 YP 84) [1,1,0,1,0,0],body:=VH (Q9 YP 84) [1,1,0,1,0,1],defers:=6}),(6,Obj.deferred (some [])),(5,Obj.coro none),(4,Obj.cells #[.slice (some {block:=3,off:=0}) rf.Qa.length 2] 36),(2,Obj.coro none),(3,Obj.cells (Qm Xf (List.map UU rf.Qa)) 38),(1,Obj.cells #[Qn 0 (QJ rf.Qa.length (Qm Qf rf.Qa)),.int .i64 rf.Qi,.int .i64 rf.Qb,.int .i64 (plan.getD 0 0),.int .i64 (plan.getD 1 0),.int .i64 (plan.getD 2 0),.int .i64 (plan.getD 3 0)] 84),(0,Obj.coro none)]
def Yf(rf:Qc)(plan:List Int)(k:Int):CF:=⟨112,ofList 27 [Value.func (Fn.yield 7) #[] #[],Qn 5 (Zy 0 #[QJ rf.Qa.length (Qm Qf rf.Qa),.int .i64 rf.Qi,.int .i64 rf.Qb,.int .i64 (plan.getD 0 0),.int .i64 (plan.getD 1 0),.int .i64 (plan.getD 2 0),.int .i64 (plan.getD 3 0)]),Qn 5 (Zy 0 #[.int .i64 k])],[Item.code (Q9 YP 112)],[],.run,none⟩
def WA(rf:Qc)(plan:List Int)(k:Int)(i:Int)(ys:List Span):List Value:=let a:=rf.Qa;[Value.func (Fn.yield 7) #[] #[],Qn 5 (Zy 0 #[QJ a.length (Qm Qf a),.int .i64 rf.Qi,.int .i64 rf.Qb,.int .i64 (plan.getD 0 0),.int .i64 (plan.getD 1 0),.int .i64 (plan.getD 2 0),.int .i64 (plan.getD 3 0)]),Qn 5 (Zy 0 #[.int .i64 k]),.int .i64 (↑a.length:Int),.int .i64 i]
def W9(rf:Qc)(plan:List Int)(k:Int)(i:Int)(ys:List Span):List Obj:=let j:=rf.Qi;let g:=rf.Qb;let f:=plan.getD 3 0;let e:=plan.getD 2 0;let d:=plan.getD 1 0;let c:=plan.getD 0 0;let b:=rf.Qa;let h:=Lf b;let a:=QJ h (Qm Qf b);[Obj.loop {state:=LoopState.ready,pending:=none,fn:=84,tmps:=#[.agg #[Qn 0 a,.int .i64 j,.int .i64 g,.int .i64 c,.int .i64 d,.int .i64 e,.int .i64 f],.int .i64 k,pA 1 0,.tuple #[],.slice none 0 0,pA 4 0,.tuple #[],pA 1 0,pA 1 0,Qn 0 a,.slice (some {block:=3,off:=0}) h 2,.agg #[Qn 0 a,.int .i64 j,.int .i64 g,.int .i64 c,.int .i64 d,.int .i64 e,.int .i64 f],.int .i64 k,Value.func (Fn.func 112) #[] #[Qn 5 (Zy 0 #[QJ h (Qm Qf b),.int .i64 j,.int .i64 g,.int .i64 c,.int .i64 d,.int .i64 e,.int .i64 f]),Qn 5 (Zy 0 #[.int .i64 k])],.tuple #[],.tuple #[],.tuple #[],.tuple #[],.tuple #[],.tuple #[],.tuple #[],.tuple #[],.tuple #[],.tuple #[],.tuple #[],.tuple #[]],params:=#[14],assign:=VH (Q9 YP 84) [1,1,0,1,0,0],body:=VH (Q9 YP 84) [1,1,0,1,0,1],defers:=6},.cells (Qm Xf ys) 38 (0,0)]
def ZX(rf:Qc)(plan:List Int)(k:Int)(i:Int)(ys:List Span):List Obj:=[]
def WB:List Item:=([.code [1,0,0],.inLoop [1,0,0],.inBlock 0]).map (it (Q9 YP 112))
def cb(B:Lo)(rf:Qc)(plan:List Int)(k:Int)(i:Int)(ys:List Span)(Qt:Nat->Value):List Prop:=let b:=Tri.set 14 Tri.lf 16 (.int .i64 i);let a:=Qh [plan.getD 0 0,plan.getD 1 0,plan.getD 2 0,plan.getD 3 0] k.toNat;let d:=.int .i64 a;let c:=.int .i64 (↑(Zx a i):Int);[Kd YP BinOp.and 3 (Xm {len:=16000,tr:=Tri.set 14 Tri.lf 17 c} 17) (.int .i64 1) (.int .i64 (↑(WM (↑(Zx a i):Int) 1):Int)),Kd YP BinOp.shr 3 (Xm {len:=16000,tr:=Tri.set 14 b 15 d} 15) (Xm {len:=16000,tr:=Tri.set 14 b 15 d} 16) c,k=(↑k.toNat:Int)/\Lb k<4/\LO (Sz rf plan) (3+Lb k*TypeInfo.size Try.t3) (3+Lb k*TypeInfo.size Try.t3+TypeInfo.size Try.t3)=#[.int .i64 a],Zm i (↑rf.Qa.length:Int)=true]++([]:List Prop)
def lW(rf:Qc)(plan:List Int)(k:Int)(i:Int)(ys:List Span)(Qt:Nat->Value):Q2:=let a:=Qh [plan.getD 0 0,plan.getD 1 0,plan.getD 2 0,plan.getD 3 0] k.toNat;[(0,VT),(5,Ql.tarr k.toNat #[.int .i64 a]),(8,Ql.bin (.int .i64 (↑(Zx a i):Int))),(9,Ql.bin (.int .i64 (↑(WM (↑(Zx a i):Int) 1):Int)))]
def J9(rf:Qc)(plan:List Int)(k:Int)(i:Int)(ys:List Span)(Qt:Nat->Value):Qj:=[(7,Obj.loop {state:=LoopState.ready,pending:=none,fn:=84,tmps:=#[.agg #[Qn 0 (QJ rf.Qa.length (Qm Qf rf.Qa)),.int .i64 rf.Qi,.int .i64 rf.Qb,.int .i64 (plan.getD 0 0),.int .i64 (plan.getD 1 0),.int .i64 (plan.getD 2 0),.int .i64 (plan.getD 3 0)],.int .i64 k,pA 1 0,.tuple #[],.slice none 0 0,pA 4 0,.tuple #[],pA 1 0,pA 1 0,Qn 0 (QJ rf.Qa.length (Qm Qf rf.Qa)),.slice (some {block:=3,off:=0}) rf.Qa.length 2,.agg #[Qn 0 (QJ rf.Qa.length (Qm Qf rf.Qa)),.int .i64 rf.Qi,.int .i64 rf.Qb,.int .i64 (plan.getD 0 0),.int .i64 (plan.getD 1 0),.int .i64 (plan.getD 2 0),.int .i64 (plan.getD 3 0)],.int .i64 k,Value.func (Fn.func 112) #[] #[Qn 5 (Zy 0 #[QJ rf.Qa.length (Qm Qf rf.Qa),.int .i64 rf.Qi,.int .i64 rf.Qb,.int .i64 (plan.getD 0 0),.int .i64 (plan.getD 1 0),.int .i64 (plan.getD 2 0),.int .i64 (plan.getD 3 0)]),Qn 5 (Zy 0 #[.int .i64 k])],.tuple #[],.tuple #[],.tuple #[],.tuple #[],.tuple #[],.tuple #[],.tuple #[],.tuple #[],.tuple #[],.tuple #[],.tuple #[],.tuple #[]],params:=#[14],assign:=VH (Q9 YP 84) [1,1,0,1,0,0],body:=VH (Q9 YP 84) [1,1,0,1,0,1],defers:=6}),(3,Obj.cells (Qm Xf ys) 38),(8,Obj.coro none),(7,Obj.loop {state:=LoopState.ready,pending:=none,fn:=84,tmps:=#[.agg #[Qn 0 (QJ rf.Qa.length (Qm Qf rf.Qa)),.int .i64 rf.Qi,.int .i64 rf.Qb,.int .i64 (plan.getD 0 0),.int .i64 (plan.getD 1 0),.int .i64 (plan.getD 2 0),.int .i64 (plan.getD 3 0)],.int .i64 k,pA 1 0,.tuple #[],.slice none 0 0,pA 4 0,.tuple #[],pA 1 0,pA 1 0,Qn 0 (QJ rf.Qa.length (Qm Qf rf.Qa)),.slice (some {block:=3,off:=0}) rf.Qa.length 2,.agg #[Qn 0 (QJ rf.Qa.length (Qm Qf rf.Qa)),.int .i64 rf.Qi,.int .i64 rf.Qb,.int .i64 (plan.getD 0 0),.int .i64 (plan.getD 1 0),.int .i64 (plan.getD 2 0),.int .i64 (plan.getD 3 0)],.int .i64 k,Value.func (Fn.func 112) #[] #[Qn 5 (Zy 0 #[QJ rf.Qa.length (Qm Qf rf.Qa),.int .i64 rf.Qi,.int .i64 rf.Qb,.int .i64 (plan.getD 0 0),.int .i64 (plan.getD 1 0),.int .i64 (plan.getD 2 0),.int .i64 (plan.getD 3 0)]),Qn 5 (Zy 0 #[.int .i64 k])],.tuple #[],.tuple #[],.tuple #[],.tuple #[],.tuple #[],.tuple #[],.tuple #[],.tuple #[],.tuple #[],.tuple #[],.tuple #[],.tuple #[]],params:=#[14],assign:=VH (Q9 YP 84) [1,1,0,1,0,0],body:=VH (Q9 YP 84) [1,1,0,1,0,1],defers:=6}),(6,Obj.deferred (some [])),(5,Obj.coro none),(4,Obj.cells #[.slice (some {block:=3,off:=0}) rf.Qa.length 2] 36),(2,Obj.coro none),(3,Obj.cells (Qm Xf (List.map UU rf.Qa)) 38),(1,Obj.cells #[Qn 0 (QJ rf.Qa.length (Qm Qf rf.Qa)),.int .i64 rf.Qi,.int .i64 rf.Qb,.int .i64 (plan.getD 0 0),.int .i64 (plan.getD 1 0),.int .i64 (plan.getD 2 0),.int .i64 (plan.getD 3 0)] 84),(0,Obj.coro none)]
def S1(rf:Qc)(plan:List Int)(k:Int)(i:Int)(ys:List Span)(Qt:Nat->Value):CF:=⟨84,ofList 26 [.agg #[Qn 0 (QJ rf.Qa.length (Qm Qf rf.Qa)),.int .i64 rf.Qi,.int .i64 rf.Qb,.int .i64 (plan.getD 0 0),.int .i64 (plan.getD 1 0),.int .i64 (plan.getD 2 0),.int .i64 (plan.getD 3 0)],.int .i64 k,pA 1 0,.tuple #[],.slice none 0 0,pA 4 0,.tuple #[],pA 1 0,pA 1 0,Qn 0 (QJ rf.Qa.length (Qm Qf rf.Qa)),.slice (some {block:=3,off:=0}) rf.Qa.length 2,.agg #[Qn 0 (QJ rf.Qa.length (Qm Qf rf.Qa)),.int .i64 rf.Qi,.int .i64 rf.Qb,.int .i64 (plan.getD 0 0),.int .i64 (plan.getD 1 0),.int .i64 (plan.getD 2 0),.int .i64 (plan.getD 3 0)],.int .i64 k,Value.func (Fn.func 112) #[] #[Qn 5 (Zy 0 #[QJ rf.Qa.length (Qm Qf rf.Qa),.int .i64 rf.Qi,.int .i64 rf.Qb,.int .i64 (plan.getD 0 0),.int .i64 (plan.getD 1 0),.int .i64 (plan.getD 2 0),.int .i64 (plan.getD 3 0)]),Qn 5 (Zy 0 #[.int .i64 k])],.int .i64 i,.tuple #[],.tuple #[],.tuple #[],.tuple #[],.tuple #[],.tuple #[],.tuple #[],.tuple #[],.tuple #[],.tuple #[],.tuple #[]],[Item.code (VH (Q9 YP 84) [1,1,0,1,0,0]),Item.beginRound,Item.code (VH (Q9 YP 84) [1,1,0,1,0,1])],[],.run,some 7⟩
theorem xQ(B:Lo)(rf:Qc)(plan:List Int)(k:Int)(i:Int)(ys:List Span)(Qt:Nat->Value):let p:=rf.Qi;let n:=rf.Qb;let l:=plan.getD 3 0;let j:=plan.getD 2 0;let h:=plan.getD 1 0;let g:=plan.getD 0 0;let e:=Lb i;let b:=rf.Qa;let o:=Lf b;let m:=Qm Qf b;let d:=QJ o m;let c:=b.getD e La;let a:=List.set ys e {lo:=c.Jz,hi:=c.J1};let f:=Qm Xf a;CE.finK 9 (Qs YP (Q0 YP) J0 B 6 9 (S1 rf plan k i ys Qt) (J9 rf plan k i ys Qt) 9
 [(7,Ql.tidx e (Ye c)),(10,Ql.WJ (Hint.idx e)),(11,Ql.WJ (Hint.st f))] 0 [] []) [(7,KS.auto),(3,KS.cells [] f)] [] []=some (OO.ret (.bool true),[(7,Obj.loop {state:=LoopState.ready,pending:=none,fn:=84,tmps:=#[.agg #[Qn 0 d,.int .i64 p,.int .i64 n,.int .i64 g,.int .i64 h,.int .i64 j,.int .i64 l],.int .i64 k,pA 1 0,.tuple #[],.slice none 0 0,pA 4 0,.tuple #[],pA 1 0,pA 1 0,Qn 0 d,.slice (some {block:=3,off:=0}) o 2,.agg #[Qn 0 d,.int .i64 p,.int .i64 n,.int .i64 g,.int .i64 h,.int .i64 j,.int .i64 l],.int .i64 k,Value.func (Fn.func 112) #[] #[Qn 5 (Zy 0 #[QJ o m,.int .i64 p,.int .i64 n,.int .i64 g,.int .i64 h,.int .i64 j,.int .i64 l]),Qn 5 (Zy 0 #[.int .i64 k])],.tuple #[],.tuple #[],.tuple #[],.tuple #[],.tuple #[],.tuple #[],.tuple #[],.tuple #[],.tuple #[],.tuple #[],.tuple #[],.tuple #[]],params:=#[14],assign:=VH (Q9 YP 84) [1,1,0,1,0,0],body:=VH (Q9 YP 84) [1,1,0,1,0,1],defers:=6}),(3,Obj.cells f 38)],[],
 [Ks 9 [] f f,0+Lb i*2+TypeInfo.size Try.t38<=Array.size (Qm Xf ys)/\splice (Qm Xf ys) (0+Lb i*2) (Value.cells (Xm {len:=16000,tr:=Tri.set 14 (Tri.set 14 Tri.lf 23 (.agg #[.int .i64 c.Jz,.int .i64 c.J1])) 24 (.pointer (some {block:=3,off:=0+Lb i*2}))} 23))=Qm Xf a,i=(↑e:Int)/\Lb i<Lf b,i=(↑e:Int)/\Lb i<Lf b/\LO m (Lb i*TypeInfo.size Try.t54) (Lb i*TypeInfo.size Try.t54+TypeInfo.size Try.t54)=(Ye c)]):=by intro p n l j h g e b o m d c a f;kernel_rfl
theorem xP(B:Lo)(rf:Qc)(plan:List Int)(k:Int)(i:Int)(ys:List Span)(Qt:Nat->Value):let f:=OO.ret (.bool true);let e:=ZX rf plan k i ys;let d:=rf.Qa.getD i.toNat La;let b:=Q9 YP 84;let a:=List.set ys i.toNat {lo:=d.Jz,hi:=d.J1};let c:=Qm Xf a;CE.landA 8 (Qs YP (Q0 YP) J0 B 16 8 (X9 (none) 112 27 (([0,1,2,8,9]:List Nat).zip (WA rf plan k i ys)) Qt WB) (Xs (Wo rf plan k) 8 (([7,3]:List Nat).zip (W9 rf plan k i ys)) e) (8+1+e.length)
 (lW rf plan k i ys Qt++[(10,VT),(14,Ql.call (Ld 9) f ([(7,Obj.loop {state:=LoopState.ready,pending:=none,fn:=84,tmps:=(S0 rf plan k),params:=#[14],assign:=VH b [1,1,0,1,0,0],body:=VH b [1,1,0,1,0,1],defers:=6}),(3,Obj.cells c 38)]++(9,QM)::QD 10 []) 10 [7,3]),(17,VU (i+1))]) 0 [] []) [0,1,2,8,9] [(7,KS.auto),(3,KS.cells [] c)] [] []=some ⟨112,27,WB,[],.run,none,WA rf plan k (i+1) a,([7,3]:List Nat).zip (W9 rf plan k (i+1) a),ZX rf plan k (i+1) a,
 [Ks 8 [] c c,wq (i+1)=i+1,FJ YP B (S1 rf plan k i ys Qt) (J9 rf plan k i ys Qt) 9 f (([(7,Obj.loop {state:=LoopState.ready,pending:=none,fn:=84,tmps:=(S0 rf plan k),params:=#[14],assign:=VH b [1,1,0,1,0,0],body:=VH b [1,1,0,1,0,1],defers:=6}),(3,Obj.cells c 38)]++((9,QM)::QD (9+1) []))++J9 rf plan k i ys Qt) 10 (Ld 9) [7,3],Jv (↑(WM (↑(Zx (Qh [plan.getD 0 0,plan.getD 1 0,plan.getD 2 0,plan.getD 3 0] k.toNat) i):Int) 1):Int) 1=true]++cb B rf plan k i ys Qt⟩:=by intro f e d b a c;kernel_rfl
theorem xO(B:Lo)(rf:Qc)(plan:List Int)(k:Int)(i:Int)(ys:List Span)(Qt:Nat->Value):let b:=Qm Xf ys;let a:=ZX rf plan k i ys;CE.landA 8 (Qs YP (Q0 YP) J0 B 16 8 (X9 (none) 112 27 (([0,1,2,8,9]:List Nat).zip (WA rf plan k i ys)) Qt WB) (Xs (Wo rf plan k) 8 (([7,3]:List Nat).zip (W9 rf plan k i ys)) a) (8+1+a.length)
 (lW rf plan k i ys Qt++[(10,VI),(17,VU (i+1))]) 0 [] []) [0,1,2,8,9] [(7,KS.auto),(3,KS.cells [] b)] [] []=some ⟨112,27,WB,[],.run,none,WA rf plan k (i+1) (ys),([7,3]:List Nat).zip (W9 rf plan k (i+1) (ys)),ZX rf plan k (i+1) (ys),
 [Ks 8 [] b b,wq (i+1)=i+1,Jv (↑(WM (↑(Zx (Qh [plan.getD 0 0,plan.getD 1 0,plan.getD 2 0,plan.getD 3 0] k.toNat) i):Int) 1):Int) 1=false]++cb B rf plan k i ys Qt⟩:=by intro b a;kernel_rfl
theorem xN(B:Lo)(rf:Qc)(plan:List Int)(k:Int)(i:Int)(ys:List Span)(Qt:Nat->Value):let l:=rf.Qi;let j:=ZX rf plan k i ys;let h:=rf.Qb;let g:=plan.getD 3 0;let f:=plan.getD 2 0;let e:=plan.getD 1 0;let d:=plan.getD 0 0;let c:=Qm Xf ys;let b:=Qm Qf rf.Qa;let a:=Lf rf.Qa;CE.finK 8 (Qs YP (Q0 YP) J0 B 7 8 (X9 (none) 112 27 (([0,1,2,8,9]:List Nat).zip (WA rf plan k i ys)) Qt WB) (Xs (Wo rf plan k) 8 (([7,3]:List Nat).zip (W9 rf plan k i ys)) j) (8+1+j.length)
 [(0,VI)] 0 [] []) [(7,KS.auto),(3,KS.cells [] c)] [] []=some (OO.ret (.tuple #[]),[(7,Obj.loop {state:=LoopState.ready,pending:=none,fn:=84,tmps:=#[.agg #[Qn 0 (QJ a b),.int .i64 l,.int .i64 h,.int .i64 d,.int .i64 e,.int .i64 f,.int .i64 g],.int .i64 k,pA 1 0,.tuple #[],.slice none 0 0,pA 4 0,.tuple #[],pA 1 0,pA 1 0,Qn 0 (QJ a b),.slice (some {block:=3,off:=0}) a 2,.agg #[Qn 0 (QJ a b),.int .i64 l,.int .i64 h,.int .i64 d,.int .i64 e,.int .i64 f,.int .i64 g],.int .i64 k,Value.func (Fn.func 112) #[] #[Qn 5 (Zy 0 #[QJ a b,.int .i64 l,.int .i64 h,.int .i64 d,.int .i64 e,.int .i64 f,.int .i64 g]),Qn 5 (Zy 0 #[.int .i64 k])],.tuple #[],.tuple #[],.tuple #[],.tuple #[],.tuple #[],.tuple #[],.tuple #[],.tuple #[],.tuple #[],.tuple #[],.tuple #[],.tuple #[]],params:=#[14],assign:=VH (Q9 YP 84) [1,1,0,1,0,0],body:=VH (Q9 YP 84) [1,1,0,1,0,1],defers:=6}),(3,Obj.cells c 38)],[],
 [Ks 8 [] c c,Zm i (↑a:Int)=false]):=by intro l j h g f e d c b a;kernel_rfl
set_option maxHeartbeats 4000000 in
theorem nm(rf:Qc)(plan:List Int)(k:Int)(hn:rf.Qa.length<=4)(hl:plan.length<=4)(k0:0<=k)(k1:k<4)(hp:∀j:Nat,0<=plan.getD j 0/\plan.getD j 0<=1000000){B:Lo}(hJ:∀w,B.has w->J0 w):∀m:Nat,(∀(i:Int) (ys:List Span),rf.Qa.length-i.toNat=m->∀(i0:0<=i) (hy:ys=P2 rf.Qa (plan.getD k.toNat 0) i),(∃Qt:Nat->Value,(∀t,X0 (Qt t))/\GoE YP B (Yf rf plan k) (Wo rf plan k) 8 (X9 (none) 112 27 (([0,1,2,8,9]:List Nat).zip (WA rf plan k i ys)) Qt WB) (Xs (Wo rf plan k) 8 (([7,3]:List Nat).zip (W9 rf plan k i ys)) (ZX rf plan k i ys)) (8+1+(ZX rf plan k i ys).length) ([7,3]:List Nat))->FinK YP B (Yf rf plan k) (Wo rf plan k) 8 (.ret (.tuple #[])) (([7,3]:List Nat).zip ([Obj.loop {state:=LoopState.ready,pending:=none,fn:=84,tmps:=#[.agg #[Qn 0 (QJ rf.Qa.length (Qm Qf rf.Qa)),.int .i64 rf.Qi,.int .i64 rf.Qb,.int .i64 (plan.getD 0 0),.int .i64 (plan.getD 1 0),.int .i64 (plan.getD 2 0),.int .i64 (plan.getD 3 0)],.int .i64 k,pA 1 0,.tuple #[],.slice none 0 0,pA 4 0,.tuple #[],pA 1 0,pA 1 0,Qn 0 (QJ rf.Qa.length (Qm Qf rf.Qa)),.slice (some {block:=3,off:=0}) rf.Qa.length 2,.agg #[Qn 0 (QJ rf.Qa.length (Qm Qf rf.Qa)),.int .i64 rf.Qi,.int .i64 rf.Qb,.int .i64 (plan.getD 0 0),.int .i64 (plan.getD 1 0),.int .i64 (plan.getD 2 0),.int .i64 (plan.getD 3 0)],.int .i64 k,Value.func (Fn.func 112) #[] #[Qn 5 (Zy 0 #[QJ rf.Qa.length (Qm Qf rf.Qa),.int .i64 rf.Qi,.int .i64 rf.Qb,.int .i64 (plan.getD 0 0),.int .i64 (plan.getD 1 0),.int .i64 (plan.getD 2 0),.int .i64 (plan.getD 3 0)]),Qn 5 (Zy 0 #[.int .i64 k])],.tuple #[],.tuple #[],.tuple #[],.tuple #[],.tuple #[],.tuple #[],.tuple #[],.tuple #[],.tuple #[],.tuple #[],.tuple #[],.tuple #[]],params:=#[14],assign:=VH (Q9 YP 84) [1,1,0,1,0,0],body:=VH (Q9 YP 84) [1,1,0,1,0,1],defers:=6},.cells (Qm Xf (ZC rf.Qa (plan.getD k.toNat 0))) 38 (0,0)])) ([]) ([7,3]:List Nat)):=by
 intro m0;induction m0 using LA with
 |_ m0 ih0=>
  intro i ys hm0 i0 hy ⟨Qt,KF,XW⟩;have hyl:ys.length=rf.Qa.length:=by rw[hy];simp[P2,ZB]
  have hpk:=hp k.toNat;have hse:=pQ (k:=k.toNat) hl;have KR:=T4 (n:=Qh [plan.getD 0 0,plan.getD 1 0,plan.getD 2 0,plan.getD 3 0] k.toNat) (k:=i) (by omega);by_cases q0:(i:Int)<((↑rf.Qa.length:Int))
  ·have WL:Qw (cb B rf plan k i ys Qt):=by
    exact⟨(SZ (by omega) (by omega) (by omega) (by omega)),⟨(SY (by omega) (by omega) (by omega)),⟨⟨by omega,by omega,Sl (fs:=[plan.getD 0 0,plan.getD 1 0,plan.getD 2 0,plan.getD 3 0]) rfl (LI (m:=4) (by omega) rfl)⟩,⟨(XY q0),trivial⟩⟩⟩⟩
   by_cases q1:((↑(WM (↑(Zx (Qh [plan.getD 0 0,plan.getD 1 0,plan.getD 2 0,plan.getD 3 0] k.toNat) i):Int) 1):Int):Int)=(1)
   ·have rj3:FJ YP B (S1 rf plan k i ys Qt) (J9 rf plan k i ys Qt) 9 (OO.ret (.bool true)) (([(7,Obj.loop {state:=LoopState.ready,pending:=none,fn:=84,tmps:=#[.agg #[Qn 0 (QJ rf.Qa.length (Qm Qf rf.Qa)),.int .i64 rf.Qi,.int .i64 rf.Qb,.int .i64 (plan.getD 0 0),.int .i64 (plan.getD 1 0),.int .i64 (plan.getD 2 0),.int .i64 (plan.getD 3 0)],.int .i64 k,pA 1 0,.tuple #[],.slice none 0 0,pA 4 0,.tuple #[],pA 1 0,pA 1 0,Qn 0 (QJ rf.Qa.length (Qm Qf rf.Qa)),.slice (some {block:=3,off:=0}) rf.Qa.length 2,.agg #[Qn 0 (QJ rf.Qa.length (Qm Qf rf.Qa)),.int .i64 rf.Qi,.int .i64 rf.Qb,.int .i64 (plan.getD 0 0),.int .i64 (plan.getD 1 0),.int .i64 (plan.getD 2 0),.int .i64 (plan.getD 3 0)],.int .i64 k,Value.func (Fn.func 112) #[] #[Qn 5 (Zy 0 #[QJ rf.Qa.length (Qm Qf rf.Qa),.int .i64 rf.Qi,.int .i64 rf.Qb,.int .i64 (plan.getD 0 0),.int .i64 (plan.getD 1 0),.int .i64 (plan.getD 2 0),.int .i64 (plan.getD 3 0)]),Qn 5 (Zy 0 #[.int .i64 k])],.tuple #[],.tuple #[],.tuple #[],.tuple #[],.tuple #[],.tuple #[],.tuple #[],.tuple #[],.tuple #[],.tuple #[],.tuple #[],.tuple #[]],params:=#[14],assign:=VH (Q9 YP 84) [1,1,0,1,0,0],body:=VH (Q9 YP 84) [1,1,0,1,0,1],defers:=6}),(3,Obj.cells (Qm Xf (List.set ys i.toNat {lo:=Qe.Jz (rf.Qa.getD i.toNat La),hi:=Qe.J1 (rf.Qa.getD i.toNat La)})) 38)]++((9,QM)::QD (9+1) []))++J9 rf plan k i ys Qt) 10 (Ld 9) [7,3]:=by
     have hyes:=fO (ps:=rf.Qa) (p:=plan.getD k.toNat 0) i0 q0 (by rw[<-W8,<-hse];exact decide_eq_true q1);exact FinK.fjB (GoE.finK okF hJ Qd (Qk (by kernel_rfl)) (Qg (by kernel_rfl)) ((GoE.refl (P:=YP) (B:=B) (c0:=S1 rf plan k i ys Qt) (Qk (by kernel_rfl))).widen (Wf:=((([(7,KS.auto),(3,KS.cells [] (Qm Xf (List.set ys i.toNat {lo:=Qe.Jz (rf.Qa.getD i.toNat La),hi:=Qe.J1 (rf.Qa.getD i.toNat La)})))]):List (Nat×KS)).map (·.1))) (by simp) (Qg (by kernel_rfl))) (xQ B rf plan k i ys Qt)
      ⟨(XP (XK (fun x=>List.all_eq_true.1 (by rfl)))),⟨(by exact J6 (z:=2) (k:=Lb i) (fun _=>rfl) (by first|omega|(rw[List.length_set];omega)|(rw[List.length_replicate];omega)) rfl rfl),⟨⟨by omega,by omega⟩,⟨⟨by omega,by omega,(QT (z:=12) (fun _=>rfl) (by omega))⟩,trivial⟩⟩⟩⟩) (ex:=[3]) (by kernel_rfl) ⟨trivial,⟨(YC (t:=38) (fl:=(0,0)) (fun x=>List.all_eq_true.1 (by rfl))),⟨trivial,⟨trivial,⟨trivial,⟨trivial,⟨trivial,⟨trivial,⟨(YC (t:=38) (fl:=(0,0)) (fun x=>List.all_eq_true.1 (by rfl))),⟨trivial,⟨trivial,trivial⟩⟩⟩⟩⟩⟩⟩⟩⟩⟩⟩
    have hyes:=fO (ps:=rf.Qa) (p:=plan.getD k.toNat 0) i0 q0 (by rw[<-W8,<-hse];exact decide_eq_true q1);exact((ih0 _ (by omega)) (i+1) (List.set ys i.toNat {lo:=Qe.Jz (rf.Qa.getD i.toNat La),hi:=Qe.J1 (rf.Qa.getD i.toNat La)}) rfl (by omega) (by(rw[hy];exact hyes))
     (GoE.landA okF hJ Qd (Qk (by kernel_rfl)) (Qg (by kernel_rfl)) XW (xP B rf plan k i ys Qt)
     (by exact⟨(XP (XK (fun x=>List.all_eq_true.1 (by rfl)))),⟨(Xq (by omega) (by omega)),⟨rj3,⟨(Jg q1),WL⟩⟩⟩⟩) (by kernel_rfl) (by kernel_rfl) (fun l hl=>by cases hl <;> decide))).cast (by rfl) (by rfl) (by rfl)
   ·have hno:=x6 (ps:=rf.Qa) (p:=plan.getD k.toNat 0) i0 (by rw[<-W8,<-hse];exact decide_eq_false q1);exact((ih0 _ (by omega)) (i+1) (ys) rfl (by omega) (by(rw[hy];exact hno))
     (GoE.landA okF hJ Qd (Qk (by kernel_rfl)) (Qg (by kernel_rfl)) XW (xO B rf plan k i ys Qt)
     ⟨(XP (XK (fun x=>List.all_eq_true.1 (by rfl)))),⟨(Xq (by omega) (by omega)),⟨(Jh q1),WL⟩⟩⟩ (by kernel_rfl) (by kernel_rfl) (fun l hl=>by cases hl <;> decide))).cast (by rfl) (by rfl) (by rfl)
  ·exact(GoE.finK okF hJ Qd (Qk (by kernel_rfl)) (Qg (by kernel_rfl)) XW (xN B rf plan k i ys Qt)
    ⟨(XP (XK (fun x=>List.all_eq_true.1 (by rfl)))),⟨(XZ (Int.not_lt.1 q0)),trivial⟩⟩).cast (by rfl) (by(rw[hy,uA (by omega)];rfl)) (by rfl)

theorem xR(B:Lo)(rf:Qc)(plan:List Int)(k:Int):let a:=List.map UU rf.Qa;let b:=Qm Xf a;CE.landA 8 (Qs YP (Q0 YP) J0 B 4 8 (Yf rf plan k) (Wo rf plan k) 8
 [] 0 [] []) [0,1,2,8,9] [(7,KS.auto),(3,KS.cells [] b)] [] []=some ⟨112,27,WB,[],.run,none,WA rf plan k (0) a,([7,3]:List Nat).zip (W9 rf plan k (0) a),ZX rf plan k (0) a,
 [Ks 8 [] b b]⟩:=by intro a b;kernel_rfl
theorem uO(B:Lo)(rf:Qc)(plan:List Int)(k:Int):let i:=OO.ret (.tuple #[]);let e:=Q9 YP 84;let d:=rf.Qa;let g:=Qm Xf (List.map UU d);let c:=OO.ret (.slice (some {block:=3,off:=0}) d.length 2);let b:=OO.ret (Value.func (Fn.func 112) #[] #[Qn 5 (Zy 0 (Sz rf plan)),Qn 5 (Zy 0 #[.int .i64 k])]);let a:=ZC d (plan.getD k.toNat 0);let h:=Qm Xf a;let f:=Fz.cs {k:=3,rs:=[],cs:=Qm Xf a};QW (Qs YP (Q0 YP) J0 B 16 1 (Qr YP 84 26 (([.agg (QB rf plan).toArray,.int .i64 k]).map (Qy 0 4))) Za 1
 [(5,Ql.call (Ld 2) c ([]++(2,QM)::QD 3 [Obj.cells g 38]) 4 []),(10,Ql.call (Ld 5) b ([]++(5,QM)::QD 6 []) 6 []),(11,Ql.call (Ld 8) i ([(7,Obj.loop {state:=LoopState.ready,pending:=none,fn:=84,tmps:=(S0 rf plan k),params:=#[14],assign:=VH e [1,1,0,1,0,0],body:=VH e [1,1,0,1,0,1],defers:=6}),(3,Obj.cells h 38)]++(8,QM)::QD 9 []) 9 [7,3])] 0 [] []) [{k:=3,rs:=[],cs:=Qm Xf a}]=some (QJ d.length f,
 [Z7 (Fz.rs {k:=3,rs:=[],cs:=Qm Xf a}) h f,FJ YP B (Yf rf plan k) (Wo rf plan k) 8 i (([(7,Obj.loop {state:=LoopState.ready,pending:=none,fn:=84,tmps:=(S0 rf plan k),params:=#[14],assign:=VH e [1,1,0,1,0,0],body:=VH e [1,1,0,1,0,1],defers:=6}),(3,Obj.cells h 38)]++((8,QM)::QD (8+1) []))++Wo rf plan k) 9 (Ld 8) [7,3],FJ YP B (S3 rf plan k) (JA rf plan k) 5 b (([]++((5,QM)::QD (5+1) []))++JA rf plan k) 6 (Ld 5) [],FJ YP B (Yg rf plan k) (WS rf plan k) 2 c (([]++((2,QM)::QD (2+1) [Obj.cells g 38]))++WS rf plan k) 4 (Ld 2) []]):=by intro i e d g c b a h f;kernel_rfl
set_option maxHeartbeats 4000000 in
theorem AX(rf:Qc)(plan:List Int)(k:Int)(hn:rf.Qa.length<=4)(hl:plan.length<=4)(k0:0<=k)(k1:k<4)(hp:∀j:Nat,0<=plan.getD j 0/\plan.getD j 0<=1000000){B:Lo}(hJ:∀w,B.has w->J0 w):EndsT YP B (Qr YP 84 26 (([.agg (QB rf plan).toArray,.int .i64 k]).map (Qy 0 4))) (J4 (ZC rf.Qa (plan.getD k.toNat 0))):=by
 have rj0:FJ YP B (Yg rf plan k) (WS rf plan k) 2 (OO.ret (.slice (some {block:=3,off:=0}) rf.Qa.length 2)) (([]++((2,QM)::QD (2+1) [Obj.cells (Qm Xf (List.map UU rf.Qa)) 38]))++WS rf plan k) 4 (Ld 2) []:=by
  exact FinK.fjB ((nn rf plan k hn hl k0 k1 hp hJ _) (0) (Lq rf.Qa.length {lo:=0,hi:=0}) rfl (by omega) (by exact bK)
   (GoE.landA okF hJ Qd (Qk (by kernel_rfl)) (Qg (by kernel_rfl)) ((GoE.refl (P:=YP) (B:=B) (c0:=Yg rf plan k) (Qk (by kernel_rfl))).widen (Wf:=((([]):List (Nat×KS)).map (·.1))) (by simp) (Qg (by kernel_rfl))) (xW B rf plan k)
   ⟨(by exact(UF (by exact⟨(.simple rfl),⟨(.simple rfl),trivial⟩⟩) _)),⟨(kV (bytes:=16) (by kernel_rfl) (by omega) (by omega) (by omega)),trivial⟩⟩ (by kernel_rfl) (by kernel_rfl) (fun l hl=>by cases hl <;> decide))) (ex:=[]) (by kernel_rfl) (XD _)
 have rj1:FJ YP B (S3 rf plan k) (JA rf plan k) 5 (OO.ret (Value.func (Fn.func 112) #[] #[Qn 5 (Zy 0 #[QJ rf.Qa.length (Qm Qf rf.Qa),.int .i64 rf.Qi,.int .i64 rf.Qb,.int .i64 (plan.getD 0 0),.int .i64 (plan.getD 1 0),.int .i64 (plan.getD 2 0),.int .i64 (plan.getD 3 0)]),Qn 5 (Zy 0 #[.int .i64 k])])) (([]++((5,QM)::QD (5+1) []))++JA rf plan k) 6 (Ld 5) []:=by
  exact FinK.fjB (GoE.finK okF hJ Qd (Qk (by kernel_rfl)) (Qg (by kernel_rfl)) ((GoE.refl (P:=YP) (B:=B) (c0:=S3 rf plan k) (Qk (by kernel_rfl))).widen (Wf:=((([]):List (Nat×KS)).map (·.1))) (by simp) (Qg (by kernel_rfl))) (xS B rf plan k)
   ⟨(Pn (by kernel_rfl)),⟨(WZ (by kernel_rfl)),trivial⟩⟩) (ex:=[3]) (by kernel_rfl) ⟨trivial,⟨trivial,⟨(YC (t:=38) (fl:=(0,0)) (fun x=>List.all_eq_true.1 (by rfl))),⟨trivial,⟨trivial,trivial⟩⟩⟩⟩⟩
 have rj2:FJ YP B (Yf rf plan k) (Wo rf plan k) 8 (OO.ret (.tuple #[])) (([(7,Obj.loop {state:=LoopState.ready,pending:=none,fn:=84,tmps:=#[.agg #[Qn 0 (QJ rf.Qa.length (Qm Qf rf.Qa)),.int .i64 rf.Qi,.int .i64 rf.Qb,.int .i64 (plan.getD 0 0),.int .i64 (plan.getD 1 0),.int .i64 (plan.getD 2 0),.int .i64 (plan.getD 3 0)],.int .i64 k,pA 1 0,.tuple #[],.slice none 0 0,pA 4 0,.tuple #[],pA 1 0,pA 1 0,Qn 0 (QJ rf.Qa.length (Qm Qf rf.Qa)),.slice (some {block:=3,off:=0}) rf.Qa.length 2,.agg #[Qn 0 (QJ rf.Qa.length (Qm Qf rf.Qa)),.int .i64 rf.Qi,.int .i64 rf.Qb,.int .i64 (plan.getD 0 0),.int .i64 (plan.getD 1 0),.int .i64 (plan.getD 2 0),.int .i64 (plan.getD 3 0)],.int .i64 k,Value.func (Fn.func 112) #[] #[Qn 5 (Zy 0 #[QJ rf.Qa.length (Qm Qf rf.Qa),.int .i64 rf.Qi,.int .i64 rf.Qb,.int .i64 (plan.getD 0 0),.int .i64 (plan.getD 1 0),.int .i64 (plan.getD 2 0),.int .i64 (plan.getD 3 0)]),Qn 5 (Zy 0 #[.int .i64 k])],.tuple #[],.tuple #[],.tuple #[],.tuple #[],.tuple #[],.tuple #[],.tuple #[],.tuple #[],.tuple #[],.tuple #[],.tuple #[],.tuple #[]],params:=#[14],assign:=VH (Q9 YP 84) [1,1,0,1,0,0],body:=VH (Q9 YP 84) [1,1,0,1,0,1],defers:=6}),(3,Obj.cells (Qm Xf (ZC rf.Qa (plan.getD k.toNat 0))) 38)]++((8,QM)::QD (8+1) []))++Wo rf plan k) 9 (Ld 8) [7,3]:=by
  exact FinK.fjB ((nm rf plan k hn hl k0 k1 hp hJ _) (0) (List.map UU rf.Qa) rfl (by omega) (by exact zT)
   (GoE.landA okF hJ Qd (Qk (by kernel_rfl)) (Qg (by kernel_rfl)) ((GoE.refl (P:=YP) (B:=B) (c0:=Yf rf plan k) (Qk (by kernel_rfl))).widen (Wf:=((([(7,KS.auto),(3,KS.cells [] (Qm Xf (List.map UU rf.Qa)))]):List (Nat×KS)).map (·.1))) (by simp) (Qg (by kernel_rfl))) (xR B rf plan k)
   ⟨(XP (XK (fun x=>List.all_eq_true.1 (by rfl)))),trivial⟩ (by kernel_rfl) (by kernel_rfl) (fun l hl=>by cases hl <;> decide))) (ex:=[3]) (by kernel_rfl) ⟨trivial,⟨trivial,⟨trivial,⟨trivial,⟨trivial,⟨(YC (t:=38) (fl:=(0,0)) (fun x=>List.all_eq_true.1 (by rfl))),⟨trivial,⟨trivial,trivial⟩⟩⟩⟩⟩⟩⟩⟩
 exact(GoE.endsT okF hJ Qd GoE.start (uO B rf plan k)
  ⟨(U2 (fun x=>List.all_eq_true.1 (by rfl))),⟨rj2,⟨rj1,⟨rj0,trivial⟩⟩⟩⟩).cast (by exact Sv rfl (by rw[ZC,ZB];omega))
theorem FW(rf:Qc)(plan:List Int)(k:Int)(hn:rf.Qa.length<=4)(hl:plan.length<=4)(k0:0<=k)(k1:k<4)(hp:∀j:Nat,0<=plan.getD j 0/\plan.getD j 0<=1000000):Qx YP J0 84 #[.agg (QB rf plan).toArray,.int .i64 k] (J4 (ZC rf.Qa (plan.getD k.toNat 0))):=
 Xn (ts:=[.agg (QB rf plan).toArray,.int .i64 k]) XQ (c0:=Qr YP 84 26 (([.agg (QB rf plan).toArray,.int .i64 k]).map (Qy 0 4))) (by kernel_rfl) (by kernel_rfl) fun B hJ=>AX rf plan k hn hl k0 k1 hp hJ
end
end Go.Proofs.Ytncjjangllkokaa

namespace Go.Proofs.Ytncjjangllkokaa
open Go Go.CE Go.RowKit
def Wg(a b:Int)(g:Int->Int):Int:=pI ((pC a b).map g)
theorem Ky{a b:Int}{g:Int->Int}(h:b<=a):Wg a b g=0:=by
 unfold Wg;rw[wJ h];rfl
theorem pH:∀(l m:List Int),pI (l++m)=pI l+pI m
 |[],m=>by simp[pI]
 |x::l,m=>by simp only[List.cons_append,pI,pH l m];omega
theorem ZI{i:Int}{g:Int->Int}(h:0<=i):Wg 0 (i+1) g=Wg 0 i g+g i:=by
 have e:pC 0 (i+1)=pC 0 i++[i]:=by
  unfold pC;rw[show(i+1-0).toNat=(i-0).toNat+1 by omega,List.range_succ,List.map_append];congr 1;simp;omega
 unfold Wg;rw[e,List.map_append,pH];simp[pI]
theorem Sr{g:Int->Int}{K:Int}:∀(k:Nat),(∀m:Int,0<=m->m<k->0<=g m/\g m<=K)->0<=Wg 0 k g/\Wg 0 k g<=K*k
 |0,_=>by rw[Ky (by omega)];omega
 |k+1,h=>by
  have ih:=Sr k fun m h0 h1=>h m h0 (by omega)
  have h2:=h k (by omega) (by omega);rw[show((k+1:Nat):Int)=(k:Int)+1 by omega,ZI (by omega),Int.mul_add,Int.mul_one];omega
structure F4 where
 a:Int
 b:Int
 c:Int
 d:Int
deriving Inhabited
def F4.at(f:F4)(k:Int):Int:=Qh [f.a,f.b,f.c,f.d] k.toNat
def F4.sum(f:F4):Int:=f.a+f.b+f.c+f.d
def D7(g:Int->Int):F4:=⟨g 0,g 1,g 2,g 3⟩
theorem cL{i:Int}(h0:0<=i)(h:i<4):i=0\/i=1\/i=2\/i=3:=by omega
theorem Sq{g:Int->Int}{k:Int}(h0:0<=k)(h:k<4):(D7 g).at k=g k:=by
 rcases cL h0 h with rfl|rfl|rfl|rfl <;> rfl
def Jf(f:F4):Prop:=(0<=f.a/\0<=f.b/\0<=f.c/\0<=f.d)/\f.sum<=100000000000
theorem Ui{f:F4}(hf:Jf f){i:Int}(h0:0<=i)(h:i<4):0<=f.at i/\f.at i<=f.sum/\f.sum<=100000000000:=by
 obtain⟨⟨h1,h2,h3,h4⟩,h5⟩:=hf;have e:f.sum=f.a+f.b+f.c+f.d:=rfl;have h5':=h5;rw[e]at h5' ⊢;rcases cL h0 h with rfl|rfl|rfl|rfl
 ·have:f.at 0=f.a:=rfl;omega
 ·have:f.at 1=f.b:=rfl;omega
 ·have:f.at 2=f.c:=rfl;omega
 ·have:f.at 3=f.d:=rfl;omega
abbrev S6(ps:List Qe)(k:Int):Qe:=ps.getD k.toNat La
abbrev nth(xs:List Int)(k:Int):Int:=xs.getD k.toNat La
def Y2(ps:List Qe):Prop:=ps.length<=4/\∀k:Int,0<=k->k<ps.length->(0<=(S6 ps k).room/\(S6 ps k).room<=1000000)/\(0<=(S6 ps k).QR/\(S6 ps k).QR<=1000)/\KP ps.length (S6 ps k).XE=true/\(S6 ps k).XE≠k
def Uv(n:Nat)(xs:List Int)(m:Int):Prop:=xs.length=n/\∀k:Int,0<=k->k<n->0<=nth xs k/\nth xs k<=m
def VW(gs:List Int)(ps:List Qe)(f:F4)(k:Int):Int:=kB (S6 ps k).room (f.at k) (nth gs k)
def Xt(gs:List Int)(ps:List Qe)(f:F4)(i j:Int):Int:=if j<i then f.at j+VW gs ps f j else f.at j
def tE(gs:List Int)(ps:List Qe)(f:F4):F4:=D7 (Xt gs ps f ps.length)
def Vg(ps:List Qe)(b:F4)(k:Int):Int:=(b.at k*(S6 ps k).QR).tdiv 1000
def Wv(ps:List Qe)(b:F4)(i j:Int):Int:=b.at j-(if j<i then Vg ps b j else 0)+Wg 0 i (fun m=>if(S6 ps m).XE=j then Vg ps b m else 0)
def CZ(ps:List Qe)(b:F4):F4:=D7 (Wv ps b ps.length)
def Ve(ps:List Qe)(b:F4)(j:Int):Int:=if(S6 ps j).XE= -1 then Vg ps b j else 0
def Wm(ts:List Int)(b:F4)(k:Int):Int:=if nth ts k<b.at k then nth ts k else b.at k
def P1(ts:List Int)(b:F4)(i j:Int):Int:=if j<i then b.at j-Wm ts b j else b.at j
def FD(ts:List Int)(ps:List Qe)(b:F4):F4:=D7 (P1 ts b ps.length)
def X6(gs ts:List Int)(ps:List Qe)(f:F4):F4:=FD ts ps (CZ ps (tE gs ps f))
theorem aq{g:Int->Int}{i:Int}(h0:0<=i)(h:i<4):Qh [g 0,g 1,g 2,g 3] i.toNat=g i:=by
 rcases cL h0 h with rfl|rfl|rfl|rfl <;> rfl
theorem G3{gs:List Int}{ps:List Qe}{f:F4}{i:Int}:Xt gs ps f i i=f.at i:=by
 unfold Xt;rw[if_neg (by omega)]
theorem CI{gs:List Int}{ps:List Qe}{f:F4}{i:Int}{j:Nat}:(if i.toNat=j then f.at i+VW gs ps f i else Xt gs ps f i j)=Xt gs ps f (i+1) j\/i<0:=by
 by_cases h0:0<=i
 ·refine .inl ?_;unfold Xt;by_cases h:i.toNat=j
  ·have e1:i=(j:Int):=by omega
   rw[if_pos h,if_pos (by omega),e1]
  ·rw[if_neg h];by_cases h2:(j:Int)<i
   ·rw[if_pos h2,if_pos (by omega)]
   ·rw[if_neg h2,if_neg (by omega)]
 ·exact .inr (by omega)
theorem eV{gs:List Int}{ps:List Qe}{f:F4}{i:Int}{j:Nat}(h0:0<=i):(if i.toNat=j then f.at i+VW gs ps f i else Xt gs ps f i j)=Xt gs ps f (i+1) j:=CI.resolve_right (by omega)
theorem Dm{room s t:Int}{w:Int}(ht:t=w.tdiv 1000)(h:0<=t):(if(if room-s > 0 then room-s else 0)<t then(if room-s > 0 then room-s else 0)else t)=if room<=s then 0 else if t<room-s then t else room-s:=by
 by_cases h1:room<=s
 ·rw[if_pos h1,if_neg (show ¬room-s > 0 by omega)];by_cases h2:0<t
  ·rw[if_pos h2]
  ·rw[if_neg h2];omega
 ·rw[if_neg h1,if_pos (show room-s > 0 by omega)];by_cases h2:room-s<t
  ·rw[if_pos h2,if_neg (by omega)]
  ·by_cases h3:t<room-s
   ·rw[if_neg h2,if_pos h3]
   ·rw[if_neg h2,if_neg h3];omega
theorem oV{gs:List Int}{ps:List Qe}{f:F4}{i:Int}(hp:Y2 ps)(hg:Uv ps.length gs 2000)(hf:Jf f)(h0:0<=i)(h:i<ps.length):0<=VW gs ps f i/\VW gs ps f i<=1000000:=by
 have h1:=hp.2 i h0 h;have h2:=hg.2 i h0 h;have ha:=Ui hf h0 (by have:=hp.1;omega);have hm:=c6 (a:=f.at i) (r:=nth gs i) (by omega) (by omega);unfold VW kB;split
 ·omega
 ·split <;> omega
theorem Pf{ps:List Qe}{b:F4}{i j:Int}(h:0<=i):Wv ps b (i+1) j=Wv ps b i j-(if j=i then Vg ps b i else 0)+(if(S6 ps i).XE=j then Vg ps b i else 0):=by
 unfold Wv;rw[ZI h];by_cases e:j=i
 ·subst e;rw[if_pos (show j<j+1 by omega),if_neg (show ¬j<j by omega),if_pos rfl];omega
 ·rw[if_neg e];by_cases e2:j<i
  ·rw[if_pos e2,if_pos (by omega)];omega
  ·rw[if_neg e2,if_neg (by omega)];omega
theorem dN{ps:List Qe}{b:F4}{j:Int}(h:0<=j):Wv ps b 0 j=b.at j:=by
 unfold Wv;rw[if_neg (by omega),Ky (by omega)];omega
theorem FC{ts:List Int}{b:F4}{i:Int}:P1 ts b i i=b.at i:=by
 unfold P1;rw[if_neg (by omega)]
theorem eN{ts:List Int}{b:F4}{i:Int}{j:Nat}(h0:0<=i):(if i.toNat=j then b.at i-Wm ts b i else P1 ts b i j)=P1 ts b (i+1) j:=by
 unfold P1;by_cases h:i.toNat=j
 ·have e1:i=(j:Int):=by omega
  rw[if_pos h,if_pos (by omega),e1]
 ·rw[if_neg h];by_cases h2:(j:Int)<i
  ·rw[if_pos h2,if_pos (by omega)]
  ·rw[if_neg h2,if_neg (by omega)]
theorem ff{ps:List Qe}{b:F4}{i:Int}{j:Nat}(h0:0<=i)(h:(S6 ps i).XE= -1):(if i.toNat=j then Wv ps b i i-Vg ps b i else Wv ps b i j)=Wv ps b (i+1) j:=by
 rw[Pf h0,h,if_neg (show ¬(-1:Int)=(j:Int)by omega)];by_cases h1:i.toNat=j
 ·have e1:i=(j:Int):=by omega
  rw[if_pos h1,if_pos (by omega),e1];omega
 ·rw[if_neg h1,if_neg (by omega)];omega
theorem fg{ps:List Qe}{b:F4}{i v:Int}{j:Nat}(h0:0<=i)(hv:(S6 ps i).XE=v)(v0:0<=v)(hn:v≠i):(if v.toNat=j then Wv ps b i v+Vg ps b i else if i.toNat=j then Wv ps b i i-Vg ps b i else Wv ps b i j)=Wv ps b (i+1) j:=by
 rw[Pf h0,hv];by_cases h1:v.toNat=j
 ·have e1:v=(j:Int):=by omega
  rw[if_pos h1,if_neg (show ¬(j:Int)=i by omega),if_pos e1,e1];omega
 ·rw[if_neg h1,if_neg (show ¬v=(j:Int)by omega)];by_cases h2:i.toNat=j
  ·have e1:i=(j:Int):=by omega
   rw[if_pos h2,if_pos (by omega),e1];omega
  ·rw[if_neg h2,if_neg (by omega)];omega
theorem Ta{ps:List Qe}{b:F4}{i:Int}(hp:Y2 ps)(hf:Jf b)(h0:0<=i)(h:i<ps.length):0<=Vg ps b i/\Vg ps b i<=b.at i:=by
 have h1:=hp.2 i h0 h;have ha:=Ui hf h0 (by have:=hp.1;omega);have e0:0<=b.at i*(S6 ps i).QR:=LG ha.1 h1.2.1.1;have e1:b.at i*(S6 ps i).QR<=b.at i*1000:=Int.mul_le_mul_of_nonneg_left h1.2.1.2 ha.1;have e2:(b.at i*(S6 ps i).QR).tdiv 1000=(b.at i*(S6 ps i).QR) / 1000:=LQ e0;unfold Vg;rw[e2];omega
theorem Si{ps:List Qe}{b:F4}{i j:Int}(hp:Y2 ps)(hf:Jf b)(h0:0<=i)(h:i<=ps.length)(j0:0<=j)(j1:j<4):0<=Wv ps b i j/\Wv ps b i j<=500000000000:=by
 have ha:=Ui hf j0 j1;have hs:=Sr (g:=fun m=>if(S6 ps m).XE=j then Vg ps b m else 0) (K:=100000000000) i.toNat fun m m0 m1=>by
  have h9:=hp.1;have:=Ta hp hf (i:=m) m0 (by omega);have hm:=Ui hf (i:=m) m0 (by omega);split <;> omega
 rw[show((i.toNat:Nat):Int)=i by omega]at hs;have h4:=hp.1;unfold Wv;split
 ·have:=Ta hp hf j0 (by omega);omega
 ·omega
theorem fP{ts:List Int}{b:F4}{n:Nat}{m i:Int}(ht:Uv n ts m)(hf:Jf b)(h0:0<=i)(h:i<n)(h4:n<=4):0<=Wm ts b i/\Wm ts b i<=b.at i/\Wm ts b i<=m:=by
 have ha:=Ui hf h0 (by omega);have h1:=ht.2 i h0 h;unfold Wm;split <;> omega
theorem xf{gs:List Int}{ps:List Qe}{f:F4}{i j:Int}(hp:Y2 ps)(hg:Uv ps.length gs 2000)(hf:Jf f)(h:i<=ps.length)(j0:0<=j)(j1:j<4):0<=Xt gs ps f i j/\Xt gs ps f i j<=f.at j+1000000:=by
 have ha:=Ui hf j0 j1;unfold Xt;split
 ·have:=oV hp hg hf j0 (show j<ps.length by omega);omega
 ·omega
theorem CH{gs:List Int}{ps:List Qe}{f:F4}(hp:Y2 ps)(hg:Uv ps.length gs 2000)(hf:Jf f):(0<=(tE gs ps f).a/\0<=(tE gs ps f).b/\0<=(tE gs ps f).c/\0<=(tE gs ps f).d)/\(tE gs ps f).sum<=f.sum+4000000:=by
 have h0:=xf hp hg hf (LJ _) (j:=0) (by omega) (by omega);have h1:=xf hp hg hf (LJ _) (j:=1) (by omega) (by omega);have h2:=xf hp hg hf (LJ _) (j:=2) (by omega) (by omega);have h3:=xf hp hg hf (LJ _) (j:=3) (by omega) (by omega);refine⟨⟨h0.1,h1.1,h2.1,h3.1⟩, ?_⟩;show Xt gs ps f ps.length 0+Xt gs ps f ps.length 1+Xt gs ps f ps.length 2+Xt gs ps f ps.length 3<=f.a+f.b+f.c+f.d+4000000;have e0:f.at 0=f.a:=rfl;have e1:f.at 1=f.b:=rfl;have e2:f.at 2=f.c:=rfl;have e3:f.at 3=f.d:=rfl;omega
def GM(ps:List Qe)(b:F4)(i:Int):Int:=Wv ps b i 0+Wv ps b i 1+Wv ps b i 2+Wv ps b i 3
theorem CY{ps:List Qe}{b:F4}{i:Int}(hp:Y2 ps)(h0:0<=i)(h:i<ps.length):GM ps b (i+1)=GM ps b i-Ve ps b i:=by
 have h1:=hp.1;have h2:=(hp.2 i h0 h).2.2.1;unfold GM Ve;rw[Pf h0,Pf h0,Pf h0,Pf h0];simp only[KP,Bool.or_eq_true,decide_eq_true_iff,Jb]at h2;generalize (S6 ps i).XE=v at *;generalize Vg ps b i=w at *;have hi:=cL h0 (show i<4 by omega);by_cases hv:v= -1
 ·subst hv;rcases hi with rfl|rfl|rfl|rfl <;> simp <;> omega
 ·have Z4:=cL (show 0<=v by omega) (show v<4 by omega);rcases hi with rfl|rfl|rfl|rfl <;> rcases Z4 with rfl|rfl|rfl|rfl <;> simp <;> omega
theorem xi{ps:List Qe}{b:F4}(hp:Y2 ps):∀k:Nat,k<=ps.length->GM ps b k=b.sum-Wg 0 k (Ve ps b)
 |0,_=>by
  rw[show((0:Nat):Int)=0 from rfl,Ky (by omega)];unfold GM;rw[dN (by omega),dN (by omega),dN (by omega),dN (by omega)];have e:b.sum=b.at 0+b.at 1+b.at 2+b.at 3:=rfl;omega
 |k+1,h=>by
  rw[show((k+1:Nat):Int)=(k:Int)+1 by omega,CY hp (by omega) (by omega),xi hp k (by omega),ZI (by omega)];omega
end Go.Proofs.Ytncjjangllkokaa
