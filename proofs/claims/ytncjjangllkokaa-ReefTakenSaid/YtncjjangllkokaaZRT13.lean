/- Reef: what is taken, with a Qa. -/
import Derived.Test.YtncjjangllkokaaZRT12
set_option linter.all false
namespace Go.Proofs.Ytncjjangllkokaa
open Go Go.CE Go.RowKit
noncomputable section
set_option maxRecDepth 100000
def KP{β:Type}(n:Int)(f:Int->β):List β:=(Sv 0 n).map f
theorem Zo{β:Type}{n:Int}{f:Int->β}:(KP n f).length=n.toNat:=by simp[KP,Sv]
theorem Je{β:Type}{n:Int}{f:Int->β}{k:Nat}(h:k<n.toNat):(KP n f)[k]? =some (f k):=by
 unfold KP Sv;rw[List.getElem?_map,List.getElem?_map,List.getElem?_range (by omega)];simp
theorem X2{β:Type}[Inhabited β]{n k:Int}{f:Int->β}(h0:0<=k)(h:k<n):(KP n f).getD k.toNat default=f k:=by
 rw[List.getD_eq_getElem?_getD,Je (by omega),show((k.toNat:Nat):Int)=k by omega];rfl
theorem K3{β:Type}{n:Int}{f g:Int->β}(h:∀k,0<=k->k<n->f k=g k):KP n f=KP n g:=by
 refine List.ext_getElem? fun k=> ?_
 by_cases hk:k<n.toNat
 ·rw[Je hk,Je hk,h k (by omega) (by omega)]
 ·rw[List.getElem?_eq_none (by rw[Zo];omega),List.getElem?_eq_none (by rw[Zo];omega)]
theorem tH{β:Type}{n i:Int}{f:Int->β}{v:β}(h0:0<=i)(h:i<n):(KP n f).set i.toNat v=KP n (fun k=>if k=i then v else f k):=by
 refine List.ext_getElem? fun k=> ?_
 by_cases hk:k<n.toNat
 ·rw[List.getElem?_set,Zo,Je hk,Je hk];by_cases e:i.toNat=k
  ·rw[if_pos e,if_pos (by omega),if_pos (by omega)]
  ·rw[if_neg e,if_neg (by omega)]
 ·rw[List.getElem?_eq_none (by rw[List.length_set,Zo];omega),List.getElem?_eq_none (by rw[Zo];omega)]
theorem dw{α β:Type}[Inhabited α]{xs:List α}{f:α->β}:xs.map f=KP xs.length (fun k=>f (xs.getD k.toNat default)):=by
 refine List.ext_getElem? fun k=> ?_
 by_cases hk:k<xs.length
 ·rw[Je (by omega),List.getElem?_map,List.getElem?_eq_getElem hk];simp[List.getD_eq_getElem?_getD,hk]
 ·rw[List.getElem?_eq_none (by simp;omega),List.getElem?_eq_none (by rw[Zo];omega)]
def RE(x:Qd):Span:=⟨x.slo,x.shi⟩
def Z0(p k:Int)(x:Qd):Span:=if hasB p k then RE x else WS x
def Xk(ps:List Qd)(p:Int):List Span:=KP ps.length fun k=>Z0 p k (ps.getD k.toNat default)
def RA(ps:List Qd)(p i:Int):List Span:=KP ps.length fun k=>if k<i then Z0 p k (ps.getD k.toNat default)else WS (ps.getD k.toNat default)
theorem Et{ps:List Qd}{p:Int}:ps.map WS=RA ps p 0:=by
 rw[dw];exact K3 fun k h0 _=>by rw[if_neg (by omega)]
theorem yS{ps:List Qd}{p i:Int}(h:ps.length<=i):RA ps p i=Xk ps p:=K3 fun k h0 h1=>by rw[if_pos (by omega)]
theorem BN{ps:List Qd}{p i:Int}(h0:0<=i)(h:hasB p i=false):RA ps p i=RA ps p (i+1):=K3 fun k g0 g1=>by
 by_cases e:k=i
 ·subst e;rw[if_neg (by omega),if_pos (by omega),Z0,h];rfl
 ·by_cases e2:k<i
  ·rw[if_pos e2,if_pos (by omega)]
  ·rw[if_neg e2,if_neg (by omega)]
theorem kb{ps:List Qd}{p i:Int}(h0:0<=i)(h1:i<ps.length)(h:hasB p i=true):(RA ps p i).set i.toNat (RE (ps.getD i.toNat default))=RA ps p (i+1):=by
 unfold RA;rw[tH h0 h1];refine K3 fun k g0 g1=> ?_
 by_cases e:k=i
 ·subst e;rw[if_pos rfl,if_pos (by omega),Z0,h];rfl
 ·rw[if_neg e];by_cases e2:k<i
  ·rw[if_pos e2,if_pos (by omega)]
  ·rw[if_neg e2,if_neg (by omega)]
theorem MC{n k:Int}(hn:0<=n):0<=((bk n k:Nat):Int)/\((bk n k:Nat):Int)<=n:=by
 have:=Ix (a:=n) (n:=k);omega
def YI(x_:Qd):Array Value:=#[.int .i64 x_.count,.int .i64 x_.room,.int .i64 x_.glo,.int .i64 x_.ghi,.int .i64 x_.drift,.int .i64 x_.into,.int .i64 x_.olo,.int .i64 x_.ohi,.int .i64 x_.slo,.int .i64 x_.shi,.int .i64 x_.goal,.int .i64 x_.worth]
def TS(rf:Qe)(Qa:List Int)(k:Int):Array Value:=let i:=rf.miss;let g:=rf.seasons;let f:=Qa.getD 3 0;let e:=Qa.getD 2 0;let d:=Qa.getD 1 0;let c:=Qa.getD 0 0;let b:=rf.Qb;let h:=List.length b;let a:=QE h (Qg Qh b);#[.agg #[Qt 0 a,.int .i64 i,.int .i64 g,.int .i64 c,.int .i64 d,.int .i64 e,.int .i64 f],.int .i64 k,pA 1 0,.tuple #[],.slice none 0 0,pA 4 0,.tuple #[],pA 1 0,pA 1 0,Qt 0 a,.slice (some {block:=3,off:=0}) h 2,.agg #[Qt 0 a,.int .i64 i,.int .i64 g,.int .i64 c,.int .i64 d,.int .i64 e,.int .i64 f],.int .i64 k,Value.func (Fn.func 112) #[] #[Qt 5 (PM 0 #[QE h (Qg Qh b),.int .i64 i,.int .i64 g,.int .i64 c,.int .i64 d,.int .i64 e,.int .i64 f]),Qt 5 (PM 0 #[.int .i64 k])],.tuple #[],.tuple #[],.tuple #[],.tuple #[],.tuple #[],.tuple #[],.tuple #[],.tuple #[],.tuple #[],.tuple #[],.tuple #[],.tuple #[]]
def TQ(rf:Qe)(Qa:List Int):Array Value:=#[QE rf.Qb.length (Qg Qh rf.Qb),.int .i64 rf.miss,.int .i64 rf.seasons,.int .i64 (Qa.getD 0 0),.int .i64 (Qa.getD 1 0),.int .i64 (Qa.getD 2 0),.int .i64 (Qa.getD 3 0)]
def Ct(rf:Qe)(i:Int):Value:=(.agg #[.int .i64 (Qd.olo (rf.Qb.getD i.toNat default)),.int .i64 (Qd.ohi (rf.Qb.getD i.toNat default))])
def V5(rf:Qe)(Qa:List Int)(k:Int):Qo:=[(1,Obj.cells #[Qt 0 (QE rf.Qb.length (Qg Qh rf.Qb)),.int .i64 rf.miss,.int .i64 rf.seasons,.int .i64 (Qa.getD 0 0),.int .i64 (Qa.getD 1 0),.int .i64 (Qa.getD 2 0),.int .i64 (Qa.getD 3 0)] 84),(0,Obj.coro none)]
def YK(rf:Qe)(Qa:List Int)(k:Int):CF:=⟨102,ofList 26 [Qt 0 (QE rf.Qb.length (Qg Qh rf.Qb)),Value.func (Fn.func 105) #[] #[]],[Item.code (QT YP 102)],[],.run,none⟩
def Ks(rf:Qe)(Qa:List Int)(k:Int)(i:Int)(ys:List Span):List Value:=[Value.func (Fn.func 105) #[] #[],.slice (some {block:=3,off:=0}) rf.Qb.length 2,Qt 0 (QE rf.Qb.length (Qg Qh rf.Qb)),.int .i64 (↑rf.Qb.length:Int),.int .i64 i]
def Kr(rf:Qe)(Qa:List Int)(k:Int)(i:Int)(ys:List Span):List Obj:=[]
def Uo(rf:Qe)(Qa:List Int)(k:Int)(i:Int)(ys:List Span):List Obj:=[.cells (Qg Xg ys) 38 (0,0)]
def Kt:List Item:=([.code [1,1,0,1,0,0],.inLoop [1,1,0,1,0,0],.inBlock 0,.code [1,1,1]]).map (it (QT YP 102))
def PK(rf:Qe)(Qa:List Int)(k:Int)(i:Int)(ys:List Span)(Qn:Nat->Value):Qo:=[(4,Obj.cells (YI (rf.Qb.getD i.toNat default)) 54),(2,Obj.coro none),(3,Obj.cells (Qg Xg ys) 38),(1,Obj.cells #[Qt 0 (QE rf.Qb.length (Qg Qh rf.Qb)),.int .i64 rf.miss,.int .i64 rf.seasons,.int .i64 (Qa.getD 0 0),.int .i64 (Qa.getD 1 0),.int .i64 (Qa.getD 2 0),.int .i64 (Qa.getD 3 0)] 84),(0,Obj.coro none)]
def TZ(rf:Qe)(Qa:List Int)(k:Int)(i:Int)(ys:List Span)(Qn:Nat->Value):CF:=⟨105,ofList 5 [.agg (YI (rf.Qb.getD i.toNat default))],[Item.code (QT YP 105)],[],.run,none⟩
theorem C2(B:Lo)(rf:Qe)(Qa:List Int)(k:Int)(i:Int)(ys:List Span)(Qn:Nat->Value):let a:=rf.Qb.getD i.toNat default;CE.finK 5 (Qq YP (Q3 YP) J0 B 6 5 (TZ rf Qa k i ys Qn) (PK rf Qa k i ys Qn) 5
 [] 0 [] []) [] [] []=some (OO.ret (.agg #[.int .i64 a.olo,.int .i64 a.ohi]),[],[],
 []):=by intro a;kernel_rfl
theorem C1(B:Lo)(rf:Qe)(Qa:List Int)(k:Int)(i:Int)(ys:List Span)(Qn:Nat->Value):let g:=Uo rf Qa k i ys;let f:=Ct rf i;let d:=Int.toNat i;let c:=rf.Qb;let b:=c.getD d default;let a:=List.set ys d {lo:=b.olo,hi:=b.ohi};let e:=Qg Xg a;CE.landA 2 (Qq YP (Q3 YP) J0 B 13 2 (WO (none) 102 26 (([1,5,11,12,13]:List Nat).zip (Ks rf Qa k i ys)) Qn Kt) (Z1 (V5 rf Qa k) 2 (([]:List Nat).zip (Kr rf Qa k i ys)) g) (2+1+g.length)
 [(0,Wo),(2,Qk.tidx d (YI b)),(11,Qk.call (List.range 5) (OO.ret f) ([]++(5,Xa)::QU 6 []) 6 []),(12,Qk.ZH (Hint.idx d)),(13,Qk.ZH (Hint.st e)),(14,VE (i+1))] 0 [] []) [1,5,11,12,13] [] [(3,KS.cells [] e)] []=some ⟨102,26,Kt,[],.run,none,Ks rf Qa k (i+1) a,([]:List Nat).zip (Kr rf Qa k (i+1) a),Uo rf Qa k (i+1) a,
 [XA 2 [] e e,wq (i+1)=i+1,0+Int.toNat i*2+TypeInfo.size Try.t38<=Array.size (Qg Xg ys)/\splice (Qg Xg ys) (0+Int.toNat i*2) (Value.cells (X7 {len:=16000,tr:=Tri.set 14 (Tri.set 14 Tri.lf 22 f) 23 (.pointer (some {block:=3,off:=0+Int.toNat i*2}))} 22))=Qg Xg a,i=(↑d:Int)/\Int.toNat i<List.length c,FJ YP B (TZ rf Qa k i ys Qn) (PK rf Qa k i ys Qn) 5 (OO.ret f) (([]++((5,Xa)::QU (5+1) []))++PK rf Qa k i ys Qn) 6 (List.range 5) [],i=(↑d:Int)/\Int.toNat i<List.length c/\Array.extract (Qg Qh c) (Int.toNat i*TypeInfo.size Try.t54) (Int.toNat i*TypeInfo.size Try.t54+TypeInfo.size Try.t54)=(YI b),XU i (↑c.length:Int)=true]⟩:=by intro g f d c b a e;kernel_rfl
theorem C0(B:Lo)(rf:Qe)(Qa:List Int)(k:Int)(i:Int)(ys:List Span)(Qn:Nat->Value):let c:=Uo rf Qa k i ys;let b:=List.length rf.Qb;let a:=Qg Xg ys;CE.finK 2 (Qq YP (Q3 YP) J0 B 9 2 (WO (none) 102 26 (([1,5,11,12,13]:List Nat).zip (Ks rf Qa k i ys)) Qn Kt) (Z1 (V5 rf Qa k) 2 (([]:List Nat).zip (Kr rf Qa k i ys)) c) (2+1+c.length)
 [(0,W8)] 0 [] []) [] [(3,KS.cells [] a)] []=some (OO.ret (.slice (some {block:=3,off:=0}) b 2),[],[Obj.cells a 38],
 [XA 2 [] a a,XU i (↑b:Int)=false]):=by intro c b a;kernel_rfl
set_option maxHeartbeats 4000000 in
theorem r9(rf:Qe)(Qa:List Int)(k:Int)(hn:rf.Qb.length<=4)(hl:Qa.length<=4)(k0:0<=k)(k1:k<4)(hp:∀j:Nat,0<=Qa.getD j 0/\Qa.getD j 0<=1000000){B:Lo}(hJ:∀w,B.has w->J0 w):∀m:Nat,(∀(i:Int) (ys:List Span),(rf.Qb.length-i.toNat)=m->∀(h0:0<=i) (hy:ys=Pe WS ⟨0,0⟩ rf.Qb i),(∃Qn:Nat->Value,(∀t,X6 (Qn t))/\GoE YP B (YK rf Qa k) (V5 rf Qa k) 2 (WO (none) 102 26 (([1,5,11,12,13]:List Nat).zip (Ks rf Qa k i ys)) Qn Kt) (Z1 (V5 rf Qa k) 2 (([]:List Nat).zip (Kr rf Qa k i ys)) (Uo rf Qa k i ys)) (2+1+(Uo rf Qa k i ys).length) ([]:List Nat))->FinK YP B (YK rf Qa k) (V5 rf Qa k) 2 (.ret (.slice (some ⟨3,0,none⟩) rf.Qb.length 2)) (([]:List Nat).zip ([])) ([.cells (Qg Xg (rf.Qb.map WS)) 38 (0,0)]) ([]:List Nat)):=by
 intro m0;induction m0 using Nat.strongRecOn with
 |_ m0 ih0=>
  intro i ys hm0 h0 hy ⟨Qn,Ur,XM⟩;have hyl:ys.length=rf.Qb.length:=by rw[hy];exact Rq
  by_cases q0:(i:Int)<((↑rf.Qb.length:Int))
  ·have rj1:FJ YP B (TZ rf Qa k i ys Qn) (PK rf Qa k i ys Qn) 5 (OO.ret (.agg #[.int .i64 (Qd.olo (rf.Qb.getD i.toNat default)),.int .i64 (Qd.ohi (rf.Qb.getD i.toNat default))])) (([]++((5,Xa)::QU (5+1) []))++PK rf Qa k i ys Qn) 6 (List.range 5) []:=by
    exact FinK.fjB (GoE.finK okF hJ Qf (Q1 (by kernel_rfl)) (Qr (by kernel_rfl)) ((GoE.refl (P:=YP) (B:=B) (c0:=TZ rf Qa k i ys Qn) (Q1 (by kernel_rfl))).widen (Wf:=((([]):List (Nat×KS)).map (·.1))) (by simp) (Qr (by kernel_rfl))) (C2 B rf Qa k i ys Qn)
     trivial) (ex:=[3]) (by kernel_rfl) ⟨trivial,⟨trivial,⟨(Yl (t:=38) (fl:=(0,0)) (fun x=>List.all_eq_true.1 (by rfl))),⟨trivial,⟨trivial,trivial⟩⟩⟩⟩⟩
   exact((ih0 _ (by omega)) (i+1) (List.set ys i.toNat {lo:=Qd.olo (rf.Qb.getD i.toNat default),hi:=Qd.ohi (rf.Qb.getD i.toNat default)}) rfl (by omega) (by(subst hy;exact Rp (f:=WS) h0 q0))
    (GoE.landA okF hJ Qf (Q1 (by kernel_rfl)) (Qr (by kernel_rfl)) XM (C1 B rf Qa k i ys Qn)
    (by exact⟨(QK (QN (fun x=>List.all_eq_true.1 (by rfl)))),⟨(Xy (by omega) (by omega)),⟨(by exact P6 (z:=2) (k:=Int.toNat i) (fun _=>rfl) (by first|omega|(rw[List.length_set];omega)|(rw[List.length_replicate];omega)) rfl rfl),⟨⟨by omega,by omega⟩,⟨rj1,⟨⟨by omega,by omega,(Q4 (z:=12) (fun _=>rfl) (by omega))⟩,⟨(XF q0),trivial⟩⟩⟩⟩⟩⟩⟩) (by kernel_rfl) (by kernel_rfl) (fun l hl=>by cases hl <;> decide))).cast (by rfl) (by rfl) (by rfl)
  ·exact(GoE.finK okF hJ Qf (Q1 (by kernel_rfl)) (Qr (by kernel_rfl)) XM (C0 B rf Qa k i ys Qn)
    ⟨(QK (QN (fun x=>List.all_eq_true.1 (by rfl)))),⟨(XO (Int.not_lt.1 q0)),trivial⟩⟩).cast (by rfl) (by rfl) (by(rw[hy,Rt (by omega)];done))

theorem C3(B:Lo)(rf:Qe)(Qa:List Int)(k:Int):let c:=U0 [.int .i64 0,.int .i64 0];let a:=List.length rf.Qb;let e:=List.replicate a ();let d:=X7 {len:=16000,tr:=Tri.set 14 Tri.lf 9 (.int .i64 (↑a:Int))} 9;let b:=List.replicate a {lo:=0,hi:=0};CE.landA 2 (Qq YP (Q3 YP) J0 B 9 2 (YK rf Qa k) (V5 rf Qa k) 2
 [(3,Qk.ZH (Hint.mk a (Qg c e)))] 0 [] []) [1,5,11,12,13] [] [(2,KS.rows [] [] [] (Qg Xg b))] []=some ⟨102,26,Kt,[],.run,none,Ks rf Qa k (0) b,([]:List Nat).zip (Kr rf Qa k (0) b),Uo rf Qa k (0) b,
 [XX 2 [] [] [] (Qg c e) (Qg Xg b),Rw YP 36 d d=some (38,Qg c e,List.length rf.Qb,TypeInfo.size Try.t38)]⟩:=by intro c a e d b;kernel_rfl
def PJ(rf:Qe)(Qa:List Int)(k:Int):Qo:=[(4,Obj.cells #[.slice (some {block:=3,off:=0}) rf.Qb.length 2] 36),(2,Obj.coro none),(3,Obj.cells (Qg Xg (List.map WS rf.Qb)) 38),(1,Obj.cells #[Qt 0 (QE rf.Qb.length (Qg Qh rf.Qb)),.int .i64 rf.miss,.int .i64 rf.seasons,.int .i64 (Qa.getD 0 0),.int .i64 (Qa.getD 1 0),.int .i64 (Qa.getD 2 0),.int .i64 (Qa.getD 3 0)] 84),(0,Obj.coro none)]
def TU(rf:Qe)(Qa:List Int)(k:Int):CF:=⟨91,ofList 6 [.agg #[Qt 0 (QE rf.Qb.length (Qg Qh rf.Qb)),.int .i64 rf.miss,.int .i64 rf.seasons,.int .i64 (Qa.getD 0 0),.int .i64 (Qa.getD 1 0),.int .i64 (Qa.getD 2 0),.int .i64 (Qa.getD 3 0)],.int .i64 k],[Item.code (QT YP 91)],[],.run,none⟩
theorem Cz(B:Lo)(rf:Qe)(Qa:List Int)(k:Int):let i:=rf.miss;let g:=rf.seasons;let e:=Qa.getD 3 0;let d:=Qa.getD 2 0;let c:=Qa.getD 1 0;let b:=Qa.getD 0 0;let a:=rf.Qb;let h:=List.length a;let f:=Qg Qh a;CE.finK 5 (Qq YP (Q3 YP) J0 B 6 5 (TU rf Qa k) (PJ rf Qa k) 5
 [] 0 [] []) [] [] [{k:=5,rs:=[0],cs:=#[QE h f,.int .i64 i,.int .i64 g,.int .i64 b,.int .i64 c,.int .i64 d,.int .i64 e]},{k:=6,rs:=[],cs:=#[.int .i64 k]}]=some (OO.ret (Value.func (Fn.func 112) #[] #[Qt 5 (PM 0 #[QE h f,.int .i64 i,.int .i64 g,.int .i64 b,.int .i64 c,.int .i64 d,.int .i64 e]),Qt 5 (PM 0 #[.int .i64 k])]),[],[],
 [Zu (Fz.rs {k:=5,rs:=[0],cs:=(TQ rf Qa)}) #[Qt 0 (QE h f),.int .i64 i,.int .i64 g,.int .i64 b,.int .i64 c,.int .i64 d,.int .i64 e] (Fz.cs {k:=5,rs:=[0],cs:=(TQ rf Qa)}),Zu (Fz.rs {k:=6,rs:=[],cs:=#[.int .i64 k]}) #[.int .i64 k] (Fz.cs {k:=6,rs:=[],cs:=#[.int .i64 k]})]):=by intro i g e d c b a h f;kernel_rfl
def Vb(rf:Qe)(Qa:List Int)(k:Int):Qo:=[(7,Obj.loop {state:=LoopState.ready,pending:=none,fn:=84,tmps:=#[.agg #[Qt 0 (QE rf.Qb.length (Qg Qh rf.Qb)),.int .i64 rf.miss,.int .i64 rf.seasons,.int .i64 (Qa.getD 0 0),.int .i64 (Qa.getD 1 0),.int .i64 (Qa.getD 2 0),.int .i64 (Qa.getD 3 0)],.int .i64 k,pA 1 0,.tuple #[],.slice none 0 0,pA 4 0,.tuple #[],pA 1 0,pA 1 0,Qt 0 (QE rf.Qb.length (Qg Qh rf.Qb)),.slice (some {block:=3,off:=0}) rf.Qb.length 2,.agg #[Qt 0 (QE rf.Qb.length (Qg Qh rf.Qb)),.int .i64 rf.miss,.int .i64 rf.seasons,.int .i64 (Qa.getD 0 0),.int .i64 (Qa.getD 1 0),.int .i64 (Qa.getD 2 0),.int .i64 (Qa.getD 3 0)],.int .i64 k,Value.func (Fn.func 112) #[] #[Qt 5 (PM 0 #[QE rf.Qb.length (Qg Qh rf.Qb),.int .i64 rf.miss,.int .i64 rf.seasons,.int .i64 (Qa.getD 0 0),.int .i64 (Qa.getD 1 0),.int .i64 (Qa.getD 2 0),.int .i64 (Qa.getD 3 0)]),Qt 5 (PM 0 #[.int .i64 k])],.tuple #[],.tuple #[],.tuple #[],.tuple #[],.tuple #[],.tuple #[],.tuple #[],.tuple #[],.tuple #[],.tuple #[],.tuple #[],.tuple #[]],params:=#[14],assign:=R6 (QT YP 84) [1,1,0,1,0,0],body:=R6 (QT YP 84) [1,1,0,1,0,1],defers:=6}),(6,Obj.deferred (some [])),(5,Obj.coro none),(4,Obj.cells #[.slice (some {block:=3,off:=0}) rf.Qb.length 2] 36),(2,Obj.coro none),(3,Obj.cells (Qg Xg (List.map WS rf.Qb)) 38),(1,Obj.cells #[Qt 0 (QE rf.Qb.length (Qg Qh rf.Qb)),.int .i64 rf.miss,.int .i64 rf.seasons,.int .i64 (Qa.getD 0 0),.int .i64 (Qa.getD 1 0),.int .i64 (Qa.getD 2 0),.int .i64 (Qa.getD 3 0)] 84),(0,Obj.coro none)]
def YJ(rf:Qe)(Qa:List Int)(k:Int):CF:=⟨112,ofList 27 [Value.func (Fn.yield 7) #[] #[],Qt 5 (PM 0 #[QE rf.Qb.length (Qg Qh rf.Qb),.int .i64 rf.miss,.int .i64 rf.seasons,.int .i64 (Qa.getD 0 0),.int .i64 (Qa.getD 1 0),.int .i64 (Qa.getD 2 0),.int .i64 (Qa.getD 3 0)]),Qt 5 (PM 0 #[.int .i64 k])],[Item.code (QT YP 112)],[],.run,none⟩
def Vq(rf:Qe)(Qa:List Int)(k:Int)(i:Int)(ys:List Span):List Value:=let a:=rf.Qb;[Value.func (Fn.yield 7) #[] #[],Qt 5 (PM 0 #[QE a.length (Qg Qh a),.int .i64 rf.miss,.int .i64 rf.seasons,.int .i64 (Qa.getD 0 0),.int .i64 (Qa.getD 1 0),.int .i64 (Qa.getD 2 0),.int .i64 (Qa.getD 3 0)]),Qt 5 (PM 0 #[.int .i64 k]),.int .i64 (↑a.length:Int),.int .i64 i]
def Vp(rf:Qe)(Qa:List Int)(k:Int)(i:Int)(ys:List Span):List Obj:=let j:=rf.miss;let g:=rf.seasons;let f:=Qa.getD 3 0;let e:=Qa.getD 2 0;let d:=Qa.getD 1 0;let c:=Qa.getD 0 0;let b:=rf.Qb;let h:=List.length b;let a:=QE h (Qg Qh b);[Obj.loop {state:=LoopState.ready,pending:=none,fn:=84,tmps:=#[.agg #[Qt 0 a,.int .i64 j,.int .i64 g,.int .i64 c,.int .i64 d,.int .i64 e,.int .i64 f],.int .i64 k,pA 1 0,.tuple #[],.slice none 0 0,pA 4 0,.tuple #[],pA 1 0,pA 1 0,Qt 0 a,.slice (some {block:=3,off:=0}) h 2,.agg #[Qt 0 a,.int .i64 j,.int .i64 g,.int .i64 c,.int .i64 d,.int .i64 e,.int .i64 f],.int .i64 k,Value.func (Fn.func 112) #[] #[Qt 5 (PM 0 #[QE h (Qg Qh b),.int .i64 j,.int .i64 g,.int .i64 c,.int .i64 d,.int .i64 e,.int .i64 f]),Qt 5 (PM 0 #[.int .i64 k])],.tuple #[],.tuple #[],.tuple #[],.tuple #[],.tuple #[],.tuple #[],.tuple #[],.tuple #[],.tuple #[],.tuple #[],.tuple #[],.tuple #[]],params:=#[14],assign:=R6 (QT YP 84) [1,1,0,1,0,0],body:=R6 (QT YP 84) [1,1,0,1,0,1],defers:=6},.cells (Qg Xg ys) 38 (0,0)]
def WL(rf:Qe)(Qa:List Int)(k:Int)(i:Int)(ys:List Span):List Obj:=[]
def Vr:List Item:=([.code [1,0,0],.inLoop [1,0,0],.inBlock 0]).map (it (QT YP 112))
def eV(B:Lo)(rf:Qe)(Qa:List Int)(k:Int)(i:Int)(ys:List Span)(Qn:Nat->Value):List Prop:=let b:=Tri.set 14 Tri.lf 16 (.int .i64 i);let a:=Qm [Qa.getD 0 0,Qa.getD 1 0,Qa.getD 2 0,Qa.getD 3 0] k.toNat;let d:=.int .i64 a;let c:=.int .i64 (↑(bk a i):Int);[oD YP BinOp.and 3 (X7 {len:=16000,tr:=Tri.set 14 Tri.lf 17 c} 17) (.int .i64 1) (.int .i64 (↑(tl (↑(bk a i):Int) 1):Int)),oD YP BinOp.shr 3 (X7 {len:=16000,tr:=Tri.set 14 b 15 d} 15) (X7 {len:=16000,tr:=Tri.set 14 b 15 d} 16) c,k=(↑k.toNat:Int)/\Int.toNat k<4/\Array.extract (TQ rf Qa) (3+Int.toNat k*TypeInfo.size Try.t3) (3+Int.toNat k*TypeInfo.size Try.t3+TypeInfo.size Try.t3)=#[.int .i64 a],XU i (↑rf.Qb.length:Int)=true]++([]:List Prop)
def pX(rf:Qe)(Qa:List Int)(k:Int)(i:Int)(ys:List Span)(Qn:Nat->Value):Q5:=let a:=Qm [Qa.getD 0 0,Qa.getD 1 0,Qa.getD 2 0,Qa.getD 3 0] k.toNat;[(0,Wo),(5,Qk.tarr k.toNat #[.int .i64 a]),(8,Qk.bin (.int .i64 (↑(bk a i):Int))),(9,Qk.bin (.int .i64 (↑(tl (↑(bk a i):Int) 1):Int)))]
def PI(rf:Qe)(Qa:List Int)(k:Int)(i:Int)(ys:List Span)(Qn:Nat->Value):Qo:=[(7,Obj.loop {state:=LoopState.ready,pending:=none,fn:=84,tmps:=#[.agg #[Qt 0 (QE rf.Qb.length (Qg Qh rf.Qb)),.int .i64 rf.miss,.int .i64 rf.seasons,.int .i64 (Qa.getD 0 0),.int .i64 (Qa.getD 1 0),.int .i64 (Qa.getD 2 0),.int .i64 (Qa.getD 3 0)],.int .i64 k,pA 1 0,.tuple #[],.slice none 0 0,pA 4 0,.tuple #[],pA 1 0,pA 1 0,Qt 0 (QE rf.Qb.length (Qg Qh rf.Qb)),.slice (some {block:=3,off:=0}) rf.Qb.length 2,.agg #[Qt 0 (QE rf.Qb.length (Qg Qh rf.Qb)),.int .i64 rf.miss,.int .i64 rf.seasons,.int .i64 (Qa.getD 0 0),.int .i64 (Qa.getD 1 0),.int .i64 (Qa.getD 2 0),.int .i64 (Qa.getD 3 0)],.int .i64 k,Value.func (Fn.func 112) #[] #[Qt 5 (PM 0 #[QE rf.Qb.length (Qg Qh rf.Qb),.int .i64 rf.miss,.int .i64 rf.seasons,.int .i64 (Qa.getD 0 0),.int .i64 (Qa.getD 1 0),.int .i64 (Qa.getD 2 0),.int .i64 (Qa.getD 3 0)]),Qt 5 (PM 0 #[.int .i64 k])],.tuple #[],.tuple #[],.tuple #[],.tuple #[],.tuple #[],.tuple #[],.tuple #[],.tuple #[],.tuple #[],.tuple #[],.tuple #[],.tuple #[]],params:=#[14],assign:=R6 (QT YP 84) [1,1,0,1,0,0],body:=R6 (QT YP 84) [1,1,0,1,0,1],defers:=6}),(3,Obj.cells (Qg Xg ys) 38),(8,Obj.coro none),(7,Obj.loop {state:=LoopState.ready,pending:=none,fn:=84,tmps:=#[.agg #[Qt 0 (QE rf.Qb.length (Qg Qh rf.Qb)),.int .i64 rf.miss,.int .i64 rf.seasons,.int .i64 (Qa.getD 0 0),.int .i64 (Qa.getD 1 0),.int .i64 (Qa.getD 2 0),.int .i64 (Qa.getD 3 0)],.int .i64 k,pA 1 0,.tuple #[],.slice none 0 0,pA 4 0,.tuple #[],pA 1 0,pA 1 0,Qt 0 (QE rf.Qb.length (Qg Qh rf.Qb)),.slice (some {block:=3,off:=0}) rf.Qb.length 2,.agg #[Qt 0 (QE rf.Qb.length (Qg Qh rf.Qb)),.int .i64 rf.miss,.int .i64 rf.seasons,.int .i64 (Qa.getD 0 0),.int .i64 (Qa.getD 1 0),.int .i64 (Qa.getD 2 0),.int .i64 (Qa.getD 3 0)],.int .i64 k,Value.func (Fn.func 112) #[] #[Qt 5 (PM 0 #[QE rf.Qb.length (Qg Qh rf.Qb),.int .i64 rf.miss,.int .i64 rf.seasons,.int .i64 (Qa.getD 0 0),.int .i64 (Qa.getD 1 0),.int .i64 (Qa.getD 2 0),.int .i64 (Qa.getD 3 0)]),Qt 5 (PM 0 #[.int .i64 k])],.tuple #[],.tuple #[],.tuple #[],.tuple #[],.tuple #[],.tuple #[],.tuple #[],.tuple #[],.tuple #[],.tuple #[],.tuple #[],.tuple #[]],params:=#[14],assign:=R6 (QT YP 84) [1,1,0,1,0,0],body:=R6 (QT YP 84) [1,1,0,1,0,1],defers:=6}),(6,Obj.deferred (some [])),(5,Obj.coro none),(4,Obj.cells #[.slice (some {block:=3,off:=0}) rf.Qb.length 2] 36),(2,Obj.coro none),(3,Obj.cells (Qg Xg (List.map WS rf.Qb)) 38),(1,Obj.cells #[Qt 0 (QE rf.Qb.length (Qg Qh rf.Qb)),.int .i64 rf.miss,.int .i64 rf.seasons,.int .i64 (Qa.getD 0 0),.int .i64 (Qa.getD 1 0),.int .i64 (Qa.getD 2 0),.int .i64 (Qa.getD 3 0)] 84),(0,Obj.coro none)]
def TT(rf:Qe)(Qa:List Int)(k:Int)(i:Int)(ys:List Span)(Qn:Nat->Value):CF:=⟨84,ofList 26 [.agg #[Qt 0 (QE rf.Qb.length (Qg Qh rf.Qb)),.int .i64 rf.miss,.int .i64 rf.seasons,.int .i64 (Qa.getD 0 0),.int .i64 (Qa.getD 1 0),.int .i64 (Qa.getD 2 0),.int .i64 (Qa.getD 3 0)],.int .i64 k,pA 1 0,.tuple #[],.slice none 0 0,pA 4 0,.tuple #[],pA 1 0,pA 1 0,Qt 0 (QE rf.Qb.length (Qg Qh rf.Qb)),.slice (some {block:=3,off:=0}) rf.Qb.length 2,.agg #[Qt 0 (QE rf.Qb.length (Qg Qh rf.Qb)),.int .i64 rf.miss,.int .i64 rf.seasons,.int .i64 (Qa.getD 0 0),.int .i64 (Qa.getD 1 0),.int .i64 (Qa.getD 2 0),.int .i64 (Qa.getD 3 0)],.int .i64 k,Value.func (Fn.func 112) #[] #[Qt 5 (PM 0 #[QE rf.Qb.length (Qg Qh rf.Qb),.int .i64 rf.miss,.int .i64 rf.seasons,.int .i64 (Qa.getD 0 0),.int .i64 (Qa.getD 1 0),.int .i64 (Qa.getD 2 0),.int .i64 (Qa.getD 3 0)]),Qt 5 (PM 0 #[.int .i64 k])],.int .i64 i,.tuple #[],.tuple #[],.tuple #[],.tuple #[],.tuple #[],.tuple #[],.tuple #[],.tuple #[],.tuple #[],.tuple #[],.tuple #[]],[Item.code (R6 (QT YP 84) [1,1,0,1,0,0]),Item.beginRound,Item.code (R6 (QT YP 84) [1,1,0,1,0,1])],[],.run,some 7⟩
theorem Cx(B:Lo)(rf:Qe)(Qa:List Int)(k:Int)(i:Int)(ys:List Span)(Qn:Nat->Value):let p:=rf.miss;let n:=rf.seasons;let l:=Qa.getD 3 0;let j:=Qa.getD 2 0;let h:=Qa.getD 1 0;let g:=Qa.getD 0 0;let e:=Int.toNat i;let b:=rf.Qb;let o:=List.length b;let m:=Qg Qh b;let d:=QE o m;let c:=b.getD e default;let a:=List.set ys e {lo:=c.slo,hi:=c.shi};let f:=Qg Xg a;CE.finK 9 (Qq YP (Q3 YP) J0 B 6 9 (TT rf Qa k i ys Qn) (PI rf Qa k i ys Qn) 9
 [(7,Qk.tidx e (YI c)),(10,Qk.ZH (Hint.idx e)),(11,Qk.ZH (Hint.st f))] 0 [] []) [(7,KS.auto),(3,KS.cells [] f)] [] []=some (OO.ret (.bool true),[(7,Obj.loop {state:=LoopState.ready,pending:=none,fn:=84,tmps:=#[.agg #[Qt 0 d,.int .i64 p,.int .i64 n,.int .i64 g,.int .i64 h,.int .i64 j,.int .i64 l],.int .i64 k,pA 1 0,.tuple #[],.slice none 0 0,pA 4 0,.tuple #[],pA 1 0,pA 1 0,Qt 0 d,.slice (some {block:=3,off:=0}) o 2,.agg #[Qt 0 d,.int .i64 p,.int .i64 n,.int .i64 g,.int .i64 h,.int .i64 j,.int .i64 l],.int .i64 k,Value.func (Fn.func 112) #[] #[Qt 5 (PM 0 #[QE o m,.int .i64 p,.int .i64 n,.int .i64 g,.int .i64 h,.int .i64 j,.int .i64 l]),Qt 5 (PM 0 #[.int .i64 k])],.tuple #[],.tuple #[],.tuple #[],.tuple #[],.tuple #[],.tuple #[],.tuple #[],.tuple #[],.tuple #[],.tuple #[],.tuple #[],.tuple #[]],params:=#[14],assign:=R6 (QT YP 84) [1,1,0,1,0,0],body:=R6 (QT YP 84) [1,1,0,1,0,1],defers:=6}),(3,Obj.cells f 38)],[],
 [XA 9 [] f f,0+Int.toNat i*2+TypeInfo.size Try.t38<=Array.size (Qg Xg ys)/\splice (Qg Xg ys) (0+Int.toNat i*2) (Value.cells (X7 {len:=16000,tr:=Tri.set 14 (Tri.set 14 Tri.lf 23 (.agg #[.int .i64 c.slo,.int .i64 c.shi])) 24 (.pointer (some {block:=3,off:=0+Int.toNat i*2}))} 23))=Qg Xg a,i=(↑e:Int)/\Int.toNat i<List.length b,i=(↑e:Int)/\Int.toNat i<List.length b/\Array.extract m (Int.toNat i*TypeInfo.size Try.t54) (Int.toNat i*TypeInfo.size Try.t54+TypeInfo.size Try.t54)=(YI c)]):=by intro p n l j h g e b o m d c a f;kernel_rfl
theorem Cw(B:Lo)(rf:Qe)(Qa:List Int)(k:Int)(i:Int)(ys:List Span)(Qn:Nat->Value):let f:=OO.ret (.bool true);let e:=WL rf Qa k i ys;let d:=rf.Qb.getD i.toNat default;let b:=QT YP 84;let a:=List.set ys i.toNat {lo:=d.slo,hi:=d.shi};let c:=Qg Xg a;CE.landA 8 (Qq YP (Q3 YP) J0 B 16 8 (WO (none) 112 27 (([0,1,2,8,9]:List Nat).zip (Vq rf Qa k i ys)) Qn Vr) (Z1 (Vb rf Qa k) 8 (([7,3]:List Nat).zip (Vp rf Qa k i ys)) e) (8+1+e.length)
 (pX rf Qa k i ys Qn++[(10,Wo),(14,Qk.call (List.range 9) f ([(7,Obj.loop {state:=LoopState.ready,pending:=none,fn:=84,tmps:=(TS rf Qa k),params:=#[14],assign:=R6 b [1,1,0,1,0,0],body:=R6 b [1,1,0,1,0,1],defers:=6}),(3,Obj.cells c 38)]++(9,Xa)::QU 10 []) 10 [7,3]),(17,VE (i+1))]) 0 [] []) [0,1,2,8,9] [(7,KS.auto),(3,KS.cells [] c)] [] []=some ⟨112,27,Vr,[],.run,none,Vq rf Qa k (i+1) a,([7,3]:List Nat).zip (Vp rf Qa k (i+1) a),WL rf Qa k (i+1) a,
 [XA 8 [] c c,wq (i+1)=i+1,FJ YP B (TT rf Qa k i ys Qn) (PI rf Qa k i ys Qn) 9 f (([(7,Obj.loop {state:=LoopState.ready,pending:=none,fn:=84,tmps:=(TS rf Qa k),params:=#[14],assign:=R6 b [1,1,0,1,0,0],body:=R6 b [1,1,0,1,0,1],defers:=6}),(3,Obj.cells c 38)]++((9,Xa)::QU (9+1) []))++PI rf Qa k i ys Qn) 10 (List.range 9) [7,3],Km (↑(tl (↑(bk (Qm [Qa.getD 0 0,Qa.getD 1 0,Qa.getD 2 0,Qa.getD 3 0] k.toNat) i):Int) 1):Int) 1=true]++eV B rf Qa k i ys Qn⟩:=by intro f e d b a c;kernel_rfl
theorem Cv(B:Lo)(rf:Qe)(Qa:List Int)(k:Int)(i:Int)(ys:List Span)(Qn:Nat->Value):let b:=Qg Xg ys;let a:=WL rf Qa k i ys;CE.landA 8 (Qq YP (Q3 YP) J0 B 16 8 (WO (none) 112 27 (([0,1,2,8,9]:List Nat).zip (Vq rf Qa k i ys)) Qn Vr) (Z1 (Vb rf Qa k) 8 (([7,3]:List Nat).zip (Vp rf Qa k i ys)) a) (8+1+a.length)
 (pX rf Qa k i ys Qn++[(10,W8),(17,VE (i+1))]) 0 [] []) [0,1,2,8,9] [(7,KS.auto),(3,KS.cells [] b)] [] []=some ⟨112,27,Vr,[],.run,none,Vq rf Qa k (i+1) (ys),([7,3]:List Nat).zip (Vp rf Qa k (i+1) (ys)),WL rf Qa k (i+1) (ys),
 [XA 8 [] b b,wq (i+1)=i+1,Km (↑(tl (↑(bk (Qm [Qa.getD 0 0,Qa.getD 1 0,Qa.getD 2 0,Qa.getD 3 0] k.toNat) i):Int) 1):Int) 1=false]++eV B rf Qa k i ys Qn⟩:=by intro b a;kernel_rfl
theorem Cu(B:Lo)(rf:Qe)(Qa:List Int)(k:Int)(i:Int)(ys:List Span)(Qn:Nat->Value):let l:=rf.miss;let j:=WL rf Qa k i ys;let h:=rf.seasons;let g:=Qa.getD 3 0;let f:=Qa.getD 2 0;let e:=Qa.getD 1 0;let d:=Qa.getD 0 0;let c:=Qg Xg ys;let b:=Qg Qh rf.Qb;let a:=List.length rf.Qb;CE.finK 8 (Qq YP (Q3 YP) J0 B 7 8 (WO (none) 112 27 (([0,1,2,8,9]:List Nat).zip (Vq rf Qa k i ys)) Qn Vr) (Z1 (Vb rf Qa k) 8 (([7,3]:List Nat).zip (Vp rf Qa k i ys)) j) (8+1+j.length)
 [(0,W8)] 0 [] []) [(7,KS.auto),(3,KS.cells [] c)] [] []=some (OO.ret (.tuple #[]),[(7,Obj.loop {state:=LoopState.ready,pending:=none,fn:=84,tmps:=#[.agg #[Qt 0 (QE a b),.int .i64 l,.int .i64 h,.int .i64 d,.int .i64 e,.int .i64 f,.int .i64 g],.int .i64 k,pA 1 0,.tuple #[],.slice none 0 0,pA 4 0,.tuple #[],pA 1 0,pA 1 0,Qt 0 (QE a b),.slice (some {block:=3,off:=0}) a 2,.agg #[Qt 0 (QE a b),.int .i64 l,.int .i64 h,.int .i64 d,.int .i64 e,.int .i64 f,.int .i64 g],.int .i64 k,Value.func (Fn.func 112) #[] #[Qt 5 (PM 0 #[QE a b,.int .i64 l,.int .i64 h,.int .i64 d,.int .i64 e,.int .i64 f,.int .i64 g]),Qt 5 (PM 0 #[.int .i64 k])],.tuple #[],.tuple #[],.tuple #[],.tuple #[],.tuple #[],.tuple #[],.tuple #[],.tuple #[],.tuple #[],.tuple #[],.tuple #[],.tuple #[]],params:=#[14],assign:=R6 (QT YP 84) [1,1,0,1,0,0],body:=R6 (QT YP 84) [1,1,0,1,0,1],defers:=6}),(3,Obj.cells c 38)],[],
 [XA 8 [] c c,XU i (↑a:Int)=false]):=by intro l j h g f e d c b a;kernel_rfl
set_option maxHeartbeats 4000000 in
theorem r8(rf:Qe)(Qa:List Int)(k:Int)(hn:rf.Qb.length<=4)(hl:Qa.length<=4)(k0:0<=k)(k1:k<4)(hp:∀j:Nat,0<=Qa.getD j 0/\Qa.getD j 0<=1000000){B:Lo}(hJ:∀w,B.has w->J0 w):∀m:Nat,(∀(i:Int) (ys:List Span),rf.Qb.length-i.toNat=m->∀(i0:0<=i) (hy:ys=RA rf.Qb (Qa.getD k.toNat 0) i),(∃Qn:Nat->Value,(∀t,X6 (Qn t))/\GoE YP B (YJ rf Qa k) (Vb rf Qa k) 8 (WO (none) 112 27 (([0,1,2,8,9]:List Nat).zip (Vq rf Qa k i ys)) Qn Vr) (Z1 (Vb rf Qa k) 8 (([7,3]:List Nat).zip (Vp rf Qa k i ys)) (WL rf Qa k i ys)) (8+1+(WL rf Qa k i ys).length) ([7,3]:List Nat))->FinK YP B (YJ rf Qa k) (Vb rf Qa k) 8 (.ret (.tuple #[])) (([7,3]:List Nat).zip ([Obj.loop {state:=LoopState.ready,pending:=none,fn:=84,tmps:=#[.agg #[Qt 0 (QE rf.Qb.length (Qg Qh rf.Qb)),.int .i64 rf.miss,.int .i64 rf.seasons,.int .i64 (Qa.getD 0 0),.int .i64 (Qa.getD 1 0),.int .i64 (Qa.getD 2 0),.int .i64 (Qa.getD 3 0)],.int .i64 k,pA 1 0,.tuple #[],.slice none 0 0,pA 4 0,.tuple #[],pA 1 0,pA 1 0,Qt 0 (QE rf.Qb.length (Qg Qh rf.Qb)),.slice (some {block:=3,off:=0}) rf.Qb.length 2,.agg #[Qt 0 (QE rf.Qb.length (Qg Qh rf.Qb)),.int .i64 rf.miss,.int .i64 rf.seasons,.int .i64 (Qa.getD 0 0),.int .i64 (Qa.getD 1 0),.int .i64 (Qa.getD 2 0),.int .i64 (Qa.getD 3 0)],.int .i64 k,Value.func (Fn.func 112) #[] #[Qt 5 (PM 0 #[QE rf.Qb.length (Qg Qh rf.Qb),.int .i64 rf.miss,.int .i64 rf.seasons,.int .i64 (Qa.getD 0 0),.int .i64 (Qa.getD 1 0),.int .i64 (Qa.getD 2 0),.int .i64 (Qa.getD 3 0)]),Qt 5 (PM 0 #[.int .i64 k])],.tuple #[],.tuple #[],.tuple #[],.tuple #[],.tuple #[],.tuple #[],.tuple #[],.tuple #[],.tuple #[],.tuple #[],.tuple #[],.tuple #[]],params:=#[14],assign:=R6 (QT YP 84) [1,1,0,1,0,0],body:=R6 (QT YP 84) [1,1,0,1,0,1],defers:=6},.cells (Qg Xg (Xk rf.Qb (Qa.getD k.toNat 0))) 38 (0,0)])) ([]) ([7,3]:List Nat)):=by
 intro m0;induction m0 using Nat.strongRecOn with
 |_ m0 ih0=>
  intro i ys hm0 i0 hy ⟨Qn,Ur,XM⟩;have hyl:ys.length=rf.Qb.length:=by rw[hy];simp[RA,Zo]
  have hpk:=hp k.toNat;have hse:=NJ (k:=k.toNat) hl;have JY:=MC (n:=Qm [Qa.getD 0 0,Qa.getD 1 0,Qa.getD 2 0,Qa.getD 3 0] k.toNat) (k:=i) (by omega);by_cases q0:(i:Int)<((↑rf.Qb.length:Int))
  ·have WB:Qz (eV B rf Qa k i ys Qn):=by
    exact⟨(LX (by omega) (by omega) (by omega) (by omega)),⟨(LW (by omega) (by omega) (by omega)),⟨⟨by omega,by omega,HY (fs:=[Qa.getD 0 0,Qa.getD 1 0,Qa.getD 2 0,Qa.getD 3 0]) rfl (Nat.lt_of_lt_of_eq (m:=4) (by omega) rfl)⟩,⟨(XF q0),trivial⟩⟩⟩⟩
   by_cases q1:((↑(tl (↑(bk (Qm [Qa.getD 0 0,Qa.getD 1 0,Qa.getD 2 0,Qa.getD 3 0] k.toNat) i):Int) 1):Int):Int)=(1)
   ·have rj3:FJ YP B (TT rf Qa k i ys Qn) (PI rf Qa k i ys Qn) 9 (OO.ret (.bool true)) (([(7,Obj.loop {state:=LoopState.ready,pending:=none,fn:=84,tmps:=#[.agg #[Qt 0 (QE rf.Qb.length (Qg Qh rf.Qb)),.int .i64 rf.miss,.int .i64 rf.seasons,.int .i64 (Qa.getD 0 0),.int .i64 (Qa.getD 1 0),.int .i64 (Qa.getD 2 0),.int .i64 (Qa.getD 3 0)],.int .i64 k,pA 1 0,.tuple #[],.slice none 0 0,pA 4 0,.tuple #[],pA 1 0,pA 1 0,Qt 0 (QE rf.Qb.length (Qg Qh rf.Qb)),.slice (some {block:=3,off:=0}) rf.Qb.length 2,.agg #[Qt 0 (QE rf.Qb.length (Qg Qh rf.Qb)),.int .i64 rf.miss,.int .i64 rf.seasons,.int .i64 (Qa.getD 0 0),.int .i64 (Qa.getD 1 0),.int .i64 (Qa.getD 2 0),.int .i64 (Qa.getD 3 0)],.int .i64 k,Value.func (Fn.func 112) #[] #[Qt 5 (PM 0 #[QE rf.Qb.length (Qg Qh rf.Qb),.int .i64 rf.miss,.int .i64 rf.seasons,.int .i64 (Qa.getD 0 0),.int .i64 (Qa.getD 1 0),.int .i64 (Qa.getD 2 0),.int .i64 (Qa.getD 3 0)]),Qt 5 (PM 0 #[.int .i64 k])],.tuple #[],.tuple #[],.tuple #[],.tuple #[],.tuple #[],.tuple #[],.tuple #[],.tuple #[],.tuple #[],.tuple #[],.tuple #[],.tuple #[]],params:=#[14],assign:=R6 (QT YP 84) [1,1,0,1,0,0],body:=R6 (QT YP 84) [1,1,0,1,0,1],defers:=6}),(3,Obj.cells (Qg Xg (List.set ys i.toNat {lo:=Qd.slo (rf.Qb.getD i.toNat default),hi:=Qd.shi (rf.Qb.getD i.toNat default)})) 38)]++((9,Xa)::QU (9+1) []))++PI rf Qa k i ys Qn) 10 (List.range 9) [7,3]:=by
     have hyes:=kb (ps:=rf.Qb) (p:=Qa.getD k.toNat 0) i0 q0 (by rw[<-rv,<-hse];exact decide_eq_true q1);exact FinK.fjB (GoE.finK okF hJ Qf (Q1 (by kernel_rfl)) (Qr (by kernel_rfl)) ((GoE.refl (P:=YP) (B:=B) (c0:=TT rf Qa k i ys Qn) (Q1 (by kernel_rfl))).widen (Wf:=((([(7,KS.auto),(3,KS.cells [] (Qg Xg (List.set ys i.toNat {lo:=Qd.slo (rf.Qb.getD i.toNat default),hi:=Qd.shi (rf.Qb.getD i.toNat default)})))]):List (Nat×KS)).map (·.1))) (by simp) (Qr (by kernel_rfl))) (Cx B rf Qa k i ys Qn)
      ⟨(QK (QN (fun x=>List.all_eq_true.1 (by rfl)))),⟨(by exact P6 (z:=2) (k:=Int.toNat i) (fun _=>rfl) (by first|omega|(rw[List.length_set];omega)|(rw[List.length_replicate];omega)) rfl rfl),⟨⟨by omega,by omega⟩,⟨⟨by omega,by omega,(Q4 (z:=12) (fun _=>rfl) (by omega))⟩,trivial⟩⟩⟩⟩) (ex:=[3]) (by kernel_rfl) ⟨trivial,⟨(Yl (t:=38) (fl:=(0,0)) (fun x=>List.all_eq_true.1 (by rfl))),⟨trivial,⟨trivial,⟨trivial,⟨trivial,⟨trivial,⟨trivial,⟨(Yl (t:=38) (fl:=(0,0)) (fun x=>List.all_eq_true.1 (by rfl))),⟨trivial,⟨trivial,trivial⟩⟩⟩⟩⟩⟩⟩⟩⟩⟩⟩
    have hyes:=kb (ps:=rf.Qb) (p:=Qa.getD k.toNat 0) i0 q0 (by rw[<-rv,<-hse];exact decide_eq_true q1);exact((ih0 _ (by omega)) (i+1) (List.set ys i.toNat {lo:=Qd.slo (rf.Qb.getD i.toNat default),hi:=Qd.shi (rf.Qb.getD i.toNat default)}) rfl (by omega) (by(rw[hy];exact hyes))
     (GoE.landA okF hJ Qf (Q1 (by kernel_rfl)) (Qr (by kernel_rfl)) XM (Cw B rf Qa k i ys Qn)
     (by exact⟨(QK (QN (fun x=>List.all_eq_true.1 (by rfl)))),⟨(Xy (by omega) (by omega)),⟨rj3,⟨(Pc q1),WB⟩⟩⟩⟩) (by kernel_rfl) (by kernel_rfl) (fun l hl=>by cases hl <;> decide))).cast (by rfl) (by rfl) (by rfl)
   ·have hno:=BN (ps:=rf.Qb) (p:=Qa.getD k.toNat 0) i0 (by rw[<-rv,<-hse];exact decide_eq_false q1);exact((ih0 _ (by omega)) (i+1) (ys) rfl (by omega) (by(rw[hy];exact hno))
     (GoE.landA okF hJ Qf (Q1 (by kernel_rfl)) (Qr (by kernel_rfl)) XM (Cv B rf Qa k i ys Qn)
     ⟨(QK (QN (fun x=>List.all_eq_true.1 (by rfl)))),⟨(Xy (by omega) (by omega)),⟨(Pd q1),WB⟩⟩⟩ (by kernel_rfl) (by kernel_rfl) (fun l hl=>by cases hl <;> decide))).cast (by rfl) (by rfl) (by rfl)
  ·exact(GoE.finK okF hJ Qf (Q1 (by kernel_rfl)) (Qr (by kernel_rfl)) XM (Cu B rf Qa k i ys Qn)
    ⟨(QK (QN (fun x=>List.all_eq_true.1 (by rfl)))),⟨(XO (Int.not_lt.1 q0)),trivial⟩⟩).cast (by rfl) (by(rw[hy,yS (by omega)];rfl)) (by rfl)

theorem Cy(B:Lo)(rf:Qe)(Qa:List Int)(k:Int):let a:=List.map WS rf.Qb;let b:=Qg Xg a;CE.landA 8 (Qq YP (Q3 YP) J0 B 4 8 (YJ rf Qa k) (Vb rf Qa k) 8
 [] 0 [] []) [0,1,2,8,9] [(7,KS.auto),(3,KS.cells [] b)] [] []=some ⟨112,27,Vr,[],.run,none,Vq rf Qa k (0) a,([7,3]:List Nat).zip (Vp rf Qa k (0) a),WL rf Qa k (0) a,
 [XA 8 [] b b]⟩:=by intro a b;kernel_rfl
theorem zm(B:Lo)(rf:Qe)(Qa:List Int)(k:Int):let i:=OO.ret (.tuple #[]);let e:=QT YP 84;let d:=rf.Qb;let g:=Qg Xg (List.map WS d);let c:=OO.ret (.slice (some {block:=3,off:=0}) d.length 2);let b:=OO.ret (Value.func (Fn.func 112) #[] #[Qt 5 (PM 0 (TQ rf Qa)),Qt 5 (PM 0 #[.int .i64 k])]);let a:=Xk d (Qa.getD k.toNat 0);let h:=Qg Xg a;let f:=Fz.cs {k:=3,rs:=[],cs:=Qg Xg a};QQ (Qq YP (Q3 YP) J0 B 16 1 (Qp YP 84 26 (([.agg (QL rf Qa).toArray,.int .i64 k]).map (Q2 0 4))) XV 1
 [(5,Qk.call (List.range 2) c ([]++(2,Xa)::QU 3 [Obj.cells g 38]) 4 []),(10,Qk.call (List.range 5) b ([]++(5,Xa)::QU 6 []) 6 []),(11,Qk.call (List.range 8) i ([(7,Obj.loop {state:=LoopState.ready,pending:=none,fn:=84,tmps:=(TS rf Qa k),params:=#[14],assign:=R6 e [1,1,0,1,0,0],body:=R6 e [1,1,0,1,0,1],defers:=6}),(3,Obj.cells h 38)]++(8,Xa)::QU 9 []) 9 [7,3])] 0 [] []) [{k:=3,rs:=[],cs:=Qg Xg a}]=some (QE d.length f,
 [Zu (Fz.rs {k:=3,rs:=[],cs:=Qg Xg a}) h f,FJ YP B (YJ rf Qa k) (Vb rf Qa k) 8 i (([(7,Obj.loop {state:=LoopState.ready,pending:=none,fn:=84,tmps:=(TS rf Qa k),params:=#[14],assign:=R6 e [1,1,0,1,0,0],body:=R6 e [1,1,0,1,0,1],defers:=6}),(3,Obj.cells h 38)]++((8,Xa)::QU (8+1) []))++Vb rf Qa k) 9 (List.range 8) [7,3],FJ YP B (TU rf Qa k) (PJ rf Qa k) 5 b (([]++((5,Xa)::QU (5+1) []))++PJ rf Qa k) 6 (List.range 5) [],FJ YP B (YK rf Qa k) (V5 rf Qa k) 2 c (([]++((2,Xa)::QU (2+1) [Obj.cells g 38]))++V5 rf Qa k) 4 (List.range 2) []]):=by intro i e d g c b a h f;kernel_rfl
set_option maxHeartbeats 4000000 in
theorem FA(rf:Qe)(Qa:List Int)(k:Int)(hn:rf.Qb.length<=4)(hl:Qa.length<=4)(k0:0<=k)(k1:k<4)(hp:∀j:Nat,0<=Qa.getD j 0/\Qa.getD j 0<=1000000){B:Lo}(hJ:∀w,B.has w->J0 w):EndsT YP B (Qp YP 84 26 (([.agg (QL rf Qa).toArray,.int .i64 k]).map (Q2 0 4))) (KQ (Xk rf.Qb (Qa.getD k.toNat 0))):=by
 have rj0:FJ YP B (YK rf Qa k) (V5 rf Qa k) 2 (OO.ret (.slice (some {block:=3,off:=0}) rf.Qb.length 2)) (([]++((2,Xa)::QU (2+1) [Obj.cells (Qg Xg (List.map WS rf.Qb)) 38]))++V5 rf Qa k) 4 (List.range 2) []:=by
  exact FinK.fjB ((r9 rf Qa k hn hl k0 k1 hp hJ _) (0) (List.replicate rf.Qb.length {lo:=0,hi:=0}) rfl (by omega) (by exact dL)
   (GoE.landA okF hJ Qf (Q1 (by kernel_rfl)) (Qr (by kernel_rfl)) ((GoE.refl (P:=YP) (B:=B) (c0:=YK rf Qa k) (Q1 (by kernel_rfl))).widen (Wf:=((([]):List (Nat×KS)).map (·.1))) (by simp) (Qr (by kernel_rfl))) (C3 B rf Qa k)
   ⟨(by exact(Uj (by exact⟨(.simple rfl),⟨(.simple rfl),trivial⟩⟩) _)),⟨(fN (bytes:=16) (by kernel_rfl) (by omega) (by omega) (by omega)),trivial⟩⟩ (by kernel_rfl) (by kernel_rfl) (fun l hl=>by cases hl <;> decide))) (ex:=[]) (by kernel_rfl) (Wj _)
 have rj1:FJ YP B (TU rf Qa k) (PJ rf Qa k) 5 (OO.ret (Value.func (Fn.func 112) #[] #[Qt 5 (PM 0 #[QE rf.Qb.length (Qg Qh rf.Qb),.int .i64 rf.miss,.int .i64 rf.seasons,.int .i64 (Qa.getD 0 0),.int .i64 (Qa.getD 1 0),.int .i64 (Qa.getD 2 0),.int .i64 (Qa.getD 3 0)]),Qt 5 (PM 0 #[.int .i64 k])])) (([]++((5,Xa)::QU (5+1) []))++PJ rf Qa k) 6 (List.range 5) []:=by
  exact FinK.fjB (GoE.finK okF hJ Qf (Q1 (by kernel_rfl)) (Qr (by kernel_rfl)) ((GoE.refl (P:=YP) (B:=B) (c0:=TU rf Qa k) (Q1 (by kernel_rfl))).widen (Wf:=((([]):List (Nat×KS)).map (·.1))) (by simp) (Qr (by kernel_rfl))) (Cz B rf Qa k)
   ⟨(DY (by kernel_rfl)),⟨(aN (by kernel_rfl)),trivial⟩⟩) (ex:=[3]) (by kernel_rfl) ⟨trivial,⟨trivial,⟨(Yl (t:=38) (fl:=(0,0)) (fun x=>List.all_eq_true.1 (by rfl))),⟨trivial,⟨trivial,trivial⟩⟩⟩⟩⟩
 have rj2:FJ YP B (YJ rf Qa k) (Vb rf Qa k) 8 (OO.ret (.tuple #[])) (([(7,Obj.loop {state:=LoopState.ready,pending:=none,fn:=84,tmps:=#[.agg #[Qt 0 (QE rf.Qb.length (Qg Qh rf.Qb)),.int .i64 rf.miss,.int .i64 rf.seasons,.int .i64 (Qa.getD 0 0),.int .i64 (Qa.getD 1 0),.int .i64 (Qa.getD 2 0),.int .i64 (Qa.getD 3 0)],.int .i64 k,pA 1 0,.tuple #[],.slice none 0 0,pA 4 0,.tuple #[],pA 1 0,pA 1 0,Qt 0 (QE rf.Qb.length (Qg Qh rf.Qb)),.slice (some {block:=3,off:=0}) rf.Qb.length 2,.agg #[Qt 0 (QE rf.Qb.length (Qg Qh rf.Qb)),.int .i64 rf.miss,.int .i64 rf.seasons,.int .i64 (Qa.getD 0 0),.int .i64 (Qa.getD 1 0),.int .i64 (Qa.getD 2 0),.int .i64 (Qa.getD 3 0)],.int .i64 k,Value.func (Fn.func 112) #[] #[Qt 5 (PM 0 #[QE rf.Qb.length (Qg Qh rf.Qb),.int .i64 rf.miss,.int .i64 rf.seasons,.int .i64 (Qa.getD 0 0),.int .i64 (Qa.getD 1 0),.int .i64 (Qa.getD 2 0),.int .i64 (Qa.getD 3 0)]),Qt 5 (PM 0 #[.int .i64 k])],.tuple #[],.tuple #[],.tuple #[],.tuple #[],.tuple #[],.tuple #[],.tuple #[],.tuple #[],.tuple #[],.tuple #[],.tuple #[],.tuple #[]],params:=#[14],assign:=R6 (QT YP 84) [1,1,0,1,0,0],body:=R6 (QT YP 84) [1,1,0,1,0,1],defers:=6}),(3,Obj.cells (Qg Xg (Xk rf.Qb (Qa.getD k.toNat 0))) 38)]++((8,Xa)::QU (8+1) []))++Vb rf Qa k) 9 (List.range 8) [7,3]:=by
  exact FinK.fjB ((r8 rf Qa k hn hl k0 k1 hp hJ _) (0) (List.map WS rf.Qb) rfl (by omega) (by exact Et)
   (GoE.landA okF hJ Qf (Q1 (by kernel_rfl)) (Qr (by kernel_rfl)) ((GoE.refl (P:=YP) (B:=B) (c0:=YJ rf Qa k) (Q1 (by kernel_rfl))).widen (Wf:=((([(7,KS.auto),(3,KS.cells [] (Qg Xg (List.map WS rf.Qb)))]):List (Nat×KS)).map (·.1))) (by simp) (Qr (by kernel_rfl))) (Cy B rf Qa k)
   ⟨(QK (QN (fun x=>List.all_eq_true.1 (by rfl)))),trivial⟩ (by kernel_rfl) (by kernel_rfl) (fun l hl=>by cases hl <;> decide))) (ex:=[3]) (by kernel_rfl) ⟨trivial,⟨trivial,⟨trivial,⟨trivial,⟨trivial,⟨(Yl (t:=38) (fl:=(0,0)) (fun x=>List.all_eq_true.1 (by rfl))),⟨trivial,⟨trivial,trivial⟩⟩⟩⟩⟩⟩⟩⟩
 exact(GoE.endsT okF hJ Qf GoE.start (zm B rf Qa k)
  ⟨(Zd (fun x=>List.all_eq_true.1 (by rfl))),⟨rj2,⟨rj1,⟨rj0,trivial⟩⟩⟩⟩).cast (by exact cb rfl (by rw[Xk,Zo];omega))
theorem FB(rf:Qe)(Qa:List Int)(k:Int)(hn:rf.Qb.length<=4)(hl:Qa.length<=4)(k0:0<=k)(k1:k<4)(hp:∀j:Nat,0<=Qa.getD j 0/\Qa.getD j 0<=1000000):Qx YP J0 84 #[.agg (QL rf Qa).toArray,.int .i64 k] (KQ (Xk rf.Qb (Qa.getD k.toNat 0))):=
 Xn (ts:=[.agg (QL rf Qa).toArray,.int .i64 k]) Za (c0:=Qp YP 84 26 (([.agg (QL rf Qa).toArray,.int .i64 k]).map (Q2 0 4))) (by kernel_rfl) (by kernel_rfl) fun B hJ=>FA rf Qa k hn hl k0 k1 hp hJ
end
end Go.Proofs.Ytncjjangllkokaa

namespace Go.Proofs.Ytncjjangllkokaa
open Go Go.CE Go.RowKit
def Xb(a b:Int)(g:Int->Int):Int:=tK ((Sv a b).map g)
theorem VT{a b:Int}{g:Int->Int}(h:b<=a):Xb a b g=0:=by
 unfold Xb;rw[jc h];rfl
theorem tJ:∀(l m:List Int),tK (l++m)=tK l+tK m
 |[],m=>by simp[tK]
 |x::l,m=>by simp only[List.cons_append,tK,tJ l m];omega
theorem X3{i:Int}{g:Int->Int}(h:0<=i):Xb 0 (i+1) g=Xb 0 i g+g i:=by
 have e:Sv 0 (i+1)=Sv 0 i++[i]:=by
  unfold Sv;rw[show(i+1-0).toNat=(i-0).toNat+1 by omega,List.range_succ,List.map_append];congr 1;simp;omega
 unfold Xb;rw[e,List.map_append,tJ];simp[tK]
theorem UC{g:Int->Int}{K:Int}:∀(k:Nat),(∀m:Int,0<=m->m<k->0<=g m/\g m<=K)->0<=Xb 0 k g/\Xb 0 k g<=K*k
 |0,_=>by rw[VT (by omega)];omega
 |k+1,h=>by
  have ih:=UC k fun m h0 h1=>h m h0 (by omega)
  have h2:=h k (by omega) (by omega);rw[show((k+1:Nat):Int)=(k:Int)+1 by omega,X3 (by omega),Int.mul_add,Int.mul_one];omega
structure F4 where
 a:Int
 b:Int
 c:Int
 d:Int
deriving Inhabited
def F4.at(f:F4)(k:Int):Int:=Qm [f.a,f.b,f.c,f.d] k.toNat
def F4.sum(f:F4):Int:=f.a+f.b+f.c+f.d
def yT(g:Int->Int):F4:=⟨g 0,g 1,g 2,g 3⟩
theorem bJ{i:Int}(h0:0<=i)(h:i<4):i=0\/i=1\/i=2\/i=3:=by omega
theorem TG{g:Int->Int}{k:Int}(h0:0<=k)(h:k<4):(yT g).at k=g k:=by
 rcases bJ h0 h with rfl|rfl|rfl|rfl <;> rfl
def J6(f:F4):Prop:=(0<=f.a/\0<=f.b/\0<=f.c/\0<=f.d)/\f.sum<=100000000000
theorem Uh{f:F4}(hf:J6 f){i:Int}(h0:0<=i)(h:i<4):0<=f.at i/\f.at i<=f.sum/\f.sum<=100000000000:=by
 obtain⟨⟨h1,h2,h3,h4⟩,h5⟩:=hf;have e:f.sum=f.a+f.b+f.c+f.d:=rfl;have h5':=h5;rw[e]at h5' ⊢;rcases bJ h0 h with rfl|rfl|rfl|rfl
 ·have:f.at 0=f.a:=rfl;omega
 ·have:f.at 1=f.b:=rfl;omega
 ·have:f.at 2=f.c:=rfl;omega
 ·have:f.at 3=f.d:=rfl;omega
abbrev Ve(ps:List Qd)(k:Int):Qd:=ps.getD k.toNat default
abbrev nth(xs:List Int)(k:Int):Int:=xs.getD k.toNat default
def Jq(ps:List Qd):Prop:=ps.length<=4/\∀k:Int,0<=k->k<ps.length->(0<=(Ve ps k).room/\(Ve ps k).room<=1000000)/\(0<=(Ve ps k).drift/\(Ve ps k).drift<=1000)/\Yx ps.length (Ve ps k).into=true/\(Ve ps k).into≠k
def UR(n:Nat)(xs:List Int)(m:Int):Prop:=xs.length=n/\∀k:Int,0<=k->k<n->0<=nth xs k/\nth xs k<=m
def ZI(gs:List Int)(ps:List Qd)(f:F4)(k:Int):Int:=nR (Ve ps k).room (f.at k) (nth gs k)
def X9(gs:List Int)(ps:List Qd)(f:F4)(i j:Int):Int:=if j<i then f.at j+ZI gs ps f j else f.at j
def JF(gs:List Int)(ps:List Qd)(f:F4):F4:=yT (X9 gs ps f ps.length)
def WT(ps:List Qd)(b:F4)(k:Int):Int:=(b.at k*(Ve ps k).drift).tdiv 1000
def Vg(ps:List Qd)(b:F4)(i j:Int):Int:=b.at j-(if j<i then WT ps b j else 0)+Xb 0 i (fun m=>if(Ve ps m).into=j then WT ps b m else 0)
def dS(ps:List Qd)(b:F4):F4:=yT (Vg ps b ps.length)
def ZD(ps:List Qd)(b:F4)(j:Int):Int:=if(Ve ps j).into= -1 then WT ps b j else 0
def Ze(ts:List Int)(b:F4)(k:Int):Int:=if nth ts k<b.at k then nth ts k else b.at k
def R9(ts:List Int)(b:F4)(i j:Int):Int:=if j<i then b.at j-Ze ts b j else b.at j
def Ih(ts:List Int)(ps:List Qd)(b:F4):F4:=yT (R9 ts b ps.length)
def Q6(gs ts:List Int)(ps:List Qd)(f:F4):F4:=Ih ts ps (dS ps (JF gs ps f))
theorem bZ{g:Int->Int}{i:Int}(h0:0<=i)(h:i<4):Qm [g 0,g 1,g 2,g 3] i.toNat=g i:=by
 rcases bJ h0 h with rfl|rfl|rfl|rfl <;> rfl
theorem Nu{gs:List Int}{ps:List Qd}{f:F4}{i:Int}:X9 gs ps f i i=f.at i:=by
 unfold X9;rw[if_neg (by omega)]
theorem Hw{gs:List Int}{ps:List Qd}{f:F4}{i:Int}{j:Nat}:(if i.toNat=j then f.at i+ZI gs ps f i else X9 gs ps f i j)=X9 gs ps f (i+1) j\/i<0:=by
 by_cases h0:0<=i
 ·refine .inl ?_;unfold X9;by_cases h:i.toNat=j
  ·have e1:i=(j:Int):=by omega
   rw[if_pos h,if_pos (by omega),e1]
  ·rw[if_neg h];by_cases h2:(j:Int)<i
   ·rw[if_pos h2,if_pos (by omega)]
   ·rw[if_neg h2,if_neg (by omega)]
 ·exact .inr (by omega)
theorem jr{gs:List Int}{ps:List Qd}{f:F4}{i:Int}{j:Nat}(h0:0<=i):(if i.toNat=j then f.at i+ZI gs ps f i else X9 gs ps f i j)=X9 gs ps f (i+1) j:=Hw.resolve_right (by omega)
theorem HR{room s t:Int}{w:Int}(ht:t=w.tdiv 1000)(h:0<=t):(if(if room-s > 0 then room-s else 0)<t then(if room-s > 0 then room-s else 0)else t)=if room<=s then 0 else if t<room-s then t else room-s:=by
 by_cases h1:room<=s
 ·rw[if_pos h1,if_neg (show ¬room-s > 0 by omega)];by_cases h2:0<t
  ·rw[if_pos h2]
  ·rw[if_neg h2];omega
 ·rw[if_neg h1,if_pos (show room-s > 0 by omega)];by_cases h2:room-s<t
  ·rw[if_pos h2,if_neg (by omega)]
  ·by_cases h3:t<room-s
   ·rw[if_neg h2,if_pos h3]
   ·rw[if_neg h2,if_neg h3];omega
theorem j7{gs:List Int}{ps:List Qd}{f:F4}{i:Int}(hp:Jq ps)(hg:UR ps.length gs 2000)(hf:J6 f)(h0:0<=i)(h:i<ps.length):0<=ZI gs ps f i/\ZI gs ps f i<=1000000:=by
 have h1:=hp.2 i h0 h;have h2:=hg.2 i h0 h;have ha:=Uh hf h0 (by have:=hp.1;omega);have hm:=Po (a:=f.at i) (r:=nth gs i) (by omega) (by omega);unfold ZI nR;split
 ·omega
 ·split <;> omega
theorem Ro{ps:List Qd}{b:F4}{i j:Int}(h:0<=i):Vg ps b (i+1) j=Vg ps b i j-(if j=i then WT ps b i else 0)+(if(Ve ps i).into=j then WT ps b i else 0):=by
 unfold Vg;rw[X3 h];by_cases e:j=i
 ·subst e;rw[if_pos (show j<j+1 by omega),if_neg (show ¬j<j by omega),if_pos rfl];omega
 ·rw[if_neg e];by_cases e2:j<i
  ·rw[if_pos e2,if_pos (by omega)];omega
  ·rw[if_neg e2,if_neg (by omega)];omega
theorem ik{ps:List Qd}{b:F4}{j:Int}(h:0<=j):Vg ps b 0 j=b.at j:=by
 unfold Vg;rw[if_neg (by omega),VT (by omega)];omega
theorem MB{ts:List Int}{b:F4}{i:Int}:R9 ts b i i=b.at i:=by
 unfold R9;rw[if_neg (by omega)]
theorem je{ts:List Int}{b:F4}{i:Int}{j:Nat}(h0:0<=i):(if i.toNat=j then b.at i-Ze ts b i else R9 ts b i j)=R9 ts b (i+1) j:=by
 unfold R9;by_cases h:i.toNat=j
 ·have e1:i=(j:Int):=by omega
  rw[if_pos h,if_pos (by omega),e1]
 ·rw[if_neg h];by_cases h2:(j:Int)<i
  ·rw[if_pos h2,if_pos (by omega)]
  ·rw[if_neg h2,if_neg (by omega)]
theorem jx{ps:List Qd}{b:F4}{i:Int}{j:Nat}(h0:0<=i)(h:(Ve ps i).into= -1):(if i.toNat=j then Vg ps b i i-WT ps b i else Vg ps b i j)=Vg ps b (i+1) j:=by
 rw[Ro h0,h,if_neg (show ¬(-1:Int)=(j:Int)by omega)];by_cases h1:i.toNat=j
 ·have e1:i=(j:Int):=by omega
  rw[if_pos h1,if_pos (by omega),e1];omega
 ·rw[if_neg h1,if_neg (by omega)];omega
theorem jy{ps:List Qd}{b:F4}{i v:Int}{j:Nat}(h0:0<=i)(hv:(Ve ps i).into=v)(v0:0<=v)(hn:v≠i):(if v.toNat=j then Vg ps b i v+WT ps b i else if i.toNat=j then Vg ps b i i-WT ps b i else Vg ps b i j)=Vg ps b (i+1) j:=by
 rw[Ro h0,hv];by_cases h1:v.toNat=j
 ·have e1:v=(j:Int):=by omega
  rw[if_pos h1,if_neg (show ¬(j:Int)=i by omega),if_pos e1,e1];omega
 ·rw[if_neg h1,if_neg (show ¬v=(j:Int)by omega)];by_cases h2:i.toNat=j
  ·have e1:i=(j:Int):=by omega
   rw[if_pos h2,if_pos (by omega),e1];omega
  ·rw[if_neg h2,if_neg (by omega)];omega
theorem aF{ps:List Qd}{b:F4}{i:Int}(hp:Jq ps)(hf:J6 b)(h0:0<=i)(h:i<ps.length):0<=WT ps b i/\WT ps b i<=b.at i:=by
 have h1:=hp.2 i h0 h;have ha:=Uh hf h0 (by have:=hp.1;omega);have e0:0<=b.at i*(Ve ps i).drift:=Int.mul_nonneg ha.1 h1.2.1.1;have e1:b.at i*(Ve ps i).drift<=b.at i*1000:=Int.mul_le_mul_of_nonneg_left h1.2.1.2 ha.1;have e2:(b.at i*(Ve ps i).drift).tdiv 1000=(b.at i*(Ve ps i).drift) / 1000:=Int.tdiv_eq_ediv_of_nonneg e0;unfold WT;rw[e2];omega
theorem Tt{ps:List Qd}{b:F4}{i j:Int}(hp:Jq ps)(hf:J6 b)(h0:0<=i)(h:i<=ps.length)(j0:0<=j)(j1:j<4):0<=Vg ps b i j/\Vg ps b i j<=500000000000:=by
 have ha:=Uh hf j0 j1;have hs:=UC (g:=fun m=>if(Ve ps m).into=j then WT ps b m else 0) (K:=100000000000) i.toNat fun m m0 m1=>by
  have h9:=hp.1;have:=aF hp hf (i:=m) m0 (by omega);have hm:=Uh hf (i:=m) m0 (by omega);split <;> omega
 rw[show((i.toNat:Nat):Int)=i by omega]at hs;have h4:=hp.1;unfold Vg;split
 ·have:=aF hp hf j0 (by omega);omega
 ·omega
theorem bS{ts:List Int}{b:F4}{n:Nat}{m i:Int}(ht:UR n ts m)(hf:J6 b)(h0:0<=i)(h:i<n)(h4:n<=4):0<=Ze ts b i/\Ze ts b i<=b.at i/\Ze ts b i<=m:=by
 have ha:=Uh hf h0 (by omega);have h1:=ht.2 i h0 h;unfold Ze;split <;> omega
theorem Bs{gs:List Int}{ps:List Qd}{f:F4}{i j:Int}(hp:Jq ps)(hg:UR ps.length gs 2000)(hf:J6 f)(h:i<=ps.length)(j0:0<=j)(j1:j<4):0<=X9 gs ps f i j/\X9 gs ps f i j<=f.at j+1000000:=by
 have ha:=Uh hf j0 j1;unfold X9;split
 ·have:=j7 hp hg hf j0 (show j<ps.length by omega);omega
 ·omega
theorem Hu{gs:List Int}{ps:List Qd}{f:F4}(hp:Jq ps)(hg:UR ps.length gs 2000)(hf:J6 f):(0<=(JF gs ps f).a/\0<=(JF gs ps f).b/\0<=(JF gs ps f).c/\0<=(JF gs ps f).d)/\(JF gs ps f).sum<=f.sum+4000000:=by
 have h0:=Bs hp hg hf (Int.le_refl _) (j:=0) (by omega) (by omega);have h1:=Bs hp hg hf (Int.le_refl _) (j:=1) (by omega) (by omega);have h2:=Bs hp hg hf (Int.le_refl _) (j:=2) (by omega) (by omega);have h3:=Bs hp hg hf (Int.le_refl _) (j:=3) (by omega) (by omega);refine⟨⟨h0.1,h1.1,h2.1,h3.1⟩, ?_⟩;show X9 gs ps f ps.length 0+X9 gs ps f ps.length 1+X9 gs ps f ps.length 2+X9 gs ps f ps.length 3<=f.a+f.b+f.c+f.d+4000000;have e0:f.at 0=f.a:=rfl;have e1:f.at 1=f.b:=rfl;have e2:f.at 2=f.c:=rfl;have e3:f.at 3=f.d:=rfl;omega
def NC(ps:List Qd)(b:F4)(i:Int):Int:=Vg ps b i 0+Vg ps b i 1+Vg ps b i 2+Vg ps b i 3
theorem HD{ps:List Qd}{b:F4}{i:Int}(hp:Jq ps)(h0:0<=i)(h:i<ps.length):NC ps b (i+1)=NC ps b i-ZD ps b i:=by
 have h1:=hp.1;have h2:=(hp.2 i h0 h).2.2.1;unfold NC ZD;rw[Ro h0,Ro h0,Ro h0,Ro h0];simp only[Yx,Bool.or_eq_true,decide_eq_true_iff,VL]at h2;generalize (Ve ps i).into=v at *;generalize WT ps b i=w at *;have hi:=bJ h0 (show i<4 by omega);by_cases hv:v= -1
 ·subst hv;rcases hi with rfl|rfl|rfl|rfl <;> simp <;> omega
 ·have ZY:=bJ (show 0<=v by omega) (show v<4 by omega);rcases hi with rfl|rfl|rfl|rfl <;> rcases ZY with rfl|rfl|rfl|rfl <;> simp <;> omega
theorem Bu{ps:List Qd}{b:F4}(hp:Jq ps):∀k:Nat,k<=ps.length->NC ps b k=b.sum-Xb 0 k (ZD ps b)
 |0,_=>by
  rw[show((0:Nat):Int)=0 from rfl,VT (by omega)];unfold NC;rw[ik (by omega),ik (by omega),ik (by omega),ik (by omega)];have e:b.sum=b.at 0+b.at 1+b.at 2+b.at 3:=rfl;omega
 |k+1,h=>by
  rw[show((k+1:Nat):Int)=(k:Int)+1 by omega,HD hp (by omega) (by omega),Bu hp k (by omega),X3 (by omega)];omega
end Go.Proofs.Ytncjjangllkokaa
