/- Reef: a season of fewest fish, or of most. -/
import Derived.Test.YtncjjangllkokaaZRT16
import Derived.Test.YtncjjangllkokaaZRT11
set_option linter.all false
namespace Go.Proofs.Ytncjjangllkokaa
open Go Go.CE Go.RowKit
noncomputable section
set_option maxRecDepth 100000
def bL(s:Span):Int:=s.lo
def oF(s:Span):Int:=s.hi
def U1(rf:Qe):List Int:=(rf.Qb.map (Xw rf.miss)).map bL
def N8(rf:Qe):List Int:=(rf.Qb.map (Xw rf.miss)).map oF
def Jc(rf:Qe):List Int:=(rf.Qb.map Xl).map bL
def Mv(rf:Qe):List Int:=(rf.Qb.map Xl).map oF
def Ip(rf:Qe)(p:Int):List Int:=(Xk rf.Qb p).map bL
def JD(rf:Qe)(p:Int):List Int:=(Xk rf.Qb p).map oF
theorem Wn{α:Type}[Inhabited α]{l:List α}{f:α->Span}{g:Span->Int}{k:Int}(h0:0<=k)(h:k<l.length):nth ((l.map f).map g) k=g (f (l.getD k.toNat default)):=by
 obtain⟨m,rfl⟩:∃m:Nat,k=m:=⟨k.toNat,by omega⟩
 have hm:m<l.length:=by omega
 show((l.map f).map g).getD ((m:Int).toNat) default=_;simp[List.getD_eq_getElem?_getD,hm]
theorem qP{rf:Qe}(hr:XT rf=true):UR rf.Qb.length (Jc rf) 2000/\UR rf.Qb.length (Mv rf) 2000:=by
 refine⟨⟨by simp[Jc],fun k h0 h1=> ?_⟩,⟨by simp[Mv],fun k h0 h1=> ?_⟩⟩
 ·have hp:=Xx ((Q8 hr).2 k h0 h1).1;unfold Jc;rw[Wn h0 h1];simp only[Xl,bL];omega
 ·have hp:=Xx ((Q8 hr).2 k h0 h1).1;unfold Mv;rw[Wn h0 h1];simp only[Xl,oF];omega
theorem KC{l:List Span}{g:Span->Int}{k:Int}(h0:0<=k)(h:k<l.length):nth (l.map g) k=g (l.getD k.toNat default):=by
 obtain⟨m,rfl⟩:∃m:Nat,k=m:=⟨k.toNat,by omega⟩
 have hm:m<l.length:=by omega
 show(l.map g).getD ((m:Int).toNat) default=_;simp[List.getD_eq_getElem?_getD,hm]
theorem pk{rf:Qe}(hr:XT rf=true)(p:Int):UR rf.Qb.length (Ip rf p) 1000000/\UR rf.Qb.length (JD rf p) 1000000:=by
 refine⟨⟨by simp[Ip,Wg],fun k h0 h1=> ?_⟩,⟨by simp[JD,Wg],fun k h0 h1=> ?_⟩⟩
 ·have hp:=TF hr (p:=p) h0 h1;unfold Ip;rw[KC h0 (by rw[Wg];exact h1),KO h0 h1];simp only[bL];omega
 ·have hp:=TF hr (p:=p) h0 h1;unfold JD;rw[KC h0 (by rw[Wg];exact h1),KO h0 h1];simp only[oF];omega
def Rb(xs:List Span)(i:Int)(ys:List Int):List Value:=[Value.func (Fn.func 76) #[] #[],.slice (some {block:=2,off:=0}) xs.length 1,Qt 1 (QE xs.length (Qg Xg xs)),.int .i64 (↑xs.length:Int),.int .i64 i]
def Ke(xs:List Span)(i:Int)(ys:List Int):List Obj:=[.cells (Qg Q9 ys) 3 (0,0)]
def Rc:List Item:=([.code [1,1,0,1,0,0],.inLoop [1,1,0,1,0,0],.inBlock 0,.code [1,1,1]]).map (it (QT YP 97))
def Dc(B:Lo)(c0:CF)(xs:List Span)(i:Int)(ys:List Int):Prop:=∃dJ:Nat->Value,(∀t,X6 (dJ t))/\GoE YP B c0 XV 1 (QJ 97 26 (([1,5,11,12,13]:List Nat).zip (Rb xs i ys)) dJ Rc) (QH (Ke xs i ys)) (2+(Ke xs i ys).length) []
def aw(xs:List Span)(i:Int):=(Span.lo (xs.getD i.toNat default))
def CX(xs:List Span)(i:Int):Array Value:=#[.int .i64 (aw xs i),.int .i64 (Span.hi (xs.getD i.toNat default))]
def CW(xs:List Span)(i:Int)(ys:List Int):Array Value:=(Qg Q9 (List.set ys i.toNat (aw xs i)))
def qu(xs:List Span):Array Value:=(Qg (U0 [.int .i64 0]) (List.replicate xs.length ()))
theorem Da(B:Lo)(xs:List Span)(i:Int)(ys:List Int)(Qn:Nat->Value):let e:=CX xs i;let c:=CW xs i ys;let a:=Int.toNat i;let d:=List.set ys a (aw xs i);let b:=Span.lo (xs.getD a default);let f:=.int .i64 b;landM (Qq YP (Q3 YP) J0 B 13 1 (QJ 97 26 (([1,5,11,12,13]:List Nat).zip (Rb xs i ys)) Qn Rc) (QH (Ke xs i ys)) (2+(Ke xs i ys).length)
 [(0,Wo),(2,Qk.tidx a e),(11,Qk.pure (.int .i64 (aw xs i)) []),(12,Qk.ZH (Hint.idx a)),(13,Qk.ZH (Hint.st c)),(14,VE (i+1))] 0 [] []) [1,5,11,12,13] [(2,KS.cells [] c)] []=some ⟨97,26,Rc,[],.run,none,Rb xs (i+1) d,Ke xs (i+1) d,
 [XA 1 [] c c,wq (i+1)=i+1,0+Int.toNat i*1+TypeInfo.size Try.t3<=Array.size (Qg Q9 ys)/\splice (Qg Q9 ys) (0+Int.toNat i*1) (Value.cells (X7 {len:=16000,tr:=Tri.set 14 (Tri.set 14 Tri.lf 22 f) 23 (.pointer (some {block:=2,off:=0+Int.toNat i*1}))} 22))=Qg Q9 (List.set ys a b),i=(↑a:Int)/\Int.toNat i<List.length xs,Qz []/\Qx YP J0 76 #[.agg e] f,Ue i xs.length (Qg Xg xs) Try.t38.size e,XU i (↑xs.length:Int)=true]⟩:=by intro e c a d b f;kernel_rfl
theorem CZ(B:Lo)(xs:List Span)(i:Int)(ys:List Int)(Qn:Nat->Value):let a:=Fz.cs {k:=2,rs:=[],cs:=Qg Q9 ys};QQ (Qq YP (Q3 YP) J0 B 9 1 (QJ 97 26 (([1,5,11,12,13]:List Nat).zip (Rb xs i ys)) Qn Rc) (QH (Ke xs i ys)) (2+(Ke xs i ys).length)
 [(0,W8)] 0 [] []) [{k:=2,rs:=[],cs:=Qg Q9 ys}]=some (QE xs.length a,
 [Zu (Fz.rs {k:=2,rs:=[],cs:=Qg Q9 ys}) (Qg Q9 ys) a,XU i (↑xs.length:Int)=false]):=by intro a;kernel_rfl
theorem CY(B:Lo)(xs:List Span):let a:=List.length xs;let c:=List.replicate a 0;let b:=X7 {len:=16000,tr:=Tri.set 14 Tri.lf 9 (.int .i64 (↑a:Int))} 9;landM (Qq YP (Q3 YP) J0 B 9 1 (Qp YP 97 26 (([KQ xs,.func (.func 76) #[] #[]]).map (Q2 0 4))) XV 1
 [(3,Qk.ZH (Hint.mk a (qu xs)))] 0 [] []) [1,5,11,12,13] [(1,KS.rows [] [] [] (Qg Q9 c))] []=some ⟨97,26,Rc,[],.run,none,Rb xs (0) c,Ke xs (0) c,
 [XX 1 [] [] [] (qu xs) (Qg Q9 c),Rw YP 25 b b=some (3,Qg (U0 [.int .i64 0]) (List.replicate a ()),List.length xs,TypeInfo.size Try.t3)]⟩:=by intro a c b;kernel_rfl
set_option maxHeartbeats 4000000 in
theorem Db(xs:List Span)(hn:xs.length<=1000000){B:Lo}(hJ:∀w,B.has w->J0 w){c0:CF}:∀m:Nat,(∀(i:Int) (ys:List Int),(xs.length-i.toNat)=m->∀(h0:0<=i) (hy:ys=Pe bL 0 xs i),Dc B c0 xs i ys->EndsT YP B c0 (Xr (xs.map bL))):=by
 intro m0;induction m0 using Nat.strongRecOn with
 |_ m0 ih0=>
  intro i ys hm0 h0 hy ⟨Qn,Ur,XM⟩;have hyl:ys.length=xs.length:=by rw[hy];exact Rq
  by_cases q0:(i:Int)<((↑xs.length:Int))
  ·exact((ih0 _ (by omega)) (i+1) (List.set ys i.toNat (Span.lo (xs.getD i.toNat default))) rfl (by omega) (by(subst hy;exact Rp (f:=bL) h0 q0))
    (XM.landM okF hJ Qf (Da B xs i ys Qn)
    ⟨(QK (QN (fun x=>List.all_eq_true.1 (by rfl)))),⟨(Xy (by omega) (by omega)),⟨(by exact P6 (z:=1) (k:=Int.toNat i) (fun _=>rfl) (by first|omega|(rw[List.length_set];omega)|(rw[List.length_replicate];omega)) rfl rfl),⟨⟨by omega,by omega⟩,⟨⟨trivial,OE (Span.lo (xs.getD i.toNat default)) (Span.hi (xs.getD i.toNat default))⟩,⟨⟨by omega,by omega,(Q4 (z:=2) (fun _=>rfl) (by omega))⟩,⟨(XF q0),trivial⟩⟩⟩⟩⟩⟩⟩ (by kernel_rfl) (by kernel_rfl))).cast (by rfl)
  ·exact(GoE.endsT okF hJ Qf XM (CZ B xs i ys Qn)
    ⟨(Zd (fun x=>List.all_eq_true.1 (by rfl))),⟨(XO (Int.not_lt.1 q0)),trivial⟩⟩).cast (by exact cb (hy.trans (Rt (by omega))) (by simp))
set_option maxHeartbeats 4000000 in
theorem G0(xs:List Span)(hn:xs.length<=1000000){B:Lo}(hJ:∀w,B.has w->J0 w):EndsT YP B (Qp YP 97 26 (([KQ xs,.func (.func 76) #[] #[]]).map (Q2 0 4))) (Xr (xs.map bL)):=by
 exact((Db xs hn hJ _) (0) (List.replicate xs.length 0) rfl (by omega) (by exact dL)
  (GoE.start.landM okF hJ Qf (CY B xs)
  ⟨(by exact(Uj (by exact⟨(.simple rfl),trivial⟩) _)),⟨(fN (bytes:=8) (by kernel_rfl) (by omega) (by omega) (by omega)),trivial⟩⟩ (by kernel_rfl) (by kernel_rfl))).cast (by rfl)
theorem G3(xs:List Span)(hn:xs.length<=1000000):Qx YP J0 97 #[KQ xs,.func (.func 76) #[] #[]] (Xr (xs.map bL)):=
 Xn (ts:=[KQ xs,.func (.func 76) #[] #[]]) Za (c0:=Qp YP 97 26 (([KQ xs,.func (.func 76) #[] #[]]).map (Q2 0 4))) (by kernel_rfl) (by kernel_rfl) fun B hJ=>G0 xs hn hJ
def Rd(xs:List Span)(i:Int)(ys:List Int):List Value:=[Value.func (Fn.func 77) #[] #[],.slice (some {block:=2,off:=0}) xs.length 1,Qt 1 (QE xs.length (Qg Xg xs)),.int .i64 (↑xs.length:Int),.int .i64 i]
def Kf(xs:List Span)(i:Int)(ys:List Int):List Obj:=[.cells (Qg Q9 ys) 3 (0,0)]
def Re:List Item:=([.code [1,1,0,1,0,0],.inLoop [1,1,0,1,0,0],.inBlock 0,.code [1,1,1]]).map (it (QT YP 97))
def Dj(B:Lo)(c0:CF)(xs:List Span)(i:Int)(ys:List Int):Prop:=∃dJ:Nat->Value,(∀t,X6 (dJ t))/\GoE YP B c0 XV 1 (QJ 97 26 (([1,5,11,12,13]:List Nat).zip (Rd xs i ys)) dJ Re) (QH (Kf xs i ys)) (2+(Kf xs i ys).length) []
def ax(xs:List Span)(i:Int):=(Span.hi (xs.getD i.toNat default))
def De(xs:List Span)(i:Int):Array Value:=#[.int .i64 (Span.lo (xs.getD i.toNat default)),.int .i64 (ax xs i)]
def Dd(xs:List Span)(i:Int)(ys:List Int):Array Value:=(Qg Q9 (List.set ys i.toNat (ax xs i)))
def qv(xs:List Span):Array Value:=(Qg (U0 [.int .i64 0]) (List.replicate xs.length ()))
theorem Dh(B:Lo)(xs:List Span)(i:Int)(ys:List Int)(Qn:Nat->Value):let e:=De xs i;let c:=Dd xs i ys;let a:=Int.toNat i;let d:=List.set ys a (ax xs i);let b:=Span.hi (xs.getD a default);let f:=.int .i64 b;landM (Qq YP (Q3 YP) J0 B 13 1 (QJ 97 26 (([1,5,11,12,13]:List Nat).zip (Rd xs i ys)) Qn Re) (QH (Kf xs i ys)) (2+(Kf xs i ys).length)
 [(0,Wo),(2,Qk.tidx a e),(11,Qk.pure (.int .i64 (ax xs i)) []),(12,Qk.ZH (Hint.idx a)),(13,Qk.ZH (Hint.st c)),(14,VE (i+1))] 0 [] []) [1,5,11,12,13] [(2,KS.cells [] c)] []=some ⟨97,26,Re,[],.run,none,Rd xs (i+1) d,Kf xs (i+1) d,
 [XA 1 [] c c,wq (i+1)=i+1,0+Int.toNat i*1+TypeInfo.size Try.t3<=Array.size (Qg Q9 ys)/\splice (Qg Q9 ys) (0+Int.toNat i*1) (Value.cells (X7 {len:=16000,tr:=Tri.set 14 (Tri.set 14 Tri.lf 22 f) 23 (.pointer (some {block:=2,off:=0+Int.toNat i*1}))} 22))=Qg Q9 (List.set ys a b),i=(↑a:Int)/\Int.toNat i<List.length xs,Qz []/\Qx YP J0 77 #[.agg e] f,Ue i xs.length (Qg Xg xs) Try.t38.size e,XU i (↑xs.length:Int)=true]⟩:=by intro e c a d b f;kernel_rfl
theorem Dg(B:Lo)(xs:List Span)(i:Int)(ys:List Int)(Qn:Nat->Value):let a:=Fz.cs {k:=2,rs:=[],cs:=Qg Q9 ys};QQ (Qq YP (Q3 YP) J0 B 9 1 (QJ 97 26 (([1,5,11,12,13]:List Nat).zip (Rd xs i ys)) Qn Re) (QH (Kf xs i ys)) (2+(Kf xs i ys).length)
 [(0,W8)] 0 [] []) [{k:=2,rs:=[],cs:=Qg Q9 ys}]=some (QE xs.length a,
 [Zu (Fz.rs {k:=2,rs:=[],cs:=Qg Q9 ys}) (Qg Q9 ys) a,XU i (↑xs.length:Int)=false]):=by intro a;kernel_rfl
theorem Df(B:Lo)(xs:List Span):let a:=List.length xs;let c:=List.replicate a 0;let b:=X7 {len:=16000,tr:=Tri.set 14 Tri.lf 9 (.int .i64 (↑a:Int))} 9;landM (Qq YP (Q3 YP) J0 B 9 1 (Qp YP 97 26 (([KQ xs,.func (.func 77) #[] #[]]).map (Q2 0 4))) XV 1
 [(3,Qk.ZH (Hint.mk a (qv xs)))] 0 [] []) [1,5,11,12,13] [(1,KS.rows [] [] [] (Qg Q9 c))] []=some ⟨97,26,Re,[],.run,none,Rd xs (0) c,Kf xs (0) c,
 [XX 1 [] [] [] (qv xs) (Qg Q9 c),Rw YP 25 b b=some (3,Qg (U0 [.int .i64 0]) (List.replicate a ()),List.length xs,TypeInfo.size Try.t3)]⟩:=by intro a c b;kernel_rfl
set_option maxHeartbeats 4000000 in
theorem Di(xs:List Span)(hn:xs.length<=1000000){B:Lo}(hJ:∀w,B.has w->J0 w){c0:CF}:∀m:Nat,(∀(i:Int) (ys:List Int),(xs.length-i.toNat)=m->∀(h0:0<=i) (hy:ys=Pe oF 0 xs i),Dj B c0 xs i ys->EndsT YP B c0 (Xr (xs.map oF))):=by
 intro m0;induction m0 using Nat.strongRecOn with
 |_ m0 ih0=>
  intro i ys hm0 h0 hy ⟨Qn,Ur,XM⟩;have hyl:ys.length=xs.length:=by rw[hy];exact Rq
  by_cases q0:(i:Int)<((↑xs.length:Int))
  ·exact((ih0 _ (by omega)) (i+1) (List.set ys i.toNat (Span.hi (xs.getD i.toNat default))) rfl (by omega) (by(subst hy;exact Rp (f:=oF) h0 q0))
    (XM.landM okF hJ Qf (Dh B xs i ys Qn)
    ⟨(QK (QN (fun x=>List.all_eq_true.1 (by rfl)))),⟨(Xy (by omega) (by omega)),⟨(by exact P6 (z:=1) (k:=Int.toNat i) (fun _=>rfl) (by first|omega|(rw[List.length_set];omega)|(rw[List.length_replicate];omega)) rfl rfl),⟨⟨by omega,by omega⟩,⟨⟨trivial,Od (Span.lo (xs.getD i.toNat default)) (Span.hi (xs.getD i.toNat default))⟩,⟨⟨by omega,by omega,(Q4 (z:=2) (fun _=>rfl) (by omega))⟩,⟨(XF q0),trivial⟩⟩⟩⟩⟩⟩⟩ (by kernel_rfl) (by kernel_rfl))).cast (by rfl)
  ·exact(GoE.endsT okF hJ Qf XM (Dg B xs i ys Qn)
    ⟨(Zd (fun x=>List.all_eq_true.1 (by rfl))),⟨(XO (Int.not_lt.1 q0)),trivial⟩⟩).cast (by exact cb (hy.trans (Rt (by omega))) (by simp))
set_option maxHeartbeats 4000000 in
theorem G4(xs:List Span)(hn:xs.length<=1000000){B:Lo}(hJ:∀w,B.has w->J0 w):EndsT YP B (Qp YP 97 26 (([KQ xs,.func (.func 77) #[] #[]]).map (Q2 0 4))) (Xr (xs.map oF)):=by
 exact((Di xs hn hJ _) (0) (List.replicate xs.length 0) rfl (by omega) (by exact dL)
  (GoE.start.landM okF hJ Qf (Df B xs)
  ⟨(by exact(Uj (by exact⟨(.simple rfl),trivial⟩) _)),⟨(fN (bytes:=8) (by kernel_rfl) (by omega) (by omega) (by omega)),trivial⟩⟩ (by kernel_rfl) (by kernel_rfl))).cast (by rfl)
theorem Ng(xs:List Span)(hn:xs.length<=1000000):Qx YP J0 97 #[KQ xs,.func (.func 77) #[] #[]] (Xr (xs.map oF)):=
 Xn (ts:=[KQ xs,.func (.func 77) #[] #[]]) Za (c0:=Qp YP 97 26 (([KQ xs,.func (.func 77) #[] #[]]).map (Q2 0 4))) (by kernel_rfl) (by kernel_rfl) fun B hJ=>G4 xs hn hJ
def KA(rf:Qe):=(List.map (Xw rf.miss) rf.Qb)
def zH(rf:Qe):Array Value:=#[.int .i64 (List.getD (List.map bL (KA rf)) 0 default),.int .i64 (List.getD (List.map bL (KA rf)) 1 default),.int .i64 (List.getD (List.map bL (KA rf)) 2 default),.int .i64 (List.getD (List.map bL (KA rf)) 3 default)]
def zG(rf:Qe):Array Value:=(Qg Q9 (List.map bL (KA rf)))
def lP  :Array Value:=#[.int .i64 0,.int .i64 0,.int .i64 0,.int .i64 0]
theorem zI(B:Lo)(rf:Qe)(Qa:List Int):let g:=zH rf;let f:=KA rf;let e:=rf.Qb;let d:=zG rf;let a:=List.map (Xw rf.miss) e;let c:=List.length (List.map bL a);let b:=Array.map (ZA 5) (Array.extract d 0 (Nat.min c 4*TypeInfo.size Try.t3));QQ (Qq YP (Q3 YP) J0 B 10 1 (Qp YP 75 13 (([.agg (QL rf Qa).toArray,.func (.func 76) #[] #[]]).map (Q2 0 4))) XV 1
 [(5,Qk.pure (QE f.length (Qg Xg f)) []),(7,Qk.pure (QE (List.length (List.map bL f)) d) []),(8,Qk.tcpy g)] 0 [] []) []=some (.agg g,
 [0<List.length (List.map bL a)/\0+Nat.min c 4*TypeInfo.size Try.t3<=Array.size lP/\Nat.min c 4*TypeInfo.size Try.t3<=Array.size d/\(Array.all d fun v=>simple v || W6 v)=true/\ones b=true/\splice lP 0 b=g,Qz []/\Qx YP J0 97 #[QE a.length (Qg Xg a),Value.func (Fn.func 76) #[] #[]] (QE c d),Qz []/\Qx YP J0 82 #[.agg #[QE e.length (Qg Qh e),.int .i64 rf.miss,.int .i64 rf.seasons,.int .i64 (Qa.getD 0 0),.int .i64 (Qa.getD 1 0),.int .i64 (Qa.getD 2 0),.int .i64 (Qa.getD 3 0)]] (QE a.length (Qg Xg a))]):=by intro g f e d a c b;kernel_rfl
set_option maxHeartbeats 4000000 in
theorem CB(rf:Qe)(Qa:List Int)(hr:XT rf=true){B:Lo}(hJ:∀w,B.has w->J0 w):EndsT YP B (Qp YP 75 13 (([.agg (QL rf Qa).toArray,.func (.func 76) #[] #[]]).map (Q2 0 4))) (.agg #[.int .i64 ((U1 rf).getD 0 default),.int .i64 ((U1 rf).getD 1 default),.int .i64 ((U1 rf).getD 2 default),.int .i64 ((U1 rf).getD 3 default)]):=by
 have Zm:=Qy (Q8 hr).1;have hle1:((rf.Qb.map (Xw rf.miss)).map bL).length=rf.Qb.length:=by simp
 have hle2:((rf.Qb.map (Xw rf.miss)).map oF).length=rf.Qb.length:=by simp
 have hle3:(rf.Qb.map (Xw rf.miss)).length=rf.Qb.length:=by simp
 have hcc:∀k:Int,0<=k->k<rf.Qb.length->0<=(rf.Qb.getD k.toNat default).count/\(rf.Qb.getD k.toNat default).count<=1000000:=fun k h0 h1=>(Xx ((Q8 hr).2 k h0 h1).1).1
 exact(GoE.endsT okF hJ Qf GoE.start (zI B rf Qa)
  ⟨(oh (fun _=>rfl) rfl (by omega) (by omega) rfl (YL rfl) rfl),⟨⟨trivial,G3 (List.map (Xw rf.miss) rf.Qb) (by omega)⟩,⟨⟨trivial,Bg (rf) (Qa) (by omega) (by omega) (by with_reducible assumption)⟩,trivial⟩⟩⟩).cast (by rfl)
theorem IQ(rf:Qe)(Qa:List Int)(hr:XT rf=true):Qx YP J0 75 #[.agg (QL rf Qa).toArray,.func (.func 76) #[] #[]] (.agg #[.int .i64 ((U1 rf).getD 0 default),.int .i64 ((U1 rf).getD 1 default),.int .i64 ((U1 rf).getD 2 default),.int .i64 ((U1 rf).getD 3 default)]):=
 Xn (ts:=[.agg (QL rf Qa).toArray,.func (.func 76) #[] #[]]) Za (c0:=Qp YP 75 13 (([.agg (QL rf Qa).toArray,.func (.func 76) #[] #[]]).map (Q2 0 4))) (by kernel_rfl) (by kernel_rfl) fun B hJ=>CB rf Qa hr hJ
def Jt(rf:Qe)(Qa:List Int)(fa fb fc fd k:Int):Qo:=[(3,Obj.cells #[.int .i64 0,.int .i64 0,.int .i64 0,.int .i64 0] 111),(2,Obj.cells #[.int .i64 fa,.int .i64 fb,.int .i64 fc,.int .i64 fd] 111),(1,Obj.cells #[Qt 0 (QE rf.Qb.length (Qg Qh rf.Qb)),.int .i64 rf.miss,.int .i64 rf.seasons,.int .i64 (Qa.getD 0 0),.int .i64 (Qa.getD 1 0),.int .i64 (Qa.getD 2 0),.int .i64 (Qa.getD 3 0)] 84),(0,Obj.coro none)]
def RU(rf:Qe)(Qa:List Int)(fa fb fc fd k:Int):CF:=⟨98,ofList 28 [.agg #[Qt 0 (QE rf.Qb.length (Qg Qh rf.Qb)),.int .i64 rf.miss,.int .i64 rf.seasons,.int .i64 (Qa.getD 0 0),.int .i64 (Qa.getD 1 0),.int .i64 (Qa.getD 2 0),.int .i64 (Qa.getD 3 0)],.agg #[.int .i64 fa,.int .i64 fb,.int .i64 fc,.int .i64 fd],.int .i64 k,Value.func (Fn.func 76) #[] #[],Value.func (Fn.func 77) #[] #[]],[Item.code (QT YP 98)],[],.run,none⟩
def lU(rf:Qe)(Qa:List Int)(k:Int):=(List.map oF (Xk rf.Qb (Qa.getD k.toNat 0)))
def lT(rf:Qe):=(List.map bL (List.map Xl rf.Qb))
def lV(rf:Qe)(Qa:List Int)(fa fb fc fd k:Int):Array Value:=let e:=Q6 (lT rf) (lU rf Qa k) rf.Qb {a:=fa,b:=fb,c:=fc,d:=fd};#[.int .i64 e.a,.int .i64 e.b,.int .i64 e.c,.int .i64 e.d]
def lS(rf:Qe)(Qa:List Int):Array Value:=#[QE rf.Qb.length (Qg Qh rf.Qb),.int .i64 rf.miss,.int .i64 rf.seasons,.int .i64 (Qa.getD 0 0),.int .i64 (Qa.getD 1 0),.int .i64 (Qa.getD 2 0),.int .i64 (Qa.getD 3 0)]
def lR(rf:Qe)(Qa:List Int)(k:Int):Value:=(QE (List.length (Xk rf.Qb (Qa.getD k.toNat 0))) (Qg Xg (Xk rf.Qb (Qa.getD k.toNat 0))))
def lQ(rf:Qe):Value:=(QE (List.length (List.map Xl rf.Qb)) (Qg Xg (List.map Xl rf.Qb)))
theorem zK(B:Lo)(rf:Qe)(Qa:List Int)(fa fb fc fd k:Int):let h:=rf.miss;let g:=rf.seasons;let f:=lT rf;let d:=lU rf Qa k;let c:=rf.Qb;let e:=List.map Xl c;let i:=List.map bL e;let b:=Value.slice none 0 0;let a:=Xk c (Qa.getD k.toNat 0);let j:=List.map oF a;CE.finK 4 (Qq YP (Q3 YP) J0 B 10 4 (RU rf Qa fa fb fc fd k) (Jt rf Qa fa fb fc fd k) 4
 [(10,Qk.pure (lQ rf) []),(12,Qk.pure (QE f.length (Qg Q9 f)) []),(15,Qk.pure (lR rf Qa k) []),(17,Qk.pure (QE d.length (Qg Q9 d)) []),(18,Qk.wri [7] [9,11,0] [false] [] (cC c h g fa fb fc fd b b f d 0 0 0 0 0) (cB c h g fa fb fc fd b b f d 0 0 0 0 0) (cD c h g fa fb fc fd b b f d 0 0 0 0 0))] 0 [] []) [] [] []=some (OO.ret (.agg (lV rf Qa fa fb fc fd k)),[],[],
 [Qz []/\rE c h g (fa) (fb) (fc) (fd) b b i j (0) (0) (0) (0) (0),Qz []/\Qx YP J0 97 #[QE a.length (Qg Xg a),Value.func (Fn.func 77) #[] #[]] (QE j.length (Qg Q9 j)),Qz []/\Qx YP J0 84 #[.agg (lS rf Qa),.int .i64 k] (lR rf Qa k),Qz []/\Qx YP J0 97 #[QE e.length (Qg Xg e),Value.func (Fn.func 76) #[] #[]] (QE i.length (Qg Q9 i)),Qz []/\Qx YP J0 83 #[.agg (lS rf Qa)] (lQ rf)]):=by intro h g f d c e i b a j;kernel_rfl
theorem zJ(B:Lo)(rf:Qe)(Qa:List Int)(fa fb fc fd k:Int):let a:=lV rf Qa fa fb fc fd k;QQ (Qq YP (Q3 YP) J0 B 6 1 (Qp YP 78 11 (([.agg (QL rf Qa).toArray,.agg #[.int .i64 fa,.int .i64 fb,.int .i64 fc,.int .i64 fd],.int .i64 k]).map (Q2 0 4))) XV 1
 [(6,Qk.call (List.range 4) (OO.ret (.agg a)) ([]++(4,Xa)::QU 5 []) 5 [])] 0 [] []) []=some (.agg a,
 [FJ YP B (RU rf Qa fa fb fc fd k) (Jt rf Qa fa fb fc fd k) 4 (OO.ret (.agg a)) (([]++((4,Xa)::QU (4+1) []))++Jt rf Qa fa fb fc fd k) 5 (List.range 4) []]):=by intro a;kernel_rfl
set_option maxHeartbeats 4000000 in
theorem CC(rf:Qe)(Qa:List Int)(fa fb fc fd k:Int)(hr:XT rf=true)(hl:Qa.length<=4)(hp:∀j:Nat,0<=Qa.getD j 0/\Qa.getD j 0<=1000000)(k0:0<=k)(k1:k<4)(hf:J6 ⟨fa,fb,fc,fd⟩)(hs:F4.sum ⟨fa,fb,fc,fd⟩<=10000000000){B:Lo}(hJ:∀w,B.has w->J0 w):EndsT YP B (Qp YP 78 11 (([.agg (QL rf Qa).toArray,.agg #[.int .i64 fa,.int .i64 fb,.int .i64 fc,.int .i64 fd],.int .i64 k]).map (Q2 0 4))) (.agg #[.int .i64 (Q6 (Jc rf) (JD rf (Qa.getD k.toNat 0)) rf.Qb ⟨fa,fb,fc,fd⟩).a,.int .i64 (Q6 (Jc rf) (JD rf (Qa.getD k.toNat 0)) rf.Qb ⟨fa,fb,fc,fd⟩).b,.int .i64 (Q6 (Jc rf) (JD rf (Qa.getD k.toNat 0)) rf.Qb ⟨fa,fb,fc,fd⟩).c,.int .i64 (Q6 (Jc rf) (JD rf (Qa.getD k.toNat 0)) rf.Qb ⟨fa,fb,fc,fd⟩).d]):=by
 have Zm:=Qy (Q8 hr).1;have hpc:=zy hr;have hg1:UR rf.Qb.length ((rf.Qb.map Xl).map bL) 2000:=(qP hr).1;have ht1:UR rf.Qb.length ((Xk rf.Qb (Qa.getD k.toNat 0)).map oF) 1000000:=(pk hr (Qa.getD k.toNat 0)).2;have hle1:(Xk rf.Qb (Qa.getD k.toNat 0)).length=rf.Qb.length:=Wg;have hle2:(rf.Qb.map Xl).length=rf.Qb.length:=by simp
 have rj0:FJ YP B (RU rf Qa fa fb fc fd k) (Jt rf Qa fa fb fc fd k) 4 (OO.ret (.agg #[.int .i64 (F4.a (Q6 (List.map bL (List.map Xl rf.Qb)) (List.map oF (Xk rf.Qb (Qa.getD k.toNat 0))) rf.Qb {a:=fa,b:=fb,c:=fc,d:=fd})),.int .i64 (F4.b (Q6 (List.map bL (List.map Xl rf.Qb)) (List.map oF (Xk rf.Qb (Qa.getD k.toNat 0))) rf.Qb {a:=fa,b:=fb,c:=fc,d:=fd})),.int .i64 (F4.c (Q6 (List.map bL (List.map Xl rf.Qb)) (List.map oF (Xk rf.Qb (Qa.getD k.toNat 0))) rf.Qb {a:=fa,b:=fb,c:=fc,d:=fd})),.int .i64 (F4.d (Q6 (List.map bL (List.map Xl rf.Qb)) (List.map oF (Xk rf.Qb (Qa.getD k.toNat 0))) rf.Qb {a:=fa,b:=fb,c:=fc,d:=fd}))])) (([]++((4,Xa)::QU (4+1) []))++Jt rf Qa fa fb fc fd k) 5 (List.range 4) []:=by
  exact FinK.fjB (GoE.finK okF hJ Qf (Q1 (by kernel_rfl)) (Qr (by kernel_rfl)) ((GoE.refl (P:=YP) (B:=B) (c0:=RU rf Qa fa fb fc fd k) (Q1 (by kernel_rfl))).widen (Wf:=((([]):List (Nat×KS)).map (·.1))) (by simp) (Qr (by kernel_rfl))) (zK B rf Qa fa fb fc fd k)
   ⟨⟨trivial,FX rf.Qb rf.miss rf.seasons (fa) (fb) (fc) (fd) (.slice none 0 0) (.slice none 0 0) (List.map bL (List.map Xl rf.Qb)) (List.map oF (Xk rf.Qb (Qa.getD k.toNat 0))) (0) (0) (0) (0) (0) (by with_reducible assumption) (by with_reducible assumption) (by with_reducible assumption) (by with_reducible assumption) (by with_reducible assumption) (by omega) (by omega) (by omega)⟩,⟨⟨trivial,Ng (Xk rf.Qb (Qa.getD k.toNat 0)) (by omega)⟩,⟨⟨trivial,FB (rf) (Qa) (k) (by omega) (by with_reducible assumption) (by with_reducible assumption) (by with_reducible assumption) (by with_reducible assumption)⟩,⟨⟨trivial,G3 (List.map Xl rf.Qb) (by omega)⟩,⟨⟨trivial,Gd (rf) (Qa) (by omega)⟩,trivial⟩⟩⟩⟩⟩) (ex:=[]) (by kernel_rfl) (Wj _)
 exact(GoE.endsT okF hJ Qf GoE.start (zJ B rf Qa fa fb fc fd k)
  ⟨rj0,trivial⟩).cast (by rfl)
theorem jk(rf:Qe)(Qa:List Int)(fa fb fc fd k:Int)(hr:XT rf=true)(hl:Qa.length<=4)(hp:∀j:Nat,0<=Qa.getD j 0/\Qa.getD j 0<=1000000)(k0:0<=k)(k1:k<4)(hf:J6 ⟨fa,fb,fc,fd⟩)(hs:F4.sum ⟨fa,fb,fc,fd⟩<=10000000000):Qx YP J0 78 #[.agg (QL rf Qa).toArray,.agg #[.int .i64 fa,.int .i64 fb,.int .i64 fc,.int .i64 fd],.int .i64 k] (.agg #[.int .i64 (Q6 (Jc rf) (JD rf (Qa.getD k.toNat 0)) rf.Qb ⟨fa,fb,fc,fd⟩).a,.int .i64 (Q6 (Jc rf) (JD rf (Qa.getD k.toNat 0)) rf.Qb ⟨fa,fb,fc,fd⟩).b,.int .i64 (Q6 (Jc rf) (JD rf (Qa.getD k.toNat 0)) rf.Qb ⟨fa,fb,fc,fd⟩).c,.int .i64 (Q6 (Jc rf) (JD rf (Qa.getD k.toNat 0)) rf.Qb ⟨fa,fb,fc,fd⟩).d]):=
 Xn (ts:=[.agg (QL rf Qa).toArray,.agg #[.int .i64 fa,.int .i64 fb,.int .i64 fc,.int .i64 fd],.int .i64 k]) Za (c0:=Qp YP 78 11 (([.agg (QL rf Qa).toArray,.agg #[.int .i64 fa,.int .i64 fb,.int .i64 fc,.int .i64 fd],.int .i64 k]).map (Q2 0 4))) (by kernel_rfl) (by kernel_rfl) fun B hJ=>CC rf Qa fa fb fc fd k hr hl hp k0 k1 hf hs hJ
end
end Go.Proofs.Ytncjjangllkokaa

namespace Go.Proofs.Ytncjjangllkokaa
open Go Go.CE Go.RowKit
set_option maxRecDepth 100000
def ZQ(rf:Qe):List (List Int):=KP rf.seasons fun _=>Jc rf
def Oo(rf:Qe):List (List Int):=KP rf.seasons fun _=>Mv rf
def MA(rf:Qe)(Qa:List Int):List (List Int):=KP rf.seasons fun s=>Ip rf (Qa.getD s.toNat 0)
def ZF(rf:Qe)(Qa:List Int):List (List Int):=KP rf.seasons fun s=>JD rf (Qa.getD s.toNat 0)
def QR(rf:Qe)(Qa:List Int)(k:Nat):F4:=Yn rf.Qb (ZQ rf) (ZF rf Qa) (Qu (U1 rf)) k
def Om(rf:Qe)(Qa:List Int)(k:Nat):F4:=Yn rf.Qb (Oo rf) (MA rf Qa) (Qu (N8 rf)) k
theorem BP{l:List Int}(h:∀k:Int,0<=k->k<4->0<=nth l k/\nth l k<=4000000):J6 (Qu l)/\(Qu l).sum<=16000000:=by
 have a0:=h 0 (by omega) (by omega);have a1:=h 1 (by omega) (by omega);have a2:=h 2 (by omega) (by omega);have a3:=h 3 (by omega) (by omega);have es:(Qu l).sum=nth l 0+nth l 1+nth l 2+nth l 3:=rfl;exact⟨⟨⟨a0.1,a1.1,a2.1,a3.1⟩,by omega⟩,by omega⟩
theorem NI{rf:Qe}(hr:XT rf=true){g:Span->Int}(hg:∀s:Span,g s=s.lo\/g s=s.hi):∀k:Int,0<=k->k<4->0<=nth ((rf.Qb.map (Xw rf.miss)).map g) k/\nth ((rf.Qb.map (Xw rf.miss)).map g) k<=4000000:=fun k k0 k1=>by
 have hs:=Qy (Q8 hr).1;by_cases hk:k<rf.Qb.length
 ·have hp:=Xx ((Q8 hr).2 k k0 hk).1;have hm:=Po (a:=(rf.Qb.getD k.toNat default).count) (r:=rf.miss) (by omega) (by omega);have hm2:(rf.Qb.getD k.toNat default).count*rf.miss<=1000000*2000:=Int.mul_le_mul hp.1.2 hs.2.1.2 hs.2.1.1 (by omega);have e2:((rf.Qb.getD k.toNat default).count*rf.miss).tdiv 1000=((rf.Qb.getD k.toNat default).count*rf.miss) / 1000:=Int.tdiv_eq_ediv_of_nonneg hm.1;rw[Wn k0 hk];rcases hg (Xw rf.miss (rf.Qb.getD k.toNat default))with e|e
  ·rw[e];simp only[Xw];omega
  ·rw[e];simp only[Xw,Yk];omega
 ·unfold nth;rw[List.getD_eq_getElem?_getD,List.getElem?_eq_none (by simp;omega)];exact⟨Int.le_refl _,by decide⟩
theorem Ny{rf:Qe}(hr:XT rf=true){gs ts:List (List Int)}{l:List Int}(hg:gs.length=rf.seasons)(ht:ts.length=rf.seasons)(rg:∀k:Nat,k<rf.seasons->UR rf.Qb.length (gs.getD k default) 2000)(rt:∀k:Nat,k<rf.seasons->UR rf.Qb.length (ts.getD k default) 1000000)(hl:J6 (Qu l)/\(Qu l).sum<=16000000):OkT rf.Qb rf.seasons gs ts (Qu l):=by
 have hs:=Qy (Q8 hr).1;exact⟨zy hr,by omega,by omega,by omega,hg,ht,rg,rt,hl.1,by omega⟩
theorem DK{rf:Qe}(hr:XT rf=true):J6 (Qu (U1 rf))/\(Qu (U1 rf)).sum<=16000000:=BP (NI hr fun _=>.inl rfl)
theorem s5{rf:Qe}(Qa:List Int)(hr:XT rf=true):OkT rf.Qb rf.seasons (ZQ rf) (ZF rf Qa) (Qu (U1 rf)):=by
 have hs:=Qy (Q8 hr).1;refine Ny hr (by rw[ZQ,Zo];omega) (by rw[ZF,Zo];omega) (fun k hk=> ?_) (fun k hk=> ?_) (DK hr)
 ·have e:(ZQ rf).getD k default=Jc rf:=X2 (k:=(k:Int)) (by omega) hk;rw[e];exact(qP hr).1
 ·have e:(ZF rf Qa).getD k default=JD rf (Qa.getD ((k:Int)).toNat 0):=X2 (k:=(k:Int)) (by omega) hk;rw[e];exact(pk hr _).2
theorem GP{rf:Qe}{Qa:List Int}{i:Int}(h0:0<=i)(h:i<rf.seasons):QR rf Qa (i+1).toNat=Q6 (Jc rf) (JD rf (Qa.getD i.toNat 0)) rf.Qb (QR rf Qa i.toNat):=by
 rw[show(i+1).toNat=i.toNat+1 by omega];show Q6 _ _ _ _=_;have e1:(ZQ rf).getD i.toNat default=Jc rf:=X2 h0 h;have e2:(ZF rf Qa).getD i.toNat default=JD rf (Qa.getD i.toNat 0):=X2 h0 h;rw[e1,e2];rfl
end Go.Proofs.Ytncjjangllkokaa

namespace Go.Proofs.Ytncjjangllkokaa
open Go Go.CE Go.RowKit
end Go.Proofs.Ytncjjangllkokaa

namespace Go.CE
open Go Go.RowKit
section
variable {α β:Type}
def Sb(ke:α->Value)(ve:β->Value):List (α×β)->Nat->List MapEntry
 |[],_=>[]
 |p::l,i=>{key:=ke p.1,val:=ve p.2,born:=i}::Sb ke ve l (i+1)
structure tv (α β:Type) where
 ke:α->Value
 ve:β->Value
 eq:α->α->Bool
def mapA(M:tv α β)(l:List (α×β)):Array MapEntry:=(Sb M.ke M.ve l 0).toArray
def Yw(eq:α->α->Bool)(l:List (α×β))(k:α):Bool:=l.any fun p=>eq k p.1
def xm[Inhabited β](eq:α->α->Bool):List (α×β)->α->β
 |[],_=>default
 |p::l,k=>bif eq k p.1 then p.2 else xm eq l k
def J2(eq:α->α->Bool):List (α×β)->α->Nat->Option (Nat×β)
 |[],_,_=>none
 |p::l,k,i=>bif eq k p.1 then some (i,p.2)else J2 eq l k (i+1)
def zj(eq:α->α->Bool):List (α×β)->α->β->List (α×β)
 |[],k,x=>[(k,x)]
 |p::l,k,x=>bif eq k p.1 then(k,x)::l else p::zj eq l k x
def Sj(M:tv α β)(l:List (α×β))(k:α):Bool:=Yw M.eq l k
def nT[Inhabited β](M:tv α β)(l:List (α×β))(k:α):β:=xm M.eq l k
def dE(M:tv α β)(l:List (α×β))(k:α)(x:β):List (α×β):=zj M.eq l k x
theorem nH[Inhabited β]{eq:α->α->Bool}:∀{l:List (α×β)} {k:α} {i:Nat},Yw eq l k=true->∃j,J2 eq l k i=some (j,xm eq l k)
 |[],k,i,h=>by simp[Yw]at h
 |p::l,k,i,h=>by
  unfold J2 xm;cases e:eq k p.1 with
  |true=>exact⟨i,rfl⟩
  |false=>
   have h':Yw eq l k=true:=by
    unfold Yw at h ⊢;rw[List.any_cons,e,Bool.false_or]at h;exact h
   exact nH h'
theorem hQ{eq:α->α->Bool}:∀{l:List (α×β)} {k:α} {i:Nat},Yw eq l k=false->J2 eq l k i=none
 |[],k,i,h=>rfl
 |p::l,k,i,h=>by
  unfold Yw at h;rw[List.any_cons,Bool.or_eq_false_iff]at h;unfold J2;rw[h.1];exact hQ (by unfold Yw;exact h.2)
theorem xn{eq:α->α->Bool}:∀{l:List (α×β)} {k:α} {i j:Nat} {x:β},J2 eq l k i=some (j,x)->i<=j/\∃p,l[j-i]? =some p/\eq k p.1=true/\∀y,zj eq l k y=l.set (j-i) (k,y)
 |[],k,i,j,x,h=>by cases h
 |p::l,k,i,j,x,h=>by
  unfold J2 at h;cases e:eq k p.1 with
  |true=>
   rw[e]at h;simp only[cond_true,YO,YR]at h;obtain⟨rfl,_⟩:=h;exact⟨Nat.le_refl _,p,by simp,e,fun y=>by simp[zj,e]⟩
  |false=>
   rw[e]at h;simp only[cond_false]at h;obtain⟨h1,q,h2,h3,h4⟩:=xn h;have e2:j-i=(j-(i+1))+1:=by omega
   exact⟨by omega,q,by rw[e2];simpa using h2,h3,fun y=>by rw[e2];simp[zj,e,h4 y]⟩
theorem uJ{eq:α->α->Bool}:∀{l:List (α×β)} {k:α} {x:β},Yw eq l k=false->zj eq l k x=l++[(k,x)]
 |[],k,x,_=>rfl
 |p::l,k,x,h=>by
  unfold Yw at h;rw[List.any_cons,Bool.or_eq_false_iff]at h;unfold zj;rw[h.1];exact congrArg (p::·) (uJ (by unfold Yw;exact h.2))
structure KeyC (P:Program) (kt:TypeId) (ke:α->Value) (eq:α->α->Bool):Prop where
 af:∀k,af (ke k)=true
 ck:∀b k,Xm P (Instr.checkKey b 10000 kt (ke k))=some ()
 sb:∀k,Instr.sameBits 10000 (ke k) (ke k)=true
 same:∀k k',eq k k'=true->k=k'
 un:∃d,Xm P (underlying kt)=some d/\((∀k k',Instr.sameNow d (ke k) (ke k')=some (eq k k'))\/((∀k k',Instr.sameNow d (ke k) (ke k')=none)/\∀k k',Xm P (Op.equal kt (ke k) (ke k'))=some (eq k k')))
theorem Jz{ke:α->Value}{ve:β->Value}:∀{l:List (α×β)} {i j:Nat},(Sb ke ve l i)[j]? =(l[j]?).map fun p=>{key:=ke p.1,val:=ve p.2,born:=i+j}
 |[],i,j=>by simp[Sb]
 |p::l,i,0=>by simp[Sb]
 |p::l,i,j+1=>by
  simp only[Sb,List.getElem?_cons_succ];rw[Jz (l:=l),show i+1+j=i+(j+1)by omega]
theorem mr{ke:α->Value}{ve:β->Value}:∀{l:List (α×β)} {i:Nat},(Sb ke ve l i).length=l.length
 |[],i=>rfl
 |p::l,i=>by simp[Sb,mr (l:=l)]
variable {P:Program} {kt:TypeId} {ke:α->Value} {ve:β->Value} {eq:α->α->Bool}
theorem xR{d:TypeDesc}(h:∀k k',Instr.sameNow d (ke k) (ke k')=some (eq k k')){k:α}:∀{l:List (α×β)} {i n:Nat},Instr.findNow d (ke k) (Sb ke ve l n) i=some ((J2 eq l k i).map fun p=>(p.1,ve p.2))
 |[],i,n=>rfl
 |p::l,i,n=>by
  simp only[Sb,Instr.findNow,h,J2];cases e:eq k p.1 with
  |true=>rfl
  |false=>exact xR h (l:=l)
theorem xS(h:∀k k',Xm P (Op.equal kt (ke k) (ke k'))=some (eq k k')){k:α}:∀{l:List (α×β)} {i n:Nat},Xm P (Instr.findAsking kt (ke k) (Sb ke ve l n) i)=some ((J2 eq l k i).map fun p=>(p.1,ve p.2))
 |[],i,n=>rfl
 |p::l,i,n=>by
  simp only[Sb,Instr.findAsking,Zg,h,J2];cases e:eq k p.1 with
  |true=>rfl
  |false=>simpa using xS h (l:=l)
theorem KeyC.find(h:KeyC P kt ke eq){k:α}{l:List (α×β)}:Xm P (Instr.findKey kt (ke k) (Sb ke ve l 0))=some ((J2 eq l k 0).map fun p=>(p.1,ve p.2)):=by
 obtain⟨d,hd,h1|⟨h1,h2⟩⟩:=h.un
 ·simp only[Instr.findKey,Zg,hd,xR h1,Wm]
 ·simp only[Instr.findKey,Zg,hd];cases l with
  |nil=>rfl
  |cons p l=>
   have e:Instr.findNow d (ke k) (Sb ke ve (p::l) 0) 0=none:=by simp[Sb,Instr.findNow,h1]
   rw[e];exact xS h2
theorem rW[Inhabited β]{M:tv α β}(hk:KeyC P kt M.ke M.eq){t e:TypeId}(hu:YC P t=some (.map kt e)){l:List (α×β)}{k:α}{ok:Bool}(h:Sj M l k=true):JB P t (mapA M l) ok (M.ke k) (bif ok then .tuple #[M.ve (nT M l k),.bool true]else M.ve (nT M l k)):=by
 intro H r JG hg;obtain⟨j,hj⟩:=nH (eq:=M.eq) (i:=0) h;unfold Sp;rw[hu];simp only[hg,hk.af,cond_true,hk.ck];have hf:Xm P (Instr.findKey kt (M.ke k) (mapA M l).toList)=some (some (j,M.ve (nT M l k))):=by
  show Xm P (Instr.findKey kt (M.ke k) (Sb M.ke M.ve l 0))=_;rw[hk.find,hj];rfl
 rw[hf]
theorem rX{M:tv α β}(hk:KeyC P kt M.ke M.eq){t e:TypeId}{z:Value}(hu:YC P t=some (.map kt e))(hz:zeroOf P e=some z)(ha:Go.CE.af z=true){l:List (α×β)}{k:α}{ok:Bool}(h:Sj M l k=false):JB P t (mapA M l) ok (M.ke k) (bif ok then .tuple #[z,.bool false]else z):=by
 intro H r JG hg;unfold Sp;rw[hu];simp only[hg,hk.af,cond_true,hk.ck];have hf:Xm P (Instr.findKey kt (M.ke k) (mapA M l).toList)=some none:=by
  show Xm P (Instr.findKey kt (M.ke k) (Sb M.ke M.ve l 0))=_;rw[hk.find,hQ h];rfl
 rw[hf,hz];simp only[ha,cond_true]
theorem Li{M:tv α β}(hk:KeyC P kt M.ke M.eq){t e:TypeId}(hu:YC P t=some (.map kt e)){l:List (α×β)}{k:α}{x:β}:fQ P t (mapA M l) l.length (M.ke k) (M.ve x) (mapA M (dE M l k x)) (dE M l k x).length:=by
 intro H r hg;unfold UW;rw[hu];simp only[hg,hk.af,cond_true,hk.ck];cases hb:J2 M.eq l k 0 with
 |some p=>
  obtain⟨j,y⟩:=p;have hf:Xm P (Instr.findKey kt (M.ke k) (mapA M l).toList)=some (some (j,M.ve y)):=by
   show Xm P (Instr.findKey kt (M.ke k) (Sb M.ke M.ve l 0))=_;rw[hk.find,hb];rfl
  rw[hf];obtain⟨_,q,h2,h3,h4⟩:=xn hb;have eq1:=hk.same _ _ h3;have h4:∀y,dE M l k y=l.set (j-0) (k,y):=h4;have hj:j<l.length:=(List.getElem?_eq_some_iff.1 h2).1;have hg2:(mapA M l)[j]? =some {key:=M.ke q.1,val:=M.ve q.2,born:=j}:=by
   unfold mapA;rw[List.getElem?_toArray,Jz,show l[j]? =some q by simpa using h2];simp
  simp only[hg2];rw[<-eq1,hk.sb];simp only[cond_true];have es:(mapA M l).setIfInBounds j {key:=M.ke k,val:=M.ve x,born:=j}=mapA M (dE M l k x):=by
   rw[h4 x];apply Array.ext_getElem?;intro i;unfold mapA;rw[Array.getElem?_setIfInBounds,List.getElem?_toArray,List.getElem?_toArray,Jz,Jz,List.getElem?_set];simp only[Nat.sub_zero,Nat.zero_add,List.size_toArray,mr];by_cases Pa:j=i
   ·subst Pa;simp[hj]
   ·simp[Pa]
  rw[es,h4 x,List.length_set]
 |none=>
  have hf:Xm P (Instr.findKey kt (M.ke k) (mapA M l).toList)=some none:=by
   show Xm P (Instr.findKey kt (M.ke k) (Sb M.ke M.ve l 0))=_;rw[hk.find,hb];rfl
  rw[hf];have hnb:Sj M l k=false:=by
   cases hq:Yw M.eq l k with
   |false=>exact hq
   |true=>
    exfalso;have:∀(l:List (α×β)) (i:Nat),Yw M.eq l k=true->J2 M.eq l k i≠none:=by
     intro l;induction l with
     |nil=>intro i h;simp[Yw]at h
     |cons p l ih=>
      intro i h;unfold J2;cases e:M.eq k p.1 with
      |true=>simp
      |false=>
       simp only[cond_false];refine ih _ ?_;unfold Yw at h ⊢;rw[List.any_cons,e,Bool.false_or]at h;exact h
    exact this l 0 hq hb
  rw[show dE M l k x=l++[(k,x)]from uJ hnb];have es:(mapA M l).push {key:=M.ke k,val:=M.ve x,born:=l.length}=mapA M (l++[(k,x)]):=by
   apply Array.ext_getElem?;intro i;unfold mapA;rw[Array.getElem?_push,List.getElem?_toArray,List.getElem?_toArray,Jz,Jz,List.getElem?_append];simp only[Nat.zero_add,List.size_toArray,mr];by_cases h1:i=l.length
   ·subst h1;simp
   ·by_cases h2:i<l.length
    ·simp[h1,h2]
    ·have h3:i-l.length≠0:=by omega
     obtain⟨m,hm⟩:∃m,i-l.length=m+1:=⟨i-l.length-1,by omega⟩
     simp[h1,h2,hm]
  simp only[es,List.length_append,List.length_cons,List.length_nil,Nat.zero_add]
theorem X0{M:tv α β}(h:∀x,af (M.ve x)=true){l:List (α×β)}:XE (mapA M l):=by
 intro i e he;unfold mapA at he;rw[List.getElem?_toArray,Jz]at he;obtain⟨p,_,rfl⟩:=Option.map_eq_some_iff.1 he;exact h _
end
end Go.CE
namespace Go.CE
open Go Go.RowKit
theorem eB{α:Type}[Inhabited α]{e:α->List Value}{z:Nat}{xs:List α}(h:∀x,(e x).length=z){k j z':Nat}(hk:k<xs.length)(hj:j+z'<=z){vs:Array Value}(hz:vs.size=z')(hv:((e (xs.getD k default)).drop j).take z'=vs.toList):0+k*z+j+z'<=(Qg e xs).size/\(Qg e xs).extract (0+k*z+j) (0+k*z+j+z')=vs:=by
 have hle:=cc (e:=e) h hk;refine⟨by omega, ?_⟩;apply Array.ext_getElem?;intro i;rw[Array.getElem?_extract];by_cases hi:i<z'
 ·rw[if_pos (by omega)];have hg:=S7 (xs:=xs) h hk (show j+i<z by omega);rw[show 0+k*z+j+i=k*z+(j+i)by omega,hg];have h2:(((e (xs.getD k default)).drop j).take z')[i]? =vs.toList[i]? :=by rw[hv]
  rw[List.getElem?_take_of_lt hi,List.getElem?_drop]at h2;rw[h2];exact Array.getElem?_toList ..
 ·rw[if_neg (by omega),Array.getElem?_eq_none (by omega)]
end Go.CE

namespace Go.Proofs.Ytncjjangllkokaa
open Go Go.CE Go.RowKit
set_option maxRecDepth 100000
def Tx(Qa:List Int)(s:Int):F4:=⟨if 0<s then Qa.getD 0 0 else -1,if 1<s then Qa.getD 1 0 else -1,if 2<s then Qa.getD 2 0 else -1,if 3<s then Qa.getD 3 0 else -1⟩
def Nx(x y:F4):Bool:=decide (x.a=y.a) && (decide (x.b=y.b) && (decide (x.c=y.c) && decide (x.d=y.d)))
theorem xV{x y:F4}:Nx x y=true<->x=y:=by
 cases x;cases y;simp[Nx]
abbrev v4(f:F4):Value:=.agg #[.int .i64 f.a,.int .i64 f.b,.int .i64 f.c,.int .i64 f.d]
def QB:tv F4 F4:=⟨v4,v4,Nx⟩
theorem rD{P:Program}{t:TypeId}{a b:Int}{d:Nat}(hu:Xm P (underlying t)=some (.int .i64)):Xm P (Op.equalIn (d+1) t (.int .i64 a) (.int .i64 b))=some (decide (a=b)):=by
 rw[Op.equalIn,Zg,hu];simp only[if_true,Wm];congr 1
theorem WH:KeyC YP 82 QB.ke QB.eq:=⟨fun _=>by kernel_rfl,fun _ _=>by kernel_rfl,fun k=>by
 show((true && ((decide (IntKind.i64=.i64) && k.a==k.a) && _)):Bool)=true;simp[Instr.sameBits],fun k k' h=>xV.1 h,⟨.array 4 3,by kernel_rfl,.inr ⟨fun _ _=>by kernel_rfl,fun k k'=>by
  have hi:Xm YP (underlying 3)=some (.int .i64):=by kernel_rfl
  have hs:Xm YP (sizeOf 3)=some 1:=by kernel_rfl
  have hk:Xm YP (underlying 82)=some (.array 4 3):=by kernel_rfl
  have h0:∀(a b c d:Int),Xm YP (part 3 #[.int .i64 a,.int .i64 b,.int .i64 c,.int .i64 d] (0*1))=some (.int .i64 a):=fun a b c d=>by kernel_rfl
  have h1:∀(a b c d:Int),Xm YP (part 3 #[.int .i64 a,.int .i64 b,.int .i64 c,.int .i64 d] ((0+1)*1))=some (.int .i64 b):=fun a b c d=>by kernel_rfl
  have h2:∀(a b c d:Int),Xm YP (part 3 #[.int .i64 a,.int .i64 b,.int .i64 c,.int .i64 d] ((0+1+1)*1))=some (.int .i64 c):=fun a b c d=>by kernel_rfl
  have h3:∀(a b c d:Int),Xm YP (part 3 #[.int .i64 a,.int .i64 b,.int .i64 c,.int .i64 d] ((0+1+1+1)*1))=some (.int .i64 d):=fun a b c d=>by kernel_rfl
  show Xm YP (Op.equalIn (9998+1+1) 82 (.agg #[.int .i64 k.a,.int .i64 k.b,.int .i64 k.c,.int .i64 k.d]) (.agg #[.int .i64 k'.a,.int .i64 k'.b,.int .i64 k'.c,.int .i64 k'.d]))=_;rw[Op.equalIn,Zg,hk];simp only[Zg,hs];rw[Std.Legacy.Range.forIn_eq_forIn_range'];simp only[Std.Legacy.Range.size,List.range',List.forIn_cons,List.forIn_nil,Zg];show _=some (decide (k.a=k'.a) && (decide (k.b=k'.b) && (decide (k.c=k'.c) && decide (k.d=k'.d))));simp only[Zg,h0,rD hi];cases decide (k.a=k'.a)with
  |false=>rfl
  |true=>
   simp only[Bool.not_true,Bool.false_eq_true,if_false,Wm,Bool.true_and];simp only[Zg,h1,rD hi];cases decide (k.b=k'.b)with
   |false=>rfl
   |true=>
    simp only[Bool.not_true,Bool.false_eq_true,if_false,Wm,Bool.true_and];simp only[Zg,h2,rD hi];cases decide (k.c=k'.c)with
    |false=>rfl
    |true=>
     simp only[Bool.not_true,Bool.false_eq_true,if_false,Wm,Bool.true_and];simp only[Zg,h3,rD hi];cases decide (k.d=k'.d)with
     |false=>rfl
     |true=>
      simp only[Bool.not_true,Bool.false_eq_true,if_false,Wm,Bool.true_and]⟩⟩⟩
def JC(rf:Qe)(es:List (F4×F4)):Prop:=∀p∈es,∃(pl:List Int) (s:Nat),QG rf pl=true/\1<=s/\(s:Int)<=rf.seasons/\p.1=Tx pl s/\p.2=QR rf pl s
def XK(rf:Qe)(Qa:List Int):Nat->List (F4×F4)->List (F4×F4)
 |0,es=>es
 |s+1,es=>bif Sj QB es (Tx Qa ((s+1:Nat):Int))then es else dE QB (XK rf Qa s es) (Tx Qa ((s+1:Nat):Int)) (Q6 (Jc rf) (JD rf (Qa.getD s 0)) rf.Qb (QR rf Qa s))
theorem J5{rf:Qe}:JC rf []:=fun p h=>by cases h
theorem L9{es:List (F4×F4)}{k:F4}(h:Sj QB es k=true):(k,nT QB es k)∈es:=by
 induction es with
 |nil=>cases h
 |cons p l ih=>
  unfold Sj Yw at h;unfold nT xm;rw[List.any_cons]at h;cases e:QB.eq k p.1 with
  |true=>rw[xV.1 e];exact List.mem_cons_self ..
  |false=>
   rw[e,Bool.false_or]at h;exact List.mem_cons_of_mem _ (ih h)
theorem HV{rf:Qe}(hr:XT rf=true){pl pl':List Int}{s s':Nat}(h:QG rf pl=true)(h':QG rf pl'=true)(hs:(s:Int)<=rf.seasons)(hs':(s':Int)<=rf.seasons)(e:Tx pl s=Tx pl' s'):s=s'/\∀k:Nat,k<s->pl.getD k 0=pl'.getD k 0:=by
 have Zm:=Qy (Q8 hr).1;have g:=fun j=>Zq hr h j
 have g':=fun j=>Zq hr h' j
 have e0:=congrArg F4.a e;have e1:=congrArg F4.b e;have e2:=congrArg F4.c e;have e3:=congrArg F4.d e;simp only[Tx]at e0 e1 e2 e3;have g0:=g 0;have g1:=g 1;have g2:=g 2;have g3:=g 3;have g0':=g' 0;have g1':=g' 1;have g2':=g' 2;have g3':=g' 3;have es:s=s':=by
  repeat' split at e0
  all_goals (repeat' split at e1)
  all_goals (repeat' split at e2)
  all_goals (repeat' split at e3)
  all_goals omega
 subst es;refine⟨rfl,fun k hk=> ?_⟩;rcases(show k=0\/k=1\/k=2\/k=3 by omega)with rfl|rfl|rfl|rfl
 ·rw[if_pos (by omega),if_pos (by omega)]at e0;exact e0
 ·rw[if_pos (by omega),if_pos (by omega)]at e1;exact e1
 ·rw[if_pos (by omega),if_pos (by omega)]at e2;exact e2
 ·rw[if_pos (by omega),if_pos (by omega)]at e3;exact e3
theorem Jb{rf:Qe}{Qa:List Int}{s:Nat}(h:((s+1:Nat):Int)<=rf.seasons):QR rf Qa (s+1)=Q6 (Jc rf) (JD rf (Qa.getD s 0)) rf.Qb (QR rf Qa s):=GP (i:=(s:Int)) (by omega) (by omega)
theorem xi{rf:Qe}{pl pl':List Int}:∀s:Nat,(s:Int)<=rf.seasons->(∀k:Nat,k<s->pl.getD k 0=pl'.getD k 0)->QR rf pl s=QR rf pl' s
 |0,_,_=>rfl
 |s+1,hs,h=>by
  rw[Jb hs,Jb hs,xi s (by omega) fun k hk=>h k (by omega),h s (by omega)]
theorem aC{rf:Qe}{Qa:List Int}{es:List (F4×F4)}{s:Nat}(hr:XT rf=true)(hp:QG rf Qa=true)(he:JC rf es)(hs:(s:Int)<=rf.seasons)(h:Sj QB es (Tx Qa s)=true):nT QB es (Tx Qa s)=QR rf Qa s:=by
 obtain⟨pl,s',h1,_,h3,h4,h5⟩:=he _ (L9 h);obtain⟨rfl,hk⟩:=HV hr hp h1 hs h3 h4;rw[show nT QB es (Tx Qa s)=_ from h5];exact(xi s hs hk).symm
theorem Sc{rf:Qe}{Qa:List Int}(hr:XT rf=true){s:Nat}(hs:(s:Int)<=rf.seasons):J6 ⟨(QR rf Qa s).a,(QR rf Qa s).b,(QR rf Qa s).c,(QR rf Qa s).d⟩/\F4.sum ⟨(QR rf Qa s).a,(QR rf Qa s).b,(QR rf Qa s).c,(QR rf Qa s).d⟩<=10000000000:=by
 have Zm:=Qy (Q8 hr).1;have h:=(s5 Qa hr).st s (by omega);have hh:=(s5 Qa hr).hs;refine⟨h.1, ?_⟩;have:=h.2;show(QR rf Qa s).sum<=_;unfold QR;omega
def cK(a b c d k:Int)(w x y z i:Int):List Value:=[pA 2 0,pA 3 0,.int .i64 i]
def aq(a b c d k:Int)(w x y z i:Int):List Obj:=[.cells #[.int .i64 w,.int .i64 x,.int .i64 y,.int .i64 z] 82 (0,0),Obj.cells #[.int .i64 0,.int .i64 0,.int .i64 0,.int .i64 0] 82]
noncomputable def cL:List Item:=([.code [1,0,1,0,0],.inLoop [1,0,1,0,0],.inBlock 0,.code [1,1]]).map (it (QT YP 111))
def IW(B:Lo)(c0:CF)(a b c d k:Int)(w x y z i:Int):Prop:=∃dJ:Nat->Value,(∀t,X6 (dJ t))/\GoE YP B c0 XV 1 (QJ 111 14 (([2,4,5]:List Nat).zip (cK a b c d k w x y z i)) dJ cL) (QH (aq a b c d k w x y z i)) (2+(aq a b c d k w x y z i).length) []
theorem IU(B:Lo)(a b c d k:Int)(w x y z i:Int)(Qn:Nat->Value):let e:=aq a b c d k w x y z i;landM (Qq YP (Q3 YP) J0 B 11 1 (QJ 111 14 (([2,4,5]:List Nat).zip (cK a b c d k w x y z i)) Qn cL) (QH e) (2+e.length)
 [(1,Wo),(3,Qk.ZH (Hint.idx i.toNat)),(4,Qk.ZH (Hint.st #[.int .i64 (if Int.toNat i=0 then -1 else w),.int .i64 (if Int.toNat i=1 then -1 else x),.int .i64 (if Int.toNat i=2 then -1 else y),.int .i64 (if Int.toNat i=3 then -1 else z)])),(6,VE (i+1))] 0 [] []) [2,4,5] [(2,KS.auto),(3,KS.auto)] []=some ⟨111,14,cL,[],.run,none,cK a b c d k (if Int.toNat i=0 then -1 else w) (if Int.toNat i=1 then -1 else x) (if Int.toNat i=2 then -1 else y) (if Int.toNat i=3 then -1 else z) (i+1),aq a b c d k (if Int.toNat i=0 then -1 else w) (if Int.toNat i=1 then -1 else x) (if Int.toNat i=2 then -1 else y) (if Int.toNat i=3 then -1 else z) (i+1),
 [wq (i+1)=i+1,0+Int.toNat i*1+TypeInfo.size Try.t3<=Array.size #[Value.int .i64 w,.int .i64 x,.int .i64 y,.int .i64 z]/\splice #[.int .i64 w,.int .i64 x,.int .i64 y,.int .i64 z] (0+Int.toNat i*1) (Value.cells (.int .i64 (-1)))=#[.int .i64 (if Int.toNat i=0 then -1 else w),.int .i64 (if Int.toNat i=1 then -1 else x),.int .i64 (if Int.toNat i=2 then -1 else y),.int .i64 (if Int.toNat i=3 then -1 else z)],i=(↑i.toNat:Int)/\Int.toNat i<4,XU i 4=true]⟩:=by intro e;kernel_rfl
theorem IT(B:Lo)(a b c d k:Int)(w x y z i:Int)(Qn:Nat->Value):let e:=aq a b c d k w x y z i;QQ (Qq YP (Q3 YP) J0 B 9 1 (QJ 111 14 (([2,4,5]:List Nat).zip (cK a b c d k w x y z i)) Qn cL) (QH e) (2+e.length)
 [(1,W8)] 0 [] []) []=some (.agg #[.int .i64 w,.int .i64 x,.int .i64 y,.int .i64 z],
 [XU i 4=false]):=by intro e;kernel_rfl
theorem IS(B:Lo)(a b c d k:Int):landM (Qq YP (Q3 YP) J0 B 7 1 (Qp YP 111 14 (([.agg #[.int .i64 a,.int .i64 b,.int .i64 c,.int .i64 d],.int .i64 k]).map (Q2 0 4))) XV 1
 [] 0 [] []) [2,4,5] [(1,KS.auto),(2,KS.auto)] []=some ⟨111,14,cL,[],.run,none,cK a b c d k (a) (b) (c) (d) (k),aq a b c d k (a) (b) (c) (d) (k),
 []⟩:=by kernel_rfl
set_option maxHeartbeats 4000000 in
theorem IV(a b c d k:Int)(k0:0<=k)(k4:k<=4){B:Lo}(hJ:∀w,B.has w->J0 w){c0:CF}:∀m:Nat,(∀(w x y z i:Int),(4-i).toNat=m->∀(h0:k<=i) (h4:i<=4) (hw:w=if k<=0/\0<i then -1 else a) (hx:x=if k<=1/\1<i then -1 else b) (hy:y=if k<=2/\2<i then -1 else c) (hz:z=if k<=3/\3<i then -1 else d),IW B c0 a b c d k w x y z i->EndsT YP B c0 (.agg #[.int .i64 (if 0<k then a else -1),.int .i64 (if 1<k then b else -1),.int .i64 (if 2<k then c else -1),.int .i64 (if 3<k then d else -1)])):=by
 intro m0;induction m0 using Nat.strongRecOn with
 |_ m0 ih0=>
  intro w x y z i hm0 h0 h4 hw hx hy hz ⟨Qn,Ur,XM⟩;by_cases q0:(i:Int)<(4)
  ·exact((ih0 _ (by omega)) (if Int.toNat i=0 then -1 else w) (if Int.toNat i=1 then -1 else x) (if Int.toNat i=2 then -1 else y) (if Int.toNat i=3 then -1 else z) (i+1) rfl (by omega) (by omega) (by omega) (by omega) (by omega) (by omega)
    (XM.landM okF hJ Qf (IU B a b c d k w x y z i Qn)
    ⟨(Xy (by omega) (by omega)),⟨(o6 rfl (fs:=[w,x,y,z]) rfl (Nat.lt_of_lt_of_eq (m:=4) (by omega) rfl) rfl),⟨⟨by omega,by omega⟩,⟨(XF q0),trivial⟩⟩⟩⟩ (by kernel_rfl) (by kernel_rfl))).cast (by rfl)
  ·exact(GoE.endsT okF hJ Qf XM (IT B a b c d k w x y z i Qn)
    ⟨(XO (Int.not_lt.1 q0)),trivial⟩).cast (by(simp_all[];omega))
set_option maxHeartbeats 4000000 in
theorem MY(a b c d k:Int)(k0:0<=k)(k4:k<=4){B:Lo}(hJ:∀w,B.has w->J0 w):EndsT YP B (Qp YP 111 14 (([.agg #[.int .i64 a,.int .i64 b,.int .i64 c,.int .i64 d],.int .i64 k]).map (Q2 0 4))) (.agg #[.int .i64 (if 0<k then a else -1),.int .i64 (if 1<k then b else -1),.int .i64 (if 2<k then c else -1),.int .i64 (if 3<k then d else -1)]):=by
 exact((IV a b c d k k0 k4 hJ _) (a) (b) (c) (d) (k) rfl (by omega) (by with_reducible assumption) (by omega) (by omega) (by omega) (by omega)
  (GoE.start.landM okF hJ Qf (IS B a b c d k)
  trivial (by kernel_rfl) (by kernel_rfl))).cast (by rfl)
theorem IX(a b c d k:Int)(k0:0<=k)(k4:k<=4):Qx YP J0 111 #[.agg #[.int .i64 a,.int .i64 b,.int .i64 c,.int .i64 d],.int .i64 k] (.agg #[.int .i64 (if 0<k then a else -1),.int .i64 (if 1<k then b else -1),.int .i64 (if 2<k then c else -1),.int .i64 (if 3<k then d else -1)]):=
 Xn (ts:=[.agg #[.int .i64 a,.int .i64 b,.int .i64 c,.int .i64 d],.int .i64 k]) Za (c0:=Qp YP 111 14 (([.agg #[.int .i64 a,.int .i64 b,.int .i64 c,.int .i64 d],.int .i64 k]).map (Q2 0 4))) (by kernel_rfl) (by kernel_rfl) fun B hJ=>MY a b c d k k0 k4 hJ
end Go.Proofs.Ytncjjangllkokaa

namespace Go.Proofs.Ytncjjangllkokaa
open Go Go.CE Go.RowKit
noncomputable section
set_option maxRecDepth 100000
def nN(rf:Qe)(Qa:List Int)(es:List (F4×F4)):Qo:=[(1,.map (mapA QB es) es.length),(0,Xa)]
def dC(rf:Qe)(Qa:List Int)(es:List (F4×F4)):CF:=Qp YP 89 45 [.agg #[Qt 0 (UN rf.Qb),.int .i64 rf.miss,.int .i64 rf.seasons,.map (some 1)],.agg #[.int .i64 (Qa.getD 0 0),.int .i64 (Qa.getD 1 0),.int .i64 (Qa.getD 2 0),.int .i64 (Qa.getD 3 0)],.int .i64 0]
def Hg(rf:Qe):Value:=(.agg #[.int .i64 (List.getD (U1 rf) 0 default),.int .i64 (List.getD (U1 rf) 1 default),.int .i64 (List.getD (U1 rf) 2 default),.int .i64 (List.getD (U1 rf) 3 default)])
theorem Hh(B:Lo)(rf:Qe)(Qa:List Int)(es:List (F4×F4)):let a:=Hg rf;CE.finK 2 (Qq YP (Q3 YP) J0 B 12 2 (dC rf Qa es) (nN rf Qa es) 2
 [(12,Qk.pure a [])] 0 [] []) [(1,KS.same)] [] []=some (OO.ret a,[(1,Obj.map (mapA QB es) es.length)],[],
 [XE (mapA QB es),Qz []/\Qx YP J0 75 #[.agg #[QE rf.Qb.length (Qg Qh rf.Qb),.int .i64 rf.miss,.int .i64 rf.seasons,.int .i64 (Qa.getD 0 0),.int .i64 (Qa.getD 1 0),.int .i64 (Qa.getD 2 0),.int .i64 (Qa.getD 3 0)],Value.func (Fn.func 76) #[] #[]] a]):=by intro a;kernel_rfl
set_option maxHeartbeats 4000000 in
theorem Ly(rf:Qe)(Qa:List Int)(es:List (F4×F4))(hr:XT rf=true)(hp:QG rf Qa=true)(he:JC rf es){B:Lo}(hJ:∀w,B.has w->J0 w):FinK YP B (dC rf Qa es) (nN rf Qa es) 2 (.ret (.agg #[.int .i64 (QR rf Qa 0).a,.int .i64 (QR rf Qa 0).b,.int .i64 (QR rf Qa 0).c,.int .i64 (QR rf Qa 0).d])) (([1]:List Nat).zip [.map (mapA QB (XK rf Qa 0 es)) (XK rf Qa 0 es).length]) [] ([1]:List Nat):=by
 have Zm:=Qy (Q8 hr).1;exact(GoE.finK okF hJ Qf (Q1 (by kernel_rfl)) (Qr (by kernel_rfl)) ((GoE.refl (P:=YP) (B:=B) (c0:=dC rf Qa es) (Q1 (by kernel_rfl))).widen (Wf:=((([(1,KS.same)]):List (Nat×KS)).map (·.1))) (by simp) (Qr (by kernel_rfl))) (Hh B rf Qa es)
  ⟨(by exact X0 (fun _=>by kernel_rfl)),⟨⟨trivial,IQ (rf) (Qa) (by with_reducible assumption)⟩,trivial⟩⟩).cast (by rfl) (by rfl) (by rfl)
def sH(rf:Qe)(Qa:List Int)(es:List (F4×F4)):OO:=.ret (.agg #[.int .i64 (QR rf Qa 0).a,.int .i64 (QR rf Qa 0).b,.int .i64 (QR rf Qa 0).c,.int .i64 (QR rf Qa 0).d])
def sG(rf:Qe)(Qa:List Int)(es:List (F4×F4)):List Obj:=[.map (mapA QB (XK rf Qa 0 es)) (XK rf Qa 0 es).length]
def sI(rf:Qe)(Qa:List Int)(es:List (F4×F4)):List Obj:=[]
def Lz(rf:Qe)(Qa:List Int)(es:List (F4×F4)):Prop:=WriC YP J0 89 #[.agg #[Qt 0 (UN rf.Qb),.int .i64 rf.miss,.int .i64 rf.seasons,.map (some 1)],.agg #[.int .i64 (Qa.getD 0 0),.int .i64 (Qa.getD 1 0),.int .i64 (Qa.getD 2 0),.int .i64 (Qa.getD 3 0)],.int .i64 0] [.map (mapA QB es) es.length] (sH rf Qa es) (sG rf Qa es) (sI rf Qa es)
theorem Mr(rf:Qe)(Qa:List Int)(es:List (F4×F4))(hr:XT rf=true)(hp:QG rf Qa=true)(he:JC rf es):WriC YP J0 89 #[.agg #[Qt 0 (UN rf.Qb),.int .i64 rf.miss,.int .i64 rf.seasons,.map (some 1)],.agg #[.int .i64 (Qa.getD 0 0),.int .i64 (Qa.getD 1 0),.int .i64 (Qa.getD 2 0),.int .i64 (Qa.getD 3 0)],.int .i64 0] [.map (mapA QB es) es.length] (sH rf Qa es) (sG rf Qa es) (sI rf Qa es):=
 FinK.wri (c0:=dC rf Qa es) (Hb:=nN rf Qa es) (a:=2) (ws:=([1]:List Nat).zip [.map (mapA QB (XK rf Qa 0 es)) (XK rf Qa 0 es).length]) (Wf:=([1]:List Nat)) (by kernel_rfl) rfl rfl rfl rfl fun B hJ=>Ly rf Qa es hr hp he hJ
def dB(rf:Qe)(Qa:List Int)(es:List (F4×F4)):Qo:=[(1,.map (mapA QB es) es.length),(0,Xa)]
def Rm(rf:Qe)(Qa:List Int)(es:List (F4×F4)):CF:=Qp YP 89 45 [.agg #[Qt 0 (UN rf.Qb),.int .i64 rf.miss,.int .i64 rf.seasons,.map (some 1)],.agg #[.int .i64 (Qa.getD 0 0),.int .i64 (Qa.getD 1 0),.int .i64 (Qa.getD 2 0),.int .i64 (Qa.getD 3 0)],.int .i64 1]
def xF(Qa:List Int)(es:List (F4×F4)):Array Value:=let e:=nT QB es {a:=if 0<1 then Qa.getD 0 0 else -1,b:= -1,c:= -1,d:= -1};#[.int .i64 e.a,.int .i64 e.b,.int .i64 e.c,.int .i64 e.d]
def Tn(Qa:List Int):Value:=(.agg #[.int .i64 (if 0<1 then Qa.getD 0 0 else -1),.int .i64 (-1),.int .i64 (-1),.int .i64 (-1)])
def xE(rf:Qe)(Qa:List Int):=(JD rf (Qa.getD (Int.toNat 0) 0))
def Hd(rf:Qe)(Qa:List Int):Value:=let f:=QR rf Qa 0;let e:=Q6 (Jc rf) (xE rf Qa) rf.Qb {a:=f.a,b:=f.b,c:=f.c,d:=f.d};(.agg #[.int .i64 e.a,.int .i64 e.b,.int .i64 e.c,.int .i64 e.d])
def xD  :Value:=(.tuple #[.agg #[.int .i64 0,.int .i64 0,.int .i64 0,.int .i64 0],.bool false])
def nM(B:Lo)(rf:Qe)(Qa:List Int)(es:List (F4×F4)):List Prop:=[Qz []/\Qx YP J0 111 #[.agg #[.int .i64 (Qa.getD 0 0),.int .i64 (Qa.getD 1 0),.int .i64 (Qa.getD 2 0),.int .i64 (Qa.getD 3 0)],.int .i64 1] (Tn Qa)]++([]:List Prop)
def xG(rf:Qe)(Qa:List Int)(es:List (F4×F4)):Q5:=[(13,Qk.pure (Tn Qa) [])]
theorem Hf(B:Lo)(rf:Qe)(Qa:List Int)(es:List (F4×F4)):let b:=mapA QB es;let a:=Value.tuple #[.agg (xF Qa es),.bool true];CE.finK 2 (Qq YP (Q3 YP) J0 B 22 2 (Rm rf Qa es) (dB rf Qa es) 2
 (xG rf Qa es++[(19,Qk.ZH (Hint.look a))]) 0 [] []) [(1,KS.same)] [] []=some (OO.ret (.agg (xF Qa es)),[(1,Obj.map b es.length)],[],
 [XE b,JB YP 96 b true (X7 {len:=16000,tr:=Tri.set 14 (Tri.set 14 Tri.lf 25 (Tn Qa)) 24 (Value.map (some 1))} 25) a]++nM B rf Qa es):=by intro b a;kernel_rfl
theorem He(B:Lo)(rf:Qe)(Qa:List Int)(es:List (F4×F4)):let l:=Value.map (some 1);let k:=rf.Qb;let j:=Hd rf Qa;let i:=Tri.set 14 (Tri.set 14 Tri.lf 43 j) 42 (Tn Qa);let h:=XK rf Qa 0 es;let g:=QR rf Qa 0;let f:=dE QB h {a:=if 0<1 then Qa.getD 0 0 else -1,b:= -1,c:= -1,d:= -1} (Q6 (Jc rf) (JD rf (Qa.getD (Int.toNat 0) 0)) k {a:=g.a,b:=g.b,c:=g.c,d:=g.d});let e:=dE QB h {a:=if 0<1 then Qa.getD 0 0 else -1,b:= -1,c:= -1,d:= -1} (Q6 (Jc rf) (xE rf Qa) k {a:=g.a,b:=g.b,c:=g.c,d:=g.d});CE.finK 2 (Qq YP (Q3 YP) J0 B 24 2 (Rm rf Qa es) (dB rf Qa es) 2
 (xG rf Qa es++[(19,Qk.ZH (Hint.look xD)),(33,Qk.wri [1] [0] [true] [] (sH rf Qa es) (sG rf Qa es) (sI rf Qa es)),(36,Qk.pure j []),(42,Qk.ZH (Hint.upd (mapA QB e) e.length))]) 0 [] []) [(1,KS.same)] [] []=some (OO.ret j,[(1,Obj.map (mapA QB e) e.length)],[],
 [XE (mapA QB f),fQ YP 96 (mapA QB h) h.length (X7 {len:=16000,tr:=Tri.set 14 i 41 l} 42) (X7 {len:=16000,tr:=Tri.set 14 i 41 l} 43) (mapA QB f) f.length,Qz []/\Qx YP J0 78 #[.agg #[QE k.length (Qg Qh k),.int .i64 rf.miss,.int .i64 rf.seasons,.int .i64 (Qa.getD 0 0),.int .i64 (Qa.getD 1 0),.int .i64 (Qa.getD 2 0),.int .i64 (Qa.getD 3 0)],.agg #[.int .i64 g.a,.int .i64 g.b,.int .i64 g.c,.int .i64 g.d],.int .i64 0] j,Qz [XE (mapA QB es),XE (mapA QB h)]/\Lz (rf) (Qa) (es),JB YP 96 (mapA QB es) true (X7 {len:=16000,tr:=Tri.set 14 (Tri.set 14 Tri.lf 25 (Tn Qa)) 24 l} 25) xD]++nM B rf Qa es):=by intro l k j i h g f e;kernel_rfl
set_option maxHeartbeats 4000000 in
theorem Lw(rf:Qe)(Qa:List Int)(es:List (F4×F4))(hr:XT rf=true)(hp:QG rf Qa=true)(he:JC rf es)(hs:1<=rf.seasons){B:Lo}(hJ:∀w,B.has w->J0 w):FinK YP B (Rm rf Qa es) (dB rf Qa es) 2 (.ret (.agg #[.int .i64 (QR rf Qa 1).a,.int .i64 (QR rf Qa 1).b,.int .i64 (QR rf Qa 1).c,.int .i64 (QR rf Qa 1).d])) (([1]:List Nat).zip [.map (mapA QB (XK rf Qa 1 es)) (XK rf Qa 1 es).length]) [] ([1]:List Nat):=by
 have Zm:=Qy (Q8 hr).1;have Pr:=(QM hp).1;have hpg:∀j:Nat,0<=Qa.getD j 0/\Qa.getD j 0<=1000000:=fun j=>(fun h=>⟨h.1,by omega⟩) (Zq hr hp j)
 have hf4:=(Sc (Qa:=Qa) hr (s:=0) (by omega)).1;have hs4:=(Sc (Qa:=Qa) hr (s:=0) (by omega)).2;have hnx:=Jb (rf:=rf) (Qa:=Qa) (s:=0) (by omega);have WB:Qz (nM B rf Qa es):=by
  exact⟨⟨trivial,IX (Qa.getD 0 0) (Qa.getD 1 0) (Qa.getD 2 0) (Qa.getD 3 0) (1) (by omega) (by omega)⟩,trivial⟩
 cases q0:Sj QB es {a:=if 0<1 then Qa.getD 0 0 else -1,b:= -1,c:= -1,d:= -1}with
 |true=>
  have hfo:=aC (s:=1) hr hp he (by omega) q0;exact(GoE.finK okF hJ Qf (Q1 (by kernel_rfl)) (Qr (by kernel_rfl)) ((GoE.refl (P:=YP) (B:=B) (c0:=Rm rf Qa es) (Q1 (by kernel_rfl))).widen (Wf:=((([(1,KS.same)]):List (Nat×KS)).map (·.1))) (by simp) (Qr (by kernel_rfl))) (Hf B rf Qa es)
   ⟨(by exact X0 (fun _=>by kernel_rfl)),⟨(rW (k:={a:=if 0<1 then Qa.getD 0 0 else -1,b:= -1,c:= -1,d:= -1}) (ok:=true) WH rfl q0),WB⟩⟩).cast (by(show _=OO.ret (v4 (QR rf Qa 1));rw[<-hfo];rfl)) (by(unfold XK;rw[show Sj QB es (Tx Qa ((0+1:Nat):Int))=_ from q0];rfl)) (by rfl)
 |false=>
  exact(GoE.finK okF hJ Qf (Q1 (by kernel_rfl)) (Qr (by kernel_rfl)) ((GoE.refl (P:=YP) (B:=B) (c0:=Rm rf Qa es) (Q1 (by kernel_rfl))).widen (Wf:=((([(1,KS.same)]):List (Nat×KS)).map (·.1))) (by simp) (Qr (by kernel_rfl))) (He B rf Qa es)
   ⟨(by exact X0 (fun _=>by kernel_rfl)),⟨(Li (k:={a:=if 0<1 then Qa.getD 0 0 else -1,b:= -1,c:= -1,d:= -1}) (x:=Q6 (Jc rf) (JD rf (Qa.getD (Int.toNat 0) 0)) rf.Qb {a:=F4.a (QR rf Qa 0),b:=F4.b (QR rf Qa 0),c:=F4.c (QR rf Qa 0),d:=F4.d (QR rf Qa 0)}) WH rfl),⟨⟨trivial,jk (rf) (Qa) (F4.a (QR rf Qa 0)) (F4.b (QR rf Qa 0)) (F4.c (QR rf Qa 0)) (F4.d (QR rf Qa 0)) (0) (by with_reducible assumption) (by omega) (by with_reducible assumption) (by omega) (by omega) (by with_reducible assumption) (by with_reducible assumption)⟩,⟨⟨⟨(X0 (fun _=>by kernel_rfl)),⟨(X0 (fun _=>by kernel_rfl)),trivial⟩⟩,Mr (rf) (Qa) (es) (by with_reducible assumption) (by with_reducible assumption) (by with_reducible assumption)⟩,⟨(rX (k:={a:=if 0<1 then Qa.getD 0 0 else -1,b:= -1,c:= -1,d:= -1}) (ok:=true) WH rfl rfl (by kernel_rfl) q0),WB⟩⟩⟩⟩⟩).cast (by(show _=OO.ret (v4 (QR rf Qa (0+1)));rw[hnx];rfl)) (by(unfold XK;rw[show Sj QB es (Tx Qa ((0+1:Nat):Int))=_ from q0];rfl)) (by rfl)
def sE(rf:Qe)(Qa:List Int)(es:List (F4×F4)):OO:=.ret (.agg #[.int .i64 (QR rf Qa 1).a,.int .i64 (QR rf Qa 1).b,.int .i64 (QR rf Qa 1).c,.int .i64 (QR rf Qa 1).d])
def sD(rf:Qe)(Qa:List Int)(es:List (F4×F4)):List Obj:=[.map (mapA QB (XK rf Qa 1 es)) (XK rf Qa 1 es).length]
def sF(rf:Qe)(Qa:List Int)(es:List (F4×F4)):List Obj:=[]
def Lx(rf:Qe)(Qa:List Int)(es:List (F4×F4)):Prop:=WriC YP J0 89 #[.agg #[Qt 0 (UN rf.Qb),.int .i64 rf.miss,.int .i64 rf.seasons,.map (some 1)],.agg #[.int .i64 (Qa.getD 0 0),.int .i64 (Qa.getD 1 0),.int .i64 (Qa.getD 2 0),.int .i64 (Qa.getD 3 0)],.int .i64 1] [.map (mapA QB es) es.length] (sE rf Qa es) (sD rf Qa es) (sF rf Qa es)
theorem Mq(rf:Qe)(Qa:List Int)(es:List (F4×F4))(hr:XT rf=true)(hp:QG rf Qa=true)(he:JC rf es)(hs:1<=rf.seasons):WriC YP J0 89 #[.agg #[Qt 0 (UN rf.Qb),.int .i64 rf.miss,.int .i64 rf.seasons,.map (some 1)],.agg #[.int .i64 (Qa.getD 0 0),.int .i64 (Qa.getD 1 0),.int .i64 (Qa.getD 2 0),.int .i64 (Qa.getD 3 0)],.int .i64 1] [.map (mapA QB es) es.length] (sE rf Qa es) (sD rf Qa es) (sF rf Qa es):=
 FinK.wri (c0:=Rm rf Qa es) (Hb:=dB rf Qa es) (a:=2) (ws:=([1]:List Nat).zip [.map (mapA QB (XK rf Qa 1 es)) (XK rf Qa 1 es).length]) (Wf:=([1]:List Nat)) (by kernel_rfl) rfl rfl rfl rfl fun B hJ=>Lw rf Qa es hr hp he hs hJ
def dA(rf:Qe)(Qa:List Int)(es:List (F4×F4)):Qo:=[(1,.map (mapA QB es) es.length),(0,Xa)]
def Rl(rf:Qe)(Qa:List Int)(es:List (F4×F4)):CF:=Qp YP 89 45 [.agg #[Qt 0 (UN rf.Qb),.int .i64 rf.miss,.int .i64 rf.seasons,.map (some 1)],.agg #[.int .i64 (Qa.getD 0 0),.int .i64 (Qa.getD 1 0),.int .i64 (Qa.getD 2 0),.int .i64 (Qa.getD 3 0)],.int .i64 2]
def xB(Qa:List Int)(es:List (F4×F4)):Array Value:=let e:=nT QB es {a:=if 0<2 then Qa.getD 0 0 else -1,b:=if 1<2 then Qa.getD 1 0 else -1,c:= -1,d:= -1};#[.int .i64 e.a,.int .i64 e.b,.int .i64 e.c,.int .i64 e.d]
def Tl(Qa:List Int):Value:=(.agg #[.int .i64 (if 0<2 then Qa.getD 0 0 else -1),.int .i64 (if 1<2 then Qa.getD 1 0 else -1),.int .i64 (-1),.int .i64 (-1)])
def xA(rf:Qe)(Qa:List Int):=(JD rf (Qa.getD (Int.toNat 1) 0))
def GZ(rf:Qe)(Qa:List Int):Value:=let f:=QR rf Qa 1;let e:=Q6 (Jc rf) (xA rf Qa) rf.Qb {a:=f.a,b:=f.b,c:=f.c,d:=f.d};(.agg #[.int .i64 e.a,.int .i64 e.b,.int .i64 e.c,.int .i64 e.d])
def x9  :Value:=(.tuple #[.agg #[.int .i64 0,.int .i64 0,.int .i64 0,.int .i64 0],.bool false])
def nL(B:Lo)(rf:Qe)(Qa:List Int)(es:List (F4×F4)):List Prop:=[Qz []/\Qx YP J0 111 #[.agg #[.int .i64 (Qa.getD 0 0),.int .i64 (Qa.getD 1 0),.int .i64 (Qa.getD 2 0),.int .i64 (Qa.getD 3 0)],.int .i64 2] (Tl Qa)]++([]:List Prop)
def xC(rf:Qe)(Qa:List Int)(es:List (F4×F4)):Q5:=[(13,Qk.pure (Tl Qa) [])]
theorem Hc(B:Lo)(rf:Qe)(Qa:List Int)(es:List (F4×F4)):let b:=mapA QB es;let a:=Value.tuple #[.agg (xB Qa es),.bool true];CE.finK 2 (Qq YP (Q3 YP) J0 B 22 2 (Rl rf Qa es) (dA rf Qa es) 2
 (xC rf Qa es++[(19,Qk.ZH (Hint.look a))]) 0 [] []) [(1,KS.same)] [] []=some (OO.ret (.agg (xB Qa es)),[(1,Obj.map b es.length)],[],
 [XE b,JB YP 96 b true (X7 {len:=16000,tr:=Tri.set 14 (Tri.set 14 Tri.lf 25 (Tl Qa)) 24 (Value.map (some 1))} 25) a]++nL B rf Qa es):=by intro b a;kernel_rfl
theorem Ha(B:Lo)(rf:Qe)(Qa:List Int)(es:List (F4×F4)):let l:=Value.map (some 1);let k:=rf.Qb;let j:=GZ rf Qa;let i:=Tri.set 14 (Tri.set 14 Tri.lf 43 j) 42 (Tl Qa);let h:=XK rf Qa 1 es;let g:=QR rf Qa 1;let f:=dE QB h {a:=if 0<2 then Qa.getD 0 0 else -1,b:=if 1<2 then Qa.getD 1 0 else -1,c:= -1,d:= -1} (Q6 (Jc rf) (JD rf (Qa.getD (Int.toNat 1) 0)) k {a:=g.a,b:=g.b,c:=g.c,d:=g.d});let e:=dE QB h {a:=if 0<2 then Qa.getD 0 0 else -1,b:=if 1<2 then Qa.getD 1 0 else -1,c:= -1,d:= -1} (Q6 (Jc rf) (xA rf Qa) k {a:=g.a,b:=g.b,c:=g.c,d:=g.d});CE.finK 2 (Qq YP (Q3 YP) J0 B 24 2 (Rl rf Qa es) (dA rf Qa es) 2
 (xC rf Qa es++[(19,Qk.ZH (Hint.look x9)),(33,Qk.wri [1] [0] [true] [] (sE rf Qa es) (sD rf Qa es) (sF rf Qa es)),(36,Qk.pure j []),(42,Qk.ZH (Hint.upd (mapA QB e) e.length))]) 0 [] []) [(1,KS.same)] [] []=some (OO.ret j,[(1,Obj.map (mapA QB e) e.length)],[],
 [XE (mapA QB f),fQ YP 96 (mapA QB h) h.length (X7 {len:=16000,tr:=Tri.set 14 i 41 l} 42) (X7 {len:=16000,tr:=Tri.set 14 i 41 l} 43) (mapA QB f) f.length,Qz []/\Qx YP J0 78 #[.agg #[QE k.length (Qg Qh k),.int .i64 rf.miss,.int .i64 rf.seasons,.int .i64 (Qa.getD 0 0),.int .i64 (Qa.getD 1 0),.int .i64 (Qa.getD 2 0),.int .i64 (Qa.getD 3 0)],.agg #[.int .i64 g.a,.int .i64 g.b,.int .i64 g.c,.int .i64 g.d],.int .i64 1] j,Qz [XE (mapA QB es),XE (mapA QB h)]/\Lx (rf) (Qa) (es),JB YP 96 (mapA QB es) true (X7 {len:=16000,tr:=Tri.set 14 (Tri.set 14 Tri.lf 25 (Tl Qa)) 24 l} 25) x9]++nL B rf Qa es):=by intro l k j i h g f e;kernel_rfl
set_option maxHeartbeats 4000000 in
theorem Lu(rf:Qe)(Qa:List Int)(es:List (F4×F4))(hr:XT rf=true)(hp:QG rf Qa=true)(he:JC rf es)(hs:2<=rf.seasons){B:Lo}(hJ:∀w,B.has w->J0 w):FinK YP B (Rl rf Qa es) (dA rf Qa es) 2 (.ret (.agg #[.int .i64 (QR rf Qa 2).a,.int .i64 (QR rf Qa 2).b,.int .i64 (QR rf Qa 2).c,.int .i64 (QR rf Qa 2).d])) (([1]:List Nat).zip [.map (mapA QB (XK rf Qa 2 es)) (XK rf Qa 2 es).length]) [] ([1]:List Nat):=by
 have Zm:=Qy (Q8 hr).1;have Pr:=(QM hp).1;have hpg:∀j:Nat,0<=Qa.getD j 0/\Qa.getD j 0<=1000000:=fun j=>(fun h=>⟨h.1,by omega⟩) (Zq hr hp j)
 have hf4:=(Sc (Qa:=Qa) hr (s:=1) (by omega)).1;have hs4:=(Sc (Qa:=Qa) hr (s:=1) (by omega)).2;have hnx:=Jb (rf:=rf) (Qa:=Qa) (s:=1) (by omega);have WB:Qz (nL B rf Qa es):=by
  exact⟨⟨trivial,IX (Qa.getD 0 0) (Qa.getD 1 0) (Qa.getD 2 0) (Qa.getD 3 0) (2) (by omega) (by omega)⟩,trivial⟩
 cases q0:Sj QB es {a:=if 0<2 then Qa.getD 0 0 else -1,b:=if 1<2 then Qa.getD 1 0 else -1,c:= -1,d:= -1}with
 |true=>
  have hfo:=aC (s:=2) hr hp he (by omega) q0;exact(GoE.finK okF hJ Qf (Q1 (by kernel_rfl)) (Qr (by kernel_rfl)) ((GoE.refl (P:=YP) (B:=B) (c0:=Rl rf Qa es) (Q1 (by kernel_rfl))).widen (Wf:=((([(1,KS.same)]):List (Nat×KS)).map (·.1))) (by simp) (Qr (by kernel_rfl))) (Hc B rf Qa es)
   ⟨(by exact X0 (fun _=>by kernel_rfl)),⟨(rW (k:={a:=if 0<2 then Qa.getD 0 0 else -1,b:=if 1<2 then Qa.getD 1 0 else -1,c:= -1,d:= -1}) (ok:=true) WH rfl q0),WB⟩⟩).cast (by(show _=OO.ret (v4 (QR rf Qa 2));rw[<-hfo];rfl)) (by(unfold XK;rw[show Sj QB es (Tx Qa ((1+1:Nat):Int))=_ from q0];rfl)) (by rfl)
 |false=>
  exact(GoE.finK okF hJ Qf (Q1 (by kernel_rfl)) (Qr (by kernel_rfl)) ((GoE.refl (P:=YP) (B:=B) (c0:=Rl rf Qa es) (Q1 (by kernel_rfl))).widen (Wf:=((([(1,KS.same)]):List (Nat×KS)).map (·.1))) (by simp) (Qr (by kernel_rfl))) (Ha B rf Qa es)
   ⟨(by exact X0 (fun _=>by kernel_rfl)),⟨(Li (k:={a:=if 0<2 then Qa.getD 0 0 else -1,b:=if 1<2 then Qa.getD 1 0 else -1,c:= -1,d:= -1}) (x:=Q6 (Jc rf) (JD rf (Qa.getD (Int.toNat 1) 0)) rf.Qb {a:=F4.a (QR rf Qa 1),b:=F4.b (QR rf Qa 1),c:=F4.c (QR rf Qa 1),d:=F4.d (QR rf Qa 1)}) WH rfl),⟨⟨trivial,jk (rf) (Qa) (F4.a (QR rf Qa 1)) (F4.b (QR rf Qa 1)) (F4.c (QR rf Qa 1)) (F4.d (QR rf Qa 1)) (1) (by with_reducible assumption) (by omega) (by with_reducible assumption) (by omega) (by omega) (by with_reducible assumption) (by with_reducible assumption)⟩,⟨⟨⟨(X0 (fun _=>by kernel_rfl)),⟨(X0 (fun _=>by kernel_rfl)),trivial⟩⟩,Mq (rf) (Qa) (es) (by with_reducible assumption) (by with_reducible assumption) (by with_reducible assumption) (by omega)⟩,⟨(rX (k:={a:=if 0<2 then Qa.getD 0 0 else -1,b:=if 1<2 then Qa.getD 1 0 else -1,c:= -1,d:= -1}) (ok:=true) WH rfl rfl (by kernel_rfl) q0),WB⟩⟩⟩⟩⟩).cast (by(show _=OO.ret (v4 (QR rf Qa (1+1)));rw[hnx];rfl)) (by(unfold XK;rw[show Sj QB es (Tx Qa ((1+1:Nat):Int))=_ from q0];rfl)) (by rfl)
def sB(rf:Qe)(Qa:List Int)(es:List (F4×F4)):OO:=.ret (.agg #[.int .i64 (QR rf Qa 2).a,.int .i64 (QR rf Qa 2).b,.int .i64 (QR rf Qa 2).c,.int .i64 (QR rf Qa 2).d])
def sA(rf:Qe)(Qa:List Int)(es:List (F4×F4)):List Obj:=[.map (mapA QB (XK rf Qa 2 es)) (XK rf Qa 2 es).length]
def sC(rf:Qe)(Qa:List Int)(es:List (F4×F4)):List Obj:=[]
def Lv(rf:Qe)(Qa:List Int)(es:List (F4×F4)):Prop:=WriC YP J0 89 #[.agg #[Qt 0 (UN rf.Qb),.int .i64 rf.miss,.int .i64 rf.seasons,.map (some 1)],.agg #[.int .i64 (Qa.getD 0 0),.int .i64 (Qa.getD 1 0),.int .i64 (Qa.getD 2 0),.int .i64 (Qa.getD 3 0)],.int .i64 2] [.map (mapA QB es) es.length] (sB rf Qa es) (sA rf Qa es) (sC rf Qa es)
theorem Mp(rf:Qe)(Qa:List Int)(es:List (F4×F4))(hr:XT rf=true)(hp:QG rf Qa=true)(he:JC rf es)(hs:2<=rf.seasons):WriC YP J0 89 #[.agg #[Qt 0 (UN rf.Qb),.int .i64 rf.miss,.int .i64 rf.seasons,.map (some 1)],.agg #[.int .i64 (Qa.getD 0 0),.int .i64 (Qa.getD 1 0),.int .i64 (Qa.getD 2 0),.int .i64 (Qa.getD 3 0)],.int .i64 2] [.map (mapA QB es) es.length] (sB rf Qa es) (sA rf Qa es) (sC rf Qa es):=
 FinK.wri (c0:=Rl rf Qa es) (Hb:=dA rf Qa es) (a:=2) (ws:=([1]:List Nat).zip [.map (mapA QB (XK rf Qa 2 es)) (XK rf Qa 2 es).length]) (Wf:=([1]:List Nat)) (by kernel_rfl) rfl rfl rfl rfl fun B hJ=>Lu rf Qa es hr hp he hs hJ
def dz(rf:Qe)(Qa:List Int)(es:List (F4×F4)):Qo:=[(1,.map (mapA QB es) es.length),(0,Xa)]
def Rk(rf:Qe)(Qa:List Int)(es:List (F4×F4)):CF:=Qp YP 89 45 [.agg #[Qt 0 (UN rf.Qb),.int .i64 rf.miss,.int .i64 rf.seasons,.map (some 1)],.agg #[.int .i64 (Qa.getD 0 0),.int .i64 (Qa.getD 1 0),.int .i64 (Qa.getD 2 0),.int .i64 (Qa.getD 3 0)],.int .i64 3]
def xz(Qa:List Int)(es:List (F4×F4)):Array Value:=let e:=nT QB es {a:=if 0<3 then Qa.getD 0 0 else -1,b:=if 1<3 then Qa.getD 1 0 else -1,c:=if 2<3 then Qa.getD 2 0 else -1,d:= -1};#[.int .i64 e.a,.int .i64 e.b,.int .i64 e.c,.int .i64 e.d]
def Tk(Qa:List Int):Value:=(.agg #[.int .i64 (if 0<3 then Qa.getD 0 0 else -1),.int .i64 (if 1<3 then Qa.getD 1 0 else -1),.int .i64 (if 2<3 then Qa.getD 2 0 else -1),.int .i64 (-1)])
def xx(rf:Qe)(Qa:List Int):=(JD rf (Qa.getD (Int.toNat 2) 0))
def GW(rf:Qe)(Qa:List Int):Value:=let f:=QR rf Qa 2;let e:=Q6 (Jc rf) (xx rf Qa) rf.Qb {a:=f.a,b:=f.b,c:=f.c,d:=f.d};(.agg #[.int .i64 e.a,.int .i64 e.b,.int .i64 e.c,.int .i64 e.d])
def xw  :Value:=(.tuple #[.agg #[.int .i64 0,.int .i64 0,.int .i64 0,.int .i64 0],.bool false])
def nK(B:Lo)(rf:Qe)(Qa:List Int)(es:List (F4×F4)):List Prop:=[Qz []/\Qx YP J0 111 #[.agg #[.int .i64 (Qa.getD 0 0),.int .i64 (Qa.getD 1 0),.int .i64 (Qa.getD 2 0),.int .i64 (Qa.getD 3 0)],.int .i64 3] (Tk Qa)]++([]:List Prop)
def x6(rf:Qe)(Qa:List Int)(es:List (F4×F4)):Q5:=[(13,Qk.pure (Tk Qa) [])]
theorem GY(B:Lo)(rf:Qe)(Qa:List Int)(es:List (F4×F4)):let b:=mapA QB es;let a:=Value.tuple #[.agg (xz Qa es),.bool true];CE.finK 2 (Qq YP (Q3 YP) J0 B 22 2 (Rk rf Qa es) (dz rf Qa es) 2
 (x6 rf Qa es++[(19,Qk.ZH (Hint.look a))]) 0 [] []) [(1,KS.same)] [] []=some (OO.ret (.agg (xz Qa es)),[(1,Obj.map b es.length)],[],
 [XE b,JB YP 96 b true (X7 {len:=16000,tr:=Tri.set 14 (Tri.set 14 Tri.lf 25 (Tk Qa)) 24 (Value.map (some 1))} 25) a]++nK B rf Qa es):=by intro b a;kernel_rfl
theorem GX(B:Lo)(rf:Qe)(Qa:List Int)(es:List (F4×F4)):let l:=Value.map (some 1);let k:=rf.Qb;let j:=GW rf Qa;let i:=Tri.set 14 (Tri.set 14 Tri.lf 43 j) 42 (Tk Qa);let h:=XK rf Qa 2 es;let g:=QR rf Qa 2;let f:=dE QB h {a:=if 0<3 then Qa.getD 0 0 else -1,b:=if 1<3 then Qa.getD 1 0 else -1,c:=if 2<3 then Qa.getD 2 0 else -1,d:= -1} (Q6 (Jc rf) (JD rf (Qa.getD (Int.toNat 2) 0)) k {a:=g.a,b:=g.b,c:=g.c,d:=g.d});let e:=dE QB h {a:=if 0<3 then Qa.getD 0 0 else -1,b:=if 1<3 then Qa.getD 1 0 else -1,c:=if 2<3 then Qa.getD 2 0 else -1,d:= -1} (Q6 (Jc rf) (xx rf Qa) k {a:=g.a,b:=g.b,c:=g.c,d:=g.d});CE.finK 2 (Qq YP (Q3 YP) J0 B 24 2 (Rk rf Qa es) (dz rf Qa es) 2
 (x6 rf Qa es++[(19,Qk.ZH (Hint.look xw)),(33,Qk.wri [1] [0] [true] [] (sB rf Qa es) (sA rf Qa es) (sC rf Qa es)),(36,Qk.pure j []),(42,Qk.ZH (Hint.upd (mapA QB e) e.length))]) 0 [] []) [(1,KS.same)] [] []=some (OO.ret j,[(1,Obj.map (mapA QB e) e.length)],[],
 [XE (mapA QB f),fQ YP 96 (mapA QB h) h.length (X7 {len:=16000,tr:=Tri.set 14 i 41 l} 42) (X7 {len:=16000,tr:=Tri.set 14 i 41 l} 43) (mapA QB f) f.length,Qz []/\Qx YP J0 78 #[.agg #[QE k.length (Qg Qh k),.int .i64 rf.miss,.int .i64 rf.seasons,.int .i64 (Qa.getD 0 0),.int .i64 (Qa.getD 1 0),.int .i64 (Qa.getD 2 0),.int .i64 (Qa.getD 3 0)],.agg #[.int .i64 g.a,.int .i64 g.b,.int .i64 g.c,.int .i64 g.d],.int .i64 2] j,Qz [XE (mapA QB es),XE (mapA QB h)]/\Lv (rf) (Qa) (es),JB YP 96 (mapA QB es) true (X7 {len:=16000,tr:=Tri.set 14 (Tri.set 14 Tri.lf 25 (Tk Qa)) 24 l} 25) xw]++nK B rf Qa es):=by intro l k j i h g f e;kernel_rfl
set_option maxHeartbeats 4000000 in
theorem Ls(rf:Qe)(Qa:List Int)(es:List (F4×F4))(hr:XT rf=true)(hp:QG rf Qa=true)(he:JC rf es)(hs:3<=rf.seasons){B:Lo}(hJ:∀w,B.has w->J0 w):FinK YP B (Rk rf Qa es) (dz rf Qa es) 2 (.ret (.agg #[.int .i64 (QR rf Qa 3).a,.int .i64 (QR rf Qa 3).b,.int .i64 (QR rf Qa 3).c,.int .i64 (QR rf Qa 3).d])) (([1]:List Nat).zip [.map (mapA QB (XK rf Qa 3 es)) (XK rf Qa 3 es).length]) [] ([1]:List Nat):=by
 have Zm:=Qy (Q8 hr).1;have Pr:=(QM hp).1;have hpg:∀j:Nat,0<=Qa.getD j 0/\Qa.getD j 0<=1000000:=fun j=>(fun h=>⟨h.1,by omega⟩) (Zq hr hp j)
 have hf4:=(Sc (Qa:=Qa) hr (s:=2) (by omega)).1;have hs4:=(Sc (Qa:=Qa) hr (s:=2) (by omega)).2;have hnx:=Jb (rf:=rf) (Qa:=Qa) (s:=2) (by omega);have WB:Qz (nK B rf Qa es):=by
  exact⟨⟨trivial,IX (Qa.getD 0 0) (Qa.getD 1 0) (Qa.getD 2 0) (Qa.getD 3 0) (3) (by omega) (by omega)⟩,trivial⟩
 cases q0:Sj QB es {a:=if 0<3 then Qa.getD 0 0 else -1,b:=if 1<3 then Qa.getD 1 0 else -1,c:=if 2<3 then Qa.getD 2 0 else -1,d:= -1}with
 |true=>
  have hfo:=aC (s:=3) hr hp he (by omega) q0;exact(GoE.finK okF hJ Qf (Q1 (by kernel_rfl)) (Qr (by kernel_rfl)) ((GoE.refl (P:=YP) (B:=B) (c0:=Rk rf Qa es) (Q1 (by kernel_rfl))).widen (Wf:=((([(1,KS.same)]):List (Nat×KS)).map (·.1))) (by simp) (Qr (by kernel_rfl))) (GY B rf Qa es)
   ⟨(by exact X0 (fun _=>by kernel_rfl)),⟨(rW (k:={a:=if 0<3 then Qa.getD 0 0 else -1,b:=if 1<3 then Qa.getD 1 0 else -1,c:=if 2<3 then Qa.getD 2 0 else -1,d:= -1}) (ok:=true) WH rfl q0),WB⟩⟩).cast (by(show _=OO.ret (v4 (QR rf Qa 3));rw[<-hfo];rfl)) (by(unfold XK;rw[show Sj QB es (Tx Qa ((2+1:Nat):Int))=_ from q0];rfl)) (by rfl)
 |false=>
  exact(GoE.finK okF hJ Qf (Q1 (by kernel_rfl)) (Qr (by kernel_rfl)) ((GoE.refl (P:=YP) (B:=B) (c0:=Rk rf Qa es) (Q1 (by kernel_rfl))).widen (Wf:=((([(1,KS.same)]):List (Nat×KS)).map (·.1))) (by simp) (Qr (by kernel_rfl))) (GX B rf Qa es)
   ⟨(by exact X0 (fun _=>by kernel_rfl)),⟨(Li (k:={a:=if 0<3 then Qa.getD 0 0 else -1,b:=if 1<3 then Qa.getD 1 0 else -1,c:=if 2<3 then Qa.getD 2 0 else -1,d:= -1}) (x:=Q6 (Jc rf) (JD rf (Qa.getD (Int.toNat 2) 0)) rf.Qb {a:=F4.a (QR rf Qa 2),b:=F4.b (QR rf Qa 2),c:=F4.c (QR rf Qa 2),d:=F4.d (QR rf Qa 2)}) WH rfl),⟨⟨trivial,jk (rf) (Qa) (F4.a (QR rf Qa 2)) (F4.b (QR rf Qa 2)) (F4.c (QR rf Qa 2)) (F4.d (QR rf Qa 2)) (2) (by with_reducible assumption) (by omega) (by with_reducible assumption) (by omega) (by omega) (by with_reducible assumption) (by with_reducible assumption)⟩,⟨⟨⟨(X0 (fun _=>by kernel_rfl)),⟨(X0 (fun _=>by kernel_rfl)),trivial⟩⟩,Mp (rf) (Qa) (es) (by with_reducible assumption) (by with_reducible assumption) (by with_reducible assumption) (by omega)⟩,⟨(rX (k:={a:=if 0<3 then Qa.getD 0 0 else -1,b:=if 1<3 then Qa.getD 1 0 else -1,c:=if 2<3 then Qa.getD 2 0 else -1,d:= -1}) (ok:=true) WH rfl rfl (by kernel_rfl) q0),WB⟩⟩⟩⟩⟩).cast (by(show _=OO.ret (v4 (QR rf Qa (2+1)));rw[hnx];rfl)) (by(unfold XK;rw[show Sj QB es (Tx Qa ((2+1:Nat):Int))=_ from q0];rfl)) (by rfl)
def s8(rf:Qe)(Qa:List Int)(es:List (F4×F4)):OO:=.ret (.agg #[.int .i64 (QR rf Qa 3).a,.int .i64 (QR rf Qa 3).b,.int .i64 (QR rf Qa 3).c,.int .i64 (QR rf Qa 3).d])
def s7(rf:Qe)(Qa:List Int)(es:List (F4×F4)):List Obj:=[.map (mapA QB (XK rf Qa 3 es)) (XK rf Qa 3 es).length]
def s9(rf:Qe)(Qa:List Int)(es:List (F4×F4)):List Obj:=[]
def Lt(rf:Qe)(Qa:List Int)(es:List (F4×F4)):Prop:=WriC YP J0 89 #[.agg #[Qt 0 (UN rf.Qb),.int .i64 rf.miss,.int .i64 rf.seasons,.map (some 1)],.agg #[.int .i64 (Qa.getD 0 0),.int .i64 (Qa.getD 1 0),.int .i64 (Qa.getD 2 0),.int .i64 (Qa.getD 3 0)],.int .i64 3] [.map (mapA QB es) es.length] (s8 rf Qa es) (s7 rf Qa es) (s9 rf Qa es)
theorem Mo(rf:Qe)(Qa:List Int)(es:List (F4×F4))(hr:XT rf=true)(hp:QG rf Qa=true)(he:JC rf es)(hs:3<=rf.seasons):WriC YP J0 89 #[.agg #[Qt 0 (UN rf.Qb),.int .i64 rf.miss,.int .i64 rf.seasons,.map (some 1)],.agg #[.int .i64 (Qa.getD 0 0),.int .i64 (Qa.getD 1 0),.int .i64 (Qa.getD 2 0),.int .i64 (Qa.getD 3 0)],.int .i64 3] [.map (mapA QB es) es.length] (s8 rf Qa es) (s7 rf Qa es) (s9 rf Qa es):=
 FinK.wri (c0:=Rk rf Qa es) (Hb:=dz rf Qa es) (a:=2) (ws:=([1]:List Nat).zip [.map (mapA QB (XK rf Qa 3 es)) (XK rf Qa 3 es).length]) (Wf:=([1]:List Nat)) (by kernel_rfl) rfl rfl rfl rfl fun B hJ=>Ls rf Qa es hr hp he hs hJ
def dy(rf:Qe)(Qa:List Int)(es:List (F4×F4)):Qo:=[(1,.map (mapA QB es) es.length),(0,Xa)]
def Rj(rf:Qe)(Qa:List Int)(es:List (F4×F4)):CF:=Qp YP 89 45 [.agg #[Qt 0 (UN rf.Qb),.int .i64 rf.miss,.int .i64 rf.seasons,.map (some 1)],.agg #[.int .i64 (Qa.getD 0 0),.int .i64 (Qa.getD 1 0),.int .i64 (Qa.getD 2 0),.int .i64 (Qa.getD 3 0)],.int .i64 4]
def xt(Qa:List Int)(es:List (F4×F4)):Array Value:=let e:=nT QB es {a:=if 0<4 then Qa.getD 0 0 else -1,b:=if 1<4 then Qa.getD 1 0 else -1,c:=if 2<4 then Qa.getD 2 0 else -1,d:=if 3<4 then Qa.getD 3 0 else -1};#[.int .i64 e.a,.int .i64 e.b,.int .i64 e.c,.int .i64 e.d]
def Tj(Qa:List Int):Value:=(.agg #[.int .i64 (if 0<4 then Qa.getD 0 0 else -1),.int .i64 (if 1<4 then Qa.getD 1 0 else -1),.int .i64 (if 2<4 then Qa.getD 2 0 else -1),.int .i64 (if 3<4 then Qa.getD 3 0 else -1)])
def xq(rf:Qe)(Qa:List Int):=(JD rf (Qa.getD (Int.toNat 3) 0))
def GS(rf:Qe)(Qa:List Int):Value:=let f:=QR rf Qa 3;let e:=Q6 (Jc rf) (xq rf Qa) rf.Qb {a:=f.a,b:=f.b,c:=f.c,d:=f.d};(.agg #[.int .i64 e.a,.int .i64 e.b,.int .i64 e.c,.int .i64 e.d])
def xp  :Value:=(.tuple #[.agg #[.int .i64 0,.int .i64 0,.int .i64 0,.int .i64 0],.bool false])
def nJ(B:Lo)(rf:Qe)(Qa:List Int)(es:List (F4×F4)):List Prop:=[Qz []/\Qx YP J0 111 #[.agg #[.int .i64 (Qa.getD 0 0),.int .i64 (Qa.getD 1 0),.int .i64 (Qa.getD 2 0),.int .i64 (Qa.getD 3 0)],.int .i64 4] (Tj Qa)]++([]:List Prop)
def xu(rf:Qe)(Qa:List Int)(es:List (F4×F4)):Q5:=[(13,Qk.pure (Tj Qa) [])]
theorem GV(B:Lo)(rf:Qe)(Qa:List Int)(es:List (F4×F4)):let b:=mapA QB es;let a:=Value.tuple #[.agg (xt Qa es),.bool true];CE.finK 2 (Qq YP (Q3 YP) J0 B 22 2 (Rj rf Qa es) (dy rf Qa es) 2
 (xu rf Qa es++[(19,Qk.ZH (Hint.look a))]) 0 [] []) [(1,KS.same)] [] []=some (OO.ret (.agg (xt Qa es)),[(1,Obj.map b es.length)],[],
 [XE b,JB YP 96 b true (X7 {len:=16000,tr:=Tri.set 14 (Tri.set 14 Tri.lf 25 (Tj Qa)) 24 (Value.map (some 1))} 25) a]++nJ B rf Qa es):=by intro b a;kernel_rfl
theorem GU(B:Lo)(rf:Qe)(Qa:List Int)(es:List (F4×F4)):let l:=Value.map (some 1);let k:=rf.Qb;let j:=GS rf Qa;let i:=Tri.set 14 (Tri.set 14 Tri.lf 43 j) 42 (Tj Qa);let h:=XK rf Qa 3 es;let g:=QR rf Qa 3;let f:=dE QB h {a:=if 0<4 then Qa.getD 0 0 else -1,b:=if 1<4 then Qa.getD 1 0 else -1,c:=if 2<4 then Qa.getD 2 0 else -1,d:=if 3<4 then Qa.getD 3 0 else -1} (Q6 (Jc rf) (JD rf (Qa.getD (Int.toNat 3) 0)) k {a:=g.a,b:=g.b,c:=g.c,d:=g.d});let e:=dE QB h {a:=if 0<4 then Qa.getD 0 0 else -1,b:=if 1<4 then Qa.getD 1 0 else -1,c:=if 2<4 then Qa.getD 2 0 else -1,d:=if 3<4 then Qa.getD 3 0 else -1} (Q6 (Jc rf) (xq rf Qa) k {a:=g.a,b:=g.b,c:=g.c,d:=g.d});CE.finK 2 (Qq YP (Q3 YP) J0 B 24 2 (Rj rf Qa es) (dy rf Qa es) 2
 (xu rf Qa es++[(19,Qk.ZH (Hint.look xp)),(33,Qk.wri [1] [0] [true] [] (s8 rf Qa es) (s7 rf Qa es) (s9 rf Qa es)),(36,Qk.pure j []),(42,Qk.ZH (Hint.upd (mapA QB e) e.length))]) 0 [] []) [(1,KS.same)] [] []=some (OO.ret j,[(1,Obj.map (mapA QB e) e.length)],[],
 [XE (mapA QB f),fQ YP 96 (mapA QB h) h.length (X7 {len:=16000,tr:=Tri.set 14 i 41 l} 42) (X7 {len:=16000,tr:=Tri.set 14 i 41 l} 43) (mapA QB f) f.length,Qz []/\Qx YP J0 78 #[.agg #[QE k.length (Qg Qh k),.int .i64 rf.miss,.int .i64 rf.seasons,.int .i64 (Qa.getD 0 0),.int .i64 (Qa.getD 1 0),.int .i64 (Qa.getD 2 0),.int .i64 (Qa.getD 3 0)],.agg #[.int .i64 g.a,.int .i64 g.b,.int .i64 g.c,.int .i64 g.d],.int .i64 3] j,Qz [XE (mapA QB es),XE (mapA QB h)]/\Lt (rf) (Qa) (es),JB YP 96 (mapA QB es) true (X7 {len:=16000,tr:=Tri.set 14 (Tri.set 14 Tri.lf 25 (Tj Qa)) 24 l} 25) xp]++nJ B rf Qa es):=by intro l k j i h g f e;kernel_rfl
set_option maxHeartbeats 4000000 in
theorem Lr(rf:Qe)(Qa:List Int)(es:List (F4×F4))(hr:XT rf=true)(hp:QG rf Qa=true)(he:JC rf es)(hs:4<=rf.seasons){B:Lo}(hJ:∀w,B.has w->J0 w):FinK YP B (Rj rf Qa es) (dy rf Qa es) 2 (.ret (.agg #[.int .i64 (QR rf Qa 4).a,.int .i64 (QR rf Qa 4).b,.int .i64 (QR rf Qa 4).c,.int .i64 (QR rf Qa 4).d])) (([1]:List Nat).zip [.map (mapA QB (XK rf Qa 4 es)) (XK rf Qa 4 es).length]) [] ([1]:List Nat):=by
 have Zm:=Qy (Q8 hr).1;have Pr:=(QM hp).1;have hpg:∀j:Nat,0<=Qa.getD j 0/\Qa.getD j 0<=1000000:=fun j=>(fun h=>⟨h.1,by omega⟩) (Zq hr hp j)
 have hf4:=(Sc (Qa:=Qa) hr (s:=3) (by omega)).1;have hs4:=(Sc (Qa:=Qa) hr (s:=3) (by omega)).2;have hnx:=Jb (rf:=rf) (Qa:=Qa) (s:=3) (by omega);have WB:Qz (nJ B rf Qa es):=by
  exact⟨⟨trivial,IX (Qa.getD 0 0) (Qa.getD 1 0) (Qa.getD 2 0) (Qa.getD 3 0) (4) (by omega) (by omega)⟩,trivial⟩
 cases q0:Sj QB es {a:=if 0<4 then Qa.getD 0 0 else -1,b:=if 1<4 then Qa.getD 1 0 else -1,c:=if 2<4 then Qa.getD 2 0 else -1,d:=if 3<4 then Qa.getD 3 0 else -1}with
 |true=>
  have hfo:=aC (s:=4) hr hp he (by omega) q0;exact(GoE.finK okF hJ Qf (Q1 (by kernel_rfl)) (Qr (by kernel_rfl)) ((GoE.refl (P:=YP) (B:=B) (c0:=Rj rf Qa es) (Q1 (by kernel_rfl))).widen (Wf:=((([(1,KS.same)]):List (Nat×KS)).map (·.1))) (by simp) (Qr (by kernel_rfl))) (GV B rf Qa es)
   ⟨(by exact X0 (fun _=>by kernel_rfl)),⟨(rW (k:={a:=if 0<4 then Qa.getD 0 0 else -1,b:=if 1<4 then Qa.getD 1 0 else -1,c:=if 2<4 then Qa.getD 2 0 else -1,d:=if 3<4 then Qa.getD 3 0 else -1}) (ok:=true) WH rfl q0),WB⟩⟩).cast (by(show _=OO.ret (v4 (QR rf Qa 4));rw[<-hfo];rfl)) (by(unfold XK;rw[show Sj QB es (Tx Qa ((3+1:Nat):Int))=_ from q0];rfl)) (by rfl)
 |false=>
  exact(GoE.finK okF hJ Qf (Q1 (by kernel_rfl)) (Qr (by kernel_rfl)) ((GoE.refl (P:=YP) (B:=B) (c0:=Rj rf Qa es) (Q1 (by kernel_rfl))).widen (Wf:=((([(1,KS.same)]):List (Nat×KS)).map (·.1))) (by simp) (Qr (by kernel_rfl))) (GU B rf Qa es)
   ⟨(by exact X0 (fun _=>by kernel_rfl)),⟨(Li (k:={a:=if 0<4 then Qa.getD 0 0 else -1,b:=if 1<4 then Qa.getD 1 0 else -1,c:=if 2<4 then Qa.getD 2 0 else -1,d:=if 3<4 then Qa.getD 3 0 else -1}) (x:=Q6 (Jc rf) (JD rf (Qa.getD (Int.toNat 3) 0)) rf.Qb {a:=F4.a (QR rf Qa 3),b:=F4.b (QR rf Qa 3),c:=F4.c (QR rf Qa 3),d:=F4.d (QR rf Qa 3)}) WH rfl),⟨⟨trivial,jk (rf) (Qa) (F4.a (QR rf Qa 3)) (F4.b (QR rf Qa 3)) (F4.c (QR rf Qa 3)) (F4.d (QR rf Qa 3)) (3) (by with_reducible assumption) (by omega) (by with_reducible assumption) (by omega) (by omega) (by with_reducible assumption) (by with_reducible assumption)⟩,⟨⟨⟨(X0 (fun _=>by kernel_rfl)),⟨(X0 (fun _=>by kernel_rfl)),trivial⟩⟩,Mo (rf) (Qa) (es) (by with_reducible assumption) (by with_reducible assumption) (by with_reducible assumption) (by omega)⟩,⟨(rX (k:={a:=if 0<4 then Qa.getD 0 0 else -1,b:=if 1<4 then Qa.getD 1 0 else -1,c:=if 2<4 then Qa.getD 2 0 else -1,d:=if 3<4 then Qa.getD 3 0 else -1}) (ok:=true) WH rfl rfl (by kernel_rfl) q0),WB⟩⟩⟩⟩⟩).cast (by(show _=OO.ret (v4 (QR rf Qa (3+1)));rw[hnx];rfl)) (by(unfold XK;rw[show Sj QB es (Tx Qa ((3+1:Nat):Int))=_ from q0];rfl)) (by rfl)
def Lp(rf:Qe)(Qa:List Int)(es:List (F4×F4)):OO:=.ret (.agg #[.int .i64 (QR rf Qa 4).a,.int .i64 (QR rf Qa 4).b,.int .i64 (QR rf Qa 4).c,.int .i64 (QR rf Qa 4).d])
def Ln(rf:Qe)(Qa:List Int)(es:List (F4×F4)):List Obj:=[.map (mapA QB (XK rf Qa 4 es)) (XK rf Qa 4 es).length]
def Lq(rf:Qe)(Qa:List Int)(es:List (F4×F4)):List Obj:=[]
theorem Oj(rf:Qe)(Qa:List Int)(es:List (F4×F4))(hr:XT rf=true)(hp:QG rf Qa=true)(he:JC rf es)(hs:4<=rf.seasons):WriC YP J0 89 #[.agg #[Qt 0 (UN rf.Qb),.int .i64 rf.miss,.int .i64 rf.seasons,.map (some 1)],.agg #[.int .i64 (Qa.getD 0 0),.int .i64 (Qa.getD 1 0),.int .i64 (Qa.getD 2 0),.int .i64 (Qa.getD 3 0)],.int .i64 4] [.map (mapA QB es) es.length] (Lp rf Qa es) (Ln rf Qa es) (Lq rf Qa es):=
 FinK.wri (c0:=Rj rf Qa es) (Hb:=dy rf Qa es) (a:=2) (ws:=([1]:List Nat).zip [.map (mapA QB (XK rf Qa 4 es)) (XK rf Qa 4 es).length]) (Wf:=([1]:List Nat)) (by kernel_rfl) rfl rfl rfl rfl fun B hJ=>Lr rf Qa es hr hp he hs hJ
end
end Go.Proofs.Ytncjjangllkokaa

namespace Go.Proofs.Ytncjjangllkokaa
open Go Go.CE Go.RowKit
noncomputable section
set_option maxRecDepth 100000
def rH(rf:Qe)(Qa:List Int)(es:List (F4×F4))(k:Int):OO:=.ret (.agg #[.int .i64 (QR rf Qa k.toNat).a,.int .i64 (QR rf Qa k.toNat).b,.int .i64 (QR rf Qa k.toNat).c,.int .i64 (QR rf Qa k.toNat).d])
def rG(rf:Qe)(Qa:List Int)(es:List (F4×F4))(k:Int):List Obj:=[.map (mapA QB (XK rf Qa k.toNat es)) (XK rf Qa k.toNat es).length]
def rI(rf:Qe)(Qa:List Int)(es:List (F4×F4))(k:Int):List Obj:=[]
def IK(rf:Qe)(Qa:List Int)(es:List (F4×F4))(k:Int):Prop:=WriC YP J0 89 #[.agg #[Qt 0 (UN rf.Qb),.int .i64 rf.miss,.int .i64 rf.seasons,.map (some 1)],.agg #[.int .i64 (Qa.getD 0 0),.int .i64 (Qa.getD 1 0),.int .i64 (Qa.getD 2 0),.int .i64 (Qa.getD 3 0)],.int .i64 k] [.map (mapA QB es) es.length] (rH rf Qa es k) (rG rf Qa es k) (rI rf Qa es k)
theorem NZ(rf:Qe)(Qa:List Int)(es:List (F4×F4))(k:Int)(hr:XT rf=true)(hp:QG rf Qa=true)(he:JC rf es)(k0:0<=k)(hk:k<=rf.seasons):WriC YP J0 89 #[.agg #[Qt 0 (UN rf.Qb),.int .i64 rf.miss,.int .i64 rf.seasons,.map (some 1)],.agg #[.int .i64 (Qa.getD 0 0),.int .i64 (Qa.getD 1 0),.int .i64 (Qa.getD 2 0),.int .i64 (Qa.getD 3 0)],.int .i64 k] [.map (mapA QB es) es.length] (rH rf Qa es k) (rG rf Qa es k) (rI rf Qa es k):=by
 have Zm:=Qy (Q8 hr).1;rcases(show k=0\/k=1\/k=2\/k=3\/k=4 by omega)with rfl|rfl|rfl|rfl|rfl
 ·exact Mr rf Qa es hr hp he
 ·exact Mq rf Qa es hr hp he hk
 ·exact Mp rf Qa es hr hp he hk
 ·exact Mo rf Qa es hr hp he hk
 ·exact Oj rf Qa es hr hp he hk
def X4(f:F4):List Qd->Int->Bool×Int×Int
 |[],_=>(false,0,0)
 |x::l,i=>bif decide (0<x.goal-f.at i)then(true,i,x.goal-f.at i)else X4 f l (i+1)
theorem UX{f:F4}{l:List Qd}{i:Int}(h0:0<=i)(h:i<l.length):X4 f (l.drop i.toNat) i=bif decide (0<(l.getD i.toNat default).goal-f.at i)then(true,i,(l.getD i.toNat default).goal-f.at i)else X4 f (l.drop (i+1).toNat) (i+1):=by
 obtain⟨k,rfl⟩:∃k:Nat,i=k:=⟨i.toNat,by omega⟩
 have hk:k<l.length:=by omega
 have e1:((k:Int)).toNat=k:=by omega
 have e2:((k:Int)+1).toNat=k+1:=by omega
 rw[e1,e2,List.drop_eq_getElem_cons hk];simp[X4,List.getD_eq_getElem?_getD,hk]
theorem kx{f:F4}{l:List Qd}{i:Int}(h:l.length<=i):X4 f (l.drop i.toNat) i=(false,0,0):=by
 rw[List.drop_eq_nil_of_le (by omega)];rfl
theorem pr{f:F4}:∀{l:List Qd} {i:Int},(X4 f l i).1=false->X4 f l i=(false,0,0)
 |[],_,_=>rfl
 |x::l,i,h=>by
  unfold X4 at h ⊢;cases e:decide (0<x.goal-f.at i)with
  |true=>rw[e]at h;cases h
  |false=>rw[e]at h;exact pr h
def Jr(x_:Qd):Array Value:=#[.int .i64 x_.count,.int .i64 x_.room,.int .i64 x_.glo,.int .i64 x_.ghi,.int .i64 x_.drift,.int .i64 x_.into,.int .i64 x_.olo,.int .i64 x_.ohi,.int .i64 x_.slo,.int .i64 x_.shi,.int .i64 x_.goal,.int .i64 x_.worth]
def X1(ps:List Qd)(f:F4):Qo:=[(3,Obj.cells #[.bool false] 4),(2,Obj.cells #[.int .i64 0,.int .i64 0] 94),(1,Obj.cells #[.int .i64 f.a,.int .i64 f.b,.int .i64 f.c,.int .i64 f.d] 111),(0,Obj.coro none)]
def Zr(ps:List Qd)(f:F4):CF:=⟨88,ofList 26 [Qt 0 (QE ps.length (Qg Qh ps)),.agg #[.int .i64 f.a,.int .i64 f.b,.int .i64 f.c,.int .i64 f.d],.tuple #[],pA 1 0,pA 2 0,pA 3 0,.tuple #[],.tuple #[],Value.func (Fn.func 109) #[] #[pA 2 0,pA 3 0],.tuple #[],.tuple #[],.tuple #[],.tuple #[],.tuple #[],.tuple #[],.tuple #[],.tuple #[],.tuple #[],.tuple #[],.tuple #[],.tuple #[],.tuple #[],.tuple #[],.tuple #[],.tuple #[],.tuple #[]],[Item.code (Code.seq (Code.seq (Code.region 2 #[{dst:=some 9,op:=Op.move (Operand.tmp 0),type:=22,pos:= "best.go:49",after:=#[],guard:=none},{dst:=some 10,op:=Op.call {callee:=Callee.builtin Builtin.len,args:=#[Operand.tmp 9],argTypes:=#[22]},type:=3,pos:= "best.go:49",after:=#[{on:=0,ground:=Ground.data}],guard:=none},{dst:=some 11,op:=Op.move (Operand.const (.int .i64 0)),type:=3,pos:= "best.go:49",after:=#[],guard:=none}] false) (Code.block 0 (Code.loop (Code.seq (Code.region 3 #[{dst:=some 12,op:=Op.binOp BinOp.lss 3 (Operand.tmp 11) (Operand.tmp 10) 3,type:=0,pos:= "best.go:49",after:=#[],guard:=none}] false) (Code.seq (Code.cond (Operand.tmp 12) Code.skip (Code.exit 0)) (Code.seq (Code.block 1 (Code.seq (Code.region 4 #[{dst:=some 13,op:=Op.move (Operand.tmp 11),type:=3,pos:= "best.go:49",after:=#[],guard:=none},{dst:=some 14,op:=Op.indexAddr 22 (Operand.tmp 9) (Operand.tmp 11),type:=0,pos:= "best.go:49",after:=#[],guard:=none},{dst:=some 15,op:=Op.load 54 (Operand.tmp 14),type:=54,pos:= "best.go:49",after:=#[{on:=1,ground:=Ground.data}],guard:=none},{dst:=some 7,op:=Op.alloc 54,type:=0,pos:= "best.go:49",after:=#[],guard:=none},{dst:=some 6,op:=Op.assign (Operand.tmp 13),type:=3,pos:= "best.go:49",after:=#[{on:=0,ground:=Ground.data},{on:=0,ground:=Ground.phase},{on:=1,ground:=Ground.phase},{on:=2,ground:=Ground.phase},{on:=3,ground:=Ground.phase}],guard:=none},{dst:=none,op:=Op.store 54 (Operand.tmp 7) (Operand.tmp 15),type:=0,pos:= "best.go:49",after:=#[{on:=3,ground:=Ground.data},{on:=2,ground:=Ground.data},{on:=4,ground:=Ground.chain},{on:=0,ground:=Ground.phase},{on:=1,ground:=Ground.phase},{on:=2,ground:=Ground.phase},{on:=3,ground:=Ground.phase},{on:=4,ground:=Ground.phase}],guard:=none}] false) (Code.region 5 #[{dst:=some 16,op:=Op.move (Operand.tmp 6),type:=3,pos:= "best.go:50",after:=#[],guard:=none},{dst:=some 17,op:=Op.fieldAddr 54 (Operand.tmp 7) 7,type:=0,pos:= "best.go:50",after:=#[],guard:=none},{dst:=some 18,op:=Op.load 3 (Operand.tmp 17),type:=3,pos:= "best.go:50",after:=#[{on:=1,ground:=Ground.data}],guard:=none},{dst:=some 19,op:=Op.move (Operand.tmp 6),type:=3,pos:= "best.go:50",after:=#[],guard:=none},{dst:=some 20,op:=Op.indexAddr 111 (Operand.tmp 3) (Operand.tmp 19),type:=0,pos:= "best.go:50",after:=#[{on:=3,ground:=Ground.data}],guard:=none},{dst:=some 21,op:=Op.load 3 (Operand.tmp 20),type:=3,pos:= "best.go:50",after:=#[{on:=4,ground:=Ground.data}],guard:=none},{dst:=some 22,op:=Op.binOp BinOp.sub 3 (Operand.tmp 18) (Operand.tmp 21) 3,type:=3,pos:= "best.go:50",after:=#[{on:=2,ground:=Ground.data},{on:=5,ground:=Ground.data}],guard:=none},{dst:=some 23,op:=Op.call {callee:=Callee.value (Operand.func 110),args:=#[Operand.tmp 16,Operand.tmp 22],argTypes:=#[3,3]},type:=0,pos:= "best.go:50",after:=#[{on:=0,ground:=Ground.data},{on:=6,ground:=Ground.data}],guard:=none}] true))) (Code.region 6 #[{dst:=some 24,op:=Op.binOp BinOp.add 3 (Operand.tmp 11) (Operand.const (.int .i64 1)) 3,type:=3,pos:= "best.go:49",after:=#[],guard:=none},{dst:=some 11,op:=Op.move (Operand.tmp 24),type:=3,pos:= "best.go:49",after:=#[{on:=0,ground:=Ground.data}],guard:=none}] false))))))) (Code.seq (Code.region 7 #[{dst:=some 25,op:=Op.build 94 #[],type:=94,pos:= "best.go:52",after:=#[],guard:=none},{dst:=none,op:=Op.store 94 (Operand.tmp 4) (Operand.tmp 25),type:=0,pos:= "best.go:52",after:=#[{on:=0,ground:=Ground.data},{on:=0,ground:=Ground.phase}],guard:=none},{dst:=none,op:=Op.store 4 (Operand.tmp 5) (Operand.const (.bool false)),type:=0,pos:= "best.go:52",after:=#[{on:=1,ground:=Ground.chain},{on:=0,ground:=Ground.phase},{on:=1,ground:=Ground.phase}],guard:=none}] false) Code.ret))],[],.run,none⟩
def Z4(ps:List Qd)(f:F4)(i:Int):List Value:=[pA 1 0,pA 2 0,pA 3 0,Qt 0 (QE ps.length (Qg Qh ps)),.int .i64 (↑ps.length:Int),.int .i64 i]
def Z3(ps:List Qd)(f:F4)(i:Int):List Obj:=[Obj.cells #[.bool false] 4,Obj.cells #[.int .i64 0,.int .i64 0] 94]
def Zl(ps:List Qd)(f:F4)(i:Int):List Obj:=[]
def Z5:List Item:=([.code [1,1,0,1,0,0],.inLoop [1,1,0,1,0,0],.inBlock 0,.code [1,1,1]]).map (it (QT YP 88))
def Js(B:Lo)(ps:List Qd)(f:F4)(i:Int)(Qn:Nat->Value):List Prop:=let e:=Int.toNat i;let g:=ps.getD e default;[wq (g.goal-Qm [f.a,f.b,f.c,f.d] e)=g.goal-Qm [f.a,f.b,f.c,f.d] e,#[Value.int .i64 f.a,.int .i64 f.b,.int .i64 f.c,.int .i64 f.d][0+Int.toNat i*1]? =some (.int .i64 (Qm [f.a,f.b,f.c,f.d] e)),i=(↑e:Int)/\Int.toNat i<4,i=(↑e:Int)/\Int.toNat i<List.length ps/\Array.extract (Qg Qh ps) (Int.toNat i*TypeInfo.size Try.t54) (Int.toNat i*TypeInfo.size Try.t54+TypeInfo.size Try.t54)=(Jr g),XU i (↑ps.length:Int)=true]++([]:List Prop)
def Td(ps:List Qd)(f:F4)(i:Int)(Qn:Nat->Value):Q5:=let e:=Int.toNat i;let g:=ps.getD e default;[(0,Wo),(2,Qk.tidx e (Jr g)),(11,Qk.ZH (Hint.idx e)),(12,Qk.ZH (Hint.ld (.int .i64 (Qm [f.a,f.b,f.c,f.d] e)))),(13,VE (g.goal-Qm [f.a,f.b,f.c,f.d] e))]
def Zs(ps:List Qd)(f:F4)(i:Int)(Qn:Nat->Value):Qo:=[(5,Obj.cells (Jr (ps.getD i.toNat default)) 54),(3,Obj.cells #[.bool false] 4),(2,Obj.cells #[.int .i64 0,.int .i64 0] 94),(4,Obj.coro none),(3,Obj.cells #[.bool false] 4),(2,Obj.cells #[.int .i64 0,.int .i64 0] 94),(1,Obj.cells #[.int .i64 f.a,.int .i64 f.b,.int .i64 f.c,.int .i64 f.d] 111),(0,Obj.coro none)]
def ZX(ps:List Qd)(f:F4)(i:Int)(Qn:Nat->Value):CF:=⟨110,ofList 10 [.int .i64 i,.int .i64 (Qd.goal (ps.getD i.toNat default)-Qm [f.a,f.b,f.c,f.d] i.toNat)],[Item.code (QT YP 110)],[],.run,none⟩
theorem lN(B:Lo)(ps:List Qd)(f:F4)(i:Int)(Qn:Nat->Value):let e:=Qd.goal (ps.getD i.toNat default)-Qm [f.a,f.b,f.c,f.d] i.toNat;CE.finK 6 (Qq YP (Q3 YP) J0 B 5 6 (ZX ps f i Qn) (Zs ps f i Qn) 6
 [(1,Wo)] 0 [] []) [] [] []=some (OO.Z6 (Value.iface 94 (.agg #[.int .i64 i,.int .i64 e])),[],[],
 [XU 0 e=true]):=by intro e;kernel_rfl
theorem lM(B:Lo)(ps:List Qd)(f:F4)(i:Int)(Qn:Nat->Value):let g:=Zl ps f i;let e:=Value.iface 94 (.agg #[.int .i64 i,.int .i64 (Qd.goal (ps.getD i.toNat default)-Qm [f.a,f.b,f.c,f.d] i.toNat)]);CE.landU 4 (Qq YP (Q3 YP) J0 B 10 4 (WO (none) 88 26 (([3,4,5,9,10,11]:List Nat).zip (Z4 ps f i)) Qn Z5) (Z1 (X1 ps f) 4 (([3,2]:List Nat).zip (Z3 ps f i)) g) (4+1+g.length)
 (Td ps f i Qn++[(14,Qk.call (List.range 6) (OO.Z6 e) ([]++(6,Xa)::QU 7 []) 7 [])]) 0 [] []) [4,5] [(3,KS.auto),(2,KS.auto)] [] []=some (88,26,none,OO.Z6 e,[pA 2 0,pA 3 0],[(3,Obj.cells #[.bool false] 4),(2,Obj.cells #[.int .i64 0,.int .i64 0] 94)],[],
 [FJ YP B (ZX ps f i Qn) (Zs ps f i Qn) 6 (OO.Z6 e) (([]++((6,Xa)::QU (6+1) []))++Zs ps f i Qn) 7 (List.range 6) []]++Js B ps f i Qn):=by intro g e;kernel_rfl
theorem lL(B:Lo)(ps:List Qd)(f:F4)(i:Int)(Qn:Nat->Value):CE.finK 6 (Qq YP (Q3 YP) J0 B 6 6 (ZX ps f i Qn) (Zs ps f i Qn) 6
 [(1,W8)] 0 [] []) [] [] []=some (OO.ret (.tuple #[]),[],[],
 [XU 0 (Qd.goal (ps.getD i.toNat default)-Qm [f.a,f.b,f.c,f.d] i.toNat)=false]):=by kernel_rfl
theorem lK(B:Lo)(ps:List Qd)(f:F4)(i:Int)(Qn:Nat->Value):let b:=OO.ret (.tuple #[]);let a:=Zl ps f i;CE.landA 4 (Qq YP (Q3 YP) J0 B 13 4 (WO (none) 88 26 (([3,4,5,9,10,11]:List Nat).zip (Z4 ps f i)) Qn Z5) (Z1 (X1 ps f) 4 (([3,2]:List Nat).zip (Z3 ps f i)) a) (4+1+a.length)
 (Td ps f i Qn++[(14,Qk.call (List.range 6) b ([]++(6,Xa)::QU 7 []) 7 []),(15,VE (i+1))]) 0 [] []) [3,4,5,9,10,11] [(3,KS.auto),(2,KS.auto)] [] []=some ⟨88,26,Z5,[],.run,none,Z4 ps f (i+1),([3,2]:List Nat).zip (Z3 ps f (i+1)),Zl ps f (i+1),
 [wq (i+1)=i+1,FJ YP B (ZX ps f i Qn) (Zs ps f i Qn) 6 b (([]++((6,Xa)::QU (6+1) []))++Zs ps f i Qn) 7 (List.range 6) []]++Js B ps f i Qn⟩:=by intro b a;kernel_rfl
theorem lJ(B:Lo)(ps:List Qd)(f:F4)(i:Int)(Qn:Nat->Value):let a:=Zl ps f i;CE.landU 4 (Qq YP (Q3 YP) J0 B 8 4 (WO (none) 88 26 (([3,4,5,9,10,11]:List Nat).zip (Z4 ps f i)) Qn Z5) (Z1 (X1 ps f) 4 (([3,2]:List Nat).zip (Z3 ps f i)) a) (4+1+a.length)
 [(0,W8)] 0 [] []) [4,5] [(3,KS.auto),(2,KS.auto)] [] []=some (88,26,none,OO.ret (.tuple #[]),[pA 2 0,pA 3 0],[(3,Obj.cells #[.bool false] 4),(2,Obj.cells #[.int .i64 0,.int .i64 0] 94)],[],
 [XU i (↑ps.length:Int)=false]):=by intro a;kernel_rfl
set_option maxHeartbeats 4000000 in
theorem JU(ps:List Qd)(f:F4)(hl:ps.length<=4)(hg:∀i:Int,0<=i->i<ps.length->0<=(ps.getD i.toNat default).goal/\(ps.getD i.toNat default).goal<=1000000)(hf:J6 ⟨f.a,f.b,f.c,f.d⟩){B:Lo}(hJ:∀w,B.has w->J0 w):∀m:Nat,(∀(i:Int),∀(r:Bool),((X4 f (ps.drop i.toNat) i).1)=r->(ps.length-i.toNat)=m->∀(h0:0<=i),(∃Qn:Nat->Value,(∀t,X6 (Qn t))/\GoE YP B (Zr ps f) (X1 ps f) 4 (WO (none) 88 26 (([3,4,5,9,10,11]:List Nat).zip (Z4 ps f i)) Qn Z5) (Z1 (X1 ps f) 4 (([3,2]:List Nat).zip (Z3 ps f i)) (Zl ps f i)) (4+1+(Zl ps f i).length) ([3,2]:List Nat))->FinU YP B (Zr ps f) (X1 ps f) 4 (bif r then .Z6 (.iface 94 (.agg #[.int .i64 (X4 f (ps.drop i.toNat) i).2.1,.int .i64 (X4 f (ps.drop i.toNat) i).2.2]))else .ret (.tuple #[])) (([4,5]:List Nat).zip [pA 2 0,pA 3 0]) (([3,2]:List Nat).zip ([Obj.cells #[.bool false] 4,Obj.cells #[.int .i64 0,.int .i64 0] 94])) ([]) ([3,2]:List Nat)):=by
 intro m0;induction m0 using Nat.strongRecOn with
 |_ m0 ih0=>
  intro i r1 hr1 hm0 h0 ⟨Qn,Ur,XM⟩;have Ys:Qm [f.a,f.b,f.c,f.d] i.toNat=f.at i:=rfl;by_cases q0:(i:Int)<((↑ps.length:Int))
  ·have WB:Qz (Js B ps f i Qn):=by
    have hgi:=hg i h0 q0;have hfi:=Uh (f:=f) hf h0 (by omega);have s1:=UX (f:=f) h0 q0;exact⟨(Xy (by omega) (by omega)),⟨(Sr rfl (Nat.lt_of_lt_of_eq (m:=4) (by omega) rfl)),⟨⟨by omega,by omega⟩,⟨⟨by omega,by omega,(Q4 (z:=12) (fun _=>rfl) (by omega))⟩,⟨(XF q0),trivial⟩⟩⟩⟩⟩
   by_cases q1:(0:Int)<(Qd.goal (ps.getD i.toNat default)-Qm [f.a,f.b,f.c,f.d] i.toNat)
   ·have rj1:FJ YP B (ZX ps f i Qn) (Zs ps f i Qn) 6 (OO.Z6 (Value.iface 94 (.agg #[.int .i64 i,.int .i64 (Qd.goal (ps.getD i.toNat default)-Qm [f.a,f.b,f.c,f.d] i.toNat)]))) (([]++((6,Xa)::QU (6+1) []))++Zs ps f i Qn) 7 (List.range 6) []:=by
     have hgi:=hg i h0 q0;have hfi:=Uh (f:=f) hf h0 (by omega);have s1:=UX (f:=f) h0 q0;rw[decide_eq_true (show 0<(ps.getD i.toNat default).goal-f.at i from q1),cond_true]at s1;exact FinK.fjB (GoE.finK okF hJ Qf (Q1 (by kernel_rfl)) (Qr (by kernel_rfl)) ((GoE.refl (P:=YP) (B:=B) (c0:=ZX ps f i Qn) (Q1 (by kernel_rfl))).widen (Wf:=((([]):List (Nat×KS)).map (·.1))) (by simp) (Qr (by kernel_rfl))) (lN B ps f i Qn)
      ⟨(XF q1),trivial⟩) (ex:=[]) (by kernel_rfl) (Wj _)
    have hgi:=hg i h0 q0;have hfi:=Uh (f:=f) hf h0 (by omega);have s1:=UX (f:=f) h0 q0;rw[decide_eq_true (show 0<(ps.getD i.toNat default).goal-f.at i from q1),cond_true]at s1;exact(GoE.landU (wks:=[(3,KS.auto),(2,KS.auto)]) okF hJ Qf (Q1 (by kernel_rfl)) (Qr (by kernel_rfl)) XM (lM B ps f i Qn)
     (by exact⟨rj1,WB⟩) (by kernel_rfl) rfl).cast (by(subst hr1;rw[s1];rfl)) (by rfl) (by rfl)
   ·have rj1:FJ YP B (ZX ps f i Qn) (Zs ps f i Qn) 6 (OO.ret (.tuple #[])) (([]++((6,Xa)::QU (6+1) []))++Zs ps f i Qn) 7 (List.range 6) []:=by
     have hgi:=hg i h0 q0;have hfi:=Uh (f:=f) hf h0 (by omega);have s1:=UX (f:=f) h0 q0;rw[decide_eq_false (show ¬0<(ps.getD i.toNat default).goal-f.at i from q1),cond_false]at s1;exact FinK.fjB (GoE.finK okF hJ Qf (Q1 (by kernel_rfl)) (Qr (by kernel_rfl)) ((GoE.refl (P:=YP) (B:=B) (c0:=ZX ps f i Qn) (Q1 (by kernel_rfl))).widen (Wf:=((([]):List (Nat×KS)).map (·.1))) (by simp) (Qr (by kernel_rfl))) (lL B ps f i Qn)
      ⟨(XO (Int.not_lt.1 q1)),trivial⟩) (ex:=[]) (by kernel_rfl) (Wj _)
    have hgi:=hg i h0 q0;have hfi:=Uh (f:=f) hf h0 (by omega);have s1:=UX (f:=f) h0 q0;rw[decide_eq_false (show ¬0<(ps.getD i.toNat default).goal-f.at i from q1),cond_false]at s1;exact((ih0 _ (by omega)) (i+1) r1 (by rw[<-hr1,s1]) rfl (by omega)
     (GoE.landA okF hJ Qf (Q1 (by kernel_rfl)) (Qr (by kernel_rfl)) XM (lK B ps f i Qn)
     ⟨(Xy (by omega) (by omega)),⟨rj1,WB⟩⟩ (by kernel_rfl) (by kernel_rfl) (fun l hl=>by cases hl <;> decide))).cast (by(subst hr1;rw[s1];done)) (by rfl) (by rfl)
  ·have s1:=kx (f:=f) (l:=ps) (i:=i) (by omega);exact(GoE.landU (wks:=[(3,KS.auto),(2,KS.auto)]) okF hJ Qf (Q1 (by kernel_rfl)) (Qr (by kernel_rfl)) XM (lJ B ps f i Qn)
    (by exact⟨(XO (Int.not_lt.1 q0)),trivial⟩) (by kernel_rfl) rfl).cast (by(subst hr1;rw[s1];rfl)) (by rfl) (by rfl)

theorem lO(B:Lo)(ps:List Qd)(f:F4):CE.landA 4 (Qq YP (Q3 YP) J0 B 5 4 (Zr ps f) (X1 ps f) 4
 [] 0 [] []) [3,4,5,9,10,11] [(3,KS.auto),(2,KS.auto)] [] []=some ⟨88,26,Z5,[],.run,none,Z4 ps f (0),([3,2]:List Nat).zip (Z3 ps f (0)),Zl ps f (0),
 []⟩:=by kernel_rfl
theorem lI(B:Lo)(ps:List Qd)(f:F4):let h:=([4,5]:List Nat).zip [pA 2 0,pA 3 0];let e:=Prod.snd (X4 f (List.drop (Int.toNat 0) ps) 0);let j:=Prod.snd e;let i:=Prod.fst e;let g:=OO.Z6 (Value.iface 94 (.agg #[.int .i64 i,.int .i64 j]));QQ (tM YP (Q3 YP) J0 B 3 1 (Qp YP 88 26 (([UN ps,.agg #[.int .i64 f.a,.int .i64 f.b,.int .i64 f.c,.int .i64 f.d]]).map (Q2 0 4))) XV 1
 g h ([(3,Obj.cells #[.bool false] 4),(2,Obj.cells #[.int .i64 0,.int .i64 0] 94)]++(4,Xa)::QU 5 []) 5 [3,2] (.tuple #[.agg #[.int .i64 i,.int .i64 j],.bool true]) [2,3]) []=some (.tuple #[.agg #[.int .i64 i,.int .i64 j],.bool true],
 [UJ YP B (Zr ps f) (X1 ps f) 4 g h (([(3,Obj.cells #[.bool false] 4),(2,Obj.cells #[.int .i64 0,.int .i64 0] 94)]++((4,Xa)::QU (4+1) []))++X1 ps f) 5 (List.range 4) [3,2],∀d:Nat->Value,kB YP 88 ([(3,Obj.cells #[.bool true] 4),(2,Obj.cells #[.int .i64 i,.int .i64 j] 94),(4,Obj.coro none),(3,Obj.cells #[.bool false] 4),(2,Obj.cells #[.int .i64 0,.int .i64 0] 94),(1,Obj.cells #[.int .i64 f.a,.int .i64 f.b,.int .i64 f.c,.int .i64 f.d] 111),(0,Obj.coro none)]) (Ii 26 h d)=some (.tuple #[.agg #[.int .i64 i,.int .i64 j],.bool true],[2,3])]):=by intro h e j i g;kernel_rfl
theorem lH(B:Lo)(ps:List Qd)(f:F4):CE.landA 4 (Qq YP (Q3 YP) J0 B 5 4 (Zr ps f) (X1 ps f) 4
 [] 0 [] []) [3,4,5,9,10,11] [(3,KS.auto),(2,KS.auto)] [] []=some ⟨88,26,Z5,[],.run,none,Z4 ps f (0),([3,2]:List Nat).zip (Z3 ps f (0)),Zl ps f (0),
 []⟩:=by kernel_rfl
theorem lG(B:Lo)(ps:List Qd)(f:F4):let g:=OO.ret (.tuple #[]);let e:=([4,5]:List Nat).zip [pA 2 0,pA 3 0];QQ (tM YP (Q3 YP) J0 B 3 1 (Qp YP 88 26 (([UN ps,.agg #[.int .i64 f.a,.int .i64 f.b,.int .i64 f.c,.int .i64 f.d]]).map (Q2 0 4))) XV 1
 g e ([(3,Obj.cells #[.bool false] 4),(2,Obj.cells #[.int .i64 0,.int .i64 0] 94)]++(4,Xa)::QU 5 []) 5 [3,2] (.tuple #[.agg #[.int .i64 0,.int .i64 0],.bool false]) [2,3]) []=some (.tuple #[.agg #[.int .i64 0,.int .i64 0],.bool false],
 [UJ YP B (Zr ps f) (X1 ps f) 4 g e (([(3,Obj.cells #[.bool false] 4),(2,Obj.cells #[.int .i64 0,.int .i64 0] 94)]++((4,Xa)::QU (4+1) []))++X1 ps f) 5 (List.range 4) [3,2],∀d:Nat->Value,kB YP 88 ([(3,Obj.cells #[.bool false] 4),(2,Obj.cells #[.int .i64 0,.int .i64 0] 94),(4,Obj.coro none),(3,Obj.cells #[.bool false] 4),(2,Obj.cells #[.int .i64 0,.int .i64 0] 94),(1,Obj.cells #[.int .i64 f.a,.int .i64 f.b,.int .i64 f.c,.int .i64 f.d] 111),(0,Obj.coro none)]) (Ii 26 e d)=some (.tuple #[.agg #[.int .i64 0,.int .i64 0],.bool false],[2,3])]):=by intro g e;kernel_rfl
set_option maxHeartbeats 4000000 in
theorem oK(ps:List Qd)(f:F4)(hl:ps.length<=4)(hg:∀i:Int,0<=i->i<ps.length->0<=(ps.getD i.toNat default).goal/\(ps.getD i.toNat default).goal<=1000000)(hf:J6 ⟨f.a,f.b,f.c,f.d⟩){B:Lo}(hJ:∀w,B.has w->J0 w):EndsT YP B (Qp YP 88 26 (([UN ps,.agg #[.int .i64 f.a,.int .i64 f.b,.int .i64 f.c,.int .i64 f.d]]).map (Q2 0 4))) (.tuple #[.agg #[.int .i64 (X4 f ps 0).2.1,.int .i64 (X4 f ps 0).2.2],.bool (X4 f ps 0).1]):=by
 cases q0:Prod.fst (X4 f (List.drop (Int.toNat 0) ps) 0)with
 |true=>
  have rj0:UJ YP B (Zr ps f) (X1 ps f) 4 (OO.Z6 (Value.iface 94 (.agg #[.int .i64 (Prod.fst (Prod.snd (X4 f (List.drop (Int.toNat 0) ps) 0))),.int .i64 (Prod.snd (Prod.snd (X4 f (List.drop (Int.toNat 0) ps) 0)))]))) (([4,5]:List Nat).zip [pA 2 0,pA 3 0]) (([(3,Obj.cells #[.bool false] 4),(2,Obj.cells #[.int .i64 0,.int .i64 0] 94)]++((4,Xa)::QU (4+1) []))++X1 ps f) 5 (List.range 4) [3,2]:=by
   exact FinU.ujB ((JU ps f hl hg hf hJ _) (0) true q0 rfl (by omega)
    (GoE.landA okF hJ Qf (Q1 (by kernel_rfl)) (Qr (by kernel_rfl)) ((GoE.refl (P:=YP) (B:=B) (c0:=Zr ps f) (Q1 (by kernel_rfl))).widen (Wf:=((([(3,KS.auto),(2,KS.auto)]):List (Nat×KS)).map (·.1))) (by simp) (Qr (by kernel_rfl))) (lO B ps f)
    trivial (by kernel_rfl) (by kernel_rfl) (fun l hl=>by cases hl <;> decide))) (ex:=[]) (by kernel_rfl) (Wj _)
  exact(GoE.endsD okF hJ Qf GoE.start (lI B ps f)
   (by exact⟨rj0,⟨(fun d=>by kernel_rfl),trivial⟩⟩)).cast (by(rw[show(X4 f ps 0).1=true from q0];rfl))
 |false=>
  have rj0:UJ YP B (Zr ps f) (X1 ps f) 4 (OO.ret (.tuple #[])) (([4,5]:List Nat).zip [pA 2 0,pA 3 0]) (([(3,Obj.cells #[.bool false] 4),(2,Obj.cells #[.int .i64 0,.int .i64 0] 94)]++((4,Xa)::QU (4+1) []))++X1 ps f) 5 (List.range 4) [3,2]:=by
   exact FinU.ujB ((JU ps f hl hg hf hJ _) (0) false q0 rfl (by omega)
    (GoE.landA okF hJ Qf (Q1 (by kernel_rfl)) (Qr (by kernel_rfl)) ((GoE.refl (P:=YP) (B:=B) (c0:=Zr ps f) (Q1 (by kernel_rfl))).widen (Wf:=((([(3,KS.auto),(2,KS.auto)]):List (Nat×KS)).map (·.1))) (by simp) (Qr (by kernel_rfl))) (lH B ps f)
    trivial (by kernel_rfl) (by kernel_rfl) (fun l hl=>by cases hl <;> decide))) (ex:=[]) (by kernel_rfl) (Wj _)
  exact(GoE.endsD okF hJ Qf GoE.start (lG B ps f)
   (by exact⟨rj0,⟨(fun d=>by kernel_rfl),trivial⟩⟩)).cast (by(rw[pr (f:=f) (l:=ps) (i:=0) q0]))
theorem gW(ps:List Qd)(f:F4)(hl:ps.length<=4)(hg:∀i:Int,0<=i->i<ps.length->0<=(ps.getD i.toNat default).goal/\(ps.getD i.toNat default).goal<=1000000)(hf:J6 ⟨f.a,f.b,f.c,f.d⟩):Qx YP J0 88 #[UN ps,.agg #[.int .i64 f.a,.int .i64 f.b,.int .i64 f.c,.int .i64 f.d]] (.tuple #[.agg #[.int .i64 (X4 f ps 0).2.1,.int .i64 (X4 f ps 0).2.2],.bool (X4 f ps 0).1]):=
 Xn (ts:=[UN ps,.agg #[.int .i64 f.a,.int .i64 f.b,.int .i64 f.c,.int .i64 f.d]]) Za (c0:=Qp YP 88 26 (([UN ps,.agg #[.int .i64 f.a,.int .i64 f.b,.int .i64 f.c,.int .i64 f.d]]).map (Q2 0 4))) (by kernel_rfl) (by kernel_rfl) fun B hJ=>oK ps f hl hg hf hJ
def aa(rf:Qe)(Qa:List Int)(es:List (F4×F4)):Qo:=[(1,.map (mapA QB es) es.length),(0,Xa)]
def YM(rf:Qe)(Qa:List Int)(es:List (F4×F4)):CF:=Qp YP 64 18 [.agg #[Qt 0 (UN rf.Qb),.int .i64 rf.miss,.int .i64 rf.seasons,.map (some 1)],.agg #[.int .i64 (Qa.getD 0 0),.int .i64 (Qa.getD 1 0),.int .i64 (Qa.getD 2 0),.int .i64 (Qa.getD 3 0)]]
def pY(rf:Qe)(Qa:List Int):Array Value:=#[.int .i64 (Prod.fst (Prod.snd (X4 (QR rf Qa (Int.toNat rf.seasons)) rf.Qb 0))),.int .i64 (Prod.snd (Prod.snd (X4 (QR rf Qa (Int.toNat rf.seasons)) rf.Qb 0)))]
def eX(B:Lo)(rf:Qe)(Qa:List Int)(es:List (F4×F4)):List Prop:=[Qz [XE (mapA QB es),XE (mapA QB (XK rf Qa (Int.toNat rf.seasons) es))]/\IK (rf) (Qa) (es) rf.seasons]++([]:List Prop)
def pZ(rf:Qe)(Qa:List Int)(es:List (F4×F4)):Q5:=[(12,Qk.wri [1] [0] [true] [] (rH rf Qa es rf.seasons) (rG rf Qa es rf.seasons) (rI rf Qa es rf.seasons))]
theorem C6(B:Lo)(rf:Qe)(Qa:List Int)(es:List (F4×F4)):let h:=rf.Qb;let g:=Value.tuple #[.agg (pY rf Qa),.bool true];let e:=Int.toNat rf.seasons;let i:=XK rf Qa e es;let f:=QR rf Qa e;let j:=Prod.snd (X4 f h 0);CE.finK 2 (Qq YP (Q3 YP) J0 B 6 2 (YM rf Qa es) (aa rf Qa es) 2
 (pZ rf Qa es++[(13,Qk.pure g [])]) 0 [] []) [(1,KS.same)] [] []=some (OO.ret (.tuple #[.agg #[.int .i64 (Prod.fst j),.int .i64 (Prod.snd j)],.bool true]),[(1,Obj.map (mapA QB i) i.length)],[],
 [XE (mapA QB i),Qz []/\Qx YP J0 88 #[QE h.length (Qg Qh h),.agg #[.int .i64 f.a,.int .i64 f.b,.int .i64 f.c,.int .i64 f.d]] g]++eX B rf Qa es):=by intro h g e i f j;kernel_rfl
theorem C5(B:Lo)(rf:Qe)(Qa:List Int)(es:List (F4×F4)):let h:=rf.Qb;let g:=Value.tuple #[.agg (pY rf Qa),.bool false];let e:=Int.toNat rf.seasons;let i:=XK rf Qa e es;let f:=QR rf Qa e;let j:=Prod.snd (X4 f h 0);CE.finK 2 (Qq YP (Q3 YP) J0 B 6 2 (YM rf Qa es) (aa rf Qa es) 2
 (pZ rf Qa es++[(13,Qk.pure g [])]) 0 [] []) [(1,KS.same)] [] []=some (OO.ret (.tuple #[.agg #[.int .i64 (Prod.fst j),.int .i64 (Prod.snd j)],.bool false]),[(1,Obj.map (mapA QB i) i.length)],[],
 [XE (mapA QB i),Qz []/\Qx YP J0 88 #[QE h.length (Qg Qh h),.agg #[.int .i64 f.a,.int .i64 f.b,.int .i64 f.c,.int .i64 f.d]] g]++eX B rf Qa es):=by intro h g e i f j;kernel_rfl
set_option maxHeartbeats 4000000 in
theorem FI(rf:Qe)(Qa:List Int)(es:List (F4×F4))(hr:XT rf=true)(hp:QG rf Qa=true)(he:JC rf es){B:Lo}(hJ:∀w,B.has w->J0 w):FinK YP B (YM rf Qa es) (aa rf Qa es) 2 (.ret (.tuple #[.agg #[.int .i64 (X4 (QR rf Qa rf.seasons.toNat) rf.Qb 0).2.1,.int .i64 (X4 (QR rf Qa rf.seasons.toNat) rf.Qb 0).2.2],.bool (X4 (QR rf Qa rf.seasons.toNat) rf.Qb 0).1])) (([1]:List Nat).zip [.map (mapA QB (XK rf Qa rf.seasons.toNat es)) (XK rf Qa rf.seasons.toNat es).length]) [] ([1]:List Nat):=by
 have Zm:=Qy (Q8 hr).1;have Pr:=(QM hp).1;have hf4:=(Sc (Qa:=Qa) hr (s:=rf.seasons.toNat) (by omega)).1;have J4:∀i:Int,0<=i->i<rf.Qb.length->0<=(rf.Qb.getD i.toNat default).goal/\(rf.Qb.getD i.toNat default).goal<=1000000:=fun i h0 h1=>(Xx ((Q8 hr).2 i h0 h1).1).2.2.1
 have WB:Qz (eX B rf Qa es):=by
  exact⟨⟨⟨(X0 (fun _=>by kernel_rfl)),⟨(X0 (fun _=>by kernel_rfl)),trivial⟩⟩,NZ (rf) (Qa) (es) rf.seasons (by with_reducible assumption) (by with_reducible assumption) (by with_reducible assumption) (by omega) (by omega)⟩,trivial⟩
 cases q0:Prod.fst (X4 (QR rf Qa (Int.toNat rf.seasons)) rf.Qb 0)with
 |true=>
  exact(GoE.finK okF hJ Qf (Q1 (by kernel_rfl)) (Qr (by kernel_rfl)) ((GoE.refl (P:=YP) (B:=B) (c0:=YM rf Qa es) (Q1 (by kernel_rfl))).widen (Wf:=((([(1,KS.same)]):List (Nat×KS)).map (·.1))) (by simp) (Qr (by kernel_rfl))) (C6 B rf Qa es)
   ⟨(by exact X0 (fun _=>by kernel_rfl)),⟨⟨trivial,(by have t_:=gW rf.Qb (QR rf Qa (Int.toNat rf.seasons)) (by omega) (by with_reducible assumption) (by with_reducible assumption);rw[q0]at t_;exact t_)⟩,WB⟩⟩).cast (by rfl) (by rfl) (by rfl)
 |false=>
  exact(GoE.finK okF hJ Qf (Q1 (by kernel_rfl)) (Qr (by kernel_rfl)) ((GoE.refl (P:=YP) (B:=B) (c0:=YM rf Qa es) (Q1 (by kernel_rfl))).widen (Wf:=((([(1,KS.same)]):List (Nat×KS)).map (·.1))) (by simp) (Qr (by kernel_rfl))) (C5 B rf Qa es)
   ⟨(by exact X0 (fun _=>by kernel_rfl)),⟨⟨trivial,(by have t_:=gW rf.Qb (QR rf Qa (Int.toNat rf.seasons)) (by omega) (by with_reducible assumption) (by with_reducible assumption);rw[q0]at t_;exact t_)⟩,WB⟩⟩).cast (by rfl) (by rfl) (by rfl)
def cx(rf:Qe)(Qa:List Int)(es:List (F4×F4)):OO:=.ret (.tuple #[.agg #[.int .i64 (X4 (QR rf Qa rf.seasons.toNat) rf.Qb 0).2.1,.int .i64 (X4 (QR rf Qa rf.seasons.toNat) rf.Qb 0).2.2],.bool (X4 (QR rf Qa rf.seasons.toNat) rf.Qb 0).1])
def cw(rf:Qe)(Qa:List Int)(es:List (F4×F4)):List Obj:=[.map (mapA QB (XK rf Qa rf.seasons.toNat es)) (XK rf Qa rf.seasons.toNat es).length]
def cy(rf:Qe)(Qa:List Int)(es:List (F4×F4)):List Obj:=[]
def uV(rf:Qe)(Qa:List Int)(es:List (F4×F4)):Prop:=WriC YP J0 64 #[.agg #[Qt 0 (UN rf.Qb),.int .i64 rf.miss,.int .i64 rf.seasons,.map (some 1)],.agg #[.int .i64 (Qa.getD 0 0),.int .i64 (Qa.getD 1 0),.int .i64 (Qa.getD 2 0),.int .i64 (Qa.getD 3 0)]] [.map (mapA QB es) es.length] (cx rf Qa es) (cw rf Qa es) (cy rf Qa es)
theorem FK(rf:Qe)(Qa:List Int)(es:List (F4×F4))(hr:XT rf=true)(hp:QG rf Qa=true)(he:JC rf es):WriC YP J0 64 #[.agg #[Qt 0 (UN rf.Qb),.int .i64 rf.miss,.int .i64 rf.seasons,.map (some 1)],.agg #[.int .i64 (Qa.getD 0 0),.int .i64 (Qa.getD 1 0),.int .i64 (Qa.getD 2 0),.int .i64 (Qa.getD 3 0)]] [.map (mapA QB es) es.length] (cx rf Qa es) (cw rf Qa es) (cy rf Qa es):=
 FinK.wri (c0:=YM rf Qa es) (Hb:=aa rf Qa es) (a:=2) (ws:=([1]:List Nat).zip [.map (mapA QB (XK rf Qa rf.seasons.toNat es)) (XK rf Qa rf.seasons.toNat es).length]) (Wf:=([1]:List Nat)) (by kernel_rfl) rfl rfl rfl rfl fun B hJ=>FI rf Qa es hr hp he hJ
def ZR(rf:Qe)(Qa:List Int):Bool×Int×Int:=X4 (QR rf Qa rf.seasons.toNat) rf.Qb 0
end
end Go.Proofs.Ytncjjangllkokaa

