/- Reef: the best plan. -/
import Derived.Test.YtncjjangllkokaaZRB15
import Derived.Test.YtncjjangllkokaaZRB16
set_option linter.all false
open Int renaming toNat->Lb
open List renaming length->Ld
open Nat renaming strongRecOn->LB
namespace Go.Proofs.Ytncjjangllkokaa
open Go Go.CE Go.RowKit
noncomputable section
set_option maxRecDepth 100000
def Kf(rf:Qc):Nat->Int->List (F4×F4)->Bool->Int->List (F4×F4)×Bool×Int
 |0,_,es,b,k=>(es,b,k)
 |n+1,i,es,b,k=>
  bif b && decide (Xk rf (QR rf k)<=Xk rf (QR rf i))then Kf rf n (i+1) es b k
  else bif (X5 rf (QR rf i)).1 then Kf rf n (i+1) (Xr rf (QR rf i) rf.Qb.toNat es) b k
  else Kf rf n (i+1) (Xr rf (QR rf i) rf.Qb.toNat es) true i
def QG(rf:Qc):Int:=((XR ((rf.Qa.length:Int)*rf.Qb):Nat):Int)
def je(rf:Qc):Bool:=(X5 rf (QR rf (QG rf-1))).1
def VP(rf:Qc)(es:List (F4×F4)):List (F4×F4)×Bool×Int:=
 bif je rf then(Xr rf (QR rf (QG rf-1)) rf.Qb.toNat es,false,0)
 else Kf rf (QG rf).toNat 0 (Xr rf (QR rf (QG rf-1)) rf.Qb.toNat es) false 0
def TL(rf:Qc):Nat->Int->Bool->Int->Bool×Int
 |0,_,b,k=>(b,k)
 |n+1,i,b,k=>
  bif b && decide (Xk rf (QR rf k)<=Xk rf (QR rf i))then TL rf n (i+1) b k
  else bif (X5 rf (QR rf i)).1 then TL rf n (i+1) b k
  else TL rf n (i+1) true i
def Xg(rf:Qc):Bool×Int:=bif je rf then(false,0)else TL rf (QG rf).toNat 0 false 0
theorem kC{rf:Qc}:∀(n:Nat) (i:Int) (es:List (F4×F4)) (b:Bool) (k:Int),(Kf rf n i es b k).2=TL rf n i b k
 |0,_,_,_,_=>rfl
 |n+1,i,es,b,k=>by
  unfold Kf TL;cases(b && decide (Xk rf (QR rf k)<=Xk rf (QR rf i)))with
  |true=>exact kC n _ _ _ _
  |false=>
   simp only[cond_false];cases(X5 rf (QR rf i)).1 with
   |true=>exact kC n _ _ _ _
   |false=>exact kC n _ _ _ _
theorem O8{rf:Qc}{es:List (F4×F4)}:(VP rf es).2=Xg rf:=by
 unfold VP Xg;cases je rf with
 |true=>rfl
 |false=>exact kC _ _ _ _ _
theorem Un{rf:Qc}(hp:1<=rf.Qa.length/\rf.Qa.length<=4)(hs:1<=rf.Qb/\rf.Qb<=4):(0<=(rf.Qa.length:Int)*rf.Qb/\(rf.Qa.length:Int)*rf.Qb<=16)/\1<=QG rf/\QG rf<=65536:=by
 have h0:0<=(rf.Qa.length:Int)*rf.Qb:=Int.mul_nonneg (by omega) (by omega);have h1:=Int.mul_le_mul (show(rf.Qa.length:Int)<=4 by omega) (show rf.Qb<=4 by omega) (by omega) (by omega);have h2:XR ((rf.Qa.length:Int)*rf.Qb)<=65536:=by
  unfold XR;exact Nat.le_trans (Nat.pow_le_pow_right (by decide) (show((rf.Qa.length:Int)*rf.Qb).toNat<=16 by omega)) (by decide)
 have h3:=aq (n:=(rf.Qa.length:Int)*rf.Qb);unfold QG;omega
theorem mQ{rf:Qc}{n:Int}(hs:1<=rf.Qb/\rf.Qb<=4):(QR rf n).length<=4:=by rw[QR,Xa];omega
theorem iu{rf:Qc}{i k:Int}{es:List (F4×F4)}{b:Bool}{r:List (F4×F4)×Bool×Int}(h:r=Kf rf (QG rf-i).toNat i es b k)(hi:i<QG rf):
 r=bif b && decide (Xk rf (QR rf k)<=Xk rf (QR rf i))then Kf rf (QG rf-(i+1)).toNat (i+1) es b k
 else bif (X5 rf (QR rf i)).1 then Kf rf (QG rf-(i+1)).toNat (i+1) (Xr rf (QR rf i) rf.Qb.toNat es) b k
 else Kf rf (QG rf-(i+1)).toNat (i+1) (Xr rf (QR rf i) rf.Qb.toNat es) true i:=by
 rw[h,show(QG rf-i).toNat=(QG rf-(i+1)).toNat+1 by omega];rfl
theorem oY{rf:Qc}{i k:Int}{es:List (F4×F4)}{b:Bool}{r:List (F4×F4)×Bool×Int}(h:r=Kf rf (QG rf-i).toNat i es b k)(hi:¬i<QG rf):r=(es,b,k):=by
 rw[h,show(QG rf-i).toNat=0 by omega];rfl
theorem Ev{rf:Qc}{i k:Int}{es:List (F4×F4)}{r:List (F4×F4)×Bool×Int}(h:r=Kf rf (QG rf-i).toNat i es true k)(hi:i<QG rf)(hc:Xk rf (QR rf k)<=Xk rf (QR rf i)):r=Kf rf (QG rf-(i+1)).toNat (i+1) es true k:=by
 rw[iu h hi,decide_eq_true hc];rfl
theorem yI{rf:Qc}{i k:Int}{es:List (F4×F4)}{b:Bool}{r:List (F4×F4)×Bool×Int}(h:r=Kf rf (QG rf-i).toNat i es b k)(hi:i<QG rf)(hc:b=false\/¬Xk rf (QR rf k)<=Xk rf (QR rf i))(hq:(X5 rf (QR rf i)).1=true):r=Kf rf (QG rf-(i+1)).toNat (i+1) (Xr rf (QR rf i) rf.Qb.toNat es) b k:=by
 rw[iu h hi,hq];rcases hc with rfl|hc
 ·rfl
 ·rw[decide_eq_false hc,Bool.and_false];rfl
theorem ru{rf:Qc}{i k:Int}{es:List (F4×F4)}{b:Bool}{r:List (F4×F4)×Bool×Int}(h:r=Kf rf (QG rf-i).toNat i es b k)(hi:i<QG rf)(hc:b=false\/¬Xk rf (QR rf k)<=Xk rf (QR rf i))(hq:(X5 rf (QR rf i)).1=false):r=Kf rf (QG rf-(i+1)).toNat (i+1) (Xr rf (QR rf i) rf.Qb.toNat es) true i:=by
 rw[iu h hi,hq];rcases hc with rfl|hc
 ·rfl
 ·rw[decide_eq_false hc,Bool.and_false];rfl
theorem yH{rf:Qc}{i k:Int}{es fs:List (F4×F4)}{b:Bool}(h:VP rf es=Kf rf (QG rf-i).toNat i fs b k)(hi:¬i<QG rf):Xg rf=(b,k):=O8.symm.trans (congrArg Prod.snd (oY h hi))
theorem AG{rf:Qc}{es:List (F4×F4)}(h:je rf=false):VP rf es=Kf rf (QG rf-0).toNat 0 (Xr rf (QR rf (QG rf-1)) rf.Qb.toNat es) false 0:=by
 unfold VP;rw[h,Int.sub_zero];rfl
theorem Ew{rf:Qc}{es:List (F4×F4)}(h:je rf=true):VP rf es=(Xr rf (QR rf (QG rf-1)) rf.Qb.toNat es,false,0)/\Xg rf=(false,0):=by
 unfold VP Xg;rw[h];exact⟨rfl,rfl⟩
theorem s9{rf:Qc}(hr:X4 rf=true)(n:Int):∀j:Nat,0<=(QR rf n).getD j 0/\(QR rf n).getD j 0<=1000000:=fun j=>by
 have hs:=Q2 (Qw hr).1;have:=Z1 hr (Zh (rf:=rf) (n:=n) (by omega)) j;omega
def Wd(rf:Qc)(es:List (F4×F4)):Qm:=[(1,.map (mapA Q3 es) es.length),(0,QV)]
def Ka(rf:Qc)(es:List (F4×F4)):CF:=Qu YP 65 65 [.agg #[Qk 0 (Xp rf.Qa),YI rf.Qh,YI rf.Qb,.map (some 1)]]
def eU(rf:Qc):Array Value:=let a:=Prod.snd (Xt (QM rf (QR rf ((↑(XR ((↑rf.Qa.length:Int)*rf.Qb)):Int)-1)) (Lb rf.Qb)) rf.Qa 0);#[YI (Prod.fst a),YI (Prod.snd a)]
def mD(rf:Qc):Array Value:=#[Xp rf.Qa,YI rf.Qh,YI rf.Qb]
def mH(B:Lo)(rf:Qc)(es:List (F4×F4)):List Prop:=let c:=Ld rf.Qa;let a:=(↑c:Int)*rf.Qb;let b:=(↑(XR a):Int)-1;let d:=QR rf b;[Qz []/\Qv YP J0 90 #[.agg (mD rf),YI b] (.agg #[Xo c (Qe Qt rf.Qa),YI rf.Qh,YI rf.Qb,YI (d.getD 0 0),YI (d.getD 1 0),YI (d.getD 2 0),YI (d.getD 3 0)]),wq b=(↑(XR a):Int)-1,Yr YP BinOp.shl 3 (YI 1) (Xx {len:=16000,tr:=Tri.set 14 Tri.lf 20 (YI a)} 20) (YI (↑(XR a):Int)),wq a=(↑c:Int)*rf.Qb]++([]:List Prop)
def wo(rf:Qc)(es:List (F4×F4)):QA:=let c:=rf.Qa;let a:=(↑c.length:Int)*rf.Qb;let d:=(↑(XR a):Int)-1;let b:=QR rf d;[(10,Zu a),(11,Qf.bin (YI (↑(XR a):Int))),(17,Zu d),(18,Qf.pure (.agg #[Xo c.length (Qe Qt c),YI rf.Qh,YI rf.Qb,YI (b.getD 0 0),YI (b.getD 1 0),YI (b.getD 2 0),YI (b.getD 3 0)]) [])]
theorem HG(B:Lo)(rf:Qc)(es:List (F4×F4)):let d:=Lb rf.Qb;let c:=Value.tuple #[.agg (eU rf),.bool true];let a:=QR rf ((↑(XR ((↑rf.Qa.length:Int)*rf.Qb)):Int)-1);let b:=Xr rf a d es;let e:=mapA Q3 b;CE.finK 2 (Qn YP (Q0 YP) J0 B 14 2 (Ka rf es) (Wd rf es) 2
 (wo rf es++[(20,Qf.wriC [1] [0] [true] [] (Jg rf a es) (Jf rf a es) (Jh rf a es) (OO.ret c))]) 0 [] []) [(1,KS.same)] [] []=some (OO.ret (.tuple #[.agg #[.slice none 0 0,YI 0,YI 0,YI 0,YI 0,YI 0,YI 0],.bool false]),[(1,Obj.map e b.length)],[],
 [QT e,(Qz [QT (mapA Q3 es),QT e]/\Sl (rf) a (es))/\OO.ret (.tuple #[.agg (eU rf),.bool (Prod.fst (Xt (QM rf a d) rf.Qa 0))])=OO.ret c]++mH B rf es):=by intro d c a b e;kernel_rfl
def KB(rf:Qc)(es:List (F4×F4))(i:Int)(fs:List (F4×F4)):List Value:=[pA 3 0,pA 4 0,pA 5 0,.bool false,YI (↑(XR ((↑rf.Qa.length:Int)*rf.Qb)):Int),YI i]
def KA(rf:Qc)(es:List (F4×F4))(i:Int)(fs:List (F4×F4)):List Obj:=[.map (mapA Q3 fs) fs.length]
def U3(rf:Qc)(es:List (F4×F4))(i:Int)(fs:List (F4×F4)):List Obj:=[Obj.cells #[Qk 0 (Xp rf.Qa),YI rf.Qh,YI rf.Qb,Value.map (some 1)] 98,Obj.cells #[.slice none 0 0,YI 0,YI 0,YI 0,YI 0,YI 0,YI 0] 84,Obj.cells #[.slice none 0 0,YI 0,YI 0,YI 0,YI 0,YI 0,YI 0] 84]
def KC:List Item:=([.code [1,1,1,1,0,1,0,0],.inLoop [1,1,1,1,0,1,0,0],.inBlock 0,.code [1,1,1,1,1]]).map (it (Q8 YP 65))
def WV(rf:Qc)(es:List (F4×F4))(i k:Int)(fs:List (F4×F4)):List Value:=[pA 3 0,pA 4 0,pA 5 0,.bool true,YI (↑(XR ((↑rf.Qa.length:Int)*rf.Qb)):Int),YI i]
def WU(rf:Qc)(es:List (F4×F4))(i k:Int)(fs:List (F4×F4)):List Obj:=[.map (mapA Q3 fs) fs.length]
def Ww(rf:Qc)(es:List (F4×F4))(i k:Int)(fs:List (F4×F4)):List Obj:=let a:=QR rf k;[Obj.cells #[Qk 0 (Xp rf.Qa),YI rf.Qh,YI rf.Qb,Value.map (some 1)] 98,Obj.cells #[.slice none 0 0,YI 0,YI 0,YI 0,YI 0,YI 0,YI 0] 84,.cells #[Qk 2 (Xp rf.Qa),YI rf.Qh,YI rf.Qb,YI (a.getD 0 0),YI (a.getD 1 0),YI (a.getD 2 0),YI (a.getD 3 0)] 84 (0,0)]
def WW:List Item:=([.code [1,1,1,1,0,1,0,0],.inLoop [1,1,1,1,0,1,0,0],.inBlock 0,.code [1,1,1,1,1]]).map (it (Q8 YP 65))
def mG(B:Lo)(rf:Qc)(es:List (F4×F4))(i:Int)(fs:List (F4×F4))(Ql:Nat->Value):List Prop:=let b:=QR rf i;let a:=rf.Qa;[Qz []/\Qv YP J0 90 #[.agg (mD rf),YI i] (.agg #[Xo a.length (Qe Qt a),YI rf.Qh,YI rf.Qb,YI (b.getD 0 0),YI (b.getD 1 0),YI (b.getD 2 0),YI (b.getD 3 0)]),XB i (↑(XR ((↑a.length:Int)*rf.Qb)):Int)=true]++([]:List Prop)
def wm(rf:Qc)(es:List (F4×F4))(i:Int)(fs:List (F4×F4))(Ql:Nat->Value):QA:=let a:=QR rf i;[(0,Wj),(6,Qf.pure (.agg #[Xp rf.Qa,YI rf.Qh,YI rf.Qb,YI (a.getD 0 0),YI (a.getD 1 0),YI (a.getD 2 0),YI (a.getD 3 0)]) [])]
theorem HE(B:Lo)(rf:Qc)(es:List (F4×F4))(i:Int)(fs:List (F4×F4))(Ql:Nat->Value):let g:=U3 rf es i fs;let f:=Lb rf.Qb;let d:=QR rf i;let b:=Xr rf d f fs;let a:=Xt (QM rf d f) rf.Qa 0;let e:=Prod.snd a;let c:=Value.tuple #[.agg #[YI (Prod.fst e),YI (Prod.snd e)],.bool true];CE.landA 2 (Qn YP (Q0 YP) J0 B 25 2 (XU ((none:Option Nat)) 65 65 (([1,2,7,8,36,37]:List Nat).zip (KB rf es i fs)) Ql KC) (X9 (Wd rf es) 2 (([1]:List Nat).zip (KA rf es i fs)) g) (2+1+g.length)
 (wm rf es i fs Ql++[(20,Qf.wriC [1] [0] [true] [] (Jg rf d fs) (Jf rf d fs) (Jh rf d fs) (OO.ret c)),(29,Zu (i+1))]) 0 [] []) [1,2,7,8,36,37] [(1,KS.same)] [(3,KS.auto),(4,KS.auto),(5,KS.auto)] []=some ⟨65,65,KC,[],.run,(none:Option Nat),KB rf es (i+1) b,([1]:List Nat).zip (KA rf es (i+1) b),U3 rf es (i+1) b,
 [QT (mapA Q3 b),wq (i+1)=i+1,(Qz [QT (mapA Q3 fs),QT (mapA Q3 b)]/\Sl (rf) d (fs))/\OO.ret (.tuple #[.agg #[YI (Prod.fst e),YI (Prod.snd e)],.bool (Prod.fst a)])=OO.ret c]++mG B rf es i fs Ql⟩:=by intro g f d b a e c;kernel_rfl
theorem HD(B:Lo)(rf:Qc)(es:List (F4×F4))(i:Int)(fs:List (F4×F4))(Ql:Nat->Value):let g:=U3 rf es i fs;let f:=Lb rf.Qb;let d:=QR rf i;let b:=Xr rf d f fs;let a:=Xt (QM rf d f) rf.Qa 0;let e:=Prod.snd a;let c:=Value.tuple #[.agg #[YI (Prod.fst e),YI (Prod.snd e)],.bool false];CE.landA 2 (Qn YP (Q0 YP) J0 B 25 2 (XU ((none:Option Nat)) 65 65 (([1,2,7,8,36,37]:List Nat).zip (KB rf es i fs)) Ql KC) (X9 (Wd rf es) 2 (([1]:List Nat).zip (KA rf es i fs)) g) (2+1+g.length)
 (wm rf es i fs Ql++[(20,Qf.wriC [1] [0] [true] [] (Jg rf d fs) (Jf rf d fs) (Jh rf d fs) (OO.ret c)),(32,Zu (i+1))]) 0 [] []) [1,2,7,8,36,37] [(1,KS.same)] [(3,KS.auto),(4,KS.auto),(5,KS.auto)] []=some ⟨65,65,WW,[],.run,(none:Option Nat),WV rf es (i+1) (i) b,([1]:List Nat).zip (WU rf es (i+1) (i) b),Ww rf es (i+1) (i) b,
 [QT (mapA Q3 b),wq (i+1)=i+1,(Qz [QT (mapA Q3 fs),QT (mapA Q3 b)]/\Sl (rf) d (fs))/\OO.ret (.tuple #[.agg #[YI (Prod.fst e),YI (Prod.snd e)],.bool (Prod.fst a)])=OO.ret c]++mG B rf es i fs Ql⟩:=by intro g f d b a e c;kernel_rfl
theorem HC(B:Lo)(rf:Qc)(es:List (F4×F4))(i:Int)(fs:List (F4×F4))(Ql:Nat->Value):let a:=U3 rf es i fs;CE.finK 2 (Qn YP (Q0 YP) J0 B 9 2 (XU ((none:Option Nat)) 65 65 (([1,2,7,8,36,37]:List Nat).zip (KB rf es i fs)) Ql KC) (X9 (Wd rf es) 2 (([1]:List Nat).zip (KA rf es i fs)) a) (2+1+a.length)
 [(0,WC)] 0 [] []) [(1,KS.same)] [] []=some (OO.ret (.tuple #[.agg #[.slice none 0 0,YI 0,YI 0,YI 0,YI 0,YI 0,YI 0],.bool false]),[(1,Obj.map (mapA Q3 fs) fs.length)],[],
 [QT (mapA Q3 fs),XB i (↑(XR ((↑rf.Qa.length:Int)*rf.Qb)):Int)=false]):=by intro a;kernel_rfl
def mF(B:Lo)(rf:Qc)(es:List (F4×F4))(i k:Int)(fs:List (F4×F4))(Ql:Nat->Value):List Prop:=let g:=rf.Qh;let f:=rf.Qb;let d:=QR rf k;let b:=QR rf i;let a:=rf.Qa;let e:=Qe Qt a;let c:=Ld a;[Qz []/\Qv YP J0 67 #[.agg #[Xo c e,YI g,YI f,YI (d.getD 0 0),YI (d.getD 1 0),YI (d.getD 2 0),YI (d.getD 3 0)]] (YI (Xk rf d)),Qz []/\Qv YP J0 67 #[.agg #[Xo c e,YI g,YI f,YI (b.getD 0 0),YI (b.getD 1 0),YI (b.getD 2 0),YI (b.getD 3 0)]] (YI (Xk rf b)),Qz []/\Qv YP J0 90 #[.agg (mD rf),YI i] (.agg #[Xo c e,YI g,YI f,YI (b.getD 0 0),YI (b.getD 1 0),YI (b.getD 2 0),YI (b.getD 3 0)]),XB i (↑(XR ((↑c:Int)*rf.Qb)):Int)=true]++([]:List Prop)
def wk(rf:Qc)(es:List (F4×F4))(i k:Int)(fs:List (F4×F4))(Ql:Nat->Value):QA:=let a:=QR rf i;[(0,Wj),(6,Qf.pure (.agg #[Xp rf.Qa,YI rf.Qh,YI rf.Qb,YI (a.getD 0 0),YI (a.getD 1 0),YI (a.getD 2 0),YI (a.getD 3 0)]) []),(12,Qf.pure (YI (Xk rf a)) []),(14,Qf.pure (YI (Xk rf (QR rf k))) [])]
theorem HB(B:Lo)(rf:Qc)(es:List (F4×F4))(i k:Int)(fs:List (F4×F4))(Ql:Nat->Value):let a:=Ww rf es i k fs;CE.landA 2 (Qn YP (Q0 YP) J0 B 18 2 (XU ((none:Option Nat)) 65 65 (([1,2,7,8,36,37]:List Nat).zip (WV rf es i k fs)) Ql WW) (X9 (Wd rf es) 2 (([1]:List Nat).zip (WU rf es i k fs)) a) (2+1+a.length)
 (wk rf es i k fs Ql++[(15,Wj),(17,Zu (i+1))]) 0 [] []) [1,2,7,8,36,37] [(1,KS.same)] [(3,KS.auto),(4,KS.auto),(5,KS.auto)] []=some ⟨65,65,WW,[],.run,(none:Option Nat),WV rf es (i+1) (k) (fs),([1]:List Nat).zip (WU rf es (i+1) (k) (fs)),Ww rf es (i+1) (k) (fs),
 [QT (mapA Q3 fs),wq (i+1)=i+1,(!XB (Xk rf (QR rf i)) (Xk rf (QR rf k)))=true]++mF B rf es i k fs Ql⟩:=by intro a;kernel_rfl
def mE(B:Lo)(rf:Qc)(es:List (F4×F4))(i k:Int)(fs:List (F4×F4))(Ql:Nat->Value):List Prop:=[(!XB (Xk rf (QR rf i)) (Xk rf (QR rf k)))=false]++mF B rf es i k fs Ql
def wj(rf:Qc)(es:List (F4×F4))(i k:Int)(fs:List (F4×F4))(Ql:Nat->Value):QA:=wk rf es i k fs Ql++[(15,WC)]
theorem HA(B:Lo)(rf:Qc)(es:List (F4×F4))(i k:Int)(fs:List (F4×F4))(Ql:Nat->Value):let g:=Ww rf es i k fs;let f:=Lb rf.Qb;let d:=QR rf i;let b:=Xr rf d f fs;let a:=Xt (QM rf d f) rf.Qa 0;let e:=Prod.snd a;let c:=Value.tuple #[.agg #[YI (Prod.fst e),YI (Prod.snd e)],.bool true];CE.landA 2 (Qn YP (Q0 YP) J0 B 25 2 (XU ((none:Option Nat)) 65 65 (([1,2,7,8,36,37]:List Nat).zip (WV rf es i k fs)) Ql WW) (X9 (Wd rf es) 2 (([1]:List Nat).zip (WU rf es i k fs)) g) (2+1+g.length)
 (wj rf es i k fs Ql++[(20,Qf.wriC [1] [0] [true] [] (Jg rf d fs) (Jf rf d fs) (Jh rf d fs) (OO.ret c)),(29,Zu (i+1))]) 0 [] []) [1,2,7,8,36,37] [(1,KS.same)] [(3,KS.auto),(4,KS.auto),(5,KS.auto)] []=some ⟨65,65,WW,[],.run,(none:Option Nat),WV rf es (i+1) (k) b,([1]:List Nat).zip (WU rf es (i+1) (k) b),Ww rf es (i+1) (k) b,
 [QT (mapA Q3 b),wq (i+1)=i+1,(Qz [QT (mapA Q3 fs),QT (mapA Q3 b)]/\Sl (rf) d (fs))/\OO.ret (.tuple #[.agg #[YI (Prod.fst e),YI (Prod.snd e)],.bool (Prod.fst a)])=OO.ret c]++mE B rf es i k fs Ql⟩:=by intro g f d b a e c;kernel_rfl
theorem H9(B:Lo)(rf:Qc)(es:List (F4×F4))(i k:Int)(fs:List (F4×F4))(Ql:Nat->Value):let g:=Ww rf es i k fs;let f:=Lb rf.Qb;let d:=QR rf i;let b:=Xr rf d f fs;let a:=Xt (QM rf d f) rf.Qa 0;let e:=Prod.snd a;let c:=Value.tuple #[.agg #[YI (Prod.fst e),YI (Prod.snd e)],.bool false];CE.landA 2 (Qn YP (Q0 YP) J0 B 25 2 (XU ((none:Option Nat)) 65 65 (([1,2,7,8,36,37]:List Nat).zip (WV rf es i k fs)) Ql WW) (X9 (Wd rf es) 2 (([1]:List Nat).zip (WU rf es i k fs)) g) (2+1+g.length)
 (wj rf es i k fs Ql++[(20,Qf.wriC [1] [0] [true] [] (Jg rf d fs) (Jf rf d fs) (Jh rf d fs) (OO.ret c)),(32,Zu (i+1))]) 0 [] []) [1,2,7,8,36,37] [(1,KS.same)] [(3,KS.auto),(4,KS.auto),(5,KS.auto)] []=some ⟨65,65,WW,[],.run,(none:Option Nat),WV rf es (i+1) (i) b,([1]:List Nat).zip (WU rf es (i+1) (i) b),Ww rf es (i+1) (i) b,
 [QT (mapA Q3 b),wq (i+1)=i+1,(Qz [QT (mapA Q3 fs),QT (mapA Q3 b)]/\Sl (rf) d (fs))/\OO.ret (.tuple #[.agg #[YI (Prod.fst e),YI (Prod.snd e)],.bool (Prod.fst a)])=OO.ret c]++mE B rf es i k fs Ql⟩:=by intro g f d b a e c;kernel_rfl
theorem H8(B:Lo)(rf:Qc)(es:List (F4×F4))(i k:Int)(fs:List (F4×F4))(Ql:Nat->Value):let c:=Ww rf es i k fs;let b:=QR rf k;let a:=rf.Qa;CE.finK 2 (Qn YP (Q0 YP) J0 B 9 2 (XU ((none:Option Nat)) 65 65 (([1,2,7,8,36,37]:List Nat).zip (WV rf es i k fs)) Ql WW) (X9 (Wd rf es) 2 (([1]:List Nat).zip (WU rf es i k fs)) c) (2+1+c.length)
 [(0,WC)] 0 [] []) [(1,KS.same)] [] []=some (OO.ret (.tuple #[.agg #[Qk 2 (Xo a.length (Qe Qt a)),YI rf.Qh,YI rf.Qb,YI (b.getD 0 0),YI (b.getD 1 0),YI (b.getD 2 0),YI (b.getD 3 0)],.bool true]),[(1,Obj.map (mapA Q3 fs) fs.length)],[],
 [QT (mapA Q3 fs),XB i (↑(XR ((↑a.length:Int)*rf.Qb)):Int)=false]):=by intro c b a;kernel_rfl
set_option maxHeartbeats 4000000 in
theorem wu(rf:Qc)(es:List (F4×F4))(hr:X4 rf=true)(he:Uf rf es){B:Lo}(hJ:∀w,B.has w->J0 w):∀m:Nat,(∀(i:Int) (fs:List (F4×F4)),(QG rf-i).toNat=m->∀(i0:0<=i) (i1:i<=QG rf) (ge:Uf rf fs) (hb:VP rf es=Kf rf (QG rf-i).toNat i fs false 0),(∃Ql:Nat->Value,(∀t,Xh (Ql t))/\GoE YP B (Ka rf es) (Wd rf es) 2 (XU ((none:Option Nat)) 65 65 (([1,2,7,8,36,37]:List Nat).zip (KB rf es i fs)) Ql KC) (X9 (Wd rf es) 2 (([1]:List Nat).zip (KA rf es i fs)) (U3 rf es i fs)) (2+1+(U3 rf es i fs).length) ([1]:List Nat))->FinK YP B (Ka rf es) (Wd rf es) 2 (bif (Xg rf).1 then .ret (.tuple #[.agg #[Qk 2 (Xp rf.Qa),YI rf.Qh,YI rf.Qb,YI ((QR rf (Xg rf).2).getD 0 0),YI ((QR rf (Xg rf).2).getD 1 0),YI ((QR rf (Xg rf).2).getD 2 0),YI ((QR rf (Xg rf).2).getD 3 0)],.bool true])else .ret (.tuple #[.agg #[.slice none 0 0,YI 0,YI 0,YI 0,YI 0,YI 0,YI 0],.bool false])) (([1]:List Nat).zip ([.map (mapA Q3 (VP rf es).1) (VP rf es).1.length])) ([]) ([1]:List Nat))/\(∀(i k:Int) (fs:List (F4×F4)),(QG rf-i).toNat=m->∀(i0:0<=i) (i1:i<=QG rf) (k0:0<=k) (ge:Uf rf fs) (hb:VP rf es=Kf rf (QG rf-i).toNat i fs true k),(∃Ql:Nat->Value,(∀t,Xh (Ql t))/\GoE YP B (Ka rf es) (Wd rf es) 2 (XU ((none:Option Nat)) 65 65 (([1,2,7,8,36,37]:List Nat).zip (WV rf es i k fs)) Ql WW) (X9 (Wd rf es) 2 (([1]:List Nat).zip (WU rf es i k fs)) (Ww rf es i k fs)) (2+1+(Ww rf es i k fs).length) ([1]:List Nat))->FinK YP B (Ka rf es) (Wd rf es) 2 (bif (Xg rf).1 then .ret (.tuple #[.agg #[Qk 2 (Xp rf.Qa),YI rf.Qh,YI rf.Qb,YI ((QR rf (Xg rf).2).getD 0 0),YI ((QR rf (Xg rf).2).getD 1 0),YI ((QR rf (Xg rf).2).getD 2 0),YI ((QR rf (Xg rf).2).getD 3 0)],.bool true])else .ret (.tuple #[.agg #[.slice none 0 0,YI 0,YI 0,YI 0,YI 0,YI 0,YI 0],.bool false])) (([1]:List Nat).zip ([.map (mapA Q3 (VP rf es).1) (VP rf es).1.length])) ([]) ([1]:List Nat)):=by
 intro m0;induction m0 using LB with
 |_ m0 ih0=>
  refine⟨?_, ?_⟩
  ·intro i fs Jw i0 i1 ge hb ⟨Ql,Wl,X0⟩;have Zi:=Q2 (Qw hr).1;have hpi:=Un (rf:=rf) Zi.1 Zi.2.2;have hpn:QG rf=((XR ((rf.Qa.length:Int)*rf.Qb):Nat):Int):=rfl;have WX:=Zh (rf:=rf) (n:=QG rf-1) (by omega);have Zi:=Q2 (Qw hr).1;have hpi:=Un (rf:=rf) Zi.1 Zi.2.2;have hpn:QG rf=((XR ((rf.Qa.length:Int)*rf.Qb):Nat):Int):=rfl;have WX:=Zh (rf:=rf) (n:=i) (by omega);by_cases q0:(i:Int)<((↑(XR ((↑rf.Qa.length:Int)*rf.Qb)):Int))
   ·have hp1:Qz (mG B rf es i fs Ql):=by
     exact⟨⟨trivial,gW (rf) (i) (by omega) (by omega) ‹_› (by omega)⟩,⟨(Xs q0),trivial⟩⟩
    cases q1:Prod.fst (Xt (QM rf (QR rf i) (Lb rf.Qb)) rf.Qa 0)with
    |true=>
     exact((ih0 _ (by omega)).1 (i+1) (Xr rf (QR rf i) (Lb rf.Qb) fs) rfl (by omega) (by omega) (by exact Pa WX ge _ (by omega)) (by exact yI hb (by omega) (.inl rfl) (by assumption))
      (GoE.lA X0 (HE B rf es i fs Ql)
      ⟨(by exact QH (fun _=>by kernel_rfl)),⟨wI,⟨⟨⟨⟨(QH (fun _=>by kernel_rfl)),⟨(QH (fun _=>by kernel_rfl)),trivial⟩⟩,gT (rf) (QR rf i) (fs) ‹_› ‹_› ‹_›⟩,(by(rw[q1];done))⟩,hp1⟩⟩⟩ (by kernel_rfl) (by kernel_rfl) (fun l hl=>by cases hl <;> decide))).cast (by rfl) (by rfl) (by rfl)
    |false=>
     exact((ih0 _ (by omega)).2 (i+1) (i) (Xr rf (QR rf i) (Lb rf.Qb) fs) rfl (by omega) (by omega) ‹_› (by exact Pa WX ge _ (by omega)) (by exact ru hb (by omega) (.inl rfl) (by assumption))
      (GoE.lA X0 (HD B rf es i fs Ql)
      ⟨(by exact QH (fun _=>by kernel_rfl)),⟨wI,⟨⟨⟨⟨(QH (fun _=>by kernel_rfl)),⟨(QH (fun _=>by kernel_rfl)),trivial⟩⟩,gT (rf) (QR rf i) (fs) ‹_› ‹_› ‹_›⟩,(by(rw[q1];done))⟩,hp1⟩⟩⟩ (by kernel_rfl) (by kernel_rfl) (fun l hl=>by cases hl <;> decide))).cast (by rfl) (by rfl) (by rfl)
   ·exact(GoE.fK X0 (HC B rf es i fs Ql)
     ⟨(by exact QH (fun _=>by kernel_rfl)),⟨(nL q0),trivial⟩⟩).cast (by(rw[yH hb (by omega)];rfl)) (by(rw[oY hb (by omega)];rfl)) (by rfl)
  ·intro i k fs Jw i0 i1 k0 ge hb ⟨Ql,Wl,X0⟩;have Zi:=Q2 (Qw hr).1;have hpi:=Un (rf:=rf) Zi.1 Zi.2.2;have hpn:QG rf=((XR ((rf.Qa.length:Int)*rf.Qb):Nat):Int):=rfl;have WX:=Zh (rf:=rf) (n:=QG rf-1) (by omega);have Zi:=Q2 (Qw hr).1;have hpi:=Un (rf:=rf) Zi.1 Zi.2.2;have hpn:QG rf=((XR ((rf.Qa.length:Int)*rf.Qb):Nat):Int):=rfl;have WX:=Zh (rf:=rf) (n:=i) (by omega);have T5:=mQ (rf:=rf) (n:=i) Zi.2.2;have hlk:=mQ (rf:=rf) (n:=k) Zi.2.2;have hgi:=s9 hr i;have hgk:=s9 hr k;by_cases q0:(i:Int)<((↑(XR ((↑rf.Qa.length:Int)*rf.Qb)):Int))
   ·have YF:Qz (mF B rf es i k fs Ql):=by
     exact⟨⟨trivial,H7 (rf) (QR rf k) ‹_› (by omega) ‹_› ‹_›⟩,⟨⟨trivial,H7 (rf) (QR rf i) ‹_› (by omega) ‹_› ‹_›⟩,⟨⟨trivial,gW (rf) (i) (by omega) (by omega) ‹_› (by omega)⟩,⟨(Xs q0),trivial⟩⟩⟩⟩
    by_cases q1:(Xk rf (QR rf k):Int)<=(Xk rf (QR rf i))
    ·exact((ih0 _ (by omega)).2 (i+1) (k) (fs) rfl (by omega) (by omega) ‹_› ‹_› (by exact Ev hb (by omega) (by omega))
      (GoE.lA X0 (HB B rf es i k fs Ql)
      ⟨(by exact QH (fun _=>by kernel_rfl)),⟨wI,⟨(VZ q1),YF⟩⟩⟩ (by kernel_rfl) (by kernel_rfl) (fun l hl=>by cases hl <;> decide))).cast (by rfl) (by rfl) (by rfl)
    ·have hp3:Qz (mE B rf es i k fs Ql):=by
      exact⟨(Ua (Int.not_le.1 q1)),YF⟩
     cases q2:Prod.fst (Xt (QM rf (QR rf i) (Lb rf.Qb)) rf.Qa 0)with
     |true=>
      exact((ih0 _ (by omega)).2 (i+1) (k) (Xr rf (QR rf i) (Lb rf.Qb) fs) rfl (by omega) (by omega) ‹_› (by exact Pa WX ge _ (by omega)) (by exact yI hb (by omega) (.inr (by omega)) (by assumption))
       (GoE.lA X0 (HA B rf es i k fs Ql)
       ⟨(by exact QH (fun _=>by kernel_rfl)),⟨wI,⟨⟨⟨⟨(QH (fun _=>by kernel_rfl)),⟨(QH (fun _=>by kernel_rfl)),trivial⟩⟩,gT (rf) (QR rf i) (fs) ‹_› ‹_› ‹_›⟩,(by(rw[q2];done))⟩,hp3⟩⟩⟩ (by kernel_rfl) (by kernel_rfl) (fun l hl=>by cases hl <;> decide))).cast (by rfl) (by rfl) (by rfl)
     |false=>
      exact((ih0 _ (by omega)).2 (i+1) (i) (Xr rf (QR rf i) (Lb rf.Qb) fs) rfl (by omega) (by omega) ‹_› (by exact Pa WX ge _ (by omega)) (by exact ru hb (by omega) (.inr (by omega)) (by assumption))
       (GoE.lA X0 (H9 B rf es i k fs Ql)
       ⟨(by exact QH (fun _=>by kernel_rfl)),⟨wI,⟨⟨⟨⟨(QH (fun _=>by kernel_rfl)),⟨(QH (fun _=>by kernel_rfl)),trivial⟩⟩,gT (rf) (QR rf i) (fs) ‹_› ‹_› ‹_›⟩,(by(rw[q2];done))⟩,hp3⟩⟩⟩ (by kernel_rfl) (by kernel_rfl) (fun l hl=>by cases hl <;> decide))).cast (by rfl) (by rfl) (by rfl)
   ·exact(GoE.fK X0 (H8 B rf es i k fs Ql)
     ⟨(by exact QH (fun _=>by kernel_rfl)),⟨(nL q0),trivial⟩⟩).cast (by(rw[yH hb (by omega)];rfl)) (by(rw[oY hb (by omega)];rfl)) (by rfl)

theorem HF(B:Lo)(rf:Qc)(es:List (F4×F4)):let d:=Lb rf.Qb;let c:=Value.tuple #[.agg (eU rf),.bool false];let a:=QR rf ((↑(XR ((↑rf.Qa.length:Int)*rf.Qb)):Int)-1);let b:=Xr rf a d es;CE.landA 2 (Qn YP (Q0 YP) J0 B 18 2 (Ka rf es) (Wd rf es) 2
 (wo rf es++[(20,Qf.wriC [1] [0] [true] [] (Jg rf a es) (Jf rf a es) (Jh rf a es) (OO.ret c))]) 0 [] []) [1,2,7,8,36,37] [(1,KS.same)] [(2,KS.auto),(3,KS.auto),(7,KS.auto)] []=some ⟨65,65,KC,[],.run,(none:Option Nat),KB rf es (0) b,([1]:List Nat).zip (KA rf es (0) b),U3 rf es (0) b,
 [QT (mapA Q3 b),(Qz [QT (mapA Q3 es),QT (mapA Q3 b)]/\Sl (rf) a (es))/\OO.ret (.tuple #[.agg (eU rf),.bool (Prod.fst (Xt (QM rf a d) rf.Qa 0))])=OO.ret c]++mH B rf es⟩:=by intro d c a b;kernel_rfl
set_option maxHeartbeats 4000000 in
theorem N6(rf:Qc)(es:List (F4×F4))(hr:X4 rf=true)(he:Uf rf es){B:Lo}(hJ:∀w,B.has w->J0 w):FinK YP B (Ka rf es) (Wd rf es) 2 (bif (Xg rf).1 then .ret (.tuple #[.agg #[Qk 2 (Xp rf.Qa),YI rf.Qh,YI rf.Qb,YI ((QR rf (Xg rf).2).getD 0 0),YI ((QR rf (Xg rf).2).getD 1 0),YI ((QR rf (Xg rf).2).getD 2 0),YI ((QR rf (Xg rf).2).getD 3 0)],.bool true])else .ret (.tuple #[.agg #[.slice none 0 0,YI 0,YI 0,YI 0,YI 0,YI 0,YI 0],.bool false])) (([1]:List Nat).zip [.map (mapA Q3 (VP rf es).1) (VP rf es).1.length]) [] ([1]:List Nat):=by
 have Zi:=Q2 (Qw hr).1;have hpi:=Un (rf:=rf) Zi.1 Zi.2.2;have hpn:QG rf=((XR ((rf.Qa.length:Int)*rf.Qb):Nat):Int):=rfl;have WX:=Zh (rf:=rf) (n:=QG rf-1) (by omega);have VO:Qz (mH B rf es):=by
  exact⟨⟨trivial,gW (rf) ((↑(XR ((↑rf.Qa.length:Int)*rf.Qb)):Int)-1) (by omega) (by omega) (by omega) (by omega)⟩,⟨wI,⟨(yG (by omega) (by omega)),⟨wI,trivial⟩⟩⟩⟩
 cases q0:Prod.fst (Xt (QM rf (QR rf ((↑(XR ((↑rf.Qa.length:Int)*rf.Qb)):Int)-1)) (Lb rf.Qb)) rf.Qa 0)with
 |true=>
  have hno:=Ew (es:=es) (show je rf=true from q0);exact(GoE.fK ((GoE.refl (P:=YP) (B:=B) (c0:=Ka rf es) uA).widen (Wf:=((([(1,KS.same)]):List (Nat×KS)).map (·.1))) (by simp) wO) (HG B rf es)
   ⟨(by exact QH (fun _=>by kernel_rfl)),⟨⟨⟨⟨(QH (fun _=>by kernel_rfl)),⟨(QH (fun _=>by kernel_rfl)),trivial⟩⟩,gT (rf) (QR rf ((↑(XR ((↑rf.Qa.length:Int)*rf.Qb)):Int)-1)) (es) ‹_› (by simp_all) ‹_›⟩,(by(rw[q0];done))⟩,VO⟩⟩).cast (by(rw[hno.2];rfl)) (by(rw[hno.1];rfl)) (by rfl)
 |false=>
  exact((wu rf es hr he hJ _).1 (0) (Xr rf (QR rf ((↑(XR ((↑rf.Qa.length:Int)*rf.Qb)):Int)-1)) (Lb rf.Qb) es) rfl (by omega) (by omega) (by exact Pa WX he _ (by omega)) (by exact AG (by assumption))
   (GoE.lA ((GoE.refl (P:=YP) (B:=B) (c0:=Ka rf es) uA).widen (Wf:=((([(1,KS.same)]):List (Nat×KS)).map (·.1))) (by simp) wO) (HF B rf es)
   ⟨(by exact QH (fun _=>by kernel_rfl)),⟨⟨⟨⟨(QH (fun _=>by kernel_rfl)),⟨(QH (fun _=>by kernel_rfl)),trivial⟩⟩,gT (rf) (QR rf ((↑(XR ((↑rf.Qa.length:Int)*rf.Qb)):Int)-1)) (es) ‹_› (by simp_all) ‹_›⟩,(by(rw[q0];done))⟩,VO⟩⟩ (by kernel_rfl) (by kernel_rfl) (fun l hl=>by cases hl <;> decide))).cast (by rfl) (by rfl) (by rfl)
def eV(rf:Qc)(es:List (F4×F4)):OO:=let a:=QR rf (Xg rf).2;bif (Xg rf).1 then .ret (.tuple #[.agg #[Qk 2 (Xp rf.Qa),YI rf.Qh,YI rf.Qb,YI (a.getD 0 0),YI (a.getD 1 0),YI (a.getD 2 0),YI (a.getD 3 0)],.bool true])else .ret (.tuple #[.agg #[.slice none 0 0,YI 0,YI 0,YI 0,YI 0,YI 0,YI 0],.bool false])
def N4(rf:Qc)(es:List (F4×F4)):List Obj:=[.map (mapA Q3 (VP rf es).1) (VP rf es).1.length]
def N5(rf:Qc)(es:List (F4×F4)):List Obj:=[]
theorem OP(rf:Qc)(es:List (F4×F4))(hr:X4 rf=true)(he:Uf rf es):WriC YP J0 65 #[.agg #[Qk 0 (Xp rf.Qa),YI rf.Qh,YI rf.Qb,.map (some 1)]] [.map (mapA Q3 es) es.length] (eV rf es) (N4 rf es) (N5 rf es):=
 FinK.wri (c0:=Ka rf es) (Hb:=Wd rf es) (a:=2) (ws:=([1]:List Nat).zip [.map (mapA Q3 (VP rf es).1) (VP rf es).1.length]) (Wf:=([1]:List Nat)) (by kernel_rfl) rfl rfl rfl rfl fun B hJ=>N6 rf es hr he hJ
end
end Go.Proofs.Ytncjjangllkokaa

