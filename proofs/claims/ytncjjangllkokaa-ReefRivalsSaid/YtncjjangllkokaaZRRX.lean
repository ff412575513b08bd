/- ReefRivals: whatever the input, it returns true, and each argument reads as it did. The row, from the walk. -/
import Derived.Test.YtncjjangllkokaaZRR16
import Derived.Test.YtncjjangllkokaaZRR17
import Derived.Test.YtncjjangllkokaaZRR15
import Derived.JoinedOf
import Derived.Test.YtncjjangllkokaaRows
set_option linter.all false
open Int renaming mul_nonneg->LG,mul_le_mul->LH,toNat->Lb,tdiv_eq_ediv_of_nonneg->LQ,le_refl->LJ,toNat_natCast->LK
open List renaming length->Lf,getD_eq_getElem?_getD->Li,range->Ld,mem_cons_of_mem->Lh,getElem?_eq_none->Lw,replicate->Lq
open Nat renaming strongRecOn->LA,zero_add->Lv
open Array renaming extract->LO
open Inhabited renaming default->La
namespace Go.Proofs.Ytncjjangllkokaa
open Go Go.CE Go.RowKit
noncomputable section
set_option maxRecDepth 100000
def Uk(rf:Qc):Nat->Int->List (F4×F4)->Bool->Int->List (F4×F4)×Bool×Int
 |0,_,es,b,k=>(es,b,k)
 |n+1,i,es,b,k=>
  bif b && decide (Xg rf (QA rf k)<=Xg rf (QA rf i))then Uk rf n (i+1) es b k
  else bif (QY rf (QA rf i)).1 then Uk rf n (i+1) (Xd rf (QA rf i) rf.Qb.toNat es) b k
  else Uk rf n (i+1) (Xd rf (QA rf i) rf.Qb.toNat es) true i
def Xa(rf:Qc):Int:=((Xx ((rf.Qa.length:Int)*rf.Qb):Nat):Int)
def dG(rf:Qc):Bool:=(QY rf (QA rf (Xa rf-1))).1
def WR(rf:Qc)(es:List (F4×F4)):List (F4×F4)×Bool×Int:=
 bif dG rf then(Xd rf (QA rf (Xa rf-1)) rf.Qb.toNat es,false,0)
 else Uk rf (Xa rf).toNat 0 (Xd rf (QA rf (Xa rf-1)) rf.Qb.toNat es) false 0
def dR(rf:Qc):Nat->Int->Bool->Int->Bool×Int
 |0,_,b,k=>(b,k)
 |n+1,i,b,k=>
  bif b && decide (Xg rf (QA rf k)<=Xg rf (QA rf i))then dR rf n (i+1) b k
  else bif (QY rf (QA rf i)).1 then dR rf n (i+1) b k
  else dR rf n (i+1) true i
def Q4(rf:Qc):Bool×Int:=bif dG rf then(false,0)else dR rf (Xa rf).toNat 0 false 0
theorem fx{rf:Qc}:∀(n:Nat) (i:Int) (es:List (F4×F4)) (b:Bool) (k:Int),(Uk rf n i es b k).2=dR rf n i b k
 |0,_,_,_,_=>rfl
 |n+1,i,es,b,k=>by
  unfold Uk dR;cases(b && decide (Xg rf (QA rf k)<=Xg rf (QA rf i)))with
  |true=>exact fx n _ _ _ _
  |false=>
   simp only[cond_false];cases(QY rf (QA rf i)).1 with
   |true=>exact fx n _ _ _ _
   |false=>exact fx n _ _ _ _
theorem EZ{rf:Qc}{es:List (F4×F4)}:(WR rf es).2=Q4 rf:=by
 unfold WR Q4;cases dG rf with
 |true=>rfl
 |false=>exact fx _ _ _ _ _
theorem JE{rf:Qc}(hp:1<=rf.Qa.length/\rf.Qa.length<=4)(hs:1<=rf.Qb/\rf.Qb<=4):(0<=(rf.Qa.length:Int)*rf.Qb/\(rf.Qa.length:Int)*rf.Qb<=16)/\1<=Xa rf/\Xa rf<=65536:=by
 have h0:0<=(rf.Qa.length:Int)*rf.Qb:=LG (by omega) (by omega);have h1:=LH (show(rf.Qa.length:Int)<=4 by omega) (show rf.Qb<=4 by omega) (by omega) (by omega);have h2:Xx ((rf.Qa.length:Int)*rf.Qb)<=65536:=by
  unfold Xx;exact Nat.le_trans (Nat.pow_le_pow_right (by decide) (show((rf.Qa.length:Int)*rf.Qb).toNat<=16 by omega)) (by decide)
 have h3:=gM (n:=(rf.Qa.length:Int)*rf.Qb);unfold Xa;omega
theorem iT{rf:Qc}{n:Int}(hs:1<=rf.Qb/\rf.Qb<=4):(QA rf n).length<=4:=by rw[QA,ZB];omega
theorem cN{rf:Qc}{i k:Int}{es:List (F4×F4)}{b:Bool}{r:List (F4×F4)×Bool×Int}(h:r=Uk rf (Xa rf-i).toNat i es b k)(hi:i<Xa rf):
 r=bif b && decide (Xg rf (QA rf k)<=Xg rf (QA rf i))then Uk rf (Xa rf-(i+1)).toNat (i+1) es b k
 else bif (QY rf (QA rf i)).1 then Uk rf (Xa rf-(i+1)).toNat (i+1) (Xd rf (QA rf i) rf.Qb.toNat es) b k
 else Uk rf (Xa rf-(i+1)).toNat (i+1) (Xd rf (QA rf i) rf.Qb.toNat es) true i:=by
 rw[h,show(Xa rf-i).toNat=(Xa rf-(i+1)).toNat+1 by omega];rfl
theorem lh{rf:Qc}{i k:Int}{es:List (F4×F4)}{b:Bool}{r:List (F4×F4)×Bool×Int}(h:r=Uk rf (Xa rf-i).toNat i es b k)(hi:¬i<Xa rf):r=(es,b,k):=by
 rw[h,show(Xa rf-i).toNat=0 by omega];rfl
theorem zJ{rf:Qc}{i k:Int}{es:List (F4×F4)}{r:List (F4×F4)×Bool×Int}(h:r=Uk rf (Xa rf-i).toNat i es true k)(hi:i<Xa rf)(hc:Xg rf (QA rf k)<=Xg rf (QA rf i)):r=Uk rf (Xa rf-(i+1)).toNat (i+1) es true k:=by
 rw[cN h hi,decide_eq_true hc];rfl
theorem ue{rf:Qc}{i k:Int}{es:List (F4×F4)}{b:Bool}{r:List (F4×F4)×Bool×Int}(h:r=Uk rf (Xa rf-i).toNat i es b k)(hi:i<Xa rf)(hc:b=false\/¬Xg rf (QA rf k)<=Xg rf (QA rf i))(hq:(QY rf (QA rf i)).1=true):r=Uk rf (Xa rf-(i+1)).toNat (i+1) (Xd rf (QA rf i) rf.Qb.toNat es) b k:=by
 rw[cN h hi,hq];rcases hc with rfl|hc
 ·rfl
 ·rw[decide_eq_false hc,Bool.and_false];rfl
theorem mR{rf:Qc}{i k:Int}{es:List (F4×F4)}{b:Bool}{r:List (F4×F4)×Bool×Int}(h:r=Uk rf (Xa rf-i).toNat i es b k)(hi:i<Xa rf)(hc:b=false\/¬Xg rf (QA rf k)<=Xg rf (QA rf i))(hq:(QY rf (QA rf i)).1=false):r=Uk rf (Xa rf-(i+1)).toNat (i+1) (Xd rf (QA rf i) rf.Qb.toNat es) true i:=by
 rw[cN h hi,hq];rcases hc with rfl|hc
 ·rfl
 ·rw[decide_eq_false hc,Bool.and_false];rfl
theorem ud{rf:Qc}{i k:Int}{es fs:List (F4×F4)}{b:Bool}(h:WR rf es=Uk rf (Xa rf-i).toNat i fs b k)(hi:¬i<Xa rf):Q4 rf=(b,k):=EZ.symm.trans (congrArg Prod.snd (lh h hi))
theorem wA{rf:Qc}{es:List (F4×F4)}(h:dG rf=false):WR rf es=Uk rf (Xa rf-0).toNat 0 (Xd rf (QA rf (Xa rf-1)) rf.Qb.toNat es) false 0:=by
 unfold WR;rw[h,Int.sub_zero];rfl
theorem zK{rf:Qc}{es:List (F4×F4)}(h:dG rf=true):WR rf es=(Xd rf (QA rf (Xa rf-1)) rf.Qb.toNat es,false,0)/\Q4 rf=(false,0):=by
 unfold WR Q4;rw[h];exact⟨rfl,rfl⟩
theorem nP{rf:Qc}(hr:X5 rf=true)(n:Int):∀j:Nat,0<=(QA rf n).getD j 0/\(QA rf n).getD j 0<=1000000:=fun j=>by
 have hs:=Qz (Q6 hr).1;have:=K8 hr (Xp (rf:=rf) (n:=n) (by omega)) j;omega
def Z3(rf:Qc)(es:List (F4×F4)):Qj:=[(1,.map (mapA Qu es) es.length),(0,QM)]
def Ud(rf:Qc)(es:List (F4×F4)):CF:=Qr YP 65 65 [.agg #[Qn 0 (Vb rf.Qa),.int .i64 rf.Qi,.int .i64 rf.Qb,.map (some 1)]]
def aQ(rf:Qc):Array Value:=let a:=Prod.snd (QZ (QH rf (QA rf ((↑(Xx ((↑rf.Qa.length:Int)*rf.Qb)):Int)-1)) (Lb rf.Qb)) rf.Qa 0);#[.int .i64 (Prod.fst a),.int .i64 (Prod.snd a)]
def iG(rf:Qc):Array Value:=#[QJ rf.Qa.length (Qm Qf rf.Qa),.int .i64 rf.Qi,.int .i64 rf.Qb]
def iK(B:Lo)(rf:Qc)(es:List (F4×F4)):List Prop:=let c:=Lf rf.Qa;let a:=(↑c:Int)*rf.Qb;let b:=(↑(Xx a):Int)-1;let d:=QA rf b;[Qw []/\Qx YP J0 90 #[.agg (iG rf),.int .i64 b] (.agg #[QJ c (Qm Qf rf.Qa),.int .i64 rf.Qi,.int .i64 rf.Qb,.int .i64 (d.getD 0 0),.int .i64 (d.getD 1 0),.int .i64 (d.getD 2 0),.int .i64 (d.getD 3 0)]),wq b=(↑(Xx a):Int)-1,Kd YP BinOp.shl 3 (.int .i64 1) (Xm {len:=16000,tr:=Tri.set 14 Tri.lf 20 (.int .i64 a)} 20) (.int .i64 (↑(Xx a):Int)),wq a=(↑c:Int)*rf.Qb]++([]:List Prop)
def rz(rf:Qc)(es:List (F4×F4)):Q2:=let c:=rf.Qa;let a:=(↑c.length:Int)*rf.Qb;let d:=(↑(Xx a):Int)-1;let b:=QA rf d;[(10,VU a),(11,Ql.bin (.int .i64 (↑(Xx a):Int))),(17,VU d),(18,Ql.pure (.agg #[QJ c.length (Qm Qf c),.int .i64 rf.Qi,.int .i64 rf.Qb,.int .i64 (b.getD 0 0),.int .i64 (b.getD 1 0),.int .i64 (b.getD 2 0),.int .i64 (b.getD 3 0)]) [])]
theorem BF(B:Lo)(rf:Qc)(es:List (F4×F4)):let d:=Lb rf.Qb;let c:=Value.tuple #[.agg (aQ rf),.bool true];let a:=QA rf ((↑(Xx ((↑rf.Qa.length:Int)*rf.Qb)):Int)-1);let b:=Xd rf a d es;let e:=mapA Qu b;CE.finK 2 (Qs YP (Q0 YP) J0 B 14 2 (Ud rf es) (Z3 rf es) 2
 (rz rf es++[(20,Ql.wriC [1] [0] [true] [] (Ub rf a es) (Ua rf a es) (Uc rf a es) (OO.ret c))]) 0 [] []) [(1,KS.same)] [] []=some (OO.ret (.tuple #[.agg #[.slice none 0 0,.int .i64 0,.int .i64 0,.int .i64 0,.int .i64 0,.int .i64 0,.int .i64 0],.bool false]),[(1,Obj.map e b.length)],[],
 [QE e,(Qw [QE (mapA Qu es),QE e]/\K7 (rf) a (es))/\OO.ret (.tuple #[.agg (aQ rf),.bool (Prod.fst (QZ (QH rf a d) rf.Qa 0))])=OO.ret c]++iK B rf es):=by intro d c a b e;kernel_rfl
def U7(rf:Qc)(es:List (F4×F4))(i:Int)(fs:List (F4×F4)):List Value:=[pA 3 0,pA 4 0,pA 5 0,.bool false,.int .i64 (↑(Xx ((↑rf.Qa.length:Int)*rf.Qb)):Int),.int .i64 i]
def U6(rf:Qc)(es:List (F4×F4))(i:Int)(fs:List (F4×F4)):List Obj:=[.map (mapA Qu fs) fs.length]
def V7(rf:Qc)(es:List (F4×F4))(i:Int)(fs:List (F4×F4)):List Obj:=[Obj.cells #[Qn 0 (QJ rf.Qa.length (Qm Qf rf.Qa)),.int .i64 rf.Qi,.int .i64 rf.Qb,Value.map (some 1)] 98,Obj.cells #[.slice none 0 0,.int .i64 0,.int .i64 0,.int .i64 0,.int .i64 0,.int .i64 0,.int .i64 0] 84,Obj.cells #[.slice none 0 0,.int .i64 0,.int .i64 0,.int .i64 0,.int .i64 0,.int .i64 0,.int .i64 0] 84]
def U8:List Item:=([.code [1,1,1,1,0,1,0,0],.inLoop [1,1,1,1,0,1,0,0],.inBlock 0,.code [1,1,1,1,1]]).map (it (Q9 YP 65))
def Wb(rf:Qc)(es:List (F4×F4))(i k:Int)(fs:List (F4×F4)):List Value:=[pA 3 0,pA 4 0,pA 5 0,.bool true,.int .i64 (↑(Xx ((↑rf.Qa.length:Int)*rf.Qb)):Int),.int .i64 i]
def Wa(rf:Qc)(es:List (F4×F4))(i k:Int)(fs:List (F4×F4)):List Obj:=[.map (mapA Qu fs) fs.length]
def ZG(rf:Qc)(es:List (F4×F4))(i k:Int)(fs:List (F4×F4)):List Obj:=let a:=QA rf k;[Obj.cells #[Qn 0 (QJ rf.Qa.length (Qm Qf rf.Qa)),.int .i64 rf.Qi,.int .i64 rf.Qb,Value.map (some 1)] 98,Obj.cells #[.slice none 0 0,.int .i64 0,.int .i64 0,.int .i64 0,.int .i64 0,.int .i64 0,.int .i64 0] 84,.cells #[Qn 2 (Vb rf.Qa),.int .i64 rf.Qi,.int .i64 rf.Qb,.int .i64 (a.getD 0 0),.int .i64 (a.getD 1 0),.int .i64 (a.getD 2 0),.int .i64 (a.getD 3 0)] 84 (0,0)]
def Wc:List Item:=([.code [1,1,1,1,0,1,0,0],.inLoop [1,1,1,1,0,1,0,0],.inBlock 0,.code [1,1,1,1,1]]).map (it (Q9 YP 65))
def iJ(B:Lo)(rf:Qc)(es:List (F4×F4))(i:Int)(fs:List (F4×F4))(Qt:Nat->Value):List Prop:=let b:=QA rf i;let a:=rf.Qa;[Qw []/\Qx YP J0 90 #[.agg (iG rf),.int .i64 i] (.agg #[QJ a.length (Qm Qf a),.int .i64 rf.Qi,.int .i64 rf.Qb,.int .i64 (b.getD 0 0),.int .i64 (b.getD 1 0),.int .i64 (b.getD 2 0),.int .i64 (b.getD 3 0)]),Zm i (↑(Xx ((↑a.length:Int)*rf.Qb)):Int)=true]++([]:List Prop)
def ry(rf:Qc)(es:List (F4×F4))(i:Int)(fs:List (F4×F4))(Qt:Nat->Value):Q2:=let a:=QA rf i;[(0,VT),(6,Ql.pure (.agg #[QJ rf.Qa.length (Qm Qf rf.Qa),.int .i64 rf.Qi,.int .i64 rf.Qb,.int .i64 (a.getD 0 0),.int .i64 (a.getD 1 0),.int .i64 (a.getD 2 0),.int .i64 (a.getD 3 0)]) [])]
theorem BD(B:Lo)(rf:Qc)(es:List (F4×F4))(i:Int)(fs:List (F4×F4))(Qt:Nat->Value):let g:=V7 rf es i fs;let f:=Lb rf.Qb;let d:=QA rf i;let b:=Xd rf d f fs;let a:=QZ (QH rf d f) rf.Qa 0;let e:=Prod.snd a;let c:=Value.tuple #[.agg #[.int .i64 (Prod.fst e),.int .i64 (Prod.snd e)],.bool true];CE.landA 2 (Qs YP (Q0 YP) J0 B 25 2 (X9 ((none:Option Nat)) 65 65 (([1,2,7,8,36,37]:List Nat).zip (U7 rf es i fs)) Qt U8) (Xs (Z3 rf es) 2 (([1]:List Nat).zip (U6 rf es i fs)) g) (2+1+g.length)
 (ry rf es i fs Qt++[(20,Ql.wriC [1] [0] [true] [] (Ub rf d fs) (Ua rf d fs) (Uc rf d fs) (OO.ret c)),(29,VU (i+1))]) 0 [] []) [1,2,7,8,36,37] [(1,KS.same)] [(3,KS.auto),(4,KS.auto),(5,KS.auto)] []=some ⟨65,65,U8,[],.run,(none:Option Nat),U7 rf es (i+1) b,([1]:List Nat).zip (U6 rf es (i+1) b),V7 rf es (i+1) b,
 [QE (mapA Qu b),wq (i+1)=i+1,(Qw [QE (mapA Qu fs),QE (mapA Qu b)]/\K7 (rf) d (fs))/\OO.ret (.tuple #[.agg #[.int .i64 (Prod.fst e),.int .i64 (Prod.snd e)],.bool (Prod.fst a)])=OO.ret c]++iJ B rf es i fs Qt⟩:=by intro g f d b a e c;kernel_rfl
theorem BC(B:Lo)(rf:Qc)(es:List (F4×F4))(i:Int)(fs:List (F4×F4))(Qt:Nat->Value):let g:=V7 rf es i fs;let f:=Lb rf.Qb;let d:=QA rf i;let b:=Xd rf d f fs;let a:=QZ (QH rf d f) rf.Qa 0;let e:=Prod.snd a;let c:=Value.tuple #[.agg #[.int .i64 (Prod.fst e),.int .i64 (Prod.snd e)],.bool false];CE.landA 2 (Qs YP (Q0 YP) J0 B 25 2 (X9 ((none:Option Nat)) 65 65 (([1,2,7,8,36,37]:List Nat).zip (U7 rf es i fs)) Qt U8) (Xs (Z3 rf es) 2 (([1]:List Nat).zip (U6 rf es i fs)) g) (2+1+g.length)
 (ry rf es i fs Qt++[(20,Ql.wriC [1] [0] [true] [] (Ub rf d fs) (Ua rf d fs) (Uc rf d fs) (OO.ret c)),(32,VU (i+1))]) 0 [] []) [1,2,7,8,36,37] [(1,KS.same)] [(3,KS.auto),(4,KS.auto),(5,KS.auto)] []=some ⟨65,65,Wc,[],.run,(none:Option Nat),Wb rf es (i+1) (i) b,([1]:List Nat).zip (Wa rf es (i+1) (i) b),ZG rf es (i+1) (i) b,
 [QE (mapA Qu b),wq (i+1)=i+1,(Qw [QE (mapA Qu fs),QE (mapA Qu b)]/\K7 (rf) d (fs))/\OO.ret (.tuple #[.agg #[.int .i64 (Prod.fst e),.int .i64 (Prod.snd e)],.bool (Prod.fst a)])=OO.ret c]++iJ B rf es i fs Qt⟩:=by intro g f d b a e c;kernel_rfl
theorem BB(B:Lo)(rf:Qc)(es:List (F4×F4))(i:Int)(fs:List (F4×F4))(Qt:Nat->Value):let a:=V7 rf es i fs;CE.finK 2 (Qs YP (Q0 YP) J0 B 9 2 (X9 ((none:Option Nat)) 65 65 (([1,2,7,8,36,37]:List Nat).zip (U7 rf es i fs)) Qt U8) (Xs (Z3 rf es) 2 (([1]:List Nat).zip (U6 rf es i fs)) a) (2+1+a.length)
 [(0,VI)] 0 [] []) [(1,KS.same)] [] []=some (OO.ret (.tuple #[.agg #[.slice none 0 0,.int .i64 0,.int .i64 0,.int .i64 0,.int .i64 0,.int .i64 0,.int .i64 0],.bool false]),[(1,Obj.map (mapA Qu fs) fs.length)],[],
 [QE (mapA Qu fs),Zm i (↑(Xx ((↑rf.Qa.length:Int)*rf.Qb)):Int)=false]):=by intro a;kernel_rfl
def iI(B:Lo)(rf:Qc)(es:List (F4×F4))(i k:Int)(fs:List (F4×F4))(Qt:Nat->Value):List Prop:=let g:=rf.Qi;let f:=rf.Qb;let d:=QA rf k;let b:=QA rf i;let a:=rf.Qa;let e:=Qm Qf a;let c:=Lf a;[Qw []/\Qx YP J0 67 #[.agg #[QJ c e,.int .i64 g,.int .i64 f,.int .i64 (d.getD 0 0),.int .i64 (d.getD 1 0),.int .i64 (d.getD 2 0),.int .i64 (d.getD 3 0)]] (.int .i64 (Xg rf d)),Qw []/\Qx YP J0 67 #[.agg #[QJ c e,.int .i64 g,.int .i64 f,.int .i64 (b.getD 0 0),.int .i64 (b.getD 1 0),.int .i64 (b.getD 2 0),.int .i64 (b.getD 3 0)]] (.int .i64 (Xg rf b)),Qw []/\Qx YP J0 90 #[.agg (iG rf),.int .i64 i] (.agg #[QJ c e,.int .i64 g,.int .i64 f,.int .i64 (b.getD 0 0),.int .i64 (b.getD 1 0),.int .i64 (b.getD 2 0),.int .i64 (b.getD 3 0)]),Zm i (↑(Xx ((↑c:Int)*rf.Qb)):Int)=true]++([]:List Prop)
def rv(rf:Qc)(es:List (F4×F4))(i k:Int)(fs:List (F4×F4))(Qt:Nat->Value):Q2:=let a:=QA rf i;[(0,VT),(6,Ql.pure (.agg #[QJ rf.Qa.length (Qm Qf rf.Qa),.int .i64 rf.Qi,.int .i64 rf.Qb,.int .i64 (a.getD 0 0),.int .i64 (a.getD 1 0),.int .i64 (a.getD 2 0),.int .i64 (a.getD 3 0)]) []),(12,Ql.pure (.int .i64 (Xg rf a)) []),(14,Ql.pure (.int .i64 (Xg rf (QA rf k))) [])]
theorem BA(B:Lo)(rf:Qc)(es:List (F4×F4))(i k:Int)(fs:List (F4×F4))(Qt:Nat->Value):let a:=ZG rf es i k fs;CE.landA 2 (Qs YP (Q0 YP) J0 B 18 2 (X9 ((none:Option Nat)) 65 65 (([1,2,7,8,36,37]:List Nat).zip (Wb rf es i k fs)) Qt Wc) (Xs (Z3 rf es) 2 (([1]:List Nat).zip (Wa rf es i k fs)) a) (2+1+a.length)
 (rv rf es i k fs Qt++[(15,VT),(17,VU (i+1))]) 0 [] []) [1,2,7,8,36,37] [(1,KS.same)] [(3,KS.auto),(4,KS.auto),(5,KS.auto)] []=some ⟨65,65,Wc,[],.run,(none:Option Nat),Wb rf es (i+1) (k) (fs),([1]:List Nat).zip (Wa rf es (i+1) (k) (fs)),ZG rf es (i+1) (k) (fs),
 [QE (mapA Qu fs),wq (i+1)=i+1,(!Zm (Xg rf (QA rf i)) (Xg rf (QA rf k)))=true]++iI B rf es i k fs Qt⟩:=by intro a;kernel_rfl
def iH(B:Lo)(rf:Qc)(es:List (F4×F4))(i k:Int)(fs:List (F4×F4))(Qt:Nat->Value):List Prop:=[(!Zm (Xg rf (QA rf i)) (Xg rf (QA rf k)))=false]++iI B rf es i k fs Qt
def ru(rf:Qc)(es:List (F4×F4))(i k:Int)(fs:List (F4×F4))(Qt:Nat->Value):Q2:=rv rf es i k fs Qt++[(15,VI)]
theorem B9(B:Lo)(rf:Qc)(es:List (F4×F4))(i k:Int)(fs:List (F4×F4))(Qt:Nat->Value):let g:=ZG rf es i k fs;let f:=Lb rf.Qb;let d:=QA rf i;let b:=Xd rf d f fs;let a:=QZ (QH rf d f) rf.Qa 0;let e:=Prod.snd a;let c:=Value.tuple #[.agg #[.int .i64 (Prod.fst e),.int .i64 (Prod.snd e)],.bool true];CE.landA 2 (Qs YP (Q0 YP) J0 B 25 2 (X9 ((none:Option Nat)) 65 65 (([1,2,7,8,36,37]:List Nat).zip (Wb rf es i k fs)) Qt Wc) (Xs (Z3 rf es) 2 (([1]:List Nat).zip (Wa rf es i k fs)) g) (2+1+g.length)
 (ru rf es i k fs Qt++[(20,Ql.wriC [1] [0] [true] [] (Ub rf d fs) (Ua rf d fs) (Uc rf d fs) (OO.ret c)),(29,VU (i+1))]) 0 [] []) [1,2,7,8,36,37] [(1,KS.same)] [(3,KS.auto),(4,KS.auto),(5,KS.auto)] []=some ⟨65,65,Wc,[],.run,(none:Option Nat),Wb rf es (i+1) (k) b,([1]:List Nat).zip (Wa rf es (i+1) (k) b),ZG rf es (i+1) (k) b,
 [QE (mapA Qu b),wq (i+1)=i+1,(Qw [QE (mapA Qu fs),QE (mapA Qu b)]/\K7 (rf) d (fs))/\OO.ret (.tuple #[.agg #[.int .i64 (Prod.fst e),.int .i64 (Prod.snd e)],.bool (Prod.fst a)])=OO.ret c]++iH B rf es i k fs Qt⟩:=by intro g f d b a e c;kernel_rfl
theorem B8(B:Lo)(rf:Qc)(es:List (F4×F4))(i k:Int)(fs:List (F4×F4))(Qt:Nat->Value):let g:=ZG rf es i k fs;let f:=Lb rf.Qb;let d:=QA rf i;let b:=Xd rf d f fs;let a:=QZ (QH rf d f) rf.Qa 0;let e:=Prod.snd a;let c:=Value.tuple #[.agg #[.int .i64 (Prod.fst e),.int .i64 (Prod.snd e)],.bool false];CE.landA 2 (Qs YP (Q0 YP) J0 B 25 2 (X9 ((none:Option Nat)) 65 65 (([1,2,7,8,36,37]:List Nat).zip (Wb rf es i k fs)) Qt Wc) (Xs (Z3 rf es) 2 (([1]:List Nat).zip (Wa rf es i k fs)) g) (2+1+g.length)
 (ru rf es i k fs Qt++[(20,Ql.wriC [1] [0] [true] [] (Ub rf d fs) (Ua rf d fs) (Uc rf d fs) (OO.ret c)),(32,VU (i+1))]) 0 [] []) [1,2,7,8,36,37] [(1,KS.same)] [(3,KS.auto),(4,KS.auto),(5,KS.auto)] []=some ⟨65,65,Wc,[],.run,(none:Option Nat),Wb rf es (i+1) (i) b,([1]:List Nat).zip (Wa rf es (i+1) (i) b),ZG rf es (i+1) (i) b,
 [QE (mapA Qu b),wq (i+1)=i+1,(Qw [QE (mapA Qu fs),QE (mapA Qu b)]/\K7 (rf) d (fs))/\OO.ret (.tuple #[.agg #[.int .i64 (Prod.fst e),.int .i64 (Prod.snd e)],.bool (Prod.fst a)])=OO.ret c]++iH B rf es i k fs Qt⟩:=by intro g f d b a e c;kernel_rfl
theorem B7(B:Lo)(rf:Qc)(es:List (F4×F4))(i k:Int)(fs:List (F4×F4))(Qt:Nat->Value):let c:=ZG rf es i k fs;let b:=QA rf k;let a:=rf.Qa;CE.finK 2 (Qs YP (Q0 YP) J0 B 9 2 (X9 ((none:Option Nat)) 65 65 (([1,2,7,8,36,37]:List Nat).zip (Wb rf es i k fs)) Qt Wc) (Xs (Z3 rf es) 2 (([1]:List Nat).zip (Wa rf es i k fs)) c) (2+1+c.length)
 [(0,VI)] 0 [] []) [(1,KS.same)] [] []=some (OO.ret (.tuple #[.agg #[Qn 2 (QJ a.length (Qm Qf a)),.int .i64 rf.Qi,.int .i64 rf.Qb,.int .i64 (b.getD 0 0),.int .i64 (b.getD 1 0),.int .i64 (b.getD 2 0),.int .i64 (b.getD 3 0)],.bool true]),[(1,Obj.map (mapA Qu fs) fs.length)],[],
 [QE (mapA Qu fs),Zm i (↑(Xx ((↑a.length:Int)*rf.Qb)):Int)=false]):=by intro c b a;kernel_rfl
set_option maxHeartbeats 4000000 in
theorem r3(rf:Qc)(es:List (F4×F4))(hr:X5 rf=true)(he:Vh rf es){B:Lo}(hJ:∀w,B.has w->J0 w):∀m:Nat,(∀(i:Int) (fs:List (F4×F4)),(Xa rf-i).toNat=m->∀(i0:0<=i) (i1:i<=Xa rf) (ge:Vh rf fs) (hb:WR rf es=Uk rf (Xa rf-i).toNat i fs false 0),(∃Qt:Nat->Value,(∀t,X0 (Qt t))/\GoE YP B (Ud rf es) (Z3 rf es) 2 (X9 ((none:Option Nat)) 65 65 (([1,2,7,8,36,37]:List Nat).zip (U7 rf es i fs)) Qt U8) (Xs (Z3 rf es) 2 (([1]:List Nat).zip (U6 rf es i fs)) (V7 rf es i fs)) (2+1+(V7 rf es i fs).length) ([1]:List Nat))->FinK YP B (Ud rf es) (Z3 rf es) 2 (bif (Q4 rf).1 then .ret (.tuple #[.agg #[Qn 2 (Vb rf.Qa),.int .i64 rf.Qi,.int .i64 rf.Qb,.int .i64 ((QA rf (Q4 rf).2).getD 0 0),.int .i64 ((QA rf (Q4 rf).2).getD 1 0),.int .i64 ((QA rf (Q4 rf).2).getD 2 0),.int .i64 ((QA rf (Q4 rf).2).getD 3 0)],.bool true])else .ret (.tuple #[.agg #[.slice none 0 0,.int .i64 0,.int .i64 0,.int .i64 0,.int .i64 0,.int .i64 0,.int .i64 0],.bool false])) (([1]:List Nat).zip ([.map (mapA Qu (WR rf es).1) (WR rf es).1.length])) ([]) ([1]:List Nat))/\(∀(i k:Int) (fs:List (F4×F4)),(Xa rf-i).toNat=m->∀(i0:0<=i) (i1:i<=Xa rf) (k0:0<=k) (ge:Vh rf fs) (hb:WR rf es=Uk rf (Xa rf-i).toNat i fs true k),(∃Qt:Nat->Value,(∀t,X0 (Qt t))/\GoE YP B (Ud rf es) (Z3 rf es) 2 (X9 ((none:Option Nat)) 65 65 (([1,2,7,8,36,37]:List Nat).zip (Wb rf es i k fs)) Qt Wc) (Xs (Z3 rf es) 2 (([1]:List Nat).zip (Wa rf es i k fs)) (ZG rf es i k fs)) (2+1+(ZG rf es i k fs).length) ([1]:List Nat))->FinK YP B (Ud rf es) (Z3 rf es) 2 (bif (Q4 rf).1 then .ret (.tuple #[.agg #[Qn 2 (Vb rf.Qa),.int .i64 rf.Qi,.int .i64 rf.Qb,.int .i64 ((QA rf (Q4 rf).2).getD 0 0),.int .i64 ((QA rf (Q4 rf).2).getD 1 0),.int .i64 ((QA rf (Q4 rf).2).getD 2 0),.int .i64 ((QA rf (Q4 rf).2).getD 3 0)],.bool true])else .ret (.tuple #[.agg #[.slice none 0 0,.int .i64 0,.int .i64 0,.int .i64 0,.int .i64 0,.int .i64 0,.int .i64 0],.bool false])) (([1]:List Nat).zip ([.map (mapA Qu (WR rf es).1) (WR rf es).1.length])) ([]) ([1]:List Nat)):=by
 intro m0;induction m0 using LA with
 |_ m0 ih0=>
  refine⟨?_, ?_⟩
  ·intro i fs hm0 i0 i1 ge hb ⟨Qt,KF,XW⟩;have Zc:=Qz (Q6 hr).1;have hpi:=JE (rf:=rf) Zc.1 Zc.2.2;have hpn:Xa rf=((Xx ((rf.Qa.length:Int)*rf.Qb):Nat):Int):=rfl;have hpl:=Xp (rf:=rf) (n:=Xa rf-1) (by omega);have Zc:=Qz (Q6 hr).1;have hpi:=JE (rf:=rf) Zc.1 Zc.2.2;have hpn:Xa rf=((Xx ((rf.Qa.length:Int)*rf.Qb):Nat):Int):=rfl;have hpl:=Xp (rf:=rf) (n:=i) (by omega);by_cases q0:(i:Int)<((↑(Xx ((↑rf.Qa.length:Int)*rf.Qb)):Int))
   ·have hp1:Qw (iJ B rf es i fs Qt):=by
     exact⟨⟨trivial,cg (rf) (i) (by omega) (by omega) (by with_reducible assumption) (by omega)⟩,⟨(XY q0),trivial⟩⟩
    cases q1:Prod.fst (QZ (QH rf (QA rf i) (Lb rf.Qb)) rf.Qa 0)with
    |true=>
     exact((ih0 _ (by omega)).1 (i+1) (Xd rf (QA rf i) (Lb rf.Qb) fs) rfl (by omega) (by omega) (by exact Ym hpl ge _ (by omega)) (by exact ue hb (by omega) (.inl rfl) (by assumption))
      (GoE.landA okF hJ Qd (Qk (by kernel_rfl)) (Qg (by kernel_rfl)) XW (BD B rf es i fs Qt)
      ⟨(by exact Q8 (fun _=>by kernel_rfl)),⟨(Xq (by omega) (by omega)),⟨⟨⟨⟨(Q8 (fun _=>by kernel_rfl)),⟨(Q8 (fun _=>by kernel_rfl)),trivial⟩⟩,Ry (rf) (QA rf i) (fs) (by with_reducible assumption) (by with_reducible assumption) (by with_reducible assumption)⟩,(by(rw[q1];done))⟩,hp1⟩⟩⟩ (by kernel_rfl) (by kernel_rfl) (fun l hl=>by cases hl <;> decide))).cast (by rfl) (by rfl) (by rfl)
    |false=>
     exact((ih0 _ (by omega)).2 (i+1) (i) (Xd rf (QA rf i) (Lb rf.Qb) fs) rfl (by omega) (by omega) (by with_reducible assumption) (by exact Ym hpl ge _ (by omega)) (by exact mR hb (by omega) (.inl rfl) (by assumption))
      (GoE.landA okF hJ Qd (Qk (by kernel_rfl)) (Qg (by kernel_rfl)) XW (BC B rf es i fs Qt)
      ⟨(by exact Q8 (fun _=>by kernel_rfl)),⟨(Xq (by omega) (by omega)),⟨⟨⟨⟨(Q8 (fun _=>by kernel_rfl)),⟨(Q8 (fun _=>by kernel_rfl)),trivial⟩⟩,Ry (rf) (QA rf i) (fs) (by with_reducible assumption) (by with_reducible assumption) (by with_reducible assumption)⟩,(by(rw[q1];done))⟩,hp1⟩⟩⟩ (by kernel_rfl) (by kernel_rfl) (fun l hl=>by cases hl <;> decide))).cast (by rfl) (by rfl) (by rfl)
   ·exact(GoE.finK okF hJ Qd (Qk (by kernel_rfl)) (Qg (by kernel_rfl)) XW (BB B rf es i fs Qt)
     ⟨(by exact Q8 (fun _=>by kernel_rfl)),⟨(XZ (Int.not_lt.1 q0)),trivial⟩⟩).cast (by(rw[ud hb (by omega)];rfl)) (by(rw[lh hb (by omega)];rfl)) (by rfl)
  ·intro i k fs hm0 i0 i1 k0 ge hb ⟨Qt,KF,XW⟩;have Zc:=Qz (Q6 hr).1;have hpi:=JE (rf:=rf) Zc.1 Zc.2.2;have hpn:Xa rf=((Xx ((rf.Qa.length:Int)*rf.Qb):Nat):Int):=rfl;have hpl:=Xp (rf:=rf) (n:=Xa rf-1) (by omega);have Zc:=Qz (Q6 hr).1;have hpi:=JE (rf:=rf) Zc.1 Zc.2.2;have hpn:Xa rf=((Xx ((rf.Qa.length:Int)*rf.Qb):Nat):Int):=rfl;have hpl:=Xp (rf:=rf) (n:=i) (by omega);have PT:=iT (rf:=rf) (n:=i) Zc.2.2;have hlk:=iT (rf:=rf) (n:=k) Zc.2.2;have hgi:=nP hr i;have hgk:=nP hr k;by_cases q0:(i:Int)<((↑(Xx ((↑rf.Qa.length:Int)*rf.Qb)):Int))
   ·have KT:Qw (iI B rf es i k fs Qt):=by
     exact⟨⟨trivial,B6 (rf) (QA rf k) (by with_reducible assumption) (by omega) (by with_reducible assumption) (by with_reducible assumption)⟩,⟨⟨trivial,B6 (rf) (QA rf i) (by with_reducible assumption) (by omega) (by with_reducible assumption) (by with_reducible assumption)⟩,⟨⟨trivial,cg (rf) (i) (by omega) (by omega) (by with_reducible assumption) (by omega)⟩,⟨(XY q0),trivial⟩⟩⟩⟩
    by_cases q1:(Xg rf (QA rf k):Int)<=(Xg rf (QA rf i))
    ·exact((ih0 _ (by omega)).2 (i+1) (k) (fs) rfl (by omega) (by omega) (by with_reducible assumption) (by with_reducible assumption) (by exact zJ hb (by omega) (by omega))
      (GoE.landA okF hJ Qd (Qk (by kernel_rfl)) (Qg (by kernel_rfl)) XW (BA B rf es i k fs Qt)
      ⟨(by exact Q8 (fun _=>by kernel_rfl)),⟨(Xq (by omega) (by omega)),⟨(UW q1),KT⟩⟩⟩ (by kernel_rfl) (by kernel_rfl) (fun l hl=>by cases hl <;> decide))).cast (by rfl) (by rfl) (by rfl)
    ·have hp3:Qw (iH B rf es i k fs Qt):=by
      exact⟨(UX (Int.not_le.1 q1)),KT⟩
     cases q2:Prod.fst (QZ (QH rf (QA rf i) (Lb rf.Qb)) rf.Qa 0)with
     |true=>
      exact((ih0 _ (by omega)).2 (i+1) (k) (Xd rf (QA rf i) (Lb rf.Qb) fs) rfl (by omega) (by omega) (by with_reducible assumption) (by exact Ym hpl ge _ (by omega)) (by exact ue hb (by omega) (.inr (by omega)) (by assumption))
       (GoE.landA okF hJ Qd (Qk (by kernel_rfl)) (Qg (by kernel_rfl)) XW (B9 B rf es i k fs Qt)
       ⟨(by exact Q8 (fun _=>by kernel_rfl)),⟨(Xq (by omega) (by omega)),⟨⟨⟨⟨(Q8 (fun _=>by kernel_rfl)),⟨(Q8 (fun _=>by kernel_rfl)),trivial⟩⟩,Ry (rf) (QA rf i) (fs) (by with_reducible assumption) (by with_reducible assumption) (by with_reducible assumption)⟩,(by(rw[q2];done))⟩,hp3⟩⟩⟩ (by kernel_rfl) (by kernel_rfl) (fun l hl=>by cases hl <;> decide))).cast (by rfl) (by rfl) (by rfl)
     |false=>
      exact((ih0 _ (by omega)).2 (i+1) (i) (Xd rf (QA rf i) (Lb rf.Qb) fs) rfl (by omega) (by omega) (by with_reducible assumption) (by exact Ym hpl ge _ (by omega)) (by exact mR hb (by omega) (.inr (by omega)) (by assumption))
       (GoE.landA okF hJ Qd (Qk (by kernel_rfl)) (Qg (by kernel_rfl)) XW (B8 B rf es i k fs Qt)
       ⟨(by exact Q8 (fun _=>by kernel_rfl)),⟨(Xq (by omega) (by omega)),⟨⟨⟨⟨(Q8 (fun _=>by kernel_rfl)),⟨(Q8 (fun _=>by kernel_rfl)),trivial⟩⟩,Ry (rf) (QA rf i) (fs) (by with_reducible assumption) (by with_reducible assumption) (by with_reducible assumption)⟩,(by(rw[q2];done))⟩,hp3⟩⟩⟩ (by kernel_rfl) (by kernel_rfl) (fun l hl=>by cases hl <;> decide))).cast (by rfl) (by rfl) (by rfl)
   ·exact(GoE.finK okF hJ Qd (Qk (by kernel_rfl)) (Qg (by kernel_rfl)) XW (B7 B rf es i k fs Qt)
     ⟨(by exact Q8 (fun _=>by kernel_rfl)),⟨(XZ (Int.not_lt.1 q0)),trivial⟩⟩).cast (by(rw[ud hb (by omega)];rfl)) (by(rw[lh hb (by omega)];rfl)) (by rfl)

theorem BE(B:Lo)(rf:Qc)(es:List (F4×F4)):let d:=Lb rf.Qb;let c:=Value.tuple #[.agg (aQ rf),.bool false];let a:=QA rf ((↑(Xx ((↑rf.Qa.length:Int)*rf.Qb)):Int)-1);let b:=Xd rf a d es;CE.landA 2 (Qs YP (Q0 YP) J0 B 18 2 (Ud rf es) (Z3 rf es) 2
 (rz rf es++[(20,Ql.wriC [1] [0] [true] [] (Ub rf a es) (Ua rf a es) (Uc rf a es) (OO.ret c))]) 0 [] []) [1,2,7,8,36,37] [(1,KS.same)] [(2,KS.auto),(3,KS.auto),(7,KS.auto)] []=some ⟨65,65,U8,[],.run,(none:Option Nat),U7 rf es (0) b,([1]:List Nat).zip (U6 rf es (0) b),V7 rf es (0) b,
 [QE (mapA Qu b),(Qw [QE (mapA Qu es),QE (mapA Qu b)]/\K7 (rf) a (es))/\OO.ret (.tuple #[.agg (aQ rf),.bool (Prod.fst (QZ (QH rf a d) rf.Qa 0))])=OO.ret c]++iK B rf es⟩:=by intro d c a b;kernel_rfl
set_option maxHeartbeats 4000000 in
theorem Ee(rf:Qc)(es:List (F4×F4))(hr:X5 rf=true)(he:Vh rf es){B:Lo}(hJ:∀w,B.has w->J0 w):FinK YP B (Ud rf es) (Z3 rf es) 2 (bif (Q4 rf).1 then .ret (.tuple #[.agg #[Qn 2 (Vb rf.Qa),.int .i64 rf.Qi,.int .i64 rf.Qb,.int .i64 ((QA rf (Q4 rf).2).getD 0 0),.int .i64 ((QA rf (Q4 rf).2).getD 1 0),.int .i64 ((QA rf (Q4 rf).2).getD 2 0),.int .i64 ((QA rf (Q4 rf).2).getD 3 0)],.bool true])else .ret (.tuple #[.agg #[.slice none 0 0,.int .i64 0,.int .i64 0,.int .i64 0,.int .i64 0,.int .i64 0,.int .i64 0],.bool false])) (([1]:List Nat).zip [.map (mapA Qu (WR rf es).1) (WR rf es).1.length]) [] ([1]:List Nat):=by
 have Zc:=Qz (Q6 hr).1;have hpi:=JE (rf:=rf) Zc.1 Zc.2.2;have hpn:Xa rf=((Xx ((rf.Qa.length:Int)*rf.Qb):Nat):Int):=rfl;have hpl:=Xp (rf:=rf) (n:=Xa rf-1) (by omega);have WL:Qw (iK B rf es):=by
  exact⟨⟨trivial,cg (rf) ((↑(Xx ((↑rf.Qa.length:Int)*rf.Qb)):Int)-1) (by omega) (by omega) (by omega) (by omega)⟩,⟨(Xq (by omega) (by omega)),⟨(kZ (by omega) (by omega)),⟨(Xq (by omega) (by omega)),trivial⟩⟩⟩⟩
 cases q0:Prod.fst (QZ (QH rf (QA rf ((↑(Xx ((↑rf.Qa.length:Int)*rf.Qb)):Int)-1)) (Lb rf.Qb)) rf.Qa 0)with
 |true=>
  have hno:=zK (es:=es) (show dG rf=true from q0);exact(GoE.finK okF hJ Qd (Qk (by kernel_rfl)) (Qg (by kernel_rfl)) ((GoE.refl (P:=YP) (B:=B) (c0:=Ud rf es) (Qk (by kernel_rfl))).widen (Wf:=((([(1,KS.same)]):List (Nat×KS)).map (·.1))) (by simp) (Qg (by kernel_rfl))) (BF B rf es)
   ⟨(by exact Q8 (fun _=>by kernel_rfl)),⟨⟨⟨⟨(Q8 (fun _=>by kernel_rfl)),⟨(Q8 (fun _=>by kernel_rfl)),trivial⟩⟩,Ry (rf) (QA rf ((↑(Xx ((↑rf.Qa.length:Int)*rf.Qb)):Int)-1)) (es) (by with_reducible assumption) (by simp_all) (by with_reducible assumption)⟩,(by(rw[q0];done))⟩,WL⟩⟩).cast (by(rw[hno.2];rfl)) (by(rw[hno.1];rfl)) (by rfl)
 |false=>
  exact((r3 rf es hr he hJ _).1 (0) (Xd rf (QA rf ((↑(Xx ((↑rf.Qa.length:Int)*rf.Qb)):Int)-1)) (Lb rf.Qb) es) rfl (by omega) (by omega) (by exact Ym hpl he _ (by omega)) (by exact wA (by assumption))
   (GoE.landA okF hJ Qd (Qk (by kernel_rfl)) (Qg (by kernel_rfl)) ((GoE.refl (P:=YP) (B:=B) (c0:=Ud rf es) (Qk (by kernel_rfl))).widen (Wf:=((([(1,KS.same)]):List (Nat×KS)).map (·.1))) (by simp) (Qg (by kernel_rfl))) (BE B rf es)
   ⟨(by exact Q8 (fun _=>by kernel_rfl)),⟨⟨⟨⟨(Q8 (fun _=>by kernel_rfl)),⟨(Q8 (fun _=>by kernel_rfl)),trivial⟩⟩,Ry (rf) (QA rf ((↑(Xx ((↑rf.Qa.length:Int)*rf.Qb)):Int)-1)) (es) (by with_reducible assumption) (by simp_all) (by with_reducible assumption)⟩,(by(rw[q0];done))⟩,WL⟩⟩ (by kernel_rfl) (by kernel_rfl) (fun l hl=>by cases hl <;> decide))).cast (by rfl) (by rfl) (by rfl)
def aR(rf:Qc)(es:List (F4×F4)):OO:=let a:=QA rf (Q4 rf).2;bif (Q4 rf).1 then .ret (.tuple #[.agg #[Qn 2 (Vb rf.Qa),.int .i64 rf.Qi,.int .i64 rf.Qb,.int .i64 (a.getD 0 0),.int .i64 (a.getD 1 0),.int .i64 (a.getD 2 0),.int .i64 (a.getD 3 0)],.bool true])else .ret (.tuple #[.agg #[.slice none 0 0,.int .i64 0,.int .i64 0,.int .i64 0,.int .i64 0,.int .i64 0,.int .i64 0],.bool false])
def Ec(rf:Qc)(es:List (F4×F4)):List Obj:=[.map (mapA Qu (WR rf es).1) (WR rf es).1.length]
def Ed(rf:Qc)(es:List (F4×F4)):List Obj:=[]
theorem Fo(rf:Qc)(es:List (F4×F4))(hr:X5 rf=true)(he:Vh rf es):WriC YP J0 65 #[.agg #[Qn 0 (Vb rf.Qa),.int .i64 rf.Qi,.int .i64 rf.Qb,.map (some 1)]] [.map (mapA Qu es) es.length] (aR rf es) (Ec rf es) (Ed rf es):=
 FinK.wri (c0:=Ud rf es) (Hb:=Z3 rf es) (a:=2) (ws:=([1]:List Nat).zip [.map (mapA Qu (WR rf es).1) (WR rf es).1.length]) (Wf:=([1]:List Nat)) (by kernel_rfl) rfl rfl rfl rfl fun B hJ=>Ee rf es hr he hJ
end
end Go.Proofs.Ytncjjangllkokaa

namespace Go.Proofs.Ytncjjangllkokaa
open Go Go.CE Go.RowKit
set_option maxRecDepth 100000
end Go.Proofs.Ytncjjangllkokaa

namespace Go.Proofs.Ytncjjangllkokaa
open Go Go.CE Go.RowKit
theorem wL{g h:Int->Int}:∀(k:Nat),(∀m:Int,0<=m->m<k->g m<=h m)->Wg 0 k g<=Wg 0 k h
 |0,_=>by rw[Ky (by omega),Ky (by omega)];omega
 |k+1,H=>by
  have ih:=wL k fun m h0 h1=>H m h0 (by omega)
  have h2:=H k (by omega) (by omega);rw[show((k+1:Nat):Int)=(k:Int)+1 by omega,ZI (by omega),ZI (by omega)];omega
section
variable {ps:List Qe} {n:Int} {gs ts:List (List Int)} {f:F4}
end
end Go.Proofs.Ytncjjangllkokaa

namespace Go.Proofs.Ytncjjangllkokaa
open Go Go.CE Go.RowKit
set_option maxRecDepth 100000
end Go.Proofs.Ytncjjangllkokaa

namespace Go.Proofs.Ytncjjangllkokaa
open Go Go.CE Go.RowKit
set_option maxRecDepth 100000
end Go.Proofs.Ytncjjangllkokaa

namespace Go.Proofs.Ytncjjangllkokaa
open Go Go.CE Go.RowKit
noncomputable section
set_option maxRecDepth 100000
def Tf:List Int->List Int->Bool
 |x::l,y::k=>bif decide (x=y)then Tf l k else decide (x<y)
 |_,_=>false
theorem Pq{l k:List Int}{i:Int}(h0:0<=i)(h:i<l.length)(h':i<k.length):Tf (l.drop i.toNat) (k.drop i.toNat)=bif decide (l.getD i.toNat La=k.getD i.toNat La)then Tf (l.drop (i+1).toNat) (k.drop (i+1).toNat)else decide (l.getD i.toNat La<k.getD i.toNat La):=by
 obtain⟨m,rfl⟩:∃m:Nat,i=m:=⟨i.toNat,by omega⟩
 have hk:m<l.length:=by omega
 have hk':m<k.length:=by omega
 have e1:((m:Int)).toNat=m:=by omega
 have e2:((m:Int)+1).toNat=m+1:=by omega
 rw[e1,e2,List.drop_eq_getElem_cons hk,List.drop_eq_getElem_cons hk'];simp[Tf,Li,hk,hk']
theorem ug{l k:List Int}{i:Int}(h:¬(i<l.length/\i<k.length)):Tf (l.drop i.toNat) (k.drop i.toNat)=false:=by
 by_cases hl:i<l.length
 ·rw[show k.drop i.toNat=[]from List.drop_eq_nil_of_le (by omega)];cases l.drop i.toNat <;> rfl
 ·rw[show l.drop i.toNat=[]from List.drop_eq_nil_of_le (by omega)];rfl
def Vn(a b:List Int)(i:Int):List Value:=[Qn 1 (QJ a.length (Qm Xv a)),Qn 1 (QJ b.length (Qm Xv b)),.int .i64 i]
def Zf(a b:List Int)(i:Int):List Obj:=[]
def Vo:List Item:=([.code [1,0,1,0,0],.inLoop [1,0,1,0,0],.inBlock 0,.code [1,1]]).map (it (Q9 YP 42))
def uK(B:Lo)(c0:CF)(a b:List Int)(i:Int):Prop:=∃dJ:Nat->Value,(∀t,X0 (dJ t))/\GoE YP B c0 Za 1 (Xl 42 36 (([0,1,5]:List Nat).zip (Vn a b i)) dJ Vo) (Xj (Zf a b i)) (2+(Zf a b i).length) []
def T8(B:Lo)(a b:List Int)(i:Int)(Qt:Nat->Value):List Prop:=[Zm i (↑a.length:Int)=true]++([]:List Prop)
def gC(a b:List Int)(i:Int)(Qt:Nat->Value):Q2:=[(3,VT)]
def T7(B:Lo)(a b:List Int)(i:Int)(Qt:Nat->Value):List Prop:=let e:=Lb i*TypeInfo.size Try.t3;let d:=Lb i;let c:=Lb i*TypeInfo.size Try.t3+TypeInfo.size Try.t3;[i=(↑d:Int)/\Lb i<Lf b/\LO (Qm Xv b) e c=#[.int .i64 (b.getD d La)],i=(↑d:Int)/\Lb i<Lf a/\LO (Qm Xv a) e c=#[.int .i64 (a.getD d La)],Zm i (↑b.length:Int)=true]++T8 B a b i Qt
def gB(a b:List Int)(i:Int)(Qt:Nat->Value):Q2:=gC a b i Qt++[(8,VT),(12,Ql.tidx i.toNat #[.int .i64 (a.getD i.toNat La)]),(16,Ql.tidx i.toNat #[.int .i64 (b.getD i.toNat La)])]
def T6(B:Lo)(a b:List Int)(i:Int)(Qt:Nat->Value):List Prop:=let e:=Lb i*TypeInfo.size Try.t3;let d:=Lb i*TypeInfo.size Try.t3+TypeInfo.size Try.t3;let c:=Lb i;[i=(↑c:Int)/\Lb i<Lf b/\LO (Qm Xv b) e d=#[.int .i64 (b.getD c La)],i=(↑c:Int)/\Lb i<Lf a/\LO (Qm Xv a) e d=#[.int .i64 (a.getD c La)],(!Jv (a.getD c La) (b.getD c La))=true]++T7 B a b i Qt
def gA(a b:List Int)(i:Int)(Qt:Nat->Value):Q2:=gB a b i Qt++[(18,VT),(21,Ql.tidx i.toNat #[.int .i64 (a.getD i.toNat La)]),(25,Ql.tidx i.toNat #[.int .i64 (b.getD i.toNat La)])]
theorem uI(B:Lo)(a b:List Int)(i:Int)(Qt:Nat->Value):QW (Qs YP (Q0 YP) J0 B 14 1 (Xl 42 36 (([0,1,5]:List Nat).zip (Vn a b i)) Qt Vo) (Xj (Zf a b i)) (2+(Zf a b i).length)
 (gA a b i Qt++[(27,VT)]) 0 [] []) []=some (.bool true,
 [Zm (a.getD i.toNat La) (b.getD i.toNat La)=true]++T6 B a b i Qt):=by kernel_rfl
theorem uH(B:Lo)(a b:List Int)(i:Int)(Qt:Nat->Value):QW (Qs YP (Q0 YP) J0 B 14 1 (Xl 42 36 (([0,1,5]:List Nat).zip (Vn a b i)) Qt Vo) (Xj (Zf a b i)) (2+(Zf a b i).length)
 (gA a b i Qt++[(27,VI)]) 0 [] []) []=some (.bool false,
 [Zm (a.getD i.toNat La) (b.getD i.toNat La)=false]++T6 B a b i Qt):=by kernel_rfl
theorem uG(B:Lo)(a b:List Int)(i:Int)(Qt:Nat->Value):landM (Qs YP (Q0 YP) J0 B 14 1 (Xl 42 36 (([0,1,5]:List Nat).zip (Vn a b i)) Qt Vo) (Xj (Zf a b i)) (2+(Zf a b i).length)
 (gB a b i Qt++[(18,VI),(20,VU (i+1))]) 0 [] []) [0,1,5] [] []=some ⟨42,36,Vo,[],.run,none,Vn a b (i+1),Zf a b (i+1),
 [wq (i+1)=i+1,(!Jv (a.getD i.toNat La) (b.getD i.toNat La))=false]++T7 B a b i Qt⟩:=by kernel_rfl
theorem uF(B:Lo)(a b:List Int)(i:Int)(Qt:Nat->Value):QW (Qs YP (Q0 YP) J0 B 9 1 (Xl 42 36 (([0,1,5]:List Nat).zip (Vn a b i)) Qt Vo) (Xj (Zf a b i)) (2+(Zf a b i).length)
 (gC a b i Qt++[(8,VI)]) 0 [] []) []=some (.bool false,
 [Zm i (↑b.length:Int)=false]++T8 B a b i Qt):=by kernel_rfl
theorem uE(B:Lo)(a b:List Int)(i:Int)(Qt:Nat->Value):QW (Qs YP (Q0 YP) J0 B 9 1 (Xl 42 36 (([0,1,5]:List Nat).zip (Vn a b i)) Qt Vo) (Xj (Zf a b i)) (2+(Zf a b i).length)
 [(3,VI)] 0 [] []) []=some (.bool false,
 [Zm i (↑a.length:Int)=false]):=by kernel_rfl
theorem uD(B:Lo)(a b:List Int):landM (Qs YP (Q0 YP) J0 B 7 1 (Qr YP 42 36 (([XA a,XA b]).map (Qy 0 4))) Za 1
 [] 0 [] []) [0,1,5] [] []=some ⟨42,36,Vo,[],.run,none,Vn a b (0),Zf a b (0),
 []⟩:=by kernel_rfl
set_option maxHeartbeats 4000000 in
theorem uJ(a b:List Int)  (X7:a.length<=9223372036854775807/\b.length<=9223372036854775807){B:Lo}(hJ:∀w,B.has w->J0 w){c0:CF}:∀m:Nat,(∀(i:Int),a.length-i.toNat=m->∀(h0:0<=i),uK B c0 a b i->EndsT YP B c0 (.bool (Tf (a.drop i.toNat) (b.drop i.toNat)))):=by
 intro m0;induction m0 using LA with
 |_ m0 ih0=>
  intro i hm0 h0 ⟨Qt,KF,XW⟩;by_cases q0:(i:Int)<((↑a.length:Int))
  ·have WL:Qw (T8 B a b i Qt):=by
    exact⟨(XY q0),trivial⟩
   by_cases q1:(i:Int)<((↑b.length:Int))
   ·have hp1:Qw (T7 B a b i Qt):=by
     have s1:=Pq (l:=a) (k:=b) h0 (by omega) (by omega);exact⟨⟨by omega,by omega,(QT (z:=1) (fun _=>rfl) (by omega))⟩,⟨⟨by omega,by omega,(QT (z:=1) (fun _=>rfl) (by omega))⟩,⟨(XY q1),WL⟩⟩⟩
    by_cases q2:(a.getD i.toNat La:Int)≠(b.getD i.toNat La)
    ·have KT:Qw (T6 B a b i Qt):=by
      have s1:=Pq (l:=a) (k:=b) h0 (by omega) (by omega);exact⟨⟨by omega,by omega,(QT (z:=1) (fun _=>rfl) (by omega))⟩,⟨⟨by omega,by omega,(QT (z:=1) (fun _=>rfl) (by omega))⟩,⟨(Cg q2),hp1⟩⟩⟩
     by_cases q3:(a.getD i.toNat La:Int)<(b.getD i.toNat La)
     ·have s1:=Pq (l:=a) (k:=b) h0 (by omega) (by omega);exact(GoE.endsT okF hJ Qd XW (uI B a b i Qt)
       ⟨(XY q3),KT⟩).cast (by(rw[s1];simp_all;done))
     ·have s1:=Pq (l:=a) (k:=b) h0 (by omega) (by omega);exact(GoE.endsT okF hJ Qd XW (uH B a b i Qt)
       ⟨(XZ (Int.not_lt.1 q3)),KT⟩).cast (by(rw[s1];simp_all;done))
    ·have s1:=Pq (l:=a) (k:=b) h0 (by omega) (by omega);exact((ih0 _ (by omega)) (i+1) rfl (by omega)
      (XW.landM okF hJ Qd (uG B a b i Qt)
      ⟨(Xq (by omega) (by omega)),⟨(nQ (Decidable.of_not_not q2)),hp1⟩⟩ (by kernel_rfl) (by kernel_rfl))).cast (by(rw[s1];simp_all;done))
   ·have s2:=ug (l:=a) (k:=b) (i:=i) (by omega);exact(GoE.endsT okF hJ Qd XW (uF B a b i Qt)
     ⟨(XZ (Int.not_lt.1 q1)),WL⟩).cast (by(rw[s2];done))
  ·have s2:=ug (l:=a) (k:=b) (i:=i) (by omega);exact(GoE.endsT okF hJ Qd XW (uE B a b i Qt)
    ⟨(XZ (Int.not_lt.1 q0)),trivial⟩).cast (by(rw[s2];done))
set_option maxHeartbeats 4000000 in
theorem xK(a b:List Int)  (X7:a.length<=9223372036854775807/\b.length<=9223372036854775807){B:Lo}(hJ:∀w,B.has w->J0 w):EndsT YP B (Qr YP 42 36 (([XA a,XA b]).map (Qy 0 4))) (.bool (Tf a b)):=by
 exact((uJ a b X7 hJ _) (0) rfl (by omega)
  (GoE.start.landM okF hJ Qd (uD B a b)
  trivial (by kernel_rfl) (by kernel_rfl))).cast (by rfl)
theorem wR(a b:List Int)  :Qx YP J0 42 #[XA a,XA b] (.bool (Tf a b)):=
 VJ (ts:=[XA a,XA b]) (a.length<=9223372036854775807/\b.length<=9223372036854775807) (fun _ _ ht=>⟨ht.ln (i:=0) rfl,ht.ln (i:=1) rfl⟩) XQ (c0:=Qr YP 42 36 (([XA a,XA b]).map (Qy 0 4))) (by kernel_rfl) (by kernel_rfl) fun X7 B hJ=>xK a b  X7 hJ
theorem Hr{l:List Int}{n:Int}(h:(l.length:Int)=n)(h1:1<=n)(h4:n<=4):[l.getD 0 0,l.getD 1 0,l.getD 2 0,l.getD 3 0].take n.toNat=l:=by
 subst h;match l,h1,h4 with
 |[_],_,_=>rfl
 |[_,_],_,_=>rfl
 |[_,_,_],_,_=>rfl
 |[_,_,_,_],_,_=>rfl
 |_::_::_::_::_::_,_,h4=>simp at h4;omega
def Rz(rf:Qc)(plan:List Int):Qj:=[(1,Obj.cells #[Qn 0 (QJ rf.Qa.length (Qm Qf rf.Qa)),.int .i64 rf.Qi,.int .i64 rf.Qb,.int .i64 (plan.getD 0 0),.int .i64 (plan.getD 1 0),.int .i64 (plan.getD 2 0),.int .i64 (plan.getD 3 0)] 84),(0,Obj.coro none)]
def aB(rf:Qc)(plan:List Int):CF:=⟨87,ofList 8 [.slice (some {block:=1,off:=3}) (Lb rf.Qb) 0],[Item.code (Q9 YP 87)],[],.run,none⟩
def JD(rf:Qc)(plan:List Int):Array Value:=#[Qn 0 (QJ rf.Qa.length (Qm Qf rf.Qa)),.int .i64 rf.Qi,.int .i64 rf.Qb,.int .i64 (plan.getD 0 0),.int .i64 (plan.getD 1 0),.int .i64 (plan.getD 2 0),.int .i64 (plan.getD 3 0)]
theorem Bh(B:Lo)(rf:Qc)(plan:List Int):CE.finK 2 (Qs YP (Q0 YP) J0 B 11 2 (aB rf plan) (Rz rf plan) 2
 [(5,Ql.eval {out:=OO.ret (.slice (some {block:=2,off:=0}) (Lb rf.Qb) 1),H:=[(2,Obj.cells (Qm Xv (List.take (Lb rf.Qb) [plan.getD 0 0,plan.getD 1 0,plan.getD 2 0,plan.getD 3 0])) 3),(1,Obj.cells (JD rf plan) 84),(0,Obj.coro none)],n:=3,R:=[1],W:=[]})] 0 [] []) [] [] [{k:=2,rs:=[],cs:=Qm Xv (List.take (Lb rf.Qb) [plan.getD 0 0,plan.getD 1 0,plan.getD 2 0,plan.getD 3 0])}]=some (OO.ret (Qn 2 (QJ (Lb rf.Qb) (Fz.cs {k:=2,rs:=[],cs:=Qm Xv (List.take (Lb rf.Qb) [plan.getD 0 0,plan.getD 1 0,plan.getD 2 0,plan.getD 3 0])}))),[],[],
 [Z7 (Fz.rs {k:=2,rs:=[],cs:=Qm Xv (List.take (Lb rf.Qb) [plan.getD 0 0,plan.getD 1 0,plan.getD 2 0,plan.getD 3 0])}) (Qm Xv (List.take (Lb rf.Qb) [plan.getD 0 0,plan.getD 1 0,plan.getD 2 0,plan.getD 3 0])) (Fz.cs {k:=2,rs:=[],cs:=Qm Xv (List.take (Lb rf.Qb) [plan.getD 0 0,plan.getD 1 0,plan.getD 2 0,plan.getD 3 0])}),TL YP (Q0 YP) Xh (fun x x_1 x_2=>none) {len:=16000,tr:=Tri.set 14 (Tri.set 14 Tri.lf 6 (.slice (some {block:=1,off:=3}) (Lb rf.Qb) 0)) 5 (Value.chan (some 0))} {dst:=some 7,op:=Op.call {callee:=Callee.builtin Builtin.append,args:=#[Operand.tmp 5,Operand.tmp 6],argTypes:=#[25,25]},type:=25,pos:= "slices.go:362",after:=#[{on:=0,ground:=Ground.data},{on:=1,ground:=Ground.data}],guard:=none} [(1,Obj.cells (JD rf plan) 84),(0,Obj.coro none)] 2=some {out:=OO.ret (.slice (some {block:=2,off:=0}) (Lb rf.Qb) 1),H:=[(2,Obj.cells (Qm Xv (List.take (Lb rf.Qb) [plan.getD 0 0,plan.getD 1 0,plan.getD 2 0,plan.getD 3 0])) 3),(1,Obj.cells (JD rf plan) 84),(0,Obj.coro none)],n:=3,R:=[1],W:=[]}]):=by kernel_rfl
theorem Bg(B:Lo)(rf:Qc)(plan:List Int):QW (Qs YP (Q0 YP) J0 B 6 1 (Qr YP 66 9 (([.agg (QB rf plan).toArray]).map (Qy 0 4))) Za 1
 [(6,Ql.eval {out:=OO.ret (.slice (some {block:=1,off:=3}) (Lb rf.Qb) 0),H:=[(1,Obj.cells (JD rf plan) 84),(0,Obj.coro none)],n:=2,R:=[],W:=[]}),(7,Ql.call (Ld 2) (OO.ret (Qn 2 (QJ (Lb rf.Qb) (Fz.cs {k:=2,rs:=[],cs:=Qm Xv (List.take (Lb rf.Qb) [plan.getD 0 0,plan.getD 1 0,plan.getD 2 0,plan.getD 3 0])})))) ([]++(2,QM)::QD 3 []) 3 [])] 0 [] []) []=some (QJ (Lb rf.Qb) (Qm Xv (List.take (Lb rf.Qb) [plan.getD 0 0,plan.getD 1 0,plan.getD 2 0,plan.getD 3 0])),
 [FJ YP B (aB rf plan) (Rz rf plan) 2 (OO.ret (Qn 2 (QJ (Lb rf.Qb) (Fz.cs {k:=2,rs:=[],cs:=Qm Xv (List.take (Lb rf.Qb) [plan.getD 0 0,plan.getD 1 0,plan.getD 2 0,plan.getD 3 0])})))) (([]++((2,QM)::QD (2+1) []))++Rz rf plan) 3 (Ld 2) [],TL YP (Q0 YP) Xh (fun x x_1 x_2=>none) {len:=16000,tr:=Tri.set 14 (Tri.set 14 Tri.lf 6 (.int .i64 rf.Qb)) 3 (pA 1 3)} {dst:=some 7,op:=Op.slice 82 (Operand.tmp 3) none (some (Operand.tmp 6)) none,type:=25,pos:= "plan.go:47",after:=#[{on:=0,ground:=Ground.data},{on:=3,ground:=Ground.data}],guard:=none} [(1,Obj.cells (JD rf plan) 84),(0,Obj.coro none)] 2=some {out:=OO.ret (.slice (some {block:=1,off:=3}) (Lb rf.Qb) 0),H:=[(1,Obj.cells (JD rf plan) 84),(0,Obj.coro none)],n:=2,R:=[],W:=[]}]):=by kernel_rfl
set_option maxHeartbeats 4000000 in
theorem DV(rf:Qc)(plan:List Int)(hs:1<=rf.Qb/\rf.Qb<=4)(hl:(plan.length:Int)=rf.Qb){B:Lo}(hJ:∀w,B.has w->J0 w):EndsT YP B (Qr YP 66 9 (([.agg (QB rf plan).toArray]).map (Qy 0 4))) (XA plan):=by
 by_cases q0:(Lb rf.Qb:Int)=(0)
 ·exfalso
  (omega)
 ·have rj0:FJ YP B (aB rf plan) (Rz rf plan) 2 (OO.ret (Qn 2 (QJ (Lb rf.Qb) (Fz.cs {k:=2,rs:=[],cs:=Qm Xv (List.take (Lb rf.Qb) [plan.getD 0 0,plan.getD 1 0,plan.getD 2 0,plan.getD 3 0])})))) (([]++((2,QM)::QD (2+1) []))++Rz rf plan) 3 (Ld 2) []:=by
   exact FinK.fjB (GoE.finK okF hJ Qd (Qk (by kernel_rfl)) (Qg (by kernel_rfl)) ((GoE.refl (P:=YP) (B:=B) (c0:=aB rf plan) (Qk (by kernel_rfl))).widen (Wf:=((([]):List (Nat×KS)).map (·.1))) (by simp) (Qg (by kernel_rfl))) (Bh B rf plan)
    ⟨(U2 (fun x=>List.all_eq_true.1 (by rfl))),⟨(BZ (z:=0) (by':=8) rfl rfl rfl rfl rfl rfl rfl rfl (by kernel_rfl) rfl (by decide) ⟨by omega,(by unfold maxLen;omega),by omega,Fc (fs:=[plan.getD 0 0,plan.getD 1 0,plan.getD 2 0,plan.getD 3 0]) rfl (Nat.le_trans (m:=4) (by omega) (Nat.le_of_eq rfl)) (Nat.succ_pos _)⟩),trivial⟩⟩) (ex:=[]) (by kernel_rfl) (XD _)
  exact(GoE.endsT okF hJ Qd GoE.start (Bg B rf plan)
   ⟨rj0,⟨(r7 (l:=rf.Qb) rfl rfl rfl rfl rfl rfl (by omega) (by omega)),trivial⟩⟩).cast (by exact Sv (Hr hl (by omega) (by omega)) (by omega))
theorem Hh(rf:Qc)(plan:List Int)(hs:1<=rf.Qb/\rf.Qb<=4)(hl:(plan.length:Int)=rf.Qb):Qx YP J0 66 #[.agg (QB rf plan).toArray] (XA plan):=
 Xn (ts:=[.agg (QB rf plan).toArray]) XQ (c0:=Qr YP 66 9 (([.agg (QB rf plan).toArray]).map (Qy 0 4))) (by kernel_rfl) (by kernel_rfl) fun B hJ=>DV rf plan hs hl hJ
def aT(rf:Qc)(es:List (F4×F4)):OO:=.ret (.tuple #[.agg #[Qn 2 (Vb rf.Qa),.int .i64 rf.Qi,.int .i64 rf.Qb,.int .i64 ((QA rf (Q4 rf).2).getD 0 0),.int .i64 ((QA rf (Q4 rf).2).getD 1 0),.int .i64 ((QA rf (Q4 rf).2).getD 2 0),.int .i64 ((QA rf (Q4 rf).2).getD 3 0)],.bool true])
def iL(rf:Qc)(es:List (F4×F4)):List Obj:=[.map (mapA Qu (WR rf es).1) (WR rf es).1.length]
def iM(rf:Qc)(es:List (F4×F4)):List Obj:=[]
def BG(rf:Qc)(es:List (F4×F4)):Prop:=WriC YP J0 65 #[.agg #[Qn 0 (Vb rf.Qa),.int .i64 rf.Qi,.int .i64 rf.Qb,.map (some 1)]] [.map (mapA Qu es) es.length] (aT rf es) (iL rf es) (iM rf es)
theorem Gb(rf:Qc)(es:List (F4×F4))(hr:X5 rf=true)(he:Vh rf es)(hb:(Q4 rf).1=true):WriC YP J0 65 #[.agg #[Qn 0 (Vb rf.Qa),.int .i64 rf.Qi,.int .i64 rf.Qb,.map (some 1)]] [.map (mapA Qu es) es.length] (aT rf es) (iL rf es) (iM rf es):=by
 have h:=Fo rf es hr he;have e:aR rf es=aT rf es:=by unfold aR;rw[hb];rfl
 rw[e]at h;exact h
def JV(rf:Qc):Qj:=[(1,Obj.cells #[Qn 0 (QJ rf.Qa.length (Qm Qf rf.Qa)),.int .i64 rf.Qi,.int .i64 rf.Qb] 24),(0,Obj.coro none)]
def SN(rf:Qc):CF:=⟨63,ofList 6 [.agg #[Qn 0 (QJ rf.Qa.length (Qm Qf rf.Qa)),.int .i64 rf.Qi,.int .i64 rf.Qb]],[Item.code (Q9 YP 63)],[],.run,none⟩
theorem yZ(B:Lo)(rf:Qc):CE.finK 2 (Qs YP (Q0 YP) J0 B 6 2 (SN rf) (JV rf) 2
 [] 0 [] []) [] [(4,KS.same)] []=some (OO.ret (.agg #[Qn 0 (QJ rf.Qa.length (Qm Qf rf.Qa)),.int .i64 rf.Qi,.int .i64 rf.Qb,Value.map (some 3)]),[],[Obj.map #[] 0],
 [QE #[]]):=by kernel_rfl
theorem yY(B:Lo)(rf:Qc):let g:=rf.Qi;let e:=rf.Qb;let c:=rf.Qa;let f:=Lf c;let d:=Qm Qf c;let b:=OO.ret (.agg #[Qn 0 (QJ f d),.int .i64 g,.int .i64 e,Value.map (some 3)]);let a:=QA rf (Prod.snd (Q4 rf));let i:=QJ a.length (Qm Xv a);let h:=.int .i64 (Xg rf a);QW (Qs YP (Q0 YP) J0 B 18 1 (Qr YP 37 22 (([.agg (Qv rf).toArray]).map (Qy 0 4))) Za 1
 [(5,Ql.pure (.bool true) []),(8,Ql.call (Ld 2) b ([]++(2,QM)::QD 3 [Obj.map #[] 0]) 4 []),(9,Ql.wri [3] [0] [true] [] (aT rf []) (iL rf []) (iM rf [])),(19,Ql.pure i []),(21,Ql.pure h [])] 0 [] []) []=some (.tuple #[QJ a.length (Qm Xv a),.int .i64 (Xg rf a),.int .i64 0],
 [Qw []/\Qx YP J0 67 #[.agg #[QJ f d,.int .i64 g,.int .i64 e,.int .i64 (a.getD 0 0),.int .i64 (a.getD 1 0),.int .i64 (a.getD 2 0),.int .i64 (a.getD 3 0)]] h,Qw []/\Qx YP J0 66 #[.agg #[QJ f d,.int .i64 g,.int .i64 e,.int .i64 (a.getD 0 0),.int .i64 (a.getD 1 0),.int .i64 (a.getD 2 0),.int .i64 (a.getD 3 0)]] i,Qw [QE (mapA Qu []),QE (mapA Qu (Prod.fst (WR rf [])))]/\BG (rf) ([]),FJ YP B (SN rf) (JV rf) 2 b (([]++((2,QM)::QD (2+1) [Obj.map #[] 0]))++JV rf) 4 (Ld 2) [],Qw []/\Qx YP J0 50 #[.agg #[QJ f d,.int .i64 g,.int .i64 e]] (.bool true)]):=by intro g e c f d b a i h;kernel_rfl
set_option maxHeartbeats 4000000 in
theorem BS(rf:Qc)(WX:QC rf=true)(hb:(Q4 rf).1=true){B:Lo}(hJ:∀w,B.has w->J0 w):EndsT YP B (Qr YP 37 22 (([.agg (Qv rf).toArray]).map (Qy 0 4))) (.tuple #[XA (QA rf (Q4 rf).2),.int .i64 (Xg rf (QA rf (Q4 rf).2)),.int .i64 0]):=by
 have UH:=Ze WX;have Zc:=Qz (QN WX).1;have Kw:=Ka (rf:=rf);have PT:=iT (rf:=rf) (n:=(Q4 rf).2) Zc.2.2;have hgi:=nP UH (Q4 rf).2;have hln:((QA rf (Q4 rf).2).length:Int)=rf.Qb:=by rw[QA,ZB];omega
 cases q0:QC rf with
 |true=>
  have rj0:FJ YP B (SN rf) (JV rf) 2 (OO.ret (.agg #[Qn 0 (QJ rf.Qa.length (Qm Qf rf.Qa)),.int .i64 rf.Qi,.int .i64 rf.Qb,Value.map (some 3)])) (([]++((2,QM)::QD (2+1) [Obj.map #[] 0]))++JV rf) 4 (Ld 2) []:=by
   exact FinK.fjB (GoE.finK okF hJ Qd (Qk (by kernel_rfl)) (Qg (by kernel_rfl)) ((GoE.refl (P:=YP) (B:=B) (c0:=SN rf) (Qk (by kernel_rfl))).widen (Wf:=((([]):List (Nat×KS)).map (·.1))) (by simp) (Qg (by kernel_rfl))) (yZ B rf)
    ⟨(by(intro i e he;simp at he;done)),trivial⟩) (ex:=[]) (by kernel_rfl) (XD _)
  exact(GoE.endsT okF hJ Qd GoE.start (yY B rf)
   ⟨⟨trivial,B6 (rf) (QA rf (Prod.snd (Q4 rf))) (by with_reducible assumption) (by omega) (by with_reducible assumption) (by with_reducible assumption)⟩,⟨⟨trivial,Hh (rf) (QA rf (Prod.snd (Q4 rf))) (by omega) (by with_reducible assumption)⟩,⟨⟨⟨(Q8 (fun _=>by kernel_rfl)),⟨(Q8 (fun _=>by kernel_rfl)),trivial⟩⟩,Gb (rf) ([]) (by with_reducible assumption) (by with_reducible assumption) (by with_reducible assumption)⟩,⟨rj0,⟨⟨trivial,(by have t_:=aC (rf);rw[q0]at t_;exact t_)⟩,trivial⟩⟩⟩⟩⟩).cast (by rfl)
 |false=>
  exfalso
  (exact Bool.noConfusion (WX.symm.trans ‹QC rf=false›))
theorem Gm(rf:Qc)(WX:QC rf=true)(hb:(Q4 rf).1=true):Qx YP J0 37 #[.agg (Qv rf).toArray] (.tuple #[XA (QA rf (Q4 rf).2),.int .i64 (Xg rf (QA rf (Q4 rf).2)),.int .i64 0]):=
 Xn (ts:=[.agg (Qv rf).toArray]) XQ (c0:=Qr YP 37 22 (([.agg (Qv rf).toArray]).map (Qy 0 4))) (by kernel_rfl) (by kernel_rfl) fun B hJ=>BS rf WX hb hJ
def aU(rf:Qc)(es:List (F4×F4)):OO:=.ret (.tuple #[.agg #[.slice none 0 0,.int .i64 0,.int .i64 0,.int .i64 0,.int .i64 0,.int .i64 0,.int .i64 0],.bool false])
def iN(rf:Qc)(es:List (F4×F4)):List Obj:=[.map (mapA Qu (WR rf es).1) (WR rf es).1.length]
def iO(rf:Qc)(es:List (F4×F4)):List Obj:=[]
def BH(rf:Qc)(es:List (F4×F4)):Prop:=WriC YP J0 65 #[.agg #[Qn 0 (Vb rf.Qa),.int .i64 rf.Qi,.int .i64 rf.Qb,.map (some 1)]] [.map (mapA Qu es) es.length] (aU rf es) (iN rf es) (iO rf es)
theorem Gd(rf:Qc)(es:List (F4×F4))(hr:X5 rf=true)(he:Vh rf es)(hb:(Q4 rf).1=false):WriC YP J0 65 #[.agg #[Qn 0 (Vb rf.Qa),.int .i64 rf.Qi,.int .i64 rf.Qb,.map (some 1)]] [.map (mapA Qu es) es.length] (aU rf es) (iN rf es) (iO rf es):=by
 have h:=Fo rf es hr he;have e:aR rf es=aU rf es:=by unfold aR;rw[hb];rfl
 rw[e]at h;exact h
def JW(rf:Qc):Qj:=[(1,Obj.cells #[Qn 0 (QJ rf.Qa.length (Qm Qf rf.Qa)),.int .i64 rf.Qi,.int .i64 rf.Qb] 24),(0,Obj.coro none)]
def SO(rf:Qc):CF:=⟨63,ofList 6 [.agg #[Qn 0 (QJ rf.Qa.length (Qm Qf rf.Qa)),.int .i64 rf.Qi,.int .i64 rf.Qb]],[Item.code (Q9 YP 63)],[],.run,none⟩
theorem zd(B:Lo)(rf:Qc):CE.finK 2 (Qs YP (Q0 YP) J0 B 6 2 (SO rf) (JW rf) 2
 [] 0 [] []) [] [(4,KS.same)] []=some (OO.ret (.agg #[Qn 0 (QJ rf.Qa.length (Qm Qf rf.Qa)),.int .i64 rf.Qi,.int .i64 rf.Qb,Value.map (some 3)]),[],[Obj.map #[] 0],
 [QE #[]]):=by kernel_rfl
theorem zb(B:Lo)(rf:Qc):let b:=rf.Qa;let a:=OO.ret (.agg #[Qn 0 (QJ b.length (Qm Qf b)),.int .i64 rf.Qi,.int .i64 rf.Qb,Value.map (some 3)]);QW (Qs YP (Q0 YP) J0 B 17 1 (Qr YP 37 22 (([.agg (Qv rf).toArray]).map (Qy 0 4))) Za 1
 [(5,Ql.pure (.bool true) []),(8,Ql.call (Ld 2) a ([]++(2,QM)::QD 3 [Obj.map #[] 0]) 4 []),(9,Ql.wri [3] [0] [true] [] (aU rf []) (iN rf []) (iO rf []))] 0 [] []) []=some (.tuple #[QJ 0 #[],.int .i64 0,.int .i64 5],
 [Qw [QE (mapA Qu []),QE (mapA Qu (Prod.fst (WR rf [])))]/\BH (rf) ([]),FJ YP B (SO rf) (JW rf) 2 a (([]++((2,QM)::QD (2+1) [Obj.map #[] 0]))++JW rf) 4 (Ld 2) [],Qw []/\Qx YP J0 50 #[.agg #[QJ b.length (Qm Qf b),.int .i64 rf.Qi,.int .i64 rf.Qb]] (.bool true)]):=by intro b a;kernel_rfl
set_option maxHeartbeats 4000000 in
theorem BU(rf:Qc)(WX:QC rf=true)(hb:(Q4 rf).1=false){B:Lo}(hJ:∀w,B.has w->J0 w):EndsT YP B (Qr YP 37 22 (([.agg (Qv rf).toArray]).map (Qy 0 4))) (.tuple #[XA [],.int .i64 0,.int .i64 5]):=by
 have UH:=Ze WX;have Zc:=Qz (QN WX).1;have Kw:=Ka (rf:=rf);cases q0:QC rf with
 |true=>
  have rj0:FJ YP B (SO rf) (JW rf) 2 (OO.ret (.agg #[Qn 0 (QJ rf.Qa.length (Qm Qf rf.Qa)),.int .i64 rf.Qi,.int .i64 rf.Qb,Value.map (some 3)])) (([]++((2,QM)::QD (2+1) [Obj.map #[] 0]))++JW rf) 4 (Ld 2) []:=by
   exact FinK.fjB (GoE.finK okF hJ Qd (Qk (by kernel_rfl)) (Qg (by kernel_rfl)) ((GoE.refl (P:=YP) (B:=B) (c0:=SO rf) (Qk (by kernel_rfl))).widen (Wf:=((([]):List (Nat×KS)).map (·.1))) (by simp) (Qg (by kernel_rfl))) (zd B rf)
    ⟨(by(intro i e he;simp at he;done)),trivial⟩) (ex:=[]) (by kernel_rfl) (XD _)
  exact(GoE.endsT okF hJ Qd GoE.start (zb B rf)
   ⟨⟨⟨(Q8 (fun _=>by kernel_rfl)),⟨(Q8 (fun _=>by kernel_rfl)),trivial⟩⟩,Gd (rf) ([]) (by with_reducible assumption) (by with_reducible assumption) (by with_reducible assumption)⟩,⟨rj0,⟨⟨trivial,(by have t_:=aC (rf);rw[q0]at t_;exact t_)⟩,trivial⟩⟩⟩).cast (by rfl)
 |false=>
  exfalso
  (exact Bool.noConfusion (WX.symm.trans ‹QC rf=false›))
theorem Gp(rf:Qc)(WX:QC rf=true)(hb:(Q4 rf).1=false):Qx YP J0 37 #[.agg (Qv rf).toArray] (.tuple #[XA [],.int .i64 0,.int .i64 5]):=
 Xn (ts:=[.agg (Qv rf).toArray]) XQ (c0:=Qr YP 37 22 (([.agg (Qv rf).toArray]).map (Qy 0 4))) (by kernel_rfl) (by kernel_rfl) fun B hJ=>BU rf WX hb hJ
theorem za(B:Lo)(rf:Qc):QW (Qs YP (Q0 YP) J0 B 10 1 (Qr YP 37 22 (([.agg (Qv rf).toArray]).map (Qy 0 4))) Za 1
 [(5,Ql.pure (.bool false) [])] 0 [] []) []=some (.tuple #[QJ 0 #[],.int .i64 0,.int .i64 2],
 [Qw []/\Qx YP J0 50 #[.agg #[QJ rf.Qa.length (Qm Qf rf.Qa),.int .i64 rf.Qi,.int .i64 rf.Qb]] (.bool false)]):=by kernel_rfl
set_option maxHeartbeats 4000000 in
theorem BT(rf:Qc)(WX:QC rf=false){B:Lo}(hJ:∀w,B.has w->J0 w):EndsT YP B (Qr YP 37 22 (([.agg (Qv rf).toArray]).map (Qy 0 4))) (.tuple #[XA [],.int .i64 0,.int .i64 2]):=by
 cases q0:QC rf with
 |true=>
  exfalso
  (exact Bool.noConfusion (WX.symm.trans ‹QC rf=true›))
 |false=>
  exact(GoE.endsT okF hJ Qd GoE.start (za B rf)
   ⟨⟨trivial,(by have t_:=aC (rf);rw[q0]at t_;exact t_)⟩,trivial⟩).cast (by rfl)
theorem Gn(rf:Qc)(WX:QC rf=false):Qx YP J0 37 #[.agg (Qv rf).toArray] (.tuple #[XA [],.int .i64 0,.int .i64 2]):=
 Xn (ts:=[.agg (Qv rf).toArray]) XQ (c0:=Qr YP 37 22 (([.agg (Qv rf).toArray]).map (Qy 0 4))) (by kernel_rfl) (by kernel_rfl) fun B hJ=>BT rf WX hJ
theorem Fp(rf:Qc):Qx YP J0 37 #[.agg (Qv rf).toArray] (.tuple #[if QC rf && (Q4 rf).1 then XA (QA rf (Q4 rf).2)else XA [],.int .i64 (if QC rf && (Q4 rf).1 then Xg rf (QA rf (Q4 rf).2)else 0),.int .i64 (if QC rf then(if(Q4 rf).1 then 0 else 5)else 2)]):=by
 cases h:QC rf with
 |false=>exact Gn rf h
 |true=>
  cases hb:(Q4 rf).1 with
  |true=>exact Gm rf h hb
  |false=>exact Gp rf h hb
end
end Go.Proofs.Ytncjjangllkokaa

namespace Go.Proofs.Ytncjjangllkokaa
open Go Go.CE Go.RowKit
def C2(f g:F4):Prop:=∀j:Int,0<=j->j<4->f.at j<=g.at j
def GK(n:Nat)(xs ys:List Int):Prop:=∀k:Int,0<=k->k<n->nth xs k<=nth ys k
theorem ak{a:Int}(h:0<=a):a.tdiv 1000=a / 1000:=LQ h
theorem wb{room x y g g':Int}(x0:0<=x)(xy:x<=y)(g0:0<=g)(gg:g<=g'):x+kB room x g<=y+kB room y g':=by
 have h0:0<=x*g:=LG x0 g0;have h1:x*g<=y*g':=LH xy gg g0 (by omega);have e1:=ak h0;have e2:=ak (a:=y*g') (by omega);unfold kB;rw[e1,e2];have hd:x*g / 1000<=y*g' / 1000:=Int.ediv_le_ediv (by omega) h1;have hn:0<=x*g / 1000:=Int.ediv_nonneg h0 (by omega);split <;> split <;> (try split) <;> (try split) <;> omega
theorem EI{gs gs':List Int}{ps:List Qe}{f f':F4}(hg:Uv ps.length gs 2000)(hgg:GK ps.length gs gs')(hf:Jf f)(hff:C2 f f'):C2 (tE gs ps f) (tE gs' ps f'):=fun j j0 j1=>by
 unfold tE;rw[Sq j0 j1,Sq j0 j1];unfold Xt VW;have h:=hff j j0 j1;split
 ·rename_i hj;have a:=hg.2 j j0 hj;have b:=hgg j j0 hj;have c:=(Ui hf j0 j1).1;exact wb c h a.1 b
 ·exact h
theorem mT{x y d:Int}(x0:0<=x)(xy:x<=y)(d0:0<=d)(d1:d<=1000):(x*d).tdiv 1000<=(y*d).tdiv 1000/\x-(x*d).tdiv 1000<=y-(y*d).tdiv 1000:=by
 have h0:0<=x*d:=LG x0 d0;have h1:x*d<=y*d:=Int.mul_le_mul_of_nonneg_right xy d0;have h2:(y-x)*d<=(y-x)*1000:=Int.mul_le_mul_of_nonneg_left d1 (by omega);have h3:(y-x)*d=y*d-x*d:=Int.sub_mul ..;rw[ak h0,ak (a:=y*d) (by omega)];omega
theorem ET{ps:List Qe}{b b':F4}(hp:Y2 ps)(hf:Jf b)(h:C2 b b'):C2 (CZ ps b) (CZ ps b'):=fun j j0 j1=>by
 have h4:=hp.1;unfold CZ;rw[Sq j0 j1,Sq j0 j1];unfold Wv;have hs:Wg 0 ps.length (fun m=>if(S6 ps m).XE=j then Vg ps b m else 0)<=Wg 0 ps.length (fun m=>if(S6 ps m).XE=j then Vg ps b' m else 0):=wL ps.length fun m m0 m1=>by
  have hd:=(hp.2 m m0 m1).2.1;have:=(mT (Ui hf m0 (by omega)).1 (h m m0 (by omega)) hd.1 hd.2).1;show(if(S6 ps m).XE=j then Vg ps b m else 0)<=(if(S6 ps m).XE=j then Vg ps b' m else 0)
  unfold Vg;split <;> omega
 have hj:=h j j0 j1;split
 ·rename_i hn;have hd:=(hp.2 j j0 hn).2.1;have:b.at j-Vg ps b j<=b'.at j-Vg ps b' j:=(mT (Ui hf j0 j1).1 hj hd.1 hd.2).2;omega
 ·omega
theorem D6{ts ts':List Int}{ps:List Qe}{b b':F4}(ht:GK ps.length ts' ts)(h:C2 b b'):C2 (FD ts ps b) (FD ts' ps b'):=fun j j0 j1=>by
 unfold FD;rw[Sq j0 j1,Sq j0 j1];unfold P1 Wm;have hj:=h j j0 j1;split
 ·rename_i hn;have:=ht j j0 hn;split <;> split <;> omega
 ·exact hj
theorem y6{gs gs' ts ts':List Int}{ps:List Qe}{f f':F4}(hp:Y2 ps)(hg:Uv ps.length gs 2000)(hgg:GK ps.length gs gs')(ht:GK ps.length ts' ts)(hf:Jf f)(hs:f.sum<=10000000000)(hff:C2 f f'):C2 (X6 gs ts ps f) (X6 gs' ts' ps f'):=
 D6 ht (ET hp (G0 hp hg hf hs) (EI hg hgg hf hff))
theorem wM{ps:List Qe}{n:Int}{gs gs' ts ts':List (List Int)}{f f':F4}(h:OkT ps n gs ts f)(hgg:∀k:Nat,k<n->GK ps.length (gs.getD k La) (gs'.getD k La))(htt:∀k:Nat,k<n->GK ps.length (ts'.getD k La) (ts.getD k La))(hff:C2 f f'):∀k:Nat,k<=n->C2 (GH ps gs ts f k) (GH ps gs' ts' f' k)
 |0,_=>hff
 |k+1,hk=>by
  have h4:=h.s4;have h9:=h.hs;have ZS:=h.st k (by omega);have:=ZS.2;exact y6 h.hp (h.rg k (by omega)) (hgg k (by omega)) (htt k (by omega)) ZS.1 (by omega) (wM h hgg htt hff k (by omega))
end Go.Proofs.Ytncjjangllkokaa

namespace Go.Proofs.Ytncjjangllkokaa
open Go Go.CE Go.RowKit
theorem Rq{f:F4}{ps:List Qe}:∀(n:Nat) (i:Int),0<=i->(ps.length-i).toNat=n->
 ((QZ f (ps.drop i.toNat) i).1=true->i<=(QZ f (ps.drop i.toNat) i).2.1/\(QZ f (ps.drop i.toNat) i).2.1<ps.length/\0<(QZ f (ps.drop i.toNat) i).2.2/\(QZ f (ps.drop i.toNat) i).2.2=(S6 ps (QZ f (ps.drop i.toNat) i).2.1).goal-f.at (QZ f (ps.drop i.toNat) i).2.1/\∀k,i<=k->k<(QZ f (ps.drop i.toNat) i).2.1->(S6 ps k).goal<=f.at k)/\
 ((QZ f (ps.drop i.toNat) i).1=false->∀k,i<=k->k<ps.length->(S6 ps k).goal<=f.at k)
 |0,i,h0,hn=>by
  rw[fV (l:=ps) (i:=i) (by omega)];exact⟨fun h=>Bool.noConfusion h,fun _ k k0 k1=>by omega⟩
 |n+1,i,h0,hn=>by
  have ih:=Rq (f:=f) (ps:=ps) n (i+1) (by omega) (by omega);rw[U1 (l:=ps) h0 (by omega)];by_cases hd:0<(ps.getD i.toNat La).goal-f.at i
  ·rw[decide_eq_true hd,cond_true];exact⟨fun _=>⟨LJ _,(show i<ps.length by omega),hd,rfl,fun k k0 k1=>by simp only at k1;omega⟩,fun h=>Bool.noConfusion h⟩
  ·rw[decide_eq_false hd,cond_false];have hi:(S6 ps i).goal<=f.at i:=by show(ps.getD i.toNat La).goal<=_;omega
   refine⟨fun h=> ?_,fun h k k0 k1=> ?_⟩
   ·obtain⟨a,b,c,d,e⟩:=ih.1 h;refine⟨by omega,b,c,d,fun k k0 k1=> ?_⟩;by_cases ek:k=i
    ·subst ek;exact hi
    ·exact e k (by omega) k1
   ·by_cases ek:k=i
    ·subst ek;exact hi
    ·exact ih.2 h k (by omega) k1
theorem xA{rf:Qc}{plan:List Int}(h:(QY rf plan).1=true):0<=(QY rf plan).2.1/\(QY rf plan).2.1<rf.Qa.length/\0<(QY rf plan).2.2/\(QY rf plan).2.2=(S6 rf.Qa (QY rf plan).2.1).goal-(QH rf plan rf.Qb.toNat).at (QY rf plan).2.1/\∀k:Int,0<=k->k<(QY rf plan).2.1->(S6 rf.Qa k).goal<=(QH rf plan rf.Qb.toNat).at k:=
 (Rq (f:=QH rf plan rf.Qb.toNat) (ps:=rf.Qa) _ 0 (LJ _) rfl).1 h
theorem zY{rf:Qc}{plan:List Int}(h:(QY rf plan).1=false):∀k:Int,0<=k->k<rf.Qa.length->(S6 rf.Qa k).goal<=(QH rf plan rf.Qb.toNat).at k:=
 (Rq (f:=QH rf plan rf.Qb.toNat) (ps:=rf.Qa) _ 0 (LJ _) rfl).2 h
end Go.Proofs.Ytncjjangllkokaa

namespace Go.Proofs.Ytncjjangllkokaa
open Go Go.CE Go.RowKit
def Tz(b:Nat):List Int->Nat
 |[]=>0
 |x::l=>x.toNat*b ^ l.length+Tz b l
def cF(b:Nat):Nat->Nat->List Int
 |0,_=>[]
 |s+1,n=>((n / b ^ s % b:Nat):Int)::cF b s n
theorem kN{b:Nat}:∀{s n:Nat},(cF b s n).length=s
 |0,_=>rfl
 |s+1,n=>by rw[cF,List.length_cons,kN]
theorem tP{b:Nat}:∀{s n j:Nat},j<s->(cF b s n)[j]? =some ((n / b ^ (s-1-j) % b:Nat):Int)
 |s+1,n,0,_=>rfl
 |s+1,n,j+1,h=>by
  rw[cF,List.getElem?_cons_succ,tP (by omega),show s+1-1-(j+1)=s-1-j by omega]
theorem tO{b:Nat}:∀{s n:Nat},Tz b (cF b s n)=n % b ^ s
 |0,n=>by rw[Nat.pow_zero,Nat.mod_one];rfl
 |s+1,n=>by
  rw[cF,Tz,kN,tO,LK,Nat.mod_pow_succ,Nat.mul_comm,Nat.add_comm]
theorem tQ{b:Nat}(hb:0<b):∀{s a n:Nat},cF b s (a*b ^ s+n)=cF b s n
 |0,_,_=>rfl
 |s+1,a,n=>by
  have e:a*b ^ (s+1)+n=n+a*b*b ^ s:=by rw[Nat.pow_succ,Nat.mul_assoc,Nat.mul_comm (b ^ s) b,Nat.add_comm]
  have e2:a*b ^ (s+1)+n=a*b*b ^ s+n:=by rw[e,Nat.add_comm]
  unfold cF;congr 1
  ·rw[e,Nat.add_mul_div_right _ _ (Nat.pow_pos hb),Nat.add_mul_mod_self_right]
  ·rw[e2,tQ hb]
theorem mW{b:Nat}:∀{l:List Int},(∀x∈l,0<=x/\x<b)->Tz b l<b ^ l.length
 |[],_=>by simp[Tz]
 |x::l,h=>by
  have ih:=mW (l:=l) fun y hy=>h y (Lh _ hy)
  have hx:=h x (List.mem_cons_self ..);have h1:(x.toNat+1)*b ^ l.length<=b*b ^ l.length:=Nat.mul_le_mul_right _ (by omega);rw[Nat.add_mul,Nat.one_mul]at h1;rw[Tz,List.length_cons,Nat.pow_succ,Nat.mul_comm (b ^ l.length) b];omega
theorem xj{b:Nat}(hb:0<b):∀{l:List Int},(∀x∈l,0<=x/\x<b)->cF b l.length (Tz b l)=l
 |[],_=>rfl
 |x::l,h=>by
  have ih:=xj hb (l:=l) fun y hy=>h y (Lh _ hy)
  have hv:=mW (l:=l) fun y hy=>h y (Lh _ hy)
  have hx:=h x (List.mem_cons_self ..);rw[List.length_cons,Tz,cF,tQ hb,ih];congr 1;rw[Nat.add_comm,Nat.add_mul_div_right _ _ (Nat.pow_pos hb),Nat.div_eq_of_lt hv,Lv,Nat.mod_eq_of_lt (by omega)];omega
theorem Dr{b:Nat}:∀{l k:List Int},l.length=k.length->(∀x∈l,0<=x/\x<b)->(∀x∈k,0<=x/\x<b)->Tf l k=true->Tz b l<Tz b k
 |[],_,_,_,_,h=>by simp[Tf]at h
 |_::_,[],_,_,_,h=>by simp[Tf]at h
 |x::l,y::k,hl,h1,h2,h=>by
  have hlk:l.length=k.length:=by simpa using hl
  have hx:=h1 x (List.mem_cons_self ..);have hy:=h2 y (List.mem_cons_self ..);have hv:=mW (l:=l) fun z hz=>h1 z (Lh _ hz)
  unfold Tf at h;unfold Tz;rw[<-hlk];by_cases e:x=y
  ·rw[decide_eq_true e,cond_true]at h;have ih:=Dr hlk (fun z hz=>h1 z (Lh _ hz)) (fun z hz=>h2 z (Lh _ hz)) h;subst e;omega
  ·rw[decide_eq_false e,cond_false,decide_eq_true_iff]at h;have h3:(x.toNat+1)*b ^ l.length<=y.toNat*b ^ l.length:=Nat.mul_le_mul_right _ (by omega);rw[Nat.add_mul,Nat.one_mul]at h3;omega
abbrev base(rf:Qc):Nat:=2 ^ rf.Qa.length
theorem uh{rf:Qc}:0<base rf:=Nat.two_pow_pos _
theorem Eu{rf:Qc}{n s:Int}:Td rf n s=((n.toNat / 2 ^ ((rf.Qa.length:Int)*(rf.Qb-1-s)).toNat % base rf:Nat):Int):=by
 unfold Td WM Zx Xx;rw[LK,Nat.shiftRight_eq_div_pow,LK,show(((2 ^ rf.Qa.length:Nat):Int)-1).toNat=2 ^ rf.Qa.length-1 by have:=Nat.two_pow_pos rf.Qa.length;omega,Nat.and_two_pow_sub_one_eq_mod]
theorem m9{rf:Qc}{n:Int}(hs:1<=rf.Qb):QA rf n=cF (base rf) rf.Qb.toNat n.toNat:=by
 refine List.ext_getElem? fun k=> ?_
 by_cases hk:k<rf.Qb.toNat
 ·rw[QA,Yq hk,tP hk,Eu];have e:((rf.Qa.length:Int)*(rf.Qb-1-(k:Int))).toNat=rf.Qa.length*(rf.Qb.toNat-1-k):=by
   rw[show rf.Qb-1-(k:Int)=((rf.Qb.toNat-1-k:Nat):Int)by omega,<-Int.natCast_mul,LK]
  rw[e,Nat.pow_mul]
 ·rw[Lw (by rw[QA,ZB];omega),Lw (by rw[kN];omega)]
theorem cj{rf:Qc}(hs:1<=rf.Qb):Xa rf=((base rf ^ rf.Qb.toNat:Nat):Int):=by
 unfold Xa Xx base;rw[<-Nat.pow_mul];have e:((rf.Qa.length:Int)*rf.Qb).toNat=rf.Qa.length*rf.Qb.toNat:=by
  rw[show rf.Qb=((rf.Qb.toNat:Nat):Int)by omega,<-Int.natCast_mul,LK,LK]
 rw[e]
theorem S7{rf:Qc}{pl:List Int}(h:QP rf pl=true):∀x∈pl,0<=x/\x<(base rf:Int):=fun x hx=>by
 have:=(QK h).2 x hx;unfold Xx at this;exact this
def numOf(rf:Qc)(pl:List Int):Int:=((Tz (base rf) pl:Nat):Int)
theorem r8{rf:Qc}{pl:List Int}(hs:1<=rf.Qb)(h:QP rf pl=true):0<=numOf rf pl/\numOf rf pl<Xa rf:=by
 have hl:=(QK h).1;have:=mW (S7 h);rw[cj hs,<-show pl.length=rf.Qb.toNat by omega];unfold numOf;omega
theorem eQ{rf:Qc}{pl:List Int}(hs:1<=rf.Qb)(h:QP rf pl=true):QA rf (numOf rf pl)=pl:=by
 have hl:=(QK h).1;rw[m9 hs,<-show pl.length=rf.Qb.toNat by omega];unfold numOf;rw[LK];exact xj uh (S7 h)
theorem Et{rf:Qc}{n:Int}(hs:1<=rf.Qb)(h0:0<=n)(h1:n<Xa rf):numOf rf (QA rf n)=n:=by
 unfold numOf;rw[m9 hs,tO];rw[cj hs]at h1;rw[Nat.mod_eq_of_lt (by omega)];omega
theorem Fb{rf:Qc}{pl pl':List Int}(h:QP rf pl=true)(h':QP rf pl'=true)(hb:Tf pl pl'=true):numOf rf pl<numOf rf pl':=by
 have hl:=(QK h).1;have hl':=(QK h').1;have:=Dr (b:=base rf) (by omega) (S7 h) (S7 h') hb;unfold numOf;omega
def Dy(rf:Qc)(i:Int)(r:Bool×Int):Prop:=
 (r.1=true->(QY rf (QA rf r.2)).1=false/\0<=r.2/\r.2<i/\∀j:Int,0<=j->j<i->(QY rf (QA rf j)).1=false->Xg rf (QA rf r.2)<Xg rf (QA rf j)\/Xg rf (QA rf r.2)=Xg rf (QA rf j)/\r.2<=j)/\
 (r.1=false->∀j:Int,0<=j->j<i->(QY rf (QA rf j)).1=true)
theorem Rb{rf:Qc}:∀(n:Nat) (i:Int) (b:Bool) (k:Int),0<=i->Dy rf i (b,k)->Dy rf (i+n) (dR rf n i b k)
 |0,i,b,k,_,h=>by rw[show i+((0:Nat):Int)=i by omega];exact h
 |n+1,i,b,k,h0,h=>by
  unfold dR;rw[show i+((n+1:Nat):Int)=(i+1)+(n:Int)by omega];cases hc:(b && decide (Xg rf (QA rf k)<=Xg rf (QA rf i)))with
  |true=>
   rw[cond_true];simp only[YB,decide_eq_true_iff]at hc;refine Rb n (i+1) b k (by omega) ⟨fun hb=> ?_,fun hb=> ?_⟩
   ·obtain⟨a1,a2,a3,a4⟩:=h.1 hb;refine⟨a1,a2,by simp only at a3 ⊢;omega,fun j j0 j1 hj=> ?_⟩;by_cases e:j=i
    ·subst e;simp only at a3 ⊢;omega
    ·exact a4 j j0 (by omega) hj
   ·simp only at hb;rw[hb]at hc;cases hc.1
  |false=>
   rw[cond_false];have hn:b=false\/Xg rf (QA rf i)<Xg rf (QA rf k):=by
    cases b with
    |false=>exact .inl rfl
    |true=>
     simp only[Bool.true_and,decide_eq_false_iff_not]at hc;exact .inr (by omega)
   cases hq:(QY rf (QA rf i)).1 with
   |true=>
    rw[cond_true];refine Rb n (i+1) b k (by omega) ⟨fun hb=> ?_,fun hb=>fun j j0 j1=> ?_⟩
    ·obtain⟨a1,a2,a3,a4⟩:=h.1 hb;refine⟨a1,a2,by simp only at a3 ⊢;omega,fun j j0 j1 hj=> ?_⟩;by_cases e:j=i
     ·subst e;rw[hq]at hj;cases hj
     ·exact a4 j j0 (by omega) hj
    ·by_cases e:j=i
     ·subst e;exact hq
     ·exact h.2 hb j j0 (by omega)
   |false=>
    rw[cond_false];refine Rb n (i+1) true i (by omega) ⟨fun _=>⟨hq,h0,by simp only;omega,fun j j0 j1 hj=> ?_⟩,fun hb=>by cases hb⟩;by_cases e:j=i
    ·subst e;exact .inr ⟨rfl,LJ _⟩
    ·rcases hn with rfl|hn
     ·have:=h.2 rfl j j0 (by omega);rw[this]at hj;cases hj
     ·cases b with
      |false=>have:=h.2 rfl j j0 (by omega);rw[this]at hj;cases hj
      |true=>
       have:=(h.1 rfl).2.2.2 j j0 (by omega) hj;simp only at this ⊢;omega
theorem p9{b:Nat}(hb:0<b):∀n:Nat,Tz b (Lq n ((b-1:Nat):Int))=b ^ n-1
 |0=>by simp[Tz]
 |n+1=>by
  rw[List.replicate_succ,Tz,p9 hb n,List.length_replicate,LK,Nat.pow_succ,Nat.mul_comm (b ^ n) b,Nat.sub_mul,Nat.one_mul];have h1:=Nat.pow_pos (n:=n) hb;have h2:b ^ n<=b*b ^ n:=Nat.le_mul_of_pos_left _ hb;omega
theorem zx{rf:Qc}(hs:1<=rf.Qb):QA rf (Xa rf-1)=Lq rf.Qb.toNat ((base rf-1:Nat):Int):=by
 have hb:=uh (rf:=rf);have hp:QP rf (Lq rf.Qb.toNat ((base rf-1:Nat):Int))=true:=by
  simp only[QP,YB,decide_eq_true_iff,List.all_eq_true,Jb,List.length_replicate];refine⟨by omega,fun x hx=> ?_⟩;rw[(List.mem_replicate.1 hx).2];show 0<=((base rf-1:Nat):Int)/\((base rf-1:Nat):Int)<=((base rf:Nat):Int)-1;omega
 have h:=eQ hs hp;have e:numOf rf (Lq rf.Qb.toNat ((base rf-1:Nat):Int))=Xa rf-1:=by
  unfold numOf;rw[p9 hb,cj hs];have:=Nat.pow_pos (n:=rf.Qb.toNat) hb;omega
 rw[e]at h;exact h
theorem C5{rf:Qc}{j:Int}(h0:0<=j)(h1:j<rf.Qa.length):hasB ((base rf-1:Nat):Int) j=true:=by
 unfold hasB base;rw[LK,Nat.testBit_two_pow_sub_one];exact decide_eq_true (by omega)
theorem C4{rf:Qc}(hr:QC rf=true){pl:List Int}(h:QP rf pl=true){k:Nat}(hk:k<=rf.Qb):C2 (QH rf pl k) (QH rf (QA rf (Xa rf-1)) k):=by
 have hw:=Ze hr;have hs:=Qz (QN hr).1;refine wM (vQ pl hw) (fun s hs=>fun j a b=>LJ _) (fun s hs1=>fun j a b=> ?_) (fun j a b=>LJ _) k (by omega);have e1:(u7 rf pl).getD s La=Th rf (pl.getD ((s:Int)).toNat 0):=U0 (k:=(s:Int)) (by omega) hs1;have e2:(u7 rf (QA rf (Xa rf-1))).getD s La=Th rf ((QA rf (Xa rf-1)).getD ((s:Int)).toNat 0):=U0 (k:=(s:Int)) (by omega) hs1;rw[e1,e2,zx hs.2.2.1];have e3:(Lq rf.Qb.toNat ((base rf-1:Nat):Int)).getD ((s:Int)).toNat 0=((base rf-1:Nat):Int):=by
  rw[Li,List.getElem?_replicate,if_pos (by omega)];rfl
 rw[e3];unfold Th;have hp:=qE ((QN hr).2 j a b).1;rw[PN a (by rw[Uq];exact b),PN a (by rw[Uq];exact b),YT a b,YT a b];unfold Yp oE;rw[if_pos (C5 a b)];split
 ·exact LJ _
 ·exact hp.2.2.2.2.2.2.2.2.2
theorem vW{rf:Qc}(hr:QC rf=true)(hl:dG rf=true){pl:List Int}(h:QP rf pl=true):(QY rf pl).1=true:=by
 have hs:=Qz (QN hr).1;have hy:=xA (rf:=rf) (plan:=QA rf (Xa rf-1)) hl;cases hq:(QY rf pl).1 with
 |true=>rfl
 |false=>
  have h1:=zY hq _ hy.1 hy.2.1;have h2:=C4 hr h (k:=rf.Qb.toNat) (by omega) _ hy.1 (by omega);omega
theorem mQ{rf:Qc}(hr:QC rf=true):Dy rf (Xa rf) (Q4 rf):=by
 have hs:=Qz (QN hr).1;have hp:=JE (rf:=rf) hs.1 hs.2.2;unfold Q4;cases hl:dG rf with
 |true=>exact⟨fun h=>(by cases h),fun _ j j0 j1=>vW hr hl (Xp (by omega))⟩
 |false=>
  have:=Rb (rf:=rf) (Xa rf).toNat 0 false 0 (LJ _) ⟨fun h=>(by cases h),fun _ j j0 j1=>by omega⟩;rw[show(0:Int)+((Xa rf).toNat:Int)=Xa rf by omega]at this;exact this
theorem Zk{rf:Qc}(hr:QC rf=true){pl:List Int}(h:QP rf pl=true)(hb:(Q4 rf).1=true):(QY rf (QA rf (Q4 rf).2)).1=false/\((QY rf pl).1=true\/Xg rf (QA rf (Q4 rf).2)<Xg rf pl\/Xg rf (QA rf (Q4 rf).2)=Xg rf pl/\Tf pl (QA rf (Q4 rf).2)=false):=by
 have hs:=Qz (QN hr).1;obtain⟨a1,a2,a3,a4⟩:=(mQ hr).1 hb;refine⟨a1, ?_⟩;cases hq:(QY rf pl).1 with
 |true=>exact .inl rfl
 |false=>
  have hi:=r8 hs.2.2.1 h;have:=a4 (numOf rf pl) hi.1 hi.2 (by rw[eQ hs.2.2.1 h];exact hq);rw[eQ hs.2.2.1 h]at this;rcases this with x|⟨x,y⟩
  ·exact .inr (.inl x)
  ·refine .inr (.inr ⟨x, ?_⟩);cases hbf:Tf pl (QA rf (Q4 rf).2)with
   |false=>rfl
   |true=>
    have:=Fb h (Xp (by omega)) hbf;rw[Et hs.2.2.1 a2 a3]at this;omega
theorem Ra{rf:Qc}(hr:QC rf=true){pl:List Int}(h:QP rf pl=true)(hb:(Q4 rf).1=false):(QY rf pl).1=true:=by
 have hs:=Qz (QN hr).1;have hi:=r8 hs.2.2.1 h;have:=(mQ hr).2 hb (numOf rf pl) hi.1 hi.2;rw[eQ hs.2.2.1 h]at this;exact this
end Go.Proofs.Ytncjjangllkokaa

namespace Go.Proofs.Ytncjjangllkokaa
open Go Go.CE Go.RowKit
noncomputable section
set_option maxRecDepth 100000
def We(rf:Qc):Array Value:=#[.agg #[QJ rf.Qa.length (Qm Qf rf.Qa),.int .i64 rf.Qi,.int .i64 rf.Qb],QJ (Lf (QA rf (Prod.snd (Q4 rf)))) (Qm Xv (QA rf (Prod.snd (Q4 rf))))]
def Pz(rf:Qc):Value:=(.tuple #[.int .i64 (Prod.fst (Prod.snd (QY rf (QA rf (Prod.snd (Q4 rf)))))),.int .i64 (Prod.snd (Prod.snd (QY rf (QA rf (Prod.snd (Q4 rf)))))),.int .i64 0])
def Py(rf:Qc):Value:=(.tuple #[.int .i64 (Prod.fst (Prod.snd (QY rf (QA rf (Prod.snd (Q4 rf)))))),.int .i64 (Prod.snd (Prod.snd (QY rf (QA rf (Prod.snd (Q4 rf)))))),.int .i64 5])
def ZL(rf:Qc)(plan:List Int):Array Value:=#[.agg #[QJ rf.Qa.length (Qm Qf rf.Qa),.int .i64 rf.Qi,.int .i64 rf.Qb],QJ plan.length (Qm Xv plan)]
def Px(rf:Qc):Array Value:=#[.agg #[QJ rf.Qa.length (Qm Qf rf.Qa),.int .i64 rf.Qi,.int .i64 rf.Qb]]
def Pw(rf:Qc)(plan:List Int):Value:=(.tuple #[.int .i64 (Prod.fst (Prod.snd (QY rf plan))),.int .i64 (Prod.snd (Prod.snd (QY rf plan))),.int .i64 0])
def Pv(rf:Qc)(plan:List Int):Value:=(.tuple #[.int .i64 (Prod.fst (Prod.snd (QY rf plan))),.int .i64 (Prod.snd (Prod.snd (QY rf plan))),.int .i64 5])
def Ty(B:Lo)(rf:Qc)(plan:List Int):List Prop:=[Qw []/\Qx YP J0 15 (Px rf) (.bool true)]++([]:List Prop)
def fK(rf:Qc)(plan:List Int):Q2:=[(3,Ql.pure (.bool true) [])]
theorem u5(B:Lo)(rf:Qc)(plan:List Int):QW (Qs YP (Q0 YP) J0 B 10 1 (Qr YP 11 118 (([.agg (Qv rf).toArray,XA plan]).map (Qy 0 4))) Za 1
 (fK rf plan++[(8,VT),(25,Ql.pure (.bool true) [])]) 0 [] []) []=some (.bool true,
 [Qw []/\Qx YP J0 16 #[] (.bool true),Zm 8 (↑plan.length:Int)=true]++Ty B rf plan):=by kernel_rfl
def P0(B:Lo)(rf:Qc)(plan:List Int):List Prop:=[Zm 8 (↑plan.length:Int)=false]++Ty B rf plan
def Tp(rf:Qc)(plan:List Int):Q2:=fK rf plan++[(8,VI)]
def Tx(B:Lo)(rf:Qc)(plan:List Int):List Prop:=[wq ((↑rf.Qa.length:Int)*rf.Qb)=(↑rf.Qa.length:Int)*rf.Qb,Qw []/\Qx YP J0 21 (ZL rf plan) (.bool true)]++P0 B rf plan
def fJ(rf:Qc)(plan:List Int):Q2:=Tp rf plan++[(13,Ql.pure (.bool true) []),(22,VU ((↑rf.Qa.length:Int)*rf.Qb))]
theorem u4(B:Lo)(rf:Qc)(plan:List Int):QW (Qs YP (Q0 YP) J0 B 10 1 (Qr YP 11 118 (([.agg (Qv rf).toArray,XA plan]).map (Qy 0 4))) Za 1
 (fJ rf plan++[(23,VT),(25,Ql.pure (.bool true) [])]) 0 [] []) []=some (.bool true,
 [Qw []/\Qx YP J0 16 #[] (.bool true),Zm 12 ((↑rf.Qa.length:Int)*rf.Qb)=true]++Tx B rf plan):=by kernel_rfl
def Tw(B:Lo)(rf:Qc)(plan:List Int):List Prop:=[Zm 12 ((↑rf.Qa.length:Int)*rf.Qb)=false]++Tx B rf plan
def fI(rf:Qc)(plan:List Int):Q2:=fJ rf plan++[(23,VI)]
def Tv(B:Lo)(rf:Qc)(plan:List Int):List Prop:=[Qw []/\Qx YP J0 37 (Px rf) (.tuple #[QJ (Lf (QA rf (Prod.snd (Q4 rf)))) (Qm Xv (QA rf (Prod.snd (Q4 rf)))),.int .i64 (Xg rf (QA rf (Prod.snd (Q4 rf)))),.int .i64 0])]++Tw B rf plan
def fH(rf:Qc)(plan:List Int):Q2:=fI rf plan++[(26,Ql.pure (.tuple #[QJ (Lf (QA rf (Prod.snd (Q4 rf)))) (Qm Xv (QA rf (Prod.snd (Q4 rf)))),.int .i64 (Xg rf (QA rf (Prod.snd (Q4 rf)))),.int .i64 0]) [])]
def Tu(B:Lo)(rf:Qc)(plan:List Int):List Prop:=[Qw []/\Qx YP J0 35 (ZL rf plan) (Pw rf plan)]++Tv B rf plan
def fG(rf:Qc)(plan:List Int):Q2:=fH rf plan++[(36,Ql.pure (Pw rf plan) [])]
def Tt(B:Lo)(rf:Qc)(plan:List Int):List Prop:=[(!Jv (Xg rf (QA rf (Prod.snd (Q4 rf)))) (Xg rf (QA rf (Prod.snd (Q4 rf)))))=false,Qw []/\Qx YP J0 40 (We rf) (.int .i64 (Xg rf (QA rf (Prod.snd (Q4 rf))))),Qw []/\Qx YP J0 41 (We rf) (.bool true)]++Tu B rf plan
def fF(rf:Qc)(plan:List Int):Q2:=fG rf plan++[(57,Ql.pure (.bool true) []),(63,Ql.pure (.int .i64 (Xg rf (QA rf (Prod.snd (Q4 rf))))) []),(64,VI)]
theorem u3(B:Lo)(rf:Qc)(plan:List Int):let a:=.int .i64 (Xg rf plan);QW (Qs YP (Q0 YP) J0 B 36 1 (Qr YP 11 118 (([.agg (Qv rf).toArray,XA plan]).map (Qy 0 4))) Za 1
 (fF rf plan++[(68,Ql.pure (Pz rf) []),(78,Ql.pure a [])]) 0 [] []) []=some (.bool false,
 [Qw []/\Qx YP J0 40 (ZL rf plan) a,Qw []/\Qx YP J0 35 (We rf) (Pz rf)]++Tt B rf plan):=by intro a;kernel_rfl
theorem u0(B:Lo)(rf:Qc)(plan:List Int):let a:=.int .i64 (Xg rf plan);QW (Qs YP (Q0 YP) J0 B 36 1 (Qr YP 11 118 (([.agg (Qv rf).toArray,XA plan]).map (Qy 0 4))) Za 1
 (fF rf plan++[(68,Ql.pure (Py rf) []),(78,Ql.pure a []),(103,Ql.pure (.bool true) [])]) 0 [] []) []=some (.bool true,
 [Qw []/\Qx YP J0 16 #[] (.bool true),Qw []/\Qx YP J0 40 (ZL rf plan) a,Qw []/\Qx YP J0 35 (We rf) (Py rf)]++Tt B rf plan):=by intro a;kernel_rfl
theorem uz(B:Lo)(rf:Qc)(plan:List Int):QW (Qs YP (Q0 YP) J0 B 31 1 (Qr YP 11 118 (([.agg (Qv rf).toArray,XA plan]).map (Qy 0 4))) Za 1
 (fG rf plan++[(57,Ql.pure (.bool false) [])]) 0 [] []) []=some (.bool false,
 [Qw []/\Qx YP J0 41 (We rf) (.bool false)]++Tu B rf plan):=by kernel_rfl
def Ts(B:Lo)(rf:Qc)(plan:List Int):List Prop:=[Qw []/\Qx YP J0 35 (ZL rf plan) (Pv rf plan)]++Tv B rf plan
def fE(rf:Qc)(plan:List Int):Q2:=fH rf plan++[(36,Ql.pure (Pv rf plan) [])]
def Tr(B:Lo)(rf:Qc)(plan:List Int):List Prop:=[(!Jv (Xg rf (QA rf (Prod.snd (Q4 rf)))) (Xg rf (QA rf (Prod.snd (Q4 rf)))))=false,Qw []/\Qx YP J0 40 (We rf) (.int .i64 (Xg rf (QA rf (Prod.snd (Q4 rf))))),Qw []/\Qx YP J0 41 (We rf) (.bool true)]++Ts B rf plan
def fD(rf:Qc)(plan:List Int):Q2:=fE rf plan++[(57,Ql.pure (.bool true) []),(63,Ql.pure (.int .i64 (Xg rf (QA rf (Prod.snd (Q4 rf))))) []),(64,VI)]
theorem uy(B:Lo)(rf:Qc)(plan:List Int):let a:=.int .i64 (Xg rf plan);QW (Qs YP (Q0 YP) J0 B 36 1 (Qr YP 11 118 (([.agg (Qv rf).toArray,XA plan]).map (Qy 0 4))) Za 1
 (fD rf plan++[(68,Ql.pure (Pz rf) []),(78,Ql.pure a [])]) 0 [] []) []=some (.bool false,
 [Qw []/\Qx YP J0 40 (ZL rf plan) a,Qw []/\Qx YP J0 35 (We rf) (Pz rf)]++Tr B rf plan):=by intro a;kernel_rfl
def Tq(B:Lo)(rf:Qc)(plan:List Int):List Prop:=[Qw []/\Qx YP J0 40 (ZL rf plan) (.int .i64 (Xg rf plan)),Qw []/\Qx YP J0 35 (We rf) (Py rf)]++Tr B rf plan
def fC(rf:Qc)(plan:List Int):Q2:=fD rf plan++[(68,Ql.pure (Py rf) []),(78,Ql.pure (.int .i64 (Xg rf plan)) [])]
theorem uw(B:Lo)(rf:Qc)(plan:List Int):QW (Qs YP (Q0 YP) J0 B 36 1 (Qr YP 11 118 (([.agg (Qv rf).toArray,XA plan]).map (Qy 0 4))) Za 1
 (fC rf plan++[(88,VT),(103,Ql.pure (.bool true) [])]) 0 [] []) []=some (.bool true,
 [Qw []/\Qx YP J0 16 #[] (.bool true),Zm (Xg rf (QA rf (Prod.snd (Q4 rf)))) (Xg rf plan)=true]++Tq B rf plan):=by kernel_rfl
def Rl(B:Lo)(rf:Qc)(plan:List Int):List Prop:=[Zm (Xg rf (QA rf (Prod.snd (Q4 rf)))) (Xg rf plan)=false]++Tq B rf plan
def cV(rf:Qc)(plan:List Int):Q2:=fC rf plan++[(88,VI)]
def Rk(B:Lo)(rf:Qc)(plan:List Int):List Prop:=[Jv (Xg rf plan) (Xg rf (QA rf (Prod.snd (Q4 rf))))=true]++Rl B rf plan
def cU(rf:Qc)(plan:List Int):Q2:=cV rf plan++[(93,VT)]
theorem uv(B:Lo)(rf:Qc)(plan:List Int):let a:=QA rf (Prod.snd (Q4 rf));QW (Qs YP (Q0 YP) J0 B 36 1 (Qr YP 11 118 (([.agg (Qv rf).toArray,XA plan]).map (Qy 0 4))) Za 1
 (cU rf plan++[(97,Ql.pure (.bool true) [])]) 0 [] []) []=some (.bool false,
 [Qw []/\Qx YP J0 42 #[QJ plan.length (Qm Xv plan),QJ a.length (Qm Xv a)] (.bool true)]++Rk B rf plan):=by intro a;kernel_rfl
theorem uu(B:Lo)(rf:Qc)(plan:List Int):let a:=QA rf (Prod.snd (Q4 rf));QW (Qs YP (Q0 YP) J0 B 36 1 (Qr YP 11 118 (([.agg (Qv rf).toArray,XA plan]).map (Qy 0 4))) Za 1
 (cU rf plan++[(97,Ql.pure (.bool false) []),(103,Ql.pure (.bool true) [])]) 0 [] []) []=some (.bool true,
 [Qw []/\Qx YP J0 16 #[] (.bool true),Qw []/\Qx YP J0 42 #[QJ plan.length (Qm Xv plan),QJ a.length (Qm Xv a)] (.bool false)]++Rk B rf plan):=by intro a;kernel_rfl
theorem ur(B:Lo)(rf:Qc)(plan:List Int):QW (Qs YP (Q0 YP) J0 B 36 1 (Qr YP 11 118 (([.agg (Qv rf).toArray,XA plan]).map (Qy 0 4))) Za 1
 (cV rf plan++[(93,VI)]) 0 [] []) []=some (.bool false,
 [Jv (Xg rf plan) (Xg rf (QA rf (Prod.snd (Q4 rf))))=false]++Rl B rf plan):=by kernel_rfl
theorem p8(B:Lo)(rf:Qc)(plan:List Int):QW (Qs YP (Q0 YP) J0 B 31 1 (Qr YP 11 118 (([.agg (Qv rf).toArray,XA plan]).map (Qy 0 4))) Za 1
 (fE rf plan++[(57,Ql.pure (.bool false) [])]) 0 [] []) []=some (.bool false,
 [Qw []/\Qx YP J0 41 (We rf) (.bool false)]++Ts B rf plan):=by kernel_rfl
def Rj(B:Lo)(rf:Qc)(plan:List Int):List Prop:=[Qw []/\Qx YP J0 37 (Px rf) (.tuple #[QJ 0 #[],.int .i64 0,.int .i64 5])]++Tw B rf plan
def cS(rf:Qc)(plan:List Int):Q2:=fI rf plan++[(26,Ql.pure (.tuple #[QJ 0 #[],.int .i64 0,.int .i64 5]) [])]
theorem pz(B:Lo)(rf:Qc)(plan:List Int):QW (Qs YP (Q0 YP) J0 B 26 1 (Qr YP 11 118 (([.agg (Qv rf).toArray,XA plan]).map (Qy 0 4))) Za 1
 (cS rf plan++[(36,Ql.pure (Pw rf plan) []),(62,Ql.pure (.bool true) [])]) 0 [] []) []=some (.bool true,
 [Qw []/\Qx YP J0 16 #[] (.bool true),Qw []/\Qx YP J0 35 (ZL rf plan) (Pw rf plan)]++Rj B rf plan):=by kernel_rfl
theorem py(B:Lo)(rf:Qc)(plan:List Int):QW (Qs YP (Q0 YP) J0 B 26 1 (Qr YP 11 118 (([.agg (Qv rf).toArray,XA plan]).map (Qy 0 4))) Za 1
 (cS rf plan++[(36,Ql.pure (Pv rf plan) [])]) 0 [] []) []=some (.bool false,
 [Qw []/\Qx YP J0 35 (ZL rf plan) (Pv rf plan)]++Rj B rf plan):=by kernel_rfl
theorem px(B:Lo)(rf:Qc)(plan:List Int):QW (Qs YP (Q0 YP) J0 B 10 1 (Qr YP 11 118 (([.agg (Qv rf).toArray,XA plan]).map (Qy 0 4))) Za 1
 (Tp rf plan++[(13,Ql.pure (.bool false) []),(25,Ql.pure (.bool true) [])]) 0 [] []) []=some (.bool true,
 [Qw []/\Qx YP J0 16 #[] (.bool true),Qw []/\Qx YP J0 21 (ZL rf plan) (.bool false)]++P0 B rf plan):=by kernel_rfl
theorem pw(B:Lo)(rf:Qc)(plan:List Int):QW (Qs YP (Q0 YP) J0 B 10 1 (Qr YP 11 118 (([.agg (Qv rf).toArray,XA plan]).map (Qy 0 4))) Za 1
 (Tp rf plan++[(13,Ql.pure (.bool false) []),(25,Ql.pure (.bool true) [])]) 0 [] []) []=some (.bool true,
 [Qw []/\Qx YP J0 16 #[] (.bool true),Qw []/\Qx YP J0 21 (ZL rf plan) (.bool false)]++P0 B rf plan):=by kernel_rfl
theorem pt(B:Lo)(rf:Qc)(plan:List Int):QW (Qs YP (Q0 YP) J0 B 10 1 (Qr YP 11 118 (([.agg (Qv rf).toArray,XA plan]).map (Qy 0 4))) Za 1
 [(3,Ql.pure (.bool false) []),(25,Ql.pure (.bool true) [])] 0 [] []) []=some (.bool true,
 [Qw []/\Qx YP J0 16 #[] (.bool true),Qw []/\Qx YP J0 15 (Px rf) (.bool false)]):=by kernel_rfl
set_option maxHeartbeats 4000000 in
theorem xw(rf:Qc)(plan:List Int)  (X7:plan.length<=9223372036854775807){B:Lo}(hJ:∀w,B.has w->J0 w):EndsT YP B (Qr YP 11 118 (([.agg (Qv rf).toArray,XA plan]).map (Qy 0 4))) (.bool true):=by
 have hpl:=fun h=>Xp (rf:=rf) (n:=(Q4 rf).2) h
 cases q0:decide (Lf rf.Qa<=8)with
 |true=>
  have WL:Qw (Ty B rf plan):=by
   exact⟨⟨trivial,(by have t_:=Cm (rf);rw[q0]at t_;exact t_)⟩,trivial⟩
  by_cases q1:(8:Int)<((↑plan.length:Int))
  ·exact(GoE.endsT okF hJ Qd GoE.start (u5 B rf plan)
    ⟨⟨trivial,known⟩,⟨(XY q1),WL⟩⟩).cast rfl
  ·have hp1:Qw (P0 B rf plan):=by
    exact⟨(XZ (Int.not_lt.1 q1)),WL⟩
   cases q2:QC rf with
   |true=>
    cases q3:QP rf plan with
    |true=>
     have KT:Qw (Tx B rf plan):=by
      have UH:=Ze ‹QC rf=true›;have Zc:=Qz (QN ‹QC rf=true›).1;have hml:=LH (show(rf.Qa.length:Int)<=4 by omega) (show rf.Qb<=4 by omega) (by omega) (by omega);have hmn:0<=(rf.Qa.length:Int)*rf.Qb:=LG (by omega) (by omega);have hpf:=(QK ‹QP rf plan=true›).1;have hpp:=Xp (rf:=rf) (n:=(Q4 rf).2) (by omega);exact⟨(Xq (by omega) (by omega)),⟨⟨trivial,(by have t_:=vX (rf) (plan);rw[q2,q3]at t_;exact t_)⟩,hp1⟩⟩
     by_cases q4:(12:Int)<((↑rf.Qa.length:Int)*rf.Qb)
     ·exact(GoE.endsT okF hJ Qd GoE.start (u4 B rf plan)
       ⟨⟨trivial,known⟩,⟨(XY q4),KT⟩⟩).cast rfl
     ·have hp3:Qw (Tw B rf plan):=by
       exact⟨(XZ (Int.not_lt.1 q4)),KT⟩
      cases q5:Prod.fst (Q4 rf)with
      |true=>
       have hp4:Qw (Tv B rf plan):=by
        have UH:=Ze ‹QC rf=true›;have Zc:=Qz (QN ‹QC rf=true›).1;have hml:=LH (show(rf.Qa.length:Int)<=4 by omega) (show rf.Qb<=4 by omega) (by omega) (by omega);have hmn:0<=(rf.Qa.length:Int)*rf.Qb:=LG (by omega) (by omega);have hpf:=(QK ‹QP rf plan=true›).1;have hpp:=Xp (rf:=rf) (n:=(Q4 rf).2) (by omega);have hbr:=Zk ‹QC rf=true› ‹QP rf plan=true› ‹(Q4 rf).1=true›;exact⟨⟨trivial,(by have t_:=Fp (rf);rw[q2,q5]at t_;exact t_)⟩,hp3⟩
       cases q6:Prod.fst (QY rf plan)with
       |true=>
        have hp5:Qw (Tu B rf plan):=by
         have UH:=Ze ‹QC rf=true›;have Zc:=Qz (QN ‹QC rf=true›).1;have hml:=LH (show(rf.Qa.length:Int)<=4 by omega) (show rf.Qb<=4 by omega) (by omega) (by omega);have hmn:0<=(rf.Qa.length:Int)*rf.Qb:=LG (by omega) (by omega);have hpf:=(QK ‹QP rf plan=true›).1;have hpp:=Xp (rf:=rf) (n:=(Q4 rf).2) (by omega);have hbr:=Zk ‹QC rf=true› ‹QP rf plan=true› ‹(Q4 rf).1=true›;exact⟨⟨trivial,(by have t_:=RQ (rf) (plan);rw[q2,q3,q6]at t_;exact t_)⟩,hp4⟩
        cases q7:QP rf (QA rf (Prod.snd (Q4 rf)))with
        |true=>
         have hp6:Qw (Tt B rf plan):=by
          have UH:=Ze ‹QC rf=true›;have Zc:=Qz (QN ‹QC rf=true›).1;have hml:=LH (show(rf.Qa.length:Int)<=4 by omega) (show rf.Qb<=4 by omega) (by omega) (by omega);have hmn:0<=(rf.Qa.length:Int)*rf.Qb:=LG (by omega) (by omega);have hpf:=(QK ‹QP rf plan=true›).1;have hpp:=Xp (rf:=rf) (n:=(Q4 rf).2) (by omega);have hbr:=Zk ‹QC rf=true› ‹QP rf plan=true› ‹(Q4 rf).1=true›;exact⟨(nQ rfl),⟨⟨trivial,lU (rf) (QA rf (Prod.snd (Q4 rf))) (by with_reducible assumption) (by with_reducible assumption)⟩,⟨⟨trivial,(by have t_:=lT (rf) (QA rf (Prod.snd (Q4 rf))) (by omega);rw[q7]at t_;exact t_)⟩,hp5⟩⟩⟩
         cases q8:Prod.fst (QY rf (QA rf (Prod.snd (Q4 rf))))with
         |true=>
          have UH:=Ze ‹QC rf=true›;have Zc:=Qz (QN ‹QC rf=true›).1;have hml:=LH (show(rf.Qa.length:Int)<=4 by omega) (show rf.Qb<=4 by omega) (by omega) (by omega);have hmn:0<=(rf.Qa.length:Int)*rf.Qb:=LG (by omega) (by omega);have hpf:=(QK ‹QP rf plan=true›).1;have hpp:=Xp (rf:=rf) (n:=(Q4 rf).2) (by omega);have hbr:=Zk ‹QC rf=true› ‹QP rf plan=true› ‹(Q4 rf).1=true›;exact(GoE.endsT okF hJ Qd GoE.start (u3 B rf plan)
           ⟨⟨trivial,lU (rf) (plan) (by with_reducible assumption) (by with_reducible assumption)⟩,⟨⟨trivial,(by have t_:=RQ (rf) (QA rf (Prod.snd (Q4 rf)));rw[q2,q7,q8]at t_;exact t_)⟩,hp6⟩⟩).cast (by(exfalso;simp_all;done))
         |false=>
          have UH:=Ze ‹QC rf=true›;have Zc:=Qz (QN ‹QC rf=true›).1;have hml:=LH (show(rf.Qa.length:Int)<=4 by omega) (show rf.Qb<=4 by omega) (by omega) (by omega);have hmn:0<=(rf.Qa.length:Int)*rf.Qb:=LG (by omega) (by omega);have hpf:=(QK ‹QP rf plan=true›).1;have hpp:=Xp (rf:=rf) (n:=(Q4 rf).2) (by omega);have hbr:=Zk ‹QC rf=true› ‹QP rf plan=true› ‹(Q4 rf).1=true›;exact(GoE.endsT okF hJ Qd GoE.start (u0 B rf plan)
           ⟨⟨trivial,known⟩,⟨⟨trivial,lU (rf) (plan) (by with_reducible assumption) (by with_reducible assumption)⟩,⟨⟨trivial,(by have t_:=RQ (rf) (QA rf (Prod.snd (Q4 rf)));rw[q2,q7,q8]at t_;exact t_)⟩,hp6⟩⟩⟩).cast rfl
        |false=>
         have UH:=Ze ‹QC rf=true›;have Zc:=Qz (QN ‹QC rf=true›).1;have hml:=LH (show(rf.Qa.length:Int)<=4 by omega) (show rf.Qb<=4 by omega) (by omega) (by omega);have hmn:0<=(rf.Qa.length:Int)*rf.Qb:=LG (by omega) (by omega);have hpf:=(QK ‹QP rf plan=true›).1;have hpp:=Xp (rf:=rf) (n:=(Q4 rf).2) (by omega);have hbr:=Zk ‹QC rf=true› ‹QP rf plan=true› ‹(Q4 rf).1=true›;exact(GoE.endsT okF hJ Qd GoE.start (uz B rf plan)
          ⟨⟨trivial,(by have t_:=lT (rf) (QA rf (Prod.snd (Q4 rf))) (by omega);rw[q7]at t_;exact t_)⟩,hp5⟩).cast (by(exfalso;simp_all;done))
       |false=>
        have hp7:Qw (Ts B rf plan):=by
         have UH:=Ze ‹QC rf=true›;have Zc:=Qz (QN ‹QC rf=true›).1;have hml:=LH (show(rf.Qa.length:Int)<=4 by omega) (show rf.Qb<=4 by omega) (by omega) (by omega);have hmn:0<=(rf.Qa.length:Int)*rf.Qb:=LG (by omega) (by omega);have hpf:=(QK ‹QP rf plan=true›).1;have hpp:=Xp (rf:=rf) (n:=(Q4 rf).2) (by omega);have hbr:=Zk ‹QC rf=true› ‹QP rf plan=true› ‹(Q4 rf).1=true›;exact⟨⟨trivial,(by have t_:=RQ (rf) (plan);rw[q2,q3,q6]at t_;exact t_)⟩,hp4⟩
        cases q7:QP rf (QA rf (Prod.snd (Q4 rf)))with
        |true=>
         have hp8:Qw (Tr B rf plan):=by
          have UH:=Ze ‹QC rf=true›;have Zc:=Qz (QN ‹QC rf=true›).1;have hml:=LH (show(rf.Qa.length:Int)<=4 by omega) (show rf.Qb<=4 by omega) (by omega) (by omega);have hmn:0<=(rf.Qa.length:Int)*rf.Qb:=LG (by omega) (by omega);have hpf:=(QK ‹QP rf plan=true›).1;have hpp:=Xp (rf:=rf) (n:=(Q4 rf).2) (by omega);have hbr:=Zk ‹QC rf=true› ‹QP rf plan=true› ‹(Q4 rf).1=true›;exact⟨(nQ rfl),⟨⟨trivial,lU (rf) (QA rf (Prod.snd (Q4 rf))) (by with_reducible assumption) (by with_reducible assumption)⟩,⟨⟨trivial,(by have t_:=lT (rf) (QA rf (Prod.snd (Q4 rf))) (by omega);rw[q7]at t_;exact t_)⟩,hp7⟩⟩⟩
         cases q8:Prod.fst (QY rf (QA rf (Prod.snd (Q4 rf))))with
         |true=>
          have UH:=Ze ‹QC rf=true›;have Zc:=Qz (QN ‹QC rf=true›).1;have hml:=LH (show(rf.Qa.length:Int)<=4 by omega) (show rf.Qb<=4 by omega) (by omega) (by omega);have hmn:0<=(rf.Qa.length:Int)*rf.Qb:=LG (by omega) (by omega);have hpf:=(QK ‹QP rf plan=true›).1;have hpp:=Xp (rf:=rf) (n:=(Q4 rf).2) (by omega);have hbr:=Zk ‹QC rf=true› ‹QP rf plan=true› ‹(Q4 rf).1=true›;exact(GoE.endsT okF hJ Qd GoE.start (uy B rf plan)
           ⟨⟨trivial,lU (rf) (plan) (by with_reducible assumption) (by with_reducible assumption)⟩,⟨⟨trivial,(by have t_:=RQ (rf) (QA rf (Prod.snd (Q4 rf)));rw[q2,q7,q8]at t_;exact t_)⟩,hp8⟩⟩).cast (by(exfalso;simp_all;done))
         |false=>
          have hp9:Qw (Tq B rf plan):=by
           have UH:=Ze ‹QC rf=true›;have Zc:=Qz (QN ‹QC rf=true›).1;have hml:=LH (show(rf.Qa.length:Int)<=4 by omega) (show rf.Qb<=4 by omega) (by omega) (by omega);have hmn:0<=(rf.Qa.length:Int)*rf.Qb:=LG (by omega) (by omega);have hpf:=(QK ‹QP rf plan=true›).1;have hpp:=Xp (rf:=rf) (n:=(Q4 rf).2) (by omega);have hbr:=Zk ‹QC rf=true› ‹QP rf plan=true› ‹(Q4 rf).1=true›;exact⟨⟨trivial,lU (rf) (plan) (by with_reducible assumption) (by with_reducible assumption)⟩,⟨⟨trivial,(by have t_:=RQ (rf) (QA rf (Prod.snd (Q4 rf)));rw[q2,q7,q8]at t_;exact t_)⟩,hp8⟩⟩
          by_cases q9:(Xg rf (QA rf (Prod.snd (Q4 rf))):Int)<(Xg rf plan)
          ·exact(GoE.endsT okF hJ Qd GoE.start (uw B rf plan)
            ⟨⟨trivial,known⟩,⟨(XY q9),hp9⟩⟩).cast rfl
          ·have hp10:Qw (Rl B rf plan):=by
            exact⟨(XZ (Int.not_lt.1 q9)),hp9⟩
           by_cases q10:(Xg rf plan:Int)=(Xg rf (QA rf (Prod.snd (Q4 rf))))
           ·have hp11:Qw (Rk B rf plan):=by
             exact⟨(Jg q10),hp10⟩
            cases q11:Tf plan (QA rf (Prod.snd (Q4 rf)))with
            |true=>
             have UH:=Ze ‹QC rf=true›;have Zc:=Qz (QN ‹QC rf=true›).1;have hml:=LH (show(rf.Qa.length:Int)<=4 by omega) (show rf.Qb<=4 by omega) (by omega) (by omega);have hmn:0<=(rf.Qa.length:Int)*rf.Qb:=LG (by omega) (by omega);have hpf:=(QK ‹QP rf plan=true›).1;have hpp:=Xp (rf:=rf) (n:=(Q4 rf).2) (by omega);have hbr:=Zk ‹QC rf=true› ‹QP rf plan=true› ‹(Q4 rf).1=true›;exact(GoE.endsT okF hJ Qd GoE.start (uv B rf plan)
              ⟨⟨trivial,(by have t_:=wR (plan) (QA rf (Prod.snd (Q4 rf)));rw[q11]at t_;exact t_)⟩,hp11⟩).cast (by(exfalso;simp_all;done))
            |false=>
             have UH:=Ze ‹QC rf=true›;have Zc:=Qz (QN ‹QC rf=true›).1;have hml:=LH (show(rf.Qa.length:Int)<=4 by omega) (show rf.Qb<=4 by omega) (by omega) (by omega);have hmn:0<=(rf.Qa.length:Int)*rf.Qb:=LG (by omega) (by omega);have hpf:=(QK ‹QP rf plan=true›).1;have hpp:=Xp (rf:=rf) (n:=(Q4 rf).2) (by omega);have hbr:=Zk ‹QC rf=true› ‹QP rf plan=true› ‹(Q4 rf).1=true›;exact(GoE.endsT okF hJ Qd GoE.start (uu B rf plan)
              ⟨⟨trivial,known⟩,⟨⟨trivial,(by have t_:=wR (plan) (QA rf (Prod.snd (Q4 rf)));rw[q11]at t_;exact t_)⟩,hp11⟩⟩).cast rfl
           ·have UH:=Ze ‹QC rf=true›;have Zc:=Qz (QN ‹QC rf=true›).1;have hml:=LH (show(rf.Qa.length:Int)<=4 by omega) (show rf.Qb<=4 by omega) (by omega) (by omega);have hmn:0<=(rf.Qa.length:Int)*rf.Qb:=LG (by omega) (by omega);have hpf:=(QK ‹QP rf plan=true›).1;have hpp:=Xp (rf:=rf) (n:=(Q4 rf).2) (by omega);have hbr:=Zk ‹QC rf=true› ‹QP rf plan=true› ‹(Q4 rf).1=true›;exact(GoE.endsT okF hJ Qd GoE.start (ur B rf plan)
             ⟨(Jh q10),hp10⟩).cast (by(exfalso;simp_all;omega))
        |false=>
         have UH:=Ze ‹QC rf=true›;have Zc:=Qz (QN ‹QC rf=true›).1;have hml:=LH (show(rf.Qa.length:Int)<=4 by omega) (show rf.Qb<=4 by omega) (by omega) (by omega);have hmn:0<=(rf.Qa.length:Int)*rf.Qb:=LG (by omega) (by omega);have hpf:=(QK ‹QP rf plan=true›).1;have hpp:=Xp (rf:=rf) (n:=(Q4 rf).2) (by omega);have hbr:=Zk ‹QC rf=true› ‹QP rf plan=true› ‹(Q4 rf).1=true›;exact(GoE.endsT okF hJ Qd GoE.start (p8 B rf plan)
          ⟨⟨trivial,(by have t_:=lT (rf) (QA rf (Prod.snd (Q4 rf))) (by omega);rw[q7]at t_;exact t_)⟩,hp7⟩).cast (by(exfalso;simp_all;done))
      |false=>
       have hp12:Qw (Rj B rf plan):=by
        have UH:=Ze ‹QC rf=true›;have Zc:=Qz (QN ‹QC rf=true›).1;have hml:=LH (show(rf.Qa.length:Int)<=4 by omega) (show rf.Qb<=4 by omega) (by omega) (by omega);have hmn:0<=(rf.Qa.length:Int)*rf.Qb:=LG (by omega) (by omega);have hpf:=(QK ‹QP rf plan=true›).1;have hpp:=Xp (rf:=rf) (n:=(Q4 rf).2) (by omega);have hbw:=Ra ‹QC rf=true› ‹QP rf plan=true› ‹(Q4 rf).1=false›;exact⟨⟨trivial,(by have t_:=Fp (rf);rw[q2,q5]at t_;exact t_)⟩,hp3⟩
       cases q6:Prod.fst (QY rf plan)with
       |true=>
        have UH:=Ze ‹QC rf=true›;have Zc:=Qz (QN ‹QC rf=true›).1;have hml:=LH (show(rf.Qa.length:Int)<=4 by omega) (show rf.Qb<=4 by omega) (by omega) (by omega);have hmn:0<=(rf.Qa.length:Int)*rf.Qb:=LG (by omega) (by omega);have hpf:=(QK ‹QP rf plan=true›).1;have hpp:=Xp (rf:=rf) (n:=(Q4 rf).2) (by omega);have hbw:=Ra ‹QC rf=true› ‹QP rf plan=true› ‹(Q4 rf).1=false›;exact(GoE.endsT okF hJ Qd GoE.start (pz B rf plan)
         ⟨⟨trivial,known⟩,⟨⟨trivial,(by have t_:=RQ (rf) (plan);rw[q2,q3,q6]at t_;exact t_)⟩,hp12⟩⟩).cast rfl
       |false=>
        have UH:=Ze ‹QC rf=true›;have Zc:=Qz (QN ‹QC rf=true›).1;have hml:=LH (show(rf.Qa.length:Int)<=4 by omega) (show rf.Qb<=4 by omega) (by omega) (by omega);have hmn:0<=(rf.Qa.length:Int)*rf.Qb:=LG (by omega) (by omega);have hpf:=(QK ‹QP rf plan=true›).1;have hpp:=Xp (rf:=rf) (n:=(Q4 rf).2) (by omega);have hbw:=Ra ‹QC rf=true› ‹QP rf plan=true› ‹(Q4 rf).1=false›;exact(GoE.endsT okF hJ Qd GoE.start (py B rf plan)
         ⟨⟨trivial,(by have t_:=RQ (rf) (plan);rw[q2,q3,q6]at t_;exact t_)⟩,hp12⟩).cast (by(exfalso;simp_all;done))
    |false=>
     have UH:=Ze ‹QC rf=true›;have Zc:=Qz (QN ‹QC rf=true›).1;have hml:=LH (show(rf.Qa.length:Int)<=4 by omega) (show rf.Qb<=4 by omega) (by omega) (by omega);have hmn:0<=(rf.Qa.length:Int)*rf.Qb:=LG (by omega) (by omega);have hpp:=Xp (rf:=rf) (n:=(Q4 rf).2) (by omega);exact(GoE.endsT okF hJ Qd GoE.start (px B rf plan)
      ⟨⟨trivial,known⟩,⟨⟨trivial,(by have t_:=vX (rf) (plan);rw[q2,q3]at t_;exact t_)⟩,hp1⟩⟩).cast rfl
   |false=>
    exact(GoE.endsT okF hJ Qd GoE.start (pw B rf plan)
     ⟨⟨trivial,known⟩,⟨⟨trivial,(by have t_:=vX (rf) (plan);rw[q2]at t_;exact t_)⟩,hp1⟩⟩).cast rfl
 |false=>
  exact(GoE.endsT okF hJ Qd GoE.start (pt B rf plan)
   ⟨⟨trivial,known⟩,⟨⟨trivial,(by have t_:=Cm (rf);rw[q0]at t_;exact t_)⟩,trivial⟩⟩).cast rfl
theorem D4(rf:Qc)(plan:List Int)  :Qx YP J0 11 #[.agg (Qv rf).toArray,XA plan] (.bool true):=
 VJ (ts:=[.agg (Qv rf).toArray,XA plan]) (plan.length<=9223372036854775807) (fun _ _ ht=>ht.ln (i:=1) rfl) XQ (c0:=Qr YP 11 118 (([.agg (Qv rf).toArray,XA plan]).map (Qy 0 4))) (by kernel_rfl) (by kernel_rfl) fun X7 B hJ=>xw rf plan  X7 hJ
end
end Go.Proofs.Ytncjjangllkokaa

namespace Go.Proofs.Ytncjjangllkokaa
open Go Go.CE Go.RowKit
theorem uB:∀trs,po [fW,.slice .int] trs->Qx YP J0 11 trs.toArray (.bool true):=by
 rintro trs ⟨t0,_,rfl,h0,t1,_,rfl,h1,rfl⟩;obtain⟨r,rfl⟩:=Dt h0;obtain⟨l,rfl⟩:=Du h1;exact D4 r l
end Go.Proofs.Ytncjjangllkokaa

namespace Go.Proofs.Ytncjjangllkokaa
open Go Go.CE Go.ChangeShapes Go.WideShapes Go.RowKit
set_option maxRecDepth 100000 in
theorem aw(os:Os)(started:os.Started)(H:Type)(enc:TypeId×Value->H):
 ReturnsInHanded {} Try.checked os 11 .any (Rows.reefRivalsSpec.pre6 enc YP Try.f11 Rows.reefRivalsRow.domain false) (Rows.reefRivalsSpec.post enc YP Try.f11 false true false false):=by
 refine returnsInHanded_of_change (C:=Try.checked) (show ownKnob YP.godebug=none by kernel_rfl) started (by kernel_rfl) Try.func11
  (ChangeSpec.witness6 (enc:=enc) (C:=Try.checked) false ⟨#[],#[Sh.zeroA fW,Sh.zeroA (.slice .int)],[]⟩ 8 (by kernel_rfl) (by kernel_rfl) (by kernel_rfl) (by kernel_rfl)) ?_
 intro W base args ds gs before hval0 hW _ _;have hval:∀(j:Nat) t v,Try.f11.params[j]? =some t->args[j]? =some v->Value.okWide YP W .any base t v:=hval0;have hW':=hW;obtain⟨p,q,hA0,hV,rfl,_,_⟩:=hW;obtain⟨rfl,rfl⟩:=trodVars_none hV;have hA1:DataW.TrodAll enc YP W 0 (fun _=>true) true Try.f11.params.toList args.toList ds p:=hA0;have QX:∀x∈p,x.block<W.heap.size:=fun x hx=>hW'.lt x (by simpa using hx)
 have Jt:TT YP [fW,.slice .int] Try.f11.params.toList=true:=by kernel_rfl
 have hrd:(Try.f11.params.toList.all fun t=>YP.readableRec t && decide (t<YP.types.size))=true:=by kernel_rfl
 refine(C3 (J:=J0) (ss:=[fW,.slice .int]) trivial Jt hA1 (fun j t v h1 h2=>hval j t v (by simpa using h1) h2) uB).mono fun e W' ⟨he,hB⟩=> ?_
 subst he;have hB2:=Ti (show laidOutB YP=true by kernel_rfl) hB _ _ _ _ hrd hA1 QX;have hA:DataW.TrodAll enc YP W 0 (fun _=>true) true Try.f11.params.toList args.toList ds p:=hA1;rw[Try.params11]at hA;simp only[List.toList_toArray]at hA;have hA:=hA;obtain⟨v0,vs0,d0,ds0,p0,q0,_,rfl,_,h0,_⟩:=CE.trodAll_cons hA;obtain⟨v1,vs1,d1,ds1,p1,q1,_,rfl,_,h1,_⟩:=CE.trodAll_cons h0;obtain⟨_,rfl,_⟩:=CE.trodAll_nil h1;exact⟨_,rfl,_,_,_,[],_,[],hW',trodAll_mk1 (shut_bool Try.underlying4 _),hB2,rfl,hB.frame _,fun h=>by cases h⟩
theorem reefRivals_row:Rows.ReefRivalsSaid:=
 OpenClaim.holds_of_wide 11 Try.f11 rfl rfl rfl rfl rfl rfl rfl ⟨rfl,rfl,rfl,rfl,rfl⟩ rfl rfl rfl rfl rfl (by kernel_rfl) Try.func11 (by kernel_rfl)
  (of_decide_eq_true (by kernel_rfl)) (by unfold Func.isWrapper;first|(rw[if_pos (by decide+kernel)];kernel_rfl)|(rw[if_neg (by decide+kernel)];exact⟨rfl,rfl⟩))
  (fun os started H enc _=>aw os started H enc)
end Go.Proofs.Ytncjjangllkokaa
