/- Reef: a Qc. -/
import Derived.Test.YtncjjangllkokaaZRM13
import Derived.Test.YtncjjangllkokaaZRM07
import Derived.Test.YtncjjangllkokaaZRM10
set_option linter.all false
open Nat renaming le_refl->Ly,ble->LI,blt->Lp,beq->Lg,strongRecOn->LK,min->LJ
open Int renaming le_refl->LL,toNat->Lb
open List renaming getD_eq_getElem?_getD->Ll,getElem?_eq_none->Lu,range->Lv,set->Lw,replicate->Li,length->Lc,length_set->Lf,length_replicate->Lh,getD->Ld
open Array renaming eq_empty_of_size_eq_zero->LF,size->LR
open Inhabited renaming default->La
namespace Go.Proofs.Ytncjjangllkokaa
open Go Go.CE Go.RowKit
noncomputable section
theorem E9{gs:List Int}{ps:List Qe}{f:F4}(hp:KX ps)(hg:VF ps.length gs 2000)(hf:Yn f)(hs:f.sum<=10000000000):Yn (mj gs ps f):=by
 have h:=B7 hp hg hf;exact⟨h.1,by omega⟩
theorem F1{ps:List Qe}{b:F4}(hp:KX ps)(hf:Yn b):Yn (vI ps b)/\(vI ps b).sum<=b.sum:=by
 have hs:=vH (b:=b) hp ps.length (Ly _);have hg:=RK (g:=Wy ps b) (K:=100000000000) ps.length (fun m m0 m1=>vF hp hf m0 m1);have h0:=PO hp hf (i:=ps.length) (j:=0) (by omega) (LL _) (by omega) (by omega);have h1:=PO hp hf (i:=ps.length) (j:=1) (by omega) (LL _) (by omega) (by omega);have h2:=PO hp hf (i:=ps.length) (j:=2) (by omega) (LL _) (by omega) (by omega);have h3:=PO hp hf (i:=ps.length) (j:=3) (by omega) (LL _) (by omega) (by omega);have e:(vI ps b).sum=ES ps b ps.length:=rfl;have hb:=hf.2;exact⟨⟨⟨h0.1,h1.1,h2.1,h3.1⟩,by omega⟩,by omega⟩
theorem vi{ts:List Int}{b:F4}{n:Nat}{i j:Int}(ht:VF n ts 1000000)(h4:n<=4)(hf:Yn b)(h:i<=n)(j0:0<=j)(j1:j<4):0<=J5 ts b i j/\J5 ts b i j<=b.at j:=by
 have ha:=Kv hf j0 j1;unfold J5;split
 ·have:=fL ht hf j0 (by omega) h4;omega
 ·omega
theorem FK{ts:List Int}{ps:List Qe}{b:F4}(h4:ps.length<=4)(ht:VF ps.length ts 1000000)(hf:Yn b):Yn (Co ts ps b)/\(Co ts ps b).sum<=b.sum:=by
 have h0:=vi ht h4 hf (LL _) (j:=0) (by omega) (by omega);have h1:=vi ht h4 hf (LL _) (j:=1) (by omega) (by omega);have h2:=vi ht h4 hf (LL _) (j:=2) (by omega) (by omega);have h3:=vi ht h4 hf (LL _) (j:=3) (by omega) (by omega);have hb:=hf.2;have e:(Co ts ps b).sum=J5 ts b ps.length 0+J5 ts b ps.length 1+J5 ts b ps.length 2+J5 ts b ps.length 3:=rfl;have e2:b.sum=b.at 0+b.at 1+b.at 2+b.at 3:=rfl;exact⟨⟨⟨h0.1,h1.1,h2.1,h3.1⟩,by omega⟩,by omega⟩
theorem Et{gs ts:List Int}{ps:List Qe}{f:F4}(hp:KX ps)(hg:VF ps.length gs 2000)(ht:VF ps.length ts 1000000)(hf:Yn f)(hs:f.sum<=10000000000):Yn (QT gs ts ps f)/\(QT gs ts ps f).sum<=f.sum+4000000:=by
 have h1:=B7 hp hg hf;have h2:=F1 hp (E9 hp hg hf hs);have h3:=FK hp.1 ht h2.1;refine⟨h3.1, ?_⟩;have:(QT gs ts ps f).sum<=(vI ps (mj gs ps f)).sum:=h3.2;omega
def gM(ps:List Qe)(miss seasons a b c d:Int)(x7 x8:Value)(gs ts:List Int)(l0 l1 l2 l3 l4:Int):Q0:=[(1,.cells #[QF 0 (Pg ps),.int .i64 miss,.int .i64 seasons,.int .i64 a,.int .i64 b,.int .i64 c,.int .i64 d,x7,x8,.int .i64 l0,.int .i64 l1,.int .i64 l2,.int .i64 l3,.int .i64 l4] 120 (0,0)),(0,XM)]
def TA(ps:List Qe)(miss seasons a b c d:Int)(x7 x8:Value)(gs ts:List Int)(l0 l1 l2 l3 l4:Int):CF:=Q9 YP 86 31 [.pointer (some ⟨1,0,none⟩),QF 0 (Zu gs),QF 0 (Zu ts)]
set_option maxRecDepth 100000 in
theorem AO(B:Lo)(ps:List Qe)(miss seasons a b c d:Int)(x7 x8:Value)(gs ts:List Int)(l0 l1 l2 l3 l4:Int):CE.finK 2 (Q2 YP (QB YP) J0 B 54 2 (TA ps miss seasons a b c d x7 x8 gs ts l0 l1 l2 l3 l4) (gM ps miss seasons a b c d x7 x8 gs ts l0 l1 l2 l3 l4) 2
 [(25,Qu.wri [1] [0] [false] [] (mZ ps miss seasons a b c d gs ts l0 l1 l2 l3 l4) (mY ps miss seasons a b c d gs ts l0 l1 l2 l3 l4) (na ps miss seasons a b c d gs ts l0 l1 l2 l3 l4)),(32,Qu.wri [1] [3] [false] [] (ib ps miss seasons (Xm gs ps {a:=a,b:=b,c:=c,d:=d} (↑ps.length:Int) 0) (Xm gs ps {a:=a,b:=b,c:=c,d:=d} (↑ps.length:Int) 1) (Xm gs ps {a:=a,b:=b,c:=c,d:=d} (↑ps.length:Int) 2) (Xm gs ps {a:=a,b:=b,c:=c,d:=d} (↑ps.length:Int) 3) gs ts l0 (l1+Zy 0 (↑ps.length:Int) (Wi gs ps {a:=a,b:=b,c:=c,d:=d})) l2 l3 l4) (ia ps miss seasons (Xm gs ps {a:=a,b:=b,c:=c,d:=d} (↑ps.length:Int) 0) (Xm gs ps {a:=a,b:=b,c:=c,d:=d} (↑ps.length:Int) 1) (Xm gs ps {a:=a,b:=b,c:=c,d:=d} (↑ps.length:Int) 2) (Xm gs ps {a:=a,b:=b,c:=c,d:=d} (↑ps.length:Int) 3) gs ts l0 (l1+Zy 0 (↑ps.length:Int) (Wi gs ps {a:=a,b:=b,c:=c,d:=d})) l2 l3 l4) (ic ps miss seasons (Xm gs ps {a:=a,b:=b,c:=c,d:=d} (↑ps.length:Int) 0) (Xm gs ps {a:=a,b:=b,c:=c,d:=d} (↑ps.length:Int) 1) (Xm gs ps {a:=a,b:=b,c:=c,d:=d} (↑ps.length:Int) 2) (Xm gs ps {a:=a,b:=b,c:=c,d:=d} (↑ps.length:Int) 3) gs ts l0 (l1+Zy 0 (↑ps.length:Int) (Wi gs ps {a:=a,b:=b,c:=c,d:=d})) l2 l3 l4)),(39,Qu.wri [1] [4] [false] [] (mS ps miss seasons (Wk ps {a:=Xm gs ps {a:=a,b:=b,c:=c,d:=d} (↑ps.length:Int) 0,b:=Xm gs ps {a:=a,b:=b,c:=c,d:=d} (↑ps.length:Int) 1,c:=Xm gs ps {a:=a,b:=b,c:=c,d:=d} (↑ps.length:Int) 2,d:=Xm gs ps {a:=a,b:=b,c:=c,d:=d} (↑ps.length:Int) 3} (↑ps.length:Int) 0) (Wk ps {a:=Xm gs ps {a:=a,b:=b,c:=c,d:=d} (↑ps.length:Int) 0,b:=Xm gs ps {a:=a,b:=b,c:=c,d:=d} (↑ps.length:Int) 1,c:=Xm gs ps {a:=a,b:=b,c:=c,d:=d} (↑ps.length:Int) 2,d:=Xm gs ps {a:=a,b:=b,c:=c,d:=d} (↑ps.length:Int) 3} (↑ps.length:Int) 1) (Wk ps {a:=Xm gs ps {a:=a,b:=b,c:=c,d:=d} (↑ps.length:Int) 0,b:=Xm gs ps {a:=a,b:=b,c:=c,d:=d} (↑ps.length:Int) 1,c:=Xm gs ps {a:=a,b:=b,c:=c,d:=d} (↑ps.length:Int) 2,d:=Xm gs ps {a:=a,b:=b,c:=c,d:=d} (↑ps.length:Int) 3} (↑ps.length:Int) 2) (Wk ps {a:=Xm gs ps {a:=a,b:=b,c:=c,d:=d} (↑ps.length:Int) 0,b:=Xm gs ps {a:=a,b:=b,c:=c,d:=d} (↑ps.length:Int) 1,c:=Xm gs ps {a:=a,b:=b,c:=c,d:=d} (↑ps.length:Int) 2,d:=Xm gs ps {a:=a,b:=b,c:=c,d:=d} (↑ps.length:Int) 3} (↑ps.length:Int) 3) gs ts l0 (l1+Zy 0 (↑ps.length:Int) (Wi gs ps {a:=a,b:=b,c:=c,d:=d})) l2 (l3+Zy 0 (↑ps.length:Int) (Wy ps {a:=Xm gs ps {a:=a,b:=b,c:=c,d:=d} (↑ps.length:Int) 0,b:=Xm gs ps {a:=a,b:=b,c:=c,d:=d} (↑ps.length:Int) 1,c:=Xm gs ps {a:=a,b:=b,c:=c,d:=d} (↑ps.length:Int) 2,d:=Xm gs ps {a:=a,b:=b,c:=c,d:=d} (↑ps.length:Int) 3})) l4) (mR ps miss seasons (Wk ps {a:=Xm gs ps {a:=a,b:=b,c:=c,d:=d} (↑ps.length:Int) 0,b:=Xm gs ps {a:=a,b:=b,c:=c,d:=d} (↑ps.length:Int) 1,c:=Xm gs ps {a:=a,b:=b,c:=c,d:=d} (↑ps.length:Int) 2,d:=Xm gs ps {a:=a,b:=b,c:=c,d:=d} (↑ps.length:Int) 3} (↑ps.length:Int) 0) (Wk ps {a:=Xm gs ps {a:=a,b:=b,c:=c,d:=d} (↑ps.length:Int) 0,b:=Xm gs ps {a:=a,b:=b,c:=c,d:=d} (↑ps.length:Int) 1,c:=Xm gs ps {a:=a,b:=b,c:=c,d:=d} (↑ps.length:Int) 2,d:=Xm gs ps {a:=a,b:=b,c:=c,d:=d} (↑ps.length:Int) 3} (↑ps.length:Int) 1) (Wk ps {a:=Xm gs ps {a:=a,b:=b,c:=c,d:=d} (↑ps.length:Int) 0,b:=Xm gs ps {a:=a,b:=b,c:=c,d:=d} (↑ps.length:Int) 1,c:=Xm gs ps {a:=a,b:=b,c:=c,d:=d} (↑ps.length:Int) 2,d:=Xm gs ps {a:=a,b:=b,c:=c,d:=d} (↑ps.length:Int) 3} (↑ps.length:Int) 2) (Wk ps {a:=Xm gs ps {a:=a,b:=b,c:=c,d:=d} (↑ps.length:Int) 0,b:=Xm gs ps {a:=a,b:=b,c:=c,d:=d} (↑ps.length:Int) 1,c:=Xm gs ps {a:=a,b:=b,c:=c,d:=d} (↑ps.length:Int) 2,d:=Xm gs ps {a:=a,b:=b,c:=c,d:=d} (↑ps.length:Int) 3} (↑ps.length:Int) 3) gs ts l0 (l1+Zy 0 (↑ps.length:Int) (Wi gs ps {a:=a,b:=b,c:=c,d:=d})) l2 (l3+Zy 0 (↑ps.length:Int) (Wy ps {a:=Xm gs ps {a:=a,b:=b,c:=c,d:=d} (↑ps.length:Int) 0,b:=Xm gs ps {a:=a,b:=b,c:=c,d:=d} (↑ps.length:Int) 1,c:=Xm gs ps {a:=a,b:=b,c:=c,d:=d} (↑ps.length:Int) 2,d:=Xm gs ps {a:=a,b:=b,c:=c,d:=d} (↑ps.length:Int) 3})) l4) (mT ps miss seasons (Wk ps {a:=Xm gs ps {a:=a,b:=b,c:=c,d:=d} (↑ps.length:Int) 0,b:=Xm gs ps {a:=a,b:=b,c:=c,d:=d} (↑ps.length:Int) 1,c:=Xm gs ps {a:=a,b:=b,c:=c,d:=d} (↑ps.length:Int) 2,d:=Xm gs ps {a:=a,b:=b,c:=c,d:=d} (↑ps.length:Int) 3} (↑ps.length:Int) 0) (Wk ps {a:=Xm gs ps {a:=a,b:=b,c:=c,d:=d} (↑ps.length:Int) 0,b:=Xm gs ps {a:=a,b:=b,c:=c,d:=d} (↑ps.length:Int) 1,c:=Xm gs ps {a:=a,b:=b,c:=c,d:=d} (↑ps.length:Int) 2,d:=Xm gs ps {a:=a,b:=b,c:=c,d:=d} (↑ps.length:Int) 3} (↑ps.length:Int) 1) (Wk ps {a:=Xm gs ps {a:=a,b:=b,c:=c,d:=d} (↑ps.length:Int) 0,b:=Xm gs ps {a:=a,b:=b,c:=c,d:=d} (↑ps.length:Int) 1,c:=Xm gs ps {a:=a,b:=b,c:=c,d:=d} (↑ps.length:Int) 2,d:=Xm gs ps {a:=a,b:=b,c:=c,d:=d} (↑ps.length:Int) 3} (↑ps.length:Int) 2) (Wk ps {a:=Xm gs ps {a:=a,b:=b,c:=c,d:=d} (↑ps.length:Int) 0,b:=Xm gs ps {a:=a,b:=b,c:=c,d:=d} (↑ps.length:Int) 1,c:=Xm gs ps {a:=a,b:=b,c:=c,d:=d} (↑ps.length:Int) 2,d:=Xm gs ps {a:=a,b:=b,c:=c,d:=d} (↑ps.length:Int) 3} (↑ps.length:Int) 3) gs ts l0 (l1+Zy 0 (↑ps.length:Int) (Wi gs ps {a:=a,b:=b,c:=c,d:=d})) l2 (l3+Zy 0 (↑ps.length:Int) (Wy ps {a:=Xm gs ps {a:=a,b:=b,c:=c,d:=d} (↑ps.length:Int) 0,b:=Xm gs ps {a:=a,b:=b,c:=c,d:=d} (↑ps.length:Int) 1,c:=Xm gs ps {a:=a,b:=b,c:=c,d:=d} (↑ps.length:Int) 2,d:=Xm gs ps {a:=a,b:=b,c:=c,d:=d} (↑ps.length:Int) 3})) l4))] 0 [] []) [(1,KS.auto)] [] []=some (OO.ret (.tuple #[]),[(1,Obj.cells #[QF 2 (Xq ps.length (Qj Qf ps)),.int .i64 miss,.int .i64 seasons,.int .i64 (J5 ts {a:=Wk ps {a:=Xm gs ps {a:=a,b:=b,c:=c,d:=d} (↑ps.length:Int) 0,b:=Xm gs ps {a:=a,b:=b,c:=c,d:=d} (↑ps.length:Int) 1,c:=Xm gs ps {a:=a,b:=b,c:=c,d:=d} (↑ps.length:Int) 2,d:=Xm gs ps {a:=a,b:=b,c:=c,d:=d} (↑ps.length:Int) 3} (↑ps.length:Int) 0,b:=Wk ps {a:=Xm gs ps {a:=a,b:=b,c:=c,d:=d} (↑ps.length:Int) 0,b:=Xm gs ps {a:=a,b:=b,c:=c,d:=d} (↑ps.length:Int) 1,c:=Xm gs ps {a:=a,b:=b,c:=c,d:=d} (↑ps.length:Int) 2,d:=Xm gs ps {a:=a,b:=b,c:=c,d:=d} (↑ps.length:Int) 3} (↑ps.length:Int) 1,c:=Wk ps {a:=Xm gs ps {a:=a,b:=b,c:=c,d:=d} (↑ps.length:Int) 0,b:=Xm gs ps {a:=a,b:=b,c:=c,d:=d} (↑ps.length:Int) 1,c:=Xm gs ps {a:=a,b:=b,c:=c,d:=d} (↑ps.length:Int) 2,d:=Xm gs ps {a:=a,b:=b,c:=c,d:=d} (↑ps.length:Int) 3} (↑ps.length:Int) 2,d:=Wk ps {a:=Xm gs ps {a:=a,b:=b,c:=c,d:=d} (↑ps.length:Int) 0,b:=Xm gs ps {a:=a,b:=b,c:=c,d:=d} (↑ps.length:Int) 1,c:=Xm gs ps {a:=a,b:=b,c:=c,d:=d} (↑ps.length:Int) 2,d:=Xm gs ps {a:=a,b:=b,c:=c,d:=d} (↑ps.length:Int) 3} (↑ps.length:Int) 3} (↑ps.length:Int) 0),.int .i64 (J5 ts {a:=Wk ps {a:=Xm gs ps {a:=a,b:=b,c:=c,d:=d} (↑ps.length:Int) 0,b:=Xm gs ps {a:=a,b:=b,c:=c,d:=d} (↑ps.length:Int) 1,c:=Xm gs ps {a:=a,b:=b,c:=c,d:=d} (↑ps.length:Int) 2,d:=Xm gs ps {a:=a,b:=b,c:=c,d:=d} (↑ps.length:Int) 3} (↑ps.length:Int) 0,b:=Wk ps {a:=Xm gs ps {a:=a,b:=b,c:=c,d:=d} (↑ps.length:Int) 0,b:=Xm gs ps {a:=a,b:=b,c:=c,d:=d} (↑ps.length:Int) 1,c:=Xm gs ps {a:=a,b:=b,c:=c,d:=d} (↑ps.length:Int) 2,d:=Xm gs ps {a:=a,b:=b,c:=c,d:=d} (↑ps.length:Int) 3} (↑ps.length:Int) 1,c:=Wk ps {a:=Xm gs ps {a:=a,b:=b,c:=c,d:=d} (↑ps.length:Int) 0,b:=Xm gs ps {a:=a,b:=b,c:=c,d:=d} (↑ps.length:Int) 1,c:=Xm gs ps {a:=a,b:=b,c:=c,d:=d} (↑ps.length:Int) 2,d:=Xm gs ps {a:=a,b:=b,c:=c,d:=d} (↑ps.length:Int) 3} (↑ps.length:Int) 2,d:=Wk ps {a:=Xm gs ps {a:=a,b:=b,c:=c,d:=d} (↑ps.length:Int) 0,b:=Xm gs ps {a:=a,b:=b,c:=c,d:=d} (↑ps.length:Int) 1,c:=Xm gs ps {a:=a,b:=b,c:=c,d:=d} (↑ps.length:Int) 2,d:=Xm gs ps {a:=a,b:=b,c:=c,d:=d} (↑ps.length:Int) 3} (↑ps.length:Int) 3} (↑ps.length:Int) 1),.int .i64 (J5 ts {a:=Wk ps {a:=Xm gs ps {a:=a,b:=b,c:=c,d:=d} (↑ps.length:Int) 0,b:=Xm gs ps {a:=a,b:=b,c:=c,d:=d} (↑ps.length:Int) 1,c:=Xm gs ps {a:=a,b:=b,c:=c,d:=d} (↑ps.length:Int) 2,d:=Xm gs ps {a:=a,b:=b,c:=c,d:=d} (↑ps.length:Int) 3} (↑ps.length:Int) 0,b:=Wk ps {a:=Xm gs ps {a:=a,b:=b,c:=c,d:=d} (↑ps.length:Int) 0,b:=Xm gs ps {a:=a,b:=b,c:=c,d:=d} (↑ps.length:Int) 1,c:=Xm gs ps {a:=a,b:=b,c:=c,d:=d} (↑ps.length:Int) 2,d:=Xm gs ps {a:=a,b:=b,c:=c,d:=d} (↑ps.length:Int) 3} (↑ps.length:Int) 1,c:=Wk ps {a:=Xm gs ps {a:=a,b:=b,c:=c,d:=d} (↑ps.length:Int) 0,b:=Xm gs ps {a:=a,b:=b,c:=c,d:=d} (↑ps.length:Int) 1,c:=Xm gs ps {a:=a,b:=b,c:=c,d:=d} (↑ps.length:Int) 2,d:=Xm gs ps {a:=a,b:=b,c:=c,d:=d} (↑ps.length:Int) 3} (↑ps.length:Int) 2,d:=Wk ps {a:=Xm gs ps {a:=a,b:=b,c:=c,d:=d} (↑ps.length:Int) 0,b:=Xm gs ps {a:=a,b:=b,c:=c,d:=d} (↑ps.length:Int) 1,c:=Xm gs ps {a:=a,b:=b,c:=c,d:=d} (↑ps.length:Int) 2,d:=Xm gs ps {a:=a,b:=b,c:=c,d:=d} (↑ps.length:Int) 3} (↑ps.length:Int) 3} (↑ps.length:Int) 2),.int .i64 (J5 ts {a:=Wk ps {a:=Xm gs ps {a:=a,b:=b,c:=c,d:=d} (↑ps.length:Int) 0,b:=Xm gs ps {a:=a,b:=b,c:=c,d:=d} (↑ps.length:Int) 1,c:=Xm gs ps {a:=a,b:=b,c:=c,d:=d} (↑ps.length:Int) 2,d:=Xm gs ps {a:=a,b:=b,c:=c,d:=d} (↑ps.length:Int) 3} (↑ps.length:Int) 0,b:=Wk ps {a:=Xm gs ps {a:=a,b:=b,c:=c,d:=d} (↑ps.length:Int) 0,b:=Xm gs ps {a:=a,b:=b,c:=c,d:=d} (↑ps.length:Int) 1,c:=Xm gs ps {a:=a,b:=b,c:=c,d:=d} (↑ps.length:Int) 2,d:=Xm gs ps {a:=a,b:=b,c:=c,d:=d} (↑ps.length:Int) 3} (↑ps.length:Int) 1,c:=Wk ps {a:=Xm gs ps {a:=a,b:=b,c:=c,d:=d} (↑ps.length:Int) 0,b:=Xm gs ps {a:=a,b:=b,c:=c,d:=d} (↑ps.length:Int) 1,c:=Xm gs ps {a:=a,b:=b,c:=c,d:=d} (↑ps.length:Int) 2,d:=Xm gs ps {a:=a,b:=b,c:=c,d:=d} (↑ps.length:Int) 3} (↑ps.length:Int) 2,d:=Wk ps {a:=Xm gs ps {a:=a,b:=b,c:=c,d:=d} (↑ps.length:Int) 0,b:=Xm gs ps {a:=a,b:=b,c:=c,d:=d} (↑ps.length:Int) 1,c:=Xm gs ps {a:=a,b:=b,c:=c,d:=d} (↑ps.length:Int) 2,d:=Xm gs ps {a:=a,b:=b,c:=c,d:=d} (↑ps.length:Int) 3} (↑ps.length:Int) 3} (↑ps.length:Int) 3),QF 2 (Xq gs.length (Qj Xl gs)),QF 2 (Xq ts.length (Qj Xl ts)),.int .i64 l0,.int .i64 (l1+Zy 0 (↑ps.length:Int) (Wi gs ps {a:=a,b:=b,c:=c,d:=d})),.int .i64 (l2+Zy 0 (↑ps.length:Int) (WA ts {a:=Wk ps {a:=Xm gs ps {a:=a,b:=b,c:=c,d:=d} (↑ps.length:Int) 0,b:=Xm gs ps {a:=a,b:=b,c:=c,d:=d} (↑ps.length:Int) 1,c:=Xm gs ps {a:=a,b:=b,c:=c,d:=d} (↑ps.length:Int) 2,d:=Xm gs ps {a:=a,b:=b,c:=c,d:=d} (↑ps.length:Int) 3} (↑ps.length:Int) 0,b:=Wk ps {a:=Xm gs ps {a:=a,b:=b,c:=c,d:=d} (↑ps.length:Int) 0,b:=Xm gs ps {a:=a,b:=b,c:=c,d:=d} (↑ps.length:Int) 1,c:=Xm gs ps {a:=a,b:=b,c:=c,d:=d} (↑ps.length:Int) 2,d:=Xm gs ps {a:=a,b:=b,c:=c,d:=d} (↑ps.length:Int) 3} (↑ps.length:Int) 1,c:=Wk ps {a:=Xm gs ps {a:=a,b:=b,c:=c,d:=d} (↑ps.length:Int) 0,b:=Xm gs ps {a:=a,b:=b,c:=c,d:=d} (↑ps.length:Int) 1,c:=Xm gs ps {a:=a,b:=b,c:=c,d:=d} (↑ps.length:Int) 2,d:=Xm gs ps {a:=a,b:=b,c:=c,d:=d} (↑ps.length:Int) 3} (↑ps.length:Int) 2,d:=Wk ps {a:=Xm gs ps {a:=a,b:=b,c:=c,d:=d} (↑ps.length:Int) 0,b:=Xm gs ps {a:=a,b:=b,c:=c,d:=d} (↑ps.length:Int) 1,c:=Xm gs ps {a:=a,b:=b,c:=c,d:=d} (↑ps.length:Int) 2,d:=Xm gs ps {a:=a,b:=b,c:=c,d:=d} (↑ps.length:Int) 3} (↑ps.length:Int) 3})),.int .i64 (l3+Zy 0 (↑ps.length:Int) (Wy ps {a:=Xm gs ps {a:=a,b:=b,c:=c,d:=d} (↑ps.length:Int) 0,b:=Xm gs ps {a:=a,b:=b,c:=c,d:=d} (↑ps.length:Int) 1,c:=Xm gs ps {a:=a,b:=b,c:=c,d:=d} (↑ps.length:Int) 2,d:=Xm gs ps {a:=a,b:=b,c:=c,d:=d} (↑ps.length:Int) 3})),.int .i64 l4] 120)],[],
 [Q3 []/\CI (ps) (miss) (seasons) (Wk ps {a:=Xm gs ps {a:=a,b:=b,c:=c,d:=d} (↑ps.length:Int) 0,b:=Xm gs ps {a:=a,b:=b,c:=c,d:=d} (↑ps.length:Int) 1,c:=Xm gs ps {a:=a,b:=b,c:=c,d:=d} (↑ps.length:Int) 2,d:=Xm gs ps {a:=a,b:=b,c:=c,d:=d} (↑ps.length:Int) 3} (↑ps.length:Int) 0) (Wk ps {a:=Xm gs ps {a:=a,b:=b,c:=c,d:=d} (↑ps.length:Int) 0,b:=Xm gs ps {a:=a,b:=b,c:=c,d:=d} (↑ps.length:Int) 1,c:=Xm gs ps {a:=a,b:=b,c:=c,d:=d} (↑ps.length:Int) 2,d:=Xm gs ps {a:=a,b:=b,c:=c,d:=d} (↑ps.length:Int) 3} (↑ps.length:Int) 1) (Wk ps {a:=Xm gs ps {a:=a,b:=b,c:=c,d:=d} (↑ps.length:Int) 0,b:=Xm gs ps {a:=a,b:=b,c:=c,d:=d} (↑ps.length:Int) 1,c:=Xm gs ps {a:=a,b:=b,c:=c,d:=d} (↑ps.length:Int) 2,d:=Xm gs ps {a:=a,b:=b,c:=c,d:=d} (↑ps.length:Int) 3} (↑ps.length:Int) 2) (Wk ps {a:=Xm gs ps {a:=a,b:=b,c:=c,d:=d} (↑ps.length:Int) 0,b:=Xm gs ps {a:=a,b:=b,c:=c,d:=d} (↑ps.length:Int) 1,c:=Xm gs ps {a:=a,b:=b,c:=c,d:=d} (↑ps.length:Int) 2,d:=Xm gs ps {a:=a,b:=b,c:=c,d:=d} (↑ps.length:Int) 3} (↑ps.length:Int) 3) (gs) (ts) (l0) (l1+Zy 0 (↑ps.length:Int) (Wi gs ps {a:=a,b:=b,c:=c,d:=d})) (l2) (l3+Zy 0 (↑ps.length:Int) (Wy ps {a:=Xm gs ps {a:=a,b:=b,c:=c,d:=d} (↑ps.length:Int) 0,b:=Xm gs ps {a:=a,b:=b,c:=c,d:=d} (↑ps.length:Int) 1,c:=Xm gs ps {a:=a,b:=b,c:=c,d:=d} (↑ps.length:Int) 2,d:=Xm gs ps {a:=a,b:=b,c:=c,d:=d} (↑ps.length:Int) 3})) (l4),Q3 []/\AZ (ps) (miss) (seasons) (Xm gs ps {a:=a,b:=b,c:=c,d:=d} (↑ps.length:Int) 0) (Xm gs ps {a:=a,b:=b,c:=c,d:=d} (↑ps.length:Int) 1) (Xm gs ps {a:=a,b:=b,c:=c,d:=d} (↑ps.length:Int) 2) (Xm gs ps {a:=a,b:=b,c:=c,d:=d} (↑ps.length:Int) 3) (gs) (ts) (l0) (l1+Zy 0 (↑ps.length:Int) (Wi gs ps {a:=a,b:=b,c:=c,d:=d})) (l2) (l3) (l4),Q3 []/\CS (ps) (miss) (seasons) (a) (b) (c) (d) (gs) (ts) (l0) (l1) (l2) (l3) (l4)]):=by kernel_rfl
set_option maxHeartbeats 4000000 in
theorem CL(ps:List Qe)(miss seasons a b c d:Int)(x7 x8:Value)(gs ts:List Int)(l0 l1 l2 l3 l4:Int)(hp:KX ps)(hg:VF ps.length gs 2000)(ht:VF ps.length ts 1000000)(hf:Yn ⟨a,b,c,d⟩)(hs:F4.sum ⟨a,b,c,d⟩<=10000000000)(hl1:0<=l1/\l1<=100000000000000)(hl2:0<=l2/\l2<=100000000000000)(hl3:0<=l3/\l3<=100000000000000){B:Lo}(hJ:∀w,B.has w->J0 w):FinK YP B (TA ps miss seasons a b c d x7 x8 gs ts l0 l1 l2 l3 l4) (gM ps miss seasons a b c d x7 x8 gs ts l0 l1 l2 l3 l4) 2 (.ret (.tuple #[])) (([1]:List Nat).zip [.cells #[QF 2 (Pg ps),.int .i64 miss,.int .i64 seasons,.int .i64 (QT gs ts ps ⟨a,b,c,d⟩).a,.int .i64 (QT gs ts ps ⟨a,b,c,d⟩).b,.int .i64 (QT gs ts ps ⟨a,b,c,d⟩).c,.int .i64 (QT gs ts ps ⟨a,b,c,d⟩).d,QF 2 (Zu gs),QF 2 (Zu ts),.int .i64 l0,.int .i64 (l1+Zy 0 ps.length (Wi gs ps ⟨a,b,c,d⟩)),.int .i64 (l2+Zy 0 ps.length (WA ts (vI ps (mj gs ps ⟨a,b,c,d⟩)))),.int .i64 (l3+Zy 0 ps.length (Wy ps (mj gs ps ⟨a,b,c,d⟩))),.int .i64 l4] 120 (0,0)]) [] ([1]:List Nat):=by
 have hp4:=hp.1;have h1:=E9 hp hg hf hs;have h2:=(F1 hp h1).1;have h1':Yn ⟨Xm gs ps ⟨a,b,c,d⟩ ps.length 0,Xm gs ps ⟨a,b,c,d⟩ ps.length 1,Xm gs ps ⟨a,b,c,d⟩ ps.length 2,Xm gs ps ⟨a,b,c,d⟩ ps.length 3⟩:=h1;have h2':Yn ⟨Wk ps ⟨Xm gs ps ⟨a,b,c,d⟩ ps.length 0,Xm gs ps ⟨a,b,c,d⟩ ps.length 1,Xm gs ps ⟨a,b,c,d⟩ ps.length 2,Xm gs ps ⟨a,b,c,d⟩ ps.length 3⟩ ps.length 0,Wk ps ⟨Xm gs ps ⟨a,b,c,d⟩ ps.length 0,Xm gs ps ⟨a,b,c,d⟩ ps.length 1,Xm gs ps ⟨a,b,c,d⟩ ps.length 2,Xm gs ps ⟨a,b,c,d⟩ ps.length 3⟩ ps.length 1,Wk ps ⟨Xm gs ps ⟨a,b,c,d⟩ ps.length 0,Xm gs ps ⟨a,b,c,d⟩ ps.length 1,Xm gs ps ⟨a,b,c,d⟩ ps.length 2,Xm gs ps ⟨a,b,c,d⟩ ps.length 3⟩ ps.length 2,Wk ps ⟨Xm gs ps ⟨a,b,c,d⟩ ps.length 0,Xm gs ps ⟨a,b,c,d⟩ ps.length 1,Xm gs ps ⟨a,b,c,d⟩ ps.length 2,Xm gs ps ⟨a,b,c,d⟩ ps.length 3⟩ ps.length 3⟩:=h2;exact(GoE.finK okF hJ Qi (Xd (by kernel_rfl)) (QX (by kernel_rfl)) ((GoE.refl (P:=YP) (B:=B) (c0:=TA ps miss seasons a b c d x7 x8 gs ts l0 l1 l2 l3 l4) (Xd (by kernel_rfl))).widen (Wf:=((([(1,KS.auto)]):List (Nat×KS)).map (·.1))) (by simp) (QX (by kernel_rfl))) (AO B ps miss seasons a b c d x7 x8 gs ts l0 l1 l2 l3 l4)
  ⟨⟨trivial,Fk (ps) (miss) (seasons) (Wk ps {a:=Xm gs ps {a:=a,b:=b,c:=c,d:=d} (↑ps.length:Int) 0,b:=Xm gs ps {a:=a,b:=b,c:=c,d:=d} (↑ps.length:Int) 1,c:=Xm gs ps {a:=a,b:=b,c:=c,d:=d} (↑ps.length:Int) 2,d:=Xm gs ps {a:=a,b:=b,c:=c,d:=d} (↑ps.length:Int) 3} (↑ps.length:Int) 0) (Wk ps {a:=Xm gs ps {a:=a,b:=b,c:=c,d:=d} (↑ps.length:Int) 0,b:=Xm gs ps {a:=a,b:=b,c:=c,d:=d} (↑ps.length:Int) 1,c:=Xm gs ps {a:=a,b:=b,c:=c,d:=d} (↑ps.length:Int) 2,d:=Xm gs ps {a:=a,b:=b,c:=c,d:=d} (↑ps.length:Int) 3} (↑ps.length:Int) 1) (Wk ps {a:=Xm gs ps {a:=a,b:=b,c:=c,d:=d} (↑ps.length:Int) 0,b:=Xm gs ps {a:=a,b:=b,c:=c,d:=d} (↑ps.length:Int) 1,c:=Xm gs ps {a:=a,b:=b,c:=c,d:=d} (↑ps.length:Int) 2,d:=Xm gs ps {a:=a,b:=b,c:=c,d:=d} (↑ps.length:Int) 3} (↑ps.length:Int) 2) (Wk ps {a:=Xm gs ps {a:=a,b:=b,c:=c,d:=d} (↑ps.length:Int) 0,b:=Xm gs ps {a:=a,b:=b,c:=c,d:=d} (↑ps.length:Int) 1,c:=Xm gs ps {a:=a,b:=b,c:=c,d:=d} (↑ps.length:Int) 2,d:=Xm gs ps {a:=a,b:=b,c:=c,d:=d} (↑ps.length:Int) 3} (↑ps.length:Int) 3) (gs) (ts) (l0) (l1+Zy 0 (↑ps.length:Int) (Wi gs ps {a:=a,b:=b,c:=c,d:=d})) (l2) (l3+Zy 0 (↑ps.length:Int) (Wy ps {a:=Xm gs ps {a:=a,b:=b,c:=c,d:=d} (↑ps.length:Int) 0,b:=Xm gs ps {a:=a,b:=b,c:=c,d:=d} (↑ps.length:Int) 1,c:=Xm gs ps {a:=a,b:=b,c:=c,d:=d} (↑ps.length:Int) 2,d:=Xm gs ps {a:=a,b:=b,c:=c,d:=d} (↑ps.length:Int) 3})) (l4) (by with_reducible assumption) (by with_reducible assumption) (by with_reducible assumption) (by omega)⟩,⟨⟨trivial,Es (ps) (miss) (seasons) (Xm gs ps {a:=a,b:=b,c:=c,d:=d} (↑ps.length:Int) 0) (Xm gs ps {a:=a,b:=b,c:=c,d:=d} (↑ps.length:Int) 1) (Xm gs ps {a:=a,b:=b,c:=c,d:=d} (↑ps.length:Int) 2) (Xm gs ps {a:=a,b:=b,c:=c,d:=d} (↑ps.length:Int) 3) (gs) (ts) (l0) (l1+Zy 0 (↑ps.length:Int) (Wi gs ps {a:=a,b:=b,c:=c,d:=d})) (l2) (l3) (l4) (by with_reducible assumption) (by with_reducible assumption) (by omega)⟩,⟨⟨trivial,Fm (ps) (miss) (seasons) (a) (b) (c) (d) (gs) (ts) (l0) (l1) (l2) (l3) (l4) (by with_reducible assumption) (by with_reducible assumption) (by with_reducible assumption) (by omega)⟩,trivial⟩⟩⟩).cast (by rfl) (by rfl) (by rfl)
def eH(ps:List Qe)(miss seasons a b c d:Int)(x7 x8:Value)(gs ts:List Int)(l0 l1 l2 l3 l4:Int):OO:=.ret (.tuple #[])
def eG(ps:List Qe)(miss seasons a b c d:Int)(x7 x8:Value)(gs ts:List Int)(l0 l1 l2 l3 l4:Int):List Obj:=[.cells #[QF 2 (Pg ps),.int .i64 miss,.int .i64 seasons,.int .i64 (QT gs ts ps ⟨a,b,c,d⟩).a,.int .i64 (QT gs ts ps ⟨a,b,c,d⟩).b,.int .i64 (QT gs ts ps ⟨a,b,c,d⟩).c,.int .i64 (QT gs ts ps ⟨a,b,c,d⟩).d,QF 2 (Zu gs),QF 2 (Zu ts),.int .i64 l0,.int .i64 (l1+Zy 0 ps.length (Wi gs ps ⟨a,b,c,d⟩)),.int .i64 (l2+Zy 0 ps.length (WA ts (vI ps (mj gs ps ⟨a,b,c,d⟩)))),.int .i64 (l3+Zy 0 ps.length (Wy ps (mj gs ps ⟨a,b,c,d⟩))),.int .i64 l4] 120 (0,0)]
def eI(ps:List Qe)(miss seasons a b c d:Int)(x7 x8:Value)(gs ts:List Int)(l0 l1 l2 l3 l4:Int):List Obj:=[]
def vx(ps:List Qe)(miss seasons a b c d:Int)(x7 x8:Value)(gs ts:List Int)(l0 l1 l2 l3 l4:Int):Prop:=WriC YP J0 86 #[.pointer (some ⟨1,0,none⟩),QF 0 (Zu gs),QF 0 (Zu ts)] [.cells #[QF 0 (Pg ps),.int .i64 miss,.int .i64 seasons,.int .i64 a,.int .i64 b,.int .i64 c,.int .i64 d,x7,x8,.int .i64 l0,.int .i64 l1,.int .i64 l2,.int .i64 l3,.int .i64 l4] 120 (0,0)] (eH ps miss seasons a b c d x7 x8 gs ts l0 l1 l2 l3 l4) (eG ps miss seasons a b c d x7 x8 gs ts l0 l1 l2 l3 l4) (eI ps miss seasons a b c d x7 x8 gs ts l0 l1 l2 l3 l4)
theorem DJ(ps:List Qe)(miss seasons a b c d:Int)(x7 x8:Value)(gs ts:List Int)(l0 l1 l2 l3 l4:Int)(hp:KX ps)(hg:VF ps.length gs 2000)(ht:VF ps.length ts 1000000)(hf:Yn ⟨a,b,c,d⟩)(hs:F4.sum ⟨a,b,c,d⟩<=10000000000)(hl1:0<=l1/\l1<=100000000000000)(hl2:0<=l2/\l2<=100000000000000)(hl3:0<=l3/\l3<=100000000000000):WriC YP J0 86 #[.pointer (some ⟨1,0,none⟩),QF 0 (Zu gs),QF 0 (Zu ts)] [.cells #[QF 0 (Pg ps),.int .i64 miss,.int .i64 seasons,.int .i64 a,.int .i64 b,.int .i64 c,.int .i64 d,x7,x8,.int .i64 l0,.int .i64 l1,.int .i64 l2,.int .i64 l3,.int .i64 l4] 120 (0,0)] (eH ps miss seasons a b c d x7 x8 gs ts l0 l1 l2 l3 l4) (eG ps miss seasons a b c d x7 x8 gs ts l0 l1 l2 l3 l4) (eI ps miss seasons a b c d x7 x8 gs ts l0 l1 l2 l3 l4):=
 FinK.wri (c0:=TA ps miss seasons a b c d x7 x8 gs ts l0 l1 l2 l3 l4) (Hb:=gM ps miss seasons a b c d x7 x8 gs ts l0 l1 l2 l3 l4) (a:=2) (ws:=([1]:List Nat).zip [.cells #[QF 2 (Pg ps),.int .i64 miss,.int .i64 seasons,.int .i64 (QT gs ts ps ⟨a,b,c,d⟩).a,.int .i64 (QT gs ts ps ⟨a,b,c,d⟩).b,.int .i64 (QT gs ts ps ⟨a,b,c,d⟩).c,.int .i64 (QT gs ts ps ⟨a,b,c,d⟩).d,QF 2 (Zu gs),QF 2 (Zu ts),.int .i64 l0,.int .i64 (l1+Zy 0 ps.length (Wi gs ps ⟨a,b,c,d⟩)),.int .i64 (l2+Zy 0 ps.length (WA ts (vI ps (mj gs ps ⟨a,b,c,d⟩)))),.int .i64 (l3+Zy 0 ps.length (Wy ps (mj gs ps ⟨a,b,c,d⟩))),.int .i64 l4] 120 (0,0)]) (Wf:=([1]:List Nat)) (by kernel_rfl) rfl rfl rfl rfl fun B hJ=>CL ps miss seasons a b c d x7 x8 gs ts l0 l1 l2 l3 l4 hp hg ht hf hs hl1 hl2 hl3 hJ
end
end Go.Proofs.Ytncjjangllkokaa

namespace Go.Proofs.Ytncjjangllkokaa
open Go Go.CE Go.RowKit
set_option maxRecDepth 100000
abbrev FL(l:List Int):List Value:=[Zu l]
def xQ(ps:List Qe)(gs ts:List (List Int))(f:F4):Nat->F4
 |0=>f
 |k+1=>QT (gs.getD k La) (ts.getD k La) ps (xQ ps gs ts f k)
structure OkT (ps:List Qe) (n:Int) (gs ts:List (List Int)) (f:F4):Prop where
 hp:KX ps
 n0:1<=ps.length
 s0:1<=n
 s4:n<=4
 hg:gs.length=n
 ht:ts.length=n
 rg:∀k:Nat,k<n->VF ps.length (gs.getD k La) 2000
 rt:∀k:Nat,k<n->VF ps.length (ts.getD k La) 1000000
 hf:Yn f
 hs:f.sum<=1000000000
section
variable {ps:List Qe} {n:Int} {gs ts:List (List Int)} {f:F4}
theorem OkT.st(h:OkT ps n gs ts f):∀k:Nat,k<=n->Yn (xQ ps gs ts f k)/\(xQ ps gs ts f k).sum<=f.sum+4000000*k
 |0,_=>⟨h.hf,by show f.sum<=_;omega⟩
 |k+1,hk=>by
  obtain⟨a,b⟩:=h.st k (by omega);have h4:=h.s4;have h9:=h.hs;have:=Et h.hp (h.rg k (by omega)) (h.rt k (by omega)) a (by omega);exact⟨this.1,by show(QT _ _ _ _).sum<=_;omega⟩
end
def Zk(l:List Int):F4:=⟨l.getD 0 La,l.getD 1 La,l.getD 2 La,l.getD 3 La⟩
end Go.Proofs.Ytncjjangllkokaa

namespace Go.Proofs.Ytncjjangllkokaa
open Go Go.CE Go.RowKit
theorem zV{β:Type}{n i:Int}{g g':Int->β}{v:β}(h0:0<=i)(h:i<n)(hv:∀k,0<=k->k<n->(if k=i then v else g k)=g' k):(KJ n g).set i.toNat v=KJ n g':=by
 rw[fM h0 h];exact VX hv
theorem zQ{s:Int}(h:0<=s):fF 0 (s+1)=fF 0 s++[s]:=by
 unfold fF;rw[show(s+1-0).toNat=(s-0).toNat+1 by omega,List.range_succ,List.map_append];congr 1;simp;omega
section
variable {ps:List Qe} {n:Int} {gs ts:List (List Int)} {f:F4} {l:List Int}
theorem l6{i:Int}(h0:0<=i)(h:i<4):nth l i=(Zk l).at i:=by
 rcases Ta h0 h with rfl|rfl|rfl|rfl <;> rfl
end
end Go.Proofs.Ytncjjangllkokaa

namespace Go.Proofs.Ytncjjangllkokaa
open Go Go.CE Go.RowKit
set_option maxRecDepth 100000
end Go.Proofs.Ytncjjangllkokaa

namespace Go.Proofs.Ytncjjangllkokaa
open Go Go.CE Go.RowKit
set_option maxRecDepth 100000
end Go.Proofs.Ytncjjangllkokaa

namespace Go.Proofs.Ytncjjangllkokaa
open Go Go.CE Go.RowKit
set_option maxRecDepth 100000
theorem AP{n:Nat}(h:n<=4):((Zv n:Nat):Int)<=16:=by
 unfold Zv;have:n=0\/n=1\/n=2\/n=3\/n=4:=by omega
 rcases this with rfl|rfl|rfl|rfl|rfl <;> decide
theorem P0{rf:Qk}{Qa:List Int}(hr:Wx rf=true)(hp:Qm rf Qa=true)(j:Nat):0<=Qa.getD j 0/\Qa.getD j 0<=15:=by
 have h:=(Qo hp).2;have h4:=AP (n:=rf.Qb.length) (by have:=Qn (X5 hr).1;omega);by_cases hj:j<Qa.length
 ·have e:Qa.getD j 0=Qa[j]:=by simp[Ll,hj]
  have:=h Qa[j] (List.getElem_mem hj);rw[e];omega
 ·rw[Ll,Lu (by omega)];exact⟨LL _,by decide⟩
theorem td{rf:Qk}(hr:Wx rf=true):KX rf.Qb:=by
 have hs:=Qn (X5 hr).1;refine⟨by omega,fun k h0 h1=> ?_⟩;have h:=(X5 hr).2 k h0 h1;have hp:=WT h.1;exact⟨hp.2.1,hp.2.2.2.2.2.1,h.2.1,h.2.2⟩
theorem WK{ps:List Qe}{p k:Int}(h0:0<=k)(h:k<ps.length):(X6 ps p).getD k.toNat La=VE p k (ps.getD k.toNat La):=XU h0 h
theorem Zx{ps:List Qe}{p:Int}:(X6 ps p).length=ps.length:=by rw[X6,XR];omega
theorem ly{rf:Qk}(hr:Wx rf=true){p k:Int}(h0:0<=k)(h:k<rf.Qb.length):0<=(VE p k (rf.Qb.getD k.toNat La)).lo/\(VE p k (rf.Qb.getD k.toNat La)).lo<=(VE p k (rf.Qb.getD k.toNat La)).hi/\(VE p k (rf.Qb.getD k.toNat La)).hi<=1000000:=by
 have hp:=WT ((X5 hr).2 k h0 h).1;unfold VE;split
 ·exact hp.2.2.2.2.2.2.2.1
 ·exact hp.2.2.2.2.2.2.1
end Go.Proofs.Ytncjjangllkokaa

namespace Go.Proofs.Ytncjjangllkokaa
open Go Go.CE Go.RowKit
def Q5(n:Int):Value:=.int .i64 n
def Xo(g:FuncId):Bool:=LI 3 g && (Lp g 116 && !([]:List Nat).any (Lg g))
theorem QL:∀g,Xo g=true->QB YP g=true:=by
 have h:(Lv 116).all (fun g=> !(Xo g) || QB YP g)=true:=by decide+kernel
 intro g hg;have hg':=hg;simp only[Xo,YB]at hg;have h1:g<116:=YL hg.2.1;have:=List.all_eq_true.1 h g (List.mem_range.2 h1);rw[hg']at this;simpa using this
def Vk:Obj:=.cells #[Q5 1000,Q5 2000,Q5 200,Q5 300,Q5 100,Q5 1,Q5 200,Q5 300,Q5 0,Q5 50,Q5 900,Q5 10,Q5 500,Q5 800,Q5 100,Q5 200,Q5 0,Q5 (-1),Q5 100,Q5 200,Q5 0,Q5 20,Q5 450,Q5 6] 54 (0,0)
def my:Obj:=.cells #[.slice (some ⟨2104,0,none⟩) 2 12,Q5 200,Q5 2,Q5 1,Q5 1,Q5 0,Q5 0] 84 (0,0)
def Gm:Obj:=.cells #[Q5 1000,Q5 2000,Q5 200,Q5 300,Q5 100,Q5 1,Q5 200,Q5 300,Q5 0,Q5 50,Q5 900,Q5 10,Q5 500,Q5 800,Q5 100,Q5 200,Q5 0,Q5 (-1),Q5 100,Q5 122,Q5 0,Q5 20,Q5 450,Q5 6] 54 (0,0)
def Gl:Obj:=.cells #[Q5 1000,Q5 2000,Q5 200,Q5 300,Q5 100,Q5 1,Q5 200,Q5 300,Q5 0,Q5 50,Q5 900,Q5 10,Q5 500,Q5 800,Q5 100,Q5 200,Q5 0,Q5 (-1),Q5 100,Q5 183,Q5 0,Q5 20,Q5 450,Q5 6] 54 (0,0)
def Gk:Obj:=.cells #[Q5 1000,Q5 2000,Q5 200,Q5 300,Q5 100,Q5 1,Q5 200,Q5 300,Q5 0,Q5 50,Q5 900,Q5 10,Q5 500,Q5 800,Q5 100,Q5 200,Q5 0,Q5 (-1),Q5 100,Q5 199,Q5 0,Q5 20,Q5 450,Q5 6] 54 (0,0)
def Gj:Obj:=.cells #[Q5 1000,Q5 2000,Q5 200,Q5 300,Q5 100,Q5 1,Q5 200,Q5 300,Q5 0,Q5 50,Q5 900,Q5 10,Q5 500,Q5 800,Q5 100,Q5 200,Q5 0,Q5 (-1),Q5 100,Q5 191,Q5 0,Q5 20,Q5 450,Q5 6] 54 (0,0)
def Gi:Obj:=.cells #[Q5 1000,Q5 2000,Q5 200,Q5 300,Q5 100,Q5 1,Q5 200,Q5 300,Q5 0,Q5 50,Q5 900,Q5 10,Q5 500,Q5 800,Q5 100,Q5 200,Q5 0,Q5 (-1),Q5 100,Q5 195,Q5 0,Q5 20,Q5 450,Q5 6] 54 (0,0)
def Gh:Obj:=.cells #[Q5 1000,Q5 2000,Q5 200,Q5 300,Q5 100,Q5 1,Q5 200,Q5 300,Q5 0,Q5 50,Q5 900,Q5 10,Q5 500,Q5 800,Q5 100,Q5 200,Q5 0,Q5 (-1),Q5 100,Q5 197,Q5 0,Q5 20,Q5 450,Q5 6] 54 (0,0)
def Gg:Obj:=.cells #[Q5 1000,Q5 2000,Q5 200,Q5 300,Q5 100,Q5 1,Q5 200,Q5 300,Q5 0,Q5 50,Q5 900,Q5 10,Q5 500,Q5 800,Q5 100,Q5 200,Q5 0,Q5 (-1),Q5 100,Q5 196,Q5 0,Q5 20,Q5 450,Q5 6] 54 (0,0)
end Go.Proofs.Ytncjjangllkokaa

namespace Go.Proofs.Ytncjjangllkokaa
open Go Go.CE Go.RowKit
def uk:Memo:=
 ⟨26,#[.agg #[.slice (some ⟨7,0,none⟩) 2 12,Q5 200,Q5 2],.slice (some ⟨8,0,none⟩) 2 1,.agg #[.slice (some ⟨9,0,none⟩) 2 1,.slice (some ⟨12,0,none⟩) 2 1,.slice (some ⟨15,0,none⟩) 2 1]],[(9,.cells #[Q5 1100,Q5 550] 3 (0,0)),(12,.cells #[.slice (some ⟨10,0,none⟩) 2 1,.slice (some ⟨11,0,none⟩) 2 1] 25 (0,0)),(10,.cells #[Q5 250,Q5 150] 3 (0,0)),(15,.cells #[.slice (some ⟨13,0,none⟩) 2 1,.slice (some ⟨14,0,none⟩) 2 1] 25 (0,0)),(13,.cells #[Q5 250,Q5 150] 3 (0,0)),(11,.cells #[Q5 200,Q5 100] 3 (0,0)),(14,.cells #[Q5 200,Q5 100] 3 (0,0)),(8,.cells #[Q5 0,Q5 0] 3 (0,0)),(7,Vk)],16,.tuple #[.slice (some ⟨107,0,none⟩) 2 1,.agg #[Q5 1650,Q5 615,Q5 700,Q5 0,Q5 1565],Q5 0],[(121,.cells #[Q5 867,Q5 698] 3 (0,0)),(114,.cells #[Q5 988,Q5 619] 3 (0,0)),(107,.cells #[.slice (some ⟨114,0,none⟩) 2 1,.slice (some ⟨121,0,none⟩) 2 1] 25 (0,0))],123⟩
theorem yY:QZ uk (uk.run YP Xo X3 100000)=true:=by decide+kernel
def n8:Memo:=
 ⟨18,#[.agg #[.slice (some ⟨131,0,none⟩) 2 12,Q5 200,Q5 2],.slice (some ⟨132,0,none⟩) 2 1],[(132,.cells #[Q5 0,Q5 0] 3 (0,0)),(131,Vk)],133,.tuple #[.slice (some ⟨191,0,none⟩) 2 1,Q5 0],[(375,.cells #[Q5 543,Q5 1209,Q5 410,Q5 856] 38 (0,0)),(283,.cells #[Q5 780,Q5 1204,Q5 470,Q5 776] 38 (0,0)),(191,.cells #[.slice (some ⟨283,0,none⟩) 2 2,.slice (some ⟨375,0,none⟩) 2 2] 36 (0,0))],376⟩
theorem um:QZ n8 (n8.run YP Xo X3 100000)=true:=by decide+kernel
def n5:Memo:=
 ⟨88,#[.slice (some ⟨383,0,none⟩) 2 12,.agg #[Q5 1063,Q5 440,Q5 0,Q5 0]],[(383,Vk)],539,.tuple #[.agg #[Q5 1,Q5 10],.bool true],[],544⟩
theorem uh:QZ n5 (n5.drun YP Xo X3 100000)=true:=by decide+kernel
def nv:Memo:=
 ⟨98,#[.agg #[.slice (some ⟨552,0,none⟩) 2 12,Q5 200,Q5 2,Q5 3,Q5 3,Q5 0,Q5 0],.agg #[Q5 1000,Q5 500,Q5 0,Q5 0],Q5 0,.func (.func 76) #[] #[],.func (.func 77) #[] #[]],[(552,Vk)],622,.agg #[Q5 1030,Q5 650,Q5 0,Q5 0],[],663⟩
theorem uc:QZ nv (nv.run YP Xo X3 100000)=true:=by decide+kernel
def nu:Memo:=
 ⟨98,#[.agg #[.slice (some ⟨552,0,none⟩) 2 12,Q5 200,Q5 2,Q5 3,Q5 3,Q5 0,Q5 0],.agg #[Q5 1030,Q5 650,Q5 0,Q5 0],Q5 1,.func (.func 76) #[] #[],.func (.func 77) #[] #[]],[(552,Vk)],666,.agg #[Q5 1063,Q5 818,Q5 0,Q5 0],[],707⟩
theorem ub:QZ nu (nu.run YP Xo X3 100000)=true:=by decide+kernel
def n4:Memo:=
 ⟨88,#[.slice (some ⟨552,0,none⟩) 2 12,.agg #[Q5 1063,Q5 818,Q5 0,Q5 0]],[(552,Vk)],707,.tuple #[.agg #[Q5 0,Q5 0],.bool false],[],712⟩
theorem ug:QZ n4 (n4.drun YP Xo X3 100000)=true:=by decide+kernel
def nt:Memo:=
 ⟨98,#[.agg #[.slice (some ⟨552,0,none⟩) 2 12,Q5 200,Q5 2,Q5 0,Q5 0,Q5 0,Q5 0],.agg #[Q5 1000,Q5 500,Q5 0,Q5 0],Q5 0,.func (.func 76) #[] #[],.func (.func 77) #[] #[]],[(552,Vk)],760,.agg #[Q5 780,Q5 470,Q5 0,Q5 0],[],801⟩
theorem ua:QZ nt (nt.run YP Xo X3 100000)=true:=by decide+kernel
def nr:Memo:=
 ⟨98,#[.agg #[.slice (some ⟨552,0,none⟩) 2 12,Q5 200,Q5 2,Q5 0,Q5 0,Q5 0,Q5 0],.agg #[Q5 780,Q5 470,Q5 0,Q5 0],Q5 1,.func (.func 76) #[] #[],.func (.func 77) #[] #[]],[(552,Vk)],804,.agg #[Q5 543,Q5 410,Q5 0,Q5 0],[],845⟩
theorem tZ:QZ nr (nr.run YP Xo X3 100000)=true:=by decide+kernel
def n3:Memo:=
 ⟨88,#[.slice (some ⟨552,0,none⟩) 2 12,.agg #[Q5 543,Q5 410,Q5 0,Q5 0]],[(552,Vk)],845,.tuple #[.agg #[Q5 0,Q5 357],.bool true],[],849⟩
theorem uf:QZ n3 (n3.drun YP Xo X3 100000)=true:=by decide+kernel
def nq:Memo:=
 ⟨98,#[.agg #[.slice (some ⟨552,0,none⟩) 2 12,Q5 200,Q5 2,Q5 0,Q5 1,Q5 0,Q5 0],.agg #[Q5 780,Q5 470,Q5 0,Q5 0],Q5 1,.func (.func 76) #[] #[],.func (.func 77) #[] #[]],[(552,Vk)],876,.agg #[Q5 793,Q5 410,Q5 0,Q5 0],[],917⟩
theorem tY:QZ nq (nq.run YP Xo X3 100000)=true:=by decide+kernel
def nz:Memo:=
 ⟨88,#[.slice (some ⟨552,0,none⟩) 2 12,.agg #[Q5 793,Q5 410,Q5 0,Q5 0]],[(552,Vk)],917,.tuple #[.agg #[Q5 0,Q5 107],.bool true],[],921⟩
theorem ue:QZ nz (nz.drun YP Xo X3 100000)=true:=by decide+kernel
def np:Memo:=
 ⟨98,#[.agg #[.slice (some ⟨552,0,none⟩) 2 12,Q5 200,Q5 2,Q5 0,Q5 2,Q5 0,Q5 0],.agg #[Q5 780,Q5 470,Q5 0,Q5 0],Q5 1,.func (.func 76) #[] #[],.func (.func 77) #[] #[]],[(552,Vk)],948,.agg #[Q5 543,Q5 590,Q5 0,Q5 0],[],989⟩
theorem tX:QZ np (np.run YP Xo X3 100000)=true:=by decide+kernel
def ny:Memo:=
 ⟨88,#[.slice (some ⟨552,0,none⟩) 2 12,.agg #[Q5 543,Q5 590,Q5 0,Q5 0]],[(552,Vk)],989,.tuple #[.agg #[Q5 0,Q5 357],.bool true],[],993⟩
theorem ud:QZ ny (ny.drun YP Xo X3 100000)=true:=by decide+kernel
def iJ:Memo:=
 ⟨98,#[.agg #[.slice (some ⟨552,0,none⟩) 2 12,Q5 200,Q5 2,Q5 0,Q5 3,Q5 0,Q5 0],.agg #[Q5 780,Q5 470,Q5 0,Q5 0],Q5 1,.func (.func 76) #[] #[],.func (.func 77) #[] #[]],[(552,Vk)],1020,.agg #[Q5 793,Q5 590,Q5 0,Q5 0],[],1061⟩
theorem qq:QZ iJ (iJ.run YP Xo X3 100000)=true:=by decide+kernel
end Go.Proofs.Ytncjjangllkokaa

namespace Go.Proofs.Ytncjjangllkokaa
open Go Go.CE Go.RowKit
noncomputable def du:W9:=XO [n5]
theorem il(B:Lo):Wd YP B du:=Xf QL Qi (QU _ _) uh (XZ _ _)
def n7:Memo:=
 ⟨35,#[.agg #[.slice (some ⟨383,0,none⟩) 2 12,Q5 200,Q5 2],.slice (some ⟨384,0,none⟩) 2 1],[(384,.cells #[Q5 1,Q5 1] 3 (0,0)),(383,Vk)],385,.tuple #[Q5 1,Q5 10,Q5 0],[],545⟩
theorem uj:QZ n7 (n7.run YP Xo du 100000)=true:=by decide+kernel
end Go.Proofs.Ytncjjangllkokaa

namespace Go.Proofs.Ytncjjangllkokaa
open Go Go.CE Go.RowKit
def jE:Memo:=
 ⟨88,#[.slice (some ⟨552,0,none⟩) 2 12,.agg #[Q5 793,Q5 590,Q5 0,Q5 0]],[(552,Vk)],1061,.tuple #[.agg #[Q5 0,Q5 107],.bool true],[],1065⟩
theorem r8:QZ jE (jE.drun YP Xo X3 100000)=true:=by decide+kernel
def iI:Memo:=
 ⟨98,#[.agg #[.slice (some ⟨552,0,none⟩) 2 12,Q5 200,Q5 2,Q5 1,Q5 0,Q5 0,Q5 0],.agg #[Q5 1000,Q5 500,Q5 0,Q5 0],Q5 0,.func (.func 76) #[] #[],.func (.func 77) #[] #[]],[(552,Vk)],1112,.agg #[Q5 1030,Q5 470,Q5 0,Q5 0],[],1153⟩
theorem qp:QZ iI (iI.run YP Xo X3 100000)=true:=by decide+kernel
def iH:Memo:=
 ⟨98,#[.agg #[.slice (some ⟨552,0,none⟩) 2 12,Q5 200,Q5 2,Q5 1,Q5 0,Q5 0,Q5 0],.agg #[Q5 1030,Q5 470,Q5 0,Q5 0],Q5 1,.func (.func 76) #[] #[],.func (.func 77) #[] #[]],[(552,Vk)],1156,.agg #[Q5 813,Q5 440,Q5 0,Q5 0],[],1197⟩
theorem qo:QZ iH (iH.run YP Xo X3 100000)=true:=by decide+kernel
def jD:Memo:=
 ⟨88,#[.slice (some ⟨552,0,none⟩) 2 12,.agg #[Q5 813,Q5 440,Q5 0,Q5 0]],[(552,Vk)],1197,.tuple #[.agg #[Q5 0,Q5 87],.bool true],[],1201⟩
theorem r7:QZ jD (jD.drun YP Xo X3 100000)=true:=by decide+kernel
def iG:Memo:=
 ⟨98,#[.agg #[.slice (some ⟨552,0,none⟩) 2 12,Q5 200,Q5 2,Q5 1,Q5 1,Q5 0,Q5 0],.agg #[Q5 1030,Q5 470,Q5 0,Q5 0],Q5 1,.func (.func 76) #[] #[],.func (.func 77) #[] #[]],[(552,Vk)],1228,.agg #[Q5 1063,Q5 440,Q5 0,Q5 0],[],1269⟩
theorem qn:QZ iG (iG.run YP Xo X3 100000)=true:=by decide+kernel
def jC:Memo:=
 ⟨88,#[.slice (some ⟨552,0,none⟩) 2 12,.agg #[Q5 1063,Q5 440,Q5 0,Q5 0]],[(552,Vk)],1269,.tuple #[.agg #[Q5 1,Q5 10],.bool true],[],1274⟩
theorem r6:QZ jC (jC.drun YP Xo X3 100000)=true:=by decide+kernel
def iF:Memo:=
 ⟨98,#[.agg #[.slice (some ⟨552,0,none⟩) 2 12,Q5 200,Q5 2,Q5 1,Q5 2,Q5 0,Q5 0],.agg #[Q5 1030,Q5 470,Q5 0,Q5 0],Q5 1,.func (.func 76) #[] #[],.func (.func 77) #[] #[]],[(552,Vk)],1301,.agg #[Q5 813,Q5 620,Q5 0,Q5 0],[],1342⟩
theorem qm:QZ iF (iF.run YP Xo X3 100000)=true:=by decide+kernel
def jB:Memo:=
 ⟨88,#[.slice (some ⟨552,0,none⟩) 2 12,.agg #[Q5 813,Q5 620,Q5 0,Q5 0]],[(552,Vk)],1342,.tuple #[.agg #[Q5 0,Q5 87],.bool true],[],1346⟩
theorem r5:QZ jB (jB.drun YP Xo X3 100000)=true:=by decide+kernel
def iE:Memo:=
 ⟨98,#[.agg #[.slice (some ⟨552,0,none⟩) 2 12,Q5 200,Q5 2,Q5 1,Q5 3,Q5 0,Q5 0],.agg #[Q5 1030,Q5 470,Q5 0,Q5 0],Q5 1,.func (.func 76) #[] #[],.func (.func 77) #[] #[]],[(552,Vk)],1373,.agg #[Q5 1063,Q5 620,Q5 0,Q5 0],[],1414⟩
theorem ql:QZ iE (iE.run YP Xo X3 100000)=true:=by decide+kernel
def jA:Memo:=
 ⟨88,#[.slice (some ⟨552,0,none⟩) 2 12,.agg #[Q5 1063,Q5 620,Q5 0,Q5 0]],[(552,Vk)],1414,.tuple #[.agg #[Q5 0,Q5 0],.bool false],[],1419⟩
theorem r4:QZ jA (jA.drun YP Xo X3 100000)=true:=by decide+kernel
def iD:Memo:=
 ⟨98,#[.agg #[.slice (some ⟨552,0,none⟩) 2 12,Q5 200,Q5 2,Q5 2,Q5 0,Q5 0,Q5 0],.agg #[Q5 1000,Q5 500,Q5 0,Q5 0],Q5 0,.func (.func 76) #[] #[],.func (.func 77) #[] #[]],[(552,Vk)],1486,.agg #[Q5 780,Q5 650,Q5 0,Q5 0],[],1527⟩
theorem qk:QZ iD (iD.run YP Xo X3 100000)=true:=by decide+kernel
def iC:Memo:=
 ⟨98,#[.agg #[.slice (some ⟨552,0,none⟩) 2 12,Q5 200,Q5 2,Q5 2,Q5 0,Q5 0,Q5 0],.agg #[Q5 780,Q5 650,Q5 0,Q5 0],Q5 1,.func (.func 76) #[] #[],.func (.func 77) #[] #[]],[(552,Vk)],1530,.agg #[Q5 543,Q5 608,Q5 0,Q5 0],[],1571⟩
theorem qj:QZ iC (iC.run YP Xo X3 100000)=true:=by decide+kernel
def j9:Memo:=
 ⟨88,#[.slice (some ⟨552,0,none⟩) 2 12,.agg #[Q5 543,Q5 608,Q5 0,Q5 0]],[(552,Vk)],1571,.tuple #[.agg #[Q5 0,Q5 357],.bool true],[],1575⟩
theorem r3:QZ j9 (j9.drun YP Xo X3 100000)=true:=by decide+kernel
def iB:Memo:=
 ⟨98,#[.agg #[.slice (some ⟨552,0,none⟩) 2 12,Q5 200,Q5 2,Q5 2,Q5 1,Q5 0,Q5 0],.agg #[Q5 780,Q5 650,Q5 0,Q5 0],Q5 1,.func (.func 76) #[] #[],.func (.func 77) #[] #[]],[(552,Vk)],1622,.agg #[Q5 793,Q5 608,Q5 0,Q5 0],[],1663⟩
theorem qi:QZ iB (iB.run YP Xo X3 100000)=true:=by decide+kernel
end Go.Proofs.Ytncjjangllkokaa

namespace Go.Proofs.Ytncjjangllkokaa
open Go Go.CE Go.RowKit
def j8:Memo:=
 ⟨88,#[.slice (some ⟨552,0,none⟩) 2 12,.agg #[Q5 793,Q5 608,Q5 0,Q5 0]],[(552,Vk)],1663,.tuple #[.agg #[Q5 0,Q5 107],.bool true],[],1667⟩
theorem rz:QZ j8 (j8.drun YP Xo X3 100000)=true:=by decide+kernel
def iA:Memo:=
 ⟨98,#[.agg #[.slice (some ⟨552,0,none⟩) 2 12,Q5 200,Q5 2,Q5 2,Q5 2,Q5 0,Q5 0],.agg #[Q5 780,Q5 650,Q5 0,Q5 0],Q5 1,.func (.func 76) #[] #[],.func (.func 77) #[] #[]],[(552,Vk)],1714,.agg #[Q5 543,Q5 788,Q5 0,Q5 0],[],1755⟩
theorem qh:QZ iA (iA.run YP Xo X3 100000)=true:=by decide+kernel
def j7:Memo:=
 ⟨88,#[.slice (some ⟨552,0,none⟩) 2 12,.agg #[Q5 543,Q5 788,Q5 0,Q5 0]],[(552,Vk)],1755,.tuple #[.agg #[Q5 0,Q5 357],.bool true],[],1759⟩
theorem ry:QZ j7 (j7.drun YP Xo X3 100000)=true:=by decide+kernel
def iz:Memo:=
 ⟨98,#[.agg #[.slice (some ⟨552,0,none⟩) 2 12,Q5 200,Q5 2,Q5 2,Q5 3,Q5 0,Q5 0],.agg #[Q5 780,Q5 650,Q5 0,Q5 0],Q5 1,.func (.func 76) #[] #[],.func (.func 77) #[] #[]],[(552,Vk)],1806,.agg #[Q5 793,Q5 788,Q5 0,Q5 0],[],1847⟩
theorem qg:QZ iz (iz.run YP Xo X3 100000)=true:=by decide+kernel
def j6:Memo:=
 ⟨88,#[.slice (some ⟨552,0,none⟩) 2 12,.agg #[Q5 793,Q5 788,Q5 0,Q5 0]],[(552,Vk)],1847,.tuple #[.agg #[Q5 0,Q5 107],.bool true],[],1851⟩
theorem rv:QZ j6 (j6.drun YP Xo X3 100000)=true:=by decide+kernel
def iy:Memo:=
 ⟨98,#[.agg #[.slice (some ⟨552,0,none⟩) 2 12,Q5 200,Q5 2,Q5 3,Q5 0,Q5 0,Q5 0],.agg #[Q5 1030,Q5 650,Q5 0,Q5 0],Q5 1,.func (.func 76) #[] #[],.func (.func 77) #[] #[]],[(552,Vk)],1898,.agg #[Q5 813,Q5 638,Q5 0,Q5 0],[],1939⟩
theorem qf:QZ iy (iy.run YP Xo X3 100000)=true:=by decide+kernel
def j5:Memo:=
 ⟨88,#[.slice (some ⟨552,0,none⟩) 2 12,.agg #[Q5 813,Q5 638,Q5 0,Q5 0]],[(552,Vk)],1939,.tuple #[.agg #[Q5 0,Q5 87],.bool true],[],1943⟩
theorem ru:QZ j5 (j5.drun YP Xo X3 100000)=true:=by decide+kernel
def ix:Memo:=
 ⟨98,#[.agg #[.slice (some ⟨552,0,none⟩) 2 12,Q5 200,Q5 2,Q5 3,Q5 2,Q5 0,Q5 0],.agg #[Q5 1030,Q5 650,Q5 0,Q5 0],Q5 1,.func (.func 76) #[] #[],.func (.func 77) #[] #[]],[(552,Vk)],2014,.agg #[Q5 813,Q5 818,Q5 0,Q5 0],[],2055⟩
theorem qe:QZ ix (ix.run YP Xo X3 100000)=true:=by decide+kernel
def j4:Memo:=
 ⟨88,#[.slice (some ⟨552,0,none⟩) 2 12,.agg #[Q5 813,Q5 818,Q5 0,Q5 0]],[(552,Vk)],2055,.tuple #[.agg #[Q5 0,Q5 87],.bool true],[],2059⟩
theorem rr:QZ j4 (j4.drun YP Xo X3 100000)=true:=by decide+kernel
def j3:Memo:=
 ⟨88,#[.slice (some ⟨2134,0,none⟩) 2 12,.agg #[Q5 1063,Q5 440,Q5 0,Q5 0]],[(2134,Vk)],2266,.tuple #[.agg #[Q5 1,Q5 10],.bool true],[],2271⟩
theorem rq:QZ j3 (j3.drun YP Xo X3 100000)=true:=by decide+kernel
def jz:Memo:=
 ⟨88,#[.slice (some ⟨2274,0,none⟩) 2 12,.agg #[Q5 1063,Q5 440,Q5 0,Q5 0]],[(2274,Vk)],2406,.tuple #[.agg #[Q5 1,Q5 10],.bool true],[],2411⟩
theorem rp:QZ jz (jz.drun YP Xo X3 100000)=true:=by decide+kernel
def jy:Memo:=
 ⟨88,#[.slice (some ⟨2414,0,none⟩) 2 12,.agg #[Q5 1063,Q5 440,Q5 0,Q5 0]],[(2414,Vk)],2546,.tuple #[.agg #[Q5 1,Q5 10],.bool true],[],2551⟩
theorem rn:QZ jy (jy.drun YP Xo X3 100000)=true:=by decide+kernel
def jx:Memo:=
 ⟨88,#[.slice (some ⟨2554,0,none⟩) 2 12,.agg #[Q5 1063,Q5 440,Q5 0,Q5 0]],[(2554,Vk)],2686,.tuple #[.agg #[Q5 1,Q5 10],.bool true],[],2691⟩
theorem rl:QZ jx (jx.drun YP Xo X3 100000)=true:=by decide+kernel
def jv:Memo:=
 ⟨88,#[.slice (some ⟨2694,0,none⟩) 2 12,.agg #[Q5 1063,Q5 440,Q5 0,Q5 0]],[(2694,Vk)],2826,.tuple #[.agg #[Q5 1,Q5 10],.bool true],[],2831⟩
theorem rk:QZ jv (jv.drun YP Xo X3 100000)=true:=by decide+kernel
end Go.Proofs.Ytncjjangllkokaa

namespace Go.Proofs.Ytncjjangllkokaa
open Go Go.CE Go.RowKit
noncomputable def dt:W9:=XO [nv,nu,n4,nt,nr,n3,nq,nz,np,ny,iJ,jE,iI,iH,jD,iG,jC,iF,jB,iE,jA,iD,iC,j9,iB,j8,iA,j7,iz,j6,iy,j5,ix,j4]
theorem ik(B:Lo):Wd YP B dt:=Xc QL Qi (QU _ _) uc (Xc QL Qi (QU _ _) ub (Xf QL Qi (QU _ _) ug (Xc QL Qi (QU _ _) ua (Xc QL Qi (QU _ _) tZ (Xf QL Qi (QU _ _) uf (Xc QL Qi (QU _ _) tY (Xf QL Qi (QU _ _) ue (Xc QL Qi (QU _ _) tX (Xf QL Qi (QU _ _) ud (Xc QL Qi (QU _ _) qq (Xf QL Qi (QU _ _) r8 (Xc QL Qi (QU _ _) qp (Xc QL Qi (QU _ _) qo (Xf QL Qi (QU _ _) r7 (Xc QL Qi (QU _ _) qn (Xf QL Qi (QU _ _) r6 (Xc QL Qi (QU _ _) qm (Xf QL Qi (QU _ _) r5 (Xc QL Qi (QU _ _) ql (Xf QL Qi (QU _ _) r4 (Xc QL Qi (QU _ _) qk (Xc QL Qi (QU _ _) qj (Xf QL Qi (QU _ _) r3 (Xc QL Qi (QU _ _) qi (Xf QL Qi (QU _ _) rz (Xc QL Qi (QU _ _) qh (Xf QL Qi (QU _ _) ry (Xc QL Qi (QU _ _) qg (Xf QL Qi (QU _ _) rv (Xc QL Qi (QU _ _) qf (Xf QL Qi (QU _ _) ru (Xc QL Qi (QU _ _) qe (Xf QL Qi (QU _ _) rr (XZ _ _))))))))))))))))))))))))))))))))))
def n6:Memo:=
 ⟨37,#[.agg #[.slice (some ⟨552,0,none⟩) 2 12,Q5 200,Q5 2]],[(552,Vk)],553,.tuple #[.slice (some ⟨2086,0,none⟩) 2 1,Q5 26,Q5 0],[(2086,.cells #[Q5 1,Q5 3] 3 (0,0))],2097⟩
theorem ui:QZ n6 (n6.run YP Xo dt 100000)=true:=by decide+kernel
end Go.Proofs.Ytncjjangllkokaa

namespace Go.Proofs.Ytncjjangllkokaa
open Go Go.CE Go.RowKit
def ju:Memo:=
 ⟨88,#[.slice (some ⟨2834,0,none⟩) 2 12,.agg #[Q5 1063,Q5 440,Q5 0,Q5 0]],[(2834,Vk)],2966,.tuple #[.agg #[Q5 1,Q5 10],.bool true],[],2971⟩
theorem rj:QZ ju (ju.drun YP Xo X3 100000)=true:=by decide+kernel
def jt:Memo:=
 ⟨88,#[.slice (some ⟨2974,0,none⟩) 2 12,.agg #[Q5 1063,Q5 440,Q5 0,Q5 0]],[(2974,Vk)],3106,.tuple #[.agg #[Q5 1,Q5 10],.bool true],[],3111⟩
theorem ri:QZ jt (jt.drun YP Xo X3 100000)=true:=by decide+kernel
def js:Memo:=
 ⟨88,#[.slice (some ⟨3114,0,none⟩) 2 12,.agg #[Q5 1063,Q5 440,Q5 0,Q5 0]],[(3114,Vk)],3246,.tuple #[.agg #[Q5 1,Q5 10],.bool true],[],3251⟩
theorem rh:QZ js (js.drun YP Xo X3 100000)=true:=by decide+kernel
def jr:Memo:=
 ⟨88,#[.slice (some ⟨3254,0,none⟩) 2 12,.agg #[Q5 1063,Q5 440,Q5 0,Q5 0]],[(3254,Vk)],3386,.tuple #[.agg #[Q5 1,Q5 10],.bool true],[],3391⟩
theorem re:QZ jr (jr.drun YP Xo X3 100000)=true:=by decide+kernel
def jq:Memo:=
 ⟨88,#[.slice (some ⟨3394,0,none⟩) 2 12,.agg #[Q5 1063,Q5 440,Q5 0,Q5 0]],[(3394,Vk)],3526,.tuple #[.agg #[Q5 1,Q5 10],.bool true],[],3531⟩
theorem qZ:QZ jq (jq.drun YP Xo X3 100000)=true:=by decide+kernel
def jo:Memo:=
 ⟨88,#[.slice (some ⟨3534,0,none⟩) 2 12,.agg #[Q5 1063,Q5 440,Q5 0,Q5 0]],[(3534,Vk)],3666,.tuple #[.agg #[Q5 1,Q5 10],.bool true],[],3671⟩
theorem qY:QZ jo (jo.drun YP Xo X3 100000)=true:=by decide+kernel
def jn:Memo:=
 ⟨88,#[.slice (some ⟨3674,0,none⟩) 2 12,.agg #[Q5 1063,Q5 440,Q5 0,Q5 0]],[(3674,Vk)],3806,.tuple #[.agg #[Q5 1,Q5 10],.bool true],[],3811⟩
theorem qX:QZ jn (jn.drun YP Xo X3 100000)=true:=by decide+kernel
def jl:Memo:=
 ⟨88,#[.slice (some ⟨3814,0,none⟩) 2 12,.agg #[Q5 1063,Q5 603,Q5 0,Q5 0]],[(3814,Gm)],3946,.tuple #[.agg #[Q5 0,Q5 0],.bool false],[],3951⟩
theorem qW:QZ jl (jl.drun YP Xo X3 100000)=true:=by decide+kernel
def jk:Memo:=
 ⟨88,#[.slice (some ⟨3954,0,none⟩) 2 12,.agg #[Q5 1063,Q5 475,Q5 0,Q5 0]],[(3954,Gl)],4086,.tuple #[.agg #[Q5 0,Q5 0],.bool false],[],4091⟩
theorem qU:QZ jk (jk.drun YP Xo X3 100000)=true:=by decide+kernel
def jj:Memo:=
 ⟨88,#[.slice (some ⟨4094,0,none⟩) 2 12,.agg #[Q5 1063,Q5 440,Q5 0,Q5 0]],[(4094,Vk)],4226,.tuple #[.agg #[Q5 1,Q5 10],.bool true],[],4231⟩
theorem qT:QZ jj (jj.drun YP Xo X3 100000)=true:=by decide+kernel
def ji:Memo:=
 ⟨88,#[.slice (some ⟨4234,0,none⟩) 2 12,.agg #[Q5 1063,Q5 442,Q5 0,Q5 0]],[(4234,Gk)],4366,.tuple #[.agg #[Q5 1,Q5 8],.bool true],[],4371⟩
theorem qS:QZ ji (ji.drun YP Xo X3 100000)=true:=by decide+kernel
def jh:Memo:=
 ⟨88,#[.slice (some ⟨4374,0,none⟩) 2 12,.agg #[Q5 1063,Q5 458,Q5 0,Q5 0]],[(4374,Gj)],4506,.tuple #[.agg #[Q5 0,Q5 0],.bool false],[],4511⟩
theorem qQ:QZ jh (jh.drun YP Xo X3 100000)=true:=by decide+kernel
def jg:Memo:=
 ⟨88,#[.slice (some ⟨4514,0,none⟩) 2 12,.agg #[Q5 1063,Q5 450,Q5 0,Q5 0]],[(4514,Gi)],4646,.tuple #[.agg #[Q5 0,Q5 0],.bool false],[],4651⟩
theorem qP:QZ jg (jg.drun YP Xo X3 100000)=true:=by decide+kernel
def jf:Memo:=
 ⟨88,#[.slice (some ⟨4654,0,none⟩) 2 12,.agg #[Q5 1063,Q5 446,Q5 0,Q5 0]],[(4654,Gh)],4786,.tuple #[.agg #[Q5 1,Q5 4],.bool true],[],4791⟩
theorem qO:QZ jf (jf.drun YP Xo X3 100000)=true:=by decide+kernel
end Go.Proofs.Ytncjjangllkokaa

namespace Go.Proofs.Ytncjjangllkokaa
open Go Go.CE Go.RowKit
noncomputable section
def al:W9:=XO [j3]
theorem ew(B:Lo):Wd YP B al:=Xf QL Qi (QU _ _) rq (XZ _ _)
def jd:Memo:=
 ⟨93,#[Q5 500000,.pointer (some ⟨2130,0,none⟩),.pointer (some ⟨2131,0,none⟩)],[(2104,Vk),(2131,.cells #[Q5 1] 3 (0,0)),(2130,my)],2132,.bool true,[],2272⟩
theorem qM:QZ jd (jd.run YP Xo al 100000)=true:=by decide+kernel
def ak:W9:=XO [jz]
theorem eu(B:Lo):Wd YP B ak:=Xf QL Qi (QU _ _) rp (XZ _ _)
def jc:Memo:=
 ⟨93,#[Q5 250000,.pointer (some ⟨2130,0,none⟩),.pointer (some ⟨2131,0,none⟩)],[(2104,Vk),(2131,.cells #[Q5 1] 3 (0,0)),(2130,my)],2272,.bool true,[],2412⟩
theorem qL:QZ jc (jc.run YP Xo ak 100000)=true:=by decide+kernel
def aj:W9:=XO [jy]
theorem ep(B:Lo):Wd YP B aj:=Xf QL Qi (QU _ _) rn (XZ _ _)
def jb:Memo:=
 ⟨93,#[Q5 125000,.pointer (some ⟨2130,0,none⟩),.pointer (some ⟨2131,0,none⟩)],[(2104,Vk),(2131,.cells #[Q5 1] 3 (0,0)),(2130,my)],2412,.bool true,[],2552⟩
theorem qK:QZ jb (jb.run YP Xo aj 100000)=true:=by decide+kernel
def ai:W9:=XO [jx]
theorem eo(B:Lo):Wd YP B ai:=Xf QL Qi (QU _ _) rl (XZ _ _)
def ja:Memo:=
 ⟨93,#[Q5 62500,.pointer (some ⟨2130,0,none⟩),.pointer (some ⟨2131,0,none⟩)],[(2104,Vk),(2131,.cells #[Q5 1] 3 (0,0)),(2130,my)],2552,.bool true,[],2692⟩
theorem qJ:QZ ja (ja.run YP Xo ai 100000)=true:=by decide+kernel
def ah:W9:=XO [jv]
theorem ek(B:Lo):Wd YP B ah:=Xf QL Qi (QU _ _) rk (XZ _ _)
def iZ:Memo:=
 ⟨93,#[Q5 31250,.pointer (some ⟨2130,0,none⟩),.pointer (some ⟨2131,0,none⟩)],[(2104,Vk),(2131,.cells #[Q5 1] 3 (0,0)),(2130,my)],2692,.bool true,[],2832⟩
theorem qI:QZ iZ (iZ.run YP Xo ah 100000)=true:=by decide+kernel
def ag:W9:=XO [ju]
theorem ej(B:Lo):Wd YP B ag:=Xf QL Qi (QU _ _) rj (XZ _ _)
def iY:Memo:=
 ⟨93,#[Q5 15625,.pointer (some ⟨2130,0,none⟩),.pointer (some ⟨2131,0,none⟩)],[(2104,Vk),(2131,.cells #[Q5 1] 3 (0,0)),(2130,my)],2832,.bool true,[],2972⟩
theorem qH:QZ iY (iY.run YP Xo ag 100000)=true:=by decide+kernel
def ae:W9:=XO [jt]
theorem ei(B:Lo):Wd YP B ae:=Xf QL Qi (QU _ _) ri (XZ _ _)
def iX:Memo:=
 ⟨93,#[Q5 7812,.pointer (some ⟨2130,0,none⟩),.pointer (some ⟨2131,0,none⟩)],[(2104,Vk),(2131,.cells #[Q5 1] 3 (0,0)),(2130,my)],2972,.bool true,[],3112⟩
theorem qG:QZ iX (iX.run YP Xo ae 100000)=true:=by decide+kernel
def ab:W9:=XO [js]
theorem eg(B:Lo):Wd YP B ab:=Xf QL Qi (QU _ _) rh (XZ _ _)
def iW:Memo:=
 ⟨93,#[Q5 3906,.pointer (some ⟨2130,0,none⟩),.pointer (some ⟨2131,0,none⟩)],[(2104,Vk),(2131,.cells #[Q5 1] 3 (0,0)),(2130,my)],3112,.bool true,[],3252⟩
theorem qF:QZ iW (iW.run YP Xo ab 100000)=true:=by decide+kernel
def aa:W9:=XO [jr]
theorem ef(B:Lo):Wd YP B aa:=Xf QL Qi (QU _ _) re (XZ _ _)
def iV:Memo:=
 ⟨93,#[Q5 1953,.pointer (some ⟨2130,0,none⟩),.pointer (some ⟨2131,0,none⟩)],[(2104,Vk),(2131,.cells #[Q5 1] 3 (0,0)),(2130,my)],3252,.bool true,[],3392⟩
theorem qE:QZ iV (iV.run YP Xo aa 100000)=true:=by decide+kernel
def TZ:W9:=XO [jq]
theorem ee(B:Lo):Wd YP B TZ:=Xf QL Qi (QU _ _) qZ (XZ _ _)
def iU:Memo:=
 ⟨93,#[Q5 976,.pointer (some ⟨2130,0,none⟩),.pointer (some ⟨2131,0,none⟩)],[(2104,Vk),(2131,.cells #[Q5 1] 3 (0,0)),(2130,my)],3392,.bool true,[],3532⟩
theorem qD:QZ iU (iU.run YP Xo TZ 100000)=true:=by decide+kernel
def TU:W9:=XO [jo]
theorem eb(B:Lo):Wd YP B TU:=Xf QL Qi (QU _ _) qY (XZ _ _)
def iT:Memo:=
 ⟨93,#[Q5 488,.pointer (some ⟨2130,0,none⟩),.pointer (some ⟨2131,0,none⟩)],[(2104,Vk),(2131,.cells #[Q5 1] 3 (0,0)),(2130,my)],3532,.bool true,[],3672⟩
theorem qC:QZ iT (iT.run YP Xo TU 100000)=true:=by decide+kernel
def TT:W9:=XO [jn]
theorem dZ(B:Lo):Wd YP B TT:=Xf QL Qi (QU _ _) qX (XZ _ _)
def iS:Memo:=
 ⟨93,#[Q5 244,.pointer (some ⟨2130,0,none⟩),.pointer (some ⟨2131,0,none⟩)],[(2104,Vk),(2131,.cells #[Q5 1] 3 (0,0)),(2130,my)],3672,.bool true,[],3812⟩
theorem qB:QZ iS (iS.run YP Xo TT 100000)=true:=by decide+kernel
def TS:W9:=XO [jl]
theorem dY(B:Lo):Wd YP B TS:=Xf QL Qi (QU _ _) qW (XZ _ _)
def iR:Memo:=
 ⟨93,#[Q5 122,.pointer (some ⟨2130,0,none⟩),.pointer (some ⟨2131,0,none⟩)],[(2104,Vk),(2131,.cells #[Q5 1] 3 (0,0)),(2130,my)],3812,.bool false,[],3952⟩
theorem qA:QZ iR (iR.run YP Xo TS 100000)=true:=by decide+kernel
def TQ:W9:=XO [jk]
theorem dX(B:Lo):Wd YP B TQ:=Xf QL Qi (QU _ _) qU (XZ _ _)
def iQ:Memo:=
 ⟨93,#[Q5 183,.pointer (some ⟨2130,0,none⟩),.pointer (some ⟨2131,0,none⟩)],[(2104,Vk),(2131,.cells #[Q5 1] 3 (0,0)),(2130,my)],3952,.bool false,[],4092⟩
theorem qz:QZ iQ (iQ.run YP Xo TQ 100000)=true:=by decide+kernel
end
end Go.Proofs.Ytncjjangllkokaa

namespace Go.Proofs.Ytncjjangllkokaa
open Go Go.CE Go.RowKit
def je:Memo:=
 ⟨88,#[.slice (some ⟨4794,0,none⟩) 2 12,.agg #[Q5 1063,Q5 448,Q5 0,Q5 0]],[(4794,Gg)],4926,.tuple #[.agg #[Q5 1,Q5 2],.bool true],[],4931⟩
theorem qN:QZ je (je.drun YP Xo X3 100000)=true:=by decide+kernel
end Go.Proofs.Ytncjjangllkokaa

namespace Go.Proofs.Ytncjjangllkokaa
open Go Go.CE Go.RowKit
noncomputable section
def TP:W9:=XO [jj]
theorem dW(B:Lo):Wd YP B TP:=Xf QL Qi (QU _ _) qT (XZ _ _)
def iP:Memo:=
 ⟨93,#[Q5 214,.pointer (some ⟨2130,0,none⟩),.pointer (some ⟨2131,0,none⟩)],[(2104,Vk),(2131,.cells #[Q5 1] 3 (0,0)),(2130,my)],4092,.bool true,[],4232⟩
theorem qy:QZ iP (iP.run YP Xo TP 100000)=true:=by decide+kernel
def TO:W9:=XO [ji]
theorem dV(B:Lo):Wd YP B TO:=Xf QL Qi (QU _ _) qS (XZ _ _)
def iO:Memo:=
 ⟨93,#[Q5 199,.pointer (some ⟨2130,0,none⟩),.pointer (some ⟨2131,0,none⟩)],[(2104,Vk),(2131,.cells #[Q5 1] 3 (0,0)),(2130,my)],4232,.bool true,[],4372⟩
theorem qx:QZ iO (iO.run YP Xo TO 100000)=true:=by decide+kernel
def TN:W9:=XO [jh]
theorem dU(B:Lo):Wd YP B TN:=Xf QL Qi (QU _ _) qQ (XZ _ _)
def iN:Memo:=
 ⟨93,#[Q5 191,.pointer (some ⟨2130,0,none⟩),.pointer (some ⟨2131,0,none⟩)],[(2104,Vk),(2131,.cells #[Q5 1] 3 (0,0)),(2130,my)],4372,.bool false,[],4512⟩
theorem qw:QZ iN (iN.run YP Xo TN 100000)=true:=by decide+kernel
def TM:W9:=XO [jg]
theorem dT(B:Lo):Wd YP B TM:=Xf QL Qi (QU _ _) qP (XZ _ _)
def iM:Memo:=
 ⟨93,#[Q5 195,.pointer (some ⟨2130,0,none⟩),.pointer (some ⟨2131,0,none⟩)],[(2104,Vk),(2131,.cells #[Q5 1] 3 (0,0)),(2130,my)],4512,.bool false,[],4652⟩
theorem qv:QZ iM (iM.run YP Xo TM 100000)=true:=by decide+kernel
def TL:W9:=XO [jf]
theorem dS(B:Lo):Wd YP B TL:=Xf QL Qi (QU _ _) qO (XZ _ _)
def iL:Memo:=
 ⟨93,#[Q5 197,.pointer (some ⟨2130,0,none⟩),.pointer (some ⟨2131,0,none⟩)],[(2104,Vk),(2131,.cells #[Q5 1] 3 (0,0)),(2130,my)],4652,.bool true,[],4792⟩
theorem qu:QZ iL (iL.run YP Xo TL 100000)=true:=by decide+kernel
def TK:W9:=XO [je]
theorem dR(B:Lo):Wd YP B TK:=Xf QL Qi (QU _ _) qN (XZ _ _)
def iK:Memo:=
 ⟨93,#[Q5 196,.pointer (some ⟨2130,0,none⟩),.pointer (some ⟨2131,0,none⟩)],[(2104,Vk),(2131,.cells #[Q5 1] 3 (0,0)),(2130,my)],4792,.bool true,[],4932⟩
theorem qt:QZ iK (iK.run YP Xo TK 100000)=true:=by decide+kernel
end
end Go.Proofs.Ytncjjangllkokaa

namespace Go.Proofs.Ytncjjangllkokaa
open Go Go.CE Go.RowKit
noncomputable def ao:W9:=XO [jd,jc,jb,ja,iZ,iY,iX,iW,iV,iU,iT,iS,iR,iQ,iP,iO,iN,iM,iL,iK]
theorem e9(B:Lo):Wd YP B ao:=Xc QL Qi (ew _) qM (Xc QL Qi (eu _) qL (Xc QL Qi (ep _) qK (Xc QL Qi (eo _) qJ (Xc QL Qi (ek _) qI (Xc QL Qi (ej _) qH (Xc QL Qi (ei _) qG (Xc QL Qi (eg _) qF (Xc QL Qi (ef _) qE (Xc QL Qi (ee _) qD (Xc QL Qi (eb _) qC (Xc QL Qi (dZ _) qB (Xc QL Qi (dY _) qA (Xc QL Qi (dX _) qz (Xc QL Qi (dW _) qy (Xc QL Qi (dV _) qx (Xc QL Qi (dU _) qw (Xc QL Qi (dT _) qv (Xc QL Qi (dS _) qu (Xc QL Qi (dR _) qt (XZ _ _))))))))))))))))))))
def jF:Memo:=
 ⟨43,#[.agg #[.slice (some ⟨2104,0,none⟩) 2 12,Q5 200,Q5 2],.slice (some ⟨2105,0,none⟩) 2 1,Q5 1],[(2105,.cells #[Q5 1,Q5 1] 3 (0,0)),(2104,Vk)],2106,.tuple #[Q5 195,Q5 0],[],4932⟩
theorem r9:QZ jF (jF.run YP Xo ao 100000)=true:=by decide+kernel
end Go.Proofs.Ytncjjangllkokaa

namespace Go.Proofs.Ytncjjangllkokaa
open Go Go.CE Go.RowKit
noncomputable def Bl:W9:=XO [uk,n8,n7,n6,jF]
theorem yU(B:Lo):Wd YP B Bl:=Xc QL Qi (QU _ _) yY (Xc QL Qi (QU _ _) um (Xc QL Qi (il _) uj (Xc QL Qi (ik _) ui (Xc QL Qi (e9 _) r9 (XZ _ _)))))
theorem zk:vC (kg YP Xo Bl 100000 16 #[] (Y8 0 []) ([]:List (Array Value×TypeId)).length) (.bool true) []=true:=by decide+kernel
theorem uz(w:World):Calls YP 16 #[] w fun e w'=>e=.returned (.bool true)/\Below w.heap.size w w':=by
 have hc:=zx QL Qi (at':=[]) (args':=#[]) zk (w:=w) (I:=fun _=>True) (hI:=fun _ _ _ _=>trivial) (yU _) trivial rfl (fun i x a h=>by simp at h) ⟨rfl,fun i v v' h=>by simp at h⟩;intro cs;obtain⟨e,w',fr,⟨v',n',H',μ',he,hp,hv,hb,hun,hbel⟩,h1,h2,h3⟩:=hc cs;exact⟨e,w',fr,⟨by rw[he,J1 rfl hv],hbel⟩,h1,h2,h3⟩
theorem known:Qz YP J0 16 #[] (.bool true):=fun fm w args' _ _ ha=>by
 have e:args'=#[]:=by exact LF ha.1.symm
 subst e;exact(uz w).mono fun _ _ h=>⟨_,h.1,h.2,.simple rfl⟩
end Go.Proofs.Ytncjjangllkokaa

namespace Go.Proofs.Ytncjjangllkokaa
open Go Go.CE Go.RowKit
set_option maxRecDepth 100000
theorem Qh{rf:Qk}{Qa:List Int}(hr:Wx rf=true)(hp:Qm rf Qa=true):∀j:Nat,0<=Qa.getD j La/\Qa.getD j La<=1000000:=fun j=>by
 have h:=P0 hr hp j;show 0<=Qa.getD j 0/\Qa.getD j 0<=1000000;omega
end Go.Proofs.Ytncjjangllkokaa

namespace Go.Proofs.Ytncjjangllkokaa
open Go Go.CE Go.RowKit
def mI:Sh:=FM [.int,.int]
def vl:Sh:=FM [.int,.int,mI,.int,.int,mI,mI,.int,.int]
def fV:Sh:=FM [.slice vl,.int,.int]
theorem jX{cs:List Value}(h:mI.ok cs):∃s:Span,cs=QN s:=by
 obtain⟨_,_,rfl,⟨a,_,rfl⟩,_,_,rfl,⟨b,_,rfl⟩,rfl⟩:=h;exact⟨⟨a,b⟩,rfl⟩
theorem zu{cs:List Value}(h:vl.ok cs):∃s:Qe,cs=Qf s:=by
 obtain⟨_,_,rfl,⟨a,_,rfl⟩,_,_,rfl,⟨b,_,rfl⟩,_,_,rfl,h3,_,_,rfl,⟨d,_,rfl⟩,_,_,rfl,⟨e,_,rfl⟩,_,_,rfl,h6,_,_,rfl,h7,_,_,rfl,⟨g,_,rfl⟩,_,_,rfl,⟨w,_,rfl⟩,rfl⟩:=h;obtain⟨x,rfl⟩:=jX h3;obtain⟨y,rfl⟩:=jX h6;obtain⟨z,rfl⟩:=jX h7;exact⟨⟨a,b,x.lo,x.hi,d,e,y.lo,y.hi,z.lo,z.hi,g,w⟩,rfl⟩
theorem Ck{v:Value}(h:fV.arg v):∃r:Qk,v=.agg (QM r).toArray:=by
 obtain⟨cs,rfl,h⟩:=h;obtain⟨_,_,rfl,h1,_,_,rfl,⟨m,_,rfl⟩,_,_,rfl,⟨n,_,rfl⟩,rfl⟩:=h;obtain⟨xs,rfl⟩:=oI (fun _=>zu) h1;exact⟨⟨xs,m,n⟩,rfl⟩
theorem BP{cs:List Value}(h:Sh.ok (.slice .int) cs):∃xs:List Int,cs=FL xs:=oI (fun _=>Ec) h
theorem Cl{v:Value}(h:Sh.arg (.slice .int) v):∃xs:List Int,v=Zu xs:=by
 obtain⟨xs,hx⟩:=BP (show Sh.ok (.slice .int) [v]from h);exact⟨xs,by simpa using hx⟩
theorem aC{v:Value}(h:Sh.arg .int v):∃z:Int,v=.int .i64 z:=by
 obtain⟨z,_,h⟩:=h;exact⟨z,by simpa using h⟩
end Go.Proofs.Ytncjjangllkokaa

namespace Go.Proofs.Ytncjjangllkokaa
open Go Go.CE Go.RowKit
noncomputable section
set_option maxRecDepth 100000
def Yi(s:Span):Int:=s.lo
def Yk(s:Span):Int:=s.hi
def Ph(rf:Qk):List Int:=(rf.Qb.map (Xw rf.miss)).map Yi
def J9(rf:Qk):List Int:=(rf.Qb.map (Xw rf.miss)).map Yk
def Ux(rf:Qk):List Int:=(rf.Qb.map XB).map Yi
def Uy(rf:Qk):List Int:=(rf.Qb.map XB).map Yk
def VV(rf:Qk)(p:Int):List Int:=(X6 rf.Qb p).map Yi
def VW(rf:Qk)(p:Int):List Int:=(X6 rf.Qb p).map Yk
theorem Z2{α:Type}[Inhabited α]{l:List α}{f:α->Span}{g:Span->Int}{k:Int}(h0:0<=k)(h:k<l.length):nth ((l.map f).map g) k=g (f (l.getD k.toNat La)):=by
 obtain⟨m,rfl⟩:∃m:Nat,k=m:=⟨k.toNat,by omega⟩
 have hm:m<l.length:=by omega
 show((l.map f).map g).getD ((m:Int).toNat) La=_;simp[Ll,hm]
theorem So{rf:Qk}(hr:Wx rf=true):VF rf.Qb.length (Ux rf) 2000/\VF rf.Qb.length (Uy rf) 2000:=by
 refine⟨⟨by simp[Ux],fun k h0 h1=> ?_⟩,⟨by simp[Uy],fun k h0 h1=> ?_⟩⟩
 ·have hp:=WT ((X5 hr).2 k h0 h1).1;unfold Ux;rw[Z2 h0 h1];simp only[XB,Yi];omega
 ·have hp:=WT ((X5 hr).2 k h0 h1).1;unfold Uy;rw[Z2 h0 h1];simp only[XB,Yk];omega
theorem Wv{l:List Span}{g:Span->Int}{k:Int}(h0:0<=k)(h:k<l.length):nth (l.map g) k=g (l.getD k.toNat La):=by
 obtain⟨m,rfl⟩:∃m:Nat,k=m:=⟨k.toNat,by omega⟩
 have hm:m<l.length:=by omega
 show(l.map g).getD ((m:Int).toNat) La=_;simp[Ll,hm]
theorem RH{rf:Qk}(hr:Wx rf=true)(p:Int):VF rf.Qb.length (VV rf p) 1000000/\VF rf.Qb.length (VW rf p) 1000000:=by
 refine⟨⟨by simp[VV,Zx],fun k h0 h1=> ?_⟩,⟨by simp[VW,Zx],fun k h0 h1=> ?_⟩⟩
 ·have hp:=ly hr (p:=p) h0 h1;unfold VV;rw[Wv h0 (by rw[Zx];exact h1),WK h0 h1];simp only[Yi];omega
 ·have hp:=ly hr (p:=p) h0 h1;unfold VW;rw[Wv h0 (by rw[Zx];exact h1),WK h0 h1];simp only[Yk];omega
def Jb(xs:List Span)(i:Int)(ys:List Int):List Value:=[Value.func (Fn.func 76) #[] #[],.slice (some {block:=2,off:=0}) xs.length 1,QF 1 (Xq xs.length (Qj QN xs)),.int .i64 (↑xs.length:Int),.int .i64 i]
def Um(xs:List Span)(i:Int)(ys:List Int):List Obj:=[.cells (Qj Xl ys) 3 (0,0)]
def Jc:List Item:=([.code [1,1,0,1,0,0],.inLoop [1,1,0,1,0,0],.inBlock 0,.code [1,1,1]]).map (it (Xt YP 97))
def yC(B:Lo)(c0:CF)(xs:List Span)(i:Int)(ys:List Int):Prop:=∃dJ:Nat->Value,(∀t,Zf (dJ t))/\GoE YP B c0 ZH 1 (QJ 97 26 (([1,5,11,12,13]:List Nat).zip (Jb xs i ys)) dJ Jc) (QI (Um xs i ys)) (2+(Um xs i ys).length) []
def Ja(xs:List Span)(i:Int):=(Span.lo (xs.getD i.toNat La))
def cm(xs:List Span)(i:Int):Array Value:=#[.int .i64 (Ja xs i),.int .i64 (Span.hi (xs.getD i.toNat La))]
def Sd(xs:List Span)(i:Int)(ys:List Int):Array Value:=(Qj Xl (Lw ys i.toNat (Ja xs i)))
def lV(xs:List Span):Array Value:=(Qj (VD [.int .i64 0]) (Li xs.length ()))
theorem yA(B:Lo)(xs:List Span)(i:Int)(ys:List Int)(Qr:Nat->Value):landM (Q2 YP (QB YP) J0 B 13 1 (QJ 97 26 (([1,5,11,12,13]:List Nat).zip (Jb xs i ys)) Qr Jc) (QI (Um xs i ys)) (2+(Um xs i ys).length)
 [(0,V4),(2,Qu.tidx i.toNat (cm xs i)),(11,Qu.pure (.int .i64 (Ja xs i)) []),(12,Qu.WE (Hint.idx i.toNat)),(13,Qu.WE (Hint.st (Sd xs i ys))),(14,UW (i+1))] 0 [] []) [1,5,11,12,13] [(2,KS.cells [] (Sd xs i ys))] []=some ⟨97,26,Jc,[],.run,none,Jb xs (i+1) (Lw ys i.toNat (Ja xs i)),Um xs (i+1) (Lw ys i.toNat (Ja xs i)),
 [ZG 1 [] (Sd xs i ys) (Sd xs i ys),wq (i+1)=i+1,0+Lb i*1+TypeInfo.size Try.t3<=LR (Qj Xl ys)/\splice (Qj Xl ys) (0+Lb i*1) (Value.cells (Zc {len:=16000,tr:=Tri.set 14 (Tri.set 14 Tri.lf 22 (.int .i64 (Span.lo (xs.getD i.toNat La)))) 23 (.pointer (some {block:=2,off:=0+Lb i*1}))} 22))=Qj Xl (Lw ys i.toNat (Span.lo (xs.getD i.toNat La))),i=(↑i.toNat:Int)/\Lb i<Lc xs,Q3 []/\Qz YP J0 76 #[.agg (cm xs i)] (.int .i64 (Span.lo (xs.getD i.toNat La))),Vj i xs.length (Qj QN xs) Try.t38.size (cm xs i),Z7 i (↑xs.length:Int)=true]⟩:=by kernel_rfl
theorem y9(B:Lo)(xs:List Span)(i:Int)(ys:List Int)(Qr:Nat->Value):QS (Q2 YP (QB YP) J0 B 9 1 (QJ 97 26 (([1,5,11,12,13]:List Nat).zip (Jb xs i ys)) Qr Jc) (QI (Um xs i ys)) (2+(Um xs i ys).length)
 [(0,V5)] 0 [] []) [{k:=2,rs:=[],cs:=Qj Xl ys}]=some (Xq xs.length (Fz.cs {k:=2,rs:=[],cs:=Qj Xl ys}),
 [QC (Fz.rs {k:=2,rs:=[],cs:=Qj Xl ys}) (Qj Xl ys) (Fz.cs {k:=2,rs:=[],cs:=Qj Xl ys}),Z7 i (↑xs.length:Int)=false]):=by kernel_rfl
theorem y8(B:Lo)(xs:List Span):landM (Q2 YP (QB YP) J0 B 9 1 (Q9 YP 97 26 (([Y3 xs,.func (.func 76) #[] #[]]).map (QG 0 4))) ZH 1
 [(3,Qu.WE (Hint.mk xs.length (lV xs)))] 0 [] []) [1,5,11,12,13] [(1,KS.rows [] [] [] (Qj Xl (Li xs.length 0)))] []=some ⟨97,26,Jc,[],.run,none,Jb xs (0) (Li xs.length 0),Um xs (0) (Li xs.length 0),
 [ZO 1 [] [] [] (lV xs) (Qj Xl (Li xs.length 0)),Jx YP 25 (Zc {len:=16000,tr:=Tri.set 14 Tri.lf 9 (.int .i64 (↑xs.length:Int))} 9) (Zc {len:=16000,tr:=Tri.set 14 Tri.lf 9 (.int .i64 (↑xs.length:Int))} 9)=some (3,Qj (VD [.int .i64 0]) (Li xs.length ()),Lc xs,TypeInfo.size Try.t3)]⟩:=by kernel_rfl
set_option maxHeartbeats 4000000 in
theorem yB(xs:List Span)(hn:xs.length<=1000000){B:Lo}(hJ:∀w,B.has w->J0 w){c0:CF}:∀m:Nat,(∀(i:Int) (ys:List Int),(xs.length-i.toNat)=m->∀(h0:0<=i) (hy:ys=Yx Yi 0 xs i),yC B c0 xs i ys->EndsT YP B c0 (Zu (xs.map Yi))):=by
 intro m0;induction m0 using LK with
 |_ m0 ih0=>
  intro i ys hm0 h0 hy ⟨Qr,Jn,X7⟩;have hyl:ys.length=xs.length:=by rw[hy];exact Js
  by_cases q0:(i:Int)<((↑xs.length:Int))
  ·exact((ih0 _ (by omega)) (i+1) (Lw ys i.toNat (Span.lo (xs.getD i.toNat La))) rfl (by omega) (by(subst hy;exact Jr (f:=Yi) h0 q0))
    (X7.landM okF hJ Qi (yA B xs i ys Qr)
    ⟨(Xk (Xr (fun x=>List.all_eq_true.1 (by rfl)))),⟨(XX (by omega) (by omega)),⟨(by exact KM (z:=1) (k:=Lb i) (fun _=>rfl) (by first|omega|(rw[Lf];omega)|(rw[Lh];omega)) rfl rfl),⟨⟨by omega,by omega⟩,⟨⟨trivial,FP (Span.lo (xs.getD i.toNat La)) (Span.hi (xs.getD i.toNat La))⟩,⟨⟨by omega,by omega,(QW (z:=2) (fun _=>rfl) (by omega))⟩,⟨(Z3 q0),trivial⟩⟩⟩⟩⟩⟩⟩ (by kernel_rfl) (by kernel_rfl))).cast (by rfl)
  ·exact(GoE.endsT okF hJ Qi X7 (y9 B xs i ys Qr)
    ⟨(Qv (fun x=>List.all_eq_true.1 (by rfl))),⟨(Z4 (Int.not_lt.1 q0)),trivial⟩⟩).cast (by exact Tx (hy.trans (Jt (by omega))) (by simp))
set_option maxHeartbeats 4000000 in
theorem Bf(xs:List Span)(hn:xs.length<=1000000){B:Lo}(hJ:∀w,B.has w->J0 w):EndsT YP B (Q9 YP 97 26 (([Y3 xs,.func (.func 76) #[] #[]]).map (QG 0 4))) (Zu (xs.map Yi)):=by
 exact((yB xs hn hJ _) (0) (Li xs.length 0) rfl (by omega) (by exact a9)
  (GoE.start.landM okF hJ Qi (y8 B xs)
  ⟨(by exact(V0 (by exact⟨(.simple rfl),trivial⟩) _)),⟨(cE (bytes:=8) (by kernel_rfl) (by omega) (by omega) (by omega)),trivial⟩⟩ (by kernel_rfl) (by kernel_rfl))).cast (by rfl)
theorem tM(xs:List Span)(hn:xs.length<=1000000):Qz YP J0 97 #[Y3 xs,.func (.func 76) #[] #[]] (Zu (xs.map Yi)):=
 X8 (ts:=[Y3 xs,.func (.func 76) #[] #[]]) ZC (c0:=Q9 YP 97 26 (([Y3 xs,.func (.func 76) #[] #[]]).map (QG 0 4))) (by kernel_rfl) (by kernel_rfl) fun B hJ=>Bf xs hn hJ
def Je(xs:List Span)(i:Int)(ys:List Int):List Value:=[Value.func (Fn.func 77) #[] #[],.slice (some {block:=2,off:=0}) xs.length 1,QF 1 (Xq xs.length (Qj QN xs)),.int .i64 (↑xs.length:Int),.int .i64 i]
def Un(xs:List Span)(i:Int)(ys:List Int):List Obj:=[.cells (Qj Xl ys) 3 (0,0)]
def Jf:List Item:=([.code [1,1,0,1,0,0],.inLoop [1,1,0,1,0,0],.inBlock 0,.code [1,1,1]]).map (it (Xt YP 97))
def yH(B:Lo)(c0:CF)(xs:List Span)(i:Int)(ys:List Int):Prop:=∃dJ:Nat->Value,(∀t,Zf (dJ t))/\GoE YP B c0 ZH 1 (QJ 97 26 (([1,5,11,12,13]:List Nat).zip (Je xs i ys)) dJ Jf) (QI (Un xs i ys)) (2+(Un xs i ys).length) []
def Jd(xs:List Span)(i:Int):=(Span.hi (xs.getD i.toNat La))
def cn(xs:List Span)(i:Int):Array Value:=#[.int .i64 (Span.lo (xs.getD i.toNat La)),.int .i64 (Jd xs i)]
def Se(xs:List Span)(i:Int)(ys:List Int):Array Value:=(Qj Xl (Lw ys i.toNat (Jd xs i)))
def lW(xs:List Span):Array Value:=(Qj (VD [.int .i64 0]) (Li xs.length ()))
theorem yF(B:Lo)(xs:List Span)(i:Int)(ys:List Int)(Qr:Nat->Value):landM (Q2 YP (QB YP) J0 B 13 1 (QJ 97 26 (([1,5,11,12,13]:List Nat).zip (Je xs i ys)) Qr Jf) (QI (Un xs i ys)) (2+(Un xs i ys).length)
 [(0,V4),(2,Qu.tidx i.toNat (cn xs i)),(11,Qu.pure (.int .i64 (Jd xs i)) []),(12,Qu.WE (Hint.idx i.toNat)),(13,Qu.WE (Hint.st (Se xs i ys))),(14,UW (i+1))] 0 [] []) [1,5,11,12,13] [(2,KS.cells [] (Se xs i ys))] []=some ⟨97,26,Jf,[],.run,none,Je xs (i+1) (Lw ys i.toNat (Jd xs i)),Un xs (i+1) (Lw ys i.toNat (Jd xs i)),
 [ZG 1 [] (Se xs i ys) (Se xs i ys),wq (i+1)=i+1,0+Lb i*1+TypeInfo.size Try.t3<=LR (Qj Xl ys)/\splice (Qj Xl ys) (0+Lb i*1) (Value.cells (Zc {len:=16000,tr:=Tri.set 14 (Tri.set 14 Tri.lf 22 (.int .i64 (Span.hi (xs.getD i.toNat La)))) 23 (.pointer (some {block:=2,off:=0+Lb i*1}))} 22))=Qj Xl (Lw ys i.toNat (Span.hi (xs.getD i.toNat La))),i=(↑i.toNat:Int)/\Lb i<Lc xs,Q3 []/\Qz YP J0 77 #[.agg (cn xs i)] (.int .i64 (Span.hi (xs.getD i.toNat La))),Vj i xs.length (Qj QN xs) Try.t38.size (cn xs i),Z7 i (↑xs.length:Int)=true]⟩:=by kernel_rfl
theorem yE(B:Lo)(xs:List Span)(i:Int)(ys:List Int)(Qr:Nat->Value):QS (Q2 YP (QB YP) J0 B 9 1 (QJ 97 26 (([1,5,11,12,13]:List Nat).zip (Je xs i ys)) Qr Jf) (QI (Un xs i ys)) (2+(Un xs i ys).length)
 [(0,V5)] 0 [] []) [{k:=2,rs:=[],cs:=Qj Xl ys}]=some (Xq xs.length (Fz.cs {k:=2,rs:=[],cs:=Qj Xl ys}),
 [QC (Fz.rs {k:=2,rs:=[],cs:=Qj Xl ys}) (Qj Xl ys) (Fz.cs {k:=2,rs:=[],cs:=Qj Xl ys}),Z7 i (↑xs.length:Int)=false]):=by kernel_rfl
theorem yD(B:Lo)(xs:List Span):landM (Q2 YP (QB YP) J0 B 9 1 (Q9 YP 97 26 (([Y3 xs,.func (.func 77) #[] #[]]).map (QG 0 4))) ZH 1
 [(3,Qu.WE (Hint.mk xs.length (lW xs)))] 0 [] []) [1,5,11,12,13] [(1,KS.rows [] [] [] (Qj Xl (Li xs.length 0)))] []=some ⟨97,26,Jf,[],.run,none,Je xs (0) (Li xs.length 0),Un xs (0) (Li xs.length 0),
 [ZO 1 [] [] [] (lW xs) (Qj Xl (Li xs.length 0)),Jx YP 25 (Zc {len:=16000,tr:=Tri.set 14 Tri.lf 9 (.int .i64 (↑xs.length:Int))} 9) (Zc {len:=16000,tr:=Tri.set 14 Tri.lf 9 (.int .i64 (↑xs.length:Int))} 9)=some (3,Qj (VD [.int .i64 0]) (Li xs.length ()),Lc xs,TypeInfo.size Try.t3)]⟩:=by kernel_rfl
set_option maxHeartbeats 4000000 in
theorem yG(xs:List Span)(hn:xs.length<=1000000){B:Lo}(hJ:∀w,B.has w->J0 w){c0:CF}:∀m:Nat,(∀(i:Int) (ys:List Int),(xs.length-i.toNat)=m->∀(h0:0<=i) (hy:ys=Yx Yk 0 xs i),yH B c0 xs i ys->EndsT YP B c0 (Zu (xs.map Yk))):=by
 intro m0;induction m0 using LK with
 |_ m0 ih0=>
  intro i ys hm0 h0 hy ⟨Qr,Jn,X7⟩;have hyl:ys.length=xs.length:=by rw[hy];exact Js
  by_cases q0:(i:Int)<((↑xs.length:Int))
  ·exact((ih0 _ (by omega)) (i+1) (Lw ys i.toNat (Span.hi (xs.getD i.toNat La))) rfl (by omega) (by(subst hy;exact Jr (f:=Yk) h0 q0))
    (X7.landM okF hJ Qi (yF B xs i ys Qr)
    ⟨(Xk (Xr (fun x=>List.all_eq_true.1 (by rfl)))),⟨(XX (by omega) (by omega)),⟨(by exact KM (z:=1) (k:=Lb i) (fun _=>rfl) (by first|omega|(rw[Lf];omega)|(rw[Lh];omega)) rfl rfl),⟨⟨by omega,by omega⟩,⟨⟨trivial,Fp (Span.lo (xs.getD i.toNat La)) (Span.hi (xs.getD i.toNat La))⟩,⟨⟨by omega,by omega,(QW (z:=2) (fun _=>rfl) (by omega))⟩,⟨(Z3 q0),trivial⟩⟩⟩⟩⟩⟩⟩ (by kernel_rfl) (by kernel_rfl))).cast (by rfl)
  ·exact(GoE.endsT okF hJ Qi X7 (yE B xs i ys Qr)
    ⟨(Qv (fun x=>List.all_eq_true.1 (by rfl))),⟨(Z4 (Int.not_lt.1 q0)),trivial⟩⟩).cast (by exact Tx (hy.trans (Jt (by omega))) (by simp))
set_option maxHeartbeats 4000000 in
theorem Bg(xs:List Span)(hn:xs.length<=1000000){B:Lo}(hJ:∀w,B.has w->J0 w):EndsT YP B (Q9 YP 97 26 (([Y3 xs,.func (.func 77) #[] #[]]).map (QG 0 4))) (Zu (xs.map Yk)):=by
 exact((yG xs hn hJ _) (0) (Li xs.length 0) rfl (by omega) (by exact a9)
  (GoE.start.landM okF hJ Qi (yD B xs)
  ⟨(by exact(V0 (by exact⟨(.simple rfl),trivial⟩) _)),⟨(cE (bytes:=8) (by kernel_rfl) (by omega) (by omega) (by omega)),trivial⟩⟩ (by kernel_rfl) (by kernel_rfl))).cast (by rfl)
theorem tN(xs:List Span)(hn:xs.length<=1000000):Qz YP J0 97 #[Y3 xs,.func (.func 77) #[] #[]] (Zu (xs.map Yk)):=
 X8 (ts:=[Y3 xs,.func (.func 77) #[] #[]]) ZC (c0:=Q9 YP 97 26 (([Y3 xs,.func (.func 77) #[] #[]]).map (QG 0 4))) (by kernel_rfl) (by kernel_rfl) fun B hJ=>Bg xs hn hJ
def Vt(rf:Qk):=(List.map (Xw rf.miss) rf.Qb)
def SK(rf:Qk):Array Value:=#[.int .i64 (Ld (List.map Yi (Vt rf)) 0 La),.int .i64 (Ld (List.map Yi (Vt rf)) 1 La),.int .i64 (Ld (List.map Yi (Vt rf)) 2 La),.int .i64 (Ld (List.map Yi (Vt rf)) 3 La)]
def UI(rf:Qk):Array Value:=(Qj Xl (List.map Yi (Vt rf)))
def hO  :Array Value:=#[.int .i64 0,.int .i64 0,.int .i64 0,.int .i64 0]
theorem tA(B:Lo)(rf:Qk)(Qa:List Int):QS (Q2 YP (QB YP) J0 B 10 1 (Q9 YP 75 13 (([.agg (QY rf Qa).toArray,.func (.func 76) #[] #[]]).map (QG 0 4))) ZH 1
 [(5,Qu.pure (Xq (Lc (Vt rf)) (Qj QN (Vt rf))) []),(7,Qu.pure (Xq (Lc (List.map Yi (Vt rf))) (UI rf)) []),(8,Qu.tcpy (SK rf))] 0 [] []) []=some (.agg (SK rf),
 [0<Lc (List.map Yi (List.map (Xw rf.miss) rf.Qb))/\0+LJ (Lc (List.map Yi (List.map (Xw rf.miss) rf.Qb))) 4*TypeInfo.size Try.t3<=LR hO/\LJ (Lc (List.map Yi (List.map (Xw rf.miss) rf.Qb))) 4*TypeInfo.size Try.t3<=LR (UI rf)/\(Array.all (UI rf) fun v=>simple v || ZX v)=true/\ones (Array.map (Zl 5) (Array.extract (UI rf) 0 (LJ (Lc (List.map Yi (List.map (Xw rf.miss) rf.Qb))) 4*TypeInfo.size Try.t3)))=true/\splice hO 0 (Array.map (Zl 5) (Array.extract (UI rf) 0 (LJ (Lc (List.map Yi (List.map (Xw rf.miss) rf.Qb))) 4*TypeInfo.size Try.t3)))=(SK rf),Q3 []/\Qz YP J0 97 #[Xq (Lc (List.map (Xw rf.miss) rf.Qb)) (Qj QN (List.map (Xw rf.miss) rf.Qb)),Value.func (Fn.func 76) #[] #[]] (Xq (Lc (List.map Yi (List.map (Xw rf.miss) rf.Qb))) (UI rf)),Q3 []/\Qz YP J0 82 #[.agg #[Xq rf.Qb.length (Qj Qf rf.Qb),.int .i64 rf.miss,.int .i64 rf.seasons,.int .i64 (Qa.getD 0 0),.int .i64 (Qa.getD 1 0),.int .i64 (Qa.getD 2 0),.int .i64 (Qa.getD 3 0)]] (Xq (Lc (List.map (Xw rf.miss) rf.Qb)) (Qj QN (List.map (Xw rf.miss) rf.Qb)))]):=by kernel_rfl
set_option maxHeartbeats 4000000 in
theorem yy(rf:Qk)(Qa:List Int)(hr:Wx rf=true){B:Lo}(hJ:∀w,B.has w->J0 w):EndsT YP B (Q9 YP 75 13 (([.agg (QY rf Qa).toArray,.func (.func 76) #[] #[]]).map (QG 0 4))) (.agg #[.int .i64 ((Ph rf).getD 0 La),.int .i64 ((Ph rf).getD 1 La),.int .i64 ((Ph rf).getD 2 La),.int .i64 ((Ph rf).getD 3 La)]):=by
 have Xy:=Qn (X5 hr).1;have hle1:((rf.Qb.map (Xw rf.miss)).map Yi).length=rf.Qb.length:=by simp
 have hle2:((rf.Qb.map (Xw rf.miss)).map Yk).length=rf.Qb.length:=by simp
 have hle3:(rf.Qb.map (Xw rf.miss)).length=rf.Qb.length:=by simp
 have hcc:∀k:Int,0<=k->k<rf.Qb.length->0<=(rf.Qb.getD k.toNat La).count/\(rf.Qb.getD k.toNat La).count<=1000000:=fun k h0 h1=>(WT ((X5 hr).2 k h0 h1).1).1
 exact(GoE.endsT okF hJ Qi GoE.start (tA B rf Qa)
  ⟨(jY (fun _=>rfl) rfl (by omega) (by omega) rfl (YL rfl) rfl),⟨⟨trivial,tM (List.map (Xw rf.miss) rf.Qb) (by omega)⟩,⟨⟨trivial,vw (rf) (Qa) (by omega) (by omega) (by with_reducible assumption)⟩,trivial⟩⟩⟩).cast (by rfl)
theorem CT(rf:Qk)(Qa:List Int)(hr:Wx rf=true):Qz YP J0 75 #[.agg (QY rf Qa).toArray,.func (.func 76) #[] #[]] (.agg #[.int .i64 ((Ph rf).getD 0 La),.int .i64 ((Ph rf).getD 1 La),.int .i64 ((Ph rf).getD 2 La),.int .i64 ((Ph rf).getD 3 La)]):=
 X8 (ts:=[.agg (QY rf Qa).toArray,.func (.func 76) #[] #[]]) ZC (c0:=Q9 YP 75 13 (([.agg (QY rf Qa).toArray,.func (.func 76) #[] #[]]).map (QG 0 4))) (by kernel_rfl) (by kernel_rfl) fun B hJ=>yy rf Qa hr hJ
def Vu(rf:Qk):=(List.map (Xw rf.miss) rf.Qb)
def SL(rf:Qk):Array Value:=#[.int .i64 (Ld (List.map Yk (Vu rf)) 0 La),.int .i64 (Ld (List.map Yk (Vu rf)) 1 La),.int .i64 (Ld (List.map Yk (Vu rf)) 2 La),.int .i64 (Ld (List.map Yk (Vu rf)) 3 La)]
def UJ(rf:Qk):Array Value:=(Qj Xl (List.map Yk (Vu rf)))
def hP  :Array Value:=#[.int .i64 0,.int .i64 0,.int .i64 0,.int .i64 0]
theorem tB(B:Lo)(rf:Qk)(Qa:List Int):QS (Q2 YP (QB YP) J0 B 10 1 (Q9 YP 75 13 (([.agg (QY rf Qa).toArray,.func (.func 77) #[] #[]]).map (QG 0 4))) ZH 1
 [(5,Qu.pure (Xq (Lc (Vu rf)) (Qj QN (Vu rf))) []),(7,Qu.pure (Xq (Lc (List.map Yk (Vu rf))) (UJ rf)) []),(8,Qu.tcpy (SL rf))] 0 [] []) []=some (.agg (SL rf),
 [0<Lc (List.map Yk (List.map (Xw rf.miss) rf.Qb))/\0+LJ (Lc (List.map Yk (List.map (Xw rf.miss) rf.Qb))) 4*TypeInfo.size Try.t3<=LR hP/\LJ (Lc (List.map Yk (List.map (Xw rf.miss) rf.Qb))) 4*TypeInfo.size Try.t3<=LR (UJ rf)/\(Array.all (UJ rf) fun v=>simple v || ZX v)=true/\ones (Array.map (Zl 5) (Array.extract (UJ rf) 0 (LJ (Lc (List.map Yk (List.map (Xw rf.miss) rf.Qb))) 4*TypeInfo.size Try.t3)))=true/\splice hP 0 (Array.map (Zl 5) (Array.extract (UJ rf) 0 (LJ (Lc (List.map Yk (List.map (Xw rf.miss) rf.Qb))) 4*TypeInfo.size Try.t3)))=(SL rf),Q3 []/\Qz YP J0 97 #[Xq (Lc (List.map (Xw rf.miss) rf.Qb)) (Qj QN (List.map (Xw rf.miss) rf.Qb)),Value.func (Fn.func 77) #[] #[]] (Xq (Lc (List.map Yk (List.map (Xw rf.miss) rf.Qb))) (UJ rf)),Q3 []/\Qz YP J0 82 #[.agg #[Xq rf.Qb.length (Qj Qf rf.Qb),.int .i64 rf.miss,.int .i64 rf.seasons,.int .i64 (Qa.getD 0 0),.int .i64 (Qa.getD 1 0),.int .i64 (Qa.getD 2 0),.int .i64 (Qa.getD 3 0)]] (Xq (Lc (List.map (Xw rf.miss) rf.Qb)) (Qj QN (List.map (Xw rf.miss) rf.Qb)))]):=by kernel_rfl
set_option maxHeartbeats 4000000 in
theorem yz(rf:Qk)(Qa:List Int)(hr:Wx rf=true){B:Lo}(hJ:∀w,B.has w->J0 w):EndsT YP B (Q9 YP 75 13 (([.agg (QY rf Qa).toArray,.func (.func 77) #[] #[]]).map (QG 0 4))) (.agg #[.int .i64 ((J9 rf).getD 0 La),.int .i64 ((J9 rf).getD 1 La),.int .i64 ((J9 rf).getD 2 La),.int .i64 ((J9 rf).getD 3 La)]):=by
 have Xy:=Qn (X5 hr).1;have hle1:((rf.Qb.map (Xw rf.miss)).map Yi).length=rf.Qb.length:=by simp
 have hle2:((rf.Qb.map (Xw rf.miss)).map Yk).length=rf.Qb.length:=by simp
 have hle3:(rf.Qb.map (Xw rf.miss)).length=rf.Qb.length:=by simp
 have hcc:∀k:Int,0<=k->k<rf.Qb.length->0<=(rf.Qb.getD k.toNat La).count/\(rf.Qb.getD k.toNat La).count<=1000000:=fun k h0 h1=>(WT ((X5 hr).2 k h0 h1).1).1
 exact(GoE.endsT okF hJ Qi GoE.start (tB B rf Qa)
  ⟨(jY (fun _=>rfl) rfl (by omega) (by omega) rfl (YL rfl) rfl),⟨⟨trivial,tN (List.map (Xw rf.miss) rf.Qb) (by omega)⟩,⟨⟨trivial,vw (rf) (Qa) (by omega) (by omega) (by with_reducible assumption)⟩,trivial⟩⟩⟩).cast (by rfl)
theorem CU(rf:Qk)(Qa:List Int)(hr:Wx rf=true):Qz YP J0 75 #[.agg (QY rf Qa).toArray,.func (.func 77) #[] #[]] (.agg #[.int .i64 ((J9 rf).getD 0 La),.int .i64 ((J9 rf).getD 1 La),.int .i64 ((J9 rf).getD 2 La),.int .i64 ((J9 rf).getD 3 La)]):=
 X8 (ts:=[.agg (QY rf Qa).toArray,.func (.func 77) #[] #[]]) ZC (c0:=Q9 YP 75 13 (([.agg (QY rf Qa).toArray,.func (.func 77) #[] #[]]).map (QG 0 4))) (by kernel_rfl) (by kernel_rfl) fun B hJ=>yz rf Qa hr hJ
def KY(rf:Qk)(Qa:List Int)(fa fb fc fd k:Int):Q0:=[(3,Obj.cells #[.int .i64 0,.int .i64 0,.int .i64 0,.int .i64 0] 111),(2,Obj.cells #[.int .i64 fa,.int .i64 fb,.int .i64 fc,.int .i64 fd] 111),(1,Obj.cells #[QF 0 (Xq rf.Qb.length (Qj Qf rf.Qb)),.int .i64 rf.miss,.int .i64 rf.seasons,.int .i64 (Qa.getD 0 0),.int .i64 (Qa.getD 1 0),.int .i64 (Qa.getD 2 0),.int .i64 (Qa.getD 3 0)] 84),(0,Obj.coro none)]
def JO(rf:Qk)(Qa:List Int)(fa fb fc fd k:Int):CF:=⟨98,ofList 28 [.agg #[QF 0 (Xq rf.Qb.length (Qj Qf rf.Qb)),.int .i64 rf.miss,.int .i64 rf.seasons,.int .i64 (Qa.getD 0 0),.int .i64 (Qa.getD 1 0),.int .i64 (Qa.getD 2 0),.int .i64 (Qa.getD 3 0)],.agg #[.int .i64 fa,.int .i64 fb,.int .i64 fc,.int .i64 fd],.int .i64 k,Value.func (Fn.func 76) #[] #[],Value.func (Fn.func 77) #[] #[]],[Item.code (Xt YP 98)],[],.run,none⟩
def WV(rf:Qk)(Qa:List Int)(k:Int):=(List.map Yk (X6 rf.Qb (Qa.getD k.toNat 0)))
def WU(rf:Qk):=(List.map Yi (List.map XB rf.Qb))
def JN(rf:Qk)(Qa:List Int)(fa fb fc fd k:Int):Array Value:=#[.int .i64 (F4.a (QT (WU rf) (WV rf Qa k) rf.Qb {a:=fa,b:=fb,c:=fc,d:=fd})),.int .i64 (F4.b (QT (WU rf) (WV rf Qa k) rf.Qb {a:=fa,b:=fb,c:=fc,d:=fd})),.int .i64 (F4.c (QT (WU rf) (WV rf Qa k) rf.Qb {a:=fa,b:=fb,c:=fc,d:=fd})),.int .i64 (F4.d (QT (WU rf) (WV rf Qa k) rf.Qb {a:=fa,b:=fb,c:=fc,d:=fd}))]
def hY(rf:Qk)(Qa:List Int):Array Value:=#[Xq rf.Qb.length (Qj Qf rf.Qb),.int .i64 rf.miss,.int .i64 rf.seasons,.int .i64 (Qa.getD 0 0),.int .i64 (Qa.getD 1 0),.int .i64 (Qa.getD 2 0),.int .i64 (Qa.getD 3 0)]
def hU(rf:Qk)(Qa:List Int)(k:Int):Value:=(Xq (Lc (X6 rf.Qb (Qa.getD k.toNat 0))) (Qj QN (X6 rf.Qb (Qa.getD k.toNat 0))))
def hQ(rf:Qk):Value:=(Xq (Lc (List.map XB rf.Qb)) (Qj QN (List.map XB rf.Qb)))
theorem tE(B:Lo)(rf:Qk)(Qa:List Int)(fa fb fc fd k:Int):CE.finK 4 (Q2 YP (QB YP) J0 B 10 4 (JO rf Qa fa fb fc fd k) (KY rf Qa fa fb fc fd k) 4
 [(10,Qu.pure (hQ rf) []),(12,Qu.pure (Xq (Lc (WU rf)) (Qj Xl (WU rf))) []),(15,Qu.pure (hU rf Qa k) []),(17,Qu.pure (Xq (Lc (WV rf Qa k)) (Qj Xl (WV rf Qa k))) []),(18,Qu.wri [7] [9,11,0] [false] [] (eH rf.Qb rf.miss rf.seasons fa fb fc fd (.slice none 0 0) (.slice none 0 0) (WU rf) (WV rf Qa k) 0 0 0 0 0) (eG rf.Qb rf.miss rf.seasons fa fb fc fd (.slice none 0 0) (.slice none 0 0) (WU rf) (WV rf Qa k) 0 0 0 0 0) (eI rf.Qb rf.miss rf.seasons fa fb fc fd (.slice none 0 0) (.slice none 0 0) (WU rf) (WV rf Qa k) 0 0 0 0 0))] 0 [] []) [] [] []=some (OO.ret (.agg (JN rf Qa fa fb fc fd k)),[],[],
 [Q3 []/\vx rf.Qb rf.miss rf.seasons (fa) (fb) (fc) (fd) (.slice none 0 0) (.slice none 0 0) (List.map Yi (List.map XB rf.Qb)) (List.map Yk (X6 rf.Qb (Qa.getD k.toNat 0))) (0) (0) (0) (0) (0),Q3 []/\Qz YP J0 97 #[Xq (Lc (X6 rf.Qb (Qa.getD k.toNat 0))) (Qj QN (X6 rf.Qb (Qa.getD k.toNat 0))),Value.func (Fn.func 77) #[] #[]] (Xq (Lc (List.map Yk (X6 rf.Qb (Qa.getD k.toNat 0)))) (Qj Xl (List.map Yk (X6 rf.Qb (Qa.getD k.toNat 0))))),Q3 []/\Qz YP J0 84 #[.agg (hY rf Qa),.int .i64 k] (hU rf Qa k),Q3 []/\Qz YP J0 97 #[Xq (Lc (List.map XB rf.Qb)) (Qj QN (List.map XB rf.Qb)),Value.func (Fn.func 76) #[] #[]] (Xq (Lc (List.map Yi (List.map XB rf.Qb))) (Qj Xl (List.map Yi (List.map XB rf.Qb)))),Q3 []/\Qz YP J0 83 #[.agg (hY rf Qa)] (hQ rf)]):=by kernel_rfl
theorem tC(B:Lo)(rf:Qk)(Qa:List Int)(fa fb fc fd k:Int):QS (Q2 YP (QB YP) J0 B 6 1 (Q9 YP 78 11 (([.agg (QY rf Qa).toArray,.agg #[.int .i64 fa,.int .i64 fb,.int .i64 fc,.int .i64 fd],.int .i64 k]).map (QG 0 4))) ZH 1
 [(6,Qu.call (Lv 4) (OO.ret (.agg (JN rf Qa fa fb fc fd k))) ([]++(4,XM)::XJ 5 []) 5 [])] 0 [] []) []=some (.agg (JN rf Qa fa fb fc fd k),
 [FJ YP B (JO rf Qa fa fb fc fd k) (KY rf Qa fa fb fc fd k) 4 (OO.ret (.agg (JN rf Qa fa fb fc fd k))) (([]++((4,XM)::XJ (4+1) []))++KY rf Qa fa fb fc fd k) 5 (Lv 4) []]):=by kernel_rfl
set_option maxHeartbeats 4000000 in
theorem y0(rf:Qk)(Qa:List Int)(fa fb fc fd k:Int)(hr:Wx rf=true)(hl:Qa.length<=4)(hp:∀j:Nat,0<=Qa.getD j 0/\Qa.getD j 0<=1000000)(k0:0<=k)(k1:k<4)(hf:Yn ⟨fa,fb,fc,fd⟩)(hs:F4.sum ⟨fa,fb,fc,fd⟩<=10000000000){B:Lo}(hJ:∀w,B.has w->J0 w):EndsT YP B (Q9 YP 78 11 (([.agg (QY rf Qa).toArray,.agg #[.int .i64 fa,.int .i64 fb,.int .i64 fc,.int .i64 fd],.int .i64 k]).map (QG 0 4))) (.agg #[.int .i64 (QT (Ux rf) (VW rf (Qa.getD k.toNat 0)) rf.Qb ⟨fa,fb,fc,fd⟩).a,.int .i64 (QT (Ux rf) (VW rf (Qa.getD k.toNat 0)) rf.Qb ⟨fa,fb,fc,fd⟩).b,.int .i64 (QT (Ux rf) (VW rf (Qa.getD k.toNat 0)) rf.Qb ⟨fa,fb,fc,fd⟩).c,.int .i64 (QT (Ux rf) (VW rf (Qa.getD k.toNat 0)) rf.Qb ⟨fa,fb,fc,fd⟩).d]):=by
 have Xy:=Qn (X5 hr).1;have XN:=td hr;have hg1:VF rf.Qb.length ((rf.Qb.map XB).map Yi) 2000:=(So hr).1;have ht1:VF rf.Qb.length ((X6 rf.Qb (Qa.getD k.toNat 0)).map Yk) 1000000:=(RH hr (Qa.getD k.toNat 0)).2;have hle1:(X6 rf.Qb (Qa.getD k.toNat 0)).length=rf.Qb.length:=Zx;have hle2:(rf.Qb.map XB).length=rf.Qb.length:=by simp
 have rj0:FJ YP B (JO rf Qa fa fb fc fd k) (KY rf Qa fa fb fc fd k) 4 (OO.ret (.agg #[.int .i64 (F4.a (QT (List.map Yi (List.map XB rf.Qb)) (List.map Yk (X6 rf.Qb (Qa.getD k.toNat 0))) rf.Qb {a:=fa,b:=fb,c:=fc,d:=fd})),.int .i64 (F4.b (QT (List.map Yi (List.map XB rf.Qb)) (List.map Yk (X6 rf.Qb (Qa.getD k.toNat 0))) rf.Qb {a:=fa,b:=fb,c:=fc,d:=fd})),.int .i64 (F4.c (QT (List.map Yi (List.map XB rf.Qb)) (List.map Yk (X6 rf.Qb (Qa.getD k.toNat 0))) rf.Qb {a:=fa,b:=fb,c:=fc,d:=fd})),.int .i64 (F4.d (QT (List.map Yi (List.map XB rf.Qb)) (List.map Yk (X6 rf.Qb (Qa.getD k.toNat 0))) rf.Qb {a:=fa,b:=fb,c:=fc,d:=fd}))])) (([]++((4,XM)::XJ (4+1) []))++KY rf Qa fa fb fc fd k) 5 (Lv 4) []:=by
  exact FinK.fjB (GoE.finK okF hJ Qi (Xd (by kernel_rfl)) (QX (by kernel_rfl)) ((GoE.refl (P:=YP) (B:=B) (c0:=JO rf Qa fa fb fc fd k) (Xd (by kernel_rfl))).widen (Wf:=((([]):List (Nat×KS)).map (·.1))) (by simp) (QX (by kernel_rfl))) (tE B rf Qa fa fb fc fd k)
   ⟨⟨trivial,DJ rf.Qb rf.miss rf.seasons (fa) (fb) (fc) (fd) (.slice none 0 0) (.slice none 0 0) (List.map Yi (List.map XB rf.Qb)) (List.map Yk (X6 rf.Qb (Qa.getD k.toNat 0))) (0) (0) (0) (0) (0) (by with_reducible assumption) (by with_reducible assumption) (by with_reducible assumption) (by with_reducible assumption) (by with_reducible assumption) (by omega) (by omega) (by omega)⟩,⟨⟨trivial,tN (X6 rf.Qb (Qa.getD k.toNat 0)) (by omega)⟩,⟨⟨trivial,AK (rf) (Qa) (k) (by omega) (by with_reducible assumption) (by with_reducible assumption) (by with_reducible assumption) (by with_reducible assumption)⟩,⟨⟨trivial,tM (List.map XB rf.Qb) (by omega)⟩,⟨⟨trivial,AU (rf) (Qa) (by omega)⟩,trivial⟩⟩⟩⟩⟩) (ex:=[]) (by kernel_rfl) (PH _)
 exact(GoE.endsT okF hJ Qi GoE.start (tC B rf Qa fa fb fc fd k)
  ⟨rj0,trivial⟩).cast (by rfl)
theorem CV(rf:Qk)(Qa:List Int)(fa fb fc fd k:Int)(hr:Wx rf=true)(hl:Qa.length<=4)(hp:∀j:Nat,0<=Qa.getD j 0/\Qa.getD j 0<=1000000)(k0:0<=k)(k1:k<4)(hf:Yn ⟨fa,fb,fc,fd⟩)(hs:F4.sum ⟨fa,fb,fc,fd⟩<=10000000000):Qz YP J0 78 #[.agg (QY rf Qa).toArray,.agg #[.int .i64 fa,.int .i64 fb,.int .i64 fc,.int .i64 fd],.int .i64 k] (.agg #[.int .i64 (QT (Ux rf) (VW rf (Qa.getD k.toNat 0)) rf.Qb ⟨fa,fb,fc,fd⟩).a,.int .i64 (QT (Ux rf) (VW rf (Qa.getD k.toNat 0)) rf.Qb ⟨fa,fb,fc,fd⟩).b,.int .i64 (QT (Ux rf) (VW rf (Qa.getD k.toNat 0)) rf.Qb ⟨fa,fb,fc,fd⟩).c,.int .i64 (QT (Ux rf) (VW rf (Qa.getD k.toNat 0)) rf.Qb ⟨fa,fb,fc,fd⟩).d]):=
 X8 (ts:=[.agg (QY rf Qa).toArray,.agg #[.int .i64 fa,.int .i64 fb,.int .i64 fc,.int .i64 fd],.int .i64 k]) ZC (c0:=Q9 YP 78 11 (([.agg (QY rf Qa).toArray,.agg #[.int .i64 fa,.int .i64 fb,.int .i64 fc,.int .i64 fd],.int .i64 k]).map (QG 0 4))) (by kernel_rfl) (by kernel_rfl) fun B hJ=>y0 rf Qa fa fb fc fd k hr hl hp k0 k1 hf hs hJ
def Pz(rf:Qk)(Qa:List Int)(fa fb fc fd k:Int):Q0:=[(3,Obj.cells #[.int .i64 0,.int .i64 0,.int .i64 0,.int .i64 0] 111),(2,Obj.cells #[.int .i64 fa,.int .i64 fb,.int .i64 fc,.int .i64 fd] 111),(1,Obj.cells #[QF 0 (Xq rf.Qb.length (Qj Qf rf.Qb)),.int .i64 rf.miss,.int .i64 rf.seasons,.int .i64 (Qa.getD 0 0),.int .i64 (Qa.getD 1 0),.int .i64 (Qa.getD 2 0),.int .i64 (Qa.getD 3 0)] 84),(0,Obj.coro none)]
def TD(rf:Qk)(Qa:List Int)(fa fb fc fd k:Int):CF:=⟨98,ofList 28 [.agg #[QF 0 (Xq rf.Qb.length (Qj Qf rf.Qb)),.int .i64 rf.miss,.int .i64 rf.seasons,.int .i64 (Qa.getD 0 0),.int .i64 (Qa.getD 1 0),.int .i64 (Qa.getD 2 0),.int .i64 (Qa.getD 3 0)],.agg #[.int .i64 fa,.int .i64 fb,.int .i64 fc,.int .i64 fd],.int .i64 k,Value.func (Fn.func 77) #[] #[],Value.func (Fn.func 76) #[] #[]],[Item.code (Xt YP 98)],[],.run,none⟩
def U7(rf:Qk)(Qa:List Int)(k:Int):=(List.map Yi (X6 rf.Qb (Qa.getD k.toNat 0)))
def U6(rf:Qk):=(List.map Yk (List.map XB rf.Qb))
def TC(rf:Qk)(Qa:List Int)(fa fb fc fd k:Int):Array Value:=#[.int .i64 (F4.a (QT (U6 rf) (U7 rf Qa k) rf.Qb {a:=fa,b:=fb,c:=fc,d:=fd})),.int .i64 (F4.b (QT (U6 rf) (U7 rf Qa k) rf.Qb {a:=fa,b:=fb,c:=fc,d:=fd})),.int .i64 (F4.c (QT (U6 rf) (U7 rf Qa k) rf.Qb {a:=fa,b:=fb,c:=fc,d:=fd})),.int .i64 (F4.d (QT (U6 rf) (U7 rf Qa k) rf.Qb {a:=fa,b:=fb,c:=fc,d:=fd}))]
def pI(rf:Qk)(Qa:List Int):Array Value:=#[Xq rf.Qb.length (Qj Qf rf.Qb),.int .i64 rf.miss,.int .i64 rf.seasons,.int .i64 (Qa.getD 0 0),.int .i64 (Qa.getD 1 0),.int .i64 (Qa.getD 2 0),.int .i64 (Qa.getD 3 0)]
def pH(rf:Qk)(Qa:List Int)(k:Int):Value:=(Xq (Lc (X6 rf.Qb (Qa.getD k.toNat 0))) (Qj QN (X6 rf.Qb (Qa.getD k.toNat 0))))
def pG(rf:Qk):Value:=(Xq (Lc (List.map XB rf.Qb)) (Qj QN (List.map XB rf.Qb)))
theorem AS(B:Lo)(rf:Qk)(Qa:List Int)(fa fb fc fd k:Int):CE.finK 4 (Q2 YP (QB YP) J0 B 10 4 (TD rf Qa fa fb fc fd k) (Pz rf Qa fa fb fc fd k) 4
 [(10,Qu.pure (pG rf) []),(12,Qu.pure (Xq (Lc (U6 rf)) (Qj Xl (U6 rf))) []),(15,Qu.pure (pH rf Qa k) []),(17,Qu.pure (Xq (Lc (U7 rf Qa k)) (Qj Xl (U7 rf Qa k))) []),(18,Qu.wri [7] [9,11,0] [false] [] (eH rf.Qb rf.miss rf.seasons fa fb fc fd (.slice none 0 0) (.slice none 0 0) (U6 rf) (U7 rf Qa k) 0 0 0 0 0) (eG rf.Qb rf.miss rf.seasons fa fb fc fd (.slice none 0 0) (.slice none 0 0) (U6 rf) (U7 rf Qa k) 0 0 0 0 0) (eI rf.Qb rf.miss rf.seasons fa fb fc fd (.slice none 0 0) (.slice none 0 0) (U6 rf) (U7 rf Qa k) 0 0 0 0 0))] 0 [] []) [] [] []=some (OO.ret (.agg (TC rf Qa fa fb fc fd k)),[],[],
 [Q3 []/\vx rf.Qb rf.miss rf.seasons (fa) (fb) (fc) (fd) (.slice none 0 0) (.slice none 0 0) (List.map Yk (List.map XB rf.Qb)) (List.map Yi (X6 rf.Qb (Qa.getD k.toNat 0))) (0) (0) (0) (0) (0),Q3 []/\Qz YP J0 97 #[Xq (Lc (X6 rf.Qb (Qa.getD k.toNat 0))) (Qj QN (X6 rf.Qb (Qa.getD k.toNat 0))),Value.func (Fn.func 76) #[] #[]] (Xq (Lc (List.map Yi (X6 rf.Qb (Qa.getD k.toNat 0)))) (Qj Xl (List.map Yi (X6 rf.Qb (Qa.getD k.toNat 0))))),Q3 []/\Qz YP J0 84 #[.agg (pI rf Qa),.int .i64 k] (pH rf Qa k),Q3 []/\Qz YP J0 97 #[Xq (Lc (List.map XB rf.Qb)) (Qj QN (List.map XB rf.Qb)),Value.func (Fn.func 77) #[] #[]] (Xq (Lc (List.map Yk (List.map XB rf.Qb))) (Qj Xl (List.map Yk (List.map XB rf.Qb)))),Q3 []/\Qz YP J0 83 #[.agg (pI rf Qa)] (pG rf)]):=by kernel_rfl
theorem AQ(B:Lo)(rf:Qk)(Qa:List Int)(fa fb fc fd k:Int):QS (Q2 YP (QB YP) J0 B 6 1 (Q9 YP 79 11 (([.agg (QY rf Qa).toArray,.agg #[.int .i64 fa,.int .i64 fb,.int .i64 fc,.int .i64 fd],.int .i64 k]).map (QG 0 4))) ZH 1
 [(6,Qu.call (Lv 4) (OO.ret (.agg (TC rf Qa fa fb fc fd k))) ([]++(4,XM)::XJ 5 []) 5 [])] 0 [] []) []=some (.agg (TC rf Qa fa fb fc fd k),
 [FJ YP B (TD rf Qa fa fb fc fd k) (Pz rf Qa fa fb fc fd k) 4 (OO.ret (.agg (TC rf Qa fa fb fc fd k))) (([]++((4,XM)::XJ (4+1) []))++Pz rf Qa fa fb fc fd k) 5 (Lv 4) []]):=by kernel_rfl
set_option maxHeartbeats 4000000 in
theorem CO(rf:Qk)(Qa:List Int)(fa fb fc fd k:Int)(hr:Wx rf=true)(hl:Qa.length<=4)(hp:∀j:Nat,0<=Qa.getD j 0/\Qa.getD j 0<=1000000)(k0:0<=k)(k1:k<4)(hf:Yn ⟨fa,fb,fc,fd⟩)(hs:F4.sum ⟨fa,fb,fc,fd⟩<=10000000000){B:Lo}(hJ:∀w,B.has w->J0 w):EndsT YP B (Q9 YP 79 11 (([.agg (QY rf Qa).toArray,.agg #[.int .i64 fa,.int .i64 fb,.int .i64 fc,.int .i64 fd],.int .i64 k]).map (QG 0 4))) (.agg #[.int .i64 (QT (Uy rf) (VV rf (Qa.getD k.toNat 0)) rf.Qb ⟨fa,fb,fc,fd⟩).a,.int .i64 (QT (Uy rf) (VV rf (Qa.getD k.toNat 0)) rf.Qb ⟨fa,fb,fc,fd⟩).b,.int .i64 (QT (Uy rf) (VV rf (Qa.getD k.toNat 0)) rf.Qb ⟨fa,fb,fc,fd⟩).c,.int .i64 (QT (Uy rf) (VV rf (Qa.getD k.toNat 0)) rf.Qb ⟨fa,fb,fc,fd⟩).d]):=by
 have Xy:=Qn (X5 hr).1;have XN:=td hr;have hg1:VF rf.Qb.length ((rf.Qb.map XB).map Yk) 2000:=(So hr).2;have ht1:VF rf.Qb.length ((X6 rf.Qb (Qa.getD k.toNat 0)).map Yi) 1000000:=(RH hr (Qa.getD k.toNat 0)).1;have hle1:(X6 rf.Qb (Qa.getD k.toNat 0)).length=rf.Qb.length:=Zx;have hle2:(rf.Qb.map XB).length=rf.Qb.length:=by simp
 have rj0:FJ YP B (TD rf Qa fa fb fc fd k) (Pz rf Qa fa fb fc fd k) 4 (OO.ret (.agg #[.int .i64 (F4.a (QT (List.map Yk (List.map XB rf.Qb)) (List.map Yi (X6 rf.Qb (Qa.getD k.toNat 0))) rf.Qb {a:=fa,b:=fb,c:=fc,d:=fd})),.int .i64 (F4.b (QT (List.map Yk (List.map XB rf.Qb)) (List.map Yi (X6 rf.Qb (Qa.getD k.toNat 0))) rf.Qb {a:=fa,b:=fb,c:=fc,d:=fd})),.int .i64 (F4.c (QT (List.map Yk (List.map XB rf.Qb)) (List.map Yi (X6 rf.Qb (Qa.getD k.toNat 0))) rf.Qb {a:=fa,b:=fb,c:=fc,d:=fd})),.int .i64 (F4.d (QT (List.map Yk (List.map XB rf.Qb)) (List.map Yi (X6 rf.Qb (Qa.getD k.toNat 0))) rf.Qb {a:=fa,b:=fb,c:=fc,d:=fd}))])) (([]++((4,XM)::XJ (4+1) []))++Pz rf Qa fa fb fc fd k) 5 (Lv 4) []:=by
  exact FinK.fjB (GoE.finK okF hJ Qi (Xd (by kernel_rfl)) (QX (by kernel_rfl)) ((GoE.refl (P:=YP) (B:=B) (c0:=TD rf Qa fa fb fc fd k) (Xd (by kernel_rfl))).widen (Wf:=((([]):List (Nat×KS)).map (·.1))) (by simp) (QX (by kernel_rfl))) (AS B rf Qa fa fb fc fd k)
   ⟨⟨trivial,DJ rf.Qb rf.miss rf.seasons (fa) (fb) (fc) (fd) (.slice none 0 0) (.slice none 0 0) (List.map Yk (List.map XB rf.Qb)) (List.map Yi (X6 rf.Qb (Qa.getD k.toNat 0))) (0) (0) (0) (0) (0) (by with_reducible assumption) (by with_reducible assumption) (by with_reducible assumption) (by with_reducible assumption) (by with_reducible assumption) (by omega) (by omega) (by omega)⟩,⟨⟨trivial,tM (X6 rf.Qb (Qa.getD k.toNat 0)) (by omega)⟩,⟨⟨trivial,AK (rf) (Qa) (k) (by omega) (by with_reducible assumption) (by with_reducible assumption) (by with_reducible assumption) (by with_reducible assumption)⟩,⟨⟨trivial,tN (List.map XB rf.Qb) (by omega)⟩,⟨⟨trivial,AU (rf) (Qa) (by omega)⟩,trivial⟩⟩⟩⟩⟩) (ex:=[]) (by kernel_rfl) (PH _)
 exact(GoE.endsT okF hJ Qi GoE.start (AQ B rf Qa fa fb fc fd k)
  ⟨rj0,trivial⟩).cast (by rfl)
theorem Fl(rf:Qk)(Qa:List Int)(fa fb fc fd k:Int)(hr:Wx rf=true)(hl:Qa.length<=4)(hp:∀j:Nat,0<=Qa.getD j 0/\Qa.getD j 0<=1000000)(k0:0<=k)(k1:k<4)(hf:Yn ⟨fa,fb,fc,fd⟩)(hs:F4.sum ⟨fa,fb,fc,fd⟩<=10000000000):Qz YP J0 79 #[.agg (QY rf Qa).toArray,.agg #[.int .i64 fa,.int .i64 fb,.int .i64 fc,.int .i64 fd],.int .i64 k] (.agg #[.int .i64 (QT (Uy rf) (VV rf (Qa.getD k.toNat 0)) rf.Qb ⟨fa,fb,fc,fd⟩).a,.int .i64 (QT (Uy rf) (VV rf (Qa.getD k.toNat 0)) rf.Qb ⟨fa,fb,fc,fd⟩).b,.int .i64 (QT (Uy rf) (VV rf (Qa.getD k.toNat 0)) rf.Qb ⟨fa,fb,fc,fd⟩).c,.int .i64 (QT (Uy rf) (VV rf (Qa.getD k.toNat 0)) rf.Qb ⟨fa,fb,fc,fd⟩).d]):=
 X8 (ts:=[.agg (QY rf Qa).toArray,.agg #[.int .i64 fa,.int .i64 fb,.int .i64 fc,.int .i64 fd],.int .i64 k]) ZC (c0:=Q9 YP 79 11 (([.agg (QY rf Qa).toArray,.agg #[.int .i64 fa,.int .i64 fb,.int .i64 fc,.int .i64 fd],.int .i64 k]).map (QG 0 4))) (by kernel_rfl) (by kernel_rfl) fun B hJ=>CO rf Qa fa fb fc fd k hr hl hp k0 k1 hf hs hJ
end
end Go.Proofs.Ytncjjangllkokaa

