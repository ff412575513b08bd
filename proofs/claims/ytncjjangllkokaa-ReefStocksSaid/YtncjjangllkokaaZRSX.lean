/- ReefStocks: whatever the input, it returns true, and each argument reads as it did. The row, from the walk. -/
import Derived.Test.YtncjjangllkokaaZRS17
import Derived.Test.YtncjjangllkokaaZRS15
import Derived.JoinedOf
import Derived.Test.YtncjjangllkokaaRows
set_option linter.all false
open List renaming mem_cons_of_mem->Lt,flatMap_cons->LU,length->Ld,getD->Le,length_append->Lh,length_cons->Li,length_nil->Lk,map_append->LZ
open Int renaming toNat->Lb
open Array renaming size->LA,extract->Lj
open Nat renaming strongRecOn->LB
open List.Mem renaming head->Lg
open Inhabited renaming default->La
namespace Go.Proofs.Ytncjjangllkokaa
open Go Go.CE Go.RowKit
noncomputable section
set_option maxRecDepth 100000
structure Eh where
 n:Nat
 l:List Span
deriving Inhabited
def Y2(r:Eh):List Value:=[QH r.n (Qe Qk r.l)]
theorem Bh:∀(l:List Int) (g:Int->List Span) (n:Nat),(∀k∈l,(g k).length=n)->Qe Y2 (l.map fun k=>⟨n,g k⟩)=Qe Zz (l.map g)
 |[],_,_,_=>rfl
 |k::l,g,n,h=>by
  have ih:=Bh l g n fun k hk=>h k (Lt _ hk)
  have e:Y2 ⟨n,g k⟩=Zz (g k):=by show [QH n (Qe Qk (g k))]=_;rw[<-h k (List.mem_cons_self ..)]
  unfold Qe at ih ⊢;rw[List.map_cons,List.map_cons,LU,LU,e];apply Array.ext';have ih':=congrArg Array.toList ih;simp only at ih' ⊢;rw[ih']
theorem fP{β:Type}{f:Int->β}{s:Int}(h:0<=s):(((UZ 0 s).map f).length:Int)=s:=by simp[UZ];omega
theorem W5{rf:Qo}{gs ts:List (List Int)}{f:F4}{s:Int}(h4:rf.Qb.length<=4)(s0:0<=s)(s1:s<rf.Qd):((XH rf.Qd rf.Qb gs ts f).getD s.toNat La).length=rf.Qb.length:=by
 rw[show(XH rf.Qd rf.Qb gs ts f).getD s.toNat La=tn rf.Qb gs ts f s from Xf s0 s1,tl h4]
theorem J2{rf:Qo}{gs ts:List (List Int)}{f:F4}{s i:Int}(h4:rf.Qb.length<=4)(s0:0<=s)(s1:s<rf.Qd)(i0:0<=i)(i1:i<rf.Qb.length):((XH rf.Qd rf.Qb gs ts f).getD s.toNat La).getD i.toNat La=(ZA rf.Qb gs ts f (s.toNat+1)).at i:=by
 rw[show(XH rf.Qd rf.Qb gs ts f).getD s.toNat La=tn rf.Qb gs ts f s from Xf s0 s1,Ir h4 i0 i1]
theorem Bf{a b:Int}{s:Span}(h1:a=s.lo)(h2:b=s.hi):(⟨a,b⟩:Span)=s:=by subst h1 h2;rfl
theorem Nq{rf:Qo}{Qa:List Int}{rs:List Eh}{s:Int}{m:Nat}(h:rs=(UZ 0 s).map fun z=>⟨rf.Qb.length,Xz rf Qa z⟩)(hm:m=rs.length)(hs:s=rf.Qd):QH m (Qe Y2 rs)=Wq (Xj rf Qa):=by
 subst hs;have e:Qe Y2 rs=Qe Zz (Xj rf Qa):=by rw[h];exact Bh _ _ _ fun k _=>kK
 have e2:m=(Xj rf Qa).length:=by rw[hm,h,Xj,Zn,List.length_map,List.length_map]
 rw[e,e2]
theorem MO(rf:Qo)(st:List Int)(gs ts:List (List Int))(QE:OkT rf.Qb rf.Qd gs ts (Qj st))(hl:st.length=rf.Qb.length)(hn:1<=rf.Qb.length/\rf.Qb.length<=4)(hs4:1<=rf.Qd/\rf.Qd<=4):Qr YP J0 28 #[.agg (Q1 rf).toArray,.agg #[Zk st,QH gs.length (Qe Zi gs),QH ts.length (Qe Zi ts)]] (.tuple #[QH (XH rf.Qd rf.Qb gs ts (Qj st)).length (Qe Zi (XH rf.Qd rf.Qb gs ts (Qj st))),.agg #[YI (Qj st).sum,YI (Xt 0 rf.Qd (WR rf.Qb gs ts (Qj st))),YI (Xt 0 rf.Qd (ZJ rf.Qb gs ts (Qj st))),YI (Xt 0 rf.Qd (WQ rf.Qb gs ts (Qj st))),YI (ZA rf.Qb gs ts (Qj st) rf.Qd.toNat).sum]]):=Qad rf ⟨st,gs,ts⟩ QE hl hn hs4
section
variable (B:Lo)(c0:CF)(rf:Qo)(Qa:List Int)(s i:Int)(os:List Eh)(zs:List Span)(on zn:Nat)
def PM(zs:List Span)(zn:Nat):List Value:=let b:=XH rf.Qd rf.Qb (WO rf) (Vx rf Qa) (Qj (Z7 rf));let a:=XH rf.Qd rf.Qb (WN rf) (Vy rf Qa) (Qj (Z6 rf));[pA 2 0,Q2 1 (QH a.length (Qe Zi a)),Q2 1 (QH b.length (Qe Zi b)),.slice none 0 0,YI 0,.slice (some ⟨3,0,none⟩) zn 2,YI i]
def YG(Qa:List Int)(i:Int)(zs:List Span)(zn:Nat):List Obj:=[Obj.cells #[Q2 1 (QH rf.Qb.length (Qe Qi rf.Qb)),YI rf.Qc,YI rf.Qd] 24,.cells (Qe Qk zs) 38 (0,0)]
def PQ:List Item:=([.code [1,1,1,1,0,1,0,0,1,0,0,1,0,1,0,0],.inLoop [1,1,1,1,0,1,0,0,1,0,0,1,0,1,0,0],.inBlock 2,.code [1,1,1,1,0,1,0,0,1,0,0,1,1],.inBlock 1,.code [1,1,1,1,0,1,0,0,1,1],.inLoop [1,1,1,1,0,1,0,0],.inBlock 0,.code [1,1,1,1,1]]).map (it (QG YP 22))
def yD:Prop:=∃dJ:Nat->Value,(∀t,Xe (dJ t))/\GoE YP B c0 Zb 1 (Q9 22 65 (([2,5,7,9,10,11,12]:List Nat).zip (PM rf Qa i zs zn)) dJ PQ) (Q8 (YG rf Qa i zs zn)) (2+(YG rf Qa i zs zn).length) []
def PL(os:List Eh)(zs:List Span)(on zn:Nat):List Value:=let b:=XH rf.Qd rf.Qb (WO rf) (Vx rf Qa) (Qj (Z7 rf));let a:=XH rf.Qd rf.Qb (WN rf) (Vy rf Qa) (Qj (Z6 rf));[pA 2 0,Q2 1 (QH a.length (Qe Zi a)),Q2 1 (QH b.length (Qe Zi b)),.slice (some ⟨3,0,none⟩) on 1,YI s,.slice (some ⟨4,0,none⟩) zn 2,YI i]
def K3(Qa:List Int)(s i:Int)(os:List Eh)(zs:List Span)(on zn:Nat):List Obj:=[Obj.cells #[Q2 1 (QH rf.Qb.length (Qe Qi rf.Qb)),YI rf.Qc,YI rf.Qd] 24,.cells (Qe (pushE 1 Y2) os) 36 (0,0),.cells (Qe Qk zs) 38 (0,0)]
def PO:List Item:=([.code [1,1,1,1,0,1,0,0,1,0,0,1,0,1,0,0],.inLoop [1,1,1,1,0,1,0,0,1,0,0,1,0,1,0,0],.inBlock 2,.code [1,1,1,1,0,1,0,0,1,0,0,1,1],.inBlock 1,.code [1,1,1,1,0,1,0,0,1,1],.inLoop [1,1,1,1,0,1,0,0],.inBlock 0,.code [1,1,1,1,1]]).map (it (QG YP 22))
def yC:Prop:=∃dJ:Nat->Value,(∀t,Xe (dJ t))/\GoE YP B c0 Zb 1 (Q9 22 65 (([2,5,7,9,10,11,12]:List Nat).zip (PL rf Qa s i os zs on zn)) dJ PO) (Q8 (K3 rf Qa s i os zs on zn)) (2+(K3 rf Qa s i os zs on zn).length) []
def PK(os:List Eh)(on:Nat):List Value:=let b:=XH rf.Qd rf.Qb (WO rf) (Vx rf Qa) (Qj (Z7 rf));let a:=XH rf.Qd rf.Qb (WN rf) (Vy rf Qa) (Qj (Z6 rf));[pA 2 0,Q2 1 (QH a.length (Qe Zi a)),Q2 1 (QH b.length (Qe Zi b)),.slice (some ⟨3,0,none⟩) on 1,YI s]
def K2(Qa:List Int)(s:Int)(os:List Eh)(on:Nat):List Obj:=[Obj.cells #[Q2 1 (QH rf.Qb.length (Qe Qi rf.Qb)),YI rf.Qc,YI rf.Qd] 24,.cells (Qe (pushE 1 Y2) os) 36 (0,0)]
def PN:List Item:=([.code [1,1,1,1,0,1,0,0],.inLoop [1,1,1,1,0,1,0,0],.inBlock 0,.code [1,1,1,1,1]]).map (it (QG YP 22))
def yB:Prop:=∃dJ:Nat->Value,(∀t,Xe (dJ t))/\GoE YP B c0 Zb 1 (Q9 22 65 (([2,5,7,9,10]:List Nat).zip (PK rf Qa s os on)) dJ PN) (Q8 (K2 rf Qa s os on)) (2+(K2 rf Qa s os on).length) []
def Tw:Array Value:=#[QH (Ld (Le (XH rf.Qd rf.Qb (WN rf) (Vy rf Qa) (Qj (Z6 rf))) 0 La)) (Qe Q0 (Le (XH rf.Qd rf.Qb (WN rf) (Vy rf Qa) (Qj (Z6 rf))) 0 La))]
def Tv:Array Value:=#[QH (Ld (Le (XH rf.Qd rf.Qb (WO rf) (Vx rf Qa) (Qj (Z7 rf))) 0 La)) (Qe Q0 (Le (XH rf.Qd rf.Qb (WO rf) (Vx rf Qa) (Qj (Z7 rf))) 0 La))]
def cN:Array Value:=#[QH (Ld (Z6 rf)) (Qe Q0 (Z6 rf)),QH (Ld (WN rf)) (Qe Zi (WN rf)),QH (Ld (Vy rf Qa)) (Qe Zi (Vy rf Qa))]
def cM:Array Value:=#[QH (Ld (Z7 rf)) (Qe Q0 (Z7 rf)),QH (Ld (WO rf)) (Qe Zi (WO rf)),QH (Ld (Vx rf Qa)) (Qe Zi (Vx rf Qa))]
def Tu:Array Value:=#[QH rf.Qb.length (Qe Qi rf.Qb),YI rf.Qc,YI rf.Qd]
theorem y9(B:Lo)(rf:Qo)(Qa:List Int)(i:Int)(zs:List Span)(zn:Nat)(Qp:Nat->Value):let o:=YG rf Qa i zs zn;let n:=rf.Qb;let m:=Lb i*TypeInfo.size Try.t3;let h:=0*TypeInfo.size Try.t25+TypeInfo.size Try.t25;let g:=Lb i*TypeInfo.size Try.t3+TypeInfo.size Try.t3;let d:=Lb i;let c:=XH rf.Qd n (WO rf) (Vx rf Qa) (Qj (Z7 rf));let f:=c.getD 0 La;let k:=f.getD d La;let b:=XH rf.Qd n (WN rf) (Vy rf Qa) (Qj (Z6 rf));let e:=b.getD 0 La;let j:=e.getD d La;let a:=zs++[{lo:=e.getD d La,hi:=f.getD d La}];let l:=Qe Qk a;landM (Qq YP (Q6 YP) J0 B 11 1 (Q9 22 65 (([2,5,7,9,10,11,12]:List Nat).zip (PM rf Qa i zs zn)) Qp PQ) (Q8 o) (2+o.length)
 [(4,ZC),(8,Qh.tidx 0 (Tw rf Qa)),(11,Qh.tidx d #[YI j]),(15,Qh.tidx 0 (Tv rf Qa)),(18,Qh.tidx d #[YI k]),(22,Qh.Xs (Hint.app l)),(25,Z4 (i+1))] 0 [] []) [2,5,7,9,10,11,12] [(2,KS.auto),(5,KS.cells [] l)] []=some ⟨22,65,PQ,[],.run,none,PM rf Qa (i+1) a (zn+1),YG rf Qa (i+1) a (zn+1),
 [Qv 1 [] l l,wq (i+1)=i+1,LA (Qe Qk zs)=zn*(1+1)/\zn+1<=maxLen/\(zn+1)*16<=140737488355328/\Qe Qk zs++#[YI j,YI k]=Qe Qk a,i=(↑d:Int)/\Lb i<Ld f/\Lj (Qe Q0 f) m g=#[YI k],0=(↑0:Int)/\0<Ld c/\Lj (Qe Zi c) (0*TypeInfo.size Try.t25) h=(Tv rf Qa),i=(↑d:Int)/\Lb i<Ld e/\Lj (Qe Q0 e) m g=#[YI j],0=(↑0:Int)/\0<Ld b/\Lj (Qe Zi b) (0*TypeInfo.size Try.t25) h=(Tw rf Qa),XA i (↑n.length:Int)=true]⟩:=by intro o n m h g d c f k b e j a l;kernel_rfl
theorem y8(B:Lo)(rf:Qo)(Qa:List Int)(i:Int)(zs:List Span)(zn:Nat)(Qp:Nat->Value):let c:=[{n:=zn,l:=zs}];let b:=YG rf Qa i zs zn;let a:=Qe (pushE 1 Y2) [{n:=zn,l:=zs}];landM (Qq YP (Q6 YP) J0 B 9 1 (Q9 22 65 (([2,5,7,9,10,11,12]:List Nat).zip (PM rf Qa i zs zn)) Qp PQ) (Q8 b) (2+b.length)
 [(4,Wi)] 0 [] []) [2,5,7,9,10] [(2,KS.auto),(5,KS.rows [] [3] [] a)] [{k:=3,rs:=[],cs:=Qe Qk zs}]=some ⟨22,65,PN,[],.run,none,PK rf Qa (1) c (1),K2 rf Qa (1) c (1),
 [QX 1 [] [(3,Fz.cs {k:=3,rs:=[],cs:=Qe Qk zs})] [] #[.slice (some {block:=3,off:=0}) zn 2] a,X4 (Fz.rs {k:=3,rs:=[],cs:=Qe Qk zs}) (Qe Qk zs) (Fz.cs {k:=3,rs:=[],cs:=Qe Qk zs}),XA i (↑rf.Qb.length:Int)=false]⟩:=by intro c b a;kernel_rfl
theorem y7(B:Lo)(rf:Qo)(Qa:List Int)(s i:Int)(os:List Eh)(zs:List Span)(on zn:Nat)(Qp:Nat->Value):let o:=Lb s*TypeInfo.size Try.t25;let k:=Qe (pushE 1 Y2) os;let j:=Lb i*TypeInfo.size Try.t3+TypeInfo.size Try.t3;let h:=Lb s*TypeInfo.size Try.t25+TypeInfo.size Try.t25;let g:=Lb s;let f:=Lb i;let e:=XH rf.Qd rf.Qb (WN rf) (Vy rf Qa) (Qj (Z6 rf));let d:=XH rf.Qd rf.Qb (WO rf) (Vx rf Qa) (Qj (Z7 rf));let c:=d.getD g La;let m:=c.getD f La;let b:=e.getD g La;let l:=b.getD f La;let a:=zs++[{lo:=b.getD f La,hi:=c.getD f La}];let n:=Qe Qk a;landM (Qq YP (Q6 YP) J0 B 11 1 (Q9 22 65 (([2,5,7,9,10,11,12]:List Nat).zip (PL rf Qa s i os zs on zn)) Qp PO) (Q8 (K3 rf Qa s i os zs on zn)) (2+(K3 rf Qa s i os zs on zn).length)
 [(4,ZC),(8,Qh.tidx g #[QH b.length (Qe Q0 b)]),(11,Qh.tidx f #[YI l]),(15,Qh.tidx g #[QH c.length (Qe Q0 c)]),(18,Qh.tidx f #[YI m]),(22,Qh.Xs (Hint.app n)),(25,Z4 (i+1))] 0 [] []) [2,5,7,9,10,11,12] [(2,KS.auto),(3,KS.rows [(1,1)] [] [] k),(6,KS.cells [] n)] []=some ⟨22,65,PO,[],.run,none,PL rf Qa (s) (i+1) (os) a (on) (zn+1),K3 rf Qa (s) (i+1) (os) a (on) (zn+1),
 [QX 1 [(1,1)] [] [] k k,Qv 1 [] n n,wq (i+1)=i+1,LA (Qe Qk zs)=zn*(1+1)/\zn+1<=maxLen/\(zn+1)*16<=140737488355328/\Qe Qk zs++#[YI l,YI m]=Qe Qk a,i=(↑f:Int)/\Lb i<Ld c/\Lj (Qe Q0 c) (Lb i*TypeInfo.size Try.t3) j=#[YI m],s=(↑g:Int)/\Lb s<Ld d/\Lj (Qe Zi d) o h=#[QH c.length (Qe Q0 c)],i=(↑f:Int)/\Lb i<Ld b/\Lj (Qe Q0 b) (Lb i*TypeInfo.size Try.t3) j=#[YI l],s=(↑g:Int)/\Lb s<Ld e/\Lj (Qe Zi e) o h=#[QH b.length (Qe Q0 b)],XA i (↑rf.Qb.length:Int)=true]⟩:=by intro o k j h g f e d c m b l a n;kernel_rfl
theorem y6(B:Lo)(rf:Qo)(Qa:List Int)(s i:Int)(os:List Eh)(zs:List Span)(on zn:Nat)(Qp:Nat->Value):let d:=K3 rf Qa s i os zs on zn;let c:=os++[{n:=zn,l:=zs}];let b:=some {block:=4,off:=0};let a:=pushE 1 Y2;let e:=Qe a os++#[.slice b zn 2];landM (Qq YP (Q6 YP) J0 B 9 1 (Q9 22 65 (([2,5,7,9,10,11,12]:List Nat).zip (PL rf Qa s i os zs on zn)) Qp PO) (Q8 d) (2+d.length)
 [(4,Wi),(8,Qh.Xs (Hint.app e)),(11,Z4 (s+1))] 0 [] []) [2,5,7,9,10] [(2,KS.auto),(6,KS.rows [(1,1)] [4] [] (Qe a c))] [{k:=4,rs:=[],cs:=Qe Qk zs}]=some ⟨22,65,PN,[],.run,none,PK rf Qa (s+1) c (on+1),K2 rf Qa (s+1) c (on+1),
 [QX 1 [(1,1)] [(4,Fz.cs {k:=4,rs:=[],cs:=Qe Qk zs})] [] e (Qe a c),X4 (Fz.rs {k:=4,rs:=[],cs:=Qe Qk zs}) (Qe Qk zs) (Fz.cs {k:=4,rs:=[],cs:=Qe Qk zs}),wq (s+1)=s+1,LA (Qe a os)=on*(0+1)/\on+1<=maxLen/\(on+1)*24<=140737488355328/\Qe a os++#[.slice b zn 2]=Qe a os++#[.slice b zn 2],XA i (↑rf.Qb.length:Int)=false]⟩:=by intro d c b a e;kernel_rfl
theorem y5(B:Lo)(rf:Qo)(Qa:List Int)(s:Int)(os:List Eh)(on:Nat)(Qp:Nat->Value):let n:=rf.Qd;let m:=Lb s*TypeInfo.size Try.t25;let j:=0*TypeInfo.size Try.t3+TypeInfo.size Try.t3;let i:=Qe (pushE 1 Y2) os;let h:=Lb s*TypeInfo.size Try.t25+TypeInfo.size Try.t25;let g:=Lb s;let d:=XH n rf.Qb (WN rf) (Vy rf Qa) (Qj (Z6 rf));let c:=XH n rf.Qb (WO rf) (Vx rf Qa) (Qj (Z7 rf));let b:=c.getD g La;let l:=b.getD 0 La;let a:=d.getD g La;let k:=a.getD 0 La;let f:=[{lo:=a.getD 0 La,hi:=b.getD 0 La}];let e:=Qe Qk [{lo:=a.getD 0 La,hi:=b.getD 0 La}];landM (Qq YP (Q6 YP) J0 B 25 1 (Q9 22 65 (([2,5,7,9,10]:List Nat).zip (PK rf Qa s os on)) Qp PN) (Q8 (K2 rf Qa s os on)) (2+(K2 rf Qa s os on).length)
 [(3,ZC),(10,ZC),(14,Qh.tidx g #[QH a.length (Qe Q0 a)]),(17,Qh.tidx 0 #[YI k]),(21,Qh.tidx g #[QH b.length (Qe Q0 b)]),(24,Qh.tidx 0 #[YI l])] 0 [] []) [2,5,7,9,10,11,12] [(2,KS.auto),(3,KS.rows [(1,1)] [] [] i),(5,KS.cells [] e)] []=some ⟨22,65,PO,[],.run,none,PL rf Qa (s) (1) (os) f (on) (1),K3 rf Qa (s) (1) (os) f (on) (1),
 [QX 1 [(1,1)] [] [] i i,Qv 1 [] (#[YI k,YI l]) e,0=(↑0:Int)/\0<Ld b/\Lj (Qe Q0 b) (0*TypeInfo.size Try.t3) j=#[YI l],s=(↑g:Int)/\Lb s<Ld c/\Lj (Qe Zi c) m h=#[QH b.length (Qe Q0 b)],0=(↑0:Int)/\0<Ld a/\Lj (Qe Q0 a) (0*TypeInfo.size Try.t3) j=#[YI k],s=(↑g:Int)/\Lb s<Ld d/\Lj (Qe Zi d) m h=#[QH a.length (Qe Q0 a)],XA 0 (↑rf.Qb.length:Int)=true,XA s n=true]⟩:=by intro n m j i h g d c b l a k f e;kernel_rfl
theorem y4(B:Lo)(rf:Qo)(Qa:List Int)(s:Int)(os:List Eh)(on:Nat)(Qp:Nat->Value):let b:=K2 rf Qa s os on;let a:=Fz.cs {k:=3,rs:=[1],cs:=Qe Y2 os};Xq (Qq YP (Q6 YP) J0 B 9 1 (Q9 22 65 (([2,5,7,9,10]:List Nat).zip (PK rf Qa s os on)) Qp PN) (Q8 b) (2+b.length)
 [(3,Wi)] 0 [] []) [{k:=3,rs:=[1],cs:=Qe Y2 os}]=some (QH on a,
 [X4 (Fz.rs {k:=3,rs:=[1],cs:=Qe Y2 os}) (Qe (pushE 1 Y2) os) a,XA s rf.Qd=false]):=by intro b a;kernel_rfl
theorem y3(B:Lo)(rf:Qo)(Qa:List Int):let n:=Vy rf Qa;let m:=Vx rf Qa;let j:=Qj (Z6 rf);let i:=Qj (Z7 rf);let h:=rf.Qb;let g:=rf.Qd;let b:=XH g h (WO rf) m i;let f:=b.getD 0 La;let d:=Value.tuple #[QH b.length (Qe Zi b),.agg #[YI i.sum,YI (Xt 0 g (WR h (WO rf) m i)),YI (Xt 0 g (ZJ h (WO rf) m i)),YI (Xt 0 g (WQ h (WO rf) m i)),YI (F4.sum (ZA h (WO rf) m i g.toNat))]];let a:=XH g h (WN rf) n j;let e:=a.getD 0 La;let l:=[{lo:=e.getD 0 La,hi:=f.getD 0 La}];let k:=Qe Qk [{lo:=e.getD 0 La,hi:=f.getD 0 La}];let c:=Value.tuple #[QH a.length (Qe Zi a),.agg #[YI j.sum,YI (Xt 0 g (WR h (WN rf) n j)),YI (Xt 0 g (ZJ h (WN rf) n j)),YI (Xt 0 g (WQ h (WN rf) n j)),YI (F4.sum (ZA h (WN rf) n j g.toNat))]];landM (Qq YP (Q6 YP) J0 B 38 1 (Qx YP 22 65 (([.agg (Q1 rf).toArray,Zk Qa]).map (Q7 0 4))) Zb 1
 [(5,Qh.pure (.agg (cN rf Qa)) []),(6,Qh.pure c []),(16,Qh.pure (.agg (cM rf Qa)) []),(17,Qh.pure d []),(29,ZC),(36,ZC),(40,Qh.tidx 0 (Tw rf Qa)),(43,Qh.tidx 0 #[YI (e.getD 0 La)]),(47,Qh.tidx 0 (Tv rf Qa)),(50,Qh.tidx 0 #[YI (f.getD 0 La)])] 0 [] []) [2,5,7,9,10,11,12] [(1,KS.auto),(9,KS.cells [] k)] []=some ⟨22,65,PQ,[],.run,none,PM rf Qa (1) l (1),YG rf Qa (1) l (1),
 [Qv 1 [] (#[YI (e.getD 0 La),YI (f.getD 0 La)]) k,0=(↑0:Int)/\0<Ld f/\Lj (Qe Q0 f) (0*TypeInfo.size Try.t3) (0*TypeInfo.size Try.t3+TypeInfo.size Try.t3)=#[YI (f.getD 0 La)],0=(↑0:Int)/\0<Ld b/\Lj (Qe Zi b) (0*TypeInfo.size Try.t25) (0*TypeInfo.size Try.t25+TypeInfo.size Try.t25)=(Tv rf Qa),0=(↑0:Int)/\0<Ld e/\Lj (Qe Q0 e) (0*TypeInfo.size Try.t3) (0*TypeInfo.size Try.t3+TypeInfo.size Try.t3)=#[YI (e.getD 0 La)],0=(↑0:Int)/\0<Ld a/\Lj (Qe Zi a) (0*TypeInfo.size Try.t25) (0*TypeInfo.size Try.t25+TypeInfo.size Try.t25)=(Tw rf Qa),XA 0 (↑h.length:Int)=true,XA 0 g=true,Q3 []/\Qr YP J0 28 #[.agg (Tu rf),.agg (cM rf Qa)] d,Q3 []/\Qr YP J0 34 #[.agg (Tu rf),QH Qa.length (Qe Q0 Qa),.bool true] (.agg (cM rf Qa)),Q3 []/\Qr YP J0 28 #[.agg (Tu rf),.agg (cN rf Qa)] c,Q3 []/\Qr YP J0 34 #[.agg (Tu rf),QH Qa.length (Qe Q0 Qa),.bool false] (.agg (cN rf Qa))]⟩:=by intro n m j i h g b f d a e l k c;kernel_rfl
end
set_option maxHeartbeats 4000000 in
theorem yA(rf:Qo)(Qa:List Int)(hr:XG rf=true)(hp:XZ rf Qa=true){B:Lo}(hJ:∀w,B.has w->J0 w){c0:CF}:∀m:Nat,(∀(i:Int) (zs:List Span) (zn:Nat),9000+(rf.Qb.length-i.toNat)=m->∀(h0:1<=i) (h1:i<=rf.Qb.length) (hzn:zn=zs.length) (hz:zs=(UZ 0 i).map (Yg rf Qa 0)),yD B c0 rf Qa i zs zn->EndsT YP B c0 (Wq (Xj rf Qa)))/\(∀(s i:Int) (os:List Eh) (zs:List Span) (on zn:Nat),100*(rf.Qd-s).toNat+(rf.Qb.length-i.toNat)=m->∀(s0:1<=s) (s1:s<rf.Qd) (h0:1<=i) (h1:i<=rf.Qb.length) (hon:on=os.length) (ho:os=(UZ 0 s).map fun z=>⟨rf.Qb.length,Xz rf Qa z⟩) (hzn:zn=zs.length) (hz:zs=(UZ 0 i).map (Yg rf Qa s)),yC B c0 rf Qa s i os zs on zn->EndsT YP B c0 (Wq (Xj rf Qa)))/\(∀(s:Int) (os:List Eh) (on:Nat),100*(rf.Qd-s).toNat+99=m->∀(s0:1<=s) (s1:s<=rf.Qd) (hon:on=os.length) (ho:os=(UZ 0 s).map fun z=>⟨rf.Qb.length,Xz rf Qa z⟩),yB B c0 rf Qa s os on->EndsT YP B c0 (Wq (Xj rf Qa))):=by
 intro m0;induction m0 using LB with
 |_ m0 ih0=>
  refine⟨?_, ?_, ?_⟩
  ·intro i zs zn UX h0 h1 hzn hz ⟨Qp,Zr,Xo⟩;have ZW:=QC (QB hr).1;have hpf:=(XM hp).1;have hl1:=Pj (rf:=rf);have hl2:=Pk (rf:=rf);have hq1:(XH rf.Qd rf.Qb (WN rf) (Vy rf Qa) (Qj (Z6 rf))).length=rf.Qd.toNat:=Xd;have hq2:(XH rf.Qd rf.Qb (WO rf) (Vx rf Qa) (Qj (Z7 rf))).length=rf.Qd.toNat:=Xd;have hq3:((XH rf.Qd rf.Qb (WN rf) (Vy rf Qa) (Qj (Z6 rf))).getD 0 La).length=rf.Qb.length:=W5 (rf:=rf) (s:=0) (by omega) (by omega) (by omega);have hq4:((XH rf.Qd rf.Qb (WO rf) (Vx rf Qa) (Qj (Z7 rf))).getD 0 La).length=rf.Qb.length:=W5 (rf:=rf) (s:=0) (by omega) (by omega) (by omega);have hzl:(zs.length:Int)=i:=by rw[hz];exact fP (by omega)
   by_cases q0:(i:Int)<((↑rf.Qb.length:Int))
   ·have hzi:(⟨((XH rf.Qd rf.Qb (WN rf) (Vy rf Qa) (Qj (Z6 rf))).getD 0 La).getD i.toNat La,((XH rf.Qd rf.Qb (WO rf) (Vx rf Qa) (Qj (Z7 rf))).getD 0 La).getD i.toNat La⟩:Span)=Yg rf Qa 0 i:=Bf ((J2 (rf:=rf) (s:=0) (i:=i) (by omega) (by omega) (by omega) (by omega) (by omega))) (J2 (rf:=rf) (s:=0) (i:=i) (by omega) (by omega) (by omega) (by omega) (by omega));exact((ih0 _ (by omega)).1 (i+1) (zs++[{lo:=Le (Le (XH rf.Qd rf.Qb (WN rf) (Vy rf Qa) (Qj (Z6 rf))) 0 La) i.toNat La,hi:=Le (Le (XH rf.Qd rf.Qb (WO rf) (Vx rf Qa) (Qj (Z7 rf))) 0 La) i.toNat La}]) (zn+1) rfl (by omega) (by omega) (by(simp only[Lh,Li,Lk];omega)) (by(rw[hz,Ue (by omega),LZ,hzi];rfl))
     (Xo.landM okF hJ Qf (y9 B rf Qa i zs zn Qp)
     (by exact⟨(XI fun _=>by rfl),⟨(QP (by omega) (by omega)),⟨⟨(by(rw[QT (z:=2) (fun _=>rfl)];first|omega|(simp;omega)|(simp_all;done))),(by unfold maxLen;omega),by omega,by first|exact Xv|exact Xl rfl⟩,⟨⟨by omega,by omega,(Qu (z:=1) (fun _=>rfl) (by omega))⟩,⟨⟨by omega,by omega,(Qu (z:=1) (fun _=>rfl) (by omega))⟩,⟨⟨by omega,by omega,(Qu (z:=1) (fun _=>rfl) (by omega))⟩,⟨⟨by omega,by omega,(Qu (z:=1) (fun _=>rfl) (by omega))⟩,⟨(Xh q0),trivial⟩⟩⟩⟩⟩⟩⟩⟩) (by kernel_rfl) (by kernel_rfl))).cast (by rfl)
   ·have hze:zs=Xz rf Qa 0:=by rw[hz,show i=rf.Qb.length by omega];rfl
    exact((ih0 _ (by omega)).2.2 (1) ([{n:=zn,l:=zs}]) (1) rfl (by omega) (by omega) (by rfl) (by(rw[show zn=rf.Qb.length by omega,hze];rfl))
     (Xo.landM okF hJ Qf (y8 B rf Qa i zs zn Qp)
     (by exact⟨(by exact(KD (by exact⟨(.own (Lg _)),trivial⟩))),⟨(Xg (fun x=>List.all_eq_true.1 (by rfl))),⟨(X7 (Int.not_lt.1 q0)),trivial⟩⟩⟩) (by kernel_rfl) (by kernel_rfl))).cast (by rfl)
  ·intro s i os zs on zn UX s0 s1 h0 h1 hon ho hzn hz ⟨Qp,Zr,Xo⟩;have ZW:=QC (QB hr).1;have hpf:=(XM hp).1;have hl1:=Pj (rf:=rf);have hl2:=Pk (rf:=rf);have hq1:(XH rf.Qd rf.Qb (WN rf) (Vy rf Qa) (Qj (Z6 rf))).length=rf.Qd.toNat:=Xd;have hq2:(XH rf.Qd rf.Qb (WO rf) (Vx rf Qa) (Qj (Z7 rf))).length=rf.Qd.toNat:=Xd;have hq3:((XH rf.Qd rf.Qb (WN rf) (Vy rf Qa) (Qj (Z6 rf))).getD 0 La).length=rf.Qb.length:=W5 (rf:=rf) (s:=0) (by omega) (by omega) (by omega);have hq4:((XH rf.Qd rf.Qb (WO rf) (Vx rf Qa) (Qj (Z7 rf))).getD 0 La).length=rf.Qb.length:=W5 (rf:=rf) (s:=0) (by omega) (by omega) (by omega);have hq3:=W5 (rf:=rf) (gs:=WN rf) (ts:=Vy rf Qa) (f:=Qj (Z6 rf)) (s:=s) (by omega) (by omega) (by omega);have hq4:=W5 (rf:=rf) (gs:=WO rf) (ts:=Vx rf Qa) (f:=Qj (Z7 rf)) (s:=s) (by omega) (by omega) (by omega);have hzl:(zs.length:Int)=i:=by rw[hz];exact fP (by omega)
   have hol:(os.length:Int)=s:=by rw[ho];exact fP (by omega)
   by_cases q0:(i:Int)<((↑rf.Qb.length:Int))
   ·have hzi:(⟨((XH rf.Qd rf.Qb (WN rf) (Vy rf Qa) (Qj (Z6 rf))).getD s.toNat La).getD i.toNat La,((XH rf.Qd rf.Qb (WO rf) (Vx rf Qa) (Qj (Z7 rf))).getD s.toNat La).getD i.toNat La⟩:Span)=Yg rf Qa s i:=Bf ((J2 (rf:=rf) (s:=s) (i:=i) (by omega) (by omega) (by omega) (by omega) (by omega))) (J2 (rf:=rf) (s:=s) (i:=i) (by omega) (by omega) (by omega) (by omega) (by omega));exact((ih0 _ (by omega)).2.1 (s) (i+1) (os) (zs++[{lo:=Le (Le (XH rf.Qd rf.Qb (WN rf) (Vy rf Qa) (Qj (Z6 rf))) s.toNat La) i.toNat La,hi:=Le (Le (XH rf.Qd rf.Qb (WO rf) (Vx rf Qa) (Qj (Z7 rf))) s.toNat La) i.toNat La}]) (on) (zn+1) rfl (by with_reducible assumption) (by with_reducible assumption) (by omega) (by omega) (by with_reducible assumption) (by with_reducible assumption) (by(simp only[Lh,Li,Lk];omega)) (by(rw[hz,Ue (by omega),LZ,hzi];rfl))
     (Xo.landM okF hJ Qf (y7 B rf Qa s i os zs on zn Qp)
     (by exact⟨(by exact(QM (Xb (by exact fun _=>rfl)) (Lg _))),⟨(XI fun _=>by rfl),⟨(QP (by omega) (by omega)),⟨⟨(by(rw[QT (z:=2) (fun _=>rfl)];first|omega|(simp;omega)|(simp_all;done))),(by unfold maxLen;omega),by omega,by first|exact Xv|exact Xl rfl⟩,⟨⟨by omega,by omega,(Qu (z:=1) (fun _=>rfl) (by omega))⟩,⟨⟨by omega,by omega,(Qu (z:=1) (fun _=>rfl) (by omega))⟩,⟨⟨by omega,by omega,(Qu (z:=1) (fun _=>rfl) (by omega))⟩,⟨⟨by omega,by omega,(Qu (z:=1) (fun _=>rfl) (by omega))⟩,⟨(Xh q0),trivial⟩⟩⟩⟩⟩⟩⟩⟩⟩) (by kernel_rfl) (by kernel_rfl))).cast (by rfl)
   ·have hze:zs=Xz rf Qa s:=by rw[hz,show i=rf.Qb.length by omega];rfl
    exact((ih0 _ (by omega)).2.2 (s+1) (os++[{n:=zn,l:=zs}]) (on+1) rfl (by omega) (by omega) (by(simp only[Lh,Li,Lk];omega)) (by(rw[Ue (by omega),LZ,<-ho,show zn=rf.Qb.length by omega,hze];rfl))
     (Xo.landM okF hJ Qf (y6 B rf Qa s i os zs on zn Qp)
     (by exact⟨(by exact(Ye (QM (Xb (by exact fun _=>rfl)) (Lg _)) (by exact⟨(.own (Lg _)),trivial⟩))),⟨(Xg (fun x=>List.all_eq_true.1 (by rfl))),⟨(QP (by omega) (by omega)),⟨⟨(by(rw[QT (z:=1) (fun _=>rfl)];first|omega|(simp;omega)|(simp_all;done))),(by unfold maxLen;omega),by omega,rfl⟩,⟨(X7 (Int.not_lt.1 q0)),trivial⟩⟩⟩⟩⟩) (by kernel_rfl) (by kernel_rfl))).cast (by rfl)
  ·intro s os on UX s0 s1 hon ho ⟨Qp,Zr,Xo⟩;have ZW:=QC (QB hr).1;have hpf:=(XM hp).1;have hl1:=Pj (rf:=rf);have hl2:=Pk (rf:=rf);have hq1:(XH rf.Qd rf.Qb (WN rf) (Vy rf Qa) (Qj (Z6 rf))).length=rf.Qd.toNat:=Xd;have hq2:(XH rf.Qd rf.Qb (WO rf) (Vx rf Qa) (Qj (Z7 rf))).length=rf.Qd.toNat:=Xd;have hq3:((XH rf.Qd rf.Qb (WN rf) (Vy rf Qa) (Qj (Z6 rf))).getD 0 La).length=rf.Qb.length:=W5 (rf:=rf) (s:=0) (by omega) (by omega) (by omega);have hq4:((XH rf.Qd rf.Qb (WO rf) (Vx rf Qa) (Qj (Z7 rf))).getD 0 La).length=rf.Qb.length:=W5 (rf:=rf) (s:=0) (by omega) (by omega) (by omega);have hol:(os.length:Int)=s:=by rw[ho];exact fP (by omega)
   by_cases q0:(s:Int)<rf.Qd
   ·by_cases q1:(0:Int)<((↑rf.Qb.length:Int))
    ·have hq3:=W5 (rf:=rf) (gs:=WN rf) (ts:=Vy rf Qa) (f:=Qj (Z6 rf)) (s:=s) (by omega) (by omega) (by omega);have hq4:=W5 (rf:=rf) (gs:=WO rf) (ts:=Vx rf Qa) (f:=Qj (Z7 rf)) (s:=s) (by omega) (by omega) (by omega);have hz1:(⟨((XH rf.Qd rf.Qb (WN rf) (Vy rf Qa) (Qj (Z6 rf))).getD s.toNat La).getD 0 La,((XH rf.Qd rf.Qb (WO rf) (Vx rf Qa) (Qj (Z7 rf))).getD s.toNat La).getD 0 La⟩:Span)=Yg rf Qa s 0:=Bf ((J2 (rf:=rf) (s:=s) (i:=0) (by omega) (by omega) (by omega) (by omega) (by omega))) (J2 (rf:=rf) (s:=s) (i:=0) (by omega) (by omega) (by omega) (by omega) (by omega));exact((ih0 _ (by omega)).2.1 (s) (1) (os) ([{lo:=Le (Le (XH rf.Qd rf.Qb (WN rf) (Vy rf Qa) (Qj (Z6 rf))) s.toNat La) 0 La,hi:=Le (Le (XH rf.Qd rf.Qb (WO rf) (Vx rf Qa) (Qj (Z7 rf))) s.toNat La) 0 La}]) (on) (1) rfl (by with_reducible assumption) (by with_reducible assumption) (by omega) (by omega) (by with_reducible assumption) (by with_reducible assumption) (by rfl) (by(rw[hz1];rfl))
      (Xo.landM okF hJ Qf (y5 B rf Qa s os on Qp)
      (by exact⟨(by exact(QM (Xb (by exact fun _=>rfl)) (Lg _))),⟨(Xm (by kernel_rfl)),⟨⟨by omega,by omega,(Qu (z:=1) (fun _=>rfl) (by omega))⟩,⟨⟨by omega,by omega,(Qu (z:=1) (fun _=>rfl) (by omega))⟩,⟨⟨by omega,by omega,(Qu (z:=1) (fun _=>rfl) (by omega))⟩,⟨⟨by omega,by omega,(Qu (z:=1) (fun _=>rfl) (by omega))⟩,⟨(Xh q1),⟨(Xh q0),trivial⟩⟩⟩⟩⟩⟩⟩⟩) (by kernel_rfl) (by kernel_rfl))).cast (by rfl)
    ·exfalso
     (have ZW:=QC (QB hr).1;omega)
   ·exact(GoE.endsT okF hJ Qf Xo (y4 B rf Qa s os on Qp)
     ⟨(ZE (Xb (by exact fun _=>rfl)) (Lg _)),⟨(X7 (Int.not_lt.1 q0)),trivial⟩⟩).cast (by exact Nq ho hon (by omega))
set_option maxHeartbeats 4000000 in
theorem Cd(rf:Qo)(Qa:List Int)(hr:XG rf=true)(hp:XZ rf Qa=true){B:Lo}(hJ:∀w,B.has w->J0 w):EndsT YP B (Qx YP 22 65 (([.agg (Q1 rf).toArray,Zk Qa]).map (Q7 0 4))) (Wq (Xj rf Qa)):=by
 have ZW:=QC (QB hr).1;have hpf:=(XM hp).1;have ho1:=gL Qa hr;have ho2:=jN Qa hr;have hl1:=Pj (rf:=rf);have hl2:=Pk (rf:=rf);have hq1:(XH rf.Qd rf.Qb (WN rf) (Vy rf Qa) (Qj (Z6 rf))).length=rf.Qd.toNat:=Xd;have hq2:(XH rf.Qd rf.Qb (WO rf) (Vx rf Qa) (Qj (Z7 rf))).length=rf.Qd.toNat:=Xd;have hq3:((XH rf.Qd rf.Qb (WN rf) (Vy rf Qa) (Qj (Z6 rf))).getD 0 La).length=rf.Qb.length:=W5 (rf:=rf) (s:=0) (by omega) (by omega) (by omega);have hq4:((XH rf.Qd rf.Qb (WO rf) (Vx rf Qa) (Qj (Z7 rf))).getD 0 La).length=rf.Qb.length:=W5 (rf:=rf) (s:=0) (by omega) (by omega) (by omega);have hz0:(⟨((XH rf.Qd rf.Qb (WN rf) (Vy rf Qa) (Qj (Z6 rf))).getD 0 La).getD 0 La,((XH rf.Qd rf.Qb (WO rf) (Vx rf Qa) (Qj (Z7 rf))).getD 0 La).getD 0 La⟩:Span)=Yg rf Qa 0 0:=Bf ((J2 (rf:=rf) (s:=0) (i:=0) (by omega) (by omega) (by omega) (by omega) (by omega))) (J2 (rf:=rf) (s:=0) (i:=0) (by omega) (by omega) (by omega) (by omega) (by omega));by_cases q0:(0:Int)<rf.Qd
 ·by_cases q1:(0:Int)<((↑rf.Qb.length:Int))
  ·exact((yA rf Qa hr hp hJ _).1 (1) ([{lo:=Le (Le (XH rf.Qd rf.Qb (WN rf) (Vy rf Qa) (Qj (Z6 rf))) 0 La) 0 La,hi:=Le (Le (XH rf.Qd rf.Qb (WO rf) (Vx rf Qa) (Qj (Z7 rf))) 0 La) 0 La}]) (1) rfl (by omega) (by omega) (by rfl) (by(rw[hz0];rfl))
    (GoE.start.landM okF hJ Qf (y3 B rf Qa)
    (by exact⟨(Xm (by kernel_rfl)),⟨⟨by omega,by omega,(Qu (z:=1) (fun _=>rfl) (by omega))⟩,⟨⟨by omega,by omega,(Qu (z:=1) (fun _=>rfl) (by omega))⟩,⟨⟨by omega,by omega,(Qu (z:=1) (fun _=>rfl) (by omega))⟩,⟨⟨by omega,by omega,(Qu (z:=1) (fun _=>rfl) (by omega))⟩,⟨(Xh q1),⟨(Xh q0),⟨⟨trivial,MO (rf) (Z7 rf) (WO rf) (Vx rf Qa) (by with_reducible assumption) (by with_reducible assumption) (by omega) (by omega)⟩,⟨⟨trivial,Ox (rf) (Qa) (by with_reducible assumption) (by with_reducible assumption)⟩,⟨⟨trivial,MO (rf) (Z6 rf) (WN rf) (Vy rf Qa) (by with_reducible assumption) (by with_reducible assumption) (by omega) (by omega)⟩,⟨⟨trivial,Oy (rf) (Qa) (by with_reducible assumption) (by with_reducible assumption)⟩,trivial⟩⟩⟩⟩⟩⟩⟩⟩⟩⟩⟩) (by kernel_rfl) (by kernel_rfl))).cast (by rfl)
  ·exfalso
   (have ZW:=QC (QB hr).1;omega)
 ·exfalso
  (have ZW:=QC (QB hr).1;omega)
theorem Iu(rf:Qo)(Qa:List Int)(hr:XG rf=true)(hp:XZ rf Qa=true):Qr YP J0 22 #[.agg (Q1 rf).toArray,Zk Qa] (Wq (Xj rf Qa)):=
 Xi (ts:=[.agg (Q1 rf).toArray,Zk Qa]) Za (c0:=Qx YP 22 65 (([.agg (Q1 rf).toArray,Zk Qa]).map (Q7 0 4))) (by kernel_rfl) (by kernel_rfl) fun B hJ=>Cd rf Qa hr hp hJ
end
end Go.Proofs.Ytncjjangllkokaa

namespace Go.Proofs.Ytncjjangllkokaa
open Go Go.CE Go.RowKit
noncomputable section
set_option maxRecDepth 100000
section
variable (B:Lo)(c0:CF)(xs:List (List Span))(i k:Int)(Qp:Nat->Value)
def PS:List Value:=[Q2 1 (QH xs.length (Qe Zz xs)),Q2 1 (QH xs.length (Qe Zz xs)),YI i]
def Ui(xs:List (List Span))(i:Int):List Obj:=[]
def PU:List Item:=([.code [1,1,0,1,0,0],.inLoop [1,1,0,1,0,0],.inBlock 0,.code [1,1,1]]).map (it (QG YP 23))
def yL:Prop:=∃dJ:Nat->Value,(∀t,Xe (dJ t))/\GoE YP B c0 Zb 1 (Q9 23 53 (([0,1,5]:List Nat).zip (PS xs i)) dJ PU) (Q8 (Ui xs i)) (2+(Ui xs i).length) []
def PR:List Value:=[Q2 1 (QH xs.length (Qe Zz xs)),Q2 1 (QH xs.length (Qe Zz xs)),YI i,YI k]
def Uh(xs:List (List Span))(i k:Int):List Obj:=[]
def PT:List Item:=([.code [1,1,0,1,0,0,1,0,0,1,1,0,0],.inLoop [1,1,0,1,0,0,1,0,0,1,1,0,0],.inBlock 2,.inBlock 1,.code [1,1,0,1,0,0,1,1],.inLoop [1,1,0,1,0,0],.inBlock 0,.code [1,1,1]]).map (it (QG YP 23))
def yK:Prop:=∃dJ:Nat->Value,(∀t,Xe (dJ t))/\GoE YP B c0 Zb 1 (Q9 23 53 (([0,1,5,6]:List Nat).zip (PR xs i k)) dJ PT) (Q8 (Uh xs i k)) (2+(Uh xs i k).length) []
theorem yI(B:Lo)(xs:List (List Span))(i:Int)(Qp:Nat->Value):let f:=Lb i*TypeInfo.size Try.t36;let d:=Lb i;let c:=Lb i*TypeInfo.size Try.t36+TypeInfo.size Try.t36;let a:=xs.getD d La;let e:=Qe Qk a;let b:=Ld a;landM (Qq YP (Q6 YP) J0 B 16 1 (Q9 23 53 (([0,1,5]:List Nat).zip (PS xs i)) Qp PU) (Q8 (Ui xs i)) (2+(Ui xs i).length)
 [(3,ZC),(6,Qh.tidx d #[QH b e]),(11,Qh.tidx d #[QH b e]),(14,Wi)] 0 [] []) [0,1,5,6] [] []=some ⟨23,53,PT,[],.run,none,PR xs (i) (0),Uh xs (i) (0),
 [(!Rx (↑b:Int) (↑b:Int))=false,i=(↑d:Int)/\Lb i<Ld xs/\Lj (Qe Zz xs) f c=#[QH b e],i=(↑d:Int)/\Lb i<Ld xs/\Lj (Qe Zz xs) f c=#[QH b e],XA i (↑xs.length:Int)=true]⟩:=by intro f d c a e b;kernel_rfl
theorem yH:Xq (Qq YP (Q6 YP) J0 B 9 1 (Q9 23 53 (([0,1,5]:List Nat).zip (PS xs i)) Qp PU) (Q8 (Ui xs i)) (2+(Ui xs i).length)
 [(3,Wi)] 0 [] []) []=some (.bool true,
 [XA i (↑xs.length:Int)=false]):=by kernel_rfl
def cO(B:Lo)(xs:List (List Span))(i k:Int)(Qp:Nat->Value):List Prop:=let a:=xs.getD i.toNat La;[i=(↑i.toNat:Int)/\Lb i<Ld xs/\Lj (Qe Zz xs) (Lb i*TypeInfo.size Try.t36) (Lb i*TypeInfo.size Try.t36+TypeInfo.size Try.t36)=#[QH a.length (Qe Qk a)]]++([]:List Prop)
def kP(i k:Int)(Qp:Nat->Value):QI:=[(3,Qh.tidx i.toNat #[QH (Ld (xs.getD i.toNat La)) (Qe Qk (xs.getD i.toNat La))])]
theorem yG(B:Lo)(xs:List (List Span))(i k:Int)(Qp:Nat->Value):let n:=Lb i*TypeInfo.size Try.t36;let m:=Lb k*TypeInfo.size Try.t38;let l:=Lb k;let j:=Lb i;let e:=Lb i*TypeInfo.size Try.t36+TypeInfo.size Try.t36;let d:=Lb k*TypeInfo.size Try.t38+TypeInfo.size Try.t38;let a:=xs.getD j La;let f:=Ld a;let c:=Qe Qk a;let b:=a.getD l La;let h:=b.hi;let g:=b.lo;landM (Qq YP (Q6 YP) J0 B 14 1 (Q9 23 53 (([0,1,5,6]:List Nat).zip (PR xs i k)) Qp PT) (Q8 (Uh xs i k)) (2+(Uh xs i k).length)
 (kP xs i k Qp++[(6,ZC),(9,Qh.tidx j #[QH f c]),(12,Qh.tidx l #[YI g,YI h]),(16,Qh.tidx j #[QH f c]),(19,Qh.tidx l #[YI g,YI h]),(21,Qh.Xs (Hint.eq false)),(23,Z4 (k+1))]) 0 [] []) [0,1,5,6] [] []=some ⟨23,53,PT,[],.run,none,PR xs (i) (k+1),Uh xs (i) (k+1),
 [wq (k+1)=k+1,(!(Rx g g && (Rx h h && true)))=false,k=(↑l:Int)/\Lb k<Ld a/\Lj c m d=#[YI g,YI h],i=(↑j:Int)/\Lb i<Ld xs/\Lj (Qe Zz xs) n e=#[QH f c],k=(↑l:Int)/\Lb k<Ld a/\Lj c m d=#[YI g,YI h],i=(↑j:Int)/\Lb i<Ld xs/\Lj (Qe Zz xs) n e=#[QH f c],XA k (↑f:Int)=true]++cO B xs i k Qp⟩:=by intro n m l j e d a f c b h g;kernel_rfl
theorem yF:landM (Qq YP (Q6 YP) J0 B 8 1 (Q9 23 53 (([0,1,5,6]:List Nat).zip (PR xs i k)) Qp PT) (Q8 (Uh xs i k)) (2+(Uh xs i k).length)
 (kP xs i k Qp++[(6,Wi),(8,Z4 (i+1))]) 0 [] []) [0,1,5] [] []=some ⟨23,53,PU,[],.run,none,PS xs (i+1),Ui xs (i+1),
 [wq (i+1)=i+1,XA k (↑(Ld (xs.getD i.toNat La)):Int)=false]++cO B xs i k Qp⟩:=by kernel_rfl
theorem yE:landM (Qq YP (Q6 YP) J0 B 12 1 (Qx YP 23 53 (([Wq xs,Wq xs]).map (Q7 0 4))) Zb 1
 [(5,Wi)] 0 [] []) [0,1,5] [] []=some ⟨23,53,PU,[],.run,none,PS xs (0),Ui xs (0),
 [(!Rx (↑xs.length:Int) (↑xs.length:Int))=false]⟩:=by kernel_rfl
end
set_option maxHeartbeats 4000000 in
theorem yJ(xs:List (List Span))(hx:∀k:Int,0<=k->k<xs.length->(xs.getD k.toNat La).length<=1000000)(XV:xs.length<=9223372036854775807){B:Lo}(hJ:∀w,B.has w->J0 w){c0:CF}:∀m:Nat,(∀(i:Int),10000000*(xs.length-i.toNat)=m->∀(i0:0<=i),yL B c0 xs i->EndsT YP B c0 (.bool true))/\(∀(i k:Int),10000000*(xs.length-i.toNat)-5000000+((xs.getD i.toNat La).length-k.toNat)=m->∀(i0:0<=i) (i1:i<xs.length) (k0:0<=k),yK B c0 xs i k->EndsT YP B c0 (.bool true)):=by
 intro m0;induction m0 using LB with
 |_ m0 ih0=>
  refine⟨?_, ?_⟩
  ·intro i UX i0 ⟨Qp,Zr,Xo⟩;by_cases q0:(i:Int)<((↑xs.length:Int))
   ·have hxi:=hx i i0 (by omega);exact((ih0 _ (by omega)).2 (i) (0) rfl (by with_reducible assumption) (by with_reducible assumption) (by omega)
     (Xo.landM okF hJ Qf (yI B xs i Qp)
     ⟨(m9 rfl),⟨⟨by omega,by omega,(Qu (z:=1) (fun _=>rfl) (by omega))⟩,⟨⟨by omega,by omega,(Qu (z:=1) (fun _=>rfl) (by omega))⟩,⟨(Xh q0),trivial⟩⟩⟩⟩ (by kernel_rfl) (by kernel_rfl))).cast (by rfl)
   ·exact(GoE.endsT okF hJ Qf Xo (yH B xs i Qp)
     ⟨(X7 (Int.not_lt.1 q0)),trivial⟩).cast rfl
  ·intro i k UX i0 i1 k0 ⟨Qp,Zr,Xo⟩;have hxi:=hx i i0 i1;have Uc:Q3 (cO B xs i k Qp):=by
    exact⟨⟨by omega,by omega,(Qu (z:=1) (fun _=>rfl) (by omega))⟩,trivial⟩
   by_cases q0:(k:Int)<((↑(Ld (xs.getD i.toNat La)):Int))
   ·exact((ih0 _ (by omega)).2 (i) (k+1) rfl (by with_reducible assumption) (by with_reducible assumption) (by omega)
     (Xo.landM okF hJ Qf (yG B xs i k Qp)
     ⟨(QP (by omega) (by omega)),⟨(by simp[du]),⟨⟨by omega,by omega,(Qu (z:=2) (fun _=>rfl) (by omega))⟩,⟨⟨by omega,by omega,(Qu (z:=1) (fun _=>rfl) (by omega))⟩,⟨⟨by omega,by omega,(Qu (z:=2) (fun _=>rfl) (by omega))⟩,⟨⟨by omega,by omega,(Qu (z:=1) (fun _=>rfl) (by omega))⟩,⟨(Xh q0),Uc⟩⟩⟩⟩⟩⟩⟩ (by kernel_rfl) (by kernel_rfl))).cast (by rfl)
   ·exact((ih0 _ (by omega)).1 (i+1) rfl (by omega)
     (Xo.landM okF hJ Qf (yF B xs i k Qp)
     ⟨(QP (by omega) (by omega)),⟨(X7 (Int.not_lt.1 q0)),Uc⟩⟩ (by kernel_rfl) (by kernel_rfl))).cast (by rfl)
set_option maxHeartbeats 4000000 in
theorem Ce(xs:List (List Span))(hx:∀k:Int,0<=k->k<xs.length->(xs.getD k.toNat La).length<=1000000)(XV:xs.length<=9223372036854775807){B:Lo}(hJ:∀w,B.has w->J0 w):EndsT YP B (Qx YP 23 53 (([Wq xs,Wq xs]).map (Q7 0 4))) (.bool true):=by
 exact((yJ xs hx XV hJ _).1 (0) rfl (by omega)
  (GoE.start.landM okF hJ Qf (yE B xs)
  ⟨(m9 rfl),trivial⟩ (by kernel_rfl) (by kernel_rfl))).cast (by rfl)
theorem Ix(xs:List (List Span))(hx:∀k:Int,0<=k->k<xs.length->(xs.getD k.toNat La).length<=1000000):Qr YP J0 23 #[Wq xs,Wq xs] (.bool true):=
 UQ (ts:=[Wq xs,Wq xs]) (xs.length<=9223372036854775807) (fun _ _ ht=>ht.ln (i:=0) rfl) Za (c0:=Qx YP 23 53 (([Wq xs,Wq xs]).map (Q7 0 4))) (by kernel_rfl) (by kernel_rfl) fun XV B hJ=>Ce xs hx XV hJ
theorem uq(B:Lo)(r:Qo)(a b:Int):let c:=X6 r.Qc a;let d:=YI c;Xq (Qq YP (Q6 YP) J0 B 6 1 (Qx YP 24 12 (([.agg (Q1 r).toArray,.agg #[YI a,YI b]]).map (Q7 0 4))) Zb 1
 [(6,Qh.pure d [])] 0 [] []) []=some (.agg #[YI c,YI b],
 [Q3 []/\Qr YP J0 57 #[.agg #[QH r.Qb.length (Qe Qi r.Qb),YI r.Qc,YI r.Qd],YI a] d]):=by intro c d;kernel_rfl
set_option maxHeartbeats 4000000 in
theorem yM(r:Qo)(a b:Int)(hm:0<=r.Qc/\r.Qc<=2000)(hn:0<=a/\a<=1000000000000){B:Lo}(hJ:∀w,B.has w->J0 w):EndsT YP B (Qx YP 24 12 (([.agg (Q1 r).toArray,.agg #[YI a,YI b]]).map (Q7 0 4))) (.agg #[YI (X6 r.Qc a),YI b]):=by
 exact(GoE.endsT okF hJ Qf GoE.start (uq B r a b)
  ⟨⟨trivial,Nw (r) (a) (by with_reducible assumption) (by with_reducible assumption)⟩,trivial⟩).cast (by rfl)
theorem FZ(r:Qo)(a b:Int)(hm:0<=r.Qc/\r.Qc<=2000)(hn:0<=a/\a<=1000000000000):Qr YP J0 24 #[.agg (Q1 r).toArray,.agg #[YI a,YI b]] (.agg #[YI (X6 r.Qc a),YI b]):=
 Xi (ts:=[.agg (Q1 r).toArray,.agg #[YI a,YI b]]) Za (c0:=Qx YP 24 12 (([.agg (Q1 r).toArray,.agg #[YI a,YI b]]).map (Q7 0 4))) (by kernel_rfl) (by kernel_rfl) fun B hJ=>yM r a b hm hn hJ
theorem D3(B:Lo)(rf:Qo):Xq (Qq YP (Q6 YP) J0 B 11 1 (Qx YP 17 6 (([.agg (Q1 rf).toArray]).map (Q7 0 4))) Zb 1
 [(3,Qh.pure (.bool true) [])] 0 [] []) []=some (YI 0,
 [Q3 []/\Qr YP J0 50 #[.agg #[QH rf.Qb.length (Qe Qi rf.Qb),YI rf.Qc,YI rf.Qd]] (.bool true)]):=by kernel_rfl
theorem D2(B:Lo)(rf:Qo):Xq (Qq YP (Q6 YP) J0 B 10 1 (Qx YP 17 6 (([.agg (Q1 rf).toArray]).map (Q7 0 4))) Zb 1
 [(3,Qh.pure (.bool false) [])] 0 [] []) []=some (YI 2,
 [Q3 []/\Qr YP J0 50 #[.agg #[QH rf.Qb.length (Qe Qi rf.Qb),YI rf.Qc,YI rf.Qd]] (.bool false)]):=by kernel_rfl
set_option maxHeartbeats 4000000 in
theorem GN(rf:Qo)  {B:Lo}(hJ:∀w,B.has w->J0 w):EndsT YP B (Qx YP 17 6 (([.agg (Q1 rf).toArray]).map (Q7 0 4))) (YI (if XW rf then 0 else 2)):=by
 cases q0:XW rf with
 |true=>
  exact(GoE.endsT okF hJ Qf GoE.start (D3 B rf)
   ⟨⟨trivial,(by have t_:=bN (rf);rw[q0]at t_;exact t_)⟩,trivial⟩).cast (by rfl)
 |false=>
  exact(GoE.endsT okF hJ Qf GoE.start (D2 B rf)
   ⟨⟨trivial,(by have t_:=bN (rf);rw[q0]at t_;exact t_)⟩,trivial⟩).cast (by rfl)
theorem GO(rf:Qo)  :Qr YP J0 17 #[.agg (Q1 rf).toArray] (YI (if XW rf then 0 else 2)):=
 Xi (ts:=[.agg (Q1 rf).toArray]) Za (c0:=Qx YP 17 6 (([.agg (Q1 rf).toArray]).map (Q7 0 4))) (by kernel_rfl) (by kernel_rfl) fun B hJ=>GN rf  hJ
section
variable (B:Lo)(c0:CF)(rf:Qo)(Qa:List Int)(s i:Int)(Qp:Nat->Value)
def YA:List Value:=[pA 2 0,Q2 1 (QH (Ld (Xk rf Qa)) (Qe Zz (Xk rf Qa))),Q2 1 (QH (Ld (Xj rf Qa)) (Qe Zz (Xj rf Qa))),YI s]
def WL(Qa:List Int)(s:Int):List Obj:=[Obj.cells #[Q2 1 (QH rf.Qb.length (Qe Qi rf.Qb)),YI rf.Qc,YI rf.Qd] 24]
def YD:List Item:=([.code [1,1,1,1,1,1,1,1,1,0,1,0,0],.inLoop [1,1,1,1,1,1,1,1,1,0,1,0,0],.inBlock 0,.code [1,1,1,1,1,1,1,1,1,1]]).map (it (QG YP 3))
def yu:Prop:=∃dJ:Nat->Value,(∀t,Xe (dJ t))/\GoE YP B c0 Zb 1 (Q9 3 139 (([2,8,11,12]:List Nat).zip (YA rf Qa s)) dJ YD) (Q8 (WL rf Qa s)) (2+(WL rf Qa s).length) []
def Y9:List Value:=[pA 2 0,Q2 1 (QH (Ld (Xk rf Qa)) (Qe Zz (Xk rf Qa))),Q2 1 (QH (Ld (Xj rf Qa)) (Qe Zz (Xj rf Qa))),YI s,YI i]
def Ky(Qa:List Int)(s i:Int):List Obj:=[Obj.cells #[Q2 1 (QH rf.Qb.length (Qe Qi rf.Qb)),YI rf.Qc,YI rf.Qd] 24]
def YC:List Item:=([.code [1,1,1,1,1,1,1,1,1,0,1,0,0,1,0,0,1,1,0,0],.inLoop [1,1,1,1,1,1,1,1,1,0,1,0,0,1,0,0,1,1,0,0],.inBlock 2,.inBlock 1,.code [1,1,1,1,1,1,1,1,1,0,1,0,0,1,1],.inLoop [1,1,1,1,1,1,1,1,1,0,1,0,0],.inBlock 0,.code [1,1,1,1,1,1,1,1,1,1]]).map (it (QG YP 3))
def yr:Prop:=∃dJ:Nat->Value,(∀t,Xe (dJ t))/\GoE YP B c0 Zb 1 (Q9 3 139 (([2,8,11,12,13]:List Nat).zip (Y9 rf Qa s i)) dJ YC) (Q8 (Ky rf Qa s i)) (2+(Ky rf Qa s i).length) []
def c9:Array Value:=#[.agg #[QH rf.Qb.length (Qe Qi rf.Qb),YI rf.Qc,YI rf.Qd],QH Qa.length (Qe Q0 Qa)]
def Kx:Array Value:=#[.agg #[QH rf.Qb.length (Qe Qi rf.Qb),YI rf.Qc,YI rf.Qd]]
def cG(B:Lo)(rf:Qo)(Qa:List Int)(s:Int)(Qp:Nat->Value):List Prop:=let e:=Lb s*TypeInfo.size Try.t36;let d:=Xk rf Qa;let c:=Lb s*TypeInfo.size Try.t36+TypeInfo.size Try.t36;let b:=Xj rf Qa;let a:=Lb s;[s=(↑a:Int)/\Lb s<Ld b/\Lj (Qe Zz b) e c=#[QH (Ld (b.getD a La)) (Qe Qk (b.getD a La))],s=(↑a:Int)/\Lb s<Ld d/\Lj (Qe Zz d) e c=#[QH (Ld (d.getD a La)) (Qe Qk (d.getD a La))],XA s (↑b.length:Int)=true]++([]:List Prop)
def kz(Qp:Nat->Value):QI:=let a:=Lb s;let c:=Le (Xj rf Qa) a La;let b:=Le (Xk rf Qa) a La;[(3,ZC),(6,Qh.tidx a #[QH b.length (Qe Qk b)]),(11,Qh.tidx a #[QH c.length (Qe Qk c)])]
theorem yp:Xq (Qq YP (Q6 YP) J0 B 15 1 (Q9 3 139 (([2,8,11,12]:List Nat).zip (YA rf Qa s)) Qp YD) (Q8 (WL rf Qa s)) (2+(WL rf Qa s).length)
 (kz rf Qa s Qp++[(14,ZC)]) 0 [] []) []=some (.bool false,
 [(!Rx (↑(Ld (Le (Xk rf Qa) s.toNat La)):Int) (↑(Ld (Le (Xj rf Qa) s.toNat La)):Int))=true]++cG B rf Qa s Qp):=by kernel_rfl
theorem yo:landM (Qq YP (Q6 YP) J0 B 16 1 (Q9 3 139 (([2,8,11,12]:List Nat).zip (YA rf Qa s)) Qp YD) (Q8 (WL rf Qa s)) (2+(WL rf Qa s).length)
 (kz rf Qa s Qp++[(14,Wi)]) 0 [] []) [2,8,11,12,13] [(2,KS.auto)] []=some ⟨3,139,YC,[],.run,none,Y9 rf Qa (s) (0),Ky rf Qa (s) (0),
 [(!Rx (↑(Ld (Le (Xk rf Qa) s.toNat La)):Int) (↑(Ld (Le (Xj rf Qa) s.toNat La)):Int))=false]++cG B rf Qa s Qp⟩:=by kernel_rfl
theorem yn:Xq (Qq YP (Q6 YP) J0 B 9 1 (Q9 3 139 (([2,8,11,12]:List Nat).zip (YA rf Qa s)) Qp YD) (Q8 (WL rf Qa s)) (2+(WL rf Qa s).length)
 [(3,Wi),(4,Qh.pure (.bool true) [])] 0 [] []) []=some (.bool true,
 [Q3 []/\Qr YP J0 16 #[] (.bool true),XA s (↑(Ld (Xj rf Qa)):Int)=false]):=by kernel_rfl
def cF(B:Lo)(rf:Qo)(Qa:List Int)(s i:Int)(Qp:Nat->Value):List Prop:=let b:=Xj rf Qa;let a:=b.getD s.toNat La;[s=(↑s.toNat:Int)/\Lb s<Ld b/\Lj (Qe Zz b) (Lb s*TypeInfo.size Try.t36) (Lb s*TypeInfo.size Try.t36+TypeInfo.size Try.t36)=#[QH a.length (Qe Qk a)]]++([]:List Prop)
def ky(s i:Int)(Qp:Nat->Value):QI:=[(3,Qh.tidx s.toNat #[QH (Ld (Le (Xj rf Qa) s.toNat La)) (Qe Qk (Le (Xj rf Qa) s.toNat La))])]
def cE:List Prop:=let l:=Xj rf Qa;let k:=Xk rf Qa;let j:=Lb s*TypeInfo.size Try.t36;let h:=Lb i*TypeInfo.size Try.t38;let g:=Lb s;let f:=Lb i;let e:=Lb s*TypeInfo.size Try.t36+TypeInfo.size Try.t36;let d:=Lb i*TypeInfo.size Try.t38+TypeInfo.size Try.t38;let b:=k.getD g La;let a:=l.getD g La;let c:=a.getD f La;[Q3 []/\Qr YP J0 24 #[.agg #[QH rf.Qb.length (Qe Qi rf.Qb),YI rf.Qc,YI rf.Qd],.agg #[YI c.lo,YI c.hi]] (.agg #[YI (X6 rf.Qc c.lo),YI c.hi]),i=(↑f:Int)/\Lb i<Ld a/\Lj (Qe Qk a) h d=#[YI c.lo,YI c.hi],s=(↑g:Int)/\Lb s<Ld l/\Lj (Qe Zz l) j e=#[QH a.length (Qe Qk a)],i=(↑f:Int)/\Lb i<Ld b/\Lj (Qe Qk b) h d=#[YI (Span.lo (b.getD f La)),YI (Span.hi (b.getD f La))],s=(↑g:Int)/\Lb s<Ld k/\Lj (Qe Zz k) j e=#[QH b.length (Qe Qk b)],XA i (↑a.length:Int)=true]++cF B rf Qa s i Qp
def kx:QI:=let e:=Lb s;let d:=Lb i;let c:=Le (Xj rf Qa) e La;let b:=Le (Xk rf Qa) e La;let a:=c.getD d La;ky rf Qa s i Qp++[(6,ZC),(9,Qh.tidx e #[QH b.length (Qe Qk b)]),(12,Qh.tidx d #[YI (Span.lo (b.getD d La)),YI (Span.hi (b.getD d La))]),(17,Qh.tidx e #[QH c.length (Qe Qk c)]),(20,Qh.tidx d #[YI a.lo,YI a.hi]),(22,Qh.pure (.agg #[YI (X6 rf.Qc a.lo),YI a.hi]) [])]
theorem ym(B:Lo)(rf:Qo)(Qa:List Int)(s i:Int)(Qp:Nat->Value):let c:=Ky rf Qa s i;let b:=Le (Le (Xj rf Qa) s.toNat La) i.toNat La;let a:=Le (Le (Xk rf Qa) s.toNat La) i.toNat La;landM (Qq YP (Q6 YP) J0 B 14 1 (Q9 3 139 (([2,8,11,12,13]:List Nat).zip (Y9 rf Qa s i)) Qp YC) (Q8 c) (2+c.length)
 (kx rf Qa s i Qp++[(23,Qh.Xs (Hint.eq false)),(25,Z4 (i+1))]) 0 [] []) [2,8,11,12,13] [(2,KS.auto)] []=some ⟨3,139,YC,[],.run,none,Y9 rf Qa (s) (i+1),Ky rf Qa (s) (i+1),
 [wq (i+1)=i+1,(!(Rx a.lo (X6 rf.Qc b.lo) && (Rx a.hi b.hi && true)))=false]++cE B rf Qa s i Qp⟩:=by intro c b a;kernel_rfl
theorem yl(B:Lo)(rf:Qo)(Qa:List Int)(s i:Int)(Qp:Nat->Value):let c:=Ky rf Qa s i;let b:=Le (Le (Xj rf Qa) s.toNat La) i.toNat La;let a:=Le (Le (Xk rf Qa) s.toNat La) i.toNat La;Xq (Qq YP (Q6 YP) J0 B 14 1 (Q9 3 139 (([2,8,11,12,13]:List Nat).zip (Y9 rf Qa s i)) Qp YC) (Q8 c) (2+c.length)
 (kx rf Qa s i Qp++[(23,Qh.Xs (Hint.eq true))]) 0 [] []) []=some (.bool false,
 [(!(Rx a.lo (X6 rf.Qc b.lo) && (Rx a.hi b.hi && true)))=true]++cE B rf Qa s i Qp):=by intro c b a;kernel_rfl
theorem yj(B:Lo)(rf:Qo)(Qa:List Int)(s i:Int)(Qp:Nat->Value):let a:=Ky rf Qa s i;landM (Qq YP (Q6 YP) J0 B 8 1 (Q9 3 139 (([2,8,11,12,13]:List Nat).zip (Y9 rf Qa s i)) Qp YC) (Q8 a) (2+a.length)
 (ky rf Qa s i Qp++[(6,Wi),(8,Z4 (s+1))]) 0 [] []) [2,8,11,12] [(2,KS.auto)] []=some ⟨3,139,YD,[],.run,none,YA rf Qa (s+1),WL rf Qa (s+1),
 [wq (s+1)=s+1,XA i (↑(Ld (Le (Xj rf Qa) s.toNat La)):Int)=false]++cF B rf Qa s i Qp⟩:=by intro a;kernel_rfl
def cD(B:Lo)(rf:Qo)(Qa:List Int):List Prop:=[Q3 []/\Qr YP J0 15 (Kx rf) (.bool true)]++([]:List Prop)
def ku(rf:Qo)(Qa:List Int):QI:=[(3,Qh.pure (.bool true) [])]
theorem yi:Xq (Qq YP (Q6 YP) J0 B 10 1 (Qx YP 3 139 (([.agg (Q1 rf).toArray,Zk Qa]).map (Q7 0 4))) Zb 1
 (ku rf Qa++[(8,ZC),(10,Qh.pure (.bool true) [])]) 0 [] []) []=some (.bool true,
 [Q3 []/\Qr YP J0 16 #[] (.bool true),XA 8 (↑Qa.length:Int)=true]++cD B rf Qa):=by kernel_rfl
def cC:List Prop:=[XA 8 (↑Qa.length:Int)=false]++cD B rf Qa
def kq:QI:=ku rf Qa++[(8,Wi)]
def cB:List Prop:=[Q3 []/\Qr YP J0 17 (Kx rf) (YI 0)]++cC B rf Qa
def kj:QI:=kq rf Qa++[(11,Qh.pure (YI 0) [])]
def cA:List Prop:=let e:=Value.bool true;let b:=c9 rf Qa;let a:=Xj rf Qa;let d:=Qe Zz a;let c:=Ld a;[Q3 []/\Qr YP J0 23 #[QH c d,QH c d] e,Q3 []/\Qr YP J0 22 b (QH c d),Q3 []/\Qr YP J0 21 b e,Q3 []/\Qr YP J0 20 (Kx rf) e,Q3 []/\Qr YP J0 19 b (.tuple #[QH (Ld (Xk rf Qa)) (Qe Zz (Xk rf Qa)),YI 0]),Q3 []/\Qr YP J0 18 b (.tuple #[QH c d,YI 0])]++cB B rf Qa
def ki:QI:=let b:=Value.bool true;let a:=Xj rf Qa;kj rf Qa++[(15,Qh.pure (.tuple #[QH a.length (Qe Zz a),YI 0]) []),(23,Qh.pure (.tuple #[QH (Ld (Xk rf Qa)) (Qe Zz (Xk rf Qa)),YI 0]) []),(30,Qh.pure b []),(47,Qh.pure b []),(51,Qh.pure (QH a.length (Qe Zz a)) []),(62,Qh.pure b [])]
theorem yh:Xq (Qq YP (Q6 YP) J0 B 35 1 (Qx YP 3 139 (([.agg (Q1 rf).toArray,Zk Qa]).map (Q7 0 4))) Zb 1
 (ki rf Qa++[(70,ZC)]) 0 [] []) []=some (.bool false,
 [(!Rx (↑(Ld (Xk rf Qa)):Int) (↑(Ld (Xj rf Qa)):Int))=true]++cA B rf Qa):=by kernel_rfl
theorem yg:landM (Qq YP (Q6 YP) J0 B 37 1 (Qx YP 3 139 (([.agg (Q1 rf).toArray,Zk Qa]).map (Q7 0 4))) Zb 1
 (ki rf Qa++[(70,Wi)]) 0 [] []) [2,8,11,12] [(1,KS.auto)] []=some ⟨3,139,YD,[],.run,none,YA rf Qa (0),WL rf Qa (0),
 [(!Rx (↑(Ld (Xk rf Qa)):Int) (↑(Ld (Xj rf Qa)):Int))=false]++cA B rf Qa⟩:=by kernel_rfl
theorem yf(B:Lo)(rf:Qo)(Qa:List Int):let c:=c9 rf Qa;let b:=Value.bool true;let a:=Value.tuple #[QH 0 #[],YI 2];Xq (Qq YP (Q6 YP) J0 B 28 1 (Qx YP 3 139 (([.agg (Q1 rf).toArray,Zk Qa]).map (Q7 0 4))) Zb 1
 (kj rf Qa++[(15,Qh.pure a []),(23,Qh.pure a []),(30,Qh.pure b []),(47,Qh.pure (.bool false) []),(64,Qh.pure b [])]) 0 [] []) []=some (.bool true,
 [Q3 []/\Qr YP J0 16 #[] b,Q3 []/\Qr YP J0 21 c (.bool false),Q3 []/\Qr YP J0 20 (Kx rf) b,Q3 []/\Qr YP J0 19 c a,Q3 []/\Qr YP J0 18 c a]++cB B rf Qa):=by intro c b a;kernel_rfl
theorem sN(B:Lo)(rf:Qo)(Qa:List Int):let d:=YI 2;let c:=c9 rf Qa;let b:=Value.bool false;let a:=Value.tuple #[QH 0 #[],YI 2];Xq (Qq YP (Q6 YP) J0 B 28 1 (Qx YP 3 139 (([.agg (Q1 rf).toArray,Zk Qa]).map (Q7 0 4))) Zb 1
 (kq rf Qa++[(11,Qh.pure d []),(15,Qh.pure a []),(23,Qh.pure a []),(30,Qh.pure b []),(47,Qh.pure b []),(64,Qh.pure (.bool true) [])]) 0 [] []) []=some (.bool true,
 [Q3 []/\Qr YP J0 16 #[] (.bool true),Q3 []/\Qr YP J0 21 c b,Q3 []/\Qr YP J0 20 (Kx rf) b,Q3 []/\Qr YP J0 19 c a,Q3 []/\Qr YP J0 18 c a,Q3 []/\Qr YP J0 17 (Kx rf) d]++cC B rf Qa):=by intro d c b a;kernel_rfl
theorem sM:Xq (Qq YP (Q6 YP) J0 B 10 1 (Qx YP 3 139 (([.agg (Q1 rf).toArray,Zk Qa]).map (Q7 0 4))) Zb 1
 [(3,Qh.pure (.bool false) []),(10,Qh.pure (.bool true) [])] 0 [] []) []=some (.bool true,
 [Q3 []/\Qr YP J0 16 #[] (.bool true),Q3 []/\Qr YP J0 15 (Kx rf) (.bool false)]):=by kernel_rfl
end
set_option maxHeartbeats 4000000 in
theorem yq(rf:Qo)(Qa:List Int)  (XV:Qa.length<=9223372036854775807){B:Lo}(hJ:∀w,B.has w->J0 w){c0:CF}:∀m:Nat,(∀(s:Int),100*(rf.Qd-s).toNat=m->∀(hr:XW rf=true) (Vv:XZ rf Qa=true) (s0:0<=s),yu B c0 rf Qa s->EndsT YP B c0 (.bool true))/\(∀(s i:Int),100*(rf.Qd-s).toNat-50+(rf.Qb.length-i.toNat)=m->∀(hr:XW rf=true) (Vv:XZ rf Qa=true) (s0:0<=s) (s1:s<rf.Qd) (i0:0<=i),yr B c0 rf Qa s i->EndsT YP B c0 (.bool true)):=by
 intro m0;induction m0 using LB with
 |_ m0 ih0=>
  refine⟨?_, ?_⟩
  ·intro s UX hr Vv s0 ⟨Qp,Zr,Xo⟩;have hkl:(Xj rf Qa).length=rf.Qd.toNat:=Xd;have hcl:(Xk rf Qa).length=rf.Qd.toNat:=Xd;have ZW:=QC (Zy hr).1;by_cases q0:(s:Int)<((↑(Ld (Xj rf Qa)):Int))
   ·have Uc:Q3 (cG B rf Qa s Qp):=by
     exact⟨⟨by omega,by omega,(Qu (z:=1) (fun _=>rfl) (by omega))⟩,⟨⟨by omega,by omega,(Qu (z:=1) (fun _=>rfl) (by omega))⟩,⟨(Xh q0),trivial⟩⟩⟩
    by_cases q1:((↑(Ld (Le (Xk rf Qa) s.toNat La)):Int):Int)≠((↑(Ld (Le (Xj rf Qa) s.toNat La)):Int))
    ·have hlc:=cg (rf:=rf) (Qa:=Qa) s0 (by omega);exact(GoE.endsT okF hJ Qf Xo (yp B rf Qa s Qp)
      ⟨(zX q1),Uc⟩).cast (by(exfalso;omega))
    ·have hlc:=cg (rf:=rf) (Qa:=Qa) s0 (by omega);exact((ih0 _ (by omega)).2 (s) (0) rfl (by with_reducible assumption) (by with_reducible assumption) (by with_reducible assumption) (by omega) (by omega)
      (Xo.landM okF hJ Qf (yo B rf Qa s Qp)
      ⟨(m9 (Decidable.of_not_not q1)),Uc⟩ (by kernel_rfl) (by kernel_rfl))).cast (by rfl)
   ·exact(GoE.endsT okF hJ Qf Xo (yn B rf Qa s Qp)
     ⟨⟨trivial,known⟩,⟨(X7 (Int.not_lt.1 q0)),trivial⟩⟩).cast rfl
  ·intro s i UX hr Vv s0 s1 i0 ⟨Qp,Zr,Xo⟩;have hkl:(Xj rf Qa).length=rf.Qd.toNat:=Xd;have hcl:(Xk rf Qa).length=rf.Qd.toNat:=Xd;have ZW:=QC (Zy hr).1;have hlc:=cg (rf:=rf) (Qa:=Qa) s0 s1;have Yi:Q3 (cF B rf Qa s i Qp):=by
    exact⟨⟨by omega,by omega,(Qu (z:=1) (fun _=>rfl) (by omega))⟩,trivial⟩
   by_cases q0:(i:Int)<((↑(Ld (Le (Xj rf Qa) s.toNat La)):Int))
   ·have Sm:Q3 (cE B rf Qa s i Qp):=by
     have hlo:0<=(((Xj rf Qa).getD s.toNat La).getD i.toNat La).lo/\(((Xj rf Qa).getD s.toNat La).getD i.toNat La).lo<=1000000000000:=(by rw[kC s0 s1 i0 (by omega)];have hf:=W4 (((gL Qa (PJ hr)).st (s.toNat+1) (by omega)).1) i0 (by omega);exact⟨hf.1,Int.le_trans (Int.le_trans hf.2.1 hf.2.2) (by decide)⟩)
     exact⟨⟨trivial,FZ (rf) (Span.lo (Le (Le (Xj rf Qa) s.toNat La) i.toNat La)) (Span.hi (Le (Le (Xj rf Qa) s.toNat La) i.toNat La)) (by omega) (by with_reducible assumption)⟩,⟨⟨by omega,by omega,(Qu (z:=2) (fun _=>rfl) (by omega))⟩,⟨⟨by omega,by omega,(Qu (z:=1) (fun _=>rfl) (by omega))⟩,⟨⟨by omega,by omega,(Qu (z:=2) (fun _=>rfl) (by omega))⟩,⟨⟨by omega,by omega,(Qu (z:=1) (fun _=>rfl) (by omega))⟩,⟨(Xh q0),Yi⟩⟩⟩⟩⟩⟩
    cases q1:Rx (Span.lo (Le (Le (Xk rf Qa) s.toNat La) i.toNat La)) (X6 rf.Qc (Span.lo (Le (Le (Xj rf Qa) s.toNat La) i.toNat La))) && Rx (Span.hi (Le (Le (Xk rf Qa) s.toNat La) i.toNat La)) (Span.hi (Le (Le (Xj rf Qa) s.toNat La) i.toNat La))with
    |true=>
     exact((ih0 _ (by omega)).2 (s) (i+1) rfl (by with_reducible assumption) (by with_reducible assumption) (by with_reducible assumption) (by with_reducible assumption) (by omega)
      (Xo.landM okF hJ Qf (ym B rf Qa s i Qp)
      ⟨(QP (by omega) (by omega)),⟨(by(rw[Bool.and_true,q1];rfl)),Sm⟩⟩ (by kernel_rfl) (by kernel_rfl))).cast (by rfl)
    |false=>
     have he1:X6 rf.Qc (((Xj rf Qa).getD s.toNat La).getD i.toNat La).lo=(((Xk rf Qa).getD s.toNat La).getD i.toNat La).lo:=(by rw[kC s0 s1 i0 (by omega),xP s0 s1 i0 (by omega)];rfl)
     have he2:(((Xj rf Qa).getD s.toNat La).getD i.toNat La).hi=(((Xk rf Qa).getD s.toNat La).getD i.toNat La).hi:=(by rw[kC s0 s1 i0 (by omega),xP s0 s1 i0 (by omega)];rfl)
     exact(GoE.endsT okF hJ Qf Xo (yl B rf Qa s i Qp)
      ⟨(by(rw[Bool.and_true,q1];rfl)),Sm⟩).cast (by(exfalso;have ee:∀z:Int,Rx z z=true:=fun z=>(bl rfl);simp_all;done))
   ·exact((ih0 _ (by omega)).1 (s+1) rfl (by with_reducible assumption) (by with_reducible assumption) (by omega)
     (Xo.landM okF hJ Qf (yj B rf Qa s i Qp)
     ⟨(QP (by omega) (by omega)),⟨(X7 (Int.not_lt.1 q0)),Yi⟩⟩ (by kernel_rfl) (by kernel_rfl))).cast (by rfl)
set_option maxHeartbeats 4000000 in
theorem BQ(rf:Qo)(Qa:List Int)  (XV:Qa.length<=9223372036854775807){B:Lo}(hJ:∀w,B.has w->J0 w):EndsT YP B (Qx YP 3 139 (([.agg (Q1 rf).toArray,Zk Qa]).map (Q7 0 4))) (.bool true):=by
 have hkl:(Xj rf Qa).length=rf.Qd.toNat:=Xd;have hcl:(Xk rf Qa).length=rf.Qd.toNat:=Xd;cases q0:decide (Ld rf.Qb<=8)with
 |true=>
  have hp3:Q3 (cD B rf Qa):=by
   exact⟨⟨trivial,(by have t_:=He (rf);rw[q0]at t_;exact t_)⟩,trivial⟩
  by_cases q1:(8:Int)<((↑Qa.length:Int))
  ·exact(GoE.endsT okF hJ Qf GoE.start (yi B rf Qa)
    ⟨⟨trivial,known⟩,⟨(Xh q1),hp3⟩⟩).cast rfl
  ·have hp4:Q3 (cC B rf Qa):=by
    exact⟨(X7 (Int.not_lt.1 q1)),hp3⟩
   cases q2:XW rf with
   |true=>
    have hp5:Q3 (cB B rf Qa):=by
     exact⟨⟨trivial,(by have t_:=GO (rf);rw[q2]at t_;exact t_)⟩,hp4⟩
    cases q3:XZ rf Qa with
    |true=>
     have hp6:Q3 (cA B rf Qa):=by
      have Ry:=PJ ‹XW rf=true›;have ZW:=QC (Zy ‹XW rf=true›).1;have hss:∀k:Int,0<=k->k<(Xj rf Qa).length->((Xj rf Qa).getD k.toNat La).length<=1000000:=fun k k0 k1=>by have:=(cg (rf:=rf) (Qa:=Qa) k0 (by omega)).2;omega
      exact⟨⟨trivial,Ix (Xj rf Qa) (by with_reducible assumption)⟩,⟨⟨trivial,Iu (rf) (Qa) (by with_reducible assumption) (by with_reducible assumption)⟩,⟨⟨trivial,(by have t_:=Av (rf) (Qa);rw[q2,q3]at t_;exact t_)⟩,⟨⟨trivial,(by have t_:=tQ (rf);rw[q2]at t_;exact t_)⟩,⟨⟨trivial,(by have t_:=rE (rf) (Qa);rw[q2,q3]at t_;exact t_)⟩,⟨⟨trivial,(by have t_:=r9 (rf) (Qa);rw[q2,q3]at t_;exact t_)⟩,hp5⟩⟩⟩⟩⟩⟩
     by_cases q4:((↑(Ld (Xk rf Qa)):Int):Int)≠((↑(Ld (Xj rf Qa)):Int))
     ·exact(GoE.endsT okF hJ Qf GoE.start (yh B rf Qa)
       ⟨(zX q4),hp6⟩).cast (by(exfalso;omega))
     ·exact((yq rf Qa XV hJ _).1 (0) rfl (by with_reducible assumption) (by with_reducible assumption) (by omega)
       (GoE.start.landM okF hJ Qf (yg B rf Qa)
       ⟨(m9 (Decidable.of_not_not q4)),hp6⟩ (by kernel_rfl) (by kernel_rfl))).cast (by rfl)
    |false=>
     exact(GoE.endsT okF hJ Qf GoE.start (yf B rf Qa)
      ⟨⟨trivial,known⟩,⟨⟨trivial,(by have t_:=Av (rf) (Qa);rw[q2,q3]at t_;exact t_)⟩,⟨⟨trivial,(by have t_:=tQ (rf);rw[q2]at t_;exact t_)⟩,⟨⟨trivial,(by have t_:=rE (rf) (Qa);rw[q2,q3]at t_;exact t_)⟩,⟨⟨trivial,(by have t_:=r9 (rf) (Qa);rw[q2,q3]at t_;exact t_)⟩,hp5⟩⟩⟩⟩⟩).cast rfl
   |false=>
    exact(GoE.endsT okF hJ Qf GoE.start (sN B rf Qa)
     ⟨⟨trivial,known⟩,⟨⟨trivial,(by have t_:=Av (rf) (Qa);rw[q2]at t_;exact t_)⟩,⟨⟨trivial,(by have t_:=tQ (rf);rw[q2]at t_;exact t_)⟩,⟨⟨trivial,(by have t_:=rE (rf) (Qa);rw[q2]at t_;exact t_)⟩,⟨⟨trivial,(by have t_:=r9 (rf) (Qa);rw[q2]at t_;exact t_)⟩,⟨⟨trivial,(by have t_:=GO (rf);rw[q2]at t_;exact t_)⟩,hp4⟩⟩⟩⟩⟩⟩).cast rfl
 |false=>
  exact(GoE.endsT okF hJ Qf GoE.start (sM B rf Qa)
   ⟨⟨trivial,known⟩,⟨⟨trivial,(by have t_:=He (rf);rw[q0]at t_;exact t_)⟩,trivial⟩⟩).cast rfl
theorem Ie(rf:Qo)(Qa:List Int)  :Qr YP J0 3 #[.agg (Q1 rf).toArray,Zk Qa] (.bool true):=
 UQ (ts:=[.agg (Q1 rf).toArray,Zk Qa]) (Qa.length<=9223372036854775807) (fun _ _ ht=>ht.ln (i:=1) rfl) Za (c0:=Qx YP 3 139 (([.agg (Q1 rf).toArray,Zk Qa]).map (Q7 0 4))) (by kernel_rfl) (by kernel_rfl) fun XV B hJ=>BQ rf Qa  XV hJ
end
end Go.Proofs.Ytncjjangllkokaa

namespace Go.Proofs.Ytncjjangllkokaa
open Go Go.CE Go.RowKit
theorem yz:∀trs,sI [kI,.slice .int] trs->Qr YP J0 3 trs.toArray (.bool true):=by
 rintro trs ⟨t0,_,rfl,h0,t1,_,rfl,h1,rfl⟩;obtain⟨r,rfl⟩:=HV h0;obtain⟨l,rfl⟩:=HW h1;exact Ie r l
end Go.Proofs.Ytncjjangllkokaa

namespace Go.Proofs.Ytncjjangllkokaa
open Go Go.CE Go.ChangeShapes Go.WideShapes Go.RowKit
set_option maxRecDepth 100000 in
theorem dS(os:Os)(started:os.Started)(H:Type)(enc:TypeId×Value->H):
 ReturnsInHanded {} Try.checked os 3 .any (Rows.reefStocksSpec.pre6 enc YP Try.f3 Rows.reefStocksRow.domain false) (Rows.reefStocksSpec.post enc YP Try.f3 false true false false):=by
 refine returnsInHanded_of_change (C:=Try.checked) (show ownKnob YP.godebug=none by kernel_rfl) started (by kernel_rfl) Try.func3
  (ChangeSpec.witness6 (enc:=enc) (C:=Try.checked) false ⟨#[],#[Sh.zeroA kI,Sh.zeroA (.slice .int)],[]⟩ 8 (by kernel_rfl) (by kernel_rfl) (by kernel_rfl) (by kernel_rfl)) ?_
 intro W base args ds gs before hval0 hW _ _;have hval:∀(j:Nat) t v,Try.f3.params[j]? =some t->args[j]? =some v->Value.okWide YP W .any base t v:=hval0;have hW':=hW;obtain⟨p,q,hA0,hV,rfl,_,_⟩:=hW;obtain⟨rfl,rfl⟩:=trodVars_none hV;have hA1:DataW.TrodAll enc YP W 0 (fun _=>true) true Try.f3.params.toList args.toList ds p:=hA0;have Xp:∀x∈p,x.block<W.heap.size:=fun x hx=>hW'.lt x (by simpa using hx)
 have Sq:dw YP [kI,.slice .int] Try.f3.params.toList=true:=by kernel_rfl
 have hrd:(Try.f3.params.toList.all fun t=>YP.readableRec t && decide (t<YP.types.size))=true:=by kernel_rfl
 refine(Hg (J:=J0) (ss:=[kI,.slice .int]) trivial Sq hA1 (fun j t v h1 h2=>hval j t v (by simpa using h1) h2) yz).mono fun e W' ⟨he,hB⟩=> ?_
 subst he;have hB2:=cq (show laidOutB YP=true by kernel_rfl) hB _ _ _ _ hrd hA1 Xp;have hA:DataW.TrodAll enc YP W 0 (fun _=>true) true Try.f3.params.toList args.toList ds p:=hA1;rw[Try.params3]at hA;simp only[List.toList_toArray]at hA;have hA:=hA;obtain⟨v0,vs0,d0,ds0,p0,q0,_,rfl,_,h0,_⟩:=CE.trodAll_cons hA;obtain⟨v1,vs1,d1,ds1,p1,q1,_,rfl,_,h1,_⟩:=CE.trodAll_cons h0;obtain⟨_,rfl,_⟩:=CE.trodAll_nil h1;exact⟨_,rfl,_,_,_,[],_,[],hW',trodAll_mk1 (shut_bool Try.underlying4 _),hB2,rfl,hB.frame _,fun h=>by cases h⟩
theorem reefStocks_row:Rows.ReefStocksSaid:=
 OpenClaim.holds_of_wide 3 Try.f3 rfl rfl rfl rfl rfl rfl rfl ⟨rfl,rfl,rfl,rfl,rfl⟩ rfl rfl rfl rfl rfl (by kernel_rfl) Try.func3 (by kernel_rfl)
  (of_decide_eq_true (by kernel_rfl)) (by unfold Func.isWrapper;first|(rw[if_pos (by decide+kernel)];kernel_rfl)|(rw[if_neg (by decide+kernel)];exact⟨rfl,rfl⟩))
  (fun os started H enc _=>dS os started H enc)
end Go.Proofs.Ytncjjangllkokaa
