/- ReefQuotas: whatever the input, it returns true, and each argument reads as it did. The row, from the walk. -/
import Derived.Test.YtncjjangllkokaaZRQ18
import Derived.Test.YtncjjangllkokaaZRQ17
import Derived.Test.YtncjjangllkokaaZRQ16
import Derived.JoinedOf
import Derived.Test.YtncjjangllkokaaRows
set_option linter.all false
open List renaming mem_cons_of_mem->NS,flatMap_cons->OC,length->NG,getD->Og,length_append->NV,length_cons->NY,length_nil->Oj,set->Ot
open Int renaming toNat->ND,le_refl->Ol,tdiv_eq_ediv_of_nonneg->Ov,tdiv->NF
open Array renaming size->Ox,extract->NW
open Nat renaming strongRecOn->Oi
open List.Mem renaming head->NP
open Inhabited renaming default->NC
namespace Go.Proofs.Ytncjjangllkokaa
open Go Go.CE Go.RowKit
noncomputable section
set_option maxRecDepth 100000
structure zW where
 n:Nat
 l:List Span
deriving Inhabited
def K4(r:zW):List Value:=[QO r.n (Qg QW r.l)]
theorem zp:∀(l:List Int) (g:Int->List Span) (n:Nat),(∀k∈l,(g k).length=n)->Qg K4 (l.map fun k=>⟨n,g k⟩)=Qg nI (l.map g)
 |[],_,_,_=>rfl
 |k::l,g,n,h=>by
  have ih:=zp l g n fun k hk=>h k (NS _ hk)
  have e:K4 ⟨n,g k⟩=nI (g k):=by show [QO n (Qg QW (g k))]=_;rw[<-h k (List.mem_cons_self ..)]
  unfold Qg at ih ⊢;rw[List.map_cons,List.map_cons,OC,OC,e];apply Array.ext';have ih':=congrArg Array.toList ih;simp only at ih' ⊢;rw[ih']
theorem dI{β:Type}{f:Int->β}{s:Int}(h:0<=s):(((JY 0 s).map f).length:Int)=s:=by simp[JY];omega
theorem Wp{rf:Qe}{gs ts:List (List Int)}{f:F4}{s:Int}(h4:rf.Qa.length<=4)(s0:0<=s)(s1:s<rf.Qc):((QT rf.Qc rf.Qa gs ts f).getD s.toNat NC).length=rf.Qa.length:=by
 rw[show(QT rf.Qc rf.Qa gs ts f).getD s.toNat NC=s8 rf.Qa gs ts f s from Xh s0 s1,s7 h4]
theorem Wy{rf:Qe}{gs ts:List (List Int)}{f:F4}{s i:Int}(h4:rf.Qa.length<=4)(s0:0<=s)(s1:s<rf.Qc)(i0:0<=i)(i1:i<rf.Qa.length):((QT rf.Qc rf.Qa gs ts f).getD s.toNat NC).getD i.toNat NC=(Zp rf.Qa gs ts f (s.toNat+1)).at i:=by
 rw[show(QT rf.Qc rf.Qa gs ts f).getD s.toNat NC=s8 rf.Qa gs ts f s from Xh s0 s1,GC h4 i0 i1]
theorem fL{a b:Int}{s:Span}(h1:a=s.lo)(h2:b=s.hi):(⟨a,b⟩:Span)=s:=by subst h1 h2;rfl
theorem Lp{rf:Qe}{Qb:List Int}{rs:List zW}{s:Int}{m:Nat}(h:rs=(JY 0 s).map fun z=>⟨rf.Qa.length,jz rf Qb z⟩)(hm:m=rs.length)(hs:s=rf.Qc):QO m (Qg K4 rs)=Af (Wv rf Qb):=by
 subst hs;have e:Qg K4 rs=Qg nI (Wv rf Qb):=by rw[h];exact zp _ _ _ fun k _=>s6
 have e2:m=(Wv rf Qb).length:=by rw[hm,h,Wv,Zt,List.length_map,List.length_map]
 rw[e,e2]
theorem IH(rf:Qe)(st:List Int)(gs ts:List (List Int))(QD:OkT rf.Qa rf.Qc gs ts (Qh st))(hl:st.length=rf.Qa.length)(hn:1<=rf.Qa.length/\rf.Qa.length<=4)(hs4:1<=rf.Qc/\rf.Qc<=4):Q4 YP J0 28 #[.agg (Qz rf).toArray,.agg #[XJ st,QO gs.length (Qg X5 gs),QO ts.length (Qg X5 ts)]] (.tuple #[QO (QT rf.Qc rf.Qa gs ts (Qh st)).length (Qg X5 (QT rf.Qc rf.Qa gs ts (Qh st))),.agg #[.int .i64 (Qh st).sum,.int .i64 (QS 0 rf.Qc (ZB rf.Qa gs ts (Qh st))),.int .i64 (QS 0 rf.Qc (XR rf.Qa gs ts (Qh st))),.int .i64 (QS 0 rf.Qc (ZA rf.Qa gs ts (Qh st))),.int .i64 (Zp rf.Qa gs ts (Qh st) rf.Qc.toNat).sum]]):=Nn rf ⟨st,gs,ts⟩ QD hl hn hs4
def Jr(rf:Qe)(Qb:List Int)(i:Int)(zs:List Span)(zn:Nat):List Value:=[pA 2 0,Q6 1 (QO (NG (QT rf.Qc rf.Qa (Zu rf) (Z4 rf Qb) (Qh (VS rf)))) (Qg X5 (QT rf.Qc rf.Qa (Zu rf) (Z4 rf Qb) (Qh (VS rf))))),Q6 1 (QO (NG (QT rf.Qc rf.Qa (Z3 rf) (ZC rf Qb) (Qh (Kl rf)))) (Qg X5 (QT rf.Qc rf.Qa (Z3 rf) (ZC rf Qb) (Qh (Kl rf))))),.slice none 0 0,.int .i64 0,.slice (some ⟨3,0,none⟩) zn 2,.int .i64 i]
def KD(rf:Qe)(Qb:List Int)(i:Int)(zs:List Span)(zn:Nat):List Obj:=[Obj.cells #[Q6 1 (QO rf.Qa.length (Qg Qk rf.Qa)),.int .i64 rf.Qn,.int .i64 rf.Qc] 24,.cells (Qg QW zs) 38 (0,0)]
def Ju:List Item:=([.code [1,1,1,1,0,1,0,0,1,0,0,1,0,1,0,0],.inLoop [1,1,1,1,0,1,0,0,1,0,0,1,0,1,0,0],.inBlock 2,.code [1,1,1,1,0,1,0,0,1,0,0,1,1],.inBlock 1,.code [1,1,1,1,0,1,0,0,1,1],.inLoop [1,1,1,1,0,1,0,0],.inBlock 0,.code [1,1,1,1,1]]).map (it (QX YP 22))
def xk(B:Lo)(c0:CF)(rf:Qe)(Qb:List Int)(i:Int)(zs:List Span)(zn:Nat):Prop:=∃dJ:Nat->Value,(∀t,X4 (dJ t))/\GoE YP B c0 Ze 1 (QJ 22 65 (([2,5,7,9,10,11,12]:List Nat).zip (Jr rf Qb i zs zn)) dJ Ju) (QH (KD rf Qb i zs zn)) (2+(KD rf Qb i zs zn).length) []
def Jq(rf:Qe)(Qb:List Int)(s i:Int)(os:List zW)(zs:List Span)(on zn:Nat):List Value:=[pA 2 0,Q6 1 (QO (NG (QT rf.Qc rf.Qa (Zu rf) (Z4 rf Qb) (Qh (VS rf)))) (Qg X5 (QT rf.Qc rf.Qa (Zu rf) (Z4 rf Qb) (Qh (VS rf))))),Q6 1 (QO (NG (QT rf.Qc rf.Qa (Z3 rf) (ZC rf Qb) (Qh (Kl rf)))) (Qg X5 (QT rf.Qc rf.Qa (Z3 rf) (ZC rf Qb) (Qh (Kl rf))))),.slice (some ⟨3,0,none⟩) on 1,.int .i64 s,.slice (some ⟨4,0,none⟩) zn 2,.int .i64 i]
def UM(rf:Qe)(Qb:List Int)(s i:Int)(os:List zW)(zs:List Span)(on zn:Nat):List Obj:=[Obj.cells #[Q6 1 (QO rf.Qa.length (Qg Qk rf.Qa)),.int .i64 rf.Qn,.int .i64 rf.Qc] 24,.cells (Qg (Xy 1 K4) os) 36 (0,0),.cells (Qg QW zs) 38 (0,0)]
def Jt:List Item:=([.code [1,1,1,1,0,1,0,0,1,0,0,1,0,1,0,0],.inLoop [1,1,1,1,0,1,0,0,1,0,0,1,0,1,0,0],.inBlock 2,.code [1,1,1,1,0,1,0,0,1,0,0,1,1],.inBlock 1,.code [1,1,1,1,0,1,0,0,1,1],.inLoop [1,1,1,1,0,1,0,0],.inBlock 0,.code [1,1,1,1,1]]).map (it (QX YP 22))
def xj(B:Lo)(c0:CF)(rf:Qe)(Qb:List Int)(s i:Int)(os:List zW)(zs:List Span)(on zn:Nat):Prop:=∃dJ:Nat->Value,(∀t,X4 (dJ t))/\GoE YP B c0 Ze 1 (QJ 22 65 (([2,5,7,9,10,11,12]:List Nat).zip (Jq rf Qb s i os zs on zn)) dJ Jt) (QH (UM rf Qb s i os zs on zn)) (2+(UM rf Qb s i os zs on zn).length) []
def Jp(rf:Qe)(Qb:List Int)(s:Int)(os:List zW)(on:Nat):List Value:=[pA 2 0,Q6 1 (QO (NG (QT rf.Qc rf.Qa (Zu rf) (Z4 rf Qb) (Qh (VS rf)))) (Qg X5 (QT rf.Qc rf.Qa (Zu rf) (Z4 rf Qb) (Qh (VS rf))))),Q6 1 (QO (NG (QT rf.Qc rf.Qa (Z3 rf) (ZC rf Qb) (Qh (Kl rf)))) (Qg X5 (QT rf.Qc rf.Qa (Z3 rf) (ZC rf Qb) (Qh (Kl rf))))),.slice (some ⟨3,0,none⟩) on 1,.int .i64 s]
def UL(rf:Qe)(Qb:List Int)(s:Int)(os:List zW)(on:Nat):List Obj:=[Obj.cells #[Q6 1 (QO rf.Qa.length (Qg Qk rf.Qa)),.int .i64 rf.Qn,.int .i64 rf.Qc] 24,.cells (Qg (Xy 1 K4) os) 36 (0,0)]
def Js:List Item:=([.code [1,1,1,1,0,1,0,0],.inLoop [1,1,1,1,0,1,0,0],.inBlock 0,.code [1,1,1,1,1]]).map (it (QX YP 22))
def xi(B:Lo)(c0:CF)(rf:Qe)(Qb:List Int)(s:Int)(os:List zW)(on:Nat):Prop:=∃dJ:Nat->Value,(∀t,X4 (dJ t))/\GoE YP B c0 Ze 1 (QJ 22 65 (([2,5,7,9,10]:List Nat).zip (Jp rf Qb s os on)) dJ Js) (QH (UL rf Qb s os on)) (2+(UL rf Qb s os on).length) []
def RP(rf:Qe)(Qb:List Int):Array Value:=#[QO (NG (Og (QT rf.Qc rf.Qa (Zu rf) (Z4 rf Qb) (Qh (VS rf))) 0 NC)) (Qg Q3 (Og (QT rf.Qc rf.Qa (Zu rf) (Z4 rf Qb) (Qh (VS rf))) 0 NC))]
def RO(rf:Qe)(Qb:List Int):Array Value:=#[QO (NG (Og (QT rf.Qc rf.Qa (Z3 rf) (ZC rf Qb) (Qh (Kl rf))) 0 NC)) (Qg Q3 (Og (QT rf.Qc rf.Qa (Z3 rf) (ZC rf Qb) (Qh (Kl rf))) 0 NC))]
def bj(rf:Qe)(Qb:List Int):Array Value:=#[QO (NG (VS rf)) (Qg Q3 (VS rf)),QO (NG (Zu rf)) (Qg X5 (Zu rf)),QO (NG (Z4 rf Qb)) (Qg X5 (Z4 rf Qb))]
def bh(rf:Qe)(Qb:List Int):Array Value:=#[QO (NG (Kl rf)) (Qg Q3 (Kl rf)),QO (NG (Z3 rf)) (Qg X5 (Z3 rf)),QO (NG (ZC rf Qb)) (Qg X5 (ZC rf Qb))]
def RN(rf:Qe):Array Value:=#[QO rf.Qa.length (Qg Qk rf.Qa),.int .i64 rf.Qn,.int .i64 rf.Qc]
theorem xg(B:Lo)(rf:Qe)(Qb:List Int)(i:Int)(zs:List Span)(zn:Nat)(Qt:Nat->Value):let o:=KD rf Qb i zs zn;let n:=rf.Qa;let m:=ND i*TypeInfo.size Try.t3;let h:=0*TypeInfo.size Try.t25+TypeInfo.size Try.t25;let g:=ND i*TypeInfo.size Try.t3+TypeInfo.size Try.t3;let d:=ND i;let c:=QT rf.Qc n (Z3 rf) (ZC rf Qb) (Qh (Kl rf));let f:=c.getD 0 NC;let k:=f.getD d NC;let b:=QT rf.Qc n (Zu rf) (Z4 rf Qb) (Qh (VS rf));let e:=b.getD 0 NC;let j:=e.getD d NC;let a:=zs++[{lo:=e.getD d NC,hi:=f.getD d NC}];let l:=Qg QW a;landM (Qv YP (QA YP) J0 B 11 1 (QJ 22 65 (([2,5,7,9,10,11,12]:List Nat).zip (Jr rf Qb i zs zn)) Qt Ju) (QH o) (2+o.length)
 [(4,W9),(8,Qj.tidx 0 (RP rf Qb)),(11,Qj.tidx d #[.int .i64 j]),(15,Qj.tidx 0 (RO rf Qb)),(18,Qj.tidx d #[.int .i64 k]),(22,Qj.XV (Hint.app l)),(25,Wu (i+1))] 0 [] []) [2,5,7,9,10,11,12] [(2,KS.auto),(5,KS.cells [] l)] []=some ⟨22,65,Ju,[],.run,none,Jr rf Qb (i+1) a (zn+1),KD rf Qb (i+1) a (zn+1),
 [QK 1 [] l l,wq (i+1)=i+1,Ox (Qg QW zs)=zn*(1+1)/\zn+1<=maxLen/\(zn+1)*16<=140737488355328/\Qg QW zs++#[.int .i64 j,.int .i64 k]=Qg QW a,i=(↑d:Int)/\ND i<NG f/\NW (Qg Q3 f) m g=#[.int .i64 k],0=(↑0:Int)/\0<NG c/\NW (Qg X5 c) (0*TypeInfo.size Try.t25) h=(RO rf Qb),i=(↑d:Int)/\ND i<NG e/\NW (Qg Q3 e) m g=#[.int .i64 j],0=(↑0:Int)/\0<NG b/\NW (Qg X5 b) (0*TypeInfo.size Try.t25) h=(RP rf Qb),XY i (↑n.length:Int)=true]⟩:=by intro o n m h g d c f k b e j a l;kernel_rfl
theorem xf(B:Lo)(rf:Qe)(Qb:List Int)(i:Int)(zs:List Span)(zn:Nat)(Qt:Nat->Value):let c:=[{n:=zn,l:=zs}];let b:=KD rf Qb i zs zn;let a:=Qg (Xy 1 K4) [{n:=zn,l:=zs}];landM (Qv YP (QA YP) J0 B 9 1 (QJ 22 65 (([2,5,7,9,10,11,12]:List Nat).zip (Jr rf Qb i zs zn)) Qt Ju) (QH b) (2+b.length)
 [(4,Vd)] 0 [] []) [2,5,7,9,10] [(2,KS.auto),(5,KS.rows [] [3] [] a)] [{k:=3,rs:=[],cs:=Qg QW zs}]=some ⟨22,65,Js,[],.run,none,Jp rf Qb (1) c (1),UL rf Qb (1) c (1),
 [Xv 1 [] [(3,Fz.cs {k:=3,rs:=[],cs:=Qg QW zs})] [] #[.slice (some {block:=3,off:=0}) zn 2] a,XT (Fz.rs {k:=3,rs:=[],cs:=Qg QW zs}) (Qg QW zs) (Fz.cs {k:=3,rs:=[],cs:=Qg QW zs}),XY i (↑rf.Qa.length:Int)=false]⟩:=by intro c b a;kernel_rfl
theorem xe(B:Lo)(rf:Qe)(Qb:List Int)(s i:Int)(os:List zW)(zs:List Span)(on zn:Nat)(Qt:Nat->Value):let o:=ND s*TypeInfo.size Try.t25;let k:=Qg (Xy 1 K4) os;let j:=ND i*TypeInfo.size Try.t3+TypeInfo.size Try.t3;let h:=ND s*TypeInfo.size Try.t25+TypeInfo.size Try.t25;let g:=ND s;let f:=ND i;let e:=QT rf.Qc rf.Qa (Zu rf) (Z4 rf Qb) (Qh (VS rf));let d:=QT rf.Qc rf.Qa (Z3 rf) (ZC rf Qb) (Qh (Kl rf));let c:=d.getD g NC;let m:=c.getD f NC;let b:=e.getD g NC;let l:=b.getD f NC;let a:=zs++[{lo:=b.getD f NC,hi:=c.getD f NC}];let n:=Qg QW a;landM (Qv YP (QA YP) J0 B 11 1 (QJ 22 65 (([2,5,7,9,10,11,12]:List Nat).zip (Jq rf Qb s i os zs on zn)) Qt Jt) (QH (UM rf Qb s i os zs on zn)) (2+(UM rf Qb s i os zs on zn).length)
 [(4,W9),(8,Qj.tidx g #[QO b.length (Qg Q3 b)]),(11,Qj.tidx f #[.int .i64 l]),(15,Qj.tidx g #[QO c.length (Qg Q3 c)]),(18,Qj.tidx f #[.int .i64 m]),(22,Qj.XV (Hint.app n)),(25,Wu (i+1))] 0 [] []) [2,5,7,9,10,11,12] [(2,KS.auto),(3,KS.rows [(1,1)] [] [] k),(6,KS.cells [] n)] []=some ⟨22,65,Jt,[],.run,none,Jq rf Qb (s) (i+1) (os) a (on) (zn+1),UM rf Qb (s) (i+1) (os) a (on) (zn+1),
 [Xv 1 [(1,1)] [] [] k k,QK 1 [] n n,wq (i+1)=i+1,Ox (Qg QW zs)=zn*(1+1)/\zn+1<=maxLen/\(zn+1)*16<=140737488355328/\Qg QW zs++#[.int .i64 l,.int .i64 m]=Qg QW a,i=(↑f:Int)/\ND i<NG c/\NW (Qg Q3 c) (ND i*TypeInfo.size Try.t3) j=#[.int .i64 m],s=(↑g:Int)/\ND s<NG d/\NW (Qg X5 d) o h=#[QO c.length (Qg Q3 c)],i=(↑f:Int)/\ND i<NG b/\NW (Qg Q3 b) (ND i*TypeInfo.size Try.t3) j=#[.int .i64 l],s=(↑g:Int)/\ND s<NG e/\NW (Qg X5 e) o h=#[QO b.length (Qg Q3 b)],XY i (↑rf.Qa.length:Int)=true]⟩:=by intro o k j h g f e d c m b l a n;kernel_rfl
theorem xd(B:Lo)(rf:Qe)(Qb:List Int)(s i:Int)(os:List zW)(zs:List Span)(on zn:Nat)(Qt:Nat->Value):let d:=UM rf Qb s i os zs on zn;let c:=os++[{n:=zn,l:=zs}];let b:=some {block:=4,off:=0};let a:=Xy 1 K4;let e:=Qg a os++#[.slice b zn 2];landM (Qv YP (QA YP) J0 B 9 1 (QJ 22 65 (([2,5,7,9,10,11,12]:List Nat).zip (Jq rf Qb s i os zs on zn)) Qt Jt) (QH d) (2+d.length)
 [(4,Vd),(8,Qj.XV (Hint.app e)),(11,Wu (s+1))] 0 [] []) [2,5,7,9,10] [(2,KS.auto),(6,KS.rows [(1,1)] [4] [] (Qg a c))] [{k:=4,rs:=[],cs:=Qg QW zs}]=some ⟨22,65,Js,[],.run,none,Jp rf Qb (s+1) c (on+1),UL rf Qb (s+1) c (on+1),
 [Xv 1 [(1,1)] [(4,Fz.cs {k:=4,rs:=[],cs:=Qg QW zs})] [] e (Qg a c),XT (Fz.rs {k:=4,rs:=[],cs:=Qg QW zs}) (Qg QW zs) (Fz.cs {k:=4,rs:=[],cs:=Qg QW zs}),wq (s+1)=s+1,Ox (Qg a os)=on*(0+1)/\on+1<=maxLen/\(on+1)*24<=140737488355328/\Qg a os++#[.slice b zn 2]=Qg a os++#[.slice b zn 2],XY i (↑rf.Qa.length:Int)=false]⟩:=by intro d c b a e;kernel_rfl
theorem xc(B:Lo)(rf:Qe)(Qb:List Int)(s:Int)(os:List zW)(on:Nat)(Qt:Nat->Value):let n:=rf.Qc;let m:=ND s*TypeInfo.size Try.t25;let j:=0*TypeInfo.size Try.t3+TypeInfo.size Try.t3;let i:=Qg (Xy 1 K4) os;let h:=ND s*TypeInfo.size Try.t25+TypeInfo.size Try.t25;let g:=ND s;let d:=QT n rf.Qa (Zu rf) (Z4 rf Qb) (Qh (VS rf));let c:=QT n rf.Qa (Z3 rf) (ZC rf Qb) (Qh (Kl rf));let b:=c.getD g NC;let l:=b.getD 0 NC;let a:=d.getD g NC;let k:=a.getD 0 NC;let f:=[{lo:=a.getD 0 NC,hi:=b.getD 0 NC}];let e:=Qg QW [{lo:=a.getD 0 NC,hi:=b.getD 0 NC}];landM (Qv YP (QA YP) J0 B 25 1 (QJ 22 65 (([2,5,7,9,10]:List Nat).zip (Jp rf Qb s os on)) Qt Js) (QH (UL rf Qb s os on)) (2+(UL rf Qb s os on).length)
 [(3,W9),(10,W9),(14,Qj.tidx g #[QO a.length (Qg Q3 a)]),(17,Qj.tidx 0 #[.int .i64 k]),(21,Qj.tidx g #[QO b.length (Qg Q3 b)]),(24,Qj.tidx 0 #[.int .i64 l])] 0 [] []) [2,5,7,9,10,11,12] [(2,KS.auto),(3,KS.rows [(1,1)] [] [] i),(5,KS.cells [] e)] []=some ⟨22,65,Jt,[],.run,none,Jq rf Qb (s) (1) (os) f (on) (1),UM rf Qb (s) (1) (os) f (on) (1),
 [Xv 1 [(1,1)] [] [] i i,QK 1 [] (#[.int .i64 k,.int .i64 l]) e,0=(↑0:Int)/\0<NG b/\NW (Qg Q3 b) (0*TypeInfo.size Try.t3) j=#[.int .i64 l],s=(↑g:Int)/\ND s<NG c/\NW (Qg X5 c) m h=#[QO b.length (Qg Q3 b)],0=(↑0:Int)/\0<NG a/\NW (Qg Q3 a) (0*TypeInfo.size Try.t3) j=#[.int .i64 k],s=(↑g:Int)/\ND s<NG d/\NW (Qg X5 d) m h=#[QO a.length (Qg Q3 a)],XY 0 (↑rf.Qa.length:Int)=true,XY s n=true]⟩:=by intro n m j i h g d c b l a k f e;kernel_rfl
theorem xb(B:Lo)(rf:Qe)(Qb:List Int)(s:Int)(os:List zW)(on:Nat)(Qt:Nat->Value):let b:=UL rf Qb s os on;let a:=Fz.cs {k:=3,rs:=[1],cs:=Qg K4 os};Xe (Qv YP (QA YP) J0 B 9 1 (QJ 22 65 (([2,5,7,9,10]:List Nat).zip (Jp rf Qb s os on)) Qt Js) (QH b) (2+b.length)
 [(3,Vd)] 0 [] []) [{k:=3,rs:=[1],cs:=Qg K4 os}]=some (QO on a,
 [XT (Fz.rs {k:=3,rs:=[1],cs:=Qg K4 os}) (Qg (Xy 1 K4) os) a,XY s rf.Qc=false]):=by intro b a;kernel_rfl
theorem xa(B:Lo)(rf:Qe)(Qb:List Int):let n:=Z4 rf Qb;let m:=ZC rf Qb;let j:=Qh (VS rf);let i:=Qh (Kl rf);let h:=rf.Qa;let g:=rf.Qc;let b:=QT g h (Z3 rf) m i;let f:=b.getD 0 NC;let d:=Value.tuple #[QO b.length (Qg X5 b),.agg #[.int .i64 i.sum,.int .i64 (QS 0 g (ZB h (Z3 rf) m i)),.int .i64 (QS 0 g (XR h (Z3 rf) m i)),.int .i64 (QS 0 g (ZA h (Z3 rf) m i)),.int .i64 (F4.sum (Zp h (Z3 rf) m i g.toNat))]];let a:=QT g h (Zu rf) n j;let e:=a.getD 0 NC;let l:=[{lo:=e.getD 0 NC,hi:=f.getD 0 NC}];let k:=Qg QW [{lo:=e.getD 0 NC,hi:=f.getD 0 NC}];let c:=Value.tuple #[QO a.length (Qg X5 a),.agg #[.int .i64 j.sum,.int .i64 (QS 0 g (ZB h (Zu rf) n j)),.int .i64 (QS 0 g (XR h (Zu rf) n j)),.int .i64 (QS 0 g (ZA h (Zu rf) n j)),.int .i64 (F4.sum (Zp h (Zu rf) n j g.toNat))]];landM (Qv YP (QA YP) J0 B 38 1 (Qw YP 22 65 (([.agg (Qz rf).toArray,XJ Qb]).map (Q8 0 4))) Ze 1
 [(5,Qj.pure (.agg (bj rf Qb)) []),(6,Qj.pure c []),(16,Qj.pure (.agg (bh rf Qb)) []),(17,Qj.pure d []),(29,W9),(36,W9),(40,Qj.tidx 0 (RP rf Qb)),(43,Qj.tidx 0 #[.int .i64 (e.getD 0 NC)]),(47,Qj.tidx 0 (RO rf Qb)),(50,Qj.tidx 0 #[.int .i64 (f.getD 0 NC)])] 0 [] []) [2,5,7,9,10,11,12] [(1,KS.auto),(9,KS.cells [] k)] []=some ⟨22,65,Ju,[],.run,none,Jr rf Qb (1) l (1),KD rf Qb (1) l (1),
 [QK 1 [] (#[.int .i64 (e.getD 0 NC),.int .i64 (f.getD 0 NC)]) k,0=(↑0:Int)/\0<NG f/\NW (Qg Q3 f) (0*TypeInfo.size Try.t3) (0*TypeInfo.size Try.t3+TypeInfo.size Try.t3)=#[.int .i64 (f.getD 0 NC)],0=(↑0:Int)/\0<NG b/\NW (Qg X5 b) (0*TypeInfo.size Try.t25) (0*TypeInfo.size Try.t25+TypeInfo.size Try.t25)=(RO rf Qb),0=(↑0:Int)/\0<NG e/\NW (Qg Q3 e) (0*TypeInfo.size Try.t3) (0*TypeInfo.size Try.t3+TypeInfo.size Try.t3)=#[.int .i64 (e.getD 0 NC)],0=(↑0:Int)/\0<NG a/\NW (Qg X5 a) (0*TypeInfo.size Try.t25) (0*TypeInfo.size Try.t25+TypeInfo.size Try.t25)=(RP rf Qb),XY 0 (↑h.length:Int)=true,XY 0 g=true,Q7 []/\Q4 YP J0 28 #[.agg (RN rf),.agg (bh rf Qb)] d,Q7 []/\Q4 YP J0 34 #[.agg (RN rf),QO Qb.length (Qg Q3 Qb),.bool true] (.agg (bh rf Qb)),Q7 []/\Q4 YP J0 28 #[.agg (RN rf),.agg (bj rf Qb)] c,Q7 []/\Q4 YP J0 34 #[.agg (RN rf),QO Qb.length (Qg Q3 Qb),.bool false] (.agg (bj rf Qb))]⟩:=by intro n m j i h g b f d a e l k c;kernel_rfl
set_option maxHeartbeats 4000000 in
theorem xh(rf:Qe)(Qb:List Int)(hr:XG rf=true)(hp:X2 rf Qb=true){B:Lo}(hJ:∀w,B.has w->J0 w){c0:CF}:∀m:Nat,(∀(i:Int) (zs:List Span) (zn:Nat),9000+(rf.Qa.length-i.toNat)=m->∀(h0:1<=i) (h1:i<=rf.Qa.length) (hzn:zn=zs.length) (hz:zs=(JY 0 i).map (gQ rf Qb 0)),xk B c0 rf Qb i zs zn->EndsT YP B c0 (Af (Wv rf Qb)))/\(∀(s i:Int) (os:List zW) (zs:List Span) (on zn:Nat),100*(rf.Qc-s).toNat+(rf.Qa.length-i.toNat)=m->∀(s0:1<=s) (s1:s<rf.Qc) (h0:1<=i) (h1:i<=rf.Qa.length) (hon:on=os.length) (ho:os=(JY 0 s).map fun z=>⟨rf.Qa.length,jz rf Qb z⟩) (hzn:zn=zs.length) (hz:zs=(JY 0 i).map (gQ rf Qb s)),xj B c0 rf Qb s i os zs on zn->EndsT YP B c0 (Af (Wv rf Qb)))/\(∀(s:Int) (os:List zW) (on:Nat),100*(rf.Qc-s).toNat+99=m->∀(s0:1<=s) (s1:s<=rf.Qc) (hon:on=os.length) (ho:os=(JY 0 s).map fun z=>⟨rf.Qa.length,jz rf Qb z⟩),xi B c0 rf Qb s os on->EndsT YP B c0 (Af (Wv rf Qb))):=by
 intro m0;induction m0 using Oi with
 |_ m0 ih0=>
  refine⟨?_, ?_, ?_⟩
  ·intro i zs zn Ru h0 h1 hzn hz ⟨Qt,Vs,XL⟩;have Z0:=Q5 (Qs hr).1;have hpf:=(Xs hp).1;have ho1:=bC Qb hr;have ho2:=iJ Qb hr;have hl1:=WM (rf:=rf);have hl2:=Vf (rf:=rf);have hq1:(QT rf.Qc rf.Qa (Zu rf) (Z4 rf Qb) (Qh (VS rf))).length=rf.Qc.toNat:=Xf;have hq2:(QT rf.Qc rf.Qa (Z3 rf) (ZC rf Qb) (Qh (Kl rf))).length=rf.Qc.toNat:=Xf;have hq3:((QT rf.Qc rf.Qa (Zu rf) (Z4 rf Qb) (Qh (VS rf))).getD 0 NC).length=rf.Qa.length:=Wp (rf:=rf) (s:=0) (by omega) (by omega) (by omega);have hq4:((QT rf.Qc rf.Qa (Z3 rf) (ZC rf Qb) (Qh (Kl rf))).getD 0 NC).length=rf.Qa.length:=Wp (rf:=rf) (s:=0) (by omega) (by omega) (by omega);have hz0:(⟨((QT rf.Qc rf.Qa (Zu rf) (Z4 rf Qb) (Qh (VS rf))).getD 0 NC).getD 0 NC,((QT rf.Qc rf.Qa (Z3 rf) (ZC rf Qb) (Qh (Kl rf))).getD 0 NC).getD 0 NC⟩:Span)=gQ rf Qb 0 0:=fL ((Wy (rf:=rf) (s:=0) (i:=0) (by omega) (by omega) (by omega) (by omega) (by omega))) (Wy (rf:=rf) (s:=0) (i:=0) (by omega) (by omega) (by omega) (by omega) (by omega));have Z0:=Q5 (Qs hr).1;have hq1:(QT rf.Qc rf.Qa (Zu rf) (Z4 rf Qb) (Qh (VS rf))).length=rf.Qc.toNat:=Xf;have hq2:(QT rf.Qc rf.Qa (Z3 rf) (ZC rf Qb) (Qh (Kl rf))).length=rf.Qc.toNat:=Xf;have hq3:((QT rf.Qc rf.Qa (Zu rf) (Z4 rf Qb) (Qh (VS rf))).getD 0 NC).length=rf.Qa.length:=Wp (rf:=rf) (s:=0) (by omega) (by omega) (by omega);have hq4:((QT rf.Qc rf.Qa (Z3 rf) (ZC rf Qb) (Qh (Kl rf))).getD 0 NC).length=rf.Qa.length:=Wp (rf:=rf) (s:=0) (by omega) (by omega) (by omega);have hz0:(⟨((QT rf.Qc rf.Qa (Zu rf) (Z4 rf Qb) (Qh (VS rf))).getD 0 NC).getD 0 NC,((QT rf.Qc rf.Qa (Z3 rf) (ZC rf Qb) (Qh (Kl rf))).getD 0 NC).getD 0 NC⟩:Span)=gQ rf Qb 0 0:=fL ((Wy (rf:=rf) (s:=0) (i:=0) (by omega) (by omega) (by omega) (by omega) (by omega))) (Wy (rf:=rf) (s:=0) (i:=0) (by omega) (by omega) (by omega) (by omega) (by omega));have hzl:(zs.length:Int)=i:=by rw[hz];exact dI (by omega)
   by_cases q0:(i:Int)<((↑rf.Qa.length:Int))
   ·have hzi:(⟨((QT rf.Qc rf.Qa (Zu rf) (Z4 rf Qb) (Qh (VS rf))).getD 0 NC).getD i.toNat NC,((QT rf.Qc rf.Qa (Z3 rf) (ZC rf Qb) (Qh (Kl rf))).getD 0 NC).getD i.toNat NC⟩:Span)=gQ rf Qb 0 i:=fL ((Wy (rf:=rf) (s:=0) (i:=i) (by omega) (by omega) (by omega) (by omega) (by omega))) (Wy (rf:=rf) (s:=0) (i:=i) (by omega) (by omega) (by omega) (by omega) (by omega));exact((ih0 _ (by omega)).1 (i+1) (zs++[{lo:=Og (Og (QT rf.Qc rf.Qa (Zu rf) (Z4 rf Qb) (Qh (VS rf))) 0 NC) i.toNat NC,hi:=Og (Og (QT rf.Qc rf.Qa (Z3 rf) (ZC rf Qb) (Qh (Kl rf))) 0 NC) i.toNat NC}]) (zn+1) rfl (by omega) (by omega) (by(simp only[NV,NY,Oj];omega)) (by(rw[hz,Ko (by omega),List.map_append,hzi];rfl))
     (XL.landM okF hJ Qf (xg B rf Qb i zs zn Qt)
     (by exact⟨(Qr (Q2 (fun x=>List.all_eq_true.1 (by rfl)))),⟨(Xb (by omega) (by omega)),⟨⟨(by(rw[Xi (z:=2) (fun _=>rfl)];first|omega|(simp;omega)|(simp_all;done))),(by unfold maxLen;omega),by omega,by first|exact XW|exact XO rfl⟩,⟨⟨by omega,by omega,(Q0 (z:=1) (fun _=>rfl) (by omega))⟩,⟨⟨by omega,by omega,(Q0 (z:=1) (fun _=>rfl) (by omega))⟩,⟨⟨by omega,by omega,(Q0 (z:=1) (fun _=>rfl) (by omega))⟩,⟨⟨by omega,by omega,(Q0 (z:=1) (fun _=>rfl) (by omega))⟩,⟨(XD q0),trivial⟩⟩⟩⟩⟩⟩⟩⟩) (by kernel_rfl) (by kernel_rfl))).cast (by rfl)
   ·have hze:zs=jz rf Qb 0:=by rw[hz,show i=rf.Qa.length by omega];rfl
    exact((ih0 _ (by omega)).2.2 (1) ([{n:=zn,l:=zs}]) (1) rfl (by omega) (by omega) (by rfl) (by(rw[show zn=rf.Qa.length by omega,hze];rfl))
     (XL.landM okF hJ Qf (xf B rf Qb i zs zn Qt)
     (by exact⟨(by exact(KQ (by exact⟨(.own (NP _)),trivial⟩))),⟨(X9 (fun x=>List.all_eq_true.1 (by rfl))),⟨(Zb (Int.not_lt.1 q0)),trivial⟩⟩⟩) (by kernel_rfl) (by kernel_rfl))).cast (by rfl)
  ·intro s i os zs on zn Ru s0 s1 h0 h1 hon ho hzn hz ⟨Qt,Vs,XL⟩;have Z0:=Q5 (Qs hr).1;have hpf:=(Xs hp).1;have ho1:=bC Qb hr;have ho2:=iJ Qb hr;have hl1:=WM (rf:=rf);have hl2:=Vf (rf:=rf);have hq1:(QT rf.Qc rf.Qa (Zu rf) (Z4 rf Qb) (Qh (VS rf))).length=rf.Qc.toNat:=Xf;have hq2:(QT rf.Qc rf.Qa (Z3 rf) (ZC rf Qb) (Qh (Kl rf))).length=rf.Qc.toNat:=Xf;have hq3:((QT rf.Qc rf.Qa (Zu rf) (Z4 rf Qb) (Qh (VS rf))).getD 0 NC).length=rf.Qa.length:=Wp (rf:=rf) (s:=0) (by omega) (by omega) (by omega);have hq4:((QT rf.Qc rf.Qa (Z3 rf) (ZC rf Qb) (Qh (Kl rf))).getD 0 NC).length=rf.Qa.length:=Wp (rf:=rf) (s:=0) (by omega) (by omega) (by omega);have hz0:(⟨((QT rf.Qc rf.Qa (Zu rf) (Z4 rf Qb) (Qh (VS rf))).getD 0 NC).getD 0 NC,((QT rf.Qc rf.Qa (Z3 rf) (ZC rf Qb) (Qh (Kl rf))).getD 0 NC).getD 0 NC⟩:Span)=gQ rf Qb 0 0:=fL ((Wy (rf:=rf) (s:=0) (i:=0) (by omega) (by omega) (by omega) (by omega) (by omega))) (Wy (rf:=rf) (s:=0) (i:=0) (by omega) (by omega) (by omega) (by omega) (by omega));have Z0:=Q5 (Qs hr).1;have hq1:(QT rf.Qc rf.Qa (Zu rf) (Z4 rf Qb) (Qh (VS rf))).length=rf.Qc.toNat:=Xf;have hq2:(QT rf.Qc rf.Qa (Z3 rf) (ZC rf Qb) (Qh (Kl rf))).length=rf.Qc.toNat:=Xf;have hq3:=Wp (rf:=rf) (gs:=Zu rf) (ts:=Z4 rf Qb) (f:=Qh (VS rf)) (s:=s) (by omega) (by omega) (by omega);have hq4:=Wp (rf:=rf) (gs:=Z3 rf) (ts:=ZC rf Qb) (f:=Qh (Kl rf)) (s:=s) (by omega) (by omega) (by omega);have hzl:(zs.length:Int)=i:=by rw[hz];exact dI (by omega)
   have hol:(os.length:Int)=s:=by rw[ho];exact dI (by omega)
   by_cases q0:(i:Int)<((↑rf.Qa.length:Int))
   ·have hzi:(⟨((QT rf.Qc rf.Qa (Zu rf) (Z4 rf Qb) (Qh (VS rf))).getD s.toNat NC).getD i.toNat NC,((QT rf.Qc rf.Qa (Z3 rf) (ZC rf Qb) (Qh (Kl rf))).getD s.toNat NC).getD i.toNat NC⟩:Span)=gQ rf Qb s i:=fL ((Wy (rf:=rf) (s:=s) (i:=i) (by omega) (by omega) (by omega) (by omega) (by omega))) (Wy (rf:=rf) (s:=s) (i:=i) (by omega) (by omega) (by omega) (by omega) (by omega));exact((ih0 _ (by omega)).2.1 (s) (i+1) (os) (zs++[{lo:=Og (Og (QT rf.Qc rf.Qa (Zu rf) (Z4 rf Qb) (Qh (VS rf))) s.toNat NC) i.toNat NC,hi:=Og (Og (QT rf.Qc rf.Qa (Z3 rf) (ZC rf Qb) (Qh (Kl rf))) s.toNat NC) i.toNat NC}]) (on) (zn+1) rfl (by with_reducible assumption) (by with_reducible assumption) (by omega) (by omega) (by with_reducible assumption) (by with_reducible assumption) (by(simp only[NV,NY,Oj];omega)) (by(rw[hz,Ko (by omega),List.map_append,hzi];rfl))
     (XL.landM okF hJ Qf (xe B rf Qb s i os zs on zn Qt)
     (by exact⟨(by exact(QQ (Xo (by exact fun _=>rfl)) (NP _))),⟨(Qr (Q2 (fun x=>List.all_eq_true.1 (by rfl)))),⟨(Xb (by omega) (by omega)),⟨⟨(by(rw[Xi (z:=2) (fun _=>rfl)];first|omega|(simp;omega)|(simp_all;done))),(by unfold maxLen;omega),by omega,by first|exact XW|exact XO rfl⟩,⟨⟨by omega,by omega,(Q0 (z:=1) (fun _=>rfl) (by omega))⟩,⟨⟨by omega,by omega,(Q0 (z:=1) (fun _=>rfl) (by omega))⟩,⟨⟨by omega,by omega,(Q0 (z:=1) (fun _=>rfl) (by omega))⟩,⟨⟨by omega,by omega,(Q0 (z:=1) (fun _=>rfl) (by omega))⟩,⟨(XD q0),trivial⟩⟩⟩⟩⟩⟩⟩⟩⟩) (by kernel_rfl) (by kernel_rfl))).cast (by rfl)
   ·have hze:zs=jz rf Qb s:=by rw[hz,show i=rf.Qa.length by omega];rfl
    exact((ih0 _ (by omega)).2.2 (s+1) (os++[{n:=zn,l:=zs}]) (on+1) rfl (by omega) (by omega) (by(simp only[NV,NY,Oj];omega)) (by(rw[Ko (by omega),List.map_append,<-ho,show zn=rf.Qa.length by omega,hze];rfl))
     (XL.landM okF hJ Qf (xd B rf Qb s i os zs on zn Qt)
     (by exact⟨(by exact(Kj (QQ (Xo (by exact fun _=>rfl)) (NP _)) (by exact⟨(.own (NP _)),trivial⟩))),⟨(X9 (fun x=>List.all_eq_true.1 (by rfl))),⟨(Xb (by omega) (by omega)),⟨⟨(by(rw[Xi (z:=1) (fun _=>rfl)];first|omega|(simp;omega)|(simp_all;done))),(by unfold maxLen;omega),by omega,rfl⟩,⟨(Zb (Int.not_lt.1 q0)),trivial⟩⟩⟩⟩⟩) (by kernel_rfl) (by kernel_rfl))).cast (by rfl)
  ·intro s os on Ru s0 s1 hon ho ⟨Qt,Vs,XL⟩;have Z0:=Q5 (Qs hr).1;have hpf:=(Xs hp).1;have ho1:=bC Qb hr;have ho2:=iJ Qb hr;have hl1:=WM (rf:=rf);have hl2:=Vf (rf:=rf);have hq1:(QT rf.Qc rf.Qa (Zu rf) (Z4 rf Qb) (Qh (VS rf))).length=rf.Qc.toNat:=Xf;have hq2:(QT rf.Qc rf.Qa (Z3 rf) (ZC rf Qb) (Qh (Kl rf))).length=rf.Qc.toNat:=Xf;have hq3:((QT rf.Qc rf.Qa (Zu rf) (Z4 rf Qb) (Qh (VS rf))).getD 0 NC).length=rf.Qa.length:=Wp (rf:=rf) (s:=0) (by omega) (by omega) (by omega);have hq4:((QT rf.Qc rf.Qa (Z3 rf) (ZC rf Qb) (Qh (Kl rf))).getD 0 NC).length=rf.Qa.length:=Wp (rf:=rf) (s:=0) (by omega) (by omega) (by omega);have hz0:(⟨((QT rf.Qc rf.Qa (Zu rf) (Z4 rf Qb) (Qh (VS rf))).getD 0 NC).getD 0 NC,((QT rf.Qc rf.Qa (Z3 rf) (ZC rf Qb) (Qh (Kl rf))).getD 0 NC).getD 0 NC⟩:Span)=gQ rf Qb 0 0:=fL ((Wy (rf:=rf) (s:=0) (i:=0) (by omega) (by omega) (by omega) (by omega) (by omega))) (Wy (rf:=rf) (s:=0) (i:=0) (by omega) (by omega) (by omega) (by omega) (by omega));have Z0:=Q5 (Qs hr).1;have hq1:(QT rf.Qc rf.Qa (Zu rf) (Z4 rf Qb) (Qh (VS rf))).length=rf.Qc.toNat:=Xf;have hq2:(QT rf.Qc rf.Qa (Z3 rf) (ZC rf Qb) (Qh (Kl rf))).length=rf.Qc.toNat:=Xf;have hol:(os.length:Int)=s:=by rw[ho];exact dI (by omega)
   by_cases q0:(s:Int)<rf.Qc
   ·by_cases q1:(0:Int)<((↑rf.Qa.length:Int))
    ·have hq3:=Wp (rf:=rf) (gs:=Zu rf) (ts:=Z4 rf Qb) (f:=Qh (VS rf)) (s:=s) (by omega) (by omega) (by omega);have hq4:=Wp (rf:=rf) (gs:=Z3 rf) (ts:=ZC rf Qb) (f:=Qh (Kl rf)) (s:=s) (by omega) (by omega) (by omega);have hz1:(⟨((QT rf.Qc rf.Qa (Zu rf) (Z4 rf Qb) (Qh (VS rf))).getD s.toNat NC).getD 0 NC,((QT rf.Qc rf.Qa (Z3 rf) (ZC rf Qb) (Qh (Kl rf))).getD s.toNat NC).getD 0 NC⟩:Span)=gQ rf Qb s 0:=fL ((Wy (rf:=rf) (s:=s) (i:=0) (by omega) (by omega) (by omega) (by omega) (by omega))) (Wy (rf:=rf) (s:=s) (i:=0) (by omega) (by omega) (by omega) (by omega) (by omega));exact((ih0 _ (by omega)).2.1 (s) (1) (os) ([{lo:=Og (Og (QT rf.Qc rf.Qa (Zu rf) (Z4 rf Qb) (Qh (VS rf))) s.toNat NC) 0 NC,hi:=Og (Og (QT rf.Qc rf.Qa (Z3 rf) (ZC rf Qb) (Qh (Kl rf))) s.toNat NC) 0 NC}]) (on) (1) rfl (by with_reducible assumption) (by with_reducible assumption) (by omega) (by omega) (by with_reducible assumption) (by with_reducible assumption) (by rfl) (by(rw[hz1];rfl))
      (XL.landM okF hJ Qf (xc B rf Qb s os on Qt)
      (by exact⟨(by exact(QQ (Xo (by exact fun _=>rfl)) (NP _))),⟨(XP (by kernel_rfl)),⟨⟨by omega,by omega,(Q0 (z:=1) (fun _=>rfl) (by omega))⟩,⟨⟨by omega,by omega,(Q0 (z:=1) (fun _=>rfl) (by omega))⟩,⟨⟨by omega,by omega,(Q0 (z:=1) (fun _=>rfl) (by omega))⟩,⟨⟨by omega,by omega,(Q0 (z:=1) (fun _=>rfl) (by omega))⟩,⟨(XD q1),⟨(XD q0),trivial⟩⟩⟩⟩⟩⟩⟩⟩) (by kernel_rfl) (by kernel_rfl))).cast (by rfl)
    ·exfalso
     (have Z0:=Q5 (Qs hr).1;omega)
   ·exact(GoE.endsT okF hJ Qf XL (xb B rf Qb s os on Qt)
     ⟨(Us (Xo (by exact fun _=>rfl)) (NP _)),⟨(Zb (Int.not_lt.1 q0)),trivial⟩⟩).cast (by exact Lp ho hon (by omega))
set_option maxHeartbeats 4000000 in
theorem Al(rf:Qe)(Qb:List Int)(hr:XG rf=true)(hp:X2 rf Qb=true){B:Lo}(hJ:∀w,B.has w->J0 w):EndsT YP B (Qw YP 22 65 (([.agg (Qz rf).toArray,XJ Qb]).map (Q8 0 4))) (Af (Wv rf Qb)):=by
 have Z0:=Q5 (Qs hr).1;have hpf:=(Xs hp).1;have ho1:=bC Qb hr;have ho2:=iJ Qb hr;have hl1:=WM (rf:=rf);have hl2:=Vf (rf:=rf);have hq1:(QT rf.Qc rf.Qa (Zu rf) (Z4 rf Qb) (Qh (VS rf))).length=rf.Qc.toNat:=Xf;have hq2:(QT rf.Qc rf.Qa (Z3 rf) (ZC rf Qb) (Qh (Kl rf))).length=rf.Qc.toNat:=Xf;have hq3:((QT rf.Qc rf.Qa (Zu rf) (Z4 rf Qb) (Qh (VS rf))).getD 0 NC).length=rf.Qa.length:=Wp (rf:=rf) (s:=0) (by omega) (by omega) (by omega);have hq4:((QT rf.Qc rf.Qa (Z3 rf) (ZC rf Qb) (Qh (Kl rf))).getD 0 NC).length=rf.Qa.length:=Wp (rf:=rf) (s:=0) (by omega) (by omega) (by omega);have hz0:(⟨((QT rf.Qc rf.Qa (Zu rf) (Z4 rf Qb) (Qh (VS rf))).getD 0 NC).getD 0 NC,((QT rf.Qc rf.Qa (Z3 rf) (ZC rf Qb) (Qh (Kl rf))).getD 0 NC).getD 0 NC⟩:Span)=gQ rf Qb 0 0:=fL ((Wy (rf:=rf) (s:=0) (i:=0) (by omega) (by omega) (by omega) (by omega) (by omega))) (Wy (rf:=rf) (s:=0) (i:=0) (by omega) (by omega) (by omega) (by omega) (by omega));by_cases q0:(0:Int)<rf.Qc
 ·by_cases q1:(0:Int)<((↑rf.Qa.length:Int))
  ·exact((xh rf Qb hr hp hJ _).1 (1) ([{lo:=Og (Og (QT rf.Qc rf.Qa (Zu rf) (Z4 rf Qb) (Qh (VS rf))) 0 NC) 0 NC,hi:=Og (Og (QT rf.Qc rf.Qa (Z3 rf) (ZC rf Qb) (Qh (Kl rf))) 0 NC) 0 NC}]) (1) rfl (by omega) (by omega) (by rfl) (by(rw[hz0];rfl))
    (GoE.start.landM okF hJ Qf (xa B rf Qb)
    (by exact⟨(XP (by kernel_rfl)),⟨⟨by omega,by omega,(Q0 (z:=1) (fun _=>rfl) (by omega))⟩,⟨⟨by omega,by omega,(Q0 (z:=1) (fun _=>rfl) (by omega))⟩,⟨⟨by omega,by omega,(Q0 (z:=1) (fun _=>rfl) (by omega))⟩,⟨⟨by omega,by omega,(Q0 (z:=1) (fun _=>rfl) (by omega))⟩,⟨(XD q1),⟨(XD q0),⟨⟨trivial,IH (rf) (Kl rf) (Z3 rf) (ZC rf Qb) (by with_reducible assumption) (by with_reducible assumption) (by omega) (by omega)⟩,⟨⟨trivial,M3 (rf) (Qb) (by with_reducible assumption) (by with_reducible assumption)⟩,⟨⟨trivial,IH (rf) (VS rf) (Zu rf) (Z4 rf Qb) (by with_reducible assumption) (by with_reducible assumption) (by omega) (by omega)⟩,⟨⟨trivial,M4 (rf) (Qb) (by with_reducible assumption) (by with_reducible assumption)⟩,trivial⟩⟩⟩⟩⟩⟩⟩⟩⟩⟩⟩) (by kernel_rfl) (by kernel_rfl))).cast (by rfl)
  ·exfalso
   (have Z0:=Q5 (Qs hr).1;omega)
 ·exfalso
  (have Z0:=Q5 (Qs hr).1;omega)
theorem GF(rf:Qe)(Qb:List Int)(hr:XG rf=true)(hp:X2 rf Qb=true):Q4 YP J0 22 #[.agg (Qz rf).toArray,XJ Qb] (Af (Wv rf Qb)):=
 Xr (ts:=[.agg (Qz rf).toArray,XJ Qb]) Zk (c0:=Qw YP 22 65 (([.agg (Qz rf).toArray,XJ Qb]).map (Q8 0 4))) (by kernel_rfl) (by kernel_rfl) fun B hJ=>Al rf Qb hr hp hJ
end
end Go.Proofs.Ytncjjangllkokaa

namespace Go.Proofs.Ytncjjangllkokaa
open Go Go.CE Go.RowKit
noncomputable section
set_option maxRecDepth 100000
theorem jq{rf:Qe}{Qb:List Int}{i:Int}(h1:1<=rf.Qc)(i0:0<=i)(i1:i<rf.Qa.length):(((Wv rf Qb).getD (rf.Qc-1).toNat NC).getD i.toNat NC).lo=(QG rf Qb rf.Qc.toNat).at i:=by
 have e:(Wv rf Qb).getD (rf.Qc-1).toNat NC=jz rf Qb (rf.Qc-1):=Xh (by omega) (by omega);rw[e,show(jz rf Qb (rf.Qc-1)).getD i.toNat NC=gQ rf Qb (rf.Qc-1) i from Xh i0 i1];show(QG rf Qb ((rf.Qc-1).toNat+1)).at i=_;rw[show(rf.Qc-1).toNat+1=rf.Qc.toNat by omega]
theorem sf{rf:Qe}{Qb:List Int}(h1:1<=rf.Qc):((Wv rf Qb).getD (rf.Qc-1).toNat NC).length=rf.Qa.length:=by
 have e:(Wv rf Qb).getD (rf.Qc-1).toNat NC=jz rf Qb (rf.Qc-1):=Xh (by omega) (by omega);rw[e];exact s6
def TJ(x_:Qd):Array Value:=#[.int .i64 x_.count,.int .i64 x_.room,.int .i64 x_.glo,.int .i64 x_.ghi,.int .i64 x_.drift,.int .i64 x_.into,.int .i64 x_.olo,.int .i64 x_.ohi,.int .i64 x_.slo,.int .i64 x_.shi,.int .i64 x_.goal,.int .i64 x_.worth]
def TI(rf:Qe)(Qb:List Int)(i:Int):Array Value:=#[.int .i64 (Span.lo (Og (Og (Wv rf Qb) (ND (rf.Qc-1)) NC) i.toNat NC)),.int .i64 (Span.hi (Og (Og (Wv rf Qb) (ND (rf.Qc-1)) NC) i.toNat NC))]
def YX(rf:Qe)(Qb:List Int)(i:Int):List Value:=[pA 2 0,Q6 1 (QO (NG (Og (Wv rf Qb) (ND (rf.Qc-1)) NC)) (Qg QW (Og (Wv rf Qb) (ND (rf.Qc-1)) NC))),.int .i64 i]
def VC(rf:Qe)(Qb:List Int)(i:Int):List Obj:=[Obj.cells #[Q6 1 (QO rf.Qa.length (Qg Qk rf.Qa)),.int .i64 rf.Qn,.int .i64 rf.Qc] 24]
def YY:List Item:=([.code [1,1,0,1,0,0],.inLoop [1,1,0,1,0,0],.inBlock 0,.code [1,1,1]]).map (it (QX YP 36))
def Ar(B:Lo)(c0:CF)(rf:Qe)(Qb:List Int)(i:Int):Prop:=∃dJ:Nat->Value,(∀t,X4 (dJ t))/\GoE YP B c0 Ze 1 (QJ 36 49 (([2,7,8]:List Nat).zip (YX rf Qb i)) dJ YY) (QH (VC rf Qb i)) (2+(VC rf Qb i).length) []
def eA(B:Lo)(rf:Qe)(Qb:List Int)(i:Int)(Qt:Nat->Value):List Prop:=[i=(↑i.toNat:Int)/\ND i<NG rf.Qa/\NW (Qg Qk rf.Qa) (ND i*TypeInfo.size Try.t54) (ND i*TypeInfo.size Try.t54+TypeInfo.size Try.t54)=(TJ (rf.Qa.getD i.toNat NC)),i=(↑i.toNat:Int)/\ND i<NG (Og (Wv rf Qb) (ND (rf.Qc-1)) NC)/\NW (Qg QW (Og (Wv rf Qb) (ND (rf.Qc-1)) NC)) (ND i*TypeInfo.size Try.t38) (ND i*TypeInfo.size Try.t38+TypeInfo.size Try.t38)=(TI rf Qb i),XY i (↑rf.Qa.length:Int)=true]++([]:List Prop)
def nP(rf:Qe)(Qb:List Int)(i:Int)(Qt:Nat->Value):QE:=[(4,W9),(7,Qj.tidx i.toNat (TI rf Qb i)),(13,Qj.tidx i.toNat (TJ (rf.Qa.getD i.toNat NC)))]
theorem Ap(B:Lo)(rf:Qe)(Qb:List Int)(i:Int)(Qt:Nat->Value):let f:=rf.Qa;let d:=ND i;let b:=f.getD d NC;let a:=Og (Wv rf Qb) (ND (rf.Qc-1)) NC;let c:=a.getD d NC;let e:=b.goal-c.lo;Xe (Qv YP (QA YP) J0 B 14 1 (QJ 36 49 (([2,7,8]:List Nat).zip (YX rf Qb i)) Qt YY) (QH (VC rf Qb i)) (2+(VC rf Qb i).length)
 (nP rf Qb i Qt++[(16,W9),(21,Qj.tidx d (TJ b)),(26,Qj.tidx d (TI rf Qb i)),(29,Wu e)]) 0 [] []) []=some (.tuple #[.int .i64 i,.int .i64 e,.bool true],
 [wq e=b.goal-c.lo,i=(↑d:Int)/\ND i<NG a/\NW (Qg QW a) (ND i*TypeInfo.size Try.t38) (ND i*TypeInfo.size Try.t38+TypeInfo.size Try.t38)=(TI rf Qb i),i=(↑d:Int)/\ND i<NG f/\NW (Qg Qk f) (ND i*TypeInfo.size Try.t54) (ND i*TypeInfo.size Try.t54+TypeInfo.size Try.t54)=(TJ b),XY c.lo b.goal=true]++eA B rf Qb i Qt):=by intro f d b a c e;kernel_rfl
theorem Ao(B:Lo)(rf:Qe)(Qb:List Int)(i:Int)(Qt:Nat->Value):landM (Qv YP (QA YP) J0 B 14 1 (QJ 36 49 (([2,7,8]:List Nat).zip (YX rf Qb i)) Qt YY) (QH (VC rf Qb i)) (2+(VC rf Qb i).length)
 (nP rf Qb i Qt++[(16,Vd),(18,Wu (i+1))]) 0 [] []) [2,7,8] [(2,KS.auto)] []=some ⟨36,49,YY,[],.run,none,YX rf Qb (i+1),VC rf Qb (i+1),
 [wq (i+1)=i+1,XY (Span.lo (Og (Og (Wv rf Qb) (ND (rf.Qc-1)) NC) i.toNat NC)) (Qd.goal (rf.Qa.getD i.toNat NC))=false]++eA B rf Qb i Qt⟩:=by kernel_rfl
theorem An(B:Lo)(rf:Qe)(Qb:List Int)(i:Int)(Qt:Nat->Value):Xe (Qv YP (QA YP) J0 B 9 1 (QJ 36 49 (([2,7,8]:List Nat).zip (YX rf Qb i)) Qt YY) (QH (VC rf Qb i)) (2+(VC rf Qb i).length)
 [(4,Vd)] 0 [] []) []=some (.tuple #[.int .i64 0,.int .i64 0,.bool false],
 [XY i (↑rf.Qa.length:Int)=false]):=by kernel_rfl
theorem Am(B:Lo)(rf:Qe)(Qb:List Int):let c:=Wv rf Qb;let d:=QO c.length (Qg nI c);let a:=rf.Qc-1;let e:=ND a;let b:=c.getD e NC;landM (Qv YP (QA YP) J0 B 9 1 (Qw YP 36 49 (([.agg (Qz rf).toArray,XJ Qb]).map (Q8 0 4))) Ze 1
 [(6,Qj.pure d []),(9,Wu a),(10,Qj.tidx e #[QO b.length (Qg QW b)])] 0 [] []) [2,7,8] [(1,KS.auto)] []=some ⟨36,49,YY,[],.run,none,YX rf Qb (0),VC rf Qb (0),
 [rf.Qc-1=(↑e:Int)/\ND a<NG c/\NW (Qg nI c) (ND a*TypeInfo.size Try.t36) (ND a*TypeInfo.size Try.t36+TypeInfo.size Try.t36)=#[QO b.length (Qg QW b)],wq a=rf.Qc-1,Q7 []/\Q4 YP J0 22 #[.agg #[QO rf.Qa.length (Qg Qk rf.Qa),.int .i64 rf.Qn,.int .i64 rf.Qc],QO Qb.length (Qg Q3 Qb)] d]⟩:=by intro c d a e b;kernel_rfl
set_option maxHeartbeats 4000000 in
theorem Aq(rf:Qe)(Qb:List Int)(hr:XG rf=true)(hp:X2 rf Qb=true){B:Lo}(hJ:∀w,B.has w->J0 w){c0:CF}:∀m:Nat,(∀(i:Int),(rf.Qa.length-i.toNat)=m->∀(h0:0<=i),Ar B c0 rf Qb i->EndsT YP B c0 (.tuple #[.int .i64 (X8 (QG rf Qb rf.Qc.toNat) (rf.Qa.drop i.toNat) i).2.1,.int .i64 (X8 (QG rf Qb rf.Qc.toNat) (rf.Qa.drop i.toNat) i).2.2,.bool (X8 (QG rf Qb rf.Qc.toNat) (rf.Qa.drop i.toNat) i).1])):=by
 intro m0;induction m0 using Oi with
 |_ m0 ih0=>
  intro i Ru h0 ⟨Qt,Vs,XL⟩;have Z0:=Q5 (Qs hr).1;have hsl:(Wv rf Qb).length=rf.Qc.toNat:=Xf;have Z0:=Q5 (Qs hr).1;have hll:=sf (rf:=rf) (Qb:=Qb) (by omega);by_cases q0:(i:Int)<((↑rf.Qa.length:Int))
  ·have Vg:Q7 (eA B rf Qb i Qt):=by
    have hla:=jq (rf:=rf) (Qb:=Qb) (by omega) h0 q0;have JL:=(QU ((Qs hr).2 i h0 q0).1).2.2.1;have hf4:=ZI (Y5 (Qb:=Qb) hr (s:=rf.Qc.toNat) (by omega)).1 h0 (show i<4 by omega);have hf5:0<=(QG rf Qb rf.Qc.toNat).at i/\(QG rf Qb rf.Qc.toNat).at i<=100000000000:=⟨hf4.1,Int.le_trans hf4.2.1 hf4.2.2⟩
    have s1:=WT (f:=QG rf Qb rf.Qc.toNat) h0 q0;exact⟨⟨by omega,by omega,(Q0 (z:=12) (fun _=>rfl) (by omega))⟩,⟨⟨by omega,by omega,(Q0 (z:=2) (fun _=>rfl) (by omega))⟩,⟨(XD q0),trivial⟩⟩⟩
   by_cases q1:(Span.lo (Og (Og (Wv rf Qb) (ND (rf.Qc-1)) NC) i.toNat NC):Int)<(Qd.goal (rf.Qa.getD i.toNat NC))
   ·have hla:=jq (rf:=rf) (Qb:=Qb) (by omega) h0 q0;have JL:=(QU ((Qs hr).2 i h0 q0).1).2.2.1;have hf4:=ZI (Y5 (Qb:=Qb) hr (s:=rf.Qc.toNat) (by omega)).1 h0 (show i<4 by omega);have hf5:0<=(QG rf Qb rf.Qc.toNat).at i/\(QG rf Qb rf.Qc.toNat).at i<=100000000000:=⟨hf4.1,Int.le_trans hf4.2.1 hf4.2.2⟩
    have s1:=WT (f:=QG rf Qb rf.Qc.toNat) h0 q0;rw[decide_eq_true (by omega),cond_true]at s1;exact(GoE.endsT okF hJ Qf XL (Ap B rf Qb i Qt)
     ⟨(Xb (by omega) (by omega)),⟨⟨by omega,by omega,(Q0 (z:=2) (fun _=>rfl) (by omega))⟩,⟨⟨by omega,by omega,(Q0 (z:=12) (fun _=>rfl) (by omega))⟩,⟨(XD q1),Vg⟩⟩⟩⟩).cast (by(rw[s1,<-hla];done))
   ·have hla:=jq (rf:=rf) (Qb:=Qb) (by omega) h0 q0;have JL:=(QU ((Qs hr).2 i h0 q0).1).2.2.1;have hf4:=ZI (Y5 (Qb:=Qb) hr (s:=rf.Qc.toNat) (by omega)).1 h0 (show i<4 by omega);have hf5:0<=(QG rf Qb rf.Qc.toNat).at i/\(QG rf Qb rf.Qc.toNat).at i<=100000000000:=⟨hf4.1,Int.le_trans hf4.2.1 hf4.2.2⟩
    have s1:=WT (f:=QG rf Qb rf.Qc.toNat) h0 q0;rw[decide_eq_false (by omega),cond_false]at s1;exact((ih0 _ (by omega)) (i+1) rfl (by omega)
     (XL.landM okF hJ Qf (Ao B rf Qb i Qt)
     ⟨(Xb (by omega) (by omega)),⟨(Zb (Int.not_lt.1 q1)),Vg⟩⟩ (by kernel_rfl) (by kernel_rfl))).cast (by(rw[s1];done))
  ·have s1:=bf (f:=QG rf Qb rf.Qc.toNat) (l:=rf.Qa) (i:=i) (by omega);exact(GoE.endsT okF hJ Qf XL (An B rf Qb i Qt)
    ⟨(Zb (Int.not_lt.1 q0)),trivial⟩).cast (by(rw[s1];done))
set_option maxHeartbeats 4000000 in
theorem CS(rf:Qe)(Qb:List Int)(hr:XG rf=true)(hp:X2 rf Qb=true){B:Lo}(hJ:∀w,B.has w->J0 w):EndsT YP B (Qw YP 36 49 (([.agg (Qz rf).toArray,XJ Qb]).map (Q8 0 4))) (.tuple #[.int .i64 (Zc rf Qb).2.1,.int .i64 (Zc rf Qb).2.2,.bool (Zc rf Qb).1]):=by
 have Z0:=Q5 (Qs hr).1;have hsl:(Wv rf Qb).length=rf.Qc.toNat:=Xf;exact((Aq rf Qb hr hp hJ _) (0) rfl (by omega)
  (GoE.start.landM okF hJ Qf (Am B rf Qb)
  ⟨⟨by omega,by omega,(Q0 (z:=1) (fun _=>rfl) (by omega))⟩,⟨(Xb (by omega) (by omega)),⟨⟨trivial,GF (rf) (Qb) (by with_reducible assumption) (by with_reducible assumption)⟩,trivial⟩⟩⟩ (by kernel_rfl) (by kernel_rfl))).cast (by rfl)
theorem CT(rf:Qe)(Qb:List Int)(hr:XG rf=true)(hp:X2 rf Qb=true):Q4 YP J0 36 #[.agg (Qz rf).toArray,XJ Qb] (.tuple #[.int .i64 (Zc rf Qb).2.1,.int .i64 (Zc rf Qb).2.2,.bool (Zc rf Qb).1]):=
 Xr (ts:=[.agg (Qz rf).toArray,XJ Qb]) Zk (c0:=Qw YP 36 49 (([.agg (Qz rf).toArray,XJ Qb]).map (Q8 0 4))) (by kernel_rfl) (by kernel_rfl) fun B hJ=>CS rf Qb hr hp hJ
end
end Go.Proofs.Ytncjjangllkokaa

namespace Go.Proofs.Ytncjjangllkokaa
open Go Go.CE Go.RowKit
theorem SS{f:F4}{ps:List Qd}:∀(n:Nat) (i:Int),0<=i->(ps.length-i).toNat=n->
 ((X8 f (ps.drop i.toNat) i).1=true->i<=(X8 f (ps.drop i.toNat) i).2.1/\(X8 f (ps.drop i.toNat) i).2.1<ps.length/\0<(X8 f (ps.drop i.toNat) i).2.2/\(X8 f (ps.drop i.toNat) i).2.2=(Ve ps (X8 f (ps.drop i.toNat) i).2.1).goal-f.at (X8 f (ps.drop i.toNat) i).2.1/\∀k,i<=k->k<(X8 f (ps.drop i.toNat) i).2.1->(Ve ps k).goal<=f.at k)/\
 ((X8 f (ps.drop i.toNat) i).1=false->∀k,i<=k->k<ps.length->(Ve ps k).goal<=f.at k)
 |0,i,h0,hn=>by
  rw[bf (l:=ps) (i:=i) (by omega)];exact⟨fun h=>Bool.noConfusion h,fun _ k k0 k1=>by omega⟩
 |n+1,i,h0,hn=>by
  have ih:=SS (f:=f) (ps:=ps) n (i+1) (by omega) (by omega);rw[WT (l:=ps) h0 (by omega)];by_cases hd:0<(ps.getD i.toNat NC).goal-f.at i
  ·rw[decide_eq_true hd,cond_true];exact⟨fun _=>⟨Ol _,(show i<ps.length by omega),hd,rfl,fun k k0 k1=>by simp only at k1;omega⟩,fun h=>Bool.noConfusion h⟩
  ·rw[decide_eq_false hd,cond_false];have hi:(Ve ps i).goal<=f.at i:=by show(ps.getD i.toNat NC).goal<=_;omega
   refine⟨fun h=> ?_,fun h k k0 k1=> ?_⟩
   ·obtain⟨a,b,c,d,e⟩:=ih.1 h;refine⟨by omega,b,c,d,fun k k0 k1=> ?_⟩;by_cases ek:k=i
    ·subst ek;exact hi
    ·exact e k (by omega) k1
   ·by_cases ek:k=i
    ·subst ek;exact hi
    ·exact ih.2 h k (by omega) k1
theorem Ag{rf:Qe}{Qb:List Int}(h:(Zc rf Qb).1=true):0<=(Zc rf Qb).2.1/\(Zc rf Qb).2.1<rf.Qa.length/\0<(Zc rf Qb).2.2/\(Zc rf Qb).2.2=(Ve rf.Qa (Zc rf Qb).2.1).goal-(QG rf Qb rf.Qc.toNat).at (Zc rf Qb).2.1/\∀k:Int,0<=k->k<(Zc rf Qb).2.1->(Ve rf.Qa k).goal<=(QG rf Qb rf.Qc.toNat).at k:=
 (SS (f:=QG rf Qb rf.Qc.toNat) (ps:=rf.Qa) _ 0 (Ol _) rfl).1 h
theorem CA{rf:Qe}{Qb:List Int}(h:(Zc rf Qb).1=false):∀k:Int,0<=k->k<rf.Qa.length->(Ve rf.Qa k).goal<=(QG rf Qb rf.Qc.toNat).at k:=
 (SS (f:=QG rf Qb rf.Qc.toNat) (ps:=rf.Qa) _ 0 (Ol _) rfl).2 h
end Go.Proofs.Ytncjjangllkokaa

namespace Go.Proofs.Ytncjjangllkokaa
open Go Go.CE Go.RowKit
section
variable {rf:Qe} {k:Int} (k0:0<=k) (k1:k<rf.Qa.length)
include k0 k1
theorem F9:nth (KA rf) k=(Ve rf.Qa k).glo:=Kz k0 k1
theorem C7:nth (VS rf) k=(Ve rf.Qa k).count:=Kz k0 k1
theorem Cy{p:Int}:nth (PC rf p) k=(VJ p k (Ve rf.Qa k)).hi:=by
 unfold PC;rw[bB k0 (by rw[VY];exact k1),SO k0 k1];rfl
end
section
variable {rf:Qe} {place l l':Int} {Qb:List Int} (hr:XG rf=true) (p0:0<=place) (p1:place<rf.Qa.length) (h0:0<=l) (hl:l<=l') (h1:l'<=1000000)
theorem mB{m m':Int}(p0:0<=place)(p1:place<rf.Qa.length):sx (XE rf place m).Qa (XE rf place m').Qa:=⟨by rw[Wj,Wj],fun k k0 k1=>by
 rw[Wj]at k1;have a:=Sq (most:=m) p0 p1 k0 k1;have b:=Sq (most:=m') p0 p1 k0 k1;show(Ve (XE rf place m').Qa k).room=(Ve (XE rf place m).Qa k).room/\_;rw[show Ve (XE rf place m').Qa k=_ from b,show Ve (XE rf place m).Qa k=_ from a];split <;> exact⟨rfl,rfl,rfl⟩⟩
include hr p0 p1 h0 hl h1
theorem Fi{k:Nat}(hk:k<=rf.Qc):Cr (QG (XE rf place l') Qb k) (QG (XE rf place l) Qb k):=by
 have hW:=Sr (most:=l') hr p0 p1 ⟨by omega,h1⟩;unfold QG;rw[<-ix (mB (m:=l') (m':=l) p0 p1) k];have at':∀j:Int,0<=j->j<(XE rf place l').Qa.length->Ve (XE rf place l').Qa j=(if j=place then mC (Ve rf.Qa j) l' else Ve rf.Qa j)/\Ve (XE rf place l).Qa j=(if j=place then mC (Ve rf.Qa j) l else Ve rf.Qa j)/\j<(XE rf place l).Qa.length:=fun j j0 j1=>by
  rw[Wj]at j1;exact⟨Sq p0 p1 j0 j1,Sq p0 p1 j0 j1,by rw[Wj];exact j1⟩
 rw[ix (mB (m:=l') (m':=l) p0 p1) k,<-ix (mB (m:=l) (m':=l') p0 p1) k];refine zl (bC Qb hW) (fun s hs=> ?_) (fun s hs=> ?_) ?_ k hk
 ·have e1:(Zu (XE rf place l')).getD s NC=KA (XE rf place l'):=Xh (k:=(s:Int)) (by omega) hs;have e2:(Zu (XE rf place l)).getD s NC=KA (XE rf place l):=Xh (k:=(s:Int)) (by omega) hs;rw[e1,e2];intro j j0 j1;obtain⟨a,b,c⟩:=at' j j0 j1;rw[F9 j0 j1,F9 j0 c,a,b];split <;> exact Ol _
 ·have e1:(Z4 (XE rf place l') Qb).getD s NC=PC (XE rf place l') (Qb.getD ((s:Int)).toNat 0):=Xh (k:=(s:Int)) (by omega) hs;have e2:(Z4 (XE rf place l) Qb).getD s NC=PC (XE rf place l) (Qb.getD ((s:Int)).toNat 0):=Xh (k:=(s:Int)) (by omega) hs;rw[e1,e2];intro j j0 j1;obtain⟨a,b,c⟩:=at' j j0 j1;rw[Cy j0 j1,Cy j0 c,a,b];split
  ·unfold VJ;split
   ·exact Ol _
   ·show(mC _ l).ohi<=(mC _ l').ohi;unfold mC;simp only;split <;> split <;> omega
  ·exact Ol _
 ·refine Ac (n:=rf.Qa.length) (by rw[WM,Wj]) (by rw[WM,Wj]) fun j j0 j1=> ?_
  have j1':j<(XE rf place l').Qa.length:=by rw[Wj];exact j1
  obtain⟨a,b,c⟩:=at' j j0 j1';rw[C7 j0 j1',C7 j0 c,a,b];split <;> exact Ol _
theorem Gn(h:K6 rf Qb place l=true)(hs:1<=rf.Qc):K6 rf Qb place l'=true:=by
 cases hb:K6 rf Qb place l' with
 |true=>rfl
 |false=>
  exfalso;have Z0:=Q5 (Qs hr).1;have y:=Ag (rf:=XE rf place l) (Qb:=Qb) h;have n:=CA (rf:=XE rf place l') (Qb:=Qb) hb (Zc (XE rf place l) Qb).2.1 y.1 (by have:=y.2.1;rw[Wj]at this ⊢;exact this);have m:=Fi (Qb:=Qb) hr p0 p1 h0 hl h1 (k:=rf.Qc.toNat) (by omega) (Zc (XE rf place l) Qb).2.1 y.1 (by have:=y.2.1;rw[Wj]at this;omega);have k1:(Zc (XE rf place l) Qb).2.1<rf.Qa.length:=by have:=y.2.1;rw[Wj]at this;exact this
  have a:=Sq (most:=l) p0 p1 y.1 k1;have b:=Sq (most:=l') p0 p1 y.1 k1;have y4:=y.2.2.2.1;have y3:=y.2.2.1;rw[show Ve (XE rf place l).Qa (Zc (XE rf place l) Qb).2.1=_ from a]at y4;rw[show Ve (XE rf place l').Qa (Zc (XE rf place l) Qb).2.1=_ from b]at n;have n':(if(Zc (XE rf place l) Qb).2.1=place then mC (Ve rf.Qa (Zc (XE rf place l) Qb).2.1) l else Ve rf.Qa (Zc (XE rf place l) Qb).2.1).goal=(if(Zc (XE rf place l) Qb).2.1=place then mC (Ve rf.Qa (Zc (XE rf place l) Qb).2.1) l' else Ve rf.Qa (Zc (XE rf place l) Qb).2.1).goal:=by split <;> rfl
  have s1:(XE rf place l).Qc=rf.Qc:=rfl;have s2:(XE rf place l').Qc=rf.Qc:=rfl;rw[s1]at y4;rw[s2]at n;omega
end
end Go.Proofs.Ytncjjangllkokaa

namespace Go.Proofs.Ytncjjangllkokaa
open Go Go.CE Go.RowKit
noncomputable section
set_option maxRecDepth 100000
def Yl(p:Int->Bool)(a b:Int):Int:=
 if h:a<b then(if p (b-(b-a).tdiv 2)=true then Yl p a (b-(b-a).tdiv 2-1)else Yl p (b-(b-a).tdiv 2) b)else a
termination_by (b-a).toNat
decreasing_by all_goals (have:=Ov (a:=b-a) (b:=2) (by omega);omega)
theorem cK{a b:Int}(h:a<b):a<b-(b-a).tdiv 2/\b-(b-a).tdiv 2<=b:=by
 have:=Ov (a:=b-a) (b:=2) (by omega);omega
theorem tF{p:Int->Bool}{a b:Int}(h:¬a<b):Yl p a b=a:=by rw[Yl,dif_neg h]
theorem tE{p:Int->Bool}{a b:Int}(h:a<b)(hp:p (b-(b-a).tdiv 2)=true):Yl p a b=Yl p a (b-(b-a).tdiv 2-1):=by rw[Yl,dif_pos h,if_pos hp]
theorem zz{p:Int->Bool}{a b:Int}(h:a<b)(hp:p (b-(b-a).tdiv 2)=false):Yl p a b=Yl p (b-(b-a).tdiv 2) b:=by rw[Yl,dif_pos h,if_neg (by rw[hp];decide)]
theorem AH{p:Int->Bool}:∀(n:Nat) (a b:Int),(b-a).toNat=n->a<=b->(∀k k',a<k->k<=k'->k'<=b->p k=true->p k'=true)->
 a<=Yl p a b/\Yl p a b<=b/\(∀k,a<k->k<=Yl p a b->p k=false)/\(∀k,Yl p a b<k->k<=b->p k=true):=by
 intro n;induction n using Oi with
 |_ n ih=>
  intro a b hn hab hm;by_cases h:a<b
  ·have hi:=cK h;cases hp:p (b-(b-a).tdiv 2)with
   |true=>
    rw[tE h hp];obtain⟨x1,x2,x3,x4⟩:=ih _ (by omega) a (b-(b-a).tdiv 2-1) rfl (by omega) (fun k k' g1 g2 g3=>hm k k' g1 g2 (by omega));refine⟨x1,by omega,x3,fun k k1 k2=> ?_⟩;by_cases e:k<=b-(b-a).tdiv 2-1
    ·exact x4 k k1 e
    ·exact hm _ k hi.1 (by omega) k2 hp
   |false=>
    rw[zz h hp];obtain⟨x1,x2,x3,x4⟩:=ih _ (by omega) (b-(b-a).tdiv 2) b rfl (by omega) (fun k k' g1 g2 g3=>hm k k' (by omega) g2 g3);refine⟨by omega,x2,fun k k1 k2=> ?_,x4⟩;by_cases e:b-(b-a).tdiv 2<k
    ·exact x3 k e k2
    ·cases hk:p k with
     |false=>rfl
     |true=>have:=hm k _ k1 (by omega) hi.2 hk;rw[hp]at this;cases this
  ·rw[tF h];exact⟨Ol _,hab,fun k k1 k2=>by omega,fun k k1 k2=>by omega⟩
theorem Hq{rf:Qe}{Qb:List Int}{place:Int}(hr:XG rf=true)(p0:0<=place)(p1:place<rf.Qa.length):Yl (K6 rf Qb place) (-1) 1000000=QN rf Qb place-1:=by
 have Z0:=Q5 (Qs hr).1;have mono:∀r r':Int,0<=r->r<=r'->r'<=1000000->K6 rf Qb place r=true->K6 rf Qb place r'=true:=fun r r' g1 g2 g3 h=>Gn hr p0 p1 g1 g2 g3 h (by omega)
 obtain⟨a1,a2,a3,a4⟩:=BL (p:=K6 rf Qb place) (q:=fun _=>0) _ 0 1000001 0 rfl (by omega) (by omega) (fun r r' g1 g2 g3=>mono r r' g1 g2 (by omega));obtain⟨b1,b2,b3,b4⟩:=AH (p:=K6 rf Qb place) _ (-1) 1000000 rfl (by omega) (fun r r' g1 g2 g3=>mono r r' (by omega) g2 g3);unfold QN;generalize (JD (K6 rf Qb place) (fun _=>0) 0 1000001 0).1=m at *;generalize Yl (K6 rf Qb place) (-1) 1000000=q at *;by_cases e1:q<m-1
 ·have x:=b4 (q+1) (by omega) (by omega);have y:=a3 (q+1) (by omega) (by omega);rw[x]at y;cases y
 ·by_cases e2:m-1<q
  ·have x:=b3 q (by omega) (Ol _);have y:=a4 q (by omega) (by omega);rw[x]at y;cases y
  ·omega
theorem tC{rf:Qe}{Qb:List Int}{place:Int}:0<=QN rf Qb place/\QN rf Qb place<=1000001:=HL _ 0 1000001 0 rfl (by omega) (by omega)
theorem tc(B:Lo)(rf:Qe)(place most:Int):let g:=0+ND place*12+6;let e:=ND place;let c:=rf.Qa;let d:=Qg Qk c;let b:=c.getD e NC;let a:=Ot c e {count:=b.count,room:=b.room,glo:=b.glo,ghi:=b.ghi,drift:=b.drift,into:=b.into,olo:=if most<b.olo then most else b.olo,ohi:=if most<b.ohi then most else b.ohi,slo:=b.slo,shi:=b.shi,goal:=b.goal,worth:=b.worth};let f:=Fz.cs {k:=4,rs:=[],cs:=Qg Qk a};Xe (Qv YP (QA YP) J0 B 14 1 (Qw YP 45 35 (([.agg (Qz rf).toArray,.int .i64 place,.int .i64 most]).map (Q8 0 4))) Ze 1
 [(7,Qj.tapp d),(13,Qj.XV (Hint.idx e)),(15,Qj.XV (Hint.ld (.agg #[.int .i64 b.olo,.int .i64 b.ohi]))),(30,Qj.XV (Hint.idx e)),(32,Qj.XV (Hint.st (Qg Qk a)))] 0 [] []) [{k:=4,rs:=[],cs:=Qg Qk a}]=some (.agg #[QO c.length f,.int .i64 rf.Qn,.int .i64 rf.Qc],
 [XT (Fz.rs {k:=4,rs:=[],cs:=Qg Qk a}) (Qg Qk a) f,0+ND place*12+6+TypeInfo.size Try.t38<=Ox d/\splice d g (Value.cells (XB {len:=16000,tr:=Tri.set 14 (Tri.set 14 Tri.lf 31 (.agg #[.int .i64 (if most<b.olo then most else b.olo),.int .i64 (if most<b.ohi then most else b.ohi)])) 33 (.pointer (some {block:=4,off:=0+ND place*12+6}))} 31))=Qg Qk a,place=(↑e:Int)/\ND place<NG c,0+ND place*12+6+TypeInfo.size Try.t38<=Ox d/\NW d g (0+ND place*12+6+TypeInfo.size Try.t38)=#[.int .i64 b.olo,.int .i64 b.ohi],place=(↑e:Int)/\ND place<NG c,0<NG c/\NG c<=maxLen/\NG c*96<=140737488355328/\Ox d=NG c*(11+1)/\Array.map (ZX 0) d=Qg Qk c/\(Array.all d fun v=>simple v || WO v)=true/\ones d=true]):=by intro g e c d b a f;kernel_rfl
set_option maxHeartbeats 4000000 in
theorem xl(rf:Qe)(place most:Int)(hn:1<=rf.Qa.length/\rf.Qa.length<=4)(p0:0<=place)(p1:place<rf.Qa.length){B:Lo}(hJ:∀w,B.has w->J0 w):EndsT YP B (Qw YP 45 35 (([.agg (Qz rf).toArray,.int .i64 place,.int .i64 most]).map (Q8 0 4))) (.agg (Qz (XE rf place most)).toArray):=by
 by_cases q0:(NG rf.Qa:Int)=(0)
 ·exfalso
  (omega)
 ·exact(GoE.endsT okF hJ Qf GoE.start (tc B rf place most)
   ⟨(X9 (fun x=>List.all_eq_true.1 (by rfl))),⟨(by exact s9 (z:=12) (k:=ND place) (j:=6) (fun _=>rfl) (by omega) rfl rfl (by decide)),⟨⟨by omega,by omega⟩,⟨(by exact nK (z:=12) (k:=ND place) (j:=6) (fun _=>rfl) (by omega) (by decide) rfl rfl),⟨⟨by omega,by omega⟩,⟨⟨by omega,(by unfold maxLen;omega),by omega,(by exact Xi (z:=12) (fun _=>rfl)),SN (fun _=>rfl) _⟩,trivial⟩⟩⟩⟩⟩⟩).cast (by(have hs_:(XE rf place most).Qa.length=rf.Qa.length:=Wj;show _=Value.agg #[QO (XE rf place most).Qa.length _,_,_];rw[hs_];rfl))
theorem DC(rf:Qe)(place most:Int)(hn:1<=rf.Qa.length/\rf.Qa.length<=4)(p0:0<=place)(p1:place<rf.Qa.length):Q4 YP J0 45 #[.agg (Qz rf).toArray,.int .i64 place,.int .i64 most] (.agg (Qz (XE rf place most)).toArray):=
 Xr (ts:=[.agg (Qz rf).toArray,.int .i64 place,.int .i64 most]) Zk (c0:=Qw YP 45 35 (([.agg (Qz rf).toArray,.int .i64 place,.int .i64 most]).map (Q8 0 4))) (by kernel_rfl) (by kernel_rfl) fun B hJ=>xl rf place most hn p0 p1 hJ
def TN(x_:Qe):Array Value:=#[QO x_.Qa.length (Qg Qk x_.Qa),.int .i64 x_.Qn,.int .i64 x_.Qc]
def KE(rf:Qe)(Qb:List Int)(place:Int)(a b:Int):List Value:=[Q6 1 (QO Qb.length (Qg Q3 Qb)),.int .i64 place,pA 2 0,.int .i64 a,.int .i64 b]
def UW(rf:Qe)(Qb:List Int)(place:Int)(a b:Int):List Obj:=[Obj.cells #[Q6 1 (QO rf.Qa.length (Qg Qk rf.Qa)),.int .i64 rf.Qn,.int .i64 rf.Qc] 24]
def KF:List Item:=([.code [1,1,0,0,0],.inLoop [1,1,0,0,0],.inBlock 0,.code [1,1,1]]).map (it (QX YP 44))
def A7(B:Lo)(c0:CF)(rf:Qe)(Qb:List Int)(place:Int)(a b:Int):Prop:=∃dJ:Nat->Value,(∀t,X4 (dJ t))/\GoE YP B c0 Ze 1 (QJ 44 37 (([1,2,3,7,8]:List Nat).zip (KE rf Qb place a b)) dJ KF) (QH (UW rf Qb place a b)) (2+(UW rf Qb place a b).length) []
def eG(B:Lo)(rf:Qe)(Qb:List Int)(place:Int)(a b:Int)(Qt:Nat->Value):List Prop:=[Q7 []/\Q4 YP J0 45 #[.agg #[QO rf.Qa.length (Qg Qk rf.Qa),.int .i64 rf.Qn,.int .i64 rf.Qc],.int .i64 place,.int .i64 (b-NF (b-a) 2)] (.agg (TN (XE rf place (b-NF (b-a) 2)))),wq (b-NF (b-a) 2)=b-NF (b-a) 2,IntKind.wrap .i64 (NF (b-a) 2)=NF (b-a) 2,wq (b-a)=b-a,XY a b=true]++([]:List Prop)
def oc(rf:Qe)(Qb:List Int)(place:Int)(a b:Int)(Qt:Nat->Value):QE:=[(2,W9),(6,Wu (b-a)),(7,Wu (NF (b-a) 2)),(8,Wu (b-NF (b-a) 2)),(13,Qj.pure (.agg (TN (XE rf place (b-NF (b-a) 2)))) [])]
theorem A5(B:Lo)(rf:Qe)(Qb:List Int)(place:Int)(a b:Int)(Qt:Nat->Value):let f:=UW rf Qb place a b;let e:=XE rf place (b-NF (b-a) 2);let g:=Prod.snd (Zc e Qb);let d:=b-NF (b-a) 2-1;let c:=Value.tuple #[.int .i64 (Prod.fst g),.int .i64 (Prod.snd g),.bool true];landM (Qv YP (QA YP) J0 B 16 1 (QJ 44 37 (([1,2,3,7,8]:List Nat).zip (KE rf Qb place a b)) Qt KF) (QH f) (2+f.length)
 (oc rf Qb place a b Qt++[(15,Qj.pure c []),(25,Wu d)]) 0 [] []) [1,2,3,7,8] [(2,KS.auto)] []=some ⟨44,37,KF,[],.run,none,KE rf Qb place (a) d,UW rf Qb place (a) d,
 [wq d=b-NF (b-a) 2-1,Q7 []/\Q4 YP J0 36 #[.agg (TN e),QO Qb.length (Qg Q3 Qb)] c]++eG B rf Qb place a b Qt⟩:=by intro f e g d c;kernel_rfl
theorem A4(B:Lo)(rf:Qe)(Qb:List Int)(place:Int)(a b:Int)(Qt:Nat->Value):let f:=UW rf Qb place a b;let d:=b-NF (b-a) 2;let e:=Prod.snd (Zc (XE rf place d) Qb);let c:=Value.tuple #[.int .i64 (Prod.fst e),.int .i64 (Prod.snd e),.bool false];landM (Qv YP (QA YP) J0 B 16 1 (QJ 44 37 (([1,2,3,7,8]:List Nat).zip (KE rf Qb place a b)) Qt KF) (QH f) (2+f.length)
 (oc rf Qb place a b Qt++[(15,Qj.pure c [])]) 0 [] []) [1,2,3,7,8] [(2,KS.auto)] []=some ⟨44,37,KF,[],.run,none,KE rf Qb place d (b),UW rf Qb place d (b),
 [Q7 []/\Q4 YP J0 36 #[.agg (TN (XE rf place d)),QO Qb.length (Qg Q3 Qb)] c]++eG B rf Qb place a b Qt⟩:=by intro f d e c;kernel_rfl
theorem A3(B:Lo)(rf:Qe)(Qb:List Int)(place:Int)(a b:Int)(Qt:Nat->Value):let c:=UW rf Qb place a b;Xe (Qv YP (QA YP) J0 B 9 1 (QJ 44 37 (([1,2,3,7,8]:List Nat).zip (KE rf Qb place a b)) Qt KF) (QH c) (2+c.length)
 [(2,Vd)] 0 [] []) []=some (.int .i64 a,
 [XY a b=false]):=by intro c;kernel_rfl
theorem A0(B:Lo)(rf:Qe)(Qb:List Int)(place:Int):landM (Qv YP (QA YP) J0 B 7 1 (Qw YP 44 37 (([.agg (Qz rf).toArray,XJ Qb,.int .i64 place]).map (Q8 0 4))) Ze 1
 [] 0 [] []) [1,2,3,7,8] [(1,KS.auto)] []=some ⟨44,37,KF,[],.run,none,KE rf Qb place (-1) (1000000),UW rf Qb place (-1) (1000000),
 []⟩:=by kernel_rfl
set_option maxHeartbeats 4000000 in
theorem A6(rf:Qe)(Qb:List Int)(place:Int)(hr:XG rf=true)(hp:X2 rf Qb=true)(p0:0<=place)(p1:place<rf.Qa.length){B:Lo}(hJ:∀w,B.has w->J0 w){c0:CF}:∀m:Nat,(∀(a b:Int),(b-a).toNat=m->∀(a0: -1<=a) (ab:a<=b) (b1:b<=1000000),A7 B c0 rf Qb place a b->EndsT YP B c0 (.int .i64 (Yl (K6 rf Qb place) a b))):=by
 intro m0;induction m0 using Oi with
 |_ m0 ih0=>
  intro a b Ru a0 ab b1 ⟨Qt,Vs,XL⟩;have Z0:=Q5 (Qs hr).1;have Z0:=Q5 (Qs hr).1;by_cases q0:(a:Int)<(b)
  ·have Vg:Q7 (eG B rf Qb place a b Qt):=by
    have hm:=cK (show a<b by omega);have hW:=Sr (most:=b-(b-a).tdiv 2) hr p0 p1 (by omega);have hP:=(Vp (rf:=rf) (place:=place) (most:=b-(b-a).tdiv 2) (Qb:=Qb)).trans hp;exact⟨⟨trivial,DC (rf) (place) (b-NF (b-a) 2) (by omega) (by with_reducible assumption) (by with_reducible assumption)⟩,⟨(Xb (by omega) (by omega)),⟨(KW (by omega) (by omega)),⟨(Xb (by omega) (by omega)),⟨(XD q0),trivial⟩⟩⟩⟩⟩
   cases q1:Prod.fst (Zc (XE rf place (b-NF (b-a) 2)) Qb)with
   |true=>
    have hm:=cK (show a<b by omega);have hW:=Sr (most:=b-(b-a).tdiv 2) hr p0 p1 (by omega);have hP:=(Vp (rf:=rf) (place:=place) (most:=b-(b-a).tdiv 2) (Qb:=Qb)).trans hp;have s2:=tE (p:=K6 rf Qb place) (show a<b by omega) (show K6 rf Qb place (b-(b-a).tdiv 2)=_ by assumption);exact((ih0 _ (by omega)) (a) (b-NF (b-a) 2-1) rfl (by with_reducible assumption) (by omega) (by omega)
     (XL.landM okF hJ Qf (A5 B rf Qb place a b Qt)
     ⟨(Xb (by omega) (by omega)),⟨⟨trivial,(by have t_:=CT (XE rf place (b-NF (b-a) 2)) (Qb) (by with_reducible assumption) (by with_reducible assumption);rw[q1]at t_;exact t_)⟩,Vg⟩⟩ (by kernel_rfl) (by kernel_rfl))).cast (by(rw[s2];done))
   |false=>
    have hm:=cK (show a<b by omega);have hW:=Sr (most:=b-(b-a).tdiv 2) hr p0 p1 (by omega);have hP:=(Vp (rf:=rf) (place:=place) (most:=b-(b-a).tdiv 2) (Qb:=Qb)).trans hp;have s2:=zz (p:=K6 rf Qb place) (show a<b by omega) (show K6 rf Qb place (b-(b-a).tdiv 2)=_ by assumption);exact((ih0 _ (by omega)) (b-NF (b-a) 2) (b) rfl (by omega) (by omega) (by with_reducible assumption)
     (XL.landM okF hJ Qf (A4 B rf Qb place a b Qt)
     ⟨⟨trivial,(by have t_:=CT (XE rf place (b-NF (b-a) 2)) (Qb) (by with_reducible assumption) (by with_reducible assumption);rw[q1]at t_;exact t_)⟩,Vg⟩ (by kernel_rfl) (by kernel_rfl))).cast (by(rw[s2];done))
  ·have hP:=(Vp (rf:=rf) (place:=place) (most:=b-(b-a).tdiv 2) (Qb:=Qb)).trans hp;have s2:=tF (p:=K6 rf Qb place) (show ¬a<b by omega);exact(GoE.endsT okF hJ Qf XL (A3 B rf Qb place a b Qt)
    ⟨(Zb (Int.not_lt.1 q0)),trivial⟩).cast (by(rw[s2];done))
set_option maxHeartbeats 4000000 in
theorem D2(rf:Qe)(Qb:List Int)(place:Int)(hr:XG rf=true)(hp:X2 rf Qb=true)(p0:0<=place)(p1:place<rf.Qa.length){B:Lo}(hJ:∀w,B.has w->J0 w):EndsT YP B (Qw YP 44 37 (([.agg (Qz rf).toArray,XJ Qb,.int .i64 place]).map (Q8 0 4))) (.int .i64 (QN rf Qb place-1)):=by
 have Z0:=Q5 (Qs hr).1;exact((A6 rf Qb place hr hp p0 p1 hJ _) (-1) (1000000) rfl (by omega) (by omega) (by omega)
  (GoE.start.landM okF hJ Qf (A0 B rf Qb place)
  trivial (by kernel_rfl) (by kernel_rfl))).cast (by(rw[<-Hq hr p0 p1];done))
theorem D3(rf:Qe)(Qb:List Int)(place:Int)(hr:XG rf=true)(hp:X2 rf Qb=true)(p0:0<=place)(p1:place<rf.Qa.length):Q4 YP J0 44 #[.agg (Qz rf).toArray,XJ Qb,.int .i64 place] (.int .i64 (QN rf Qb place-1)):=
 Xr (ts:=[.agg (Qz rf).toArray,XJ Qb,.int .i64 place]) Zk (c0:=Qw YP 44 37 (([.agg (Qz rf).toArray,XJ Qb,.int .i64 place]).map (Q8 0 4))) (by kernel_rfl) (by kernel_rfl) fun B hJ=>D2 rf Qb place hr hp p0 p1 hJ
def eP(rf:Qe)(Qb:List Int):Array Value:=#[QO rf.Qa.length (Qg Qk rf.Qa),.int .i64 rf.Qn,.int .i64 rf.Qc,.int .i64 (Qb.getD 0 0),.int .i64 (Qb.getD 1 0),.int .i64 (Qb.getD 2 0),.int .i64 (Qb.getD 3 0)]
def eO(rf:Qe)(Qb:List Int):Array Value:=#[.agg #[QO rf.Qa.length (Qg Qk rf.Qa),.int .i64 rf.Qn,.int .i64 rf.Qc],QO Qb.length (Qg Q3 Qb)]
def aw(rf:Qe):Array Value:=#[QO rf.Qa.length (Qg Qk rf.Qa),.int .i64 rf.Qn,.int .i64 rf.Qc]
def eT(B:Lo)(rf:Qe)(Qb:List Int)(place:Int):List Prop:=[Q7 []/\Q4 YP J0 50 #[.agg (aw rf)] (.bool true)]++([]:List Prop)
def oE(rf:Qe)(Qb:List Int)(place:Int):QE:=[(4,Qj.pure (.bool true) [])]
def eS(B:Lo)(rf:Qe)(Qb:List Int)(place:Int):List Prop:=[Q7 []/\Q4 YP J0 51 (eO rf Qb) (.bool true)]++eT B rf Qb place
def oD(rf:Qe)(Qb:List Int)(place:Int):QE:=oE rf Qb place++[(9,Qj.pure (.bool true) [])]
def eQ(B:Lo)(rf:Qe)(Qb:List Int)(place:Int):List Prop:=[Q7 []/\Q4 YP J0 71 #[.agg (eP rf Qb),.int .i64 place] (.int .i64 (QN rf Qb place)),Q7 []/\Q4 YP J0 52 (eO rf Qb) (.agg (eP rf Qb)),Q7 []/\Q4 YP J0 70 #[.agg (aw rf),.int .i64 place] (.bool true)]++eS B rf Qb place
def oC(rf:Qe)(Qb:List Int)(place:Int):QE:=oD rf Qb place++[(15,Qj.pure (.bool true) []),(20,Qj.pure (.agg (eP rf Qb)) []),(22,Qj.pure (.int .i64 (QN rf Qb place)) [])]
theorem Bq(B:Lo)(rf:Qe)(Qb:List Int)(place:Int):Xe (Qv YP (QA YP) J0 B 17 1 (Qw YP 43 33 (([.agg (Qz rf).toArray,XJ Qb,.int .i64 place]).map (Q8 0 4))) Ze 1
 (oC rf Qb place++[(25,W9)]) 0 [] []) []=some (.tuple #[.int .i64 0,.int .i64 5],
 [YM (QN rf Qb place) 0=true]++eQ B rf Qb place):=by kernel_rfl
theorem Bp(B:Lo)(rf:Qe)(Qb:List Int)(place:Int):let a:=QN rf Qb place-1;Xe (Qv YP (QA YP) J0 B 18 1 (Qw YP 43 33 (([.agg (Qz rf).toArray,XJ Qb,.int .i64 place]).map (Q8 0 4))) Ze 1
 (oC rf Qb place++[(25,Vd),(27,Wu a)]) 0 [] []) []=some (.tuple #[.int .i64 a,.int .i64 0],
 [wq a=QN rf Qb place-1,YM (QN rf Qb place) 0=false]++eQ B rf Qb place):=by intro a;kernel_rfl
theorem Bo(B:Lo)(rf:Qe)(Qb:List Int)(place:Int):Xe (Qv YP (QA YP) J0 B 10 1 (Qw YP 43 33 (([.agg (Qz rf).toArray,XJ Qb,.int .i64 place]).map (Q8 0 4))) Ze 1
 (oD rf Qb place++[(15,Qj.pure (.bool false) [])]) 0 [] []) []=some (.tuple #[.int .i64 0,.int .i64 2],
 [Q7 []/\Q4 YP J0 70 #[.agg (aw rf),.int .i64 place] (.bool false)]++eS B rf Qb place):=by kernel_rfl
theorem Bn(B:Lo)(rf:Qe)(Qb:List Int)(place:Int):Xe (Qv YP (QA YP) J0 B 10 1 (Qw YP 43 33 (([.agg (Qz rf).toArray,XJ Qb,.int .i64 place]).map (Q8 0 4))) Ze 1
 (oE rf Qb place++[(9,Qj.pure (.bool false) [])]) 0 [] []) []=some (.tuple #[.int .i64 0,.int .i64 2],
 [Q7 []/\Q4 YP J0 51 (eO rf Qb) (.bool false)]++eT B rf Qb place):=by kernel_rfl
theorem Bm(B:Lo)(rf:Qe)(Qb:List Int)(place:Int):Xe (Qv YP (QA YP) J0 B 10 1 (Qw YP 43 33 (([.agg (Qz rf).toArray,XJ Qb,.int .i64 place]).map (Q8 0 4))) Ze 1
 [(4,Qj.pure (.bool false) [])] 0 [] []) []=some (.tuple #[.int .i64 0,.int .i64 2],
 [Q7 []/\Q4 YP J0 50 #[.agg (aw rf)] (.bool false)]):=by kernel_rfl
set_option maxHeartbeats 4000000 in
theorem EG(rf:Qe)(Qb:List Int)(place:Int)  {B:Lo}(hJ:∀w,B.has w->J0 w):EndsT YP B (Qw YP 43 33 (([.agg (Qz rf).toArray,XJ Qb,.int .i64 place]).map (Q8 0 4))) (.tuple #[.int .i64 (if X1 rf && (X2 rf Qb && Wt place 0 (rf.Qa.length-1))then(if QN rf Qb place=0 then 0 else QN rf Qb place-1)else 0),.int .i64 (if X1 rf && (X2 rf Qb && Wt place 0 (rf.Qa.length-1))then(if QN rf Qb place=0 then 5 else 0)else 2)]):=by
 have hq:=tC (rf:=rf) (Qb:=Qb) (place:=place);cases q0:X1 rf with
 |true=>
  have Vg:Q7 (eT B rf Qb place):=by
   have KY:=WC ‹X1 rf=true›;have Z0:=Q5 (Xz ‹X1 rf=true›).1;exact⟨⟨trivial,(by have t_:=z4 (rf);rw[q0]at t_;exact t_)⟩,trivial⟩
  cases q1:X2 rf Qb with
  |true=>
   have hp1:Q7 (eS B rf Qb place):=by
    have KY:=WC ‹X1 rf=true›;have Z0:=Q5 (Xz ‹X1 rf=true›).1;have hpf:=(Xs ‹X2 rf Qb=true›).1;exact⟨⟨trivial,(by have t_:=z5 (rf) (Qb) (by omega);rw[q1]at t_;exact t_)⟩,Vg⟩
   cases q2:Wt place 0 ((↑rf.Qa.length:Int)-1)with
   |true=>
    have JU:Q7 (eQ B rf Qb place):=by
     have KY:=WC ‹X1 rf=true›;have Z0:=Q5 (Xz ‹X1 rf=true›).1;have hpf:=(Xs ‹X2 rf Qb=true›).1;have hpi:=Wa.1 ‹Wt place 0 _=true›;exact⟨⟨trivial,Eu (rf) (Qb) (place) (by with_reducible assumption) (by with_reducible assumption) (by omega) (by omega)⟩,⟨⟨trivial,AI (rf) (Qb) (by omega) (by omega)⟩,⟨⟨trivial,(by have t_:=aj (rf) (place);rw[q2]at t_;exact t_)⟩,hp1⟩⟩⟩
    by_cases q3:(QN rf Qb place:Int)=(0)
    ·have KY:=WC ‹X1 rf=true›;have Z0:=Q5 (Xz ‹X1 rf=true›).1;have hpf:=(Xs ‹X2 rf Qb=true›).1;have hpi:=Wa.1 ‹Wt place 0 _=true›;exact(GoE.endsT okF hJ Qf GoE.start (Bq B rf Qb place)
      ⟨(K2 q3),JU⟩).cast (by(simp[*];done))
    ·have KY:=WC ‹X1 rf=true›;have Z0:=Q5 (Xz ‹X1 rf=true›).1;have hpf:=(Xs ‹X2 rf Qb=true›).1;have hpi:=Wa.1 ‹Wt place 0 _=true›;exact(GoE.endsT okF hJ Qf GoE.start (Bp B rf Qb place)
      ⟨(Xb (by omega) (by omega)),⟨(K3 q3),JU⟩⟩).cast (by(simp[*];done))
   |false=>
    have KY:=WC ‹X1 rf=true›;have Z0:=Q5 (Xz ‹X1 rf=true›).1;have hpf:=(Xs ‹X2 rf Qb=true›).1;exact(GoE.endsT okF hJ Qf GoE.start (Bo B rf Qb place)
     ⟨⟨trivial,(by have t_:=aj (rf) (place);rw[q2]at t_;exact t_)⟩,hp1⟩).cast (by rfl)
  |false=>
   have KY:=WC ‹X1 rf=true›;have Z0:=Q5 (Xz ‹X1 rf=true›).1;exact(GoE.endsT okF hJ Qf GoE.start (Bn B rf Qb place)
    ⟨⟨trivial,(by have t_:=z5 (rf) (Qb) (by omega);rw[q1]at t_;exact t_)⟩,Vg⟩).cast (by rfl)
 |false=>
  exact(GoE.endsT okF hJ Qf GoE.start (Bm B rf Qb place)
   ⟨⟨trivial,(by have t_:=z4 (rf);rw[q0]at t_;exact t_)⟩,trivial⟩).cast (by rfl)
theorem qf(rf:Qe)(Qb:List Int)(place:Int)  :Q4 YP J0 43 #[.agg (Qz rf).toArray,XJ Qb,.int .i64 place] (.tuple #[.int .i64 (if X1 rf && (X2 rf Qb && Wt place 0 (rf.Qa.length-1))then(if QN rf Qb place=0 then 0 else QN rf Qb place-1)else 0),.int .i64 (if X1 rf && (X2 rf Qb && Wt place 0 (rf.Qa.length-1))then(if QN rf Qb place=0 then 5 else 0)else 2)]):=
 Xr (ts:=[.agg (Qz rf).toArray,XJ Qb,.int .i64 place]) Zk (c0:=Qw YP 43 33 (([.agg (Qz rf).toArray,XJ Qb,.int .i64 place]).map (Q8 0 4))) (by kernel_rfl) (by kernel_rfl) fun B hJ=>EG rf Qb place  hJ
def KB(rf:Qe)(Qb:List Int)(place:Int):Array Value:=#[.agg #[QO rf.Qa.length (Qg Qk rf.Qa),.int .i64 rf.Qn,.int .i64 rf.Qc],QO Qb.length (Qg Q3 Qb),.int .i64 place]
def RD(rf:Qe)(Qb:List Int):Array Value:=#[.agg #[QO rf.Qa.length (Qg Qk rf.Qa),.int .i64 rf.Qn,.int .i64 rf.Qc],QO Qb.length (Qg Q3 Qb)]
def bc(B:Lo)(rf:Qe)(Qb:List Int)(place:Int):List Prop:=[Q7 []/\Q4 YP J0 15 #[.agg #[QO rf.Qa.length (Qg Qk rf.Qa),.int .i64 rf.Qn,.int .i64 rf.Qc]] (.bool true)]++([]:List Prop)
def jh(rf:Qe)(Qb:List Int)(place:Int):QE:=[(3,Qj.pure (.bool true) [])]
theorem wQ(B:Lo)(rf:Qe)(Qb:List Int)(place:Int):Xe (Qv YP (QA YP) J0 B 10 1 (Qw YP 12 75 (([.agg (Qz rf).toArray,XJ Qb,.int .i64 place]).map (Q8 0 4))) Ze 1
 (jh rf Qb place++[(8,W9),(10,Qj.pure (.bool true) [])]) 0 [] []) []=some (.bool true,
 [Q7 []/\Q4 YP J0 16 #[] (.bool true),XY 8 (↑Qb.length:Int)=true]++bc B rf Qb place):=by kernel_rfl
def Jj(B:Lo)(rf:Qe)(Qb:List Int)(place:Int):List Prop:=[XY 8 (↑Qb.length:Int)=false]++bc B rf Qb place
def RE(rf:Qe)(Qb:List Int)(place:Int):QE:=jh rf Qb place++[(8,Vd)]
def ba(B:Lo)(rf:Qe)(Qb:List Int)(place:Int):List Prop:=[Q7 []/\Q4 YP J0 21 (RD rf Qb) (.bool true),Q7 []/\Q4 YP J0 43 (KB rf Qb place) (.tuple #[.int .i64 (if QN rf Qb place=0 then 0 else QN rf Qb place-1),.int .i64 (if QN rf Qb place=0 then 5 else 0)])]++Jj B rf Qb place
def jg(rf:Qe)(Qb:List Int)(place:Int):QE:=RE rf Qb place++[(13,Qj.pure (.tuple #[.int .i64 (if QN rf Qb place=0 then 0 else QN rf Qb place-1),.int .i64 (if QN rf Qb place=0 then 5 else 0)]) []),(21,Qj.pure (.bool true) [])]
def aZ(B:Lo)(rf:Qe)(Qb:List Int)(place:Int):List Prop:=[XY place 0=true]++ba B rf Qb place
def jf(rf:Qe)(Qb:List Int)(place:Int):QE:=jg rf Qb place++[(25,W9)]
def aY(B:Lo)(rf:Qe)(Qb:List Int)(place:Int):List Prop:=[YM (if QN rf Qb place=0 then 5 else 0) 2=true]++aZ B rf Qb place
def je(rf:Qe)(Qb:List Int)(place:Int):QE:=jf rf Qb place++[(35,W9)]
theorem wP(B:Lo)(rf:Qe)(Qb:List Int)(place:Int):Xe (Qv YP (QA YP) J0 B 17 1 (Qw YP 12 75 (([.agg (Qz rf).toArray,XJ Qb,.int .i64 place]).map (Q8 0 4))) Ze 1
 (je rf Qb place++[(38,W9),(41,Qj.pure (.bool true) [])]) 0 [] []) []=some (.bool true,
 [Q7 []/\Q4 YP J0 16 #[] (.bool true),YM (if QN rf Qb place=0 then 0 else QN rf Qb place-1) 0=true]++aY B rf Qb place):=by kernel_rfl
theorem wO(B:Lo)(rf:Qe)(Qb:List Int)(place:Int):Xe (Qv YP (QA YP) J0 B 17 1 (Qw YP 12 75 (([.agg (Qz rf).toArray,XJ Qb,.int .i64 place]).map (Q8 0 4))) Ze 1
 (je rf Qb place++[(38,Vd)]) 0 [] []) []=some (.bool false,
 [YM (if QN rf Qb place=0 then 0 else QN rf Qb place-1) 0=false]++aY B rf Qb place):=by kernel_rfl
theorem wN(B:Lo)(rf:Qe)(Qb:List Int)(place:Int):Xe (Qv YP (QA YP) J0 B 17 1 (Qw YP 12 75 (([.agg (Qz rf).toArray,XJ Qb,.int .i64 place]).map (Q8 0 4))) Ze 1
 (jf rf Qb place++[(35,Vd)]) 0 [] []) []=some (.bool false,
 [YM (if QN rf Qb place=0 then 5 else 0) 2=false]++aZ B rf Qb place):=by kernel_rfl
def aX(B:Lo)(rf:Qe)(Qb:List Int)(place:Int):List Prop:=[XY place 0=false]++ba B rf Qb place
def jd(rf:Qe)(Qb:List Int)(place:Int):QE:=jg rf Qb place++[(25,Vd)]
def aW(B:Lo)(rf:Qe)(Qb:List Int)(place:Int):List Prop:=[(!XY place (↑rf.Qa.length:Int))=true]++aX B rf Qb place
def jc(rf:Qe)(Qb:List Int)(place:Int):QE:=jd rf Qb place++[(32,W9)]
def aV(B:Lo)(rf:Qe)(Qb:List Int)(place:Int):List Prop:=[YM (if QN rf Qb place=0 then 5 else 0) 2=true]++aW B rf Qb place
def jb(rf:Qe)(Qb:List Int)(place:Int):QE:=jc rf Qb place++[(35,W9)]
theorem wM(B:Lo)(rf:Qe)(Qb:List Int)(place:Int):Xe (Qv YP (QA YP) J0 B 17 1 (Qw YP 12 75 (([.agg (Qz rf).toArray,XJ Qb,.int .i64 place]).map (Q8 0 4))) Ze 1
 (jb rf Qb place++[(38,W9),(41,Qj.pure (.bool true) [])]) 0 [] []) []=some (.bool true,
 [Q7 []/\Q4 YP J0 16 #[] (.bool true),YM (if QN rf Qb place=0 then 0 else QN rf Qb place-1) 0=true]++aV B rf Qb place):=by kernel_rfl
theorem wL(B:Lo)(rf:Qe)(Qb:List Int)(place:Int):Xe (Qv YP (QA YP) J0 B 17 1 (Qw YP 12 75 (([.agg (Qz rf).toArray,XJ Qb,.int .i64 place]).map (Q8 0 4))) Ze 1
 (jb rf Qb place++[(38,Vd)]) 0 [] []) []=some (.bool false,
 [YM (if QN rf Qb place=0 then 0 else QN rf Qb place-1) 0=false]++aV B rf Qb place):=by kernel_rfl
theorem wK(B:Lo)(rf:Qe)(Qb:List Int)(place:Int):Xe (Qv YP (QA YP) J0 B 17 1 (Qw YP 12 75 (([.agg (Qz rf).toArray,XJ Qb,.int .i64 place]).map (Q8 0 4))) Ze 1
 (jc rf Qb place++[(35,Vd)]) 0 [] []) []=some (.bool false,
 [YM (if QN rf Qb place=0 then 5 else 0) 2=false]++aW B rf Qb place):=by kernel_rfl
def aU(B:Lo)(rf:Qe)(Qb:List Int)(place:Int):List Prop:=[Q7 []/\Q4 YP J0 44 (KB rf Qb place) (.int .i64 (QN rf Qb place-1)),(!XY place (↑rf.Qa.length:Int))=false]++aX B rf Qb place
def ja(rf:Qe)(Qb:List Int)(place:Int):QE:=jd rf Qb place++[(32,Vd),(37,Qj.pure (.int .i64 (QN rf Qb place-1)) [])]
def aT(B:Lo)(rf:Qe)(Qb:List Int)(place:Int):List Prop:=[XY (QN rf Qb place-1) 0=true]++aU B rf Qb place
def iZ(rf:Qe)(Qb:List Int)(place:Int):QE:=ja rf Qb place++[(40,W9)]
def SK(B:Lo)(rf:Qe)(Qb:List Int)(place:Int):List Prop:=[YM (if QN rf Qb place=0 then 5 else 0) 5=true]++aT B rf Qb place
def fF(rf:Qe)(Qb:List Int)(place:Int):QE:=iZ rf Qb place++[(42,W9)]
theorem wJ(B:Lo)(rf:Qe)(Qb:List Int)(place:Int):Xe (Qv YP (QA YP) J0 B 24 1 (Qw YP 12 75 (([.agg (Qz rf).toArray,XJ Qb,.int .i64 place]).map (Q8 0 4))) Ze 1
 (fF rf Qb place++[(45,W9),(48,Qj.pure (.bool true) [])]) 0 [] []) []=some (.bool true,
 [Q7 []/\Q4 YP J0 16 #[] (.bool true),YM (if QN rf Qb place=0 then 0 else QN rf Qb place-1) 0=true]++SK B rf Qb place):=by kernel_rfl
theorem wI(B:Lo)(rf:Qe)(Qb:List Int)(place:Int):Xe (Qv YP (QA YP) J0 B 24 1 (Qw YP 12 75 (([.agg (Qz rf).toArray,XJ Qb,.int .i64 place]).map (Q8 0 4))) Ze 1
 (fF rf Qb place++[(45,Vd)]) 0 [] []) []=some (.bool false,
 [YM (if QN rf Qb place=0 then 0 else QN rf Qb place-1) 0=false]++SK B rf Qb place):=by kernel_rfl
theorem wH(B:Lo)(rf:Qe)(Qb:List Int)(place:Int):Xe (Qv YP (QA YP) J0 B 24 1 (Qw YP 12 75 (([.agg (Qz rf).toArray,XJ Qb,.int .i64 place]).map (Q8 0 4))) Ze 1
 (iZ rf Qb place++[(42,Vd)]) 0 [] []) []=some (.bool false,
 [YM (if QN rf Qb place=0 then 5 else 0) 5=false]++aT B rf Qb place):=by kernel_rfl
def SJ(B:Lo)(rf:Qe)(Qb:List Int)(place:Int):List Prop:=[XY (QN rf Qb place-1) 0=false]++aU B rf Qb place
def fE(rf:Qe)(Qb:List Int)(place:Int):QE:=ja rf Qb place++[(40,Vd)]
def SI(B:Lo)(rf:Qe)(Qb:List Int)(place:Int):List Prop:=[YM (if QN rf Qb place=0 then 5 else 0) 0=true]++SJ B rf Qb place
def fD(rf:Qe)(Qb:List Int)(place:Int):QE:=fE rf Qb place++[(42,W9)]
theorem rU(B:Lo)(rf:Qe)(Qb:List Int)(place:Int):Xe (Qv YP (QA YP) J0 B 25 1 (Qw YP 12 75 (([.agg (Qz rf).toArray,XJ Qb,.int .i64 place]).map (Q8 0 4))) Ze 1
 (fD rf Qb place++[(46,W9),(49,Qj.pure (.bool true) [])]) 0 [] []) []=some (.bool true,
 [Q7 []/\Q4 YP J0 16 #[] (.bool true),YM (if QN rf Qb place=0 then 0 else QN rf Qb place-1) (QN rf Qb place-1)=true]++SI B rf Qb place):=by kernel_rfl
theorem rT(B:Lo)(rf:Qe)(Qb:List Int)(place:Int):Xe (Qv YP (QA YP) J0 B 25 1 (Qw YP 12 75 (([.agg (Qz rf).toArray,XJ Qb,.int .i64 place]).map (Q8 0 4))) Ze 1
 (fD rf Qb place++[(46,Vd)]) 0 [] []) []=some (.bool false,
 [YM (if QN rf Qb place=0 then 0 else QN rf Qb place-1) (QN rf Qb place-1)=false]++SI B rf Qb place):=by kernel_rfl
theorem rS(B:Lo)(rf:Qe)(Qb:List Int)(place:Int):Xe (Qv YP (QA YP) J0 B 25 1 (Qw YP 12 75 (([.agg (Qz rf).toArray,XJ Qb,.int .i64 place]).map (Q8 0 4))) Ze 1
 (fE rf Qb place++[(42,Vd)]) 0 [] []) []=some (.bool false,
 [YM (if QN rf Qb place=0 then 5 else 0) 0=false]++SJ B rf Qb place):=by kernel_rfl
def SH(B:Lo)(rf:Qe)(Qb:List Int)(place:Int):List Prop:=[Q7 []/\Q4 YP J0 21 (RD rf Qb) (.bool true),Q7 []/\Q4 YP J0 43 (KB rf Qb place) (.tuple #[.int .i64 0,.int .i64 2])]++Jj B rf Qb place
def fC(rf:Qe)(Qb:List Int)(place:Int):QE:=RE rf Qb place++[(13,Qj.pure (.tuple #[.int .i64 0,.int .i64 2]) []),(21,Qj.pure (.bool true) [])]
theorem rR(B:Lo)(rf:Qe)(Qb:List Int)(place:Int):Xe (Qv YP (QA YP) J0 B 17 1 (Qw YP 12 75 (([.agg (Qz rf).toArray,XJ Qb,.int .i64 place]).map (Q8 0 4))) Ze 1
 (fC rf Qb place++[(25,W9),(41,Qj.pure (.bool true) [])]) 0 [] []) []=some (.bool true,
 [Q7 []/\Q4 YP J0 16 #[] (.bool true),XY place 0=true]++SH B rf Qb place):=by kernel_rfl
def SG(B:Lo)(rf:Qe)(Qb:List Int)(place:Int):List Prop:=[XY place 0=false]++SH B rf Qb place
def fB(rf:Qe)(Qb:List Int)(place:Int):QE:=fC rf Qb place++[(25,Vd)]
theorem rQ(B:Lo)(rf:Qe)(Qb:List Int)(place:Int):Xe (Qv YP (QA YP) J0 B 17 1 (Qw YP 12 75 (([.agg (Qz rf).toArray,XJ Qb,.int .i64 place]).map (Q8 0 4))) Ze 1
 (fB rf Qb place++[(32,W9),(41,Qj.pure (.bool true) [])]) 0 [] []) []=some (.bool true,
 [Q7 []/\Q4 YP J0 16 #[] (.bool true),(!XY place (↑rf.Qa.length:Int))=true]++SG B rf Qb place):=by kernel_rfl
def SF(B:Lo)(rf:Qe)(Qb:List Int)(place:Int):List Prop:=[Q7 []/\Q4 YP J0 44 (KB rf Qb place) (.int .i64 (QN rf Qb place-1)),(!XY place (↑rf.Qa.length:Int))=false]++SG B rf Qb place
def fA(rf:Qe)(Qb:List Int)(place:Int):QE:=fB rf Qb place++[(32,Vd),(37,Qj.pure (.int .i64 (QN rf Qb place-1)) [])]
theorem rP(B:Lo)(rf:Qe)(Qb:List Int)(place:Int):Xe (Qv YP (QA YP) J0 B 24 1 (Qw YP 12 75 (([.agg (Qz rf).toArray,XJ Qb,.int .i64 place]).map (Q8 0 4))) Ze 1
 (fA rf Qb place++[(40,W9)]) 0 [] []) []=some (.bool false,
 [XY (QN rf Qb place-1) 0=true]++SF B rf Qb place):=by kernel_rfl
theorem rO(B:Lo)(rf:Qe)(Qb:List Int)(place:Int):Xe (Qv YP (QA YP) J0 B 25 1 (Qw YP 12 75 (([.agg (Qz rf).toArray,XJ Qb,.int .i64 place]).map (Q8 0 4))) Ze 1
 (fA rf Qb place++[(40,Vd)]) 0 [] []) []=some (.bool false,
 [XY (QN rf Qb place-1) 0=false]++SF B rf Qb place):=by kernel_rfl
theorem rN(B:Lo)(rf:Qe)(Qb:List Int)(place:Int):let a:=Value.tuple #[.int .i64 0,.int .i64 2];Xe (Qv YP (QA YP) J0 B 17 1 (Qw YP 12 75 (([.agg (Qz rf).toArray,XJ Qb,.int .i64 place]).map (Q8 0 4))) Ze 1
 (RE rf Qb place++[(13,Qj.pure a []),(21,Qj.pure (.bool false) []),(41,Qj.pure (.bool true) [])]) 0 [] []) []=some (.bool true,
 [Q7 []/\Q4 YP J0 16 #[] (.bool true),Q7 []/\Q4 YP J0 21 (RD rf Qb) (.bool false),Q7 []/\Q4 YP J0 43 (KB rf Qb place) a]++Jj B rf Qb place):=by intro a;kernel_rfl
theorem rM(B:Lo)(rf:Qe)(Qb:List Int)(place:Int):let a:=Value.tuple #[.int .i64 0,.int .i64 2];Xe (Qv YP (QA YP) J0 B 17 1 (Qw YP 12 75 (([.agg (Qz rf).toArray,XJ Qb,.int .i64 place]).map (Q8 0 4))) Ze 1
 (RE rf Qb place++[(13,Qj.pure a []),(21,Qj.pure (.bool false) []),(41,Qj.pure (.bool true) [])]) 0 [] []) []=some (.bool true,
 [Q7 []/\Q4 YP J0 16 #[] (.bool true),Q7 []/\Q4 YP J0 21 (RD rf Qb) (.bool false),Q7 []/\Q4 YP J0 43 (KB rf Qb place) a]++Jj B rf Qb place):=by intro a;kernel_rfl
theorem rL(B:Lo)(rf:Qe)(Qb:List Int)(place:Int):Xe (Qv YP (QA YP) J0 B 10 1 (Qw YP 12 75 (([.agg (Qz rf).toArray,XJ Qb,.int .i64 place]).map (Q8 0 4))) Ze 1
 [(3,Qj.pure (.bool false) []),(10,Qj.pure (.bool true) [])] 0 [] []) []=some (.bool true,
 [Q7 []/\Q4 YP J0 16 #[] (.bool true),Q7 []/\Q4 YP J0 15 #[.agg #[QO rf.Qa.length (Qg Qk rf.Qa),.int .i64 rf.Qn,.int .i64 rf.Qc]] (.bool false)]):=by kernel_rfl
set_option maxHeartbeats 4000000 in
theorem zY(rf:Qe)(Qb:List Int)(place:Int)  (Zq:Qb.length<=9223372036854775807){B:Lo}(hJ:∀w,B.has w->J0 w):EndsT YP B (Qw YP 12 75 (([.agg (Qz rf).toArray,XJ Qb,.int .i64 place]).map (Q8 0 4))) (.bool true):=by
 have hq:=tC (rf:=rf) (Qb:=Qb) (place:=place);cases q0:decide (NG rf.Qa<=8)with
 |true=>
  have Vg:Q7 (bc B rf Qb place):=by
   exact⟨⟨trivial,(by have t_:=Fg (rf);rw[q0]at t_;exact t_)⟩,trivial⟩
  by_cases q1:(8:Int)<((↑Qb.length:Int))
  ·exact(GoE.endsT okF hJ Qf GoE.start (wQ B rf Qb place)
    ⟨⟨trivial,known⟩,⟨(XD q1),Vg⟩⟩).cast rfl
  ·have hp1:Q7 (Jj B rf Qb place):=by
    exact⟨(Zb (Int.not_lt.1 q1)),Vg⟩
   cases q2:X1 rf with
   |true=>
    cases q3:X2 rf Qb with
    |true=>
     cases q4:Wt place 0 ((↑rf.Qa.length:Int)-1)with
     |true=>
      have JU:Q7 (ba B rf Qb place):=by
       have KY:=WC ‹X1 rf=true›;have Z0:=Q5 (Xz ‹X1 rf=true›).1;have hpi:=Wa.1 ‹Wt place 0 _=true›;exact⟨⟨trivial,(by have t_:=qW (rf) (Qb);rw[q2,q3]at t_;exact t_)⟩,⟨⟨trivial,(by have t_:=qf (rf) (Qb) (place);rw[q2,q3,q4]at t_;exact t_)⟩,hp1⟩⟩
      by_cases q5:(place:Int)<(0)
      ·have hp3:Q7 (aZ B rf Qb place):=by
        exact⟨(XD q5),JU⟩
       by_cases q6:(if QN rf Qb place=0 then 5 else 0:Int)=(2)
       ·have hp4:Q7 (aY B rf Qb place):=by
         exact⟨(K2 q6),hp3⟩
        by_cases q7:(if QN rf Qb place=0 then 0 else QN rf Qb place-1:Int)=(0)
        ·exact(GoE.endsT okF hJ Qf GoE.start (wP B rf Qb place)
          ⟨⟨trivial,known⟩,⟨(K2 q7),hp4⟩⟩).cast rfl
        ·have KY:=WC ‹X1 rf=true›;have Z0:=Q5 (Xz ‹X1 rf=true›).1;have hpi:=Wa.1 ‹Wt place 0 _=true›;exact(GoE.endsT okF hJ Qf GoE.start (wO B rf Qb place)
          ⟨(K3 q7),hp4⟩).cast (by(exfalso;omega))
       ·have KY:=WC ‹X1 rf=true›;have Z0:=Q5 (Xz ‹X1 rf=true›).1;have hpi:=Wa.1 ‹Wt place 0 _=true›;exact(GoE.endsT okF hJ Qf GoE.start (wN B rf Qb place)
         ⟨(K3 q6),hp3⟩).cast (by(exfalso;omega))
      ·have hp5:Q7 (aX B rf Qb place):=by
        exact⟨(Zb (Int.not_lt.1 q5)),JU⟩
       by_cases q6:((↑rf.Qa.length:Int):Int)<=(place)
       ·have hp6:Q7 (aW B rf Qb place):=by
         exact⟨(VL q6),hp5⟩
        by_cases q7:(if QN rf Qb place=0 then 5 else 0:Int)=(2)
        ·have hp7:Q7 (aV B rf Qb place):=by
          exact⟨(K2 q7),hp6⟩
         by_cases q8:(if QN rf Qb place=0 then 0 else QN rf Qb place-1:Int)=(0)
         ·exact(GoE.endsT okF hJ Qf GoE.start (wM B rf Qb place)
           ⟨⟨trivial,known⟩,⟨(K2 q8),hp7⟩⟩).cast rfl
         ·have KY:=WC ‹X1 rf=true›;have Z0:=Q5 (Xz ‹X1 rf=true›).1;have hpi:=Wa.1 ‹Wt place 0 _=true›;exact(GoE.endsT okF hJ Qf GoE.start (wL B rf Qb place)
           ⟨(K3 q8),hp7⟩).cast (by(exfalso;omega))
        ·have KY:=WC ‹X1 rf=true›;have Z0:=Q5 (Xz ‹X1 rf=true›).1;have hpi:=Wa.1 ‹Wt place 0 _=true›;exact(GoE.endsT okF hJ Qf GoE.start (wK B rf Qb place)
          ⟨(K3 q7),hp6⟩).cast (by(exfalso;omega))
       ·have hp8:Q7 (aU B rf Qb place):=by
         have KY:=WC ‹X1 rf=true›;have Z0:=Q5 (Xz ‹X1 rf=true›).1;have hpi:=Wa.1 ‹Wt place 0 _=true›;exact⟨⟨trivial,D3 (rf) (Qb) (place) (by with_reducible assumption) (by with_reducible assumption) (by omega) (by omega)⟩,⟨(VM (Int.not_le.1 q6)),hp5⟩⟩
        by_cases q7:(QN rf Qb place-1:Int)<(0)
        ·have hp9:Q7 (aT B rf Qb place):=by
          exact⟨(XD q7),hp8⟩
         by_cases q8:(if QN rf Qb place=0 then 5 else 0:Int)=(5)
         ·have hp10:Q7 (SK B rf Qb place):=by
           exact⟨(K2 q8),hp9⟩
          by_cases q9:(if QN rf Qb place=0 then 0 else QN rf Qb place-1:Int)=(0)
          ·exact(GoE.endsT okF hJ Qf GoE.start (wJ B rf Qb place)
            ⟨⟨trivial,known⟩,⟨(K2 q9),hp10⟩⟩).cast rfl
          ·have KY:=WC ‹X1 rf=true›;have Z0:=Q5 (Xz ‹X1 rf=true›).1;have hpi:=Wa.1 ‹Wt place 0 _=true›;exact(GoE.endsT okF hJ Qf GoE.start (wI B rf Qb place)
            ⟨(K3 q9),hp10⟩).cast (by(exfalso;omega))
         ·have KY:=WC ‹X1 rf=true›;have Z0:=Q5 (Xz ‹X1 rf=true›).1;have hpi:=Wa.1 ‹Wt place 0 _=true›;exact(GoE.endsT okF hJ Qf GoE.start (wH B rf Qb place)
           ⟨(K3 q8),hp9⟩).cast (by(exfalso;omega))
        ·have hp11:Q7 (SJ B rf Qb place):=by
          exact⟨(Zb (Int.not_lt.1 q7)),hp8⟩
         by_cases q8:(if QN rf Qb place=0 then 5 else 0:Int)=(0)
         ·have hp12:Q7 (SI B rf Qb place):=by
           exact⟨(K2 q8),hp11⟩
          by_cases q9:(if QN rf Qb place=0 then 0 else QN rf Qb place-1:Int)=(QN rf Qb place-1)
          ·exact(GoE.endsT okF hJ Qf GoE.start (rU B rf Qb place)
            ⟨⟨trivial,known⟩,⟨(K2 q9),hp12⟩⟩).cast rfl
          ·have KY:=WC ‹X1 rf=true›;have Z0:=Q5 (Xz ‹X1 rf=true›).1;have hpi:=Wa.1 ‹Wt place 0 _=true›;exact(GoE.endsT okF hJ Qf GoE.start (rT B rf Qb place)
            ⟨(K3 q9),hp12⟩).cast (by(exfalso;omega))
         ·have KY:=WC ‹X1 rf=true›;have Z0:=Q5 (Xz ‹X1 rf=true›).1;have hpi:=Wa.1 ‹Wt place 0 _=true›;exact(GoE.endsT okF hJ Qf GoE.start (rS B rf Qb place)
           ⟨(K3 q8),hp11⟩).cast (by(exfalso;omega))
     |false=>
      have hp13:Q7 (SH B rf Qb place):=by
       have KY:=WC ‹X1 rf=true›;have Z0:=Q5 (Xz ‹X1 rf=true›).1;exact⟨⟨trivial,(by have t_:=qW (rf) (Qb);rw[q2,q3]at t_;exact t_)⟩,⟨⟨trivial,(by have t_:=qf (rf) (Qb) (place);rw[q2,q3,q4]at t_;exact t_)⟩,hp1⟩⟩
      by_cases q5:(place:Int)<(0)
      ·exact(GoE.endsT okF hJ Qf GoE.start (rR B rf Qb place)
        ⟨⟨trivial,known⟩,⟨(XD q5),hp13⟩⟩).cast rfl
      ·have hp14:Q7 (SG B rf Qb place):=by
        exact⟨(Zb (Int.not_lt.1 q5)),hp13⟩
       by_cases q6:((↑rf.Qa.length:Int):Int)<=(place)
       ·exact(GoE.endsT okF hJ Qf GoE.start (rQ B rf Qb place)
         ⟨⟨trivial,known⟩,⟨(VL q6),hp14⟩⟩).cast rfl
       ·have hp15:Q7 (SF B rf Qb place):=by
         have KY:=WC ‹X1 rf=true›;have Z0:=Q5 (Xz ‹X1 rf=true›).1;exact⟨⟨trivial,D3 (rf) (Qb) (place) (by with_reducible assumption) (by with_reducible assumption) (by omega) (by omega)⟩,⟨(VM (Int.not_le.1 q6)),hp14⟩⟩
        by_cases q7:(QN rf Qb place-1:Int)<(0)
        ·have KY:=WC ‹X1 rf=true›;have Z0:=Q5 (Xz ‹X1 rf=true›).1;exact(GoE.endsT okF hJ Qf GoE.start (rP B rf Qb place)
          ⟨(XD q7),hp15⟩).cast (by(exfalso;exact(IN ‹Wt place 0 _=false›) (by omega)))
        ·have KY:=WC ‹X1 rf=true›;have Z0:=Q5 (Xz ‹X1 rf=true›).1;exact(GoE.endsT okF hJ Qf GoE.start (rO B rf Qb place)
          ⟨(Zb (Int.not_lt.1 q7)),hp15⟩).cast (by(exfalso;exact(IN ‹Wt place 0 _=false›) (by omega)))
    |false=>
     have KY:=WC ‹X1 rf=true›;have Z0:=Q5 (Xz ‹X1 rf=true›).1;exact(GoE.endsT okF hJ Qf GoE.start (rN B rf Qb place)
      ⟨⟨trivial,known⟩,⟨⟨trivial,(by have t_:=qW (rf) (Qb);rw[q2,q3]at t_;exact t_)⟩,⟨⟨trivial,(by have t_:=qf (rf) (Qb) (place);rw[q2,q3]at t_;exact t_)⟩,hp1⟩⟩⟩).cast rfl
   |false=>
    exact(GoE.endsT okF hJ Qf GoE.start (rM B rf Qb place)
     ⟨⟨trivial,known⟩,⟨⟨trivial,(by have t_:=qW (rf) (Qb);rw[q2]at t_;exact t_)⟩,⟨⟨trivial,(by have t_:=qf (rf) (Qb) (place);rw[q2]at t_;exact t_)⟩,hp1⟩⟩⟩).cast rfl
 |false=>
  exact(GoE.endsT okF hJ Qf GoE.start (rL B rf Qb place)
   ⟨⟨trivial,known⟩,⟨⟨trivial,(by have t_:=Fg (rf);rw[q0]at t_;exact t_)⟩,trivial⟩⟩).cast rfl
theorem G3(rf:Qe)(Qb:List Int)(place:Int)  :Q4 YP J0 12 #[.agg (Qz rf).toArray,XJ Qb,.int .i64 place] (.bool true):=
 UX (ts:=[.agg (Qz rf).toArray,XJ Qb,.int .i64 place]) (Qb.length<=9223372036854775807) (fun _ _ ht=>ht.ln (i:=1) rfl) Zk (c0:=Qw YP 12 75 (([.agg (Qz rf).toArray,XJ Qb,.int .i64 place]).map (Q8 0 4))) (by kernel_rfl) (by kernel_rfl) fun Zq B hJ=>zY rf Qb place  Zq hJ
end
end Go.Proofs.Ytncjjangllkokaa

namespace Go.Proofs.Ytncjjangllkokaa
open Go Go.CE Go.RowKit
theorem xm:∀trs,rH [jx,.slice .int,.int] trs->Q4 YP J0 12 trs.toArray (.bool true):=by
 rintro trs ⟨t0,_,rfl,h0,t1,_,rfl,h1,t2,_,rfl,h2,rfl⟩;obtain⟨r,rfl⟩:=Gr h0;obtain⟨l,rfl⟩:=Gs h1;obtain⟨n,rfl⟩:=I7 h2;exact G3 r l n
end Go.Proofs.Ytncjjangllkokaa

namespace Go.Proofs.Ytncjjangllkokaa
open Go Go.CE Go.ChangeShapes Go.WideShapes Go.RowKit
set_option maxRecDepth 100000 in
theorem cb(os:Os)(started:os.Started)(H:Type)(enc:TypeId×Value->H):
 ReturnsInHanded {} Try.checked os 12 .any (Rows.reefQuotasSpec.pre6 enc YP Try.f12 Rows.reefQuotasRow.domain false) (Rows.reefQuotasSpec.post enc YP Try.f12 false true false false):=by
 refine returnsInHanded_of_change (C:=Try.checked) (show ownKnob YP.godebug=none by kernel_rfl) started (by kernel_rfl) Try.func12
  (ChangeSpec.witness6 (enc:=enc) (C:=Try.checked) false ⟨#[],#[Sh.zeroA jx,Sh.zeroA (.slice .int),Sh.zeroA .int],[]⟩ 8 (by kernel_rfl) (by kernel_rfl) (by kernel_rfl) (by kernel_rfl)) ?_
 intro W base args ds gs before hval0 hW _ _;have hval:∀(j:Nat) t v,Try.f12.params[j]? =some t->args[j]? =some v->Value.okWide YP W .any base t v:=hval0;have hW':=hW;obtain⟨p,q,hA0,hV,rfl,_,_⟩:=hW;obtain⟨rfl,rfl⟩:=trodVars_none hV;have hA1:DataW.TrodAll enc YP W 0 (fun _=>true) true Try.f12.params.toList args.toList ds p:=hA0;have Xm:∀x∈p,x.block<W.heap.size:=fun x hx=>hW'.lt x (by simpa using hx)
 have P7:bG YP [jx,(.slice .int),.int] Try.f12.params.toList=true:=by kernel_rfl
 have hrd:(Try.f12.params.toList.all fun t=>YP.readableRec t && decide (t<YP.types.size))=true:=by kernel_rfl
 refine(F0 (J:=J0) (ss:=[jx,(.slice .int),.int]) trivial P7 hA1 (fun j t v h1 h2=>hval j t v (by simpa using h1) h2) xm).mono fun e W' ⟨he,hB⟩=> ?_
 subst he;have hB2:=aK (show laidOutB YP=true by kernel_rfl) hB _ _ _ _ hrd hA1 Xm;have hA:DataW.TrodAll enc YP W 0 (fun _=>true) true Try.f12.params.toList args.toList ds p:=hA1;rw[Try.params12]at hA;simp only[List.toList_toArray]at hA;have hA:=hA;obtain⟨v0,vs0,d0,ds0,p0,q0,_,rfl,_,h0,_⟩:=CE.trodAll_cons hA;obtain⟨v1,vs1,d1,ds1,p1,q1,_,rfl,_,h1,_⟩:=CE.trodAll_cons h0;obtain⟨v2,vs2,d2,ds2,p2,q2,_,rfl,_,h2,_⟩:=CE.trodAll_cons h1;obtain⟨_,rfl,_⟩:=CE.trodAll_nil h2;exact⟨_,rfl,_,_,_,[],_,[],hW',trodAll_mk1 (shut_bool Try.underlying4 _),hB2,rfl,hB.frame _,fun h=>by cases h⟩
theorem reefQuotas_row:Rows.ReefQuotasSaid:=
 OpenClaim.holds_of_wide 12 Try.f12 rfl rfl rfl rfl rfl rfl rfl ⟨rfl,rfl,rfl,rfl,rfl⟩ rfl rfl rfl rfl rfl (by kernel_rfl) Try.func12 (by kernel_rfl)
  (of_decide_eq_true (by kernel_rfl)) (by unfold Func.isWrapper;first|(rw[if_pos (by decide+kernel)];kernel_rfl)|(rw[if_neg (by decide+kernel)];exact⟨rfl,rfl⟩))
  (fun os started H enc _=>cb os started H enc)
end Go.Proofs.Ytncjjangllkokaa
