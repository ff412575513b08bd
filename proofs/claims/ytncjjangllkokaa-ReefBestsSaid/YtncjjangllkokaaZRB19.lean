/- Reef: the reference's stocks, and the first place Pd can be short. -/
import Derived.Test.YtncjjangllkokaaZRB18
import Derived.Test.YtncjjangllkokaaZRB17
import Derived.Test.YtncjjangllkokaaZRB16
set_option linter.all false
open List renaming mem_cons_of_mem->Lj,flatMap_cons->LY,length->Ld,getD->Ln,length_append->Ls,length_cons->Lr,length_nil->LD,range->Le,getElem?_eq_none->LA,replicate->Lu,length_replicate->LN,getD_eq_getElem?_getD->Li
open Int renaming toNat->Lb,tdiv_eq_ediv_of_nonneg->L4,le_refl->LH,toNat_natCast->LR
open Array renaming size->LQ,extract->Lh
open Nat renaming strongRecOn->LB,zero_add->Lv
open List.Mem renaming head->LP
open Inhabited renaming default->La
namespace Go.Proofs.Ytncjjangllkokaa
open Go Go.CE Go.RowKit
noncomputable section
set_option maxRecDepth 100000
structure Ex where
 n:Nat
 l:List Span
deriving Inhabited
def Yj(r:Ex):List Value:=[Xo r.n (Qe QQ r.l)]
theorem AZ:∀(l:List Int) (g:Int->List Span) (n:Nat),(∀k∈l,(g k).length=n)->Qe Yj (l.map fun k=>⟨n,g k⟩)=Qe pK (l.map g)
 |[],_,_,_=>rfl
 |k::l,g,n,h=>by
  have ih:=AZ l g n fun k hk=>h k (Lj _ hk)
  have e:Yj ⟨n,g k⟩=pK (g k):=by show [Xo n (Qe QQ (g k))]=_;rw[<-h k (List.mem_cons_self ..)]
  unfold Qe at ih ⊢;rw[List.map_cons,List.map_cons,LY,LY,e];apply Array.ext';have ih':=congrArg Array.toList ih;simp only at ih' ⊢;rw[ih']
theorem fQ{β:Type}{f:Int->β}{s:Int}(h:0<=s):(((PQ 0 s).map f).length:Int)=s:=by simp[PQ];omega
theorem WI{rf:Qc}{gs ts:List (List Int)}{f:F4}{s:Int}(h4:rf.Qa.length<=4)(s0:0<=s)(s1:s<rf.Qb):((XD rf.Qb rf.Qa gs ts f).getD s.toNat La).length=rf.Qa.length:=by
 rw[show(XD rf.Qb rf.Qa gs ts f).getD s.toNat La=uD rf.Qa gs ts f s from Xc s0 s1,uC h4]
theorem Ji{rf:Qc}{gs ts:List (List Int)}{f:F4}{s i:Int}(h4:rf.Qa.length<=4)(s0:0<=s)(s1:s<rf.Qb)(i0:0<=i)(i1:i<rf.Qa.length):((XD rf.Qb rf.Qa gs ts f).getD s.toNat La).getD i.toNat La=(Z5 rf.Qa gs ts f (s.toNat+1)).at i:=by
 rw[show(XD rf.Qb rf.Qa gs ts f).getD s.toNat La=uD rf.Qa gs ts f s from Xc s0 s1,M7 h4 i0 i1]
theorem AX{a b:Int}{s:Span}(h1:a=s.lo)(h2:b=s.hi):(⟨a,b⟩:Span)=s:=by subst h1 h2;rfl
theorem Qaq{rf:Qc}{plan:List Int}{rs:List Ex}{s:Int}{m:Nat}(h:rs=(PQ 0 s).map fun z=>⟨rf.Qa.length,kT rf plan z⟩)(hm:m=rs.length)(hs:s=rf.Qb):Xo m (Qe Yj rs)=BO (Ws rf plan):=by
 subst hs;have e:Qe Yj rs=Qe pK (Ws rf plan):=by rw[h];exact AZ _ _ _ fun k _=>uB
 have e2:m=(Ws rf plan).length:=by rw[hm,h,Ws,Ze,List.length_map,List.length_map]
 rw[e,e2]
theorem OK(rf:Qc)(st:List Int)(gs ts:List (List Int))(Q7:OkT rf.Qa rf.Qb gs ts (Qg st))(hl:st.length=rf.Qa.length)(hn:1<=rf.Qa.length/\rf.Qa.length<=4)(hs4:1<=rf.Qb/\rf.Qb<=4):Qv YP J0 28 #[.agg (Q1 rf).toArray,.agg #[X7 st,Xo gs.length (Qe XM gs),Xo ts.length (Qe XM ts)]] (.tuple #[Xo (XD rf.Qb rf.Qa gs ts (Qg st)).length (Qe XM (XD rf.Qb rf.Qa gs ts (Qg st))),.agg #[YI (Qg st).sum,YI (Xj 0 rf.Qb (Vd rf.Qa gs ts (Qg st))),YI (Xj 0 rf.Qb (ZI rf.Qa gs ts (Qg st))),YI (Xj 0 rf.Qb (Vc rf.Qa gs ts (Qg st))),YI (Z5 rf.Qa gs ts (Qg st) rf.Qb.toNat).sum]]):=Qcp rf ⟨st,gs,ts⟩ Q7 hl hn hs4
section
variable (B:Lo)(c0:CF)(rf:Qc)(plan:List Int)(s i:Int)(os:List Ex)(zs:List Span)(on zn:Nat)
def Po(zs:List Span)(zn:Nat):List Value:=let b:=XD rf.Qb rf.Qa (Ve rf) (VI rf plan) (Qg (RE rf));let a:=XD rf.Qb rf.Qa (Va rf) (Vi rf plan) (Qg (YA rf));[pA 2 0,Qk 1 (Xo a.length (Qe XM a)),Qk 1 (Xo b.length (Qe XM b)),.slice none 0 0,YI 0,.slice (some ⟨3,0,none⟩) zn 2,YI i]
def Yu(plan:List Int)(i:Int)(zs:List Span)(zn:Nat):List Obj:=[Obj.cells #[Qk 1 (Xp rf.Qa),YI rf.Qh,YI rf.Qb] 24,.cells (Qe QQ zs) 38 (0,0)]
def Pr:List Item:=([.code [1,1,1,1,0,1,0,0,1,0,0,1,0,1,0,0],.inLoop [1,1,1,1,0,1,0,0,1,0,0,1,0,1,0,0],.inBlock 2,.code [1,1,1,1,0,1,0,0,1,0,0,1,1],.inBlock 1,.code [1,1,1,1,0,1,0,0,1,1],.inLoop [1,1,1,1,0,1,0,0],.inBlock 0,.code [1,1,1,1,1]]).map (it (Q8 YP 22))
def zh:Prop:=∃dJ:Nat->Value,(∀t,Xh (dJ t))/\GoE YP B c0 Zd 1 (QC 22 65 (([2,5,7,9,10,11,12]:List Nat).zip (Po rf plan i zs zn)) dJ Pr) (Q9 (Yu rf plan i zs zn)) (2+(Yu rf plan i zs zn).length) []
def Pn(os:List Ex)(zs:List Span)(on zn:Nat):List Value:=let b:=XD rf.Qb rf.Qa (Ve rf) (VI rf plan) (Qg (RE rf));let a:=XD rf.Qb rf.Qa (Va rf) (Vi rf plan) (Qg (YA rf));[pA 2 0,Qk 1 (Xo a.length (Qe XM a)),Qk 1 (Xo b.length (Qe XM b)),.slice (some ⟨3,0,none⟩) on 1,YI s,.slice (some ⟨4,0,none⟩) zn 2,YI i]
def Kv(plan:List Int)(s i:Int)(os:List Ex)(zs:List Span)(on zn:Nat):List Obj:=[Obj.cells #[Qk 1 (Xp rf.Qa),YI rf.Qh,YI rf.Qb] 24,.cells (Qe (QY 1 Yj) os) 36 (0,0),.cells (Qe QQ zs) 38 (0,0)]
def Pq:List Item:=([.code [1,1,1,1,0,1,0,0,1,0,0,1,0,1,0,0],.inLoop [1,1,1,1,0,1,0,0,1,0,0,1,0,1,0,0],.inBlock 2,.code [1,1,1,1,0,1,0,0,1,0,0,1,1],.inBlock 1,.code [1,1,1,1,0,1,0,0,1,1],.inLoop [1,1,1,1,0,1,0,0],.inBlock 0,.code [1,1,1,1,1]]).map (it (Q8 YP 22))
def zg:Prop:=∃dJ:Nat->Value,(∀t,Xh (dJ t))/\GoE YP B c0 Zd 1 (QC 22 65 (([2,5,7,9,10,11,12]:List Nat).zip (Pn rf plan s i os zs on zn)) dJ Pq) (Q9 (Kv rf plan s i os zs on zn)) (2+(Kv rf plan s i os zs on zn).length) []
def Pm(os:List Ex)(on:Nat):List Value:=let b:=XD rf.Qb rf.Qa (Ve rf) (VI rf plan) (Qg (RE rf));let a:=XD rf.Qb rf.Qa (Va rf) (Vi rf plan) (Qg (YA rf));[pA 2 0,Qk 1 (Xo a.length (Qe XM a)),Qk 1 (Xo b.length (Qe XM b)),.slice (some ⟨3,0,none⟩) on 1,YI s]
def Ku(plan:List Int)(s:Int)(os:List Ex)(on:Nat):List Obj:=[Obj.cells #[Qk 1 (Xp rf.Qa),YI rf.Qh,YI rf.Qb] 24,.cells (Qe (QY 1 Yj) os) 36 (0,0)]
def Pp:List Item:=([.code [1,1,1,1,0,1,0,0],.inLoop [1,1,1,1,0,1,0,0],.inBlock 0,.code [1,1,1,1,1]]).map (it (Q8 YP 22))
def zf:Prop:=∃dJ:Nat->Value,(∀t,Xh (dJ t))/\GoE YP B c0 Zd 1 (QC 22 65 (([2,5,7,9,10]:List Nat).zip (Pm rf plan s os on)) dJ Pp) (Q9 (Ku rf plan s os on)) (2+(Ku rf plan s os on).length) []
def Ta:Array Value:=#[Xo (Ld (Ln (XD rf.Qb rf.Qa (Va rf) (Vi rf plan) (Qg (YA rf))) 0 La)) (Qe Qy (Ln (XD rf.Qb rf.Qa (Va rf) (Vi rf plan) (Qg (YA rf))) 0 La))]
def SZ:Array Value:=#[Xo (Ld (Ln (XD rf.Qb rf.Qa (Ve rf) (VI rf plan) (Qg (RE rf))) 0 La)) (Qe Qy (Ln (XD rf.Qb rf.Qa (Ve rf) (VI rf plan) (Qg (RE rf))) 0 La))]
def cE:Array Value:=#[X7 (YA rf),Xo (Ld (Va rf)) (Qe XM (Va rf)),Xo (Ld (Vi rf plan)) (Qe XM (Vi rf plan))]
def cD:Array Value:=#[X7 (RE rf),Xo (Ld (Ve rf)) (Qe XM (Ve rf)),Xo (Ld (VI rf plan)) (Qe XM (VI rf plan))]
def SY:Array Value:=#[Xp rf.Qa,YI rf.Qh,YI rf.Qb]
theorem zd(B:Lo)(rf:Qc)(plan:List Int)(i:Int)(zs:List Span)(zn:Nat)(Ql:Nat->Value):let o:=Yu rf plan i zs zn;let n:=rf.Qa;let m:=Lb i*TypeInfo.size Try.t3;let h:=0*TypeInfo.size Try.t25+TypeInfo.size Try.t25;let g:=Lb i*TypeInfo.size Try.t3+TypeInfo.size Try.t3;let d:=Lb i;let c:=XD rf.Qb n (Ve rf) (VI rf plan) (Qg (RE rf));let f:=c.getD 0 La;let k:=f.getD d La;let b:=XD rf.Qb n (Va rf) (Vi rf plan) (Qg (YA rf));let e:=b.getD 0 La;let j:=e.getD d La;let a:=zs++[{lo:=e.getD d La,hi:=f.getD d La}];let l:=Qe QQ a;landM (Qn YP (Q0 YP) J0 B 11 1 (QC 22 65 (([2,5,7,9,10,11,12]:List Nat).zip (Po rf plan i zs zn)) Ql Pr) (Q9 o) (2+o.length)
 [(4,Wj),(8,Qf.tidx 0 (Ta rf plan)),(11,Qf.tidx d #[YI j]),(15,Qf.tidx 0 (SZ rf plan)),(18,Qf.tidx d #[YI k]),(22,Qf.XO (Hint.app l)),(25,Zu (i+1))] 0 [] []) [2,5,7,9,10,11,12] [(2,KS.auto),(5,KS.cells [] l)] []=some ⟨22,65,Pr,[],.run,none,Po rf plan (i+1) a (zn+1),Yu rf plan (i+1) a (zn+1),
 [QE 1 [] l l,wq (i+1)=i+1,LQ (Qe QQ zs)=zn*(1+1)/\zn+1<=maxLen/\(zn+1)*16<=140737488355328/\Qe QQ zs++#[YI j,YI k]=Qe QQ a,i=(↑d:Int)/\Lb i<Ld f/\Lh (Qe Qy f) m g=#[YI k],0=(↑0:Int)/\0<Ld c/\Lh (Qe XM c) (0*TypeInfo.size Try.t25) h=(SZ rf plan),i=(↑d:Int)/\Lb i<Ld e/\Lh (Qe Qy e) m g=#[YI j],0=(↑0:Int)/\0<Ld b/\Lh (Qe XM b) (0*TypeInfo.size Try.t25) h=(Ta rf plan),XB i (↑n.length:Int)=true]⟩:=by intro o n m h g d c f k b e j a l;kernel_rfl
theorem zb(B:Lo)(rf:Qc)(plan:List Int)(i:Int)(zs:List Span)(zn:Nat)(Ql:Nat->Value):let c:=[{n:=zn,l:=zs}];let b:=Yu rf plan i zs zn;let a:=Qe (QY 1 Yj) [{n:=zn,l:=zs}];landM (Qn YP (Q0 YP) J0 B 9 1 (QC 22 65 (([2,5,7,9,10,11,12]:List Nat).zip (Po rf plan i zs zn)) Ql Pr) (Q9 b) (2+b.length)
 [(4,WC)] 0 [] []) [2,5,7,9,10] [(2,KS.auto),(5,KS.rows [] [3] [] a)] [{k:=3,rs:=[],cs:=Qe QQ zs}]=some ⟨22,65,Pp,[],.run,none,Pm rf plan (1) c (1),Ku rf plan (1) c (1),
 [QX 1 [] [(3,Fz.cs {k:=3,rs:=[],cs:=Qe QQ zs})] [] #[.slice (some {block:=3,off:=0}) zn 2] a,X1 (Fz.rs {k:=3,rs:=[],cs:=Qe QQ zs}) (Qe QQ zs) (Fz.cs {k:=3,rs:=[],cs:=Qe QQ zs}),XB i (↑rf.Qa.length:Int)=false]⟩:=by intro c b a;kernel_rfl
theorem za(B:Lo)(rf:Qc)(plan:List Int)(s i:Int)(os:List Ex)(zs:List Span)(on zn:Nat)(Ql:Nat->Value):let o:=Lb s*TypeInfo.size Try.t25;let k:=Qe (QY 1 Yj) os;let j:=Lb i*TypeInfo.size Try.t3+TypeInfo.size Try.t3;let h:=Lb s*TypeInfo.size Try.t25+TypeInfo.size Try.t25;let g:=Lb s;let f:=Lb i;let e:=XD rf.Qb rf.Qa (Va rf) (Vi rf plan) (Qg (YA rf));let d:=XD rf.Qb rf.Qa (Ve rf) (VI rf plan) (Qg (RE rf));let c:=d.getD g La;let m:=c.getD f La;let b:=e.getD g La;let l:=b.getD f La;let a:=zs++[{lo:=b.getD f La,hi:=c.getD f La}];let n:=Qe QQ a;landM (Qn YP (Q0 YP) J0 B 11 1 (QC 22 65 (([2,5,7,9,10,11,12]:List Nat).zip (Pn rf plan s i os zs on zn)) Ql Pq) (Q9 (Kv rf plan s i os zs on zn)) (2+(Kv rf plan s i os zs on zn).length)
 [(4,Wj),(8,Qf.tidx g #[X7 b]),(11,Qf.tidx f #[YI l]),(15,Qf.tidx g #[X7 c]),(18,Qf.tidx f #[YI m]),(22,Qf.XO (Hint.app n)),(25,Zu (i+1))] 0 [] []) [2,5,7,9,10,11,12] [(2,KS.auto),(3,KS.rows [(1,1)] [] [] k),(6,KS.cells [] n)] []=some ⟨22,65,Pq,[],.run,none,Pn rf plan (s) (i+1) (os) a (on) (zn+1),Kv rf plan (s) (i+1) (os) a (on) (zn+1),
 [QX 1 [(1,1)] [] [] k k,QE 1 [] n n,wq (i+1)=i+1,LQ (Qe QQ zs)=zn*(1+1)/\zn+1<=maxLen/\(zn+1)*16<=140737488355328/\Qe QQ zs++#[YI l,YI m]=Qe QQ a,i=(↑f:Int)/\Lb i<Ld c/\Lh (Qe Qy c) (Lb i*TypeInfo.size Try.t3) j=#[YI m],s=(↑g:Int)/\Lb s<Ld d/\Lh (Qe XM d) o h=#[X7 c],i=(↑f:Int)/\Lb i<Ld b/\Lh (Qe Qy b) (Lb i*TypeInfo.size Try.t3) j=#[YI l],s=(↑g:Int)/\Lb s<Ld e/\Lh (Qe XM e) o h=#[X7 b],XB i (↑rf.Qa.length:Int)=true]⟩:=by intro o k j h g f e d c m b l a n;kernel_rfl
theorem yZ(B:Lo)(rf:Qc)(plan:List Int)(s i:Int)(os:List Ex)(zs:List Span)(on zn:Nat)(Ql:Nat->Value):let d:=Kv rf plan s i os zs on zn;let c:=os++[{n:=zn,l:=zs}];let b:=some {block:=4,off:=0};let a:=QY 1 Yj;let e:=Qe a os++#[.slice b zn 2];landM (Qn YP (Q0 YP) J0 B 9 1 (QC 22 65 (([2,5,7,9,10,11,12]:List Nat).zip (Pn rf plan s i os zs on zn)) Ql Pq) (Q9 d) (2+d.length)
 [(4,WC),(8,Qf.XO (Hint.app e)),(11,Zu (s+1))] 0 [] []) [2,5,7,9,10] [(2,KS.auto),(6,KS.rows [(1,1)] [4] [] (Qe a c))] [{k:=4,rs:=[],cs:=Qe QQ zs}]=some ⟨22,65,Pp,[],.run,none,Pm rf plan (s+1) c (on+1),Ku rf plan (s+1) c (on+1),
 [QX 1 [(1,1)] [(4,Fz.cs {k:=4,rs:=[],cs:=Qe QQ zs})] [] e (Qe a c),X1 (Fz.rs {k:=4,rs:=[],cs:=Qe QQ zs}) (Qe QQ zs) (Fz.cs {k:=4,rs:=[],cs:=Qe QQ zs}),wq (s+1)=s+1,LQ (Qe a os)=on*(0+1)/\on+1<=maxLen/\(on+1)*24<=140737488355328/\Qe a os++#[.slice b zn 2]=Qe a os++#[.slice b zn 2],XB i (↑rf.Qa.length:Int)=false]⟩:=by intro d c b a e;kernel_rfl
theorem yY(B:Lo)(rf:Qc)(plan:List Int)(s:Int)(os:List Ex)(on:Nat)(Ql:Nat->Value):let n:=rf.Qb;let m:=Lb s*TypeInfo.size Try.t25;let j:=0*TypeInfo.size Try.t3+TypeInfo.size Try.t3;let i:=Qe (QY 1 Yj) os;let h:=Lb s*TypeInfo.size Try.t25+TypeInfo.size Try.t25;let g:=Lb s;let d:=XD n rf.Qa (Va rf) (Vi rf plan) (Qg (YA rf));let c:=XD n rf.Qa (Ve rf) (VI rf plan) (Qg (RE rf));let b:=c.getD g La;let l:=b.getD 0 La;let a:=d.getD g La;let k:=a.getD 0 La;let f:=[{lo:=a.getD 0 La,hi:=b.getD 0 La}];let e:=Qe QQ [{lo:=a.getD 0 La,hi:=b.getD 0 La}];landM (Qn YP (Q0 YP) J0 B 25 1 (QC 22 65 (([2,5,7,9,10]:List Nat).zip (Pm rf plan s os on)) Ql Pp) (Q9 (Ku rf plan s os on)) (2+(Ku rf plan s os on).length)
 [(3,Wj),(10,Wj),(14,Qf.tidx g #[X7 a]),(17,Qf.tidx 0 #[YI k]),(21,Qf.tidx g #[X7 b]),(24,Qf.tidx 0 #[YI l])] 0 [] []) [2,5,7,9,10,11,12] [(2,KS.auto),(3,KS.rows [(1,1)] [] [] i),(5,KS.cells [] e)] []=some ⟨22,65,Pq,[],.run,none,Pn rf plan (s) (1) (os) f (on) (1),Kv rf plan (s) (1) (os) f (on) (1),
 [QX 1 [(1,1)] [] [] i i,QE 1 [] (#[YI k,YI l]) e,0=(↑0:Int)/\0<Ld b/\Lh (Qe Qy b) (0*TypeInfo.size Try.t3) j=#[YI l],s=(↑g:Int)/\Lb s<Ld c/\Lh (Qe XM c) m h=#[X7 b],0=(↑0:Int)/\0<Ld a/\Lh (Qe Qy a) (0*TypeInfo.size Try.t3) j=#[YI k],s=(↑g:Int)/\Lb s<Ld d/\Lh (Qe XM d) m h=#[X7 a],XB 0 (↑rf.Qa.length:Int)=true,XB s n=true]⟩:=by intro n m j i h g d c b l a k f e;kernel_rfl
theorem yX(B:Lo)(rf:Qc)(plan:List Int)(s:Int)(os:List Ex)(on:Nat)(Ql:Nat->Value):let b:=Ku rf plan s os on;let a:=Fz.cs {k:=3,rs:=[1],cs:=Qe Yj os};Xv (Qn YP (Q0 YP) J0 B 9 1 (QC 22 65 (([2,5,7,9,10]:List Nat).zip (Pm rf plan s os on)) Ql Pp) (Q9 b) (2+b.length)
 [(3,WC)] 0 [] []) [{k:=3,rs:=[1],cs:=Qe Yj os}]=some (Xo on a,
 [X1 (Fz.rs {k:=3,rs:=[1],cs:=Qe Yj os}) (Qe (QY 1 Yj) os) a,XB s rf.Qb=false]):=by intro b a;kernel_rfl
theorem yW(B:Lo)(rf:Qc)(plan:List Int):let n:=Vi rf plan;let m:=VI rf plan;let j:=Qg (YA rf);let i:=Qg (RE rf);let h:=rf.Qa;let g:=rf.Qb;let b:=XD g h (Ve rf) m i;let f:=b.getD 0 La;let d:=Value.tuple #[Xo b.length (Qe XM b),.agg #[YI i.sum,YI (Xj 0 g (Vd h (Ve rf) m i)),YI (Xj 0 g (ZI h (Ve rf) m i)),YI (Xj 0 g (Vc h (Ve rf) m i)),YI (F4.sum (Z5 h (Ve rf) m i g.toNat))]];let a:=XD g h (Va rf) n j;let e:=a.getD 0 La;let l:=[{lo:=e.getD 0 La,hi:=f.getD 0 La}];let k:=Qe QQ [{lo:=e.getD 0 La,hi:=f.getD 0 La}];let c:=Value.tuple #[Xo a.length (Qe XM a),.agg #[YI j.sum,YI (Xj 0 g (Vd h (Va rf) n j)),YI (Xj 0 g (ZI h (Va rf) n j)),YI (Xj 0 g (Vc h (Va rf) n j)),YI (F4.sum (Z5 h (Va rf) n j g.toNat))]];landM (Qn YP (Q0 YP) J0 B 38 1 (Qu YP 22 65 (([.agg (Q1 rf).toArray,X7 plan]).map (Q4 0 4))) Zd 1
 [(5,Qf.pure (.agg (cE rf plan)) []),(6,Qf.pure c []),(16,Qf.pure (.agg (cD rf plan)) []),(17,Qf.pure d []),(29,Wj),(36,Wj),(40,Qf.tidx 0 (Ta rf plan)),(43,Qf.tidx 0 #[YI (e.getD 0 La)]),(47,Qf.tidx 0 (SZ rf plan)),(50,Qf.tidx 0 #[YI (f.getD 0 La)])] 0 [] []) [2,5,7,9,10,11,12] [(1,KS.auto),(9,KS.cells [] k)] []=some ⟨22,65,Pr,[],.run,none,Po rf plan (1) l (1),Yu rf plan (1) l (1),
 [QE 1 [] (#[YI (e.getD 0 La),YI (f.getD 0 La)]) k,0=(↑0:Int)/\0<Ld f/\Lh (Qe Qy f) (0*TypeInfo.size Try.t3) (0*TypeInfo.size Try.t3+TypeInfo.size Try.t3)=#[YI (f.getD 0 La)],0=(↑0:Int)/\0<Ld b/\Lh (Qe XM b) (0*TypeInfo.size Try.t25) (0*TypeInfo.size Try.t25+TypeInfo.size Try.t25)=(SZ rf plan),0=(↑0:Int)/\0<Ld e/\Lh (Qe Qy e) (0*TypeInfo.size Try.t3) (0*TypeInfo.size Try.t3+TypeInfo.size Try.t3)=#[YI (e.getD 0 La)],0=(↑0:Int)/\0<Ld a/\Lh (Qe XM a) (0*TypeInfo.size Try.t25) (0*TypeInfo.size Try.t25+TypeInfo.size Try.t25)=(Ta rf plan),XB 0 (↑h.length:Int)=true,XB 0 g=true,Qz []/\Qv YP J0 28 #[.agg (SY rf),.agg (cD rf plan)] d,Qz []/\Qv YP J0 34 #[.agg (SY rf),X7 plan,.bool true] (.agg (cD rf plan)),Qz []/\Qv YP J0 28 #[.agg (SY rf),.agg (cE rf plan)] c,Qz []/\Qv YP J0 34 #[.agg (SY rf),X7 plan,.bool false] (.agg (cE rf plan))]⟩:=by intro n m j i h g b f d a e l k c;kernel_rfl
end
set_option maxHeartbeats 4000000 in
theorem ze(rf:Qc)(plan:List Int)(hr:X4 rf=true)(hp:XJ rf plan=true){B:Lo}(hJ:∀w,B.has w->J0 w){c0:CF}:∀m:Nat,(∀(i:Int) (zs:List Span) (zn:Nat),9000+(rf.Qa.length-i.toNat)=m->∀(h0:1<=i) (h1:i<=rf.Qa.length) (hzn:zn=zs.length) (hz:zs=(PQ 0 i).map (ur rf plan 0)),zh B c0 rf plan i zs zn->EndsT YP B c0 (BO (Ws rf plan)))/\(∀(s i:Int) (os:List Ex) (zs:List Span) (on zn:Nat),100*(rf.Qb-s).toNat+(rf.Qa.length-i.toNat)=m->∀(s0:1<=s) (s1:s<rf.Qb) (h0:1<=i) (h1:i<=rf.Qa.length) (hon:on=os.length) (ho:os=(PQ 0 s).map fun z=>⟨rf.Qa.length,kT rf plan z⟩) (hzn:zn=zs.length) (hz:zs=(PQ 0 i).map (ur rf plan s)),zg B c0 rf plan s i os zs on zn->EndsT YP B c0 (BO (Ws rf plan)))/\(∀(s:Int) (os:List Ex) (on:Nat),100*(rf.Qb-s).toNat+99=m->∀(s0:1<=s) (s1:s<=rf.Qb) (hon:on=os.length) (ho:os=(PQ 0 s).map fun z=>⟨rf.Qa.length,kT rf plan z⟩),zf B c0 rf plan s os on->EndsT YP B c0 (BO (Ws rf plan))):=by
 intro m0;induction m0 using LB with
 |_ m0 ih0=>
  refine⟨?_, ?_, ?_⟩
  ·intro i zs zn Jw h0 h1 hzn hz ⟨Ql,Wl,X0⟩;have Zi:=Q2 (Qw hr).1;have hpf:=(Xz hp).1;have hl1:=JC (rf:=rf);have hl2:=JD (rf:=rf);have hq1:(XD rf.Qb rf.Qa (Va rf) (Vi rf plan) (Qg (YA rf))).length=rf.Qb.toNat:=Xa;have hq2:(XD rf.Qb rf.Qa (Ve rf) (VI rf plan) (Qg (RE rf))).length=rf.Qb.toNat:=Xa;have hq3:((XD rf.Qb rf.Qa (Va rf) (Vi rf plan) (Qg (YA rf))).getD 0 La).length=rf.Qa.length:=WI (rf:=rf) (s:=0) (by omega) (by omega) (by omega);have hq4:((XD rf.Qb rf.Qa (Ve rf) (VI rf plan) (Qg (RE rf))).getD 0 La).length=rf.Qa.length:=WI (rf:=rf) (s:=0) (by omega) (by omega) (by omega);have hzl:(zs.length:Int)=i:=by rw[hz];exact fQ (by omega)
   by_cases q0:(i:Int)<((↑rf.Qa.length:Int))
   ·have hzi:(⟨((XD rf.Qb rf.Qa (Va rf) (Vi rf plan) (Qg (YA rf))).getD 0 La).getD i.toNat La,((XD rf.Qb rf.Qa (Ve rf) (VI rf plan) (Qg (RE rf))).getD 0 La).getD i.toNat La⟩:Span)=ur rf plan 0 i:=AX ((Ji (rf:=rf) (s:=0) (i:=i) (by omega) (by omega) (by omega) (by omega) (by omega))) (Ji (rf:=rf) (s:=0) (i:=i) (by omega) (by omega) (by omega) (by omega) (by omega));exact((ih0 _ (by omega)).1 (i+1) (zs++[{lo:=Ln (Ln (XD rf.Qb rf.Qa (Va rf) (Vi rf plan) (Qg (YA rf))) 0 La) i.toNat La,hi:=Ln (Ln (XD rf.Qb rf.Qa (Ve rf) (VI rf plan) (Qg (RE rf))) 0 La) i.toNat La}]) (zn+1) rfl (by omega) (by omega) (by(simp only[Ls,Lr,LD];omega)) (by(rw[hz,KN (by omega),List.map_append,hzi];rfl))
     (X0.lM (zd B rf plan i zs zn Ql)
     (by exact⟨cS,⟨wI,⟨⟨(by(rw[QZ (z:=2) (fun _=>rfl)];first|omega|(simp;omega)|(simp_all;done))),(by unfold maxLen;omega),by omega,by first|exact XH|exact XC rfl⟩,⟨(iX (lX 1)),⟨(iX (lX 1)),⟨(iX (lX 1)),⟨(iX (lX 1)),⟨(Xs q0),trivial⟩⟩⟩⟩⟩⟩⟩⟩))).cR
   ·have hze:zs=kT rf plan 0:=by rw[hz,show i=rf.Qa.length by omega];rfl
    exact((ih0 _ (by omega)).2.2 (1) ([{n:=zn,l:=zs}]) (1) rfl (by omega) (by omega) (by rfl) (by(rw[show zn=rf.Qa.length by omega,hze];rfl))
     (X0.lM (zb B rf plan i zs zn Ql)
     (by exact⟨(by exact(VF (by exact⟨(.own (LP _)),trivial⟩))),⟨(X2 (fun x=>List.all_eq_true.1 (by rfl))),⟨(nL q0),trivial⟩⟩⟩))).cR
  ·intro s i os zs on zn Jw s0 s1 h0 h1 hon ho hzn hz ⟨Ql,Wl,X0⟩;have Zi:=Q2 (Qw hr).1;have hpf:=(Xz hp).1;have hl1:=JC (rf:=rf);have hl2:=JD (rf:=rf);have hq1:(XD rf.Qb rf.Qa (Va rf) (Vi rf plan) (Qg (YA rf))).length=rf.Qb.toNat:=Xa;have hq2:(XD rf.Qb rf.Qa (Ve rf) (VI rf plan) (Qg (RE rf))).length=rf.Qb.toNat:=Xa;have hq3:((XD rf.Qb rf.Qa (Va rf) (Vi rf plan) (Qg (YA rf))).getD 0 La).length=rf.Qa.length:=WI (rf:=rf) (s:=0) (by omega) (by omega) (by omega);have hq4:((XD rf.Qb rf.Qa (Ve rf) (VI rf plan) (Qg (RE rf))).getD 0 La).length=rf.Qa.length:=WI (rf:=rf) (s:=0) (by omega) (by omega) (by omega);have hq3:=WI (rf:=rf) (gs:=Va rf) (ts:=Vi rf plan) (f:=Qg (YA rf)) (s:=s) (by omega) (by omega) (by omega);have hq4:=WI (rf:=rf) (gs:=Ve rf) (ts:=VI rf plan) (f:=Qg (RE rf)) (s:=s) (by omega) (by omega) (by omega);have hzl:(zs.length:Int)=i:=by rw[hz];exact fQ (by omega)
   have hol:(os.length:Int)=s:=by rw[ho];exact fQ (by omega)
   by_cases q0:(i:Int)<((↑rf.Qa.length:Int))
   ·have hzi:(⟨((XD rf.Qb rf.Qa (Va rf) (Vi rf plan) (Qg (YA rf))).getD s.toNat La).getD i.toNat La,((XD rf.Qb rf.Qa (Ve rf) (VI rf plan) (Qg (RE rf))).getD s.toNat La).getD i.toNat La⟩:Span)=ur rf plan s i:=AX ((Ji (rf:=rf) (s:=s) (i:=i) (by omega) (by omega) (by omega) (by omega) (by omega))) (Ji (rf:=rf) (s:=s) (i:=i) (by omega) (by omega) (by omega) (by omega) (by omega));exact((ih0 _ (by omega)).2.1 (s) (i+1) (os) (zs++[{lo:=Ln (Ln (XD rf.Qb rf.Qa (Va rf) (Vi rf plan) (Qg (YA rf))) s.toNat La) i.toNat La,hi:=Ln (Ln (XD rf.Qb rf.Qa (Ve rf) (VI rf plan) (Qg (RE rf))) s.toNat La) i.toNat La}]) (on) (zn+1) rfl ‹_› ‹_› (by omega) (by omega) ‹_› ‹_› (by(simp only[Ls,Lr,LD];omega)) (by(rw[hz,KN (by omega),List.map_append,hzi];rfl))
     (X0.lM (za B rf plan s i os zs on zn Ql)
     (by exact⟨cP,⟨cS,⟨wI,⟨⟨(by(rw[QZ (z:=2) (fun _=>rfl)];first|omega|(simp;omega)|(simp_all;done))),(by unfold maxLen;omega),by omega,by first|exact XH|exact XC rfl⟩,⟨(iX (lX 1)),⟨(iX (lX 1)),⟨(iX (lX 1)),⟨(iX (lX 1)),⟨(Xs q0),trivial⟩⟩⟩⟩⟩⟩⟩⟩⟩))).cR
   ·have hze:zs=kT rf plan s:=by rw[hz,show i=rf.Qa.length by omega];rfl
    exact((ih0 _ (by omega)).2.2 (s+1) (os++[{n:=zn,l:=zs}]) (on+1) rfl (by omega) (by omega) (by(simp only[Ls,Lr,LD];omega)) (by(rw[KN (by omega),List.map_append,<-ho,show zn=rf.Qa.length by omega,hze];rfl))
     (X0.lM (yZ B rf plan s i os zs on zn Ql)
     (by exact⟨(by exact(Vz cP (by exact⟨(.own (LP _)),trivial⟩))),⟨(X2 (fun x=>List.all_eq_true.1 (by rfl))),⟨wI,⟨⟨(by(rw[QZ (z:=1) (fun _=>rfl)];first|omega|(simp;omega)|(simp_all;done))),(by unfold maxLen;omega),by omega,rfl⟩,⟨(nL q0),trivial⟩⟩⟩⟩⟩))).cR
  ·intro s os on Jw s0 s1 hon ho ⟨Ql,Wl,X0⟩;have Zi:=Q2 (Qw hr).1;have hpf:=(Xz hp).1;have hl1:=JC (rf:=rf);have hl2:=JD (rf:=rf);have hq1:(XD rf.Qb rf.Qa (Va rf) (Vi rf plan) (Qg (YA rf))).length=rf.Qb.toNat:=Xa;have hq2:(XD rf.Qb rf.Qa (Ve rf) (VI rf plan) (Qg (RE rf))).length=rf.Qb.toNat:=Xa;have hq3:((XD rf.Qb rf.Qa (Va rf) (Vi rf plan) (Qg (YA rf))).getD 0 La).length=rf.Qa.length:=WI (rf:=rf) (s:=0) (by omega) (by omega) (by omega);have hq4:((XD rf.Qb rf.Qa (Ve rf) (VI rf plan) (Qg (RE rf))).getD 0 La).length=rf.Qa.length:=WI (rf:=rf) (s:=0) (by omega) (by omega) (by omega);have hol:(os.length:Int)=s:=by rw[ho];exact fQ (by omega)
   by_cases q0:(s:Int)<rf.Qb
   ·by_cases q1:(0:Int)<((↑rf.Qa.length:Int))
    ·have hq3:=WI (rf:=rf) (gs:=Va rf) (ts:=Vi rf plan) (f:=Qg (YA rf)) (s:=s) (by omega) (by omega) (by omega);have hq4:=WI (rf:=rf) (gs:=Ve rf) (ts:=VI rf plan) (f:=Qg (RE rf)) (s:=s) (by omega) (by omega) (by omega);have hz1:(⟨((XD rf.Qb rf.Qa (Va rf) (Vi rf plan) (Qg (YA rf))).getD s.toNat La).getD 0 La,((XD rf.Qb rf.Qa (Ve rf) (VI rf plan) (Qg (RE rf))).getD s.toNat La).getD 0 La⟩:Span)=ur rf plan s 0:=AX ((Ji (rf:=rf) (s:=s) (i:=0) (by omega) (by omega) (by omega) (by omega) (by omega))) (Ji (rf:=rf) (s:=s) (i:=0) (by omega) (by omega) (by omega) (by omega) (by omega));exact((ih0 _ (by omega)).2.1 (s) (1) (os) ([{lo:=Ln (Ln (XD rf.Qb rf.Qa (Va rf) (Vi rf plan) (Qg (YA rf))) s.toNat La) 0 La,hi:=Ln (Ln (XD rf.Qb rf.Qa (Ve rf) (VI rf plan) (Qg (RE rf))) s.toNat La) 0 La}]) (on) (1) rfl ‹_› ‹_› (by omega) (by omega) ‹_› ‹_› (by rfl) (by(rw[hz1];rfl))
      (X0.lM (yY B rf plan s os on Ql)
      (by exact⟨cP,⟨(XL (by kernel_rfl)),⟨(iX (lX 1)),⟨(iX (lX 1)),⟨(iX (lX 1)),⟨(iX (lX 1)),⟨(Xs q1),⟨(Xs q0),trivial⟩⟩⟩⟩⟩⟩⟩⟩))).cR
    ·exfalso
     (have Zi:=Q2 (Qw hr).1;omega)
   ·exact(GoE.eT X0 (yX B rf plan s os on Ql)
     ⟨(VG (YH (by exact fun _=>rfl)) (LP _)),⟨(nL q0),trivial⟩⟩).cast (by exact Qaq ho hon (by omega))
set_option maxHeartbeats 4000000 in
theorem BU(rf:Qc)(plan:List Int)(hr:X4 rf=true)(hp:XJ rf plan=true){B:Lo}(hJ:∀w,B.has w->J0 w):EndsT YP B (Qu YP 22 65 (([.agg (Q1 rf).toArray,X7 plan]).map (Q4 0 4))) (BO (Ws rf plan)):=by
 have Zi:=Q2 (Qw hr).1;have hpf:=(Xz hp).1;have ho1:=sT plan hr;have ho2:=Ol plan hr;have hl1:=JC (rf:=rf);have hl2:=JD (rf:=rf);have hq1:(XD rf.Qb rf.Qa (Va rf) (Vi rf plan) (Qg (YA rf))).length=rf.Qb.toNat:=Xa;have hq2:(XD rf.Qb rf.Qa (Ve rf) (VI rf plan) (Qg (RE rf))).length=rf.Qb.toNat:=Xa;have hq3:((XD rf.Qb rf.Qa (Va rf) (Vi rf plan) (Qg (YA rf))).getD 0 La).length=rf.Qa.length:=WI (rf:=rf) (s:=0) (by omega) (by omega) (by omega);have hq4:((XD rf.Qb rf.Qa (Ve rf) (VI rf plan) (Qg (RE rf))).getD 0 La).length=rf.Qa.length:=WI (rf:=rf) (s:=0) (by omega) (by omega) (by omega);have hz0:(⟨((XD rf.Qb rf.Qa (Va rf) (Vi rf plan) (Qg (YA rf))).getD 0 La).getD 0 La,((XD rf.Qb rf.Qa (Ve rf) (VI rf plan) (Qg (RE rf))).getD 0 La).getD 0 La⟩:Span)=ur rf plan 0 0:=AX ((Ji (rf:=rf) (s:=0) (i:=0) (by omega) (by omega) (by omega) (by omega) (by omega))) (Ji (rf:=rf) (s:=0) (i:=0) (by omega) (by omega) (by omega) (by omega) (by omega));by_cases q0:(0:Int)<rf.Qb
 ·by_cases q1:(0:Int)<((↑rf.Qa.length:Int))
  ·exact((ze rf plan hr hp hJ _).1 (1) ([{lo:=Ln (Ln (XD rf.Qb rf.Qa (Va rf) (Vi rf plan) (Qg (YA rf))) 0 La) 0 La,hi:=Ln (Ln (XD rf.Qb rf.Qa (Ve rf) (VI rf plan) (Qg (RE rf))) 0 La) 0 La}]) (1) rfl (by omega) (by omega) (by rfl) (by(rw[hz0];rfl))
    (GoE.start.lM (yW B rf plan)
    (by exact⟨(XL (by kernel_rfl)),⟨(iX (lX 1)),⟨(iX (lX 1)),⟨(iX (lX 1)),⟨(iX (lX 1)),⟨(Xs q1),⟨(Xs q0),⟨⟨trivial,OK (rf) (RE rf) (Ve rf) (VI rf plan) ‹_› ‹_› (by omega) (by omega)⟩,⟨⟨trivial,Qb4 (rf) (plan) ‹_› ‹_›⟩,⟨⟨trivial,OK (rf) (YA rf) (Va rf) (Vi rf plan) ‹_› ‹_› (by omega) (by omega)⟩,⟨⟨trivial,Qb5 (rf) (plan) ‹_› ‹_›⟩,trivial⟩⟩⟩⟩⟩⟩⟩⟩⟩⟩⟩))).cR
  ·exfalso
   (have Zi:=Q2 (Qw hr).1;omega)
 ·exfalso
  (have Zi:=Q2 (Qw hr).1;omega)
theorem MA(rf:Qc)(plan:List Int)(hr:X4 rf=true)(hp:XJ rf plan=true):Qv YP J0 22 #[.agg (Q1 rf).toArray,X7 plan] (BO (Ws rf plan)):=
 Xd (ts:=[.agg (Q1 rf).toArray,X7 plan]) Zc (c0:=Qu YP 22 65 (([.agg (Q1 rf).toArray,X7 plan]).map (Q4 0 4))) (by kernel_rfl) (by kernel_rfl) fun B hJ=>BU rf plan hr hp hJ
end
end Go.Proofs.Ytncjjangllkokaa

namespace Go.Proofs.Ytncjjangllkokaa
open Go Go.CE Go.RowKit
noncomputable section
set_option maxRecDepth 100000
theorem kL{rf:Qc}{plan:List Int}{i:Int}(h1:1<=rf.Qb)(i0:0<=i)(i1:i<rf.Qa.length):(((Ws rf plan).getD (rf.Qb-1).toNat La).getD i.toNat La).lo=(QM rf plan rf.Qb.toNat).at i:=by
 have e:(Ws rf plan).getD (rf.Qb-1).toNat La=kT rf plan (rf.Qb-1):=Xc (by omega) (by omega);rw[e,show(kT rf plan (rf.Qb-1)).getD i.toNat La=ur rf plan (rf.Qb-1) i from Xc i0 i1];show(QM rf plan ((rf.Qb-1).toNat+1)).at i=_;rw[show(rf.Qb-1).toNat+1=rf.Qb.toNat by omega]
theorem uq{rf:Qc}{plan:List Int}(h1:1<=rf.Qb):((Ws rf plan).getD (rf.Qb-1).toNat La).length=rf.Qa.length:=by
 have e:(Ws rf plan).getD (rf.Qb-1).toNat La=kT rf plan (rf.Qb-1):=Xc (by omega) (by omega);rw[e];exact uB
def bq(x_:Qd):Array Value:=#[YI x_.count,YI x_.room,YI x_.UR,YI x_.US,YI x_.QI,YI x_.Xw,YI x_.VB,YI x_.VC,YI x_.Vr,YI x_.Vs,YI x_.goal,YI x_.XF]
def bp(rf:Qc)(plan:List Int)(i:Int):Array Value:=#[YI (Span.lo (Ln (Ln (Ws rf plan) (Lb (rf.Qb-1)) La) i.toNat La)),YI (Span.hi (Ln (Ln (Ws rf plan) (Lb (rf.Qb-1)) La) i.toNat La))]
def JP(rf:Qc)(plan:List Int)(i:Int):List Value:=[pA 2 0,Qk 1 (Xo (Ld (Ln (Ws rf plan) (Lb (rf.Qb-1)) La)) (Qe QQ (Ln (Ws rf plan) (Lb (rf.Qb-1)) La))),YI i]
def VQ(rf:Qc)(plan:List Int)(i:Int):List Obj:=[Obj.cells #[Qk 1 (Xp rf.Qa),YI rf.Qh,YI rf.Qb] 24]
def JQ:List Item:=([.code [1,1,0,1,0,0],.inLoop [1,1,0,1,0,0],.inBlock 0,.code [1,1,1]]).map (it (Q8 YP 36))
def Ca(B:Lo)(c0:CF)(rf:Qc)(plan:List Int)(i:Int):Prop:=∃dJ:Nat->Value,(∀t,Xh (dJ t))/\GoE YP B c0 Zd 1 (QC 36 49 (([2,7,8]:List Nat).zip (JP rf plan i)) dJ JQ) (Q9 (VQ rf plan i)) (2+(VQ rf plan i).length) []
def gI(B:Lo)(rf:Qc)(plan:List Int)(i:Int)(Ql:Nat->Value):List Prop:=let c:=Lb i;let b:=rf.Qa;let a:=Ln (Ws rf plan) (Lb (rf.Qb-1)) La;[i=(↑c:Int)/\Lb i<Ld b/\Lh (Qe Qt b) (Lb i*TypeInfo.size Try.t54) (Lb i*TypeInfo.size Try.t54+TypeInfo.size Try.t54)=(bq (b.getD c La)),i=(↑c:Int)/\Lb i<Ld a/\Lh (Qe QQ a) (Lb i*TypeInfo.size Try.t38) (Lb i*TypeInfo.size Try.t38+TypeInfo.size Try.t38)=(bp rf plan i),XB i (↑b.length:Int)=true]++([]:List Prop)
def pP(rf:Qc)(plan:List Int)(i:Int)(Ql:Nat->Value):QA:=[(4,Wj),(7,Qf.tidx i.toNat (bp rf plan i)),(13,Qf.tidx i.toNat (bq (rf.Qa.getD i.toNat La)))]
theorem BY(B:Lo)(rf:Qc)(plan:List Int)(i:Int)(Ql:Nat->Value):let f:=rf.Qa;let d:=Lb i;let b:=f.getD d La;let a:=Ln (Ws rf plan) (Lb (rf.Qb-1)) La;let c:=a.getD d La;let e:=b.goal-c.lo;Xv (Qn YP (Q0 YP) J0 B 14 1 (QC 36 49 (([2,7,8]:List Nat).zip (JP rf plan i)) Ql JQ) (Q9 (VQ rf plan i)) (2+(VQ rf plan i).length)
 (pP rf plan i Ql++[(16,Wj),(21,Qf.tidx d (bq b)),(26,Qf.tidx d (bp rf plan i)),(29,Zu e)]) 0 [] []) []=some (.tuple #[YI i,YI e,.bool true],
 [wq e=b.goal-c.lo,i=(↑d:Int)/\Lb i<Ld a/\Lh (Qe QQ a) (Lb i*TypeInfo.size Try.t38) (Lb i*TypeInfo.size Try.t38+TypeInfo.size Try.t38)=(bp rf plan i),i=(↑d:Int)/\Lb i<Ld f/\Lh (Qe Qt f) (Lb i*TypeInfo.size Try.t54) (Lb i*TypeInfo.size Try.t54+TypeInfo.size Try.t54)=(bq b),XB c.lo b.goal=true]++gI B rf plan i Ql):=by intro f d b a c e;kernel_rfl
theorem BX(B:Lo)(rf:Qc)(plan:List Int)(i:Int)(Ql:Nat->Value):landM (Qn YP (Q0 YP) J0 B 14 1 (QC 36 49 (([2,7,8]:List Nat).zip (JP rf plan i)) Ql JQ) (Q9 (VQ rf plan i)) (2+(VQ rf plan i).length)
 (pP rf plan i Ql++[(16,WC),(18,Zu (i+1))]) 0 [] []) [2,7,8] [(2,KS.auto)] []=some ⟨36,49,JQ,[],.run,none,JP rf plan (i+1),VQ rf plan (i+1),
 [wq (i+1)=i+1,XB (Span.lo (Ln (Ln (Ws rf plan) (Lb (rf.Qb-1)) La) i.toNat La)) (Qd.goal (rf.Qa.getD i.toNat La))=false]++gI B rf plan i Ql⟩:=by kernel_rfl
theorem BW(B:Lo)(rf:Qc)(plan:List Int)(i:Int)(Ql:Nat->Value):Xv (Qn YP (Q0 YP) J0 B 9 1 (QC 36 49 (([2,7,8]:List Nat).zip (JP rf plan i)) Ql JQ) (Q9 (VQ rf plan i)) (2+(VQ rf plan i).length)
 [(4,WC)] 0 [] []) []=some (.tuple #[YI 0,YI 0,.bool false],
 [XB i (↑rf.Qa.length:Int)=false]):=by kernel_rfl
theorem BV(B:Lo)(rf:Qc)(plan:List Int):let c:=Ws rf plan;let d:=Xo c.length (Qe pK c);let a:=rf.Qb-1;let e:=Lb a;let b:=c.getD e La;landM (Qn YP (Q0 YP) J0 B 9 1 (Qu YP 36 49 (([.agg (Q1 rf).toArray,X7 plan]).map (Q4 0 4))) Zd 1
 [(6,Qf.pure d []),(9,Zu a),(10,Qf.tidx e #[Xo b.length (Qe QQ b)])] 0 [] []) [2,7,8] [(1,KS.auto)] []=some ⟨36,49,JQ,[],.run,none,JP rf plan (0),VQ rf plan (0),
 [rf.Qb-1=(↑e:Int)/\Lb a<Ld c/\Lh (Qe pK c) (Lb a*TypeInfo.size Try.t36) (Lb a*TypeInfo.size Try.t36+TypeInfo.size Try.t36)=#[Xo b.length (Qe QQ b)],wq a=rf.Qb-1,Qz []/\Qv YP J0 22 #[.agg #[Xp rf.Qa,YI rf.Qh,YI rf.Qb],X7 plan] d]⟩:=by intro c d a e b;kernel_rfl
set_option maxHeartbeats 4000000 in
theorem BZ(rf:Qc)(plan:List Int)(hr:X4 rf=true)(hp:XJ rf plan=true){B:Lo}(hJ:∀w,B.has w->J0 w){c0:CF}:∀m:Nat,(∀(i:Int),(rf.Qa.length-i.toNat)=m->∀(h0:0<=i),Ca B c0 rf plan i->EndsT YP B c0 (.tuple #[YI (Xt (QM rf plan rf.Qb.toNat) (rf.Qa.drop i.toNat) i).2.1,YI (Xt (QM rf plan rf.Qb.toNat) (rf.Qa.drop i.toNat) i).2.2,.bool (Xt (QM rf plan rf.Qb.toNat) (rf.Qa.drop i.toNat) i).1])):=by
 intro m0;induction m0 using LB with
 |_ m0 ih0=>
  intro i Jw h0 ⟨Ql,Wl,X0⟩;have Zi:=Q2 (Qw hr).1;have hsl:(Ws rf plan).length=rf.Qb.toNat:=Xa;have Zi:=Q2 (Qw hr).1;have hll:=uq (rf:=rf) (plan:=plan) (by omega);by_cases q0:(i:Int)<((↑rf.Qa.length:Int))
  ·have VO:Qz (gI B rf plan i Ql):=by
    have hla:=kL (rf:=rf) (plan:=plan) (by omega) h0 q0;have PH:=(Zg ((Qw hr).2 i h0 q0).1).2.2.1;have hf4:=ZC (Jz (plan:=plan) hr (s:=rf.Qb.toNat) (by omega)).1 h0 (show i<4 by omega);have hf5:0<=(QM rf plan rf.Qb.toNat).at i/\(QM rf plan rf.Qb.toNat).at i<=100000000000:=⟨hf4.1,Int.le_trans hf4.2.1 hf4.2.2⟩
    have s1:=WO (f:=QM rf plan rf.Qb.toNat) h0 q0;exact⟨(iX (lX 12)),⟨(iX (lX 2)),⟨(Xs q0),trivial⟩⟩⟩
   by_cases q1:(Span.lo (Ln (Ln (Ws rf plan) (Lb (rf.Qb-1)) La) i.toNat La):Int)<(Qd.goal (rf.Qa.getD i.toNat La))
   ·have hla:=kL (rf:=rf) (plan:=plan) (by omega) h0 q0;have PH:=(Zg ((Qw hr).2 i h0 q0).1).2.2.1;have hf4:=ZC (Jz (plan:=plan) hr (s:=rf.Qb.toNat) (by omega)).1 h0 (show i<4 by omega);have hf5:0<=(QM rf plan rf.Qb.toNat).at i/\(QM rf plan rf.Qb.toNat).at i<=100000000000:=⟨hf4.1,Int.le_trans hf4.2.1 hf4.2.2⟩
    have s1:=WO (f:=QM rf plan rf.Qb.toNat) h0 q0;rw[decide_eq_true (by omega),cond_true]at s1;exact(GoE.eT X0 (BY B rf plan i Ql)
     ⟨wI,⟨(iX (lX 2)),⟨(iX (lX 12)),⟨(Xs q1),VO⟩⟩⟩⟩).cast (by(rw[s1,<-hla];done))
   ·have hla:=kL (rf:=rf) (plan:=plan) (by omega) h0 q0;have PH:=(Zg ((Qw hr).2 i h0 q0).1).2.2.1;have hf4:=ZC (Jz (plan:=plan) hr (s:=rf.Qb.toNat) (by omega)).1 h0 (show i<4 by omega);have hf5:0<=(QM rf plan rf.Qb.toNat).at i/\(QM rf plan rf.Qb.toNat).at i<=100000000000:=⟨hf4.1,Int.le_trans hf4.2.1 hf4.2.2⟩
    have s1:=WO (f:=QM rf plan rf.Qb.toNat) h0 q0;rw[decide_eq_false (by omega),cond_false]at s1;exact((ih0 _ (by omega)) (i+1) rfl (by omega)
     (X0.lM (BX B rf plan i Ql)
     ⟨wI,⟨(nL q1),VO⟩⟩)).cast (by(rw[s1];done))
  ·have s1:=cB (f:=QM rf plan rf.Qb.toNat) (l:=rf.Qa) (i:=i) (by omega);exact(GoE.eT X0 (BW B rf plan i Ql)
    ⟨(nL q0),trivial⟩).cast (by(rw[s1];done))
set_option maxHeartbeats 4000000 in
theorem EZ(rf:Qc)(plan:List Int)(hr:X4 rf=true)(hp:XJ rf plan=true){B:Lo}(hJ:∀w,B.has w->J0 w):EndsT YP B (Qu YP 36 49 (([.agg (Q1 rf).toArray,X7 plan]).map (Q4 0 4))) (.tuple #[YI (X5 rf plan).2.1,YI (X5 rf plan).2.2,.bool (X5 rf plan).1]):=by
 have Zi:=Q2 (Qw hr).1;have hsl:(Ws rf plan).length=rf.Qb.toNat:=Xa;exact((BZ rf plan hr hp hJ _) (0) rfl (by omega)
  (GoE.start.lM (BV B rf plan)
  ⟨(iX (lX 1)),⟨wI,⟨⟨trivial,MA (rf) (plan) ‹_› ‹_›⟩,trivial⟩⟩⟩)).cR
theorem rG(rf:Qc)(plan:List Int)(hr:X4 rf=true)(hp:XJ rf plan=true):Qv YP J0 36 #[.agg (Q1 rf).toArray,X7 plan] (.tuple #[YI (X5 rf plan).2.1,YI (X5 rf plan).2.2,.bool (X5 rf plan).1]):=
 Xd (ts:=[.agg (Q1 rf).toArray,X7 plan]) Zc (c0:=Qu YP 36 49 (([.agg (Q1 rf).toArray,X7 plan]).map (Q4 0 4))) (by kernel_rfl) (by kernel_rfl) fun B hJ=>EZ rf plan hr hp hJ
end
end Go.Proofs.Ytncjjangllkokaa

namespace Go.Proofs.Ytncjjangllkokaa
open Go Go.CE Go.RowKit
noncomputable section
set_option maxRecDepth 100000
theorem QbQ{l:List Int}{n:Int}(h:(l.length:Int)=n)(h1:1<=n)(h4:n<=4):[l.getD 0 0,l.getD 1 0,l.getD 2 0,l.getD 3 0].take n.toNat=l:=by
 subst h;match l,h1,h4 with
 |[_],_,_=>rfl
 |[_,_],_,_=>rfl
 |[_,_,_],_,_=>rfl
 |[_,_,_,_],_,_=>rfl
 |_::_::_::_::_::_,_,h4=>simp at h4;omega
def au(rf:Qc)(plan:List Int):Qm:=[(1,Obj.cells #[Qk 0 (Xp rf.Qa),YI rf.Qh,YI rf.Qb,YI (plan.getD 0 0),YI (plan.getD 1 0),YI (plan.getD 2 0),YI (plan.getD 3 0)] 84),(0,Obj.coro none)]
def eE(rf:Qc)(plan:List Int):CF:=⟨87,ofList 8 [.slice (some {block:=1,off:=3}) (Lb rf.Qb) 0],[Item.code (Q8 YP 87)],[],.run,none⟩
def Sm(rf:Qc)(plan:List Int):Array Value:=#[Qk 0 (Xp rf.Qa),YI rf.Qh,YI rf.Qb,YI (plan.getD 0 0),YI (plan.getD 1 0),YI (plan.getD 2 0),YI (plan.getD 3 0)]
theorem Ha(B:Lo)(rf:Qc)(plan:List Int):CE.finK 2 (Qn YP (Q0 YP) J0 B 11 2 (eE rf plan) (au rf plan) 2
 [(5,Qf.eval {out:=OO.ret (.slice (some {block:=2,off:=0}) (Lb rf.Qb) 1),H:=[(2,Obj.cells (Qe Qy (List.take (Lb rf.Qb) [plan.getD 0 0,plan.getD 1 0,plan.getD 2 0,plan.getD 3 0])) 3),(1,Obj.cells (Sm rf plan) 84),(0,Obj.coro none)],n:=3,R:=[1],W:=[]})] 0 [] []) [] [] [{k:=2,rs:=[],cs:=Qe Qy (List.take (Lb rf.Qb) [plan.getD 0 0,plan.getD 1 0,plan.getD 2 0,plan.getD 3 0])}]=some (OO.ret (Qk 2 (Xo (Lb rf.Qb) (Fz.cs {k:=2,rs:=[],cs:=Qe Qy (List.take (Lb rf.Qb) [plan.getD 0 0,plan.getD 1 0,plan.getD 2 0,plan.getD 3 0])}))),[],[],
 [X1 (Fz.rs {k:=2,rs:=[],cs:=Qe Qy (List.take (Lb rf.Qb) [plan.getD 0 0,plan.getD 1 0,plan.getD 2 0,plan.getD 3 0])}) (Qe Qy (List.take (Lb rf.Qb) [plan.getD 0 0,plan.getD 1 0,plan.getD 2 0,plan.getD 3 0])) (Fz.cs {k:=2,rs:=[],cs:=Qe Qy (List.take (Lb rf.Qb) [plan.getD 0 0,plan.getD 1 0,plan.getD 2 0,plan.getD 3 0])}),aN YP (Q0 YP) Xn (fun x x_1 x_2=>none) {len:=16000,tr:=Tri.set 14 (Tri.set 14 Tri.lf 6 (.slice (some {block:=1,off:=3}) (Lb rf.Qb) 0)) 5 (Value.chan (some 0))} {dst:=some 7,op:=Op.call {callee:=Callee.builtin Builtin.append,args:=#[Operand.tmp 5,Operand.tmp 6],argTypes:=#[25,25]},type:=25,pos:= "slices.go:362",after:=#[{on:=0,ground:=Ground.data},{on:=1,ground:=Ground.data}],guard:=none} [(1,Obj.cells (Sm rf plan) 84),(0,Obj.coro none)] 2=some {out:=OO.ret (.slice (some {block:=2,off:=0}) (Lb rf.Qb) 1),H:=[(2,Obj.cells (Qe Qy (List.take (Lb rf.Qb) [plan.getD 0 0,plan.getD 1 0,plan.getD 2 0,plan.getD 3 0])) 3),(1,Obj.cells (Sm rf plan) 84),(0,Obj.coro none)],n:=3,R:=[1],W:=[]}]):=by kernel_rfl
theorem GZ(B:Lo)(rf:Qc)(plan:List Int):Xv (Qn YP (Q0 YP) J0 B 6 1 (Qu YP 66 9 (([.agg (QN rf plan).toArray]).map (Q4 0 4))) Zd 1
 [(6,Qf.eval {out:=OO.ret (.slice (some {block:=1,off:=3}) (Lb rf.Qb) 0),H:=[(1,Obj.cells (Sm rf plan) 84),(0,Obj.coro none)],n:=2,R:=[],W:=[]}),(7,Qf.call (Le 2) (OO.ret (Qk 2 (Xo (Lb rf.Qb) (Fz.cs {k:=2,rs:=[],cs:=Qe Qy (List.take (Lb rf.Qb) [plan.getD 0 0,plan.getD 1 0,plan.getD 2 0,plan.getD 3 0])})))) ([]++(2,QV)::QL 3 []) 3 [])] 0 [] []) []=some (Xo (Lb rf.Qb) (Qe Qy (List.take (Lb rf.Qb) [plan.getD 0 0,plan.getD 1 0,plan.getD 2 0,plan.getD 3 0])),
 [FJ YP B (eE rf plan) (au rf plan) 2 (OO.ret (Qk 2 (Xo (Lb rf.Qb) (Fz.cs {k:=2,rs:=[],cs:=Qe Qy (List.take (Lb rf.Qb) [plan.getD 0 0,plan.getD 1 0,plan.getD 2 0,plan.getD 3 0])})))) (([]++((2,QV)::QL (2+1) []))++au rf plan) 3 (Le 2) [],aN YP (Q0 YP) Xn (fun x x_1 x_2=>none) {len:=16000,tr:=Tri.set 14 (Tri.set 14 Tri.lf 6 (YI rf.Qb)) 3 (pA 1 3)} {dst:=some 7,op:=Op.slice 82 (Operand.tmp 3) none (some (Operand.tmp 6)) none,type:=25,pos:= "plan.go:47",after:=#[{on:=0,ground:=Ground.data},{on:=3,ground:=Ground.data}],guard:=none} [(1,Obj.cells (Sm rf plan) 84),(0,Obj.coro none)] 2=some {out:=OO.ret (.slice (some {block:=1,off:=3}) (Lb rf.Qb) 0),H:=[(1,Obj.cells (Sm rf plan) 84),(0,Obj.coro none)],n:=2,R:=[],W:=[]}]):=by kernel_rfl
set_option maxHeartbeats 4000000 in
theorem Nu(rf:Qc)(plan:List Int)(hs:1<=rf.Qb/\rf.Qb<=4)(hl:(plan.length:Int)=rf.Qb){B:Lo}(hJ:∀w,B.has w->J0 w):EndsT YP B (Qu YP 66 9 (([.agg (QN rf plan).toArray]).map (Q4 0 4))) (X7 plan):=by
 by_cases q0:(Lb rf.Qb:Int)=(0)
 ·exfalso
  (omega)
 ·have rj0:FJ YP B (eE rf plan) (au rf plan) 2 (OO.ret (Qk 2 (Xo (Lb rf.Qb) (Fz.cs {k:=2,rs:=[],cs:=Qe Qy (List.take (Lb rf.Qb) [plan.getD 0 0,plan.getD 1 0,plan.getD 2 0,plan.getD 3 0])})))) (([]++((2,QV)::QL (2+1) []))++au rf plan) 3 (Le 2) []:=by
   exact FinK.fjB (GoE.fK ((GoE.refl (P:=YP) (B:=B) (c0:=eE rf plan) uA).widen (Wf:=((([]):List (Nat×KS)).map (·.1))) (by simp) wO) (Ha B rf plan)
    ⟨(X2 (fun x=>List.all_eq_true.1 (by rfl))),⟨(aM (z:=0) (by':=8) rfl rfl rfl rfl rfl rfl rfl rfl (by kernel_rfl) rfl (by decide) ⟨by omega,(by unfold maxLen;omega),by omega,OA (fs:=[plan.getD 0 0,plan.getD 1 0,plan.getD 2 0,plan.getD 3 0]) rfl (Nat.le_trans (m:=4) (by omega) (Nat.le_of_eq rfl)) (Nat.succ_pos _)⟩),trivial⟩⟩) (ex:=[]) (by kernel_rfl) (Zb _)
  exact(GoE.eT GoE.start (GZ B rf plan)
   ⟨rj0,⟨(wz (l:=rf.Qb) rfl rfl rfl rfl rfl rfl (by omega) (by omega)),trivial⟩⟩).cast (by exact bo (QbQ hl (by omega) (by omega)) (by omega))
theorem QbF(rf:Qc)(plan:List Int)(hs:1<=rf.Qb/\rf.Qb<=4)(hl:(plan.length:Int)=rf.Qb):Qv YP J0 66 #[.agg (QN rf plan).toArray] (X7 plan):=
 Xd (ts:=[.agg (QN rf plan).toArray]) Zc (c0:=Qu YP 66 9 (([.agg (QN rf plan).toArray]).map (Q4 0 4))) (by kernel_rfl) (by kernel_rfl) fun B hJ=>Nu rf plan hs hl hJ
def eX(rf:Qc)(es:List (F4×F4)):OO:=.ret (.tuple #[.agg #[Qk 2 (Xp rf.Qa),YI rf.Qh,YI rf.Qb,YI ((QR rf (Xg rf).2).getD 0 0),YI ((QR rf (Xg rf).2).getD 1 0),YI ((QR rf (Xg rf).2).getD 2 0),YI ((QR rf (Xg rf).2).getD 3 0)],.bool true])
def mI(rf:Qc)(es:List (F4×F4)):List Obj:=[.map (mapA Q3 (VP rf es).1) (VP rf es).1.length]
def mJ(rf:Qc)(es:List (F4×F4)):List Obj:=[]
def HH(rf:Qc)(es:List (F4×F4)):Prop:=WriC YP J0 65 #[.agg #[Qk 0 (Xp rf.Qa),YI rf.Qh,YI rf.Qb,.map (some 1)]] [.map (mapA Q3 es) es.length] (eX rf es) (mI rf es) (mJ rf es)
theorem QaD(rf:Qc)(es:List (F4×F4))(hr:X4 rf=true)(he:Uf rf es)(hb:(Xg rf).1=true):WriC YP J0 65 #[.agg #[Qk 0 (Xp rf.Qa),YI rf.Qh,YI rf.Qb,.map (some 1)]] [.map (mapA Q3 es) es.length] (eX rf es) (mI rf es) (mJ rf es):=by
 have h:=OP rf es hr he;have e:eV rf es=eX rf es:=by unfold eV;rw[hb];rfl
 rw[e]at h;exact h
def S3(rf:Qc):Qm:=[(1,Obj.cells #[Qk 0 (Xp rf.Qa),YI rf.Qh,YI rf.Qb] 24),(0,Obj.coro none)]
def bY(rf:Qc):CF:=⟨63,ofList 6 [.agg #[Qk 0 (Xp rf.Qa),YI rf.Qh,YI rf.Qb]],[Item.code (Q8 YP 63)],[],.run,none⟩
theorem DL(B:Lo)(rf:Qc):CE.finK 2 (Qn YP (Q0 YP) J0 B 6 2 (bY rf) (S3 rf) 2
 [] 0 [] []) [] [(4,KS.same)] []=some (OO.ret (.agg #[Qk 0 (Xp rf.Qa),YI rf.Qh,YI rf.Qb,Value.map (some 3)]),[],[Obj.map #[] 0],
 [QT #[]]):=by kernel_rfl
theorem DK(B:Lo)(rf:Qc):let g:=rf.Qh;let e:=rf.Qb;let c:=rf.Qa;let f:=Ld c;let d:=Qe Qt c;let b:=OO.ret (.agg #[Qk 0 (Xo f d),YI g,YI e,Value.map (some 3)]);let a:=QR rf (Prod.snd (Xg rf));let i:=X7 a;let h:=YI (Xk rf a);Xv (Qn YP (Q0 YP) J0 B 18 1 (Qu YP 37 22 (([.agg (Q1 rf).toArray]).map (Q4 0 4))) Zd 1
 [(5,Qf.pure (.bool true) []),(8,Qf.call (Le 2) b ([]++(2,QV)::QL 3 [Obj.map #[] 0]) 4 []),(9,Qf.wri [3] [0] [true] [] (eX rf []) (mI rf []) (mJ rf [])),(19,Qf.pure i []),(21,Qf.pure h [])] 0 [] []) []=some (.tuple #[X7 a,YI (Xk rf a),YI 0],
 [Qz []/\Qv YP J0 67 #[.agg #[Xo f d,YI g,YI e,YI (a.getD 0 0),YI (a.getD 1 0),YI (a.getD 2 0),YI (a.getD 3 0)]] h,Qz []/\Qv YP J0 66 #[.agg #[Xo f d,YI g,YI e,YI (a.getD 0 0),YI (a.getD 1 0),YI (a.getD 2 0),YI (a.getD 3 0)]] i,Qz [QT (mapA Q3 []),QT (mapA Q3 (Prod.fst (VP rf [])))]/\HH (rf) ([]),FJ YP B (bY rf) (S3 rf) 2 b (([]++((2,QV)::QL (2+1) [Obj.map #[] 0]))++S3 rf) 4 (Le 2) [],Qz []/\Qv YP J0 50 #[.agg #[Xo f d,YI g,YI e]] (.bool true)]):=by intro g e c f d b a i h;kernel_rfl
set_option maxHeartbeats 4000000 in
theorem HS(rf:Qc)(WG:Zo rf=true)(hb:(Xg rf).1=true){B:Lo}(hJ:∀w,B.has w->J0 w):EndsT YP B (Qu YP 37 22 (([.agg (Q1 rf).toArray]).map (Q4 0 4))) (.tuple #[X7 (QR rf (Xg rf).2),YI (Xk rf (QR rf (Xg rf).2)),YI 0]):=by
 have Rl:=Ys WG;have Zi:=Q2 (Zm WG).1;have UQ:=yv (rf:=rf);have T5:=mQ (rf:=rf) (n:=(Xg rf).2) Zi.2.2;have hgi:=s9 Rl (Xg rf).2;have hln:((QR rf (Xg rf).2).length:Int)=rf.Qb:=by rw[QR,Xa];omega
 cases q0:Zo rf with
 |true=>
  have rj0:FJ YP B (bY rf) (S3 rf) 2 (OO.ret (.agg #[Qk 0 (Xp rf.Qa),YI rf.Qh,YI rf.Qb,Value.map (some 3)])) (([]++((2,QV)::QL (2+1) [Obj.map #[] 0]))++S3 rf) 4 (Le 2) []:=by
   exact FinK.fjB (GoE.fK ((GoE.refl (P:=YP) (B:=B) (c0:=bY rf) uA).widen (Wf:=((([]):List (Nat×KS)).map (·.1))) (by simp) wO) (DL B rf)
    ⟨(by(intro i e he;simp at he;done)),trivial⟩) (ex:=[]) (by kernel_rfl) (Zb _)
  exact(GoE.eT GoE.start (DK B rf)
   ⟨⟨trivial,H7 (rf) (QR rf (Prod.snd (Xg rf))) ‹_› (by omega) ‹_› ‹_›⟩,⟨⟨trivial,QbF (rf) (QR rf (Prod.snd (Xg rf))) (by omega) ‹_›⟩,⟨⟨⟨(QH (fun _=>by kernel_rfl)),⟨(QH (fun _=>by kernel_rfl)),trivial⟩⟩,QaD (rf) ([]) ‹_› ‹_› ‹_›⟩,⟨rj0,⟨⟨trivial,(dB (sk (rf)) q0)⟩,trivial⟩⟩⟩⟩⟩).cR
 |false=>
  exfalso
  (exact Bool.noConfusion (WG.symm.trans ‹Zo rf=false›))
theorem QaN(rf:Qc)(WG:Zo rf=true)(hb:(Xg rf).1=true):Qv YP J0 37 #[.agg (Q1 rf).toArray] (.tuple #[X7 (QR rf (Xg rf).2),YI (Xk rf (QR rf (Xg rf).2)),YI 0]):=
 Xd (ts:=[.agg (Q1 rf).toArray]) Zc (c0:=Qu YP 37 22 (([.agg (Q1 rf).toArray]).map (Q4 0 4))) (by kernel_rfl) (by kernel_rfl) fun B hJ=>HS rf WG hb hJ
def eY(rf:Qc)(es:List (F4×F4)):OO:=.ret (.tuple #[.agg #[.slice none 0 0,YI 0,YI 0,YI 0,YI 0,YI 0,YI 0],.bool false])
def mK(rf:Qc)(es:List (F4×F4)):List Obj:=[.map (mapA Q3 (VP rf es).1) (VP rf es).1.length]
def mL(rf:Qc)(es:List (F4×F4)):List Obj:=[]
def HI(rf:Qc)(es:List (F4×F4)):Prop:=WriC YP J0 65 #[.agg #[Qk 0 (Xp rf.Qa),YI rf.Qh,YI rf.Qb,.map (some 1)]] [.map (mapA Q3 es) es.length] (eY rf es) (mK rf es) (mL rf es)
theorem QaE(rf:Qc)(es:List (F4×F4))(hr:X4 rf=true)(he:Uf rf es)(hb:(Xg rf).1=false):WriC YP J0 65 #[.agg #[Qk 0 (Xp rf.Qa),YI rf.Qh,YI rf.Qb,.map (some 1)]] [.map (mapA Q3 es) es.length] (eY rf es) (mK rf es) (mL rf es):=by
 have h:=OP rf es hr he;have e:eV rf es=eY rf es:=by unfold eV;rw[hb];rfl
 rw[e]at h;exact h
def S4(rf:Qc):Qm:=[(1,Obj.cells #[Qk 0 (Xp rf.Qa),YI rf.Qh,YI rf.Qb] 24),(0,Obj.coro none)]
def bZ(rf:Qc):CF:=⟨63,ofList 6 [.agg #[Qk 0 (Xp rf.Qa),YI rf.Qh,YI rf.Qb]],[Item.code (Q8 YP 63)],[],.run,none⟩
theorem DO(B:Lo)(rf:Qc):CE.finK 2 (Qn YP (Q0 YP) J0 B 6 2 (bZ rf) (S4 rf) 2
 [] 0 [] []) [] [(4,KS.same)] []=some (OO.ret (.agg #[Qk 0 (Xp rf.Qa),YI rf.Qh,YI rf.Qb,Value.map (some 3)]),[],[Obj.map #[] 0],
 [QT #[]]):=by kernel_rfl
theorem DN(B:Lo)(rf:Qc):let b:=rf.Qa;let a:=OO.ret (.agg #[Qk 0 (Xo b.length (Qe Qt b)),YI rf.Qh,YI rf.Qb,Value.map (some 3)]);Xv (Qn YP (Q0 YP) J0 B 17 1 (Qu YP 37 22 (([.agg (Q1 rf).toArray]).map (Q4 0 4))) Zd 1
 [(5,Qf.pure (.bool true) []),(8,Qf.call (Le 2) a ([]++(2,QV)::QL 3 [Obj.map #[] 0]) 4 []),(9,Qf.wri [3] [0] [true] [] (eY rf []) (mK rf []) (mL rf []))] 0 [] []) []=some (.tuple #[Xo 0 #[],YI 0,YI 5],
 [Qz [QT (mapA Q3 []),QT (mapA Q3 (Prod.fst (VP rf [])))]/\HI (rf) ([]),FJ YP B (bZ rf) (S4 rf) 2 a (([]++((2,QV)::QL (2+1) [Obj.map #[] 0]))++S4 rf) 4 (Le 2) [],Qz []/\Qv YP J0 50 #[.agg #[Xo b.length (Qe Qt b),YI rf.Qh,YI rf.Qb]] (.bool true)]):=by intro b a;kernel_rfl
set_option maxHeartbeats 4000000 in
theorem HU(rf:Qc)(WG:Zo rf=true)(hb:(Xg rf).1=false){B:Lo}(hJ:∀w,B.has w->J0 w):EndsT YP B (Qu YP 37 22 (([.agg (Q1 rf).toArray]).map (Q4 0 4))) (.tuple #[X7 [],YI 0,YI 5]):=by
 have Rl:=Ys WG;have Zi:=Q2 (Zm WG).1;have UQ:=yv (rf:=rf);cases q0:Zo rf with
 |true=>
  have rj0:FJ YP B (bZ rf) (S4 rf) 2 (OO.ret (.agg #[Qk 0 (Xp rf.Qa),YI rf.Qh,YI rf.Qb,Value.map (some 3)])) (([]++((2,QV)::QL (2+1) [Obj.map #[] 0]))++S4 rf) 4 (Le 2) []:=by
   exact FinK.fjB (GoE.fK ((GoE.refl (P:=YP) (B:=B) (c0:=bZ rf) uA).widen (Wf:=((([]):List (Nat×KS)).map (·.1))) (by simp) wO) (DO B rf)
    ⟨(by(intro i e he;simp at he;done)),trivial⟩) (ex:=[]) (by kernel_rfl) (Zb _)
  exact(GoE.eT GoE.start (DN B rf)
   ⟨⟨⟨(QH (fun _=>by kernel_rfl)),⟨(QH (fun _=>by kernel_rfl)),trivial⟩⟩,QaE (rf) ([]) ‹_› ‹_› ‹_›⟩,⟨rj0,⟨⟨trivial,(dB (sk (rf)) q0)⟩,trivial⟩⟩⟩).cR
 |false=>
  exfalso
  (exact Bool.noConfusion (WG.symm.trans ‹Zo rf=false›))
theorem QaP(rf:Qc)(WG:Zo rf=true)(hb:(Xg rf).1=false):Qv YP J0 37 #[.agg (Q1 rf).toArray] (.tuple #[X7 [],YI 0,YI 5]):=
 Xd (ts:=[.agg (Q1 rf).toArray]) Zc (c0:=Qu YP 37 22 (([.agg (Q1 rf).toArray]).map (Q4 0 4))) (by kernel_rfl) (by kernel_rfl) fun B hJ=>HU rf WG hb hJ
theorem DM(B:Lo)(rf:Qc):Xv (Qn YP (Q0 YP) J0 B 10 1 (Qu YP 37 22 (([.agg (Q1 rf).toArray]).map (Q4 0 4))) Zd 1
 [(5,Qf.pure (.bool false) [])] 0 [] []) []=some (.tuple #[Xo 0 #[],YI 0,YI 2],
 [Qz []/\Qv YP J0 50 #[.agg #[Xp rf.Qa,YI rf.Qh,YI rf.Qb]] (.bool false)]):=by kernel_rfl
set_option maxHeartbeats 4000000 in
theorem HT(rf:Qc)(WG:Zo rf=false){B:Lo}(hJ:∀w,B.has w->J0 w):EndsT YP B (Qu YP 37 22 (([.agg (Q1 rf).toArray]).map (Q4 0 4))) (.tuple #[X7 [],YI 0,YI 2]):=by
 cases q0:Zo rf with
 |true=>
  exfalso
  (exact Bool.noConfusion (WG.symm.trans ‹Zo rf=true›))
 |false=>
  exact(GoE.eT GoE.start (DM B rf)
   ⟨⟨trivial,(dB (sk (rf)) q0)⟩,trivial⟩).cR
theorem QaO(rf:Qc)(WG:Zo rf=false):Qv YP J0 37 #[.agg (Q1 rf).toArray] (.tuple #[X7 [],YI 0,YI 2]):=
 Xd (ts:=[.agg (Q1 rf).toArray]) Zc (c0:=Qu YP 37 22 (([.agg (Q1 rf).toArray]).map (Q4 0 4))) (by kernel_rfl) (by kernel_rfl) fun B hJ=>HT rf WG hJ
theorem HV(rf:Qc):Qv YP J0 37 #[.agg (Q1 rf).toArray] (.tuple #[if Zo rf && (Xg rf).1 then X7 (QR rf (Xg rf).2)else X7 [],YI (if Zo rf && (Xg rf).1 then Xk rf (QR rf (Xg rf).2)else 0),YI (if Zo rf then(if(Xg rf).1 then 0 else 5)else 2)]):=by
 cases h:Zo rf with
 |false=>exact QaO rf h
 |true=>
  cases hb:(Xg rf).1 with
  |true=>exact QaN rf h hb
  |false=>exact QaP rf h hb
end
end Go.Proofs.Ytncjjangllkokaa

namespace Go.Proofs.Ytncjjangllkokaa
open Go Go.CE Go.RowKit
def I3(f g:F4):Prop:=∀j:Int,0<=j->j<4->f.at j<=g.at j
def leN(n:Nat)(xs ys:List Int):Prop:=∀k:Int,0<=k->k<n->nth xs k<=nth ys k
theorem dr{a:Int}(h:0<=a):a.tdiv 1000=a / 1000:=L4 h
theorem Ar{room x y g g':Int}(x0:0<=x)(xy:x<=y)(g0:0<=g)(gg:g<=g'):x+Wg room x g<=y+Wg room y g':=by
 have h0:0<=x*g:=Int.mul_nonneg x0 g0;have h1:x*g<=y*g':=Int.mul_le_mul xy gg g0 (by omega);have e1:=dr h0;have e2:=dr (a:=y*g') (by omega);unfold Wg;rw[e1,e2];have hd:x*g / 1000<=y*g' / 1000:=Int.ediv_le_ediv (by omega) h1;have hn:0<=x*g / 1000:=Int.ediv_nonneg h0 (by omega);split <;> split <;> (try split) <;> (try split) <;> omega
theorem Oq{gs gs':List Int}{ps:List Qd}{f f':F4}(hg:Ky ps.length gs 2000)(hgg:leN ps.length gs gs')(hf:PW f)(hff:I3 f f'):I3 (Vb gs ps f) (Vb gs' ps f'):=fun j j0 j1=>by
 unfold Vb;rw[Kk j0 j1,Kk j0 j1];unfold X6 ZN;have h:=hff j j0 j1;split
 ·rename_i hj;have a:=hg.2 j j0 hj;have b:=hgg j j0 hj;have c:=(ZC hf j0 j1).1;exact Ar c h a.1 b
 ·exact h
theorem r3{x y d:Int}(x0:0<=x)(xy:x<=y)(d0:0<=d)(d1:d<=1000):(x*d).tdiv 1000<=(y*d).tdiv 1000/\x-(x*d).tdiv 1000<=y-(y*d).tdiv 1000:=by
 have h0:0<=x*d:=Int.mul_nonneg x0 d0;have h1:x*d<=y*d:=Int.mul_le_mul_of_nonneg_right xy d0;have h2:(y-x)*d<=(y-x)*1000:=Int.mul_le_mul_of_nonneg_left d1 (by omega);have h3:(y-x)*d=y*d-x*d:=Int.sub_mul ..;rw[dr h0,dr (a:=y*d) (by omega)];omega
theorem O1{ps:List Qd}{b b':F4}(hp:Jy ps)(hf:PW b)(h:I3 b b'):I3 (cl ps b) (cl ps b'):=fun j j0 j1=>by
 have h4:=hp.1;unfold cl;rw[Kk j0 j1,Kk j0 j1];unfold Wp;have hs:Xj 0 ps.length (fun m=>if(YD ps m).Xw=j then Wn ps b m else 0)<=Xj 0 ps.length (fun m=>if(YD ps m).Xw=j then Wn ps b' m else 0):=AU ps.length fun m m0 m1=>by
  have hd:=(hp.2 m m0 m1).2.1;have:=(r3 (ZC hf m0 (by omega)).1 (h m m0 (by omega)) hd.1 hd.2).1;show(if(YD ps m).Xw=j then Wn ps b m else 0)<=(if(YD ps m).Xw=j then Wn ps b' m else 0)
  unfold Wn;split <;> omega
 have hj:=h j j0 j1;split
 ·rename_i hn;have hd:=(hp.2 j j0 hn).2.1;have:b.at j-Wn ps b j<=b'.at j-Wn ps b' j:=(r3 (ZC hf j0 j1).1 hj hd.1 hd.2).2;omega
 ·omega
theorem M1{ts ts':List Int}{ps:List Qd}{b b':F4}(ht:leN ps.length ts' ts)(h:I3 b b'):I3 (Ez ts ps b) (Ez ts' ps b'):=fun j j0 j1=>by
 unfold Ez;rw[Kk j0 j1,Kk j0 j1];unfold J6 Za;have hj:=h j j0 j1;split
 ·rename_i hn;have:=ht j j0 hn;split <;> split <;> omega
 ·exact hj
theorem Dx{gs gs' ts ts':List Int}{ps:List Qd}{f f':F4}(hp:Jy ps)(hg:Ky ps.length gs 2000)(hgg:leN ps.length gs gs')(ht:leN ps.length ts' ts)(hf:PW f)(hs:f.sum<=10000000000)(hff:I3 f f'):I3 (XT gs ts ps f) (XT gs' ts' ps f'):=
 M1 ht (O1 hp (oB hp hg hf hs) (Oq hg hgg hf hff))
theorem AV{ps:List Qd}{n:Int}{gs gs' ts ts':List (List Int)}{f f':F4}(h:OkT ps n gs ts f)(hgg:∀k:Nat,k<n->leN ps.length (gs.getD k La) (gs'.getD k La))(htt:∀k:Nat,k<n->leN ps.length (ts'.getD k La) (ts.getD k La))(hff:I3 f f'):∀k:Nat,k<=n->I3 (Z5 ps gs ts f k) (Z5 ps gs' ts' f' k)
 |0,_=>hff
 |k+1,hk=>by
  have h4:=h.s4;have h9:=h.hs;have XZ:=h.st k (by omega);have:=XZ.2;exact Dx h.hp (h.rg k (by omega)) (hgg k (by omega)) (htt k (by omega)) XZ.1 (by omega) (AV h hgg htt hff k (by omega))
end Go.Proofs.Ytncjjangllkokaa

namespace Go.Proofs.Ytncjjangllkokaa
open Go Go.CE Go.RowKit
theorem ab{f:F4}{ps:List Qd}:∀(n:Nat) (i:Int),0<=i->(ps.length-i).toNat=n->
 ((Xt f (ps.drop i.toNat) i).1=true->i<=(Xt f (ps.drop i.toNat) i).2.1/\(Xt f (ps.drop i.toNat) i).2.1<ps.length/\0<(Xt f (ps.drop i.toNat) i).2.2/\(Xt f (ps.drop i.toNat) i).2.2=(YD ps (Xt f (ps.drop i.toNat) i).2.1).goal-f.at (Xt f (ps.drop i.toNat) i).2.1/\∀k,i<=k->k<(Xt f (ps.drop i.toNat) i).2.1->(YD ps k).goal<=f.at k)/\
 ((Xt f (ps.drop i.toNat) i).1=false->∀k,i<=k->k<ps.length->(YD ps k).goal<=f.at k)
 |0,i,h0,hn=>by
  rw[cB (l:=ps) (i:=i) (by omega)];exact⟨fun h=>Bool.noConfusion h,fun _ k k0 k1=>by omega⟩
 |n+1,i,h0,hn=>by
  have ih:=ab (f:=f) (ps:=ps) n (i+1) (by omega) (by omega);rw[WO (l:=ps) h0 (by omega)];by_cases hd:0<(ps.getD i.toNat La).goal-f.at i
  ·rw[decide_eq_true hd,cond_true];exact⟨fun _=>⟨LH _,(show i<ps.length by omega),hd,rfl,fun k k0 k1=>by simp only at k1;omega⟩,fun h=>Bool.noConfusion h⟩
  ·rw[decide_eq_false hd,cond_false];have hi:(YD ps i).goal<=f.at i:=by show(ps.getD i.toNat La).goal<=_;omega
   refine⟨fun h=> ?_,fun h k k0 k1=> ?_⟩
   ·obtain⟨a,b,c,d,e⟩:=ih.1 h;refine⟨by omega,b,c,d,fun k k0 k1=> ?_⟩;by_cases ek:k=i
    ·subst ek;exact hi
    ·exact e k (by omega) k1
   ·by_cases ek:k=i
    ·subst ek;exact hi
    ·exact ih.2 h k (by omega) k1
theorem BP{rf:Qc}{plan:List Int}(h:(X5 rf plan).1=true):0<=(X5 rf plan).2.1/\(X5 rf plan).2.1<rf.Qa.length/\0<(X5 rf plan).2.2/\(X5 rf plan).2.2=(YD rf.Qa (X5 rf plan).2.1).goal-(QM rf plan rf.Qb.toNat).at (X5 rf plan).2.1/\∀k:Int,0<=k->k<(X5 rf plan).2.1->(YD rf.Qa k).goal<=(QM rf plan rf.Qb.toNat).at k:=
 (ab (f:=QM rf plan rf.Qb.toNat) (ps:=rf.Qa) _ 0 (LH _) rfl).1 h
theorem EJ{rf:Qc}{plan:List Int}(h:(X5 rf plan).1=false):∀k:Int,0<=k->k<rf.Qa.length->(YD rf.Qa k).goal<=(QM rf plan rf.Qb.toNat).at k:=
 (ab (f:=QM rf plan rf.Qb.toNat) (ps:=rf.Qa) _ 0 (LH _) rfl).2 h
end Go.Proofs.Ytncjjangllkokaa

namespace Go.Proofs.Ytncjjangllkokaa
open Go Go.CE Go.RowKit
def po(b:Nat):List Int->Nat
 |[]=>0
 |x::l=>x.toNat*b ^ l.length+po b l
def PJ(b:Nat):Nat->Nat->List Int
 |0,_=>[]
 |s+1,n=>((n / b ^ s % b:Nat):Int)::PJ b s n
theorem gh{b:Nat}:∀{s n:Nat},(PJ b s n).length=s
 |0,_=>rfl
 |s+1,n=>by rw[PJ,Lr,gh]
theorem y3{b:Nat}:∀{s n j:Nat},j<s->(PJ b s n)[j]? =some ((n / b ^ (s-1-j) % b:Nat):Int)
 |s+1,n,0,_=>rfl
 |s+1,n,j+1,h=>by
  rw[PJ,List.getElem?_cons_succ,y3 (by omega),show s+1-1-(j+1)=s-1-j by omega]
theorem y4{b:Nat}(hb:0<b):∀{s a n:Nat},PJ b s (a*b ^ s+n)=PJ b s n
 |0,_,_=>rfl
 |s+1,a,n=>by
  have e:a*b ^ (s+1)+n=n+a*b*b ^ s:=by rw[Nat.pow_succ,Nat.mul_assoc,Nat.mul_comm (b ^ s) b,Nat.add_comm]
  have e2:a*b ^ (s+1)+n=a*b*b ^ s+n:=by rw[e,Nat.add_comm]
  unfold PJ;congr 1
  ·rw[e,Nat.add_mul_div_right _ _ (Nat.pow_pos hb),Nat.add_mul_mod_self_right]
  ·rw[e2,y4 hb]
theorem yO{b:Nat}:∀{l:List Int},(∀x∈l,0<=x/\x<b)->po b l<b ^ l.length
 |[],_=>by simp[po]
 |x::l,h=>by
  have ih:=yO (l:=l) fun y hy=>h y (Lj _ hy)
  have hx:=h x (List.mem_cons_self ..);have h1:(x.toNat+1)*b ^ l.length<=b*b ^ l.length:=Nat.mul_le_mul_right _ (by omega);rw[Nat.add_mul,Nat.one_mul]at h1;rw[po,Lr,Nat.pow_succ,Nat.mul_comm (b ^ l.length) b];omega
theorem B1{b:Nat}(hb:0<b):∀{l:List Int},(∀x∈l,0<=x/\x<b)->PJ b l.length (po b l)=l
 |[],_=>rfl
 |x::l,h=>by
  have ih:=B1 hb (l:=l) fun y hy=>h y (Lj _ hy)
  have hv:=yO (l:=l) fun y hy=>h y (Lj _ hy)
  have hx:=h x (List.mem_cons_self ..);rw[Lr,po,PJ,y4 hb,ih];congr 1;rw[Nat.add_comm,Nat.add_mul_div_right _ _ (Nat.pow_pos hb),Nat.div_eq_of_lt hv,Lv,Nat.mod_eq_of_lt (by omega)];omega
abbrev base(rf:Qc):Nat:=2 ^ rf.Qa.length
theorem Ym{rf:Qc}:0<base rf:=Nat.two_pow_pos _
theorem NN{rf:Qc}{n s:Int}:cu rf n s=((n.toNat / 2 ^ ((rf.Qa.length:Int)*(rf.Qb-1-s)).toNat % base rf:Nat):Int):=by
 unfold cu VH ZT XR;rw[LR,Nat.shiftRight_eq_div_pow,LR,show(((2 ^ rf.Qa.length:Nat):Int)-1).toNat=2 ^ rf.Qa.length-1 by have:=Nat.two_pow_pos rf.Qa.length;omega,Nat.and_two_pow_sub_one_eq_mod]
theorem qW{rf:Qc}{n:Int}(hs:1<=rf.Qb):QR rf n=PJ (base rf) rf.Qb.toNat n.toNat:=by
 refine List.ext_getElem? fun k=> ?_
 by_cases hk:k<rf.Qb.toNat
 ·rw[QR,Pe hk,y3 hk,NN];have e:((rf.Qa.length:Int)*(rf.Qb-1-(k:Int))).toNat=rf.Qa.length*(rf.Qb.toNat-1-k):=by
   rw[show rf.Qb-1-(k:Int)=((rf.Qb.toNat-1-k:Nat):Int)by omega,<-Int.natCast_mul,LR]
  rw[e,Nat.pow_mul]
 ·rw[LA (by rw[QR,Xa];omega),LA (by rw[gh];omega)]
theorem bL{rf:Qc}(hs:1<=rf.Qb):QG rf=((base rf ^ rf.Qb.toNat:Nat):Int):=by
 unfold QG XR base;rw[<-Nat.pow_mul];have e:((rf.Qa.length:Int)*rf.Qb).toNat=rf.Qa.length*rf.Qb.toNat:=by
  rw[show rf.Qb=((rf.Qb.toNat:Nat):Int)by omega,<-Int.natCast_mul,LR,LR]
 rw[e]
theorem qx{rf:Qc}{pl:List Int}(h:XJ rf pl=true):∀x∈pl,0<=x/\x<(base rf:Int):=fun x hx=>by
 have:=(Xz h).2 x hx;unfold XR at this;exact this
def numOf(rf:Qc)(pl:List Int):Int:=((po (base rf) pl:Nat):Int)
theorem QbM{rf:Qc}{pl:List Int}(hs:1<=rf.Qb)(h:XJ rf pl=true):0<=numOf rf pl/\numOf rf pl<QG rf:=by
 have hl:=(Xz h).1;have:=yO (qx h);rw[bL hs,<-show pl.length=rf.Qb.toNat by omega];unfold numOf;omega
theorem NM{rf:Qc}{pl:List Int}(hs:1<=rf.Qb)(h:XJ rf pl=true):QR rf (numOf rf pl)=pl:=by
 have hl:=(Xz h).1;rw[qW hs,<-show pl.length=rf.Qb.toNat by omega];unfold numOf;rw[LR];exact B1 Ym (qx h)
def Qag(rf:Qc)(i:Int)(r:Bool×Int):Prop:=
 (r.1=true->(X5 rf (QR rf r.2)).1=false/\0<=r.2/\r.2<i/\∀j:Int,0<=j->j<i->(X5 rf (QR rf j)).1=false->Xk rf (QR rf r.2)<Xk rf (QR rf j)\/Xk rf (QR rf r.2)=Xk rf (QR rf j)/\r.2<=j)/\
 (r.1=false->∀j:Int,0<=j->j<i->(X5 rf (QR rf j)).1=true)
theorem TD{rf:Qc}:∀(n:Nat) (i:Int) (b:Bool) (k:Int),0<=i->Qag rf i (b,k)->Qag rf (i+n) (TL rf n i b k)
 |0,i,b,k,_,h=>by rw[show i+((0:Nat):Int)=i by omega];exact h
 |n+1,i,b,k,h0,h=>by
  unfold TL;rw[show i+((n+1:Nat):Int)=(i+1)+(n:Int)by omega];cases hc:(b && decide (Xk rf (QR rf k)<=Xk rf (QR rf i)))with
  |true=>
   rw[cond_true];simp only[YB,decide_eq_true_iff]at hc;refine TD n (i+1) b k (by omega) ⟨fun hb=> ?_,fun hb=> ?_⟩
   ·obtain⟨a1,a2,a3,a4⟩:=h.1 hb;refine⟨a1,a2,by simp only at a3 ⊢;omega,fun j j0 j1 hj=> ?_⟩;by_cases e:j=i
    ·subst e;simp only at a3 ⊢;omega
    ·exact a4 j j0 (by omega) hj
   ·simp only at hb;rw[hb]at hc;cases hc.1
  |false=>
   rw[cond_false];have hn:b=false\/Xk rf (QR rf i)<Xk rf (QR rf k):=by
    cases b with
    |false=>exact .inl rfl
    |true=>
     simp only[Bool.true_and,decide_eq_false_iff_not]at hc;exact .inr (by omega)
   cases hq:(X5 rf (QR rf i)).1 with
   |true=>
    rw[cond_true];refine TD n (i+1) b k (by omega) ⟨fun hb=> ?_,fun hb=>fun j j0 j1=> ?_⟩
    ·obtain⟨a1,a2,a3,a4⟩:=h.1 hb;refine⟨a1,a2,by simp only at a3 ⊢;omega,fun j j0 j1 hj=> ?_⟩;by_cases e:j=i
     ·subst e;rw[hq]at hj;cases hj
     ·exact a4 j j0 (by omega) hj
    ·by_cases e:j=i
     ·subst e;exact hq
     ·exact h.2 hb j j0 (by omega)
   |false=>
    rw[cond_false];refine TD n (i+1) true i (by omega) ⟨fun _=>⟨hq,h0,by simp only;omega,fun j j0 j1 hj=> ?_⟩,fun hb=>by cases hb⟩;by_cases e:j=i
    ·subst e;exact .inr ⟨rfl,LH _⟩
    ·rcases hn with rfl|hn
     ·have:=h.2 rfl j j0 (by omega);rw[this]at hj;cases hj
     ·cases b with
      |false=>have:=h.2 rfl j j0 (by omega);rw[this]at hj;cases hj
      |true=>
       have:=(h.1 rfl).2.2.2 j j0 (by omega) hj;simp only at this ⊢;omega
theorem ue{b:Nat}(hb:0<b):∀n:Nat,po b (Lu n ((b-1:Nat):Int))=b ^ n-1
 |0=>by simp[po]
 |n+1=>by
  rw[List.replicate_succ,po,ue hb n,LN,LR,Nat.pow_succ,Nat.mul_comm (b ^ n) b,Nat.sub_mul,Nat.one_mul];have h1:=Nat.pow_pos (n:=n) hb;have h2:b ^ n<=b*b ^ n:=Nat.le_mul_of_pos_left _ hb;omega
theorem DZ{rf:Qc}(hs:1<=rf.Qb):QR rf (QG rf-1)=Lu rf.Qb.toNat ((base rf-1:Nat):Int):=by
 have hb:=Ym (rf:=rf);have hp:XJ rf (Lu rf.Qb.toNat ((base rf-1:Nat):Int))=true:=by
  simp only[XJ,YB,decide_eq_true_iff,List.all_eq_true,Rk,LN];refine⟨by omega,fun x hx=> ?_⟩;rw[(List.mem_replicate.1 hx).2];show 0<=((base rf-1:Nat):Int)/\((base rf-1:Nat):Int)<=((base rf:Nat):Int)-1;omega
 have h:=NM hs hp;have e:numOf rf (Lu rf.Qb.toNat ((base rf-1:Nat):Int))=QG rf-1:=by
  unfold numOf;rw[ue hb,bL hs];have:=Nat.pow_pos (n:=rf.Qb.toNat) hb;omega
 rw[e]at h;exact h
theorem I6{rf:Qc}{j:Int}(h0:0<=j)(h1:j<rf.Qa.length):hasB ((base rf-1:Nat):Int) j=true:=by
 unfold hasB base;rw[LR,Nat.testBit_two_pow_sub_one];exact decide_eq_true (by omega)
theorem I5{rf:Qc}(hr:Zo rf=true){pl:List Int}(h:XJ rf pl=true){k:Nat}(hk:k<=rf.Qb):I3 (QM rf pl k) (QM rf (QR rf (QG rf-1)) k):=by
 have hw:=Ys hr;have hs:=Q2 (Zm hr).1;refine AV (sT pl hw) (fun s hs=>fun j a b=>LH _) (fun s hs1=>fun j a b=> ?_) (fun j a b=>LH _) k (by omega);have e1:(Vi rf pl).getD s La=SO rf (pl.getD ((s:Int)).toNat 0):=Xc (k:=(s:Int)) (by omega) hs1;have e2:(Vi rf (QR rf (QG rf-1))).getD s La=SO rf ((QR rf (QG rf-1)).getD ((s:Int)).toNat 0):=Xc (k:=(s:Int)) (by omega) hs1;rw[e1,e2,DZ hs.2.2.1];have e3:(Lu rf.Qb.toNat ((base rf-1:Nat):Int)).getD ((s:Int)).toNat 0=((base rf-1:Nat):Int):=by
  rw[Li,List.getElem?_replicate,if_pos (by omega)];rfl
 rw[e3];unfold SO;have hp:=vC ((Zm hr).2 j a b).1;rw[Tw a (by rw[V1];exact b),Tw a (by rw[V1];exact b),PY a b,PY a b];unfold Ul o9;rw[if_pos (I6 a b)];split
 ·exact LH _
 ·exact hp.2.2.2.2.2.2.2.2.2
theorem Am{rf:Qc}(hr:Zo rf=true)(hl:je rf=true){pl:List Int}(h:XJ rf pl=true):(X5 rf pl).1=true:=by
 have hs:=Q2 (Zm hr).1;have hy:=BP (rf:=rf) (plan:=QR rf (QG rf-1)) hl;cases hq:(X5 rf pl).1 with
 |true=>rfl
 |false=>
  have h1:=EJ hq _ hy.1 hy.2.1;have h2:=I5 hr h (k:=rf.Qb.toNat) (by omega) _ hy.1 (by omega);omega
end Go.Proofs.Ytncjjangllkokaa

namespace Go.Proofs.Ytncjjangllkokaa
open Go Go.CE Go.RowKit
noncomputable section
set_option maxRecDepth 100000
def PU(b s m:Nat):List RW:=(Le m).map fun n=>⟨s,PJ b s n⟩
theorem Hd{b s m:Nat}:PU b s (m+1)=PU b s m++[⟨s,PJ b s m⟩]:=by
 unfold PU;rw[List.range_succ,List.map_append];rfl
theorem JE{b s m:Nat}:(PU b s m).length=m:=by simp[PU]
theorem Nz{b s m k:Nat}(h:k<m):(PU b s m).getD k La=⟨s,PJ b s k⟩:=by
 simp[PU,Li,h]
theorem rh{b:Nat}(hb:0<b){k i:Nat}(hi:i<b):∀{s:Nat},PJ b (s+1) (k*b+i)=PJ b s k++[(i:Int)]
 |0=>by
  simp only[PJ,Nat.pow_zero,Nat.div_one,List.nil_append];rw[Nat.add_comm,Nat.add_mul_mod_self_right,Nat.mod_eq_of_lt hi]
 |s+1=>by
  rw[PJ,rh hb hi,PJ,List.cons_append];congr 3;rw[Nat.pow_succ,Nat.mul_comm (b ^ s) b,<-Nat.div_div_eq_div_mul,Nat.add_comm,Nat.add_mul_div_right _ _ hb,Nat.div_eq_of_lt hi,Lv]
theorem sj{b s m:Nat}{os:List RW}{k:Int}(h:os=PU b s m)(h0:0<=k)(h1:k<os.length):os.getD k.toNat La=⟨s,PJ b s k.toNat⟩:=by
 subst h;rw[JE]at h1;exact Nz (by omega)
theorem Hf{b s m:Nat}{os:List RW}{k:Int}(h:os=PU b s m)(h0:0<=k)(h1:k<os.length):(os.getD k.toNat La).n=s/\(os.getD k.toNat La).l.length=s:=by
 rw[sj h h0 h1];exact⟨rfl,gh⟩
theorem He{b s:Nat}{os:List RW}(hb:0<b)(h:os=PU b s (b ^ s)):(os.getD 0 La).n=s/\(os.getD 0 La).l.length=s:=by
 have:=Nat.pow_pos (n:=s) hb;exact Hf (k:=0) h (LH _) (by rw[h,JE];omega)
theorem lO{b s m:Nat}{os xs:List RW}{k i:Int}(hb:0<b)(ho:os=PU b s m)(hx:xs=PU b (s+1) (k.toNat*b+i.toNat))(k0:0<=k)(k1:k<os.length)(i0:0<=i)(i1:i<b):xs++[⟨(os.getD k.toNat La).n+1,(os.getD k.toNat La).l++[i]⟩]=PU b (s+1) (k.toNat*b+(i+1).toNat):=by
 rw[sj ho k0 k1,show k.toNat*b+(i+1).toNat=(k.toNat*b+i.toNat)+1 by omega,Hd,<-hx,rh hb (by omega),show((i.toNat:Nat):Int)=i by omega]
theorem qz{b s:Nat}{os:List RW}(hb:0<b)(ho:os=PU b s (b ^ s)):[⟨(os.getD 0 La).n+1,(os.getD 0 La).l++[0]⟩]=PU b (s+1) ((0:Int).toNat*b+(1:Int).toNat):=by
 have hp:=Nat.pow_pos (n:=s) hb;have h:=lO (xs:=[]) (k:=0) (i:=0) hb ho (by simp[PU]) (LH _) (by rw[ho,JE];omega) (LH _) (by omega);exact h
theorem CU{b s m:Nat}{os xs:List RW}{k i:Int}(hb:0<b)(ho:os=PU b s m)(hx:xs=PU b (s+1) (k.toNat*b+i.toNat))(k0:0<=k)(k1:k<os.length)(i0:0<=i)(i1:i<b)(hz:(os.getD k.toNat La).n=0):xs++[⟨1,[i]⟩]=PU b (s+1) (k.toNat*b+(i+1).toNat):=by
 have h:=lO hb ho hx k0 k1 i0 i1;have hs:s=0:=(Hf ho k0 k1).1.symm.trans hz;rw[sj ho k0 k1]at h;subst hs;exact h
theorem zx{b s:Nat}{os:List RW}(hb:0<b)(ho:os=PU b s (b ^ s))(hz:(os.getD 0 La).n=0):[⟨1,[0]⟩]=PU b (s+1) ((0:Int).toNat*b+(1:Int).toNat):=by
 have h:=qz hb ho;have hs:s=0:=(He hb ho).1.symm.trans hz;have e:os.getD 0 La=⟨0,[]⟩:=by
  have hp:=Nat.pow_pos (n:=s) hb;have:=sj (k:=0) ho (LH _) (by rw[ho,JE];omega);rw[show(0:Int).toNat=0 from rfl]at this;rw[this];subst hs;rfl
 rw[e]at h;exact h
theorem eD{rf:Qc}{s:Int}(hm:(rf.Qa.length:Int)*rf.Qb<=6)(h0:0<=s)(h1:s<=rf.Qb):base rf ^ s.toNat<=64:=by
 unfold base;rw[<-Nat.pow_mul];refine Nat.le_trans (Nat.pow_le_pow_right (by decide) (?_:rf.Qa.length*s.toNat<=6)) (by decide);have h2:(rf.Qa.length:Int)*s<=(rf.Qa.length:Int)*rf.Qb:=Int.mul_le_mul_of_nonneg_left h1 (by omega);have h3:((rf.Qa.length*s.toNat:Nat):Int)=(rf.Qa.length:Int)*s:=by rw[Int.natCast_mul,show((s.toNat:Nat):Int)=s by omega]
 omega
theorem Ny{b s:Nat}{k i:Int}(k0:0<=k)(h:i=b):PU b s (k.toNat*b+i.toNat)=PU b s ((k+1).toNat*b):=by
 rw[show(k+1).toNat=k.toNat+1 by omega,Nat.add_mul,Nat.one_mul,show i.toNat=b by omega]
theorem QaA{b n:Nat}{s k:Int}(s0:0<=s)(hn:n=b ^ s.toNat)(hk:k.toNat=n):PU b (s.toNat+1) (k.toNat*b)=PU b (s+1).toNat (b ^ (s+1).toNat):=by
 rw[show(s+1).toNat=s.toNat+1 by omega,Nat.pow_succ,hk,hn]
theorem Y9{rf:Qc}(hm:(rf.Qa.length:Int)*rf.Qb<=6)(hs:1<=rf.Qb):base rf<=64:=by
 have h:=eD (s:=1) hm (by omega) hs;rw[show base rf ^ (1:Int).toNat=base rf from Nat.pow_one _]at h;exact h
def UE(rf:Qc)(s k i:Int)(os xs:List RW)(on xn:Nat):List Value:=[pA 2 0,.slice (some ⟨3,0,none⟩) on 1,YI s,.slice (some ⟨4,0,none⟩) xn 1,YI k,YI i]
def VT(rf:Qc)(s k i:Int)(os xs:List RW)(on xn:Nat):List Obj:=[Obj.cells #[Qk 1 (Xp rf.Qa),YI rf.Qh,YI rf.Qb] 24,.cells (Qe (QY 1 QP) os) 25 (0,0),.cells (Qe (QY 1 QP) xs) 25 (0,0)]
def UF:List Item:=([.code [1,1,0,1,0,0,1,0,0,1,0,1,0,0,1,0,0,1,0,0],.inLoop [1,1,0,1,0,0,1,0,0,1,0,1,0,0,1,0,0,1,0,0],.inBlock 4,.inBlock 3,.code [1,1,0,1,0,0,1,0,0,1,0,1,0,0,1,1],.inLoop [1,1,0,1,0,0,1,0,0,1,0,1,0,0],.inBlock 2,.code [1,1,0,1,0,0,1,0,0,1,1],.inBlock 1,.code [1,1,0,1,0,0,1,1],.inLoop [1,1,0,1,0,0],.inBlock 0,.code [1,1,1]]).map (it (Q8 YP 68))
def C0(B:Lo)(c0:CF)(rf:Qc)(s k i:Int)(os xs:List RW)(on xn:Nat):Prop:=∃dJ:Nat->Value,(∀t,Xh (dJ t))/\GoE YP B c0 Zd 1 (QC 68 40 (([1,3,4,5,6,7]:List Nat).zip (UE rf s k i os xs on xn)) dJ UF) (Q9 (VT rf s k i os xs on xn)) (2+(VT rf s k i os xs on xn).length) []
def bz(rf:Qc)(s k:Int)(os xs:List RW)(on xn:Nat):List Value:=[pA 2 0,.slice (some ⟨3,0,none⟩) on 1,YI s,.slice (some ⟨4,0,none⟩) xn 1,YI k]
def RM(rf:Qc)(s k:Int)(os xs:List RW)(on xn:Nat):List Obj:=[Obj.cells #[Qk 1 (Xp rf.Qa),YI rf.Qh,YI rf.Qb] 24,.cells (Qe (QY 1 QP) os) 25 (0,0),.cells (Qe (QY 1 QP) xs) 25 (0,0)]
def b4:List Item:=([.code [1,1,0,1,0,0,1,0,0,1,0,1,0,0],.inLoop [1,1,0,1,0,0,1,0,0,1,0,1,0,0],.inBlock 2,.code [1,1,0,1,0,0,1,0,0,1,1],.inBlock 1,.code [1,1,0,1,0,0,1,1],.inLoop [1,1,0,1,0,0],.inBlock 0,.code [1,1,1]]).map (it (Q8 YP 68))
def Cz(B:Lo)(c0:CF)(rf:Qc)(s k:Int)(os xs:List RW)(on xn:Nat):Prop:=∃dJ:Nat->Value,(∀t,Xh (dJ t))/\GoE YP B c0 Zd 1 (QC 68 40 (([1,3,4,5,6]:List Nat).zip (bz rf s k os xs on xn)) dJ b4) (Q9 (RM rf s k os xs on xn)) (2+(RM rf s k os xs on xn).length) []
def JS(rf:Qc)(s:Int)(os:List RW)(on:Nat):List Value:=[pA 2 0,.slice (some ⟨3,0,none⟩) on 1,YI s]
def VS(rf:Qc)(s:Int)(os:List RW)(on:Nat):List Obj:=[Obj.cells #[Qk 1 (Xp rf.Qa),YI rf.Qh,YI rf.Qb] 24,.cells (Qe (QY 1 QP) os) 25 (0,0)]
def JT:List Item:=([.code [1,1,0,1,0,0],.inLoop [1,1,0,1,0,0],.inBlock 0,.code [1,1,1]]).map (it (Q8 YP 68))
def Cy(B:Lo)(c0:CF)(rf:Qc)(s:Int)(os:List RW)(on:Nat):Prop:=∃dJ:Nat->Value,(∀t,Xh (dJ t))/\GoE YP B c0 Zd 1 (QC 68 40 (([1,3,4]:List Nat).zip (JS rf s os on)) dJ JT) (Q9 (VS rf s os on)) (2+(VS rf s os on).length) []
def gQ(B:Lo)(rf:Qc)(s k i:Int)(os xs:List RW)(on xn:Nat)(Ql:Nat->Value):List Prop:=let a:=rf.Qa;[Qz []/\Qv YP J0 69 #[.agg #[Xo a.length (Qe Qt a),YI rf.Qh,YI rf.Qb]] (YI (↑(XR (↑a.length:Int)):Int))]++([]:List Prop)
def qc(rf:Qc)(s k i:Int)(os xs:List RW)(on xn:Nat)(Ql:Nat->Value):QA:=[(2,Qf.pure (YI (↑(XR (↑rf.Qa.length:Int)):Int)) [])]
def gP(B:Lo)(rf:Qc)(s k i:Int)(os xs:List RW)(on xn:Nat)(Ql:Nat->Value):List Prop:=let a:=os.getD k.toNat La;[(Qe (QY 1 QP) os)[0+Lb k*1]? =some (Qk 1 (Xo a.n (Qe Qy a.l))),k=(↑k.toNat:Int)/\Lb k<on,XB i (↑(XR (↑rf.Qa.length:Int)):Int)=true]++gQ B rf s k i os xs on xn Ql
def qb(rf:Qc)(s k i:Int)(os xs:List RW)(on xn:Nat)(Ql:Nat->Value):QA:=qc rf s k i os xs on xn Ql++[(3,Wj),(7,Qf.XO (Hint.idx k.toNat)),(8,Qf.XO (Hint.ld (Qk 1 (Xo (RW.n (os.getD k.toNat La)) (Qe Qy (RW.l (os.getD k.toNat La)))))))]
theorem Cw(B:Lo)(rf:Qc)(s k i:Int)(os xs:List RW)(on xn:Nat)(Ql:Nat->Value):let e:=VT rf s k i os xs on xn;let c:=xs++[{n:=1,l:=[i]}];let b:=some {block:=6,off:=0};let a:=QY 1 QP;let d:=Qe a xs++#[.slice b 1 1];landM (Qn YP (Q0 YP) J0 B 11 1 (QC 68 40 (([1,3,4,5,6,7]:List Nat).zip (UE rf s k i os xs on xn)) Ql UF) (Q9 e) (2+e.length)
 (qb rf s k i os xs on xn Ql++[(9,Qf.tapp0),(14,Qf.XO (Hint.app d)),(17,Zu (i+1))]) 0 [] []) [1,3,4,5,6,7] [(2,KS.auto),(3,KS.rows [(1,1)] [] [] (Qe a os)),(8,KS.rows [(1,1)] [6] [] (Qe a c))] [{k:=6,rs:=[],cs:=#[YI i]}]=some ⟨68,40,UF,[],.run,none,UE rf (s) (k) (i+1) (os) c (on) (xn+1),VT rf (s) (k) (i+1) (os) c (on) (xn+1),
 [QX 1 [(1,1)] [] [] (Qe a os) (Qe a os),QX 1 [(1,1)] [(6,Fz.cs {k:=6,rs:=[],cs:=#[YI i]})] [] d (Qe a c),X1 (Fz.rs {k:=6,rs:=[],cs:=#[YI i]}) #[YI i] (Fz.cs {k:=6,rs:=[],cs:=#[YI i]}),wq (i+1)=i+1,LQ (Qe a xs)=xn*(0+1)/\xn+1<=maxLen/\(xn+1)*24<=140737488355328/\Qe a xs++#[.slice b 1 1]=Qe a xs++#[.slice b 1 1],RW.n (os.getD k.toNat La)=0]++gP B rf s k i os xs on xn Ql⟩:=by intro e c b a d;kernel_rfl
theorem Cv(B:Lo)(rf:Qc)(s k i:Int)(os xs:List RW)(on xn:Nat)(Ql:Nat->Value):let j:=VT rf s k i os xs on xn;let e:=some {block:=7,off:=0};let c:=QY 1 QP;let a:=os.getD k.toNat La;let h:=a.n+1;let g:=Qe c xs++#[.slice e h 1];let f:=a.l++[i];let d:=Qe Qy a.l;let b:=xs++[{n:=a.n+1,l:=a.l++[i]}];landM (Qn YP (Q0 YP) J0 B 11 1 (QC 68 40 (([1,3,4,5,6,7]:List Nat).zip (UE rf s k i os xs on xn)) Ql UF) (Q9 j) (2+j.length)
 (qb rf s k i os xs on xn Ql++[(9,Qf.tapp d),(12,Qf.XO (Hint.app (Qe Qy f))),(14,Qf.XO (Hint.app g)),(17,Zu (i+1))]) 0 [] []) [1,3,4,5,6,7] [(2,KS.auto),(3,KS.rows [(1,1)] [] [] (Qe c os)),(9,KS.rows [(1,1)] [7] [] (Qe c b))] [{k:=7,rs:=[],cs:=Qe Qy f}]=some ⟨68,40,UF,[],.run,none,UE rf (s) (k) (i+1) (os) b (on) (xn+1),VT rf (s) (k) (i+1) (os) b (on) (xn+1),
 [QX 1 [(1,1)] [] [] (Qe c os) (Qe c os),QX 1 [(1,1)] [(7,Fz.cs {k:=7,rs:=[],cs:=Qe Qy f})] [] g (Qe c b),X1 (Fz.rs {k:=7,rs:=[],cs:=Qe Qy f}) (Qe Qy f) (Fz.cs {k:=7,rs:=[],cs:=Qe Qy f}),wq (i+1)=i+1,LQ (Qe c xs)=xn*(0+1)/\xn+1<=maxLen/\(xn+1)*24<=140737488355328/\Qe c xs++#[.slice e h 1]=Qe c xs++#[.slice e h 1],LQ d=a.n*(0+1)/\a.n+1<=maxLen/\h*8<=140737488355328/\Qe Qy a.l++#[YI i]=Qe Qy f,0<a.n/\a.n<=maxLen/\a.n*8<=140737488355328/\LQ d=a.n*(0+1)/\Array.map (Wb 1) d=Qe Qy a.l/\(Array.all d fun v=>simple v || WE v)=true/\ones d=true]++gP B rf s k i os xs on xn Ql⟩:=by intro j e c a h g f d b;kernel_rfl
theorem Cu(B:Lo)(rf:Qc)(s k i:Int)(os xs:List RW)(on xn:Nat)(Ql:Nat->Value):let b:=VT rf s k i os xs on xn;let a:=QY 1 QP;landM (Qn YP (Q0 YP) J0 B 8 1 (QC 68 40 (([1,3,4,5,6,7]:List Nat).zip (UE rf s k i os xs on xn)) Ql UF) (Q9 b) (2+b.length)
 (qc rf s k i os xs on xn Ql++[(3,WC),(5,Zu (k+1))]) 0 [] []) [1,3,4,5,6] [(2,KS.auto),(3,KS.rows [(1,1)] [] [] (Qe a os)),(4,KS.rows [(1,1)] [] [] (Qe a xs))] []=some ⟨68,40,b4,[],.run,none,bz rf (s) (k+1) (os) (xs) (on) (xn),RM rf (s) (k+1) (os) (xs) (on) (xn),
 [QX 1 [(1,1)] [] [] (Qe a os) (Qe a os),QX 1 [(1,1)] [] [] (Qe a xs) (Qe a xs),wq (k+1)=k+1,XB i (↑(XR (↑rf.Qa.length:Int)):Int)=false]++gQ B rf s k i os xs on xn Ql⟩:=by intro b a;kernel_rfl
theorem Ct(B:Lo)(rf:Qc)(s k:Int)(os xs:List RW)(on xn:Nat)(Ql:Nat->Value):let b:=RM rf s k os xs on xn;let a:=QY 1 QP;landM (Qn YP (Q0 YP) J0 B 11 1 (QC 68 40 (([1,3,4,5,6]:List Nat).zip (bz rf s k os xs on xn)) Ql b4) (Q9 b) (2+b.length)
 [(3,Wj)] 0 [] []) [1,3,4,5,6,7] [(2,KS.auto),(3,KS.rows [(1,1)] [] [] (Qe a os)),(4,KS.rows [(1,1)] [] [] (Qe a xs))] []=some ⟨68,40,UF,[],.run,none,UE rf (s) (k) (0) (os) (xs) (on) (xn),VT rf (s) (k) (0) (os) (xs) (on) (xn),
 [QX 1 [(1,1)] [] [] (Qe a os) (Qe a os),QX 1 [(1,1)] [] [] (Qe a xs) (Qe a xs),XB k (↑on:Int)=true]⟩:=by intro b a;kernel_rfl
theorem Cs(B:Lo)(rf:Qc)(s k:Int)(os xs:List RW)(on xn:Nat)(Ql:Nat->Value):let b:=RM rf s k os xs on xn;let a:=Qe (QY 1 QP) xs;landM (Qn YP (Q0 YP) J0 B 9 1 (QC 68 40 (([1,3,4,5,6]:List Nat).zip (bz rf s k os xs on xn)) Ql b4) (Q9 b) (2+b.length)
 [(3,WC),(7,Zu (s+1))] 0 [] []) [1,3,4] [(2,KS.auto),(4,KS.rows [(1,1)] [] [] a)] []=some ⟨68,40,JT,[],.run,none,JS rf (s+1) (xs) (xn),VS rf (s+1) (xs) (xn),
 [QX 1 [(1,1)] [] [] a a,wq (s+1)=s+1,XB k (↑on:Int)=false]⟩:=by intro b a;kernel_rfl
def qe(B:Lo)(rf:Qc)(s:Int)(os:List RW)(on:Nat)(Ql:Nat->Value):List Prop:=[XB s rf.Qb=true]++([]:List Prop)
def qa(rf:Qc)(s:Int)(os:List RW)(on:Nat)(Ql:Nat->Value):QA:=[(3,Wj),(9,Wj),(13,Qf.pure (YI (↑(XR (↑rf.Qa.length:Int)):Int)) []),(14,Wj),(18,Qf.XO (Hint.idx 0)),(19,Qf.XO (Hint.ld (Qk 1 (Xo (RW.n (os.getD 0 La)) (Qe Qy (RW.l (os.getD 0 La)))))))]
def qd(B:Lo)(rf:Qc)(s:Int)(os:List RW)(on:Nat)(Ql:Nat->Value):List Prop:=let a:=rf.Qa;[Qz []/\Qv YP J0 69 #[.agg #[Xo a.length (Qe Qt a),YI rf.Qh,YI rf.Qb]] (YI (↑(XR (↑a.length:Int)):Int)),XB 0 (↑on:Int)=true]++qe B rf s os on Ql
def gO(B:Lo)(rf:Qc)(s:Int)(os:List RW)(on:Nat)(Ql:Nat->Value):List Prop:=[(Qe (QY 1 QP) os)[0]? =some (Qk 1 (Xo (RW.n (os.getD 0 La)) (Qe Qy (RW.l (os.getD 0 La))))),0=(↑0:Int)/\0<on,XB 0 (↑(XR (↑rf.Qa.length:Int)):Int)=true]++qd B rf s os on Ql
theorem Cr(B:Lo)(rf:Qc)(s:Int)(os:List RW)(on:Nat)(Ql:Nat->Value):let c:=[{n:=1,l:=[0]}];let a:=QY 1 QP;let b:=Qe a [{n:=1,l:=[0]}];landM (Qn YP (Q0 YP) J0 B 36 1 (QC 68 40 (([1,3,4]:List Nat).zip (JS rf s os on)) Ql JT) (Q9 (VS rf s os on)) (2+(VS rf s os on).length)
 (qa rf s os on Ql++[(20,Qf.tapp0)]) 0 [] []) [1,3,4,5,6,7] [(2,KS.auto),(3,KS.rows [(1,1)] [] [] (Qe a os)),(7,KS.rows [] [5] [] b)] [{k:=5,rs:=[],cs:=#[YI 0]}]=some ⟨68,40,UF,[],.run,none,UE rf (s) (0) (1) (os) c (on) (1),VT rf (s) (0) (1) (os) c (on) (1),
 [QX 1 [(1,1)] [] [] (Qe a os) (Qe a os),QX 1 [] [(5,Fz.cs {k:=5,rs:=[],cs:=#[YI 0]})] [] #[.slice (some {block:=5,off:=0}) 1 1] b,X1 (Fz.rs {k:=5,rs:=[],cs:=#[YI 0]}) #[YI 0] (Fz.cs {k:=5,rs:=[],cs:=#[YI 0]}),RW.n (os.getD 0 La)=0]++gO B rf s os on Ql⟩:=by intro c a b;kernel_rfl
theorem Cq(B:Lo)(rf:Qc)(s:Int)(os:List RW)(on:Nat)(Ql:Nat->Value):let e:=Qe (QY 1 QP) os;let a:=os.getD 0 La;let f:=[{n:=a.n+1,l:=a.l++[0]}];let d:=Qe (QY 1 QP) [{n:=a.n+1,l:=a.l++[0]}];let c:=a.l++[0];let b:=Qe Qy a.l;landM (Qn YP (Q0 YP) J0 B 36 1 (QC 68 40 (([1,3,4]:List Nat).zip (JS rf s os on)) Ql JT) (Q9 (VS rf s os on)) (2+(VS rf s os on).length)
 (qa rf s os on Ql++[(20,Qf.tapp b),(23,Qf.XO (Hint.app (Qe Qy c)))]) 0 [] []) [1,3,4,5,6,7] [(2,KS.auto),(3,KS.rows [(1,1)] [] [] e),(8,KS.rows [] [6] [] d)] [{k:=6,rs:=[],cs:=Qe Qy c}]=some ⟨68,40,UF,[],.run,none,UE rf (s) (0) (1) (os) f (on) (1),VT rf (s) (0) (1) (os) f (on) (1),
 [QX 1 [(1,1)] [] [] e e,QX 1 [] [(6,Fz.cs {k:=6,rs:=[],cs:=Qe Qy c})] [] #[.slice (some {block:=6,off:=0}) (a.n+1) 1] d,X1 (Fz.rs {k:=6,rs:=[],cs:=Qe Qy c}) (Qe Qy c) (Fz.cs {k:=6,rs:=[],cs:=Qe Qy c}),LQ b=a.n*(0+1)/\a.n+1<=maxLen/\(a.n+1)*8<=140737488355328/\Qe Qy a.l++#[YI 0]=Qe Qy c,0<a.n/\a.n<=maxLen/\a.n*8<=140737488355328/\LQ b=a.n*(0+1)/\Array.map (Wb 1) b=Qe Qy a.l/\(Array.all b fun v=>simple v || WE v)=true/\ones b=true]++gO B rf s os on Ql⟩:=by intro e a f d c b;kernel_rfl
theorem Cp(B:Lo)(rf:Qc)(s:Int)(os:List RW)(on:Nat)(Ql:Nat->Value):let a:=Fz.cs {k:=3,rs:=[1],cs:=Qe QP os};Xv (Qn YP (Q0 YP) J0 B 9 1 (QC 68 40 (([1,3,4]:List Nat).zip (JS rf s os on)) Ql JT) (Q9 (VS rf s os on)) (2+(VS rf s os on).length)
 [(3,WC)] 0 [] []) [{k:=3,rs:=[1],cs:=Qe QP os}]=some (Xo on a,
 [X1 (Fz.rs {k:=3,rs:=[1],cs:=Qe QP os}) (Qe (QY 1 QP) os) a,XB s rf.Qb=false]):=by intro a;kernel_rfl
theorem Co(B:Lo)(rf:Qc):let a:=Qe (QY 1 QP) [{n:=0,l:=[]}];landM (Qn YP (Q0 YP) J0 B 9 1 (Qu YP 68 40 (([.agg (Q1 rf).toArray]).map (Q4 0 4))) Zd 1
 [] 0 [] []) [1,3,4] [(1,KS.auto),(2,KS.rows [] [] [] a)] []=some ⟨68,40,JT,[],.run,none,JS rf (0) ([{n:=0,l:=[]}]) (1),VS rf (0) ([{n:=0,l:=[]}]) (1),
 [QX 1 [] [] [] #[.slice none 0 0] a]⟩:=by intro a;kernel_rfl
set_option maxHeartbeats 4000000 in
theorem Cx(rf:Qc)(hp:1<=rf.Qa.length/\rf.Qa.length<=4)(hs:1<=rf.Qb/\rf.Qb<=4)(hm:(rf.Qa.length:Int)*rf.Qb<=6){B:Lo}(hJ:∀w,B.has w->J0 w){c0:CF}:∀m:Nat,(∀(s k i:Int) (os xs:List RW) (on xn:Nat),(rf.Qb-s).toNat*100000+(on-k.toNat)*100+(base rf-i.toNat)=m->∀(s0:0<=s) (s1:s<rf.Qb) (k0:0<=k) (k1:k<on) (i0:0<=i) (i1:i<=(base rf:Int)) (Kz:1<=xn) (hon:on=os.length) (ho:os=PU (base rf) s.toNat (base rf ^ s.toNat)) (hxn:xn=xs.length) (hx:xs=PU (base rf) (s.toNat+1) (k.toNat*base rf+i.toNat)),C0 B c0 rf s k i os xs on xn->EndsT YP B c0 (Xo (PU (base rf) rf.Qb.toNat (base rf ^ rf.Qb.toNat)).length (Qe QP (PU (base rf) rf.Qb.toNat (base rf ^ rf.Qb.toNat)))))/\(∀(s k:Int) (os xs:List RW) (on xn:Nat),(rf.Qb-s).toNat*100000+(on-k.toNat)*100+99=m->∀(s0:0<=s) (s1:s<rf.Qb) (k0:1<=k) (k1:k<=on) (Kz:1<=xn) (hon:on=os.length) (ho:os=PU (base rf) s.toNat (base rf ^ s.toNat)) (hxn:xn=xs.length) (hx:xs=PU (base rf) (s.toNat+1) (k.toNat*base rf)),Cz B c0 rf s k os xs on xn->EndsT YP B c0 (Xo (PU (base rf) rf.Qb.toNat (base rf ^ rf.Qb.toNat)).length (Qe QP (PU (base rf) rf.Qb.toNat (base rf ^ rf.Qb.toNat)))))/\(∀(s:Int) (os:List RW) (on:Nat),(rf.Qb-s).toNat*100000+99999=m->∀(s0:0<=s) (s1:s<=rf.Qb) (hon0:1<=on) (hon:on=os.length) (ho:os=PU (base rf) s.toNat (base rf ^ s.toNat)),Cy B c0 rf s os on->EndsT YP B c0 (Xo (PU (base rf) rf.Qb.toNat (base rf ^ rf.Qb.toNat)).length (Qe QP (PU (base rf) rf.Qb.toNat (base rf ^ rf.Qb.toNat))))):=by
 intro m0;induction m0 using LB with
 |_ m0 ih0=>
  refine⟨?_, ?_, ?_⟩
  ·intro s k i os xs on xn Jw s0 s1 k0 k1 i0 i1 Kz hon ho hxn hx ⟨Ql,Wl,X0⟩;have hbp:=Ym (rf:=rf);have hpb:((XR rf.Qa.length:Nat):Int)=((base rf:Nat):Int):=rfl;have hbl:=Y9 hm hs.1;have hbp:=Ym (rf:=rf);have hpb:((XR rf.Qa.length:Nat):Int)=((base rf:Nat):Int):=rfl;have hbl:=Y9 hm hs.1;have hol:os.length=base rf ^ s.toNat:=by rw[ho,JE]
   have WX:=eD (s:=s) hm (by omega) (by omega);have hxl:xs.length=k.toNat*base rf+i.toNat:=by rw[hx,JE]
   have hkb:k.toNat*base rf<=64*64:=Nat.mul_le_mul (by omega) (by omega);have hen:=Hf ho k0 (by omega);have VO:Qz (gQ B rf s k i os xs on xn Ql):=by
    exact⟨⟨trivial,OJ (rf) (by omega)⟩,trivial⟩
   by_cases q0:(i:Int)<((↑(XR (↑rf.Qa.length:Int)):Int))
   ·have hp1:Qz (gP B rf s k i os xs on xn Ql):=by
     exact⟨(by exact ZK (z:=1) (j:=0) (k:=Lb k) (fun _=>rfl) (by omega) rfl),⟨⟨by omega,by omega⟩,⟨(Xs q0),VO⟩⟩⟩
    by_cases q1:(RW.n (os.getD k.toNat La):Int)=(0)
    ·exact((ih0 _ (by omega)).1 (s) (k) (i+1) (os) (xs++[{n:=1,l:=[i]}]) (on) (xn+1) rfl ‹_› ‹_› ‹_› ‹_› (by omega) (by omega) (by omega) ‹_› ‹_› (by(simp only[Ls,Lr,LD];omega)) (by exact CU hbp ho hx k0 (by omega) i0 (by omega) (by omega))
      (X0.lM (Cw B rf s k i os xs on xn Ql)
      (by exact⟨cP,⟨(by exact(Vz cP (by exact⟨(.own (LP _)),trivial⟩))),⟨(Wy (by kernel_rfl)),⟨wI,⟨⟨(by(rw[QZ (z:=1) (fun _=>rfl)];first|omega|(simp;omega)|(simp_all;done))),(by unfold maxLen;omega),by omega,rfl⟩,⟨(by omega),hp1⟩⟩⟩⟩⟩⟩))).cR
    ·exact((ih0 _ (by omega)).1 (s) (k) (i+1) (os) (xs++[{n:=RW.n (os.getD k.toNat La)+1,l:=RW.l (os.getD k.toNat La)++[i]}]) (on) (xn+1) rfl ‹_› ‹_› ‹_› ‹_› (by omega) (by omega) (by omega) ‹_› ‹_› (by(simp only[Ls,Lr,LD];omega)) (by exact lO hbp ho hx k0 (by omega) i0 (by omega))
      (X0.lM (Cv B rf s k i os xs on xn Ql)
      (by exact⟨cP,⟨(by exact(Vz cP (by exact⟨(.own (LP _)),trivial⟩))),⟨(X2 (fun x=>List.all_eq_true.1 (by rfl))),⟨wI,⟨⟨(by(rw[QZ (z:=1) (fun _=>rfl)];first|omega|(simp;omega)|(simp_all;done))),(by unfold maxLen;omega),by omega,rfl⟩,⟨⟨(by(rw[QZ (z:=1) (fun _=>rfl)];first|omega|(simp;omega)|(simp_all;done))),(by unfold maxLen;omega),by omega,by first|exact XH|exact XC rfl⟩,⟨⟨by omega,(by unfold maxLen;omega),by omega,(by(rw[QZ (z:=1) (fun _=>rfl)];first|omega|(simp;omega)|(simp_all;done))),TU (fun _=>rfl) _⟩,hp1⟩⟩⟩⟩⟩⟩⟩))).cR
   ·exact((ih0 _ (by omega)).2.1 (s) (k+1) (os) (xs) (on) (xn) rfl ‹_› ‹_› (by omega) (by omega) ‹_› ‹_› ‹_› ‹_› (by(rw[hx];exact Ny k0 (by omega)))
     (X0.lM (Cu B rf s k i os xs on xn Ql)
     ⟨cP,⟨cP,⟨wI,⟨(nL q0),VO⟩⟩⟩⟩)).cR
  ·intro s k os xs on xn Jw s0 s1 k0 k1 Kz hon ho hxn hx ⟨Ql,Wl,X0⟩;have hbp:=Ym (rf:=rf);have hpb:((XR rf.Qa.length:Nat):Int)=((base rf:Nat):Int):=rfl;have hbl:=Y9 hm hs.1;have hbp:=Ym (rf:=rf);have hpb:((XR rf.Qa.length:Nat):Int)=((base rf:Nat):Int):=rfl;have hbl:=Y9 hm hs.1;have hol:os.length=base rf ^ s.toNat:=by rw[ho,JE]
   have WX:=eD (s:=s) hm (by omega) (by omega);by_cases q0:(k:Int)<((↑on:Int))
   ·exact((ih0 _ (by omega)).1 (s) (k) (0) (os) (xs) (on) (xn) rfl ‹_› ‹_› (by omega) ‹_› (by omega) (by omega) ‹_› ‹_› ‹_› ‹_› (by(rw[hx];rfl))
     (X0.lM (Ct B rf s k os xs on xn Ql)
     ⟨cP,⟨cP,⟨(Xs q0),trivial⟩⟩⟩)).cR
   ·exact((ih0 _ (by omega)).2.2 (s+1) (xs) (xn) rfl (by omega) (by omega) ‹_› ‹_› (by(rw[hx];exact QaA s0 hol (by omega)))
     (X0.lM (Cs B rf s k os xs on xn Ql)
     ⟨cP,⟨wI,⟨(nL q0),trivial⟩⟩⟩)).cR
  ·intro s os on Jw s0 s1 hon0 hon ho ⟨Ql,Wl,X0⟩;have hbp:=Ym (rf:=rf);have hpb:((XR rf.Qa.length:Nat):Int)=((base rf:Nat):Int):=rfl;have hbl:=Y9 hm hs.1;have hbp:=Ym (rf:=rf);have hpb:((XR rf.Qa.length:Nat):Int)=((base rf:Nat):Int):=rfl;have hbl:=Y9 hm hs.1;have hen0:=He hbp ho;have hol:os.length=base rf ^ s.toNat:=by rw[ho,JE]
   have WX:=eD (s:=s) hm (by omega) (by omega);have hpp:=Nat.pow_pos (n:=s.toNat) hbp;by_cases q0:(s:Int)<rf.Qb
   ·have YF:Qz (qe B rf s os on Ql):=by
     exact⟨(Xs q0),trivial⟩
    by_cases q1:(0:Int)<((↑on:Int))
    ·have hp3:Qz (qd B rf s os on Ql):=by
      exact⟨⟨trivial,OJ (rf) (by omega)⟩,⟨(Xs q1),YF⟩⟩
     by_cases q2:(0:Int)<((↑(XR (↑rf.Qa.length:Int)):Int))
     ·have hp4:Qz (gO B rf s os on Ql):=by
       exact⟨(by exact Bb (z:=1) (j:=0) (k:=0) (fun _=>rfl) (by omega) rfl),⟨⟨by omega,by omega⟩,⟨(Xs q2),hp3⟩⟩⟩
      by_cases q3:(RW.n (os.getD 0 La):Int)=(0)
      ·exact((ih0 _ (by omega)).1 (s) (0) (1) (os) ([{n:=1,l:=[0]}]) (on) (1) rfl ‹_› ‹_› (by omega) ‹_› (by omega) (by omega) (by omega) ‹_› ‹_› (by rfl) (by exact zx hbp ho (by omega))
        (X0.lM (Cr B rf s os on Ql)
        (by exact⟨cP,⟨(by exact(VF (by exact⟨(.own (LP _)),trivial⟩))),⟨(Wy (by kernel_rfl)),⟨(by omega),hp4⟩⟩⟩⟩))).cR
      ·exact((ih0 _ (by omega)).1 (s) (0) (1) (os) ([{n:=RW.n (os.getD 0 La)+1,l:=RW.l (os.getD 0 La)++[0]}]) (on) (1) rfl ‹_› ‹_› (by omega) ‹_› (by omega) (by omega) (by omega) ‹_› ‹_› (by rfl) (by exact qz hbp ho)
        (X0.lM (Cq B rf s os on Ql)
        (by exact⟨cP,⟨(by exact(VF (by exact⟨(.own (LP _)),trivial⟩))),⟨(X2 (fun x=>List.all_eq_true.1 (by rfl))),⟨⟨(by(rw[QZ (z:=1) (fun _=>rfl)];first|omega|(simp;omega)|(simp_all;done))),(by unfold maxLen;omega),by omega,by first|exact XH|exact XC rfl⟩,⟨⟨by omega,(by unfold maxLen;omega),by omega,(by(rw[QZ (z:=1) (fun _=>rfl)];first|omega|(simp;omega)|(simp_all;done))),TU (fun _=>rfl) _⟩,hp4⟩⟩⟩⟩⟩))).cR
     ·exfalso
      (first|omega|(have h_:=aq (n:=rf.Qa.length);omega))
    ·exfalso
     (first|omega|(have h_:=aq (n:=rf.Qa.length);omega))
   ·exact(GoE.eT X0 (Cp B rf s os on Ql)
     ⟨(VG (YH (by exact fun _=>rfl)) (LP _)),⟨(nL q0),trivial⟩⟩).cast (by(rw[hon,ho,show s=rf.Qb by omega]))
set_option maxHeartbeats 4000000 in
theorem FE(rf:Qc)(hp:1<=rf.Qa.length/\rf.Qa.length<=4)(hs:1<=rf.Qb/\rf.Qb<=4)(hm:(rf.Qa.length:Int)*rf.Qb<=6){B:Lo}(hJ:∀w,B.has w->J0 w):EndsT YP B (Qu YP 68 40 (([.agg (Q1 rf).toArray]).map (Q4 0 4))) (Xo (PU (base rf) rf.Qb.toNat (base rf ^ rf.Qb.toNat)).length (Qe QP (PU (base rf) rf.Qb.toNat (base rf ^ rf.Qb.toNat)))):=by
 have hbp:=Ym (rf:=rf);have hpb:((XR rf.Qa.length:Nat):Int)=((base rf:Nat):Int):=rfl;have hbl:=Y9 hm hs.1;exact((Cx rf hp hs hm hJ _).2.2 (0) ([{n:=0,l:=[]}]) (1) rfl (by omega) (by omega) (by omega) (by rfl) (by rfl)
  (GoE.start.lM (Co B rf)
  (by exact⟨(by exact(VF (by exact⟨.nil,trivial⟩))),trivial⟩))).cR
theorem Qax(rf:Qc)(hp:1<=rf.Qa.length/\rf.Qa.length<=4)(hs:1<=rf.Qb/\rf.Qb<=4)(hm:(rf.Qa.length:Int)*rf.Qb<=6):Qv YP J0 68 #[.agg (Q1 rf).toArray] (Xo (PU (base rf) rf.Qb.toNat (base rf ^ rf.Qb.toNat)).length (Qe QP (PU (base rf) rf.Qb.toNat (base rf ^ rf.Qb.toNat)))):=
 Xd (ts:=[.agg (Q1 rf).toArray]) Zc (c0:=Qu YP 68 40 (([.agg (Q1 rf).toArray]).map (Q4 0 4))) (by kernel_rfl) (by kernel_rfl) fun B hJ=>FE rf hp hs hm hJ
end
end Go.Proofs.Ytncjjangllkokaa

