/- Reef: counts, growth, and how spans are made. -/
import Derived.Test.YtncjjangllkokaaZRH11
set_option linter.all false
open Int renaming tdiv_eq_ediv_of_nonneg->LO,le_refl->LR,tdiv->Le,toNat->Lb
open Nat renaming strongRecOn->Lz,lt_of_lt_of_eq->Lu
open List renaming set->LM,replicate->Ln,range->Lg,length->Lc,length_set->LS,length_replicate->LF,getElem?_map->LC,getD_eq_getElem?_getD->Lq,getElem?_eq_none->LA,getElem?_eq_getElem->LZ
open Array renaming size->LG,extract->Lh
open Inhabited renaming default->La
namespace Go.Proofs.Ytncjjangllkokaa
open Go Go.CE Go.RowKit
noncomputable section
set_option maxRecDepth 100000
def Ry(p:Int->Bool)(q:Int->Int)(a b u:Int):Int×Int:=
 if h:0<=a/\a<b then(if p ((a+b).tdiv 2)=true then Ry p q a ((a+b).tdiv 2) (q ((a+b).tdiv 2))else Ry p q ((a+b).tdiv 2+1) b (q ((a+b).tdiv 2)))else(a,u)
termination_by (b-a).toNat
decreasing_by all_goals (have:=LO (a:=a+b) (b:=2) (by omega);omega)
theorem o5{a b:Int}(h0:0<=a)(h1:a<b):a<=(a+b).tdiv 2/\(a+b).tdiv 2<b:=by
 have:=LO (a:=a+b) (b:=2) (by omega);omega
theorem yK{p:Int->Bool}{q:Int->Int}{a b u:Int}(h:a=b):Ry p q a b u=(a,u):=by
 rw[Ry,dif_neg (by omega)]
theorem oy{p:Int->Bool}{q:Int->Int}{a b u:Int}(h0:0<=a)(h1:a<b)(hp:p ((a+b).tdiv 2)=true):Ry p q a b u=Ry p q a ((a+b).tdiv 2) (q ((a+b).tdiv 2)):=by
 rw[Ry,dif_pos ⟨h0,h1⟩,if_pos hp]
theorem tM{p:Int->Bool}{q:Int->Int}{a b u:Int}(h0:0<=a)(h1:a<b)(hp:p ((a+b).tdiv 2)=false):Ry p q a b u=Ry p q ((a+b).tdiv 2+1) b (q ((a+b).tdiv 2)):=by
 rw[Ry,dif_pos ⟨h0,h1⟩,if_neg (by rw[hp];decide)]
theorem sf{p:Int->Bool}{q:Int->Int}:∀(n:Nat) (a b u:Int),(b-a).toNat=n->0<=a->a<=b->(∀r r',a<=r->r<=r'->r'<b->p r=true->p r'=true)->
 a<=(Ry p q a b u).1/\(Ry p q a b u).1<=b/\(∀r,a<=r->r<(Ry p q a b u).1->p r=false)/\(∀r,(Ry p q a b u).1<=r->r<b->p r=true):=by
 intro n;induction n using Lz with
 |_ n ih=>
  intro a b u hn h0 h1 hm;by_cases e:a=b
  ·rw[yK e];exact⟨LR _,h1,fun r h2 h3=>by omega,fun r h2 h3=>by omega⟩
  ·have hi:=o5 h0 (show a<b by omega);cases hp:p ((a+b).tdiv 2)with
   |true=>
    rw[oy h0 (by omega) hp];have:=ih _ (by omega) a ((a+b).tdiv 2) (q ((a+b).tdiv 2)) rfl h0 hi.1 (fun r r' g1 g2 g3=>hm r r' g1 g2 (by omega));refine⟨this.1,by omega,this.2.2.1,fun r h2 h3=> ?_⟩;by_cases e2:r<(a+b).tdiv 2
    ·exact this.2.2.2 r h2 e2
    ·exact hm _ r hi.1 (by omega) h3 hp
   |false=>
    rw[tM h0 (by omega) hp];have:=ih _ (by omega) ((a+b).tdiv 2+1) b (q ((a+b).tdiv 2)) rfl (by omega) (by omega) (fun r r' g1 g2 g3=>hm r r' (by omega) g2 g3);refine⟨by omega,this.2.1,fun r h2 h3=> ?_,this.2.2.2⟩;by_cases e2:(a+b).tdiv 2<r
    ·exact this.2.2.1 r (by omega) h3
    ·cases hr:p r with
     |false=>rfl
     |true=>have:=hm r _ h2 (by omega) hi.2 hr;rw[hp]at this;cases this
theorem Qas{a b:Int}(h0:0<=a)(h1:a<=b):a<=(a+b).tdiv 2/\(a+b).tdiv 2<=b:=by
 have:=LO (a:=a+b) (b:=2) (by omega);omega
def Zm(Qc n:Int):Int:=n+(n*Qc).tdiv 1000
def Mr(room f g:Int):Int:=if room<=f then 0 else if(f*g).tdiv 1000<room-f then(f*g).tdiv 1000 else room-f
theorem Sq{a r:Int}(ha:0<=a/\a<=1000000000000)(hr:0<=r/\r<=2000):0<=a*r/\a*r<=2000000000000000/\0<=(a*r).tdiv 1000/\(a*r).tdiv 1000<=2000000000000:=by
 have e0:0<=a*r:=Int.mul_nonneg ha.1 hr.1;have e1:a*r<=1000000000000*2000:=Int.mul_le_mul ha.2 hr.2 hr.1 (by omega);have e2:(a*r).tdiv 1000=(a*r) / 1000:=LO e0;omega
theorem DO{a r:Int}(ha:0<=a/\a<=1000000000000)(hr:0<=r/\r<=2000):a<=Zm r a/\Zm r a<=3000000000000:=by
 have:=Sq ha hr;unfold Zm;omega
def ZK(Qc n c:Int):Bool:=decide (n<=Zm Qc c)
def XP(Qc n:Int):Int:=(Ry (ZK Qc n) (fun _=>0) 0 n 0).1
theorem Ht(B:Lo)(r:Ql)(n:Int):let a:=n*r.Qc;let b:=n+Le a 1000;QO (Qo YP (Q1 YP) J0 B 6 1 (Qp YP 60 12 (([.agg (Qv r).toArray,YI n]).map (Q2 0 4))) XW 1
 [(6,Wy a),(7,Wy (Le a 1000)),(8,Wy b)] 0 [] []) []=some (YI b,
 [wq b=n+Le a 1000,IntKind.wrap .i64 (Le a 1000)=Le a 1000,wq a=n*r.Qc]):=by intro a b;kernel_rfl
set_option maxHeartbeats 4000000 in
theorem Nv(r:Ql)(n:Int)(hm:0<=r.Qc/\r.Qc<=2000)(hn:0<=n/\n<=1000000000000){B:Lo}(hJ:∀w,B.has w->J0 w):EndsT YP B (Qp YP 60 12 (([.agg (Qv r).toArray,YI n]).map (Q2 0 4))) (YI (Zm r.Qc n)):=by
 have e0:=Sq hn hm;exact(GoE.endsT okF hJ Qf GoE.start (Ht B r n)
  ⟨(QY (by omega) (by omega)),⟨(cg (by omega) (by omega)),⟨(QY (by omega) (by omega)),trivial⟩⟩⟩).cast (by rfl)
theorem Hu(r:Ql)(n:Int)(hm:0<=r.Qc/\r.Qc<=2000)(hn:0<=n/\n<=1000000000000):Qn YP J0 60 #[.agg (Qv r).toArray,YI n] (YI (Zm r.Qc n)):=
 Xb (ts:=[.agg (Qv r).toArray,YI n]) XZ (c0:=Qp YP 60 12 (([.agg (Qv r).toArray,YI n]).map (Q2 0 4))) (by kernel_rfl) (by kernel_rfl) fun B hJ=>Nv r n hm hn hJ
theorem Ey(B:Lo)(x:Qg)  :QO (Qo YP (Q1 YP) J0 B 10 1 (Qp YP 61 10 (([.agg (Qi x).toArray,.bool true]).map (Q2 0 4))) XW 1
 [] 0 [] []) []=some (.agg #[YI x.VV,YI x.VW],
 []):=by kernel_rfl
theorem Ex(B:Lo)(x:Qg)  :QO (Qo YP (Q1 YP) J0 B 11 1 (Qp YP 61 10 (([.agg (Qi x).toArray,.bool false]).map (Q2 0 4))) XW 1
 [] 0 [] []) []=some (.agg #[YI x.VZ,YI x.Ua],
 []):=by kernel_rfl
set_option maxHeartbeats 4000000 in
theorem GM(x:Qg)(b:Bool)  {B:Lo}(hJ:∀w,B.has w->J0 w):EndsT YP B (Qp YP 61 10 (([.agg (Qi x).toArray,.bool b]).map (Q2 0 4))) (.agg #[YI (if b then x.VV else x.VZ),YI (if b then x.VW else x.Ua)]):=by
 cases b with
 |true=>
  exact(GoE.endsT okF hJ Qf GoE.start (Ey B x)
   trivial).cast (by rfl)
 |false=>
  exact(GoE.endsT okF hJ Qf GoE.start (Ex B x)
   trivial).cast (by rfl)
theorem Wq(x:Qg)(b:Bool)  :Qn YP J0 61 #[.agg (Qi x).toArray,.bool b] (.agg #[YI (if b then x.VV else x.VZ),YI (if b then x.VW else x.Ua)]):=
 Xb (ts:=[.agg (Qi x).toArray,.bool b]) XZ (c0:=Qp YP 61 10 (([.agg (Qi x).toArray,.bool b]).map (Q2 0 4))) (by kernel_rfl) (by kernel_rfl) fun B hJ=>GM x b  hJ
def eo(B:Lo)(r:Ql)(n c:Int):List Prop:=[Qr []/\Qn YP J0 60 #[.agg #[QC r.Qb.length (Qe Qi r.Qb),YI r.Qc,YI r.Qd],YI n] (YI (Zm r.Qc n)),(!XC c n)=true]++([]:List Prop)
def na(r:Ql)(n c:Int):Q7:=[(4,Z5),(9,Qh.pure (YI (Zm r.Qc n)) [])]
theorem Bn(B:Lo)(r:Ql)(n c:Int):QO (Qo YP (Q1 YP) J0 B 6 1 (Qp YP 33 17 (([.agg (Qv r).toArray,YI n,YI c]).map (Q2 0 4))) XW 1
 (na r n c++[(10,Z5)]) 0 [] []) []=some (.bool true,
 [(!XC (Zm r.Qc n) c)=true]++eo B r n c):=by kernel_rfl
theorem Bm(B:Lo)(r:Ql)(n c:Int):QO (Qo YP (Q1 YP) J0 B 6 1 (Qp YP 33 17 (([.agg (Qv r).toArray,YI n,YI c]).map (Q2 0 4))) XW 1
 (na r n c++[(10,ZW)]) 0 [] []) []=some (.bool false,
 [(!XC (Zm r.Qc n) c)=false]++eo B r n c):=by kernel_rfl
theorem Bl(B:Lo)(r:Ql)(n c:Int):QO (Qo YP (Q1 YP) J0 B 6 1 (Qp YP 33 17 (([.agg (Qv r).toArray,YI n,YI c]).map (Q2 0 4))) XW 1
 [(4,ZW)] 0 [] []) []=some (.bool false,
 [(!XC c n)=false]):=by kernel_rfl
set_option maxHeartbeats 4000000 in
theorem ED(r:Ql)(n c:Int)(hm:0<=r.Qc/\r.Qc<=2000)(hn:0<=n/\n<=1000000000000){B:Lo}(hJ:∀w,B.has w->J0 w):EndsT YP B (Qp YP 33 17 (([.agg (Qv r).toArray,YI n,YI c]).map (Q2 0 4))) (.bool (decide (n<=c) && decide (c<=Zm r.Qc n))):=by
 by_cases q0:(n:Int)<=(c)
 ·have Vw:Qr (eo B r n c):=by
   exact⟨⟨trivial,Hu (r) (n) (by with_reducible assumption) (by with_reducible assumption)⟩,⟨(UX q0),trivial⟩⟩
  by_cases q1:(c:Int)<=(Zm r.Qc n)
  ·exact(GoE.endsT okF hJ Qf GoE.start (Bn B r n c)
    ⟨(UX q1),Vw⟩).cast (by(simp[*];done))
  ·exact(GoE.endsT okF hJ Qf GoE.start (Bm B r n c)
    ⟨(UY (Int.not_le.1 q1)),Vw⟩).cast (by(simp[*];done))
 ·exact(GoE.endsT okF hJ Qf GoE.start (Bl B r n c)
   ⟨(UY (Int.not_le.1 q0)),trivial⟩).cast (by(simp[*];done))
theorem Ps(r:Ql)(n c:Int)(hm:0<=r.Qc/\r.Qc<=2000)(hn:0<=n/\n<=1000000000000):Qn YP J0 33 #[.agg (Qv r).toArray,YI n,YI c] (.bool (decide (n<=c) && decide (c<=Zm r.Qc n))):=
 Xb (ts:=[.agg (Qv r).toArray,YI n,YI c]) XZ (c0:=Qp YP 33 17 (([.agg (Qv r).toArray,YI n,YI c]).map (Q2 0 4))) (by kernel_rfl) (by kernel_rfl) fun B hJ=>ED r n c hm hn hJ
section
variable (B:Lo)(c0:CF)(r:Ql)(n a b:Int)(Qm:Nat->Value)
end
def XI(x:Qg):Span:=⟨x.Ys,x.Yt⟩
def Y4(x:Qg):Span:=⟨x.VZ,x.Ua⟩
def XB(Qc:Int)(x:Qg):Span:=⟨x.count,Zm Qc x.count⟩
section
variable (x_:Qg)(B:Lo)(c0:CF)(xs:List Qg)(i:Int)(ys:List Span)(Qm:Nat->Value)
def cV:Array Value:=#[YI x_.count,YI x_.room,YI x_.Ys,YI x_.Yt,YI x_.Xh,YI x_.Zq,YI x_.VZ,YI x_.Ua,YI x_.VV,YI x_.VW,YI x_.goal,YI x_.VF]
def Tk:=(xs.getD i.toNat La)
def rV:Value:=(.agg #[YI (Qg.Ys (Tk xs i)),YI (Qg.Yt (Tk xs i))])
def F8:Array Value:=(Qe Qj (LM ys i.toNat {lo:=Qg.Ys (Tk xs i),hi:=Qg.Yt (Tk xs i)}))
def rU:Array Value:=(Qe (Ue [YI 0,YI 0]) (Ln xs.length ()))
def Tl(ys:List Span):List Value:=[Value.func (Fn.func 104) #[] #[],.slice (some {block:=2,off:=0}) xs.length 2,Qw 1 (QC xs.length (Qe Qi xs)),YI (↑xs.length:Int),YI i]
def Yf(xs:List Qg)(i:Int)(ys:List Span):List Obj:=[.cells (Qe Qj ys) 38 (0,0)]
def Tn:List Item:=([.code [1,1,0,1,0,0],.inLoop [1,1,0,1,0,0],.inBlock 0,.code [1,1,1]]).map (it (QG YP 102))
def FE:Prop:=∃dJ:Nat->Value,(∀t,Xi (dJ t))/\GoE YP B c0 XW 1 (QA 102 26 (([1,5,11,12,13]:List Nat).zip (Tl xs i ys)) dJ Tn) (Q9 (Yf xs i ys)) (2+(Yf xs i ys).length) []
def To(Qm:Nat->Value):Qq:=[(3,Obj.cells (cV (xs.getD i.toNat La)) 54),(0,Obj.coro none),(1,Obj.coro none),(2,Obj.cells (Qe Qj ys) 38)]
def cW(ys:List Span)(Qm:Nat->Value):CF:=⟨104,ofList 5 [.agg (cV (xs.getD i.toNat La))],[Item.code (QG YP 104)],[],.run,none⟩
theorem FC:CE.finK 4 (Qo YP (Q1 YP) J0 B 6 4 (cW xs i ys Qm) (To xs i ys Qm) 4
 [] 0 [] []) [] [] []=some (OO.ret (rV xs i),[],[],
 []):=by kernel_rfl
theorem FB(B:Lo)(xs:List Qg)(i:Int)(ys:List Span)(Qm:Nat->Value):let f:=rV xs i;let e:=Tk xs i;let c:=F8 xs i ys;let b:=Lb i;let d:=xs.getD b La;let a:=LM ys b {lo:=e.Ys,hi:=e.Yt};landM (Qo YP (Q1 YP) J0 B 13 1 (QA 102 26 (([1,5,11,12,13]:List Nat).zip (Tl xs i ys)) Qm Tn) (Q9 (Yf xs i ys)) (2+(Yf xs i ys).length)
 [(0,Z5),(2,Qh.tidx b (cV e)),(11,Qh.call (Lg 4) (OO.ret f) ([]++(4,Xx)::Xa 5 []) 5 []),(12,Qh.XD (Hint.idx b)),(13,Qh.XD (Hint.st c)),(14,Wy (i+1))] 0 [] []) [1,5,11,12,13] [(2,KS.cells [] c)] []=some ⟨102,26,Tn,[],.run,none,Tl xs (i+1) a,Yf xs (i+1) a,
 [Q0 1 [] c c,wq (i+1)=i+1,0+Lb i*2+TypeInfo.size Try.t38<=LG (Qe Qj ys)/\splice (Qe Qj ys) (0+Lb i*2) (Value.cells (Zc {len:=16000,tr:=Tri.set 14 (Tri.set 14 Tri.lf 22 f) 23 (.pointer (some {block:=2,off:=0+Lb i*2}))} 22))=Qe Qj (LM ys b {lo:=d.Ys,hi:=d.Yt}),i=(↑b:Int)/\Lb i<Lc xs,FJ YP B (cW xs i ys Qm) (To xs i ys Qm) 4 (OO.ret f) (([]++((4,Xx)::Xa (4+1) []))++To xs i ys Qm) 5 (Lg 4) [],Kl i xs.length (Qe Qi xs) Try.t54.size (cV d),XC i (↑xs.length:Int)=true]⟩:=by intro f e c b d a;kernel_rfl
theorem FA(B:Lo)(xs:List Qg)(i:Int)(ys:List Span)(Qm:Nat->Value):let a:=Fz.cs {k:=2,rs:=[],cs:=Qe Qj ys};QO (Qo YP (Q1 YP) J0 B 9 1 (QA 102 26 (([1,5,11,12,13]:List Nat).zip (Tl xs i ys)) Qm Tn) (Q9 (Yf xs i ys)) (2+(Yf xs i ys).length)
 [(0,ZW)] 0 [] []) [{k:=2,rs:=[],cs:=Qe Qj ys}]=some (QC xs.length a,
 [X8 (Fz.rs {k:=2,rs:=[],cs:=Qe Qj ys}) (Qe Qj ys) a,XC i (↑xs.length:Int)=false]):=by intro a;kernel_rfl
theorem F9(B:Lo)(xs:List Qg):let c:=Lc xs;let b:=Zc {len:=16000,tr:=Tri.set 14 Tri.lf 9 (YI (↑c:Int))} 9;let a:=Ln c {lo:=0,hi:=0};landM (Qo YP (Q1 YP) J0 B 9 1 (Qp YP 102 26 (([KJ xs,.func (.func 104) #[] #[]]).map (Q2 0 4))) XW 1
 [(3,Qh.XD (Hint.mk c (rU xs)))] 0 [] []) [1,5,11,12,13] [(1,KS.rows [] [] [] (Qe Qj a))] []=some ⟨102,26,Tn,[],.run,none,Tl xs (0) a,Yf xs (0) a,
 [Xj 1 [] [] [] (rU xs) (Qe Qj a),Sg YP 36 b b=some (38,Qe (Ue [YI 0,YI 0]) (Ln c ()),Lc xs,TypeInfo.size Try.t38)]⟩:=by intro c b a;kernel_rfl
end
set_option maxHeartbeats 4000000 in
theorem FD(xs:List Qg)(hn:xs.length<=1000000){B:Lo}(hJ:∀w,B.has w->J0 w){c0:CF}:∀m:Nat,(∀(i:Int) (ys:List Span),(xs.length-i.toNat)=m->∀(h0:0<=i) (hy:ys=Sd XI ⟨0,0⟩ xs i),FE B c0 xs i ys->EndsT YP B c0 (YK (xs.map XI))):=by
 intro m0;induction m0 using Lz with
 |_ m0 ih0=>
  intro i ys YA h0 hy ⟨Qm,ZF,Xs⟩;have hyl:ys.length=xs.length:=by rw[hy];exact Tt
  by_cases q0:(i:Int)<((↑xs.length:Int))
  ·have rj0:FJ YP B (cW xs i ys Qm) (To xs i ys Qm) 4 (OO.ret (.agg #[YI (Qg.Ys (xs.getD i.toNat La)),YI (Qg.Yt (xs.getD i.toNat La))])) (([]++((4,Xx)::Xa (4+1) []))++To xs i ys Qm) 5 (Lg 4) []:=by
    exact FinK.fjB (GoE.finK okF hJ Qf (Q6 (by kernel_rfl)) (Qy (by kernel_rfl)) ((GoE.refl (P:=YP) (B:=B) (c0:=cW xs i ys Qm) (Q6 (by kernel_rfl))).widen (Wf:=((([]):List (Nat×KS)).map (·.1))) (by simp) (Qy (by kernel_rfl))) (FC B xs i ys Qm)
     trivial) (ex:=[2]) (by kernel_rfl) ⟨trivial,⟨trivial,⟨trivial,⟨(JX (t:=38) (fl:=(0,0)) (fun x=>List.all_eq_true.1 (by rfl))),trivial⟩⟩⟩⟩
   exact((ih0 _ (by omega)) (i+1) (LM ys i.toNat {lo:=Qg.Ys (xs.getD i.toNat La),hi:=Qg.Yt (xs.getD i.toNat La)}) rfl (by omega) (by(subst hy;exact Ts (f:=XI) h0 q0))
    (Xs.landM okF hJ Qf (FB B xs i ys Qm)
    (by exact⟨(Zf fun _=>by rfl),⟨(QY (by omega) (by omega)),⟨(by exact S6 (z:=2) (k:=Lb i) (fun _=>rfl) (by first|omega|(rw[LS];omega)|(rw[LF];omega)) rfl rfl),⟨⟨by omega,by omega⟩,⟨rj0,⟨⟨by omega,by omega,(Qs (z:=12) (fun _=>rfl) (by omega))⟩,⟨(Xd q0),trivial⟩⟩⟩⟩⟩⟩⟩) (by kernel_rfl) (by kernel_rfl))).cast (by rfl)
  ·exact(GoE.endsT okF hJ Qf Xs (FA B xs i ys Qm)
    ⟨(Xc (fun x=>List.all_eq_true.1 (by rfl))),⟨(X9 (Int.not_lt.1 q0)),trivial⟩⟩).cast (by exact fG (hy.trans (Tu (by omega))) (by simp))
set_option maxHeartbeats 4000000 in
theorem IU(xs:List Qg)(hn:xs.length<=1000000){B:Lo}(hJ:∀w,B.has w->J0 w):EndsT YP B (Qp YP 102 26 (([KJ xs,.func (.func 104) #[] #[]]).map (Q2 0 4))) (YK (xs.map XI)):=by
 exact((FD xs hn hJ _) (0) (Ln xs.length {lo:=0,hi:=0}) rfl (by omega) (by exact ic)
  (GoE.start.landM okF hJ Qf (F9 B xs)
  (by exact⟨(by exact(V2 (by exact⟨(.simple rfl),⟨(.simple rfl),trivial⟩⟩) _)),⟨(fg (bytes:=16) (by kernel_rfl) (by omega) (by omega) (by omega)),trivial⟩⟩) (by kernel_rfl) (by kernel_rfl))).cast (by rfl)
theorem Qan(xs:List Qg)(hn:xs.length<=1000000):Qn YP J0 102 #[KJ xs,.func (.func 104) #[] #[]] (YK (xs.map XI)):=
 Xb (ts:=[KJ xs,.func (.func 104) #[] #[]]) XZ (c0:=Qp YP 102 26 (([KJ xs,.func (.func 104) #[] #[]]).map (Q2 0 4))) (by kernel_rfl) (by kernel_rfl) fun B hJ=>IU xs hn hJ
def cN(rf:Ql):=(List.map XI rf.Qb)
def rL(rf:Ql):Value:=(QC (Lc (cN rf)) (Qe Qj (cN rf)))
theorem Fe(B:Lo)(rf:Ql)(Qa:List Int):QO (Qo YP (Q1 YP) J0 B 6 1 (Qp YP 83 7 (([.agg (QF rf Qa).toArray]).map (Q2 0 4))) XW 1
 [(5,Qh.pure (rL rf) [])] 0 [] []) []=some (QC (Lc (cN rf)) (Qe Qj (cN rf)),
 [Qr []/\Qn YP J0 102 #[QC rf.Qb.length (Qe Qi rf.Qb),Value.func (Fn.func 104) #[] #[]] (rL rf)]):=by kernel_rfl
set_option maxHeartbeats 4000000 in
theorem I2(rf:Ql)(Qa:List Int)(hn:rf.Qb.length<=1000000){B:Lo}(hJ:∀w,B.has w->J0 w):EndsT YP B (Qp YP 83 7 (([.agg (QF rf Qa).toArray]).map (Q2 0 4))) (YK (rf.Qb.map XI)):=by
 exact(GoE.endsT okF hJ Qf GoE.start (Fe B rf Qa)
  ⟨⟨trivial,Qan rf.Qb (by with_reducible assumption)⟩,trivial⟩).cast (by rfl)
theorem BR(rf:Ql)(Qa:List Int)(hn:rf.Qb.length<=1000000):Qn YP J0 83 #[.agg (QF rf Qa).toArray] (YK (rf.Qb.map XI)):=
 Xb (ts:=[.agg (QF rf Qa).toArray]) XZ (c0:=Qp YP 83 7 (([.agg (QF rf Qa).toArray]).map (Q2 0 4))) (by kernel_rfl) (by kernel_rfl) fun B hJ=>I2 rf Qa hn hJ
section
variable (x_:Qg)(rf:Ql)(Qa:List Int)(i:Int)(ys:List Span)
def TS:Array Value:=#[YI x_.count,YI x_.room,YI x_.Ys,YI x_.Yt,YI x_.Xh,YI x_.Zq,YI x_.VZ,YI x_.Ua,YI x_.VV,YI x_.VW,YI x_.goal,YI x_.VF]
def KA:=(rf.Qb.getD i.toNat La)
def KB:=(KA rf i)
def nt:Value:=(.agg #[YI (Qg.count (KA rf i)),YI (Qg.count (KA rf i)+Le (Qg.count (KA rf i)*rf.Qc) 1000)])
def TQ:=(Qg.count (KB rf i)*rf.Qc)
def nr:Array Value:=(Qe Qj (LM ys i.toNat {lo:=Qg.count (KA rf i),hi:=Qg.count (KA rf i)+Le (Qg.count (KA rf i)*rf.Qc) 1000}))
def TP:=(List.map (XB rf.Qc) rf.Qb)
def B4:Value:=(Qw 2 (QC (Lc (TP rf)) (Qe Qj (TP rf))))
def nq:Value:=(.agg #[YI (Qg.count (KB rf i)),YI (Qg.count (KB rf i)+Le (TQ rf i) 1000)])
def np:Array Value:=(Qe (Ue [YI 0,YI 0]) (Ln rf.Qb.length ()))
def nn:Array Value:=(Qe Qj (LM ys i.toNat {lo:=Qg.count (KB rf i),hi:=Qg.count (KB rf i)+Le (TQ rf i) 1000}))
def j7:Array Value:=(Qe Qj (Ln rf.Qb.length {lo:=0,hi:=0}))
def WT:Qq:=[(1,Obj.cells #[Qw 0 (QC rf.Qb.length (Qe Qi rf.Qb)),YI rf.Qc,YI rf.Qd,YI (Qa.getD 0 0),YI (Qa.getD 1 0),YI (Qa.getD 2 0),YI (Qa.getD 3 0)] 84),(0,Obj.coro none)]
def YT(Qa:List Int):CF:=⟨102,ofList 26 [Qw 0 (QC rf.Qb.length (Qe Qi rf.Qb)),Value.func (Fn.func 103) #[] #[pA 1 0]],[Item.code (QG YP 102)],[],.run,none⟩
def Kg(Qa:List Int)(i:Int)(ys:List Span):List Value:=[Value.func (Fn.func 103) #[] #[pA 1 0],.slice (some {block:=3,off:=0}) rf.Qb.length 2,Qw 0 (QC rf.Qb.length (Qe Qi rf.Qb)),YI (↑rf.Qb.length:Int),YI i]
def Kf(rf:Ql)(Qa:List Int)(i:Int)(ys:List Span):List Obj:=[]
def VM(rf:Ql)(Qa:List Int)(i:Int)(ys:List Span):List Obj:=[.cells (Qe Qj ys) 38 (0,0)]
def Kh:List Item:=([.code [1,1,0,1,0,0],.inLoop [1,1,0,1,0,0],.inBlock 0,.code [1,1,1]]).map (it (QG YP 102))
def Rg(Qm:Nat->Value):Qq:=[(4,Obj.cells (TS (rf.Qb.getD i.toNat La)) 54),(2,Obj.coro none),(3,Obj.cells (Qe Qj ys) 38),(1,Obj.cells #[Qw 0 (QC rf.Qb.length (Qe Qi rf.Qb)),YI rf.Qc,YI rf.Qd,YI (Qa.getD 0 0),YI (Qa.getD 1 0),YI (Qa.getD 2 0),YI (Qa.getD 3 0)] 84),(0,Obj.coro none)]
def TT(Qa:List Int)(i:Int)(ys:List Span)(Qm:Nat->Value):CF:=⟨103,ofList 13 [.agg (TS (rf.Qb.getD i.toNat La)),pA 1 0],[Item.code (QG YP 103)],[],.run,none⟩
theorem B8(B:Lo)(rf:Ql)(Qa:List Int)(i:Int)(ys:List Span)(Qm:Nat->Value):let a:=rf.Qb.getD i.toNat La;CE.finK 5 (Qo YP (Q1 YP) J0 B 6 5 (TT rf Qa i ys Qm) (Rg rf Qa i ys Qm) 5
 [(9,Qh.pure (YI (Qg.count (KB rf i)+Le (TQ rf i) 1000)) [])] 0 [] []) [] [] []=some (OO.ret (nq rf i),[],[],
 [Qr []/\Qn YP J0 100 #[YI a.count,YI rf.Qc] (YI (a.count+Le (a.count*rf.Qc) 1000))]):=by intro a;kernel_rfl
theorem B7(B:Lo)(rf:Ql)(Qa:List Int)(i:Int)(ys:List Span)(Qm:Nat->Value):let f:=VM rf Qa i ys;let e:=KB rf i;let d:=Lb i;let c:=rf.Qb;let b:=c.getD d La;let a:=LM ys d {lo:=e.count,hi:=e.count+Le (TQ rf i) 1000};CE.landA 2 (Qo YP (Q1 YP) J0 B 13 2 (XV (none) 102 26 (([1,5,11,12,13]:List Nat).zip (Kg rf Qa i ys)) Qm Kh) (XF (WT rf Qa) 2 (([]:List Nat).zip (Kf rf Qa i ys)) f) (2+1+f.length)
 [(0,Z5),(2,Qh.tidx d (TS e)),(11,Qh.call (Lg 5) (OO.ret (nq rf i)) ([]++(5,Xx)::Xa 6 []) 6 []),(12,Qh.XD (Hint.idx d)),(13,Qh.XD (Hint.st (nn rf i ys))),(14,Wy (i+1))] 0 [] []) [1,5,11,12,13] [] [(3,KS.cells [] (nn rf i ys))] []=some ⟨102,26,Kh,[],.run,none,Kg rf Qa (i+1) a,([]:List Nat).zip (Kf rf Qa (i+1) a),VM rf Qa (i+1) a,
 [Q0 2 [] (nr rf i ys) (nr rf i ys),wq (i+1)=i+1,0+Lb i*2+TypeInfo.size Try.t38<=LG (Qe Qj ys)/\splice (Qe Qj ys) (0+Lb i*2) (Value.cells (Zc {len:=16000,tr:=Tri.set 14 (Tri.set 14 Tri.lf 22 (nt rf i)) 23 (.pointer (some {block:=3,off:=0+Lb i*2}))} 22))=Qe Qj (LM ys d {lo:=b.count,hi:=b.count+Le (b.count*rf.Qc) 1000}),i=(↑d:Int)/\Lb i<Lc c,FJ YP B (TT rf Qa i ys Qm) (Rg rf Qa i ys Qm) 5 (OO.ret (nt rf i)) (([]++((5,Xx)::Xa (5+1) []))++Rg rf Qa i ys Qm) 6 (Lg 5) [],Kl i c.length (Qe Qi c) Try.t54.size (TS b),XC i (↑c.length:Int)=true]⟩:=by intro f e d c b a;kernel_rfl
theorem B6(B:Lo)(rf:Ql)(Qa:List Int)(i:Int)(ys:List Span)(Qm:Nat->Value):let c:=VM rf Qa i ys;let b:=Lc rf.Qb;let a:=Fz.cs {k:=3,rs:=[],cs:=Qe Qj ys};CE.finK 2 (Qo YP (Q1 YP) J0 B 9 2 (XV (none) 102 26 (([1,5,11,12,13]:List Nat).zip (Kg rf Qa i ys)) Qm Kh) (XF (WT rf Qa) 2 (([]:List Nat).zip (Kf rf Qa i ys)) c) (2+1+c.length)
 [(0,ZW)] 0 [] []) [] [] [{k:=3,rs:=[],cs:=Qe Qj ys}]=some (OO.ret (Qw 2 (QC b a)),[],[],
 [X8 (Fz.rs {k:=3,rs:=[],cs:=Qe Qj ys}) (Qe Qj ys) a,XC i (↑b:Int)=false]):=by intro c b a;kernel_rfl
end
set_option maxHeartbeats 4000000 in
theorem qG(rf:Ql)(Qa:List Int)(hn:rf.Qb.length<=1000000)(hm:0<=rf.Qc/\rf.Qc<=2000)(hc:∀k:Int,0<=k->k<rf.Qb.length->0<=(rf.Qb.getD k.toNat La).count/\(rf.Qb.getD k.toNat La).count<=1000000){B:Lo}(hJ:∀w,B.has w->J0 w):∀m:Nat,(∀(i:Int) (ys:List Span),(rf.Qb.length-i.toNat)=m->∀(h0:0<=i) (hy:ys=Sd (XB rf.Qc) ⟨0,0⟩ rf.Qb i),(∃Qm:Nat->Value,(∀t,Xi (Qm t))/\GoE YP B (YT rf Qa) (WT rf Qa) 2 (XV (none) 102 26 (([1,5,11,12,13]:List Nat).zip (Kg rf Qa i ys)) Qm Kh) (XF (WT rf Qa) 2 (([]:List Nat).zip (Kf rf Qa i ys)) (VM rf Qa i ys)) (2+1+(VM rf Qa i ys).length) ([]:List Nat))->FinK YP B (YT rf Qa) (WT rf Qa) 2 (.ret (Qw 2 (YK (rf.Qb.map (XB rf.Qc))))) (([]:List Nat).zip ([])) ([]) ([]:List Nat)):=by
 intro m0;induction m0 using Lz with
 |_ m0 ih0=>
  intro i ys YA h0 hy ⟨Qm,ZF,Xs⟩;have hyl:ys.length=rf.Qb.length:=by rw[hy];exact Tt
  by_cases q0:(i:Int)<((↑rf.Qb.length:Int))
  ·have rj1:FJ YP B (TT rf Qa i ys Qm) (Rg rf Qa i ys Qm) 5 (OO.ret (.agg #[YI (Qg.count (rf.Qb.getD i.toNat La)),YI (Qg.count (rf.Qb.getD i.toNat La)+Le (Qg.count (rf.Qb.getD i.toNat La)*rf.Qc) 1000)])) (([]++((5,Xx)::Xa (5+1) []))++Rg rf Qa i ys Qm) 6 (Lg 5) []:=by
    have hc1:=hc i h0 q0;exact FinK.fjB (GoE.finK okF hJ Qf (Q6 (by kernel_rfl)) (Qy (by kernel_rfl)) ((GoE.refl (P:=YP) (B:=B) (c0:=TT rf Qa i ys Qm) (Q6 (by kernel_rfl))).widen (Wf:=((([]):List (Nat×KS)).map (·.1))) (by simp) (Qy (by kernel_rfl))) (B8 B rf Qa i ys Qm)
     ⟨⟨trivial,eC (Qg.count (rf.Qb.getD i.toNat La)) rf.Qc (by omega) (by omega)⟩,trivial⟩) (ex:=[3]) (by kernel_rfl) ⟨trivial,⟨trivial,⟨(JX (t:=38) (fl:=(0,0)) (fun x=>List.all_eq_true.1 (by rfl))),⟨trivial,⟨trivial,trivial⟩⟩⟩⟩⟩
   have hc1:=hc i h0 q0;exact((ih0 _ (by omega)) (i+1) (LM ys i.toNat {lo:=Qg.count (rf.Qb.getD i.toNat La),hi:=Qg.count (rf.Qb.getD i.toNat La)+Le (Qg.count (rf.Qb.getD i.toNat La)*rf.Qc) 1000}) rfl (by omega) (by(subst hy;exact Ts (f:=XB rf.Qc) h0 q0))
    (GoE.landA okF hJ Qf (Q6 (by kernel_rfl)) (Qy (by kernel_rfl)) Xs (B7 B rf Qa i ys Qm)
    (by exact⟨(Zf fun _=>by rfl),⟨(QY (by omega) (by omega)),⟨(by exact S6 (z:=2) (k:=Lb i) (fun _=>rfl) (by first|omega|(rw[LS];omega)|(rw[LF];omega)) rfl rfl),⟨⟨by omega,by omega⟩,⟨rj1,⟨⟨by omega,by omega,(Qs (z:=12) (fun _=>rfl) (by omega))⟩,⟨(Xd q0),trivial⟩⟩⟩⟩⟩⟩⟩) (by kernel_rfl) (by kernel_rfl) (fun l hl=>by cases hl <;> decide))).cast (by rfl) (by rfl) (by rfl)
  ·exact(GoE.finK okF hJ Qf (Q6 (by kernel_rfl)) (Qy (by kernel_rfl)) Xs (B6 B rf Qa i ys Qm)
    ⟨(Xc (fun x=>List.all_eq_true.1 (by rfl))),⟨(X9 (Int.not_lt.1 q0)),trivial⟩⟩).cast (by exact congrArg (fun v=>OO.ret (Qw _ v)) (fG (hy.trans (Tu (by omega))) (by simp))) (by rfl) (by rfl)

theorem B9(B:Lo)(rf:Ql)(Qa:List Int):let a:=Lc rf.Qb;let c:=Ln a {lo:=0,hi:=0};let b:=Zc {len:=16000,tr:=Tri.set 14 Tri.lf 9 (YI (↑a:Int))} 9;CE.landA 2 (Qo YP (Q1 YP) J0 B 9 2 (YT rf Qa) (WT rf Qa) 2
 [(3,Qh.XD (Hint.mk a (np rf)))] 0 [] []) [1,5,11,12,13] [] [(2,KS.rows [] [] [] (j7 rf))] []=some ⟨102,26,Kh,[],.run,none,Kg rf Qa (0) c,([]:List Nat).zip (Kf rf Qa (0) c),VM rf Qa (0) c,
 [Xj 2 [] [] [] (np rf) (j7 rf),Sg YP 36 b b=some (38,Qe (Ue [YI 0,YI 0]) (Ln a ()),Lc rf.Qb,TypeInfo.size Try.t38)]⟩:=by intro a c b;kernel_rfl
theorem B5(B:Lo)(rf:Ql)(Qa:List Int):let a:=OO.ret (B4 rf);QO (Qo YP (Q1 YP) J0 B 6 1 (Qp YP 82 8 (([.agg (QF rf Qa).toArray]).map (Q2 0 4))) XW 1
 [(6,Qh.call (Lg 2) a ([]++(2,Xx)::Xa 3 []) 3 [])] 0 [] []) []=some (QC (Lc (TP rf)) (Qe Qj (TP rf)),
 [FJ YP B (YT rf Qa) (WT rf Qa) 2 a (([]++((2,Xx)::Xa (2+1) []))++WT rf Qa) 3 (Lg 2) []]):=by intro a;kernel_rfl
set_option maxHeartbeats 4000000 in
theorem ES(rf:Ql)(Qa:List Int)(hn:rf.Qb.length<=1000000)(hm:0<=rf.Qc/\rf.Qc<=2000)(hc:∀k:Int,0<=k->k<rf.Qb.length->0<=(rf.Qb.getD k.toNat La).count/\(rf.Qb.getD k.toNat La).count<=1000000){B:Lo}(hJ:∀w,B.has w->J0 w):EndsT YP B (Qp YP 82 8 (([.agg (QF rf Qa).toArray]).map (Q2 0 4))) (YK (rf.Qb.map (XB rf.Qc))):=by
 have rj0:FJ YP B (YT rf Qa) (WT rf Qa) 2 (OO.ret (Qw 2 (QC (Lc (List.map (XB rf.Qc) rf.Qb)) (Qe Qj (List.map (XB rf.Qc) rf.Qb))))) (([]++((2,Xx)::Xa (2+1) []))++WT rf Qa) 3 (Lg 2) []:=by
  exact FinK.fjB ((qG rf Qa hn hm hc hJ _) (0) (Ln rf.Qb.length {lo:=0,hi:=0}) rfl (by omega) (by exact ic)
   (GoE.landA okF hJ Qf (Q6 (by kernel_rfl)) (Qy (by kernel_rfl)) ((GoE.refl (P:=YP) (B:=B) (c0:=YT rf Qa) (Q6 (by kernel_rfl))).widen (Wf:=((([]):List (Nat×KS)).map (·.1))) (by simp) (Qy (by kernel_rfl))) (B9 B rf Qa)
   ⟨(by exact(V2 (by exact⟨(.simple rfl),⟨(.simple rfl),trivial⟩⟩) _)),⟨(fg (bytes:=16) (by kernel_rfl) (by omega) (by omega) (by omega)),trivial⟩⟩ (by kernel_rfl) (by kernel_rfl) (fun l hl=>by cases hl <;> decide))) (ex:=[]) (by kernel_rfl) (Vr _)
 exact(GoE.endsT okF hJ Qf GoE.start (B5 B rf Qa)
  ⟨rj0,trivial⟩).cast (by rfl)
theorem sW(rf:Ql)(Qa:List Int)(hn:rf.Qb.length<=1000000)(hm:0<=rf.Qc/\rf.Qc<=2000)(hc:∀k:Int,0<=k->k<rf.Qb.length->0<=(rf.Qb.getD k.toNat La).count/\(rf.Qb.getD k.toNat La).count<=1000000):Qn YP J0 82 #[.agg (QF rf Qa).toArray] (YK (rf.Qb.map (XB rf.Qc))):=
 Xb (ts:=[.agg (QF rf Qa).toArray]) XZ (c0:=Qp YP 82 8 (([.agg (QF rf Qa).toArray]).map (Q2 0 4))) (by kernel_rfl) (by kernel_rfl) fun B hJ=>ES rf Qa hn hm hc hJ
end
end Go.Proofs.Ytncjjangllkokaa

namespace Go.Proofs.Ytncjjangllkokaa
open Go Go.CE Go.RowKit
noncomputable section
set_option maxRecDepth 100000
def Ka{β:Type}(n:Int)(f:Int->β):List β:=(Yq 0 n).map f
theorem Xk{β:Type}{n:Int}{f:Int->β}:(Ka n f).length=n.toNat:=by simp[Ka,Yq]
theorem Jr{β:Type}{n:Int}{f:Int->β}{k:Nat}(h:k<n.toNat):(Ka n f)[k]? =some (f k):=by
 unfold Ka Yq;rw[LC,LC,List.getElem?_range (by omega)];simp
theorem XQ{β:Type}[Inhabited β]{n k:Int}{f:Int->β}(h0:0<=k)(h:k<n):(Ka n f).getD k.toNat La=f k:=by
 rw[Lq,Jr (by omega),show((k.toNat:Nat):Int)=k by omega];rfl
theorem W5{β:Type}{n:Int}{f g:Int->β}(h:∀k,0<=k->k<n->f k=g k):Ka n f=Ka n g:=by
 refine List.ext_getElem? fun k=> ?_
 by_cases hk:k<n.toNat
 ·rw[Jr hk,Jr hk,h k (by omega) (by omega)]
 ·rw[LA (by rw[Xk];omega),LA (by rw[Xk];omega)]
theorem fw{β:Type}{n i:Int}{f:Int->β}{v:β}(h0:0<=i)(h:i<n):(Ka n f).set i.toNat v=Ka n (fun k=>if k=i then v else f k):=by
 refine List.ext_getElem? fun k=> ?_
 by_cases hk:k<n.toNat
 ·rw[List.getElem?_set,Xk,Jr hk,Jr hk];by_cases e:i.toNat=k
  ·rw[if_pos e,if_pos (by omega),if_pos (by omega)]
  ·rw[if_neg e,if_neg (by omega)]
 ·rw[LA (by rw[LS,Xk];omega),LA (by rw[Xk];omega)]
theorem hQ{α β:Type}[Inhabited α]{xs:List α}{f:α->β}:xs.map f=Ka xs.length (fun k=>f (xs.getD k.toNat La)):=by
 refine List.ext_getElem? fun k=> ?_
 by_cases hk:k<xs.length
 ·rw[Jr (by omega),LC,LZ hk];simp[Lq,hk]
 ·rw[LA (by simp;omega),LA (by rw[Xk];omega)]
def GC(x:Qg):Span:=⟨x.VV,x.VW⟩
def UW(p k:Int)(x:Qg):Span:=if hasB p k then GC x else Y4 x
def XE(ps:List Qg)(p:Int):List Span:=Ka ps.length fun k=>UW p k (ps.getD k.toNat La)
def TH(ps:List Qg)(p i:Int):List Span:=Ka ps.length fun k=>if k<i then UW p k (ps.getD k.toNat La)else Y4 (ps.getD k.toNat La)
theorem G8{ps:List Qg}{p:Int}:ps.map Y4=TH ps p 0:=by
 rw[hQ];exact W5 fun k h0 _=>by rw[if_neg (by omega)]
theorem Bi{ps:List Qg}{p i:Int}(h:ps.length<=i):TH ps p i=XE ps p:=W5 fun k h0 h1=>by rw[if_pos (by omega)]
theorem Er{ps:List Qg}{p i:Int}(h0:0<=i)(h:hasB p i=false):TH ps p i=TH ps p (i+1):=W5 fun k g0 g1=>by
 by_cases e:k=i
 ·subst e;rw[if_neg (by omega),if_pos (by omega),UW,h];rfl
 ·by_cases e2:k<i
  ·rw[if_pos e2,if_pos (by omega)]
  ·rw[if_neg e2,if_neg (by omega)]
theorem m4{ps:List Qg}{p i:Int}(h0:0<=i)(h1:i<ps.length)(h:hasB p i=true):(TH ps p i).set i.toNat (GC (ps.getD i.toNat La))=TH ps p (i+1):=by
 unfold TH;rw[fw h0 h1];refine W5 fun k g0 g1=> ?_
 by_cases e:k=i
 ·subst e;rw[if_pos rfl,if_pos (by omega),UW,h];rfl
 ·rw[if_neg e];by_cases e2:k<i
  ·rw[if_pos e2,if_pos (by omega)]
  ·rw[if_neg e2,if_neg (by omega)]
theorem ON{n k:Int}(hn:0<=n):0<=((ej n k:Nat):Int)/\((ej n k:Nat):Int)<=n:=by
 have:=No (a:=n) (n:=k);omega
section
variable (x_:Qg)(rf:Ql)(Qa:List Int)(k i:Int)
def P7:Array Value:=#[YI x_.count,YI x_.room,YI x_.Ys,YI x_.Yt,YI x_.Xh,YI x_.Zq,YI x_.VZ,YI x_.Ua,YI x_.VV,YI x_.VW,YI x_.goal,YI x_.VF]
def cB:Array Value:=let i:=rf.Qc;let g:=rf.Qd;let f:=Qa.getD 3 0;let e:=Qa.getD 2 0;let d:=Qa.getD 1 0;let c:=Qa.getD 0 0;let b:=rf.Qb;let h:=Lc b;let a:=QC h (Qe Qi b);#[.agg #[Qw 0 a,YI i,YI g,YI c,YI d,YI e,YI f],YI k,pA 1 0,.tuple #[],.slice none 0 0,pA 4 0,.tuple #[],pA 1 0,pA 1 0,Qw 0 a,.slice (some {block:=3,off:=0}) h 2,.agg #[Qw 0 a,YI i,YI g,YI c,YI d,YI e,YI f],YI k,Value.func (Fn.func 112) #[] #[Qw 5 (SQ 0 #[QC h (Qe Qi b),YI i,YI g,YI c,YI d,YI e,YI f]),Qw 5 (SQ 0 #[YI k])],.tuple #[],.tuple #[],.tuple #[],.tuple #[],.tuple #[],.tuple #[],.tuple #[],.tuple #[],.tuple #[],.tuple #[],.tuple #[],.tuple #[]]
def cA:Array Value:=#[QC rf.Qb.length (Qe Qi rf.Qb),YI rf.Qc,YI rf.Qd,YI (Qa.getD 0 0),YI (Qa.getD 1 0),YI (Qa.getD 2 0),YI (Qa.getD 3 0)]
def EE:Value:=(.agg #[YI (Qg.VZ (rf.Qb.getD i.toNat La)),YI (Qg.Ua (rf.Qb.getD i.toNat La))])
def VL(k:Int):Qq:=[(1,Obj.cells #[Qw 0 (QC rf.Qb.length (Qe Qi rf.Qb)),YI rf.Qc,YI rf.Qd,YI (Qa.getD 0 0),YI (Qa.getD 1 0),YI (Qa.getD 2 0),YI (Qa.getD 3 0)] 84),(0,Obj.coro none)]
def P9(Qa:List Int)(k:Int):CF:=⟨102,ofList 26 [Qw 0 (QC rf.Qb.length (Qe Qi rf.Qb)),Value.func (Fn.func 105) #[] #[]],[Item.code (QG YP 102)],[],.run,none⟩
def Y1(Qa:List Int)(k:Int)(i:Int)(ys:List Span):List Value:=[Value.func (Fn.func 105) #[] #[],.slice (some {block:=3,off:=0}) rf.Qb.length 2,Qw 0 (QC rf.Qb.length (Qe Qi rf.Qb)),YI (↑rf.Qb.length:Int),YI i]
def Y0(rf:Ql)(Qa:List Int)(k:Int)(i:Int)(ys:List Span):List Obj:=[]
def UQ(rf:Ql)(Qa:List Int)(k:Int)(i:Int)(ys:List Span):List Obj:=[.cells (Qe Qj ys) 38 (0,0)]
def Y2:List Item:=([.code [1,1,0,1,0,0],.inLoop [1,1,0,1,0,0],.inBlock 0,.code [1,1,1]]).map (it (QG YP 102))
def SO(k:Int)(i:Int)(ys:List Span)(Qm:Nat->Value):Qq:=[(4,Obj.cells (P7 (rf.Qb.getD i.toNat La)) 54),(2,Obj.coro none),(3,Obj.cells (Qe Qj ys) 38),(1,Obj.cells #[Qw 0 (QC rf.Qb.length (Qe Qi rf.Qb)),YI rf.Qc,YI rf.Qd,YI (Qa.getD 0 0),YI (Qa.getD 1 0),YI (Qa.getD 2 0),YI (Qa.getD 3 0)] 84),(0,Obj.coro none)]
def cE(Qa:List Int)(k:Int)(i:Int)(ys:List Span)(Qm:Nat->Value):CF:=⟨105,ofList 5 [.agg (P7 (rf.Qb.getD i.toNat La))],[Item.code (QG YP 105)],[],.run,none⟩
theorem EN(B:Lo)(rf:Ql)(Qa:List Int)(k:Int)(i:Int)(ys:List Span)(Qm:Nat->Value):let a:=rf.Qb.getD i.toNat La;CE.finK 5 (Qo YP (Q1 YP) J0 B 6 5 (cE rf Qa k i ys Qm) (SO rf Qa k i ys Qm) 5
 [] 0 [] []) [] [] []=some (OO.ret (.agg #[YI a.VZ,YI a.Ua]),[],[],
 []):=by intro a;kernel_rfl
theorem EM(B:Lo)(rf:Ql)(Qa:List Int)(k:Int)(i:Int)(ys:List Span)(Qm:Nat->Value):let g:=UQ rf Qa k i ys;let f:=EE rf i;let d:=Lb i;let c:=rf.Qb;let b:=c.getD d La;let a:=LM ys d {lo:=b.VZ,hi:=b.Ua};let e:=Qe Qj a;CE.landA 2 (Qo YP (Q1 YP) J0 B 13 2 (XV (none) 102 26 (([1,5,11,12,13]:List Nat).zip (Y1 rf Qa k i ys)) Qm Y2) (XF (VL rf Qa k) 2 (([]:List Nat).zip (Y0 rf Qa k i ys)) g) (2+1+g.length)
 [(0,Z5),(2,Qh.tidx d (P7 b)),(11,Qh.call (Lg 5) (OO.ret f) ([]++(5,Xx)::Xa 6 []) 6 []),(12,Qh.XD (Hint.idx d)),(13,Qh.XD (Hint.st e)),(14,Wy (i+1))] 0 [] []) [1,5,11,12,13] [] [(3,KS.cells [] e)] []=some ⟨102,26,Y2,[],.run,none,Y1 rf Qa k (i+1) a,([]:List Nat).zip (Y0 rf Qa k (i+1) a),UQ rf Qa k (i+1) a,
 [Q0 2 [] e e,wq (i+1)=i+1,0+Lb i*2+TypeInfo.size Try.t38<=LG (Qe Qj ys)/\splice (Qe Qj ys) (0+Lb i*2) (Value.cells (Zc {len:=16000,tr:=Tri.set 14 (Tri.set 14 Tri.lf 22 f) 23 (.pointer (some {block:=3,off:=0+Lb i*2}))} 22))=Qe Qj a,i=(↑d:Int)/\Lb i<Lc c,FJ YP B (cE rf Qa k i ys Qm) (SO rf Qa k i ys Qm) 5 (OO.ret f) (([]++((5,Xx)::Xa (5+1) []))++SO rf Qa k i ys Qm) 6 (Lg 5) [],i=(↑d:Int)/\Lb i<Lc c/\Lh (Qe Qi c) (Lb i*TypeInfo.size Try.t54) (Lb i*TypeInfo.size Try.t54+TypeInfo.size Try.t54)=(P7 b),XC i (↑c.length:Int)=true]⟩:=by intro g f d c b a e;kernel_rfl
theorem EL(B:Lo)(rf:Ql)(Qa:List Int)(k:Int)(i:Int)(ys:List Span)(Qm:Nat->Value):let c:=UQ rf Qa k i ys;let b:=Lc rf.Qb;let a:=Qe Qj ys;CE.finK 2 (Qo YP (Q1 YP) J0 B 9 2 (XV (none) 102 26 (([1,5,11,12,13]:List Nat).zip (Y1 rf Qa k i ys)) Qm Y2) (XF (VL rf Qa k) 2 (([]:List Nat).zip (Y0 rf Qa k i ys)) c) (2+1+c.length)
 [(0,ZW)] 0 [] []) [] [(3,KS.cells [] a)] []=some (OO.ret (.slice (some {block:=3,off:=0}) b 2),[],[Obj.cells a 38],
 [Q0 2 [] a a,XC i (↑b:Int)=false]):=by intro c b a;kernel_rfl
end
set_option maxHeartbeats 4000000 in
theorem sR(rf:Ql)(Qa:List Int)(k:Int)(hn:rf.Qb.length<=4)(hl:Qa.length<=4)(k0:0<=k)(k1:k<4)(hp:∀j:Nat,0<=Qa.getD j 0/\Qa.getD j 0<=1000000){B:Lo}(hJ:∀w,B.has w->J0 w):∀m:Nat,(∀(i:Int) (ys:List Span),(rf.Qb.length-i.toNat)=m->∀(h0:0<=i) (hy:ys=Sd Y4 ⟨0,0⟩ rf.Qb i),(∃Qm:Nat->Value,(∀t,Xi (Qm t))/\GoE YP B (P9 rf Qa k) (VL rf Qa k) 2 (XV (none) 102 26 (([1,5,11,12,13]:List Nat).zip (Y1 rf Qa k i ys)) Qm Y2) (XF (VL rf Qa k) 2 (([]:List Nat).zip (Y0 rf Qa k i ys)) (UQ rf Qa k i ys)) (2+1+(UQ rf Qa k i ys).length) ([]:List Nat))->FinK YP B (P9 rf Qa k) (VL rf Qa k) 2 (.ret (.slice (some ⟨3,0,none⟩) rf.Qb.length 2)) (([]:List Nat).zip ([])) ([.cells (Qe Qj (rf.Qb.map Y4)) 38 (0,0)]) ([]:List Nat)):=by
 intro m0;induction m0 using Lz with
 |_ m0 ih0=>
  intro i ys YA h0 hy ⟨Qm,ZF,Xs⟩;have hyl:ys.length=rf.Qb.length:=by rw[hy];exact Tt
  by_cases q0:(i:Int)<((↑rf.Qb.length:Int))
  ·have rj1:FJ YP B (cE rf Qa k i ys Qm) (SO rf Qa k i ys Qm) 5 (OO.ret (.agg #[YI (Qg.VZ (rf.Qb.getD i.toNat La)),YI (Qg.Ua (rf.Qb.getD i.toNat La))])) (([]++((5,Xx)::Xa (5+1) []))++SO rf Qa k i ys Qm) 6 (Lg 5) []:=by
    exact FinK.fjB (GoE.finK okF hJ Qf (Q6 (by kernel_rfl)) (Qy (by kernel_rfl)) ((GoE.refl (P:=YP) (B:=B) (c0:=cE rf Qa k i ys Qm) (Q6 (by kernel_rfl))).widen (Wf:=((([]):List (Nat×KS)).map (·.1))) (by simp) (Qy (by kernel_rfl))) (EN B rf Qa k i ys Qm)
     trivial) (ex:=[3]) (by kernel_rfl) ⟨trivial,⟨trivial,⟨(JX (t:=38) (fl:=(0,0)) (fun x=>List.all_eq_true.1 (by rfl))),⟨trivial,⟨trivial,trivial⟩⟩⟩⟩⟩
   exact((ih0 _ (by omega)) (i+1) (LM ys i.toNat {lo:=Qg.VZ (rf.Qb.getD i.toNat La),hi:=Qg.Ua (rf.Qb.getD i.toNat La)}) rfl (by omega) (by(subst hy;exact Ts (f:=Y4) h0 q0))
    (GoE.landA okF hJ Qf (Q6 (by kernel_rfl)) (Qy (by kernel_rfl)) Xs (EM B rf Qa k i ys Qm)
    (by exact⟨(Zf fun _=>by rfl),⟨(QY (by omega) (by omega)),⟨(by exact S6 (z:=2) (k:=Lb i) (fun _=>rfl) (by first|omega|(rw[LS];omega)|(rw[LF];omega)) rfl rfl),⟨⟨by omega,by omega⟩,⟨rj1,⟨⟨by omega,by omega,(Qs (z:=12) (fun _=>rfl) (by omega))⟩,⟨(Xd q0),trivial⟩⟩⟩⟩⟩⟩⟩) (by kernel_rfl) (by kernel_rfl) (fun l hl=>by cases hl <;> decide))).cast (by rfl) (by rfl) (by rfl)
  ·exact(GoE.finK okF hJ Qf (Q6 (by kernel_rfl)) (Qy (by kernel_rfl)) Xs (EL B rf Qa k i ys Qm)
    ⟨(Zf fun _=>by rfl),⟨(X9 (Int.not_lt.1 q0)),trivial⟩⟩).cast (by rfl) (by rfl) (by(rw[hy,Tu (by omega)];done))

section
variable (rf:Ql)(Qa:List Int)(k i:Int)
theorem EO(B:Lo)(rf:Ql)(Qa:List Int)(k:Int):let c:=Ue [YI 0,YI 0];let a:=Lc rf.Qb;let e:=Ln a ();let d:=Zc {len:=16000,tr:=Tri.set 14 Tri.lf 9 (YI (↑a:Int))} 9;let b:=Ln a {lo:=0,hi:=0};CE.landA 2 (Qo YP (Q1 YP) J0 B 9 2 (P9 rf Qa k) (VL rf Qa k) 2
 [(3,Qh.XD (Hint.mk a (Qe c e)))] 0 [] []) [1,5,11,12,13] [] [(2,KS.rows [] [] [] (Qe Qj b))] []=some ⟨102,26,Y2,[],.run,none,Y1 rf Qa k (0) b,([]:List Nat).zip (Y0 rf Qa k (0) b),UQ rf Qa k (0) b,
 [Xj 2 [] [] [] (Qe c e) (Qe Qj b),Sg YP 36 d d=some (38,Qe c e,Lc rf.Qb,TypeInfo.size Try.t38)]⟩:=by intro c a e d b;kernel_rfl
def SN(k:Int):Qq:=[(4,Obj.cells #[.slice (some {block:=3,off:=0}) rf.Qb.length 2] 36),(2,Obj.coro none),(3,Obj.cells (Qe Qj (List.map Y4 rf.Qb)) 38),(1,Obj.cells #[Qw 0 (QC rf.Qb.length (Qe Qi rf.Qb)),YI rf.Qc,YI rf.Qd,YI (Qa.getD 0 0),YI (Qa.getD 1 0),YI (Qa.getD 2 0),YI (Qa.getD 3 0)] 84),(0,Obj.coro none)]
def cD:CF:=⟨91,ofList 6 [.agg #[Qw 0 (QC rf.Qb.length (Qe Qi rf.Qb)),YI rf.Qc,YI rf.Qd,YI (Qa.getD 0 0),YI (Qa.getD 1 0),YI (Qa.getD 2 0),YI (Qa.getD 3 0)],YI k],[Item.code (QG YP 91)],[],.run,none⟩
theorem EK(B:Lo)(rf:Ql)(Qa:List Int)(k:Int):let i:=rf.Qc;let g:=rf.Qd;let e:=Qa.getD 3 0;let d:=Qa.getD 2 0;let c:=Qa.getD 1 0;let b:=Qa.getD 0 0;let a:=rf.Qb;let h:=Lc a;let f:=Qe Qi a;CE.finK 5 (Qo YP (Q1 YP) J0 B 6 5 (cD rf Qa k) (SN rf Qa k) 5
 [] 0 [] []) [] [] [{k:=5,rs:=[0],cs:=#[QC h f,YI i,YI g,YI b,YI c,YI d,YI e]},{k:=6,rs:=[],cs:=#[YI k]}]=some (OO.ret (Value.func (Fn.func 112) #[] #[Qw 5 (SQ 0 #[QC h f,YI i,YI g,YI b,YI c,YI d,YI e]),Qw 5 (SQ 0 #[YI k])]),[],[],
 [X8 (Fz.rs {k:=5,rs:=[0],cs:=(cA rf Qa)}) #[Qw 0 (QC h f),YI i,YI g,YI b,YI c,YI d,YI e] (Fz.cs {k:=5,rs:=[0],cs:=(cA rf Qa)}),X8 (Fz.rs {k:=6,rs:=[],cs:=#[YI k]}) #[YI k] (Fz.cs {k:=6,rs:=[],cs:=#[YI k]})]):=by intro i g e d c b a h f;kernel_rfl
def Ve:Qq:=[(7,Obj.loop {state:=LoopState.ready,pending:=none,fn:=84,tmps:=#[.agg #[Qw 0 (QC rf.Qb.length (Qe Qi rf.Qb)),YI rf.Qc,YI rf.Qd,YI (Qa.getD 0 0),YI (Qa.getD 1 0),YI (Qa.getD 2 0),YI (Qa.getD 3 0)],YI k,pA 1 0,.tuple #[],.slice none 0 0,pA 4 0,.tuple #[],pA 1 0,pA 1 0,Qw 0 (QC rf.Qb.length (Qe Qi rf.Qb)),.slice (some {block:=3,off:=0}) rf.Qb.length 2,.agg #[Qw 0 (QC rf.Qb.length (Qe Qi rf.Qb)),YI rf.Qc,YI rf.Qd,YI (Qa.getD 0 0),YI (Qa.getD 1 0),YI (Qa.getD 2 0),YI (Qa.getD 3 0)],YI k,Value.func (Fn.func 112) #[] #[Qw 5 (SQ 0 #[QC rf.Qb.length (Qe Qi rf.Qb),YI rf.Qc,YI rf.Qd,YI (Qa.getD 0 0),YI (Qa.getD 1 0),YI (Qa.getD 2 0),YI (Qa.getD 3 0)]),Qw 5 (SQ 0 #[YI k])],.tuple #[],.tuple #[],.tuple #[],.tuple #[],.tuple #[],.tuple #[],.tuple #[],.tuple #[],.tuple #[],.tuple #[],.tuple #[],.tuple #[]],params:=#[14],assign:=T4 (QG YP 84) [1,1,0,1,0,0],body:=T4 (QG YP 84) [1,1,0,1,0,1],defers:=6}),(6,Obj.deferred (some [])),(5,Obj.coro none),(4,Obj.cells #[.slice (some {block:=3,off:=0}) rf.Qb.length 2] 36),(2,Obj.coro none),(3,Obj.cells (Qe Qj (List.map Y4 rf.Qb)) 38),(1,Obj.cells #[Qw 0 (QC rf.Qb.length (Qe Qi rf.Qb)),YI rf.Qc,YI rf.Qd,YI (Qa.getD 0 0),YI (Qa.getD 1 0),YI (Qa.getD 2 0),YI (Qa.getD 3 0)] 84),(0,Obj.coro none)]
def P8:CF:=⟨112,ofList 27 [Value.func (Fn.yield 7) #[] #[],Qw 5 (SQ 0 #[QC rf.Qb.length (Qe Qi rf.Qb),YI rf.Qc,YI rf.Qd,YI (Qa.getD 0 0),YI (Qa.getD 1 0),YI (Qa.getD 2 0),YI (Qa.getD 3 0)]),Qw 5 (SQ 0 #[YI k])],[Item.code (QG YP 112)],[],.run,none⟩
def V5(ys:List Span):List Value:=let a:=rf.Qb;[Value.func (Fn.yield 7) #[] #[],Qw 5 (SQ 0 #[QC a.length (Qe Qi a),YI rf.Qc,YI rf.Qd,YI (Qa.getD 0 0),YI (Qa.getD 1 0),YI (Qa.getD 2 0),YI (Qa.getD 3 0)]),Qw 5 (SQ 0 #[YI k]),YI (↑a.length:Int),YI i]
def V4(i:Int)(ys:List Span):List Obj:=let j:=rf.Qc;let g:=rf.Qd;let f:=Qa.getD 3 0;let e:=Qa.getD 2 0;let d:=Qa.getD 1 0;let c:=Qa.getD 0 0;let b:=rf.Qb;let h:=Lc b;let a:=QC h (Qe Qi b);[Obj.loop {state:=LoopState.ready,pending:=none,fn:=84,tmps:=#[.agg #[Qw 0 a,YI j,YI g,YI c,YI d,YI e,YI f],YI k,pA 1 0,.tuple #[],.slice none 0 0,pA 4 0,.tuple #[],pA 1 0,pA 1 0,Qw 0 a,.slice (some {block:=3,off:=0}) h 2,.agg #[Qw 0 a,YI j,YI g,YI c,YI d,YI e,YI f],YI k,Value.func (Fn.func 112) #[] #[Qw 5 (SQ 0 #[QC h (Qe Qi b),YI j,YI g,YI c,YI d,YI e,YI f]),Qw 5 (SQ 0 #[YI k])],.tuple #[],.tuple #[],.tuple #[],.tuple #[],.tuple #[],.tuple #[],.tuple #[],.tuple #[],.tuple #[],.tuple #[],.tuple #[],.tuple #[]],params:=#[14],assign:=T4 (QG YP 84) [1,1,0,1,0,0],body:=T4 (QG YP 84) [1,1,0,1,0,1],defers:=6},.cells (Qe Qj ys) 38 (0,0)]
def WK(rf:Ql)(Qa:List Int)(k:Int)(i:Int)(ys:List Span):List Obj:=[]
def V6:List Item:=([.code [1,0,0],.inLoop [1,0,0],.inBlock 0]).map (it (QG YP 112))
def iH(B:Lo)(rf:Ql)(Qa:List Int)(k:Int)(i:Int)(ys:List Span)(Qm:Nat->Value):List Prop:=let b:=Tri.set 14 Tri.lf 16 (YI i);let a:=Qk [Qa.getD 0 0,Qa.getD 1 0,Qa.getD 2 0,Qa.getD 3 0] k.toNat;let d:=YI a;let c:=YI (↑(ej a i):Int);[qD YP BinOp.and 3 (Zc {len:=16000,tr:=Tri.set 14 Tri.lf 17 c} 17) (YI 1) (YI (↑(uG (↑(ej a i):Int) 1):Int)),qD YP BinOp.shr 3 (Zc {len:=16000,tr:=Tri.set 14 b 15 d} 15) (Zc {len:=16000,tr:=Tri.set 14 b 15 d} 16) c,k=(↑k.toNat:Int)/\Lb k<4/\Lh (cA rf Qa) (3+Lb k*TypeInfo.size Try.t3) (3+Lb k*TypeInfo.size Try.t3+TypeInfo.size Try.t3)=#[YI a],XC i (↑rf.Qb.length:Int)=true]++([]:List Prop)
def r9(rf:Ql)(Qa:List Int)(k:Int)(i:Int)(ys:List Span)(Qm:Nat->Value):Q7:=let a:=Qk [Qa.getD 0 0,Qa.getD 1 0,Qa.getD 2 0,Qa.getD 3 0] k.toNat;[(0,Z5),(5,Qh.tarr k.toNat #[YI a]),(8,Qh.bin (YI (↑(ej a i):Int))),(9,Qh.bin (YI (↑(uG (↑(ej a i):Int) 1):Int)))]
def SM(i:Int)(ys:List Span)(Qm:Nat->Value):Qq:=[(7,Obj.loop {state:=LoopState.ready,pending:=none,fn:=84,tmps:=#[.agg #[Qw 0 (QC rf.Qb.length (Qe Qi rf.Qb)),YI rf.Qc,YI rf.Qd,YI (Qa.getD 0 0),YI (Qa.getD 1 0),YI (Qa.getD 2 0),YI (Qa.getD 3 0)],YI k,pA 1 0,.tuple #[],.slice none 0 0,pA 4 0,.tuple #[],pA 1 0,pA 1 0,Qw 0 (QC rf.Qb.length (Qe Qi rf.Qb)),.slice (some {block:=3,off:=0}) rf.Qb.length 2,.agg #[Qw 0 (QC rf.Qb.length (Qe Qi rf.Qb)),YI rf.Qc,YI rf.Qd,YI (Qa.getD 0 0),YI (Qa.getD 1 0),YI (Qa.getD 2 0),YI (Qa.getD 3 0)],YI k,Value.func (Fn.func 112) #[] #[Qw 5 (SQ 0 #[QC rf.Qb.length (Qe Qi rf.Qb),YI rf.Qc,YI rf.Qd,YI (Qa.getD 0 0),YI (Qa.getD 1 0),YI (Qa.getD 2 0),YI (Qa.getD 3 0)]),Qw 5 (SQ 0 #[YI k])],.tuple #[],.tuple #[],.tuple #[],.tuple #[],.tuple #[],.tuple #[],.tuple #[],.tuple #[],.tuple #[],.tuple #[],.tuple #[],.tuple #[]],params:=#[14],assign:=T4 (QG YP 84) [1,1,0,1,0,0],body:=T4 (QG YP 84) [1,1,0,1,0,1],defers:=6}),(3,Obj.cells (Qe Qj ys) 38),(8,Obj.coro none),(7,Obj.loop {state:=LoopState.ready,pending:=none,fn:=84,tmps:=#[.agg #[Qw 0 (QC rf.Qb.length (Qe Qi rf.Qb)),YI rf.Qc,YI rf.Qd,YI (Qa.getD 0 0),YI (Qa.getD 1 0),YI (Qa.getD 2 0),YI (Qa.getD 3 0)],YI k,pA 1 0,.tuple #[],.slice none 0 0,pA 4 0,.tuple #[],pA 1 0,pA 1 0,Qw 0 (QC rf.Qb.length (Qe Qi rf.Qb)),.slice (some {block:=3,off:=0}) rf.Qb.length 2,.agg #[Qw 0 (QC rf.Qb.length (Qe Qi rf.Qb)),YI rf.Qc,YI rf.Qd,YI (Qa.getD 0 0),YI (Qa.getD 1 0),YI (Qa.getD 2 0),YI (Qa.getD 3 0)],YI k,Value.func (Fn.func 112) #[] #[Qw 5 (SQ 0 #[QC rf.Qb.length (Qe Qi rf.Qb),YI rf.Qc,YI rf.Qd,YI (Qa.getD 0 0),YI (Qa.getD 1 0),YI (Qa.getD 2 0),YI (Qa.getD 3 0)]),Qw 5 (SQ 0 #[YI k])],.tuple #[],.tuple #[],.tuple #[],.tuple #[],.tuple #[],.tuple #[],.tuple #[],.tuple #[],.tuple #[],.tuple #[],.tuple #[],.tuple #[]],params:=#[14],assign:=T4 (QG YP 84) [1,1,0,1,0,0],body:=T4 (QG YP 84) [1,1,0,1,0,1],defers:=6}),(6,Obj.deferred (some [])),(5,Obj.coro none),(4,Obj.cells #[.slice (some {block:=3,off:=0}) rf.Qb.length 2] 36),(2,Obj.coro none),(3,Obj.cells (Qe Qj (List.map Y4 rf.Qb)) 38),(1,Obj.cells #[Qw 0 (QC rf.Qb.length (Qe Qi rf.Qb)),YI rf.Qc,YI rf.Qd,YI (Qa.getD 0 0),YI (Qa.getD 1 0),YI (Qa.getD 2 0),YI (Qa.getD 3 0)] 84),(0,Obj.coro none)]
def cC(ys:List Span)(Qm:Nat->Value):CF:=⟨84,ofList 26 [.agg #[Qw 0 (QC rf.Qb.length (Qe Qi rf.Qb)),YI rf.Qc,YI rf.Qd,YI (Qa.getD 0 0),YI (Qa.getD 1 0),YI (Qa.getD 2 0),YI (Qa.getD 3 0)],YI k,pA 1 0,.tuple #[],.slice none 0 0,pA 4 0,.tuple #[],pA 1 0,pA 1 0,Qw 0 (QC rf.Qb.length (Qe Qi rf.Qb)),.slice (some {block:=3,off:=0}) rf.Qb.length 2,.agg #[Qw 0 (QC rf.Qb.length (Qe Qi rf.Qb)),YI rf.Qc,YI rf.Qd,YI (Qa.getD 0 0),YI (Qa.getD 1 0),YI (Qa.getD 2 0),YI (Qa.getD 3 0)],YI k,Value.func (Fn.func 112) #[] #[Qw 5 (SQ 0 #[QC rf.Qb.length (Qe Qi rf.Qb),YI rf.Qc,YI rf.Qd,YI (Qa.getD 0 0),YI (Qa.getD 1 0),YI (Qa.getD 2 0),YI (Qa.getD 3 0)]),Qw 5 (SQ 0 #[YI k])],YI i,.tuple #[],.tuple #[],.tuple #[],.tuple #[],.tuple #[],.tuple #[],.tuple #[],.tuple #[],.tuple #[],.tuple #[],.tuple #[]],[Item.code (T4 (QG YP 84) [1,1,0,1,0,0]),Item.beginRound,Item.code (T4 (QG YP 84) [1,1,0,1,0,1])],[],.run,some 7⟩
theorem EI(B:Lo)(rf:Ql)(Qa:List Int)(k:Int)(i:Int)(ys:List Span)(Qm:Nat->Value):let p:=rf.Qc;let n:=rf.Qd;let l:=Qa.getD 3 0;let j:=Qa.getD 2 0;let h:=Qa.getD 1 0;let g:=Qa.getD 0 0;let e:=Lb i;let b:=rf.Qb;let o:=Lc b;let m:=Qe Qi b;let d:=QC o m;let c:=b.getD e La;let a:=LM ys e {lo:=c.VV,hi:=c.VW};let f:=Qe Qj a;CE.finK 9 (Qo YP (Q1 YP) J0 B 6 9 (cC rf Qa k i ys Qm) (SM rf Qa k i ys Qm) 9
 [(7,Qh.tidx e (P7 c)),(10,Qh.XD (Hint.idx e)),(11,Qh.XD (Hint.st f))] 0 [] []) [(7,KS.auto),(3,KS.cells [] f)] [] []=some (OO.ret (.bool true),[(7,Obj.loop {state:=LoopState.ready,pending:=none,fn:=84,tmps:=#[.agg #[Qw 0 d,YI p,YI n,YI g,YI h,YI j,YI l],YI k,pA 1 0,.tuple #[],.slice none 0 0,pA 4 0,.tuple #[],pA 1 0,pA 1 0,Qw 0 d,.slice (some {block:=3,off:=0}) o 2,.agg #[Qw 0 d,YI p,YI n,YI g,YI h,YI j,YI l],YI k,Value.func (Fn.func 112) #[] #[Qw 5 (SQ 0 #[QC o m,YI p,YI n,YI g,YI h,YI j,YI l]),Qw 5 (SQ 0 #[YI k])],.tuple #[],.tuple #[],.tuple #[],.tuple #[],.tuple #[],.tuple #[],.tuple #[],.tuple #[],.tuple #[],.tuple #[],.tuple #[],.tuple #[]],params:=#[14],assign:=T4 (QG YP 84) [1,1,0,1,0,0],body:=T4 (QG YP 84) [1,1,0,1,0,1],defers:=6}),(3,Obj.cells f 38)],[],
 [Q0 9 [] f f,0+Lb i*2+TypeInfo.size Try.t38<=LG (Qe Qj ys)/\splice (Qe Qj ys) (0+Lb i*2) (Value.cells (Zc {len:=16000,tr:=Tri.set 14 (Tri.set 14 Tri.lf 23 (.agg #[YI c.VV,YI c.VW])) 24 (.pointer (some {block:=3,off:=0+Lb i*2}))} 23))=Qe Qj a,i=(↑e:Int)/\Lb i<Lc b,i=(↑e:Int)/\Lb i<Lc b/\Lh m (Lb i*TypeInfo.size Try.t54) (Lb i*TypeInfo.size Try.t54+TypeInfo.size Try.t54)=(P7 c)]):=by intro p n l j h g e b o m d c a f;kernel_rfl
theorem EH(B:Lo)(rf:Ql)(Qa:List Int)(k:Int)(i:Int)(ys:List Span)(Qm:Nat->Value):let f:=OO.ret (.bool true);let e:=WK rf Qa k i ys;let d:=rf.Qb.getD i.toNat La;let b:=QG YP 84;let a:=LM ys i.toNat {lo:=d.VV,hi:=d.VW};let c:=Qe Qj a;CE.landA 8 (Qo YP (Q1 YP) J0 B 16 8 (XV (none) 112 27 (([0,1,2,8,9]:List Nat).zip (V5 rf Qa k i ys)) Qm V6) (XF (Ve rf Qa k) 8 (([7,3]:List Nat).zip (V4 rf Qa k i ys)) e) (8+1+e.length)
 (r9 rf Qa k i ys Qm++[(10,Z5),(14,Qh.call (Lg 9) f ([(7,Obj.loop {state:=LoopState.ready,pending:=none,fn:=84,tmps:=(cB rf Qa k),params:=#[14],assign:=T4 b [1,1,0,1,0,0],body:=T4 b [1,1,0,1,0,1],defers:=6}),(3,Obj.cells c 38)]++(9,Xx)::Xa 10 []) 10 [7,3]),(17,Wy (i+1))]) 0 [] []) [0,1,2,8,9] [(7,KS.auto),(3,KS.cells [] c)] [] []=some ⟨112,27,V6,[],.run,none,V5 rf Qa k (i+1) a,([7,3]:List Nat).zip (V4 rf Qa k (i+1) a),WK rf Qa k (i+1) a,
 [Q0 8 [] c c,wq (i+1)=i+1,FJ YP B (cC rf Qa k i ys Qm) (SM rf Qa k i ys Qm) 9 f (([(7,Obj.loop {state:=LoopState.ready,pending:=none,fn:=84,tmps:=(cB rf Qa k),params:=#[14],assign:=T4 b [1,1,0,1,0,0],body:=T4 b [1,1,0,1,0,1],defers:=6}),(3,Obj.cells c 38)]++((9,Xx)::Xa (9+1) []))++SM rf Qa k i ys Qm) 10 (Lg 9) [7,3],Yo (↑(uG (↑(ej (Qk [Qa.getD 0 0,Qa.getD 1 0,Qa.getD 2 0,Qa.getD 3 0] k.toNat) i):Int) 1):Int) 1=true]++iH B rf Qa k i ys Qm⟩:=by intro f e d b a c;kernel_rfl
theorem EG(B:Lo)(rf:Ql)(Qa:List Int)(k:Int)(i:Int)(ys:List Span)(Qm:Nat->Value):let b:=Qe Qj ys;let a:=WK rf Qa k i ys;CE.landA 8 (Qo YP (Q1 YP) J0 B 16 8 (XV (none) 112 27 (([0,1,2,8,9]:List Nat).zip (V5 rf Qa k i ys)) Qm V6) (XF (Ve rf Qa k) 8 (([7,3]:List Nat).zip (V4 rf Qa k i ys)) a) (8+1+a.length)
 (r9 rf Qa k i ys Qm++[(10,ZW),(17,Wy (i+1))]) 0 [] []) [0,1,2,8,9] [(7,KS.auto),(3,KS.cells [] b)] [] []=some ⟨112,27,V6,[],.run,none,V5 rf Qa k (i+1) (ys),([7,3]:List Nat).zip (V4 rf Qa k (i+1) (ys)),WK rf Qa k (i+1) (ys),
 [Q0 8 [] b b,wq (i+1)=i+1,Yo (↑(uG (↑(ej (Qk [Qa.getD 0 0,Qa.getD 1 0,Qa.getD 2 0,Qa.getD 3 0] k.toNat) i):Int) 1):Int) 1=false]++iH B rf Qa k i ys Qm⟩:=by intro b a;kernel_rfl
theorem EF(B:Lo)(rf:Ql)(Qa:List Int)(k:Int)(i:Int)(ys:List Span)(Qm:Nat->Value):let l:=rf.Qc;let j:=WK rf Qa k i ys;let h:=rf.Qd;let g:=Qa.getD 3 0;let f:=Qa.getD 2 0;let e:=Qa.getD 1 0;let d:=Qa.getD 0 0;let c:=Qe Qj ys;let b:=Qe Qi rf.Qb;let a:=Lc rf.Qb;CE.finK 8 (Qo YP (Q1 YP) J0 B 7 8 (XV (none) 112 27 (([0,1,2,8,9]:List Nat).zip (V5 rf Qa k i ys)) Qm V6) (XF (Ve rf Qa k) 8 (([7,3]:List Nat).zip (V4 rf Qa k i ys)) j) (8+1+j.length)
 [(0,ZW)] 0 [] []) [(7,KS.auto),(3,KS.cells [] c)] [] []=some (OO.ret (.tuple #[]),[(7,Obj.loop {state:=LoopState.ready,pending:=none,fn:=84,tmps:=#[.agg #[Qw 0 (QC a b),YI l,YI h,YI d,YI e,YI f,YI g],YI k,pA 1 0,.tuple #[],.slice none 0 0,pA 4 0,.tuple #[],pA 1 0,pA 1 0,Qw 0 (QC a b),.slice (some {block:=3,off:=0}) a 2,.agg #[Qw 0 (QC a b),YI l,YI h,YI d,YI e,YI f,YI g],YI k,Value.func (Fn.func 112) #[] #[Qw 5 (SQ 0 #[QC a b,YI l,YI h,YI d,YI e,YI f,YI g]),Qw 5 (SQ 0 #[YI k])],.tuple #[],.tuple #[],.tuple #[],.tuple #[],.tuple #[],.tuple #[],.tuple #[],.tuple #[],.tuple #[],.tuple #[],.tuple #[],.tuple #[]],params:=#[14],assign:=T4 (QG YP 84) [1,1,0,1,0,0],body:=T4 (QG YP 84) [1,1,0,1,0,1],defers:=6}),(3,Obj.cells c 38)],[],
 [Q0 8 [] c c,XC i (↑a:Int)=false]):=by intro l j h g f e d c b a;kernel_rfl
end
set_option maxHeartbeats 4000000 in
theorem sQ(rf:Ql)(Qa:List Int)(k:Int)(hn:rf.Qb.length<=4)(hl:Qa.length<=4)(k0:0<=k)(k1:k<4)(hp:∀j:Nat,0<=Qa.getD j 0/\Qa.getD j 0<=1000000){B:Lo}(hJ:∀w,B.has w->J0 w):∀m:Nat,(∀(i:Int) (ys:List Span),rf.Qb.length-i.toNat=m->∀(i0:0<=i) (hy:ys=TH rf.Qb (Qa.getD k.toNat 0) i),(∃Qm:Nat->Value,(∀t,Xi (Qm t))/\GoE YP B (P8 rf Qa k) (Ve rf Qa k) 8 (XV (none) 112 27 (([0,1,2,8,9]:List Nat).zip (V5 rf Qa k i ys)) Qm V6) (XF (Ve rf Qa k) 8 (([7,3]:List Nat).zip (V4 rf Qa k i ys)) (WK rf Qa k i ys)) (8+1+(WK rf Qa k i ys).length) ([7,3]:List Nat))->FinK YP B (P8 rf Qa k) (Ve rf Qa k) 8 (.ret (.tuple #[])) (([7,3]:List Nat).zip ([Obj.loop {state:=LoopState.ready,pending:=none,fn:=84,tmps:=#[.agg #[Qw 0 (QC rf.Qb.length (Qe Qi rf.Qb)),YI rf.Qc,YI rf.Qd,YI (Qa.getD 0 0),YI (Qa.getD 1 0),YI (Qa.getD 2 0),YI (Qa.getD 3 0)],YI k,pA 1 0,.tuple #[],.slice none 0 0,pA 4 0,.tuple #[],pA 1 0,pA 1 0,Qw 0 (QC rf.Qb.length (Qe Qi rf.Qb)),.slice (some {block:=3,off:=0}) rf.Qb.length 2,.agg #[Qw 0 (QC rf.Qb.length (Qe Qi rf.Qb)),YI rf.Qc,YI rf.Qd,YI (Qa.getD 0 0),YI (Qa.getD 1 0),YI (Qa.getD 2 0),YI (Qa.getD 3 0)],YI k,Value.func (Fn.func 112) #[] #[Qw 5 (SQ 0 #[QC rf.Qb.length (Qe Qi rf.Qb),YI rf.Qc,YI rf.Qd,YI (Qa.getD 0 0),YI (Qa.getD 1 0),YI (Qa.getD 2 0),YI (Qa.getD 3 0)]),Qw 5 (SQ 0 #[YI k])],.tuple #[],.tuple #[],.tuple #[],.tuple #[],.tuple #[],.tuple #[],.tuple #[],.tuple #[],.tuple #[],.tuple #[],.tuple #[],.tuple #[]],params:=#[14],assign:=T4 (QG YP 84) [1,1,0,1,0,0],body:=T4 (QG YP 84) [1,1,0,1,0,1],defers:=6},.cells (Qe Qj (XE rf.Qb (Qa.getD k.toNat 0))) 38 (0,0)])) ([]) ([7,3]:List Nat)):=by
 intro m0;induction m0 using Lz with
 |_ m0 ih0=>
  intro i ys YA i0 hy ⟨Qm,ZF,Xs⟩;have hyl:ys.length=rf.Qb.length:=by rw[hy];simp[TH,Xk]
  have hpk:=hp k.toNat;have hse:=QaL (k:=k.toNat) hl;have RZ:=ON (n:=Qk [Qa.getD 0 0,Qa.getD 1 0,Qa.getD 2 0,Qa.getD 3 0] k.toNat) (k:=i) (by omega);by_cases q0:(i:Int)<((↑rf.Qb.length:Int))
  ·have Vw:Qr (iH B rf Qa k i ys Qm):=by
    exact⟨(Oo (by omega) (by omega) (by omega) (by omega)),⟨(On (by omega) (by omega) (by omega)),⟨⟨by omega,by omega,MU (fs:=[Qa.getD 0 0,Qa.getD 1 0,Qa.getD 2 0,Qa.getD 3 0]) rfl (Lu (m:=4) (by omega) rfl)⟩,⟨(Xd q0),trivial⟩⟩⟩⟩
   by_cases q1:((↑(uG (↑(ej (Qk [Qa.getD 0 0,Qa.getD 1 0,Qa.getD 2 0,Qa.getD 3 0] k.toNat) i):Int) 1):Int):Int)=(1)
   ·have rj3:FJ YP B (cC rf Qa k i ys Qm) (SM rf Qa k i ys Qm) 9 (OO.ret (.bool true)) (([(7,Obj.loop {state:=LoopState.ready,pending:=none,fn:=84,tmps:=#[.agg #[Qw 0 (QC rf.Qb.length (Qe Qi rf.Qb)),YI rf.Qc,YI rf.Qd,YI (Qa.getD 0 0),YI (Qa.getD 1 0),YI (Qa.getD 2 0),YI (Qa.getD 3 0)],YI k,pA 1 0,.tuple #[],.slice none 0 0,pA 4 0,.tuple #[],pA 1 0,pA 1 0,Qw 0 (QC rf.Qb.length (Qe Qi rf.Qb)),.slice (some {block:=3,off:=0}) rf.Qb.length 2,.agg #[Qw 0 (QC rf.Qb.length (Qe Qi rf.Qb)),YI rf.Qc,YI rf.Qd,YI (Qa.getD 0 0),YI (Qa.getD 1 0),YI (Qa.getD 2 0),YI (Qa.getD 3 0)],YI k,Value.func (Fn.func 112) #[] #[Qw 5 (SQ 0 #[QC rf.Qb.length (Qe Qi rf.Qb),YI rf.Qc,YI rf.Qd,YI (Qa.getD 0 0),YI (Qa.getD 1 0),YI (Qa.getD 2 0),YI (Qa.getD 3 0)]),Qw 5 (SQ 0 #[YI k])],.tuple #[],.tuple #[],.tuple #[],.tuple #[],.tuple #[],.tuple #[],.tuple #[],.tuple #[],.tuple #[],.tuple #[],.tuple #[],.tuple #[]],params:=#[14],assign:=T4 (QG YP 84) [1,1,0,1,0,0],body:=T4 (QG YP 84) [1,1,0,1,0,1],defers:=6}),(3,Obj.cells (Qe Qj (LM ys i.toNat {lo:=Qg.VV (rf.Qb.getD i.toNat La),hi:=Qg.VW (rf.Qb.getD i.toNat La)})) 38)]++((9,Xx)::Xa (9+1) []))++SM rf Qa k i ys Qm) 10 (Lg 9) [7,3]:=by
     have hyes:=m4 (ps:=rf.Qb) (p:=Qa.getD k.toNat 0) i0 q0 (by rw[<-sF,<-hse];exact decide_eq_true q1);exact FinK.fjB (GoE.finK okF hJ Qf (Q6 (by kernel_rfl)) (Qy (by kernel_rfl)) ((GoE.refl (P:=YP) (B:=B) (c0:=cC rf Qa k i ys Qm) (Q6 (by kernel_rfl))).widen (Wf:=((([(7,KS.auto),(3,KS.cells [] (Qe Qj (LM ys i.toNat {lo:=Qg.VV (rf.Qb.getD i.toNat La),hi:=Qg.VW (rf.Qb.getD i.toNat La)})))]):List (Nat×KS)).map (·.1))) (by simp) (Qy (by kernel_rfl))) (EI B rf Qa k i ys Qm)
      ⟨(Zf fun _=>by rfl),⟨(by exact S6 (z:=2) (k:=Lb i) (fun _=>rfl) (by first|omega|(rw[LS];omega)|(rw[LF];omega)) rfl rfl),⟨⟨by omega,by omega⟩,⟨⟨by omega,by omega,(Qs (z:=12) (fun _=>rfl) (by omega))⟩,trivial⟩⟩⟩⟩) (ex:=[3]) (by kernel_rfl) ⟨trivial,⟨(JX (t:=38) (fl:=(0,0)) (fun x=>List.all_eq_true.1 (by rfl))),⟨trivial,⟨trivial,⟨trivial,⟨trivial,⟨trivial,⟨trivial,⟨(JX (t:=38) (fl:=(0,0)) (fun x=>List.all_eq_true.1 (by rfl))),⟨trivial,⟨trivial,trivial⟩⟩⟩⟩⟩⟩⟩⟩⟩⟩⟩
    have hyes:=m4 (ps:=rf.Qb) (p:=Qa.getD k.toNat 0) i0 q0 (by rw[<-sF,<-hse];exact decide_eq_true q1);exact((ih0 _ (by omega)) (i+1) (LM ys i.toNat {lo:=Qg.VV (rf.Qb.getD i.toNat La),hi:=Qg.VW (rf.Qb.getD i.toNat La)}) rfl (by omega) (by(rw[hy];exact hyes))
     (GoE.landA okF hJ Qf (Q6 (by kernel_rfl)) (Qy (by kernel_rfl)) Xs (EH B rf Qa k i ys Qm)
     (by exact⟨(Zf fun _=>by rfl),⟨(QY (by omega) (by omega)),⟨rj3,⟨(bY q1),Vw⟩⟩⟩⟩) (by kernel_rfl) (by kernel_rfl) (fun l hl=>by cases hl <;> decide))).cast (by rfl) (by rfl) (by rfl)
   ·have hno:=Er (ps:=rf.Qb) (p:=Qa.getD k.toNat 0) i0 (by rw[<-sF,<-hse];exact decide_eq_false q1);exact((ih0 _ (by omega)) (i+1) (ys) rfl (by omega) (by(rw[hy];exact hno))
     (GoE.landA okF hJ Qf (Q6 (by kernel_rfl)) (Qy (by kernel_rfl)) Xs (EG B rf Qa k i ys Qm)
     ⟨(Zf fun _=>by rfl),⟨(QY (by omega) (by omega)),⟨(bZ q1),Vw⟩⟩⟩ (by kernel_rfl) (by kernel_rfl) (fun l hl=>by cases hl <;> decide))).cast (by rfl) (by rfl) (by rfl)
  ·exact(GoE.finK okF hJ Qf (Q6 (by kernel_rfl)) (Qy (by kernel_rfl)) Xs (EF B rf Qa k i ys Qm)
    ⟨(Zf fun _=>by rfl),⟨(X9 (Int.not_lt.1 q0)),trivial⟩⟩).cast (by rfl) (by(rw[hy,Bi (by omega)];rfl)) (by rfl)

theorem EJ(B:Lo)(rf:Ql)(Qa:List Int)(k:Int):let a:=List.map Y4 rf.Qb;let b:=Qe Qj a;CE.landA 8 (Qo YP (Q1 YP) J0 B 4 8 (P8 rf Qa k) (Ve rf Qa k) 8
 [] 0 [] []) [0,1,2,8,9] [(7,KS.auto),(3,KS.cells [] b)] [] []=some ⟨112,27,V6,[],.run,none,V5 rf Qa k (0) a,([7,3]:List Nat).zip (V4 rf Qa k (0) a),WK rf Qa k (0) a,
 [Q0 8 [] b b]⟩:=by intro a b;kernel_rfl
theorem Br(B:Lo)(rf:Ql)(Qa:List Int)(k:Int):let i:=OO.ret (.tuple #[]);let e:=QG YP 84;let d:=rf.Qb;let g:=Qe Qj (List.map Y4 d);let c:=OO.ret (.slice (some {block:=3,off:=0}) d.length 2);let b:=OO.ret (Value.func (Fn.func 112) #[] #[Qw 5 (SQ 0 (cA rf Qa)),Qw 5 (SQ 0 #[YI k])]);let a:=XE d (Qa.getD k.toNat 0);let h:=Qe Qj a;let f:=Fz.cs {k:=3,rs:=[],cs:=Qe Qj a};QO (Qo YP (Q1 YP) J0 B 16 1 (Qp YP 84 26 (([.agg (QF rf Qa).toArray,YI k]).map (Q2 0 4))) XW 1
 [(5,Qh.call (Lg 2) c ([]++(2,Xx)::Xa 3 [Obj.cells g 38]) 4 []),(10,Qh.call (Lg 5) b ([]++(5,Xx)::Xa 6 []) 6 []),(11,Qh.call (Lg 8) i ([(7,Obj.loop {state:=LoopState.ready,pending:=none,fn:=84,tmps:=(cB rf Qa k),params:=#[14],assign:=T4 e [1,1,0,1,0,0],body:=T4 e [1,1,0,1,0,1],defers:=6}),(3,Obj.cells h 38)]++(8,Xx)::Xa 9 []) 9 [7,3])] 0 [] []) [{k:=3,rs:=[],cs:=Qe Qj a}]=some (QC d.length f,
 [X8 (Fz.rs {k:=3,rs:=[],cs:=Qe Qj a}) h f,FJ YP B (P8 rf Qa k) (Ve rf Qa k) 8 i (([(7,Obj.loop {state:=LoopState.ready,pending:=none,fn:=84,tmps:=(cB rf Qa k),params:=#[14],assign:=T4 e [1,1,0,1,0,0],body:=T4 e [1,1,0,1,0,1],defers:=6}),(3,Obj.cells h 38)]++((8,Xx)::Xa (8+1) []))++Ve rf Qa k) 9 (Lg 8) [7,3],FJ YP B (cD rf Qa k) (SN rf Qa k) 5 b (([]++((5,Xx)::Xa (5+1) []))++SN rf Qa k) 6 (Lg 5) [],FJ YP B (P9 rf Qa k) (VL rf Qa k) 2 c (([]++((2,Xx)::Xa (2+1) [Obj.cells g 38]))++VL rf Qa k) 4 (Lg 2) []]):=by intro i e d g c b a h f;kernel_rfl
set_option maxHeartbeats 4000000 in
theorem Ic(rf:Ql)(Qa:List Int)(k:Int)(hn:rf.Qb.length<=4)(hl:Qa.length<=4)(k0:0<=k)(k1:k<4)(hp:∀j:Nat,0<=Qa.getD j 0/\Qa.getD j 0<=1000000){B:Lo}(hJ:∀w,B.has w->J0 w):EndsT YP B (Qp YP 84 26 (([.agg (QF rf Qa).toArray,YI k]).map (Q2 0 4))) (YK (XE rf.Qb (Qa.getD k.toNat 0))):=by
 have rj0:FJ YP B (P9 rf Qa k) (VL rf Qa k) 2 (OO.ret (.slice (some {block:=3,off:=0}) rf.Qb.length 2)) (([]++((2,Xx)::Xa (2+1) [Obj.cells (Qe Qj (List.map Y4 rf.Qb)) 38]))++VL rf Qa k) 4 (Lg 2) []:=by
  exact FinK.fjB ((sR rf Qa k hn hl k0 k1 hp hJ _) (0) (Ln rf.Qb.length {lo:=0,hi:=0}) rfl (by omega) (by exact ic)
   (GoE.landA okF hJ Qf (Q6 (by kernel_rfl)) (Qy (by kernel_rfl)) ((GoE.refl (P:=YP) (B:=B) (c0:=P9 rf Qa k) (Q6 (by kernel_rfl))).widen (Wf:=((([]):List (Nat×KS)).map (·.1))) (by simp) (Qy (by kernel_rfl))) (EO B rf Qa k)
   ⟨(by exact(V2 (by exact⟨(.simple rfl),⟨(.simple rfl),trivial⟩⟩) _)),⟨(fg (bytes:=16) (by kernel_rfl) (by omega) (by omega) (by omega)),trivial⟩⟩ (by kernel_rfl) (by kernel_rfl) (fun l hl=>by cases hl <;> decide))) (ex:=[]) (by kernel_rfl) (Vr _)
 have rj1:FJ YP B (cD rf Qa k) (SN rf Qa k) 5 (OO.ret (Value.func (Fn.func 112) #[] #[Qw 5 (SQ 0 #[QC rf.Qb.length (Qe Qi rf.Qb),YI rf.Qc,YI rf.Qd,YI (Qa.getD 0 0),YI (Qa.getD 1 0),YI (Qa.getD 2 0),YI (Qa.getD 3 0)]),Qw 5 (SQ 0 #[YI k])])) (([]++((5,Xx)::Xa (5+1) []))++SN rf Qa k) 6 (Lg 5) []:=by
  exact FinK.fjB (GoE.finK okF hJ Qf (Q6 (by kernel_rfl)) (Qy (by kernel_rfl)) ((GoE.refl (P:=YP) (B:=B) (c0:=cD rf Qa k) (Q6 (by kernel_rfl))).widen (Wf:=((([]):List (Nat×KS)).map (·.1))) (by simp) (Qy (by kernel_rfl))) (EK B rf Qa k)
   ⟨(Gp (by kernel_rfl)),⟨(dv (by kernel_rfl)),trivial⟩⟩) (ex:=[3]) (by kernel_rfl) ⟨trivial,⟨trivial,⟨(JX (t:=38) (fl:=(0,0)) (fun x=>List.all_eq_true.1 (by rfl))),⟨trivial,⟨trivial,trivial⟩⟩⟩⟩⟩
 have rj2:FJ YP B (P8 rf Qa k) (Ve rf Qa k) 8 (OO.ret (.tuple #[])) (([(7,Obj.loop {state:=LoopState.ready,pending:=none,fn:=84,tmps:=#[.agg #[Qw 0 (QC rf.Qb.length (Qe Qi rf.Qb)),YI rf.Qc,YI rf.Qd,YI (Qa.getD 0 0),YI (Qa.getD 1 0),YI (Qa.getD 2 0),YI (Qa.getD 3 0)],YI k,pA 1 0,.tuple #[],.slice none 0 0,pA 4 0,.tuple #[],pA 1 0,pA 1 0,Qw 0 (QC rf.Qb.length (Qe Qi rf.Qb)),.slice (some {block:=3,off:=0}) rf.Qb.length 2,.agg #[Qw 0 (QC rf.Qb.length (Qe Qi rf.Qb)),YI rf.Qc,YI rf.Qd,YI (Qa.getD 0 0),YI (Qa.getD 1 0),YI (Qa.getD 2 0),YI (Qa.getD 3 0)],YI k,Value.func (Fn.func 112) #[] #[Qw 5 (SQ 0 #[QC rf.Qb.length (Qe Qi rf.Qb),YI rf.Qc,YI rf.Qd,YI (Qa.getD 0 0),YI (Qa.getD 1 0),YI (Qa.getD 2 0),YI (Qa.getD 3 0)]),Qw 5 (SQ 0 #[YI k])],.tuple #[],.tuple #[],.tuple #[],.tuple #[],.tuple #[],.tuple #[],.tuple #[],.tuple #[],.tuple #[],.tuple #[],.tuple #[],.tuple #[]],params:=#[14],assign:=T4 (QG YP 84) [1,1,0,1,0,0],body:=T4 (QG YP 84) [1,1,0,1,0,1],defers:=6}),(3,Obj.cells (Qe Qj (XE rf.Qb (Qa.getD k.toNat 0))) 38)]++((8,Xx)::Xa (8+1) []))++Ve rf Qa k) 9 (Lg 8) [7,3]:=by
  exact FinK.fjB ((sQ rf Qa k hn hl k0 k1 hp hJ _) (0) (List.map Y4 rf.Qb) rfl (by omega) (by exact G8)
   (GoE.landA okF hJ Qf (Q6 (by kernel_rfl)) (Qy (by kernel_rfl)) ((GoE.refl (P:=YP) (B:=B) (c0:=P8 rf Qa k) (Q6 (by kernel_rfl))).widen (Wf:=((([(7,KS.auto),(3,KS.cells [] (Qe Qj (List.map Y4 rf.Qb)))]):List (Nat×KS)).map (·.1))) (by simp) (Qy (by kernel_rfl))) (EJ B rf Qa k)
   ⟨(Zf fun _=>by rfl),trivial⟩ (by kernel_rfl) (by kernel_rfl) (fun l hl=>by cases hl <;> decide))) (ex:=[3]) (by kernel_rfl) ⟨trivial,⟨trivial,⟨trivial,⟨trivial,⟨trivial,⟨(JX (t:=38) (fl:=(0,0)) (fun x=>List.all_eq_true.1 (by rfl))),⟨trivial,⟨trivial,trivial⟩⟩⟩⟩⟩⟩⟩⟩
 exact(GoE.endsT okF hJ Qf GoE.start (Br B rf Qa k)
  ⟨(Xc (fun x=>List.all_eq_true.1 (by rfl))),⟨rj2,⟨rj1,⟨rj0,trivial⟩⟩⟩⟩).cast (by exact fG rfl (by rw[XE,Xk];omega))
theorem Bs(rf:Ql)(Qa:List Int)(k:Int)(hn:rf.Qb.length<=4)(hl:Qa.length<=4)(k0:0<=k)(k1:k<4)(hp:∀j:Nat,0<=Qa.getD j 0/\Qa.getD j 0<=1000000):Qn YP J0 84 #[.agg (QF rf Qa).toArray,YI k] (YK (XE rf.Qb (Qa.getD k.toNat 0))):=
 Xb (ts:=[.agg (QF rf Qa).toArray,YI k]) XZ (c0:=Qp YP 84 26 (([.agg (QF rf Qa).toArray,YI k]).map (Q2 0 4))) (by kernel_rfl) (by kernel_rfl) fun B hJ=>Ic rf Qa k hn hl k0 k1 hp hJ
end
end Go.Proofs.Ytncjjangllkokaa

namespace Go.Proofs.Ytncjjangllkokaa
open Go Go.CE Go.RowKit
def Xn(a b:Int)(g:Int->Int):Int:=vw ((Yq a b).map g)
theorem PO{a b:Int}{g:Int->Int}(h:b<=a):Xn a b g=0:=by
 unfold Xn;rw[lu h];rfl
theorem vv:∀(l m:List Int),vw (l++m)=vw l+vw m
 |[],m=>by simp[vw]
 |x::l,m=>by simp only[List.cons_append,vw,vv l m];omega
theorem Vb{i:Int}{g:Int->Int}(h:0<=i):Xn 0 (i+1) g=Xn 0 i g+g i:=by
 have e:Yq 0 (i+1)=Yq 0 i++[i]:=by
  unfold Yq;rw[show(i+1-0).toNat=(i-0).toNat+1 by omega,List.range_succ,List.map_append];congr 1;simp;omega
 unfold Xn;rw[e,List.map_append,vv];simp[vw]
theorem Kr{g:Int->Int}{K:Int}:∀(k:Nat),(∀m:Int,0<=m->m<k->0<=g m/\g m<=K)->0<=Xn 0 k g/\Xn 0 k g<=K*k
 |0,_=>by rw[PO (by omega)];omega
 |k+1,h=>by
  have ih:=Kr k fun m h0 h1=>h m h0 (by omega)
  have h2:=h k (by omega) (by omega);rw[show((k+1:Nat):Int)=(k:Int)+1 by omega,Vb (by omega),Int.mul_add,Int.mul_one];omega
structure F4 where
 a:Int
 b:Int
 c:Int
 d:Int
deriving Inhabited
def F4.at(f:F4)(k:Int):Int:=Qk [f.a,f.b,f.c,f.d] k.toNat
def F4.sum(f:F4):Int:=f.a+f.b+f.c+f.d
def OM(g:Int->Int):F4:=⟨g 0,g 1,g 2,g 3⟩
theorem qn{i:Int}(h0:0<=i)(h:i<4):i=0\/i=1\/i=2\/i=3:=by omega
def R5(f:F4):Prop:=(0<=f.a/\0<=f.b/\0<=f.c/\0<=f.d)/\f.sum<=100000000000
theorem YG{f:F4}(hf:R5 f){i:Int}(h0:0<=i)(h:i<4):0<=f.at i/\f.at i<=f.sum/\f.sum<=100000000000:=by
 obtain⟨⟨h1,h2,h3,h4⟩,h5⟩:=hf;have e:f.sum=f.a+f.b+f.c+f.d:=rfl;have h5':=h5;rw[e]at h5' ⊢;rcases qn h0 h with rfl|rfl|rfl|rfl
 ·have:f.at 0=f.a:=rfl;omega
 ·have:f.at 1=f.b:=rfl;omega
 ·have:f.at 2=f.c:=rfl;omega
 ·have:f.at 3=f.d:=rfl;omega
abbrev dh(ps:List Qg)(k:Int):Qg:=ps.getD k.toNat La
abbrev nth(xs:List Int)(k:Int):Int:=xs.getD k.toNat La
def Sp(ps:List Qg):Prop:=ps.length<=4/\∀k:Int,0<=k->k<ps.length->(0<=(dh ps k).room/\(dh ps k).room<=1000000)/\(0<=(dh ps k).Xh/\(dh ps k).Xh<=1000)/\Pk ps.length (dh ps k).Zq=true/\(dh ps k).Zq≠k
def KD(n:Nat)(xs:List Int)(m:Int):Prop:=xs.length=n/\∀k:Int,0<=k->k<n->0<=nth xs k/\nth xs k<=m
def Wo(gs:List Int)(ps:List Qg)(f:F4)(k:Int):Int:=Mr (dh ps k).room (f.at k) (nth gs k)
def XK(gs:List Int)(ps:List Qg)(f:F4)(i j:Int):Int:=if j<i then f.at j+Wo gs ps f j else f.at j
def aF(gs:List Int)(ps:List Qg)(f:F4):F4:=OM (XK gs ps f ps.length)
def Pp(ps:List Qg)(b:F4)(k:Int):Int:=(b.at k*(dh ps k).Xh).tdiv 1000
def V1(ps:List Qg)(b:F4)(i j:Int):Int:=b.at j-(if j<i then Pp ps b j else 0)+Xn 0 i (fun m=>if(dh ps m).Zq=j then Pp ps b m else 0)
def qM(ps:List Qg)(b:F4):F4:=OM (V1 ps b ps.length)
def ZZ(ps:List Qg)(b:F4)(j:Int):Int:=if(dh ps j).Zq= -1 then Pp ps b j else 0
def Z2(ts:List Int)(b:F4)(k:Int):Int:=if nth ts k<b.at k then nth ts k else b.at k
def aD(ts:List Int)(b:F4)(i j:Int):Int:=if j<i then b.at j-Z2 ts b j else b.at j
def tkE(ts:List Int)(ps:List Qg)(b:F4):F4:=OM (aD ts b ps.length)
def Q3(gs ts:List Int)(ps:List Qg)(f:F4):F4:=tkE ts ps (qM ps (aF gs ps f))
theorem fD{g:Int->Int}{i:Int}(h0:0<=i)(h:i<4):Qk [g 0,g 1,g 2,g 3] i.toNat=g i:=by
 rcases qn h0 h with rfl|rfl|rfl|rfl <;> rfl
theorem Qay{gs:List Int}{ps:List Qg}{f:F4}{i:Int}:XK gs ps f i i=f.at i:=by
 unfold XK;rw[if_neg (by omega)]
theorem Mt{gs:List Int}{ps:List Qg}{f:F4}{i:Int}{j:Nat}:(if i.toNat=j then f.at i+Wo gs ps f i else XK gs ps f i j)=XK gs ps f (i+1) j\/i<0:=by
 by_cases h0:0<=i
 ·refine .inl ?_;unfold XK;by_cases h:i.toNat=j
  ·have e1:i=(j:Int):=by omega
   rw[if_pos h,if_pos (by omega),e1]
  ·rw[if_neg h];by_cases h2:(j:Int)<i
   ·rw[if_pos h2,if_pos (by omega)]
   ·rw[if_neg h2,if_neg (by omega)]
 ·exact .inr (by omega)
theorem lC{gs:List Int}{ps:List Qg}{f:F4}{i:Int}{j:Nat}(h0:0<=i):(if i.toNat=j then f.at i+Wo gs ps f i else XK gs ps f i j)=XK gs ps f (i+1) j:=Mt.resolve_right (by omega)
theorem MN{room s t:Int}{w:Int}(ht:t=w.tdiv 1000)(h:0<=t):(if(if room-s > 0 then room-s else 0)<t then(if room-s > 0 then room-s else 0)else t)=if room<=s then 0 else if t<room-s then t else room-s:=by
 by_cases h1:room<=s
 ·rw[if_pos h1,if_neg (show ¬room-s > 0 by omega)];by_cases h2:0<t
  ·rw[if_pos h2]
  ·rw[if_neg h2];omega
 ·rw[if_neg h1,if_pos (show room-s > 0 by omega)];by_cases h2:room-s<t
  ·rw[if_pos h2,if_neg (by omega)]
  ·by_cases h3:t<room-s
   ·rw[if_neg h2,if_pos h3]
   ·rw[if_neg h2,if_neg h3];omega
theorem lP{gs:List Int}{ps:List Qg}{f:F4}{i:Int}(hp:Sp ps)(hg:KD ps.length gs 2000)(hf:R5 f)(h0:0<=i)(h:i<ps.length):0<=Wo gs ps f i/\Wo gs ps f i<=1000000:=by
 have h1:=hp.2 i h0 h;have h2:=hg.2 i h0 h;have ha:=YG hf h0 (by have:=hp.1;omega);have hm:=Sq (a:=f.at i) (r:=nth gs i) (by omega) (by omega);unfold Wo Mr;split
 ·omega
 ·split <;> omega
theorem Tr{ps:List Qg}{b:F4}{i j:Int}(h:0<=i):V1 ps b (i+1) j=V1 ps b i j-(if j=i then Pp ps b i else 0)+(if(dh ps i).Zq=j then Pp ps b i else 0):=by
 unfold V1;rw[Vb h];by_cases e:j=i
 ·subst e;rw[if_pos (show j<j+1 by omega),if_neg (show ¬j<j by omega),if_pos rfl];omega
 ·rw[if_neg e];by_cases e2:j<i
  ·rw[if_pos e2,if_pos (by omega)];omega
  ·rw[if_neg e2,if_neg (by omega)];omega
theorem ky{ps:List Qg}{b:F4}{j:Int}(h:0<=j):V1 ps b 0 j=b.at j:=by
 unfold V1;rw[if_neg (by omega),PO (by omega)];omega
theorem OL{ts:List Int}{b:F4}{i:Int}:aD ts b i i=b.at i:=by
 unfold aD;rw[if_neg (by omega)]
theorem lx{ts:List Int}{b:F4}{i:Int}{j:Nat}(h0:0<=i):(if i.toNat=j then b.at i-Z2 ts b i else aD ts b i j)=aD ts b (i+1) j:=by
 unfold aD;by_cases h:i.toNat=j
 ·have e1:i=(j:Int):=by omega
  rw[if_pos h,if_pos (by omega),e1]
 ·rw[if_neg h];by_cases h2:(j:Int)<i
  ·rw[if_pos h2,if_pos (by omega)]
  ·rw[if_neg h2,if_neg (by omega)]
theorem lH{ps:List Qg}{b:F4}{i:Int}{j:Nat}(h0:0<=i)(h:(dh ps i).Zq= -1):(if i.toNat=j then V1 ps b i i-Pp ps b i else V1 ps b i j)=V1 ps b (i+1) j:=by
 rw[Tr h0,h,if_neg (show ¬(-1:Int)=(j:Int)by omega)];by_cases h1:i.toNat=j
 ·have e1:i=(j:Int):=by omega
  rw[if_pos h1,if_pos (by omega),e1];omega
 ·rw[if_neg h1,if_neg (by omega)];omega
theorem lI{ps:List Qg}{b:F4}{i v:Int}{j:Nat}(h0:0<=i)(hv:(dh ps i).Zq=v)(v0:0<=v)(hn:v≠i):(if v.toNat=j then V1 ps b i v+Pp ps b i else if i.toNat=j then V1 ps b i i-Pp ps b i else V1 ps b i j)=V1 ps b (i+1) j:=by
 rw[Tr h0,hv];by_cases h1:v.toNat=j
 ·have e1:v=(j:Int):=by omega
  rw[if_pos h1,if_neg (show ¬(j:Int)=i by omega),if_pos e1,e1];omega
 ·rw[if_neg h1,if_neg (show ¬v=(j:Int)by omega)];by_cases h2:i.toNat=j
  ·have e1:i=(j:Int):=by omega
   rw[if_pos h2,if_pos (by omega),e1];omega
  ·rw[if_neg h2,if_neg (by omega)];omega
theorem de{ps:List Qg}{b:F4}{i:Int}(hp:Sp ps)(hf:R5 b)(h0:0<=i)(h:i<ps.length):0<=Pp ps b i/\Pp ps b i<=b.at i:=by
 have h1:=hp.2 i h0 h;have ha:=YG hf h0 (by have:=hp.1;omega);have e0:0<=b.at i*(dh ps i).Xh:=Int.mul_nonneg ha.1 h1.2.1.1;have e1:b.at i*(dh ps i).Xh<=b.at i*1000:=Int.mul_le_mul_of_nonneg_left h1.2.1.2 ha.1;have e2:(b.at i*(dh ps i).Xh).tdiv 1000=(b.at i*(dh ps i).Xh) / 1000:=LO e0;unfold Pp;rw[e2];omega
theorem ja{ps:List Qg}{b:F4}{i j:Int}(hp:Sp ps)(hf:R5 b)(h0:0<=i)(h:i<=ps.length)(j0:0<=j)(j1:j<4):0<=V1 ps b i j/\V1 ps b i j<=500000000000:=by
 have ha:=YG hf j0 j1;have hs:=Kr (g:=fun m=>if(dh ps m).Zq=j then Pp ps b m else 0) (K:=100000000000) i.toNat fun m m0 m1=>by
  have h9:=hp.1;have:=de hp hf (i:=m) m0 (by omega);have hm:=YG hf (i:=m) m0 (by omega);split <;> omega
 rw[show((i.toNat:Nat):Int)=i by omega]at hs;have h4:=hp.1;unfold V1;split
 ·have:=de hp hf j0 (by omega);omega
 ·omega
theorem ft{ts:List Int}{b:F4}{n:Nat}{m i:Int}(ht:KD n ts m)(hf:R5 b)(h0:0<=i)(h:i<n)(h4:n<=4):0<=Z2 ts b i/\Z2 ts b i<=b.at i/\Z2 ts b i<=m:=by
 have ha:=YG hf h0 (by omega);have h1:=ht.2 i h0 h;unfold Z2;split <;> omega
theorem DY{gs:List Int}{ps:List Qg}{f:F4}{i j:Int}(hp:Sp ps)(hg:KD ps.length gs 2000)(hf:R5 f)(h:i<=ps.length)(j0:0<=j)(j1:j<4):0<=XK gs ps f i j/\XK gs ps f i j<=f.at j+1000000:=by
 have ha:=YG hf j0 j1;unfold XK;split
 ·have:=lP hp hg hf j0 (show j<ps.length by omega);omega
 ·omega
theorem Ms{gs:List Int}{ps:List Qg}{f:F4}(hp:Sp ps)(hg:KD ps.length gs 2000)(hf:R5 f):(0<=(aF gs ps f).a/\0<=(aF gs ps f).b/\0<=(aF gs ps f).c/\0<=(aF gs ps f).d)/\(aF gs ps f).sum<=f.sum+4000000:=by
 have h0:=DY hp hg hf (LR _) (j:=0) (by omega) (by omega);have h1:=DY hp hg hf (LR _) (j:=1) (by omega) (by omega);have h2:=DY hp hg hf (LR _) (j:=2) (by omega) (by omega);have h3:=DY hp hg hf (LR _) (j:=3) (by omega) (by omega);refine⟨⟨h0.1,h1.1,h2.1,h3.1⟩, ?_⟩;show XK gs ps f ps.length 0+XK gs ps f ps.length 1+XK gs ps f ps.length 2+XK gs ps f ps.length 3<=f.a+f.b+f.c+f.d+4000000;have e0:f.at 0=f.a:=rfl;have e1:f.at 1=f.b:=rfl;have e2:f.at 2=f.c:=rfl;have e3:f.at 3=f.d:=rfl;omega
def drS(ps:List Qg)(b:F4)(i:Int):Int:=V1 ps b i 0+V1 ps b i 1+V1 ps b i 2+V1 ps b i 3
theorem M9{ps:List Qg}{b:F4}{i:Int}(hp:Sp ps)(h0:0<=i)(h:i<ps.length):drS ps b (i+1)=drS ps b i-ZZ ps b i:=by
 have h1:=hp.1;have h2:=(hp.2 i h0 h).2.2.1;unfold drS ZZ;rw[Tr h0,Tr h0,Tr h0,Tr h0];simp only[Pk,Bool.or_eq_true,decide_eq_true_iff,RY]at h2;generalize (dh ps i).Zq=v at *;generalize Pp ps b i=w at *;have hi:=qn h0 (show i<4 by omega);by_cases hv:v= -1
 ·subst hv;rcases hi with rfl|rfl|rfl|rfl <;> simp <;> omega
 ·have ZX:=qn (show 0<=v by omega) (show v<4 by omega);rcases hi with rfl|rfl|rfl|rfl <;> rcases ZX with rfl|rfl|rfl|rfl <;> simp <;> omega
theorem Ea{ps:List Qg}{b:F4}(hp:Sp ps):∀k:Nat,k<=ps.length->drS ps b k=b.sum-Xn 0 k (ZZ ps b)
 |0,_=>by
  rw[show((0:Nat):Int)=0 from rfl,PO (by omega)];unfold drS;rw[ky (by omega),ky (by omega),ky (by omega),ky (by omega)];have e:b.sum=b.at 0+b.at 1+b.at 2+b.at 3:=rfl;omega
 |k+1,h=>by
  rw[show((k+1:Nat):Int)=(k:Int)+1 by omega,M9 hp (by omega) (by omega),Ea hp k (by omega),Vb (by omega)];omega
end Go.Proofs.Ytncjjangllkokaa
